import Derived.Deep.DrawnRows
import Derived.Deep.RegionWith
import Derived.Test.YtghidgcekieljaaGreatXARShort
namespace Go.Proofs.YtghidgcekieljaaGreat
open Go.RowKit Go.Proofs.Tryz
set_option maxRecDepth 100000
set_option maxHeartbeats 8000000
section
attribute [local go_sem ↓] uz1
attribute [local go_sem] uz2
section
theorem Sl.some{w:World}{p:Option Addr}{x:Nat}(h:Sl w p x)(h0:0<dl x):∃c,p=.some ⟨c,0,.none⟩∧Pre (c+1) w.heap.size∧∀i,i<dl x→(blk w c)[i]? = .some (.int .u32 ((dg x i:Nat):Int)):=by
 obtain⟨c,h1,h2,_⟩:=h 0 h0;refine⟨c,h1,h2,fun i hi=>?_⟩;obtain⟨c',h3,_,h4⟩:=h i hi;rw[h1]at h3
 cases h3
 exact h4
theorem copyD(ty:TypeId)(w:World)(b N c k c' X:Nat)(p:Option Addr)(hS:Sl w p X)(hk:dl X=k)(h0:0<k)(hkN:k≤N)(hb:blk w b=nd N 0)(hf:frz w b=(0,0)):
 (Builtin.copy_ #[29,29] ty #[.slice (some ⟨b,0,none⟩) N c,.slice p k c']).run prog w=.ok (goInt (k:Int)) (setBlk w b (nd N X)):=by
 obtain⟨a,rfl,_,hc⟩:=hS.some (by omega);rw[hk]at hc
 have hl:((List.range k).map fun i=>Value.int .u32 ((dg X i:Nat):Int)).length=k:=by simp
 have hadd:∀j,(⟨a,0,none⟩:Addr).add j=⟨a,0+j,none⟩:=fun j=>by unfold Addr.add;split <;> simp_all
 rw[run_copy_cells w 29 29 ty 61 b 0 N c ⟨a,0,none⟩ k c' ((List.range k).map fun i=>Value.int .u32 ((dg X i:Nat):Int)) underlying29 (by kernel_rfl) (by rw[hl];exact(Nat.min_eq_left hkN).symm)
  (fun j v hv=>?_) (fun j hj=>?_) (fun j hj=>?_) (fun v hv=>?_),setCells_setBlk _ _ _ _ (by rw[hb,nd_size];omega)]
 ·rw[hl];refine congrArg (Result.ok _) (congrArg (setBlk w b) ?_)
  apply Array.ext_getElem?
  intro j;rw[setL_get,hl,hb,nd_size]
  by_cases hj:j<N
  ·rw[nd_get N X j hj]
   by_cases hjk:j<k
   ·rw[if_pos ⟨by omega,by omega,hj⟩,Nat.sub_zero];simp[hjk]
   ·rw[if_neg (by omega),nd_get N 0 j hj,dg_zero,dg_beyond X j (by omega)]
  ·rw[if_neg (by omega),Array.getElem?_eq_none (by rw[nd_size];omega),Array.getElem?_eq_none (by rw[nd_size];omega)]
 ·have hj:j<k:=by
   by_cases h:j<k
   ·exact h
   ·rw[List.getElem?_eq_none (by rw[hl];omega)]at hv;cases hv
  have hv':v=.int .u32 ((dg X j:Nat):Int):=by
   simp[hj]at hv;exact hv.symm
  rw[hadd,Nat.zero_add,cell_blk,hv'];exact hc j hj
 ·rw[hl]at hj;rw[Nat.zero_add,cell_blk,hb,nd_get N 0 j (by omega)]
  rfl
 ·exact frozen_frz _ _ _ hf
 ·simp only[List.mem_map]at hv;obtain⟨i,_,rfl⟩:=hv
  rfl
theorem rdiv_less(x m n n':Nat)(p q:Option Addr)(w:World)(hp:Sl w p x)(hq:Sl w q m)(hx:dl x≤1000)(hm:dl m≤1000)(h:x<m):
 Calls prog 43 #[.slice p (dl x) n,.slice q (dl m) n'] w (Nm2 (x/m) (x%m) w):=by
 have hc:=rcmp_any x m n n' p q w hp hq (by omega) (by omega);rw[show cmpZ x m = -1 by unfold cmpZ;rw[if_pos h]]at hc;rw[Nat.div_eq_of_lt h,Nat.mod_eq_of_lt h];have HC:Hu (Cg 14 #[.slice p (dl x) n,.slice q (dl m) n'] w (.int .i64 (-1))):=fun _=>hc;have HP:Hid (Sl w p x):=hp;obtain⟨X,hX⟩:=exl (dl x);obtain⟨K,hK⟩:=exl (dl m);rw[hX,hK]at HC ⊢;have HX:Hu (dl x=X):=fun _=>hX
 go_enter func43,ntmps43
 go_wp2_with (go_at_call 14;refine(HC.out ()).mono ?_;rintro e w' ⟨rfl,g,rfl⟩)
 go_ret2
 exact⟨none,0,p,n,by rw[dl_zero,HX.out ()];rfl,Sl.zero _ _,HP.out.gr ⟨g,rfl⟩,⟨g,rfl⟩⟩
theorem rdiv_one(x m n n':Nat)(p q:Option Addr)(w:World)(hp:Sl w p x)(hq:Sl w q m)(hx:dl x≤1000)(hm:dl m=1)(h0:0<m)(h:m≤x):
 Calls prog 43 #[.slice p (dl x) n,.slice q (dl m) n'] w (Nm2 (x/m) (x%m) w):=by
 have hc:=rcmp_any x m n n' p q w hp hq (by omega) (by omega)
 have hz:(0:Int)≤cmpZ x m:=by unfold cmpZ;rw[if_neg (by omega)];split <;> decide
 obtain⟨z,hz'⟩:∃z,cmpZ x m=z:=⟨_,rfl⟩;rw[hz']at hc hz
 have z1:¬z<0:=by omega
 have z2:=decide_eq_false z1;obtain⟨c,rfl,hcp,hcd⟩:=hq.some (by omega)
 have hml:m<4294967296:=by have:=dl_lt m;rw[hm,pq_one]at this;exact this
 have hd0:dg m 0=m:=by unfold dg;rw[pq_zero,Nat.div_one,Nat.mod_eq_of_lt hml]
 have gc:=hcd 0 (by omega);rw[hd0]at gc
 have gm:w.cell? ⟨c,0,none⟩=some (.int .u32 (m:Int)):=by rw[cell_blk];exact gc
 have HS:Hid _:=fun w' g=>short_any x m n p w' (hp.gr g) (by omega) h0 hml;rw[hm]at hc ⊢;have HC:Hu (Cg 14 #[.slice p (dl x) n,.slice (some ⟨c,0,none⟩) 1 n'] w (.int .i64 z)):=fun _=>hc;obtain⟨X,hX⟩:=exl (dl x);rw[hX]at HC HS ⊢
 go_enter func43,ntmps43
 go_wp2_with (first
  | (go_at_call 14;refine(HC.out ()).mono ?_;rintro e w' ⟨rfl,g,rfl⟩)
  | (go_at_call 61;refine(HS.out _ ⟨g,rfl⟩).mono ?_;rintro e w' ⟨p1,n1,p2,n2,rfl,S1,S2,g2,rfl⟩))
 go_ret2
 exact⟨p1,n1,p2,n2,rfl,by rw[←gro_gro];exact S1,by rw[←gro_gro];exact S2,grA⟩
structure DW(w v:World)(b b2 c K V L Lq Z Q:Nat):Prop where
 g:Gr w v
 hb:blk v b=nd L Z
 fb:frz v b=(0,0)
 pb:Pre (b+1) v.heap.size
 h2:blk v b2=nd Lq Q
 f2:frz v b2=(0,0)
 p2:Pre (b2+1) v.heap.size
 hc:∀i,i<K→(blk v c)[i]? = some (.int .u32 ((dg V i:Nat):Int))
 pc:Pre (c+1) v.heap.size
 qb:w.heap.size≤b
 qc:c<b
 q2:b<b2
theorem DW.gr{w v v':World}{b b2 c K V L Lq Z Q:Nat}(h:DW w v b b2 c K V L Lq Z Q)(k:Gr v v'):DW w v' b b2 c K V L Lq Z Q:=by
 have hs:=k.below.size;have pr:∀{x},Pre x v.heap.size→Pre x v'.heap.size:=fun h=>Nat.le_trans h hs
 exact⟨h.g.trans k,by rw[k.blk _ h.pb];exact h.hb,by rw[k.frz _ h.pb];exact h.fb,pr h.pb,by rw[k.blk _ h.p2];exact h.h2,by rw[k.frz _ h.p2];exact h.f2,pr h.p2,
  fun i hi=>by rw[k.blk _ h.pc];exact h.hc i hi,pr h.pc,h.qb,h.qc,h.q2⟩
theorem DW.setB{w v:World}{b b2 c K V L Lq Z Q:Nat}(h:DW w v b b2 c K V L Lq Z Q)(hL:0<L)(Y:Nat):DW w (setBlk v b (nd L Y)) b b2 c K V L Lq Y Q:=by
 have q:=h.qb;have q1:=h.qc;have q3:=h.q2
 have pr:∀{x},Pre x v.heap.size→Pre x (setBlk v b (nd L Y)).heap.size:=fun h=>by rw[size_setBlk];exact h
 exact⟨gr_setNew h.g (by omega),blk_setBlk _ _ _ (by rw[h.hb,nd_size];exact hL),by rw[frz_setBlk];exact h.fb,pr h.pb,by rw[blk_other _ _ _ _ (by omega)];exact h.h2,by rw[frz_setBlk];exact h.f2,pr h.p2,
  fun i hi=>by rw[blk_other _ _ _ _ (by omega)];exact h.hc i hi,pr h.pc,h.qb,h.qc,h.q2⟩
theorem DW.set2{w v:World}{b b2 c K V L Lq Z Q:Nat}(h:DW w v b b2 c K V L Lq Z Q)(hL:0<Lq)(Y:Nat):DW w (setBlk v b2 (nd Lq Y)) b b2 c K V L Lq Z Y:=by
 have q:=h.qb;have q1:=h.qc;have q3:=h.q2
 have pr:∀{x},Pre x v.heap.size→Pre x (setBlk v b2 (nd Lq Y)).heap.size:=fun h=>by rw[size_setBlk];exact h
 exact⟨gr_setNew h.g (by omega),by rw[blk_other _ _ _ _ (by omega)];exact h.hb,by rw[frz_setBlk];exact h.fb,pr h.pb,blk_setBlk _ _ _ (by rw[h.h2,nd_size];exact hL),by rw[frz_setBlk];exact h.f2,pr h.p2,
  fun i hi=>by rw[blk_other _ _ _ _ (by omega)];exact h.hc i hi,pr h.pc,h.qb,h.qc,h.q2⟩
theorem DW.start{w W:World}{b c K V L Q Y:Nat}{t:TypeId}(g:Gr w W)(hb:blk W b=nd L 0)(fb:frz W b=(0,0))(pb:Pre (b+1) W.heap.size)(hc:∀i,i<K→(blk W c)[i]? = some (.int .u32 ((dg V i:Nat):Int)))(pc:Pre (c+1) W.heap.size)(qb:w.heap.size≤b)(qc:c<b)(hL:0<L):
 DW w ((setBlk W b (nd L Y)).alloc (.cells (nd Q 0) t)) b W.heap.size c K V L Q Y 0:=by
 have hsz:(setBlk W b (nd L Y)).heap.size=W.heap.size:=size_setBlk _ _ _
 have pb':Pre (b+1) (setBlk W b (nd L Y)).heap.size:=by rw[hsz];exact pb
 have pc':Pre (c+1) (setBlk W b (nd L Y)).heap.size:=by rw[hsz];exact pc
 have ha:∀{x},Pre x (setBlk W b (nd L Y)).heap.size→Pre x ((setBlk W b (nd L Y)).alloc (.cells (nd Q 0) t)).heap.size:=fun h=>Nat.le_trans h ((Gr.refl _).alloc _).below.size
 refine⟨(gr_setNew g qb).alloc _,?_,?_,ha pb',blk_alloc_at _ _ _ _ _ hsz.symm,frz_alloc_at _ _ _ _ _ hsz.symm,?_,fun i hi=>?_,ha pc',qb,qc,pb⟩
 ·rw[blk_alloc _ _ _ pb',blk_setBlk _ _ _ (by rw[hb,nd_size];exact hL)]
 ·rw[frz_alloc _ _ _ pb',frz_setBlk];exact fb
 ·show W.heap.size+1≤_
  simp[hsz]
 ·rw[blk_alloc _ _ _ pc',blk_other _ _ _ _ (by omega)];exact hc i hi
end
section
attribute [local go_sem ↓] Go.wp_at_zero Go.wp_at_succ
theorem norm_of(m n s:Nat)(hK:dl m=n+2)(hs:s=32*(n+2)-bl m):s<32∧m*2^s<pq (n+2)∧2147483648≤dg (m*2^s) (n+1)∧dl (m*2^s)=n+2∧bl m+s=32*(n+2):=by
 have hb:(bl m+31)/32=n+2:=hK;have h1:=(bl_le m (bl m)).1 (Nat.le_refl _)
 have h2:2^(bl m-1)≤m:=by
  by_cases hc:m<2^(bl m-1)
  ·have:=(bl_le m (bl m-1)).2 hc
   omega
  ·omega
 have hp:=Nat.two_pow_pos s
 have hss:bl m+s=32*(n+2):=by omega
 have hlt:m*2^s<pq (n+2):=by
  have e:pq (n+2)=2^bl m*2^s:=by unfold pq;rw[←Nat.pow_add,hss]
  rw[e];exact Nat.mul_lt_mul_of_pos_right h1 hp
 have htop:2147483648≤dg (m*2^s) (n+1):=by
  rw[←top_one32 _ (n+1) hlt,Nat.le_div_iff_mul_le (pq_pos _)]
  have e:2147483648*pq (n+1)=2^(bl m-1)*2^s:=by
   unfold pq;rw[←Nat.pow_add,show bl m-1+s=31+32*(n+1) by omega,Nat.pow_add]
  rw[e];exact Nat.mul_le_mul_right _ h2
 exact⟨by omega,hlt,htop,dl_top _ (n+1) hlt (by omega),hss⟩
theorem row_start(x V s n X:Nat)(hx:x<pq X)(hs:s<32)(hV:2147483648≤dg V (n+1))(hVl:V<pq (n+2))(hXn:n+2≤X):x*2^s<V*pq (X+1-(n+2))∧x*2^s<pq (X+1):=by
 have hp:=Nat.two_pow_pos s
 have h6:2^s≤2147483648:=by
  have:=Nat.pow_le_pow_right (n:=2) (by decide) (show s≤31 by omega);exact this
 have h4:2147483648*pq (n+1)≤V:=by
  have h5:=Nat.div_mul_le_self V (pq (n+1));rw[top_one32 V (n+1) hVl]at h5;exact Nat.le_trans (Nat.mul_le_mul_right _ hV) h5
 have h7:=Nat.mul_lt_mul_of_pos_right hx hp;have h8:pq X*2^s≤pq X*2147483648:=Nat.mul_le_mul_left _ h6;obtain⟨r,rfl⟩:∃r,X=n+1+r:=⟨X-(n+1),by omega⟩
 refine⟨?_,?_⟩
 ·rw[show n+1+r+1-(n+2)=r by omega];have h9:2147483648*pq (n+1)*pq r≤V*pq r:=Nat.mul_le_mul_right _ h4
  have e:pq (n+1+r)*2147483648=2147483648*pq (n+1)*pq r:=by rw[pq_add (n+1) r];grind
  omega
 ·rw[pq_succ (n+1+r)]
  omega
theorem q_next32(X V D H i t Z:Nat)(h:X=V+D*(H*pq (i+1)))(hz:Z+t*(D*pq i)=V):X=Z+D*((H*4294967296+t)*pq i):=by
 rw[pq_succ]at h;generalize pq i=P at *
 grind
theorem rdiv_long(x m n n' k:Nat)(p q:Option Addr)(w:World)(hp:Sl w p x)(hq:Sl w q m)(hx:dl x≤1000)(hK:dl m=k+2)(h0:0<m)(h:m≤x):
 Calls prog 43 #[.slice p (dl x) n,.slice q (dl m) n'] w (Nm2 (x/m) (x%m) w):=by
 have hKX:k+2≤dl x:=by
  by_cases hc:dl x<dl m
  ·have:=dcmp_short x m hc;omega
  ·omega
 have hc:=rcmp_any x m n n' p q w hp hq (by omega) (by omega)
 have hz:(0:Int)≤cmpZ x m:=by unfold cmpZ;rw[if_neg (by omega)];split <;> decide
 obtain⟨z,hz'⟩:∃z,cmpZ x m=z:=⟨_,rfl⟩;rw[hz']at hc hz
 have z1:¬z<0:=by omega
 have z2:decide (z<0)=false:=decide_eq_false z1;obtain⟨s,hs⟩:∃s,s=32*(k+2)-bl m:=⟨_,rfl⟩;obtain⟨hs32,hVl,hVt,hVd,hbs⟩:=norm_of m k s hK hs;obtain⟨hr1,hr2⟩:=row_start x (m*2^s) s k (dl x) (dl_lt x) hs32 hVt hVl hKX;have hb:=fun w' (g:Gr w w')=>rbits_any m n' q w' (hq.gr g) (by omega);have hv:=fun w' (g:Gr w w')=>rshl_any m n' s q w' (hq.gr g) (by omega) (by omega);have hu:=fun w' (g:Gr w w')=>rshl_any x n s p w' (hp.gr g) (by omega) (by omega);rw[hK]at hc hb hv ⊢;obtain⟨X,hX⟩:=exl (dl x);rw[hX]at hc hu hr1 hr2 hKX hx ⊢;obtain⟨B,hB⟩:=exl (bl m);simp only[hB]at hb;rw[hB]at hbs;obtain⟨V,hV⟩:=exl (m*2^s);obtain⟨Y,hY⟩:=exl (x*2^s);rw[hV]at hVl hVt hVd hr1;rw[hY]at hr1 hr2;simp only[hV]at hv;simp only[hY]at hu;obtain⟨L,hL⟩:=exl (X+1);obtain⟨K,hKK⟩:=exl (k+2);obtain⟨Q,hQ⟩:=exl (L-K);rw[hL]at hr1 hr2;rw[hKK]at hc hb hv hVd hVl hr1 hKX hbs ⊢;rw[hQ]at hr1
 have hYp:0<Y:=by rw[←hY];exact Nat.mul_pos (by omega) (Nat.two_pow_pos s)
 have hYd:dl Y≤L:=(dl_le Y L).2 hr2
 have hYd0:0<dl Y:=by
  by_cases hc:dl Y=0
  ·have:=dl_eq_zero Y hc;omega
  ·omega
 have HC:Hu (Cg 14 #[.slice p X n,.slice q K n'] w (.int .i64 z)):=fun _=>hc;have HB:Hid (∀w',Gr w w'→Calls prog 40 #[.slice q K n'] w' fun e w''=>e=.returned (.int .i64 (B:Int))∧w''=w'):=hb;have HV:Hid (∀w',Gr w w'→Calls prog 62 #[.slice q K n',.int .i64 (s:Int)] w' (Nm V w')):=hv;have HU:Hid (∀w',Gr w w'→Calls prog 62 #[.slice p X n,.int .i64 (s:Int)] w' (Nm Y w')):=hu;have hmk:∀w,(Instr.makeSlice 29 (.int .i64 (L:Int)) (.int .i64 (L:Int))).run prog w=.ok (.slice (some ⟨w.heap.size,0,none⟩) L L) (w.alloc (.cells (nd L 0) 61)):=fun w=>make_digits L (by omega) w;have hmq:∀w,(Instr.makeSlice 29 (.int .i64 (Q:Int)) (.int .i64 (Q:Int))).run prog w=.ok (.slice (some ⟨w.heap.size,0,none⟩) Q Q) (w.alloc (.cells (nd Q 0) 61)):=fun w=>make_digits Q (by omega) w
 have k1:¬(K:Int)=1:=by omega
 have k2:((K:Int)==1)=false:=by rw[beq_eq_false_iff_ne];omega
 have k3:32*(K:Int)-(B:Int)=(s:Int):=by omega
 have k4:(X:Int)+1=(L:Int):=by omega
 have k5:(L:Int)-(K:Int)=(Q:Int):=by omega
 have k6:(K:Int)≤1000:=by omega
 have k7:(X:Int)≤1000:=by omega
 have k8:(L:Int)≤1001:=by omega
 have k9:(s:Int)<32:=by omega
 have HN:Hu (dl V=K∧V<pq K∧2147483648≤dg V (k+1)∧k+2=K∧Y<V*pq Q∧dl Y≤L∧0<dl Y∧L-K=Q∧K<L∧L≤1001∧X+1=L):=fun _=>⟨hVd,hVl,hVt,hKK,hr1,hYd,hYd0,hQ,by omega,by omega,hL⟩;have HF:Hid (∀H Z,Y=Z+V*H→Z<V→x/m=H∧Z/2^s=x%m):=fun H Z h1 h2=>split_end x V (2^s) H Z m hV.symm (Nat.two_pow_pos s) (by rw[hY];exact h1) h2;have HS:Hu (s<32):=fun _=>hs32;clear hc hb hv hu hp hq hx hK h0 h hz hz' hs hs32 hVl hVt hVd hbs hr1 hr2 hX hB hV hY hL hKK hQ hYp hYd hYd0 hKX
 go_enter func43,ntmps43
 go_upto_region 8 with (first
  | (go_at_call 14;refine(HC.out ()).mono ?_;rintro e w' ⟨rfl,g,rfl⟩)
  | (go_at_call 40;refine(HB.out _ ⟨g,rfl⟩).mono ?_;rintro e w' ⟨rfl,rfl⟩)
  | (go_at_call 62;refine(HV.out _ ⟨g,rfl⟩).mono ?_;rintro e w' ⟨pV,nV,rfl,SV,gV,rfl⟩))
 obtain⟨W,hW⟩:=exl ((gro w { os:=g.os++gV.os,n:=gV.n }).alloc (.cells (nd L 0) 61))
 have gW:Gr w W:=by rw[←hW];exact grA
 have bW:blk W (w.heap.size+(g.os.length+gV.os.length))=nd L 0:=by rw[←hW];simp[go_sem]
 have fW:frz W (w.heap.size+(g.os.length+gV.os.length))=(0,0):=by rw[←hW];simp[go_sem]
 have pW:Pre (w.heap.size+(g.os.length+gV.os.length)+1) W.heap.size:=by rw[←hW];simp[go_sem]
 have SVW:Sl W pV V:=by
  have h1:Sl (gro w { os:=g.os++gV.os,n:=gV.n }) pV V:=by rw[←gro_gro];exact SV
  rw[←hW];exact h1.gr ((Gr.refl _).alloc _)
 have hnn:=HN.out ();obtain⟨c,hpc,hcp,hcd⟩:=SV.some (by rw[hnn.1];omega);subst hpc
 have hcb:c<w.heap.size+(g.os.length+gV.os.length):=by
  have h1:c+1≤(gro (gro w g) gV).heap.size:=hcp;rw[gro_size,gro_size]at h1
  omega
 obtain⟨c2,hpc2,hcp2,hcd2⟩:=SVW.some (by rw[hnn.1];omega)
 cases hpc2
 rw[hnn.1]at hcd2 ⊢;rw[hW]
 have hqb:w.heap.size≤w.heap.size+(g.os.length+gV.os.length):=by omega
 generalize w.heap.size+(g.os.length+gV.os.length)=b at *;have HW0:Hid (Gr w W∧blk W b=nd L 0∧frz W b=(0,0)∧Pre (b+1) W.heap.size∧(∀i,i<K→(blk W c)[i]? = some (.int .u32 ((dg V i:Nat):Int)))∧Pre (c+1) W.heap.size∧c<b∧w.heap.size≤b):=⟨gW,bW,fW,pW,hcd2,hcp2,hcb,hqb⟩;clear hW gW bW fW pW SVW SV hnn hcp hcd hcp2 hcd2 hcb hqb hmk HC HB HV k1 k2 k3 k4
 go_wp2_with (go_at_call 62;refine(HU.out _ HW0.out.1).mono ?_;rintro e W1 ⟨pY,nY,rfl,SY,GY⟩;have hcp:=fun ty c1 c2=>copyD ty W1 b L c1 (dl Y) c2 Y pY SY rfl (HN.out ()).2.2.2.2.2.2.1 (HN.out ()).2.2.2.2.2.1 ((GY.blk _ HW0.out.2.2.2.1).trans HW0.out.2.1) ((GY.frz _ HW0.out.2.2.2.1).trans HW0.out.2.2.1))
 have hnn:=HN.out ()
 have D0:DW w ((setBlk W1 b (nd L Y)).alloc (.cells (nd Q 0) 61)) b W1.heap.size c K V L Q Y 0:=
  DW.start (HW0.out.1.trans GY) ((GY.blk _ HW0.out.2.2.2.1).trans HW0.out.2.1) ((GY.frz _ HW0.out.2.2.2.1).trans HW0.out.2.2.1) (Nat.le_trans HW0.out.2.2.2.1 GY.below.size) (fun i hi=>by rw[GY.blk _ HW0.out.2.2.2.2.2.1];exact HW0.out.2.2.2.2.1 i hi) (Nat.le_trans HW0.out.2.2.2.2.2.1 GY.below.size) HW0.out.2.2.2.2.2.2.2 HW0.out.2.2.2.2.2.2.1 (by omega)
 obtain⟨b2,hb2⟩:=exl (W1.heap.size);rw[hb2]at D0 ⊢;have HD0:Hid (DW w ((setBlk W1 b (nd L Y)).alloc (.cells (nd Q 0) 61)) b b2 c K V L Q Y 0):=D0
 have HST:Hid (∀i H Z wr,i<Q→DW w wr b b2 c K V L Q Z H→Z<V*pq (i+1)→Calls prog 63 #[.slice (some ⟨b,0,none⟩) L L,.slice (some ⟨c,0,none⟩) K nV,.int .i64 (i:Int)] wr (Stp wr b L Z (V*pq i))):=fun i H Z wr hi hd hz=>by
  have hk:=hnn.2.2.2.1;have h1:=step_any L Z V i k b c L nV wr (by omega) (by omega) hd.hb hd.fb (by have:=hd.qc;omega) (by rw[hk];exact hd.hc) (by rw[hk];exact hnn.2.1) hnn.2.2.1 hz;rw[hk]at h1;exact h1
 clear D0 hb2 hnn hcp SY GY HU HW0 hmq
 go_loopw [11] (fun ia wr=>∃(j H Z:Nat),j≤Q∧ia=.int .i64 ((j:Int)-1)∧Hu (Z<V*pq j∧Y=Z+V*(H*pq j))∧Hid (DW w wr b b2 c K V L Q Z (H*pq j))) (fun ia _=>(intOf ia+1).toNat)
 case atStart=>exact⟨Q,0,Y,Nat.le_refl _,rfl,fun _=>⟨(HN.out ()).2.2.2.2.1,by simp⟩,by rw[Nat.zero_mul];exact HD0⟩
 case round=>
  obtain⟨j,H,Z,hj,rfl,HI,HDW⟩:=hrel;have hnn:=HN.out ();clear HD0
  by_cases hpos:0<j
  ·obtain⟨i,rfl⟩:∃i,j=i+1:=⟨j-1,by omega⟩
   have e1:(((i+1:Nat):Int)-1)=(i:Int):=by omega
   rw[e1]
   have i0:(0:Int)≤(i:Int):=by omega
   have i1:(i:Int)<(Q:Int):=by omega
   have HJ:Hu (i+1≤Q):=fun _=>hj;clear e1 hpos hnn hj
   go_wp2_with (go_at_call 63;refine(HST.out i _ Z _ (HJ.out ()) HDW.out (HI.out ()).1).mono ?_;rintro e W2 ⟨d,Z',rfl,hd,hze,hzl,G2⟩;have D2:=(HDW.out.setB (show 0<L by have:=(HN.out ()).2.2.2.2.2.2.2.2.1;omega) Z').gr G2;have hcell:W2.cell? ⟨b2,i,none⟩=some (.int .u32 ((dg (H*pq (i+1)) i:Nat):Int)):=(by rw[cell_blk,D2.h2];exact nd_get Q _ i (HJ.out ()));have hfr:W2.frozen? ⟨b2,i,none⟩=false:=frozen_frz _ _ _ D2.f2;have hdm:(d:Int)%4294967296=(d:Int):=(by omega);have HD2:Hid (DW w W2 b b2 c K V L Q Z' (H*pq (i+1))):=D2;have HZ2:Hu (d<4294967296∧Z'+d*(V*pq i)=Z∧Z'<V*pq i):=(fun _=>⟨hd,hze,hzl⟩);clear D2 hd hze hzl G2)
   go_roundw
   case rel=>
    have hz:=HZ2.out ();refine⟨i,H*4294967296+d,Z',by have:=HJ.out ();omega,rfl,fun _=>⟨hz.2.2,q_next32 Y Z V H i d Z' (HI.out ()).2 hz.2.1⟩,?_⟩
    show DW w (W2.setCell ⟨b2,i,none⟩ (.int .u32 (d:Int))) b b2 c K V L Q Z' ((H*4294967296+d)*pq i)
    rw[setCell_setBlk,HD2.out.h2,nd_set_low Q H i d hz.1];exact HD2.out.set2 (by have:=HJ.out ();omega) _
   case measure=>simp[intOf]
  ·obtain rfl:j=0:=by omega
   obtain⟨hzl,hze⟩:=HI.out ();have hdw:=HDW.out;rw[pq_zero,Nat.mul_one]at hzl hze hdw;obtain⟨hE1,hE2⟩:=HF.out H Z hze hzl
   have hHQ:H<pq Q:=by
    have h1:V*H<V*pq Q:=by have:=hnn.2.2.2.2.1;omega
    exact Nat.lt_of_mul_lt_mul_left h1
   have hZK:=Nat.lt_trans hzl hnn.2.1;have hZd:=(dl_le Z K).2 hZK;have SZ:Sl wr (some ⟨b,0,none⟩) Z:=fun i hi=>⟨b,rfl,hdw.pb,by rw[hdw.hb];exact nd_get L Z i (by omega)⟩;have SH:=Sl.of_blk hdw.p2 hdw.h2 hHQ;have HT1:Hid (∀W,Gr wr W→Calls prog 35 #[.slice (some ⟨b2,0,none⟩) Q Q] W fun e w'=>e=.returned (.slice (some ⟨b2,0,none⟩) (dl H) Q)∧w'=W):=fun W gW=>trim_nd W b2 Q H (by omega) hHQ (by rw[gW.blk _ hdw.p2];exact hdw.h2)
   have HT2:Hid (∀W,Gr wr W→Calls prog 35 #[.slice (some ⟨b,0,none⟩) K L] W fun e w'=>e=.returned (.slice (some ⟨b,0,none⟩) (dl Z) L)∧w'=W):=fun W gW=>trim_any W b K L Z (by omega) (by omega) hZK fun i hi=>by rw[gW.blk _ hdw.pb,hdw.hb];exact nd_get L Z i (by omega)
   have HSR:Hid _:=fun W gW=>by
    have h1:=rshr_any Z L s (some ⟨b,0,none⟩) W (SZ.gr gW) (by omega) (by have:=HS.out ();omega);rw[hE2]at h1;exact h1
   have HSH:Hid (Sl wr (some ⟨b2,0,none⟩) H):=SH;have HGW:Hid _:=hdw.g;have HEE:Hu (x/m=H):=fun _=>hE1
   go_upto_region 15 with fail
   go_region_with (first
    | (go_at_call_of 35 (Value.slice (some ⟨b2,0,none⟩) Q Q);refine(HT1.out _ ?_).mono ?_;exact grA;rintro e w' ⟨rfl,rfl⟩)
    | (go_at_call 35;refine(HT2.out _ ?_).mono ?_;exact grA;rintro e w' ⟨rfl,rfl⟩)
    | (go_at_call 52;refine(HSR.out _ ?_).mono ?_;exact grA;rintro e w' ⟨pR,nR,rfl,SR,gR,rfl⟩))
   all_goals
    go_wp2_with fail
    go_ret2
    refine⟨some ⟨b2,0,none⟩,Q,pR,nR,by rw[HEE.out ()];rfl,?_,?_,?_⟩
    ·rw[HEE.out ()];exact HSH.out.gr grA
    ·first|exact SR|(rw[←drew_gro];exact SR)
    ·refine Gr.trans HGW.out ?_;exact grA
theorem rdiv_any(x m n n':Nat)(p q:Option Addr)(w:World)(hp:Sl w p x)(hq:Sl w q m)(hx:dl x≤1000)(hm:dl m≤1000)(h0:0<m):
 Calls prog 43 #[.slice p (dl x) n,.slice q (dl m) n'] w (Nm2 (x/m) (x%m) w):=by
 by_cases h:x<m
 ·exact rdiv_less x m n n' p q w hp hq hx hm h
 ·by_cases h1:dl m=1
  ·exact rdiv_one x m n n' p q w hp hq hx h1 h0 (by omega)
  ·have h2:dl m≠0:=fun e=>by have:=dl_eq_zero m e;omega
   exact rdiv_long x m n n' (dl m-2) p q w hp hq hx (by omega) h0 (by omega)
theorem rmod_any(x m n n':Nat)(p q:Option Addr)(w:World)(hp:Sl w p x)(hq:Sl w q m)(hx:dl x≤1000)(hm:dl m≤1000)(h0:0<m):
 Calls prog 20 #[.slice p (dl x) n,.slice q (dl m) n'] w (Nm (x%m) w):=by
 have hd:=rdiv_any x m n n' p q w hp hq hx hm h0;obtain⟨X,hX⟩:=exl (dl x);obtain⟨K,hK⟩:=exl (dl m);rw[hX,hK]at hd ⊢;have HD:Hu (Calls prog 43 #[.slice p X n,.slice q K n'] w (Nm2 (x/m) (x%m) w)):=fun _=>hd
 go_enter func20,ntmps20
 go_wp2_with (go_at_call 43;refine(HD.out ()).mono ?_;rintro e w' ⟨p1,n1,p2,n2,rfl,S1,S2,g,rfl⟩)
 go_ret
 exact⟨p2,n2,rfl,S2,⟨g,rfl⟩⟩
end
end
end Go.Proofs.YtghidgcekieljaaGreat