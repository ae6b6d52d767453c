import Derived.Deep.DrawnRows
import Derived.Deep.RegionWith
import Derived.Test.YtonbpnbhjghfbaaXARShort
import Derived.Test.YtonbpnbhjghfbaaXARCmp
namespace Go.Proofs.Ytonbpnbhjghfbaa
open Go.RowKit Go.Proofs.Try
set_option maxRecDepth 100000
set_option maxHeartbeats 8000000
section
attribute [local go_sem ↓] uz1
attribute [local go_sem] uz2
section
theorem Sl.some{w:World}{p:Option Addr}{x:Nat}(h:Sl w p x)(h0:0<dl x):∃c,p=.some ⟨c,0,.none⟩∧Pre (c+1) w.heap.size∧∀i,i<dl x→(blk w c)[i]? = .some (.int .u32 ((dg x i:Nat):Int)):=by
 obtain⟨c,d,f,_⟩:=h 0 h0;refine⟨c,d,f,fun i j=>?_⟩;obtain⟨l,q,_,v⟩:=h i j
 grind
theorem copyD(ty:TypeId)(w:World)(b N c k c' X:Nat)(p:Option Addr)(hS:Sl w p X)(hk:dl X=k)(h0:0<k)(hkN:k≤N)(hb:blk w b=nd N 0)(hf:frz w b=(0,0)):
 (Builtin.copy_ #[29,29] ty #[.slice (some ⟨b,0,none⟩) N c,.slice p k c']).run prog w=.ok (goInt (k:Int)) (setBlk w b (nd N X)):=by
 obtain⟨a,rfl,_,A⟩:=hS.some (by omega);rw[hk]at A
 have l:((List.range k).map fun i=>Value.int .u32 ((dg X i:Nat):Int)).length=k:=by simp
 have q:∀j,(⟨a,0,none⟩:Addr).add j=⟨a,0+j,none⟩:=fun j=>by unfold Addr.add;split <;> simp_all
 rw[run_copy_cells w 29 29 ty 56 b 0 N c ⟨a,0,none⟩ k c' ((List.range k).map fun i=>Value.int .u32 ((dg X i:Nat):Int)) underlying29 (by kernel_rfl) (by rw[l];exact(Nat.min_eq_left hkN).symm)
  (fun j v f=>?_) (fun j d=>?_) (fun j d=>?_) (fun v f=>?_),setCells_setBlk _ _ _ _ (by rw[hb,nd_size];omega)]
 ·rw[l];refine congrArg (Result.ok _) (congrArg (setBlk w b) ?_)
  apply Array.ext_getElem?
  intro j;rw[setL_get,l,hb,nd_size]
  by_cases d:j<N
  ·rw[nd_get N X j d]
   by_cases hjk:j<k
   ·rw[if_pos ⟨by omega,by omega,d⟩,Nat.sub_zero];simp[hjk]
   ·rw[if_neg (by omega),nd_get N 0 j d,dg_zero,dg_beyond X j (by omega)]
  ·rw[if_neg (by omega),Array.getElem?_eq_none (by rw[nd_size];omega),Array.getElem?_eq_none (by rw[nd_size];omega)]
 ·have d:j<k:=by
   by_cases h:j<k
   ·exact h
   ·rw[List.getElem?_eq_none (by rw[l];omega)]at f;cases f
  have x:v=.int .u32 ((dg X j:Nat):Int):=by
   simp[d]at f;exact f.symm
  rw[q,Nat.zero_add,cell_blk,x];exact A j d
 ·rw[l]at d;rw[Nat.zero_add,cell_blk,hb,nd_get N 0 j (by omega)]
  rfl
 ·exact frozen_frz _ _ _ hf
 ·simp only[List.mem_map]at f;obtain⟨i,_,rfl⟩:=f
  rfl
theorem rdiv_less(x m n n':Nat)(p q:Option Addr)(w:World)(hp:Sl w p x)(hq:Sl w q m)(hx:dl x≤1000)(hm:dl m≤1000)(h:x<m):
 Calls prog 31 #[.slice p (dl x) n,.slice q (dl m) n'] w (Nm2 (x/m) (x%m) w):=by
 have d:=rcmp_any x m n n' p q w hp hq (by omega) (by omega);rw[show cmpZ x m = -1 by unfold cmpZ;rw[if_pos h]]at d;rw[Nat.div_eq_of_lt h,Nat.mod_eq_of_lt h];have f:Hu (Cg 28 #[.slice p (dl x) n,.slice q (dl m) n'] w (.int .i64 (-1))):=fun _=>d;have j:Hid (Sl w p x):=hp;obtain⟨X,i⟩:=exl (dl x);obtain⟨K,l⟩:=exl (dl m);rw[i,l]at f ⊢;have v:Hu (dl x=X):=fun _=>i
 go_enter func31,ntmps31
 go_wp2_with (go_at_call 28;refine(f.out ()).mono ?_;rintro e A ⟨rfl,g,rfl⟩)
 go_ret2
 exact⟨none,0,p,n,by rw[dl_zero,v.out ()];rfl,Sl.zero _ _,j.out.gr ⟨g,rfl⟩,⟨g,rfl⟩⟩
theorem rdiv_one(x m n n':Nat)(p q:Option Addr)(w:World)(hp:Sl w p x)(hq:Sl w q m)(hx:dl x≤1000)(hm:dl m=1)(h0:0<m)(h:m≤x):
 Calls prog 31 #[.slice p (dl x) n,.slice q (dl m) n'] w (Nm2 (x/m) (x%m) w):=by
 have f:=rcmp_any x m n n' p q w hp hq (by omega) (by omega)
 have D:(0:Int)≤cmpZ x m:=by unfold cmpZ;rw[if_neg (by omega)];split <;> decide
 obtain⟨z,i⟩:∃z,cmpZ x m=z:=⟨_,rfl⟩;rw[i]at f D
 have G:¬z<0:=by omega
 have S:=decide_eq_false G;obtain⟨c,rfl,H,j⟩:=hq.some (by omega)
 have d:m<4294967296:=by have:=dl_lt m;rw[hm,pq_one]at this;exact this
 have l:dg m 0=m:=by unfold dg;rw[pq_zero,Nat.div_one,Nat.mod_eq_of_lt d]
 have A:=j 0 (by omega);rw[l]at A
 have U:w.cell? ⟨c,0,none⟩=some (.int .u32 m):=by rw[cell_blk];exact A
 have B:Hid _:=fun v g=>short_any x m n p v (hp.gr g) (by omega) h0 d;rw[hm]at f ⊢;have C:Hu (Cg 28 #[.slice p (dl x) n,.slice (some ⟨c,0,none⟩) 1 n'] w (.int .i64 z)):=fun _=>f;obtain⟨X,I⟩:=exl (dl x);rw[I]at C B ⊢
 go_enter func31,ntmps31
 go_wp2_with (first
  | (go_at_call 28;refine(C.out ()).mono ?_;rintro e v ⟨rfl,g,rfl⟩)
  | (go_at_call 40;refine(B.out _ ⟨g,rfl⟩).mono ?_;rintro e v ⟨J,K,L,P,rfl,Q,R,V,rfl⟩))
 go_ret2
 exact⟨J,K,L,P,rfl,by rw[←gro_gro];exact Q,by rw[←gro_gro];exact R,grA⟩
structure DW(w v:World)(b b2 c K V L Lq Z Q:Nat):Prop where
 g:Gr w v
 hb:blk v b=nd L Z
 fb:frz v b=(0,0)
 pb:Pre (b+1) v.heap.size
 h2:blk v b2=nd Lq Q
 f2:frz v b2=(0,0)
 p2:Pre (b2+1) v.heap.size
 hc:∀i,i<K→(blk v c)[i]? = some (.int .u32 ((dg V i:Nat):Int))
 pc:Pre (c+1) v.heap.size
 qb:w.heap.size≤b
 qc:c<b
 q2:b<b2
theorem DW.gr{w v v':World}{b b2 c K V L Lq Z Q:Nat}(h:DW w v b b2 c K V L Lq Z Q)(k:Gr v v'):DW w v' b b2 c K V L Lq Z Q:=by
 have f:=k.below.size;have d:∀{x},Pre x v.heap.size→Pre x v'.heap.size:=fun h=>Nat.le_trans h f
 exact⟨h.g.trans k,by rw[k.blk _ h.pb];exact h.hb,by rw[k.frz _ h.pb];exact h.fb,d h.pb,by rw[k.blk _ h.p2];exact h.h2,by rw[k.frz _ h.p2];exact h.f2,d h.p2,
  fun i j=>by rw[k.blk _ h.pc];exact h.hc i j,d h.pc,h.qb,h.qc,h.q2⟩
theorem DW.setB{w v:World}{b b2 c K V L Lq Z Q:Nat}(h:DW w v b b2 c K V L Lq Z Q)(hL:0<L)(Y:Nat):DW w (setBlk v b (nd L Y)) b b2 c K V L Lq Y Q:=by
 have q:=h.qb;have j:=h.qc;have l:=h.q2
 have d:∀{x},Pre x v.heap.size→Pre x (setBlk v b (nd L Y)).heap.size:=fun h=>by rw[size_setBlk];exact h
 exact⟨gr_setNew h.g (by omega),blk_setBlk _ _ _ (by rw[h.hb,nd_size];exact hL),by rw[frz_setBlk];exact h.fb,d h.pb,by rw[blk_other _ _ _ _ (by omega)];exact h.h2,by rw[frz_setBlk];exact h.f2,d h.p2,
  fun i f=>by rw[blk_other _ _ _ _ (by omega)];exact h.hc i f,d h.pc,h.qb,h.qc,h.q2⟩
theorem DW.set2{w v:World}{b b2 c K V L Lq Z Q:Nat}(h:DW w v b b2 c K V L Lq Z Q)(hL:0<Lq)(Y:Nat):DW w (setBlk v b2 (nd Lq Y)) b b2 c K V L Lq Z Y:=by
 have q:=h.qb;have j:=h.qc;have l:=h.q2
 have d:∀{x},Pre x v.heap.size→Pre x (setBlk v b2 (nd Lq Y)).heap.size:=fun h=>by rw[size_setBlk];exact h
 exact⟨gr_setNew h.g (by omega),by rw[blk_other _ _ _ _ (by omega)];exact h.hb,by rw[frz_setBlk];exact h.fb,d h.pb,blk_setBlk _ _ _ (by rw[h.h2,nd_size];exact hL),by rw[frz_setBlk];exact h.f2,d h.p2,
  fun i f=>by rw[blk_other _ _ _ _ (by omega)];exact h.hc i f,d h.pc,h.qb,h.qc,h.q2⟩
theorem DW.start{w W:World}{b c K V L Q Y:Nat}{t:TypeId}(g:Gr w W)(hb:blk W b=nd L 0)(fb:frz W b=(0,0))(pb:Pre (b+1) W.heap.size)(hc:∀i,i<K→(blk W c)[i]? = some (.int .u32 ((dg V i:Nat):Int)))(pc:Pre (c+1) W.heap.size)(qb:w.heap.size≤b)(qc:c<b)(hL:0<L):
 DW w ((setBlk W b (nd L Y)).alloc (.cells (nd Q 0) t)) b W.heap.size c K V L Q Y 0:=by
 have d:(setBlk W b (nd L Y)).heap.size=W.heap.size:=size_setBlk _ _ _
 have f:Pre (b+1) (setBlk W b (nd L Y)).heap.size:=by rw[d];exact pb
 have j:Pre (c+1) (setBlk W b (nd L Y)).heap.size:=by rw[d];exact pc
 have l:∀{x},Pre x (setBlk W b (nd L Y)).heap.size→Pre x ((setBlk W b (nd L Y)).alloc (.cells (nd Q 0) t)).heap.size:=fun h=>Nat.le_trans h ((Gr.refl _).alloc _).below.size
 refine⟨(gr_setNew g qb).alloc _,?_,?_,l f,blk_alloc_at _ _ _ _ _ d.symm,frz_alloc_at _ _ _ _ _ d.symm,?_,fun i q=>?_,l j,qb,qc,pb⟩
 ·rw[blk_alloc _ _ _ f,blk_setBlk _ _ _ (by rw[hb,nd_size];exact hL)]
 ·rw[frz_alloc _ _ _ f,frz_setBlk];exact fb
 ·show W.heap.size+1≤_
  simp[d]
 ·rw[blk_alloc _ _ _ j,blk_other _ _ _ _ (by omega)];exact hc i q
end
section
attribute [local go_sem ↓] Go.wp_at_zero Go.wp_at_succ
theorem norm_of(m n s:Nat)(hK:dl m=n+2)(hs:s=32*(n+2)-bl m):s<32∧m*2^s<pq (n+2)∧2147483648≤dg (m*2^s) (n+1)∧dl (m*2^s)=n+2∧bl m+s=32*(n+2):=by
 have q:(bl m+31)/32=n+2:=hK;have i:=(bl_le m (bl m)).1 (Nat.le_refl _)
 have j:2^(bl m-1)≤m:=by
  by_cases hc:m<2^(bl m-1)
  ·have:=(bl_le m (bl m-1)).2 hc
   omega
  ·omega
 have l:=Nat.two_pow_pos s
 have f:bl m+s=32*(n+2):=by omega
 have d:m*2^s<pq (n+2):=by
  have e:pq (n+2)=2^bl m*2^s:=by unfold pq;rw[←Nat.pow_add,f]
  rw[e];exact Nat.mul_lt_mul_of_pos_right i l
 have h:2147483648≤dg (m*2^s) (n+1):=by
  rw[←top_one32 _ (n+1) d,Nat.le_div_iff_mul_le (pq_pos _)]
  have e:2147483648*pq (n+1)=2^(bl m-1)*2^s:=by
   unfold pq;rw[←Nat.pow_add,show bl m-1+s=31+32*(n+1) by omega,Nat.pow_add]
  rw[e];exact Nat.mul_le_mul_right _ j
 exact⟨by omega,d,h,dl_top _ (n+1) d (by omega),f⟩
theorem row_start(x V s n X:Nat)(hx:x<pq X)(hs:s<32)(hV:2147483648≤dg V (n+1))(hVl:V<pq (n+2))(hXn:n+2≤X):x*2^s<V*pq (X+1-(n+2))∧x*2^s<pq (X+1):=by
 have f:=Nat.two_pow_pos s
 have h:2^s≤2147483648:=by
  have:=Nat.pow_le_pow_right (n:=2) (by decide) (show s≤31 by omega);exact this
 have i:2147483648*pq (n+1)≤V:=by
  have d:=Nat.div_mul_le_self V (pq (n+1));rw[top_one32 V (n+1) hVl]at d;exact Nat.le_trans (Nat.mul_le_mul_right _ hV) d
 have j:=Nat.mul_lt_mul_of_pos_right hx f;have l:pq X*2^s≤pq X*2147483648:=Nat.mul_le_mul_left _ h;obtain⟨r,rfl⟩:∃r,X=n+1+r:=⟨X-(n+1),by omega⟩
 refine⟨?_,?_⟩
 ·rw[show n+1+r+1-(n+2)=r by omega];have q:2147483648*pq (n+1)*pq r≤V*pq r:=Nat.mul_le_mul_right _ i
  have e:pq (n+1+r)*2147483648=2147483648*pq (n+1)*pq r:=by rw[pq_add (n+1) r];grind
  omega
 ·rw[pq_succ (n+1+r)]
  omega
theorem q_next32(X V D H i t Z:Nat)(h:X=V+D*(H*pq (i+1)))(hz:Z+t*(D*pq i)=V):X=Z+D*((H*4294967296+t)*pq i):=by
 rw[pq_succ]at h;generalize pq i=P at *
 grind
theorem rdiv_long(x m n n' k:Nat)(p q:Option Addr)(w:World)(hp:Sl w p x)(hq:Sl w q m)(hx:dl x≤1000)(hK:dl m=k+2)(h0:0<m)(h:m≤x):
 Calls prog 31 #[.slice p (dl x) n,.slice q (dl m) n'] w (Nm2 (x/m) (x%m) w):=by
 have ab:k+2≤dl x:=by
  by_cases hc:dl x<dl m
  ·have:=dcmp_short x m hc;omega
  ·omega
 have hc:=rcmp_any x m n n' p q w hp hq (by omega) (by omega)
 have hz:(0:Int)≤cmpZ x m:=by unfold cmpZ;rw[if_neg (by omega)];split <;> decide
 obtain⟨z,ak⟩:∃z,cmpZ x m=z:=⟨_,rfl⟩;rw[ak]at hc hz
 have z1:¬z<0:=by omega
 have z2:decide (z<0)=false:=decide_eq_false z1;obtain⟨s,hs⟩:∃s,s=32*(k+2)-bl m:=⟨_,rfl⟩;obtain⟨J,P,ac,ad,ah⟩:=norm_of m k s hK hs;obtain⟨C,R⟩:=row_start x (m*2^s) s k (dl x) (dl_lt x) J ac P ab;have hb:=fun l (g:Gr w l)=>rbits_any m n' q l (hq.gr g) (by omega);have hv:=fun l (g:Gr w l)=>rshl_any m n' s q l (hq.gr g) (by omega) (by omega);have hu:=fun l (g:Gr w l)=>rshl_any x n s p l (hp.gr g) (by omega) (by omega);rw[hK]at hc hb hv ⊢;obtain⟨X,hX⟩:=exl (dl x);rw[hX]at hc hu C R ab hx ⊢;obtain⟨B,hB⟩:=exl (bl m);simp only[hB]at hb;rw[hB]at ah;obtain⟨V,hV⟩:=exl (m*2^s);obtain⟨Y,hY⟩:=exl (x*2^s);rw[hV]at P ac ad C;rw[hY]at C R;simp only[hV]at hv;simp only[hY]at hu;obtain⟨L,hL⟩:=exl (X+1);obtain⟨K,ai⟩:=exl (k+2);obtain⟨Q,hQ⟩:=exl (L-K);rw[hL]at C R;rw[ai]at hc hb hv ad P C ab ah ⊢;rw[hQ]at C
 have aA:0<Y:=by rw[←hY];exact Nat.mul_pos (by omega) (Nat.two_pow_pos s)
 have al:dl Y≤L:=(dl_le Y L).2 R
 have af:0<dl Y:=by
  by_cases hc:dl Y=0
  ·have:=dl_eq_zero Y hc;omega
  ·omega
 have HC:Hu (Cg 28 #[.slice p X n,.slice q K n'] w (.int .i64 z)):=fun _=>hc;have HB:Hid (∀l,Gr w l→Calls prog 33 #[.slice q K n'] l fun e aB=>e=.returned (.int .i64 B)∧aB=l):=hb;have HV:Hid (∀l,Gr w l→Calls prog 41 #[.slice q K n',.int .i64 s] l (Nm V l)):=hv;have HU:Hid (∀l,Gr w l→Calls prog 41 #[.slice p X n,.int .i64 s] l (Nm Y l)):=hu;have aC:∀w,(Instr.makeSlice 29 (.int .i64 L) (.int .i64 L)).run prog w=.ok (.slice (some ⟨w.heap.size,0,none⟩) L L) (w.alloc (.cells (nd L 0) 56)):=fun w=>make_digits L (by omega) w;have aD:∀w,(Instr.makeSlice 29 (.int .i64 Q) (.int .i64 Q)).run prog w=.ok (.slice (some ⟨w.heap.size,0,none⟩) Q Q) (w.alloc (.cells (nd Q 0) 56)):=fun w=>make_digits Q (by omega) w
 have k1:¬(K:Int)=1:=by omega
 have k2:((K:Int)==1)=false:=by rw[beq_eq_false_iff_ne];omega
 have k3:32*(K:Int)-B=s:=by omega
 have k4:(X:Int)+1=L:=by omega
 have k5:(L:Int)-K=Q:=by omega
 have k6:(K:Int)≤1000:=by omega
 have k7:(X:Int)≤1000:=by omega
 have k8:(L:Int)≤1001:=by omega
 have k9:(s:Int)<32:=by omega
 have HN:Hu (dl V=K∧V<pq K∧2147483648≤dg V (k+1)∧k+2=K∧Y<V*pq Q∧dl Y≤L∧0<dl Y∧L-K=Q∧K<L∧L≤1001∧X+1=L):=fun _=>⟨ad,P,ac,ai,C,al,af,hQ,by omega,by omega,hL⟩;have HF:Hid (∀H Z,Y=Z+V*H→Z<V→x/m=H∧Z/2^s=x%m):=fun H Z G h2=>split_end x V (2^s) H Z m hV.symm (Nat.two_pow_pos s) (by rw[hY];exact G) h2;have HS:Hu (s<32):=fun _=>J;clear hc hb hv hu hp hq hx hK h0 h hz ak hs J P ac ad ah C R hX hB hV hY hL ai hQ aA al af ab
 go_enter func31,ntmps31
 go_upto_region 8 with (first
  | (go_at_call 28;refine(HC.out ()).mono ?_;rintro e l ⟨rfl,g,rfl⟩)
  | (go_at_call 33;refine(HB.out _ ⟨g,rfl⟩).mono ?_;rintro e l ⟨rfl,rfl⟩)
  | (go_at_call 41;refine(HV.out _ ⟨g,rfl⟩).mono ?_;rintro e l ⟨pV,nV,rfl,SV,S,rfl⟩))
 obtain⟨W,hW⟩:=exl ((gro w { os:=g.os++S.os,n:=S.n }).alloc (.cells (nd L 0) 56))
 have gW:Gr w W:=by rw[←hW];exact grA
 have bW:blk W (w.heap.size+(g.os.length+S.os.length))=nd L 0:=by rw[←hW];simp[go_sem]
 have fW:frz W (w.heap.size+(g.os.length+S.os.length))=(0,0):=by rw[←hW];simp[go_sem]
 have pW:Pre (w.heap.size+(g.os.length+S.os.length)+1) W.heap.size:=by rw[←hW];simp[go_sem]
 have ao:Sl W pV V:=by
  have G:Sl (gro w { os:=g.os++S.os,n:=S.n }) pV V:=by rw[←gro_gro];exact SV
  rw[←hW];exact G.gr ((Gr.refl _).alloc _)
 have v:=HN.out ();obtain⟨c,aE,ae,aF⟩:=SV.some (by rw[v.1];omega);subst aE
 have ap:c<w.heap.size+(g.os.length+S.os.length):=by
  have G:c+1≤(gro (gro w g) S).heap.size:=ae;rw[gro_size,gro_size]at G
  omega
 obtain⟨c2,aq,ag,U⟩:=ao.some (by rw[v.1];omega)
 cases aq
 rw[v.1]at U ⊢;rw[hW]
 have ar:w.heap.size≤w.heap.size+(g.os.length+S.os.length):=by omega
 generalize w.heap.size+(g.os.length+S.os.length)=b at *;have f:Hid (Gr w W∧blk W b=nd L 0∧frz W b=(0,0)∧Pre (b+1) W.heap.size∧(∀i,i<K→(blk W c)[i]? = some (.int .u32 ((dg V i:Nat):Int)))∧Pre (c+1) W.heap.size∧c<b∧w.heap.size≤b):=⟨gW,bW,fW,pW,U,ag,ap,ar⟩;clear hW gW bW fW pW ao SV v ae aF ag U ap ar aC HC HB HV k1 k2 k3 k4
 go_wp2_with (go_at_call 41;refine(HU.out _ f.out.1).mono ?_;rintro e W1 ⟨pY,nY,rfl,SY,GY⟩;have ae:=fun ty c1 c2=>copyD ty W1 b L c1 (dl Y) c2 Y pY SY rfl (HN.out ()).2.2.2.2.2.2.1 (HN.out ()).2.2.2.2.2.1 ((GY.blk _ f.out.2.2.2.1).trans f.out.2.1) ((GY.frz _ f.out.2.2.2.1).trans f.out.2.2.1))
 have v:=HN.out ()
 have D0:DW w ((setBlk W1 b (nd L Y)).alloc (.cells (nd Q 0) 56)) b W1.heap.size c K V L Q Y 0:=
  DW.start (f.out.1.trans GY) ((GY.blk _ f.out.2.2.2.1).trans f.out.2.1) ((GY.frz _ f.out.2.2.2.1).trans f.out.2.2.1) (Nat.le_trans f.out.2.2.2.1 GY.below.size) (fun i hi=>by rw[GY.blk _ f.out.2.2.2.2.2.1];exact f.out.2.2.2.2.1 i hi) (Nat.le_trans f.out.2.2.2.2.2.1 GY.below.size) f.out.2.2.2.2.2.2.2 f.out.2.2.2.2.2.2.1 (by omega)
 obtain⟨D,au⟩:=exl (W1.heap.size);rw[au]at D0 ⊢;have av:Hid (DW w ((setBlk W1 b (nd L Y)).alloc (.cells (nd Q 0) 56)) b D c K V L Q Y 0):=D0
 have aG:Hid (∀i H Z wr,i<Q→DW w wr b D c K V L Q Z H→Z<V*pq (i+1)→Calls prog 42 #[.slice (some ⟨b,0,none⟩) L L,.slice (some ⟨c,0,none⟩) K nV,.int .i64 i] wr (Stp wr b L Z (V*pq i))):=fun i H Z wr hi hd hz=>by
  have hk:=v.2.2.2.1;have G:=step_any L Z V i k b c L nV wr (by omega) (by omega) hd.hb hd.fb (by have:=hd.qc;omega) (by rw[hk];exact hd.hc) (by rw[hk];exact v.2.1) v.2.2.1 hz;rw[hk]at G;exact G
 clear D0 au v ae SY GY HU f aD
 go_loopw [11] (fun ia wr=>∃(j H Z:Nat),j≤Q∧ia=.int .i64 ((j:Int)-1)∧Hu (Z<V*pq j∧Y=Z+V*(H*pq j))∧Hid (DW w wr b D c K V L Q Z (H*pq j))) (fun ia _=>(intOf ia+1).toNat)
 case atStart=>exact⟨Q,0,Y,Nat.le_refl _,rfl,fun _=>⟨(HN.out ()).2.2.2.2.1,by simp⟩,by rw[Nat.zero_mul];exact av⟩
 case round=>
  obtain⟨j,H,Z,hj,rfl,HI,aj⟩:=hrel;have v:=HN.out ();clear av
  by_cases hpos:0<j
  ·obtain⟨i,rfl⟩:∃i,j=i+1:=⟨j-1,by omega⟩
   have e1:(((i+1:Nat):Int)-1)=(i:Int):=by omega
   rw[e1]
   have i0:(0:Int)≤i:=by omega
   have i1:(i:Int)<Q:=by omega
   have HJ:Hu (i+1≤Q):=fun _=>hj;clear e1 hpos v hj
   go_wp2_with (go_at_call 42;refine(aG.out i _ Z _ (HJ.out ()) aj.out (HI.out ()).1).mono ?_;rintro e W2 ⟨d,Z',rfl,hd,aa,I,G2⟩;have D2:=(aj.out.setB (show 0<L by have:=(HN.out ()).2.2.2.2.2.2.2.2.1;omega) Z').gr G2;have aH:W2.cell? ⟨D,i,none⟩=some (.int .u32 ((dg (H*pq (i+1)) i:Nat):Int)):=(by rw[cell_blk,D2.h2];exact nd_get Q _ i (HJ.out ()));have aR:W2.frozen? ⟨D,i,none⟩=false:=frozen_frz _ _ _ D2.f2;have aS:(d:Int)%4294967296=d:=(by omega);have aw:Hid (DW w W2 b D c K V L Q Z' (H*pq (i+1))):=D2;have aI:Hu (d<4294967296∧Z'+d*(V*pq i)=Z∧Z'<V*pq i):=(fun _=>⟨hd,aa,I⟩);clear D2 hd aa I G2)
   go_roundw
   case rel=>
    have hz:=aI.out ();refine⟨i,H*4294967296+d,Z',by have:=HJ.out ();omega,rfl,fun _=>⟨hz.2.2,q_next32 Y Z V H i d Z' (HI.out ()).2 hz.2.1⟩,?_⟩
    show DW w (W2.setCell ⟨D,i,none⟩ (.int .u32 d)) b D c K V L Q Z' ((H*4294967296+d)*pq i)
    rw[setCell_setBlk,aw.out.h2,nd_set_low Q H i d hz.1];exact aw.out.set2 (by have:=HJ.out ();omega) _
   case measure=>simp[intOf]
  ·obtain rfl:j=0:=by omega
   obtain⟨I,aa⟩:=HI.out ();have A:=aj.out;rw[pq_zero,Nat.mul_one]at I aa A;obtain⟨aJ,aK⟩:=HF.out H Z aa I
   have ax:H<pq Q:=by
    have G:V*H<V*pq Q:=by have:=v.2.2.2.2.1;omega
    exact Nat.lt_of_mul_lt_mul_left G
   have ay:=Nat.lt_trans I v.2.1;have aT:=(dl_le Z K).2 ay;have SZ:Sl wr (some ⟨b,0,none⟩) Z:=fun i hi=>⟨b,rfl,A.pb,by rw[A.hb];exact nd_get L Z i (by omega)⟩;have SH:=Sl.of_blk A.p2 A.h2 ax;have aL:Hid (∀W,Gr wr W→Calls prog 32 #[.slice (some ⟨D,0,none⟩) Q Q] W fun e l=>e=.returned (.slice (some ⟨D,0,none⟩) (dl H) Q)∧l=W):=fun W gW=>trim_nd W D Q H (by omega) ax (by rw[gW.blk _ A.p2];exact A.h2)
   have aM:Hid (∀W,Gr wr W→Calls prog 32 #[.slice (some ⟨b,0,none⟩) K L] W fun e l=>e=.returned (.slice (some ⟨b,0,none⟩) (dl Z) L)∧l=W):=fun W gW=>trim_any W b K L Z (by omega) (by omega) ay fun i hi=>by rw[gW.blk _ A.pb,A.hb];exact nd_get L Z i (by omega)
   have aO:Hid _:=fun W gW=>by
    have G:=rshr_any Z L s (some ⟨b,0,none⟩) W (SZ.gr gW) (by omega) (by have:=HS.out ();omega);rw[aK]at G;exact G
   have aP:Hid (Sl wr (some ⟨D,0,none⟩) H):=SH;have aQ:Hid _:=A.g;have az:Hu (x/m=H):=fun _=>aJ
   go_upto_region 15 with fail
   go_region_with (first
    | (go_at_call_of 32 (Value.slice (some ⟨D,0,none⟩) Q Q);refine(aL.out _ ?_).mono ?_;exact grA;rintro e l ⟨rfl,rfl⟩)
    | (go_at_call 32;refine(aM.out _ ?_).mono ?_;exact grA;rintro e l ⟨rfl,rfl⟩)
    | (go_at_call 35;refine(aO.out _ ?_).mono ?_;exact grA;rintro e l ⟨pR,nR,rfl,SR,gR,rfl⟩))
   all_goals
    go_wp2_with fail
    go_ret2
    refine⟨some ⟨D,0,none⟩,Q,pR,nR,by rw[az.out ()];rfl,?_,?_,?_⟩
    ·rw[az.out ()];exact aP.out.gr grA
    ·first|exact SR|(rw[←drew_gro];exact SR)
    ·refine Gr.trans aQ.out ?_;exact grA
theorem rdiv_any(x m n n':Nat)(p q:Option Addr)(w:World)(hp:Sl w p x)(hq:Sl w q m)(hx:dl x≤1000)(hm:dl m≤1000)(h0:0<m):
 Calls prog 31 #[.slice p (dl x) n,.slice q (dl m) n'] w (Nm2 (x/m) (x%m) w):=by
 by_cases h:x<m
 ·exact rdiv_less x m n n' p q w hp hq hx hm h
 ·by_cases h1:dl m=1
  ·exact rdiv_one x m n n' p q w hp hq hx h1 h0 (by omega)
  ·have d:dl m≠0:=fun e=>by have:=dl_eq_zero m e;omega
   exact rdiv_long x m n n' (dl m-2) p q w hp hq hx (by omega) h0 (by omega)
theorem rmod_any(x m n n':Nat)(p q:Option Addr)(w:World)(hp:Sl w p x)(hq:Sl w q m)(hx:dl x≤1000)(hm:dl m≤1000)(h0:0<m):
 Calls prog 15 #[.slice p (dl x) n,.slice q (dl m) n'] w (Nm (x%m) w):=by
 have d:=rdiv_any x m n n' p q w hp hq hx hm h0;obtain⟨X,f⟩:=exl (dl x);obtain⟨K,h⟩:=exl (dl m);rw[f,h]at d ⊢;have i:Hu (Calls prog 31 #[.slice p X n,.slice q K n'] w (Nm2 (x/m) (x%m) w)):=fun _=>d
 go_enter func15,ntmps15
 go_wp2_with (go_at_call 31;refine(i.out ()).mono ?_;rintro e A ⟨B,C,j,l,rfl,D,v,g,rfl⟩)
 go_ret
 exact⟨j,l,rfl,v,⟨g,rfl⟩⟩
end
end
end Go.Proofs.Ytonbpnbhjghfbaa