import Derived.Deep.AppendSrc
import Derived.Test.YtghidgcekieljaaGreatXARAddM
import Derived.Test.YtghidgcekieljaaGreatXAMixX
namespace Go.Proofs.YtghidgcekieljaaGreat
open Go.RowKit Go.Proofs.Tryz
set_option maxRecDepth 100000
set_option maxHeartbeats 8000000
section
attribute [local go_sem ↓] uz1
attribute [local go_sem] uz2
section
attribute [local go_sem ↓] bsl_is
def appS(ty:TypeId)(xs:Array Value):Sem Value:=Builtin.append_ #[29,29] ty xs
theorem app_is(ty:TypeId)(xs:Array Value):Builtin.append_ #[29,29] ty xs=appS ty xs:=rfl
theorem infoU:(prog.info? 61).map (fun i=>(i.zero,i.size,i.bytes))=some (some (.int .u32 0),1,4):=by kernel_rfl
theorem append_digits(w:World)(b n x:Nat)(p:Option Addr)(h:Sl w p x)(hx:dl x≤1000):
 ∃p' c w',(∀ty,(appS ty #[.slice (some ⟨b,0,none⟩) 0 0,.slice p (dl x) n]).run prog w=.ok (.slice p' (dl x) c) w')∧Sl w' p' x∧Gr w w':=by
 obtain⟨i,hi,hz,hs,hb⟩:∃i,prog.info? 61=some i∧i.zero=some (.int .u32 0)∧i.size=1∧i.bytes=4:=by
  have h0:=infoU
  cases hc:prog.info? 61 with
  | none=>rw[hc]at h0;cases h0
  | some i=>
   rw[hc]at h0;simp only[Option.map_some,Option.some.injEq,Prod.mk.injEq]at h0;exact⟨i,rfl,h0.1,h0.2.1,h0.2.2⟩
 by_cases h0:dl x=0
 ·have e0:=dl_eq_zero x h0;subst e0
  have hsrc:Src prog i.size 29 (.slice p 0 n) 0 [] w:=by
   cases p with
   | none=>exact Src.ofNil w underlying29 n
   | some a=>exact Src.ofSlice w underlying29 a 0 n [] (by simp) (fun j u hj=>by simp at hj) (fun u hu=>by cases hu)
  refine⟨some ⟨b,0,none⟩,0,w,fun ty=>?_,Sl.zero _ _,Gr.refl _⟩;have hr:=run_append_room_src w 29 29 ty 61 i underlying29 hi b 0 0 0 (.slice p 0 n) 0 [] hsrc (by omega) (fun j hj=>by simp at hj) (fun j hj=>by simp at hj);rw[dl_zero];exact hr
 ·obtain⟨c,rfl,hc,hd⟩:=h.some (by omega)
  have hnd:(nd (dl x) x).toList.length=dl x*i.size:=by rw[hs,Array.length_toList,nd_size,Nat.mul_one]
  have hsrc:Src prog i.size 29 (.slice (some ⟨c,0,none⟩) (dl x) n) (dl x) (nd (dl x) x).toList w:=by
   refine Src.ofSlice w underlying29 ⟨c,0,none⟩ (dl x) n _ hnd (fun j u hj=>?_) (fun u hu=>?_)
   ·rw[Array.getElem?_toList]at hj
    have hjl:j<dl x:=by
     by_cases hl:j<dl x
     ·exact hl
     ·rw[Array.getElem?_eq_none (by rw[nd_size];omega)]at hj;cases hj
    rw[nd_get _ _ _ hjl]at hj
    have e:(⟨c,0,none⟩:Addr).add j=⟨c,j,none⟩:=by rw[Addr.add_lit,Nat.zero_add]
    rw[e,cell_blk,hd j hjl,hj]
   ·obtain⟨j,hj⟩:=List.mem_iff_getElem?.1 hu;rw[Array.getElem?_toList]at hj
    have hjl:j<dl x:=by
     by_cases hl:j<dl x
     ·exact hl
     ·rw[Array.getElem?_eq_none (by rw[nd_size];omega)]at hj;cases hj
    rw[nd_get _ _ _ hjl]at hj
    cases hj
    rfl
  have hr:=fun ty=>run_append_grow_src w 29 29 ty 61 i _ underlying29 hi hz (some ⟨b,0,none⟩) 0 0 [] (run_firstCells_some w.drew i.size 0 ⟨b,0,none⟩ 0 0 [] (by simp) (fun j u hj=>by simp at hj)) (.slice (some ⟨c,0,none⟩) (dl x) n) (dl x) (nd (dl x) x).toList hsrc (by omega) (by omega) (by rw[hb,Nat.zero_add];simp only[Builtin.nextslicecap];rw[if_pos (by omega)];omega);simp only[Nat.zero_add,List.nil_append]at hr
  refine⟨_,_,_,hr,?_,?_⟩
  ·intro k hk
   refine⟨w.heap.size,rfl,?_,?_⟩
   ·simp[go_sem]
   ·have e:w.heap.size=w.drew.heap.size:=by simp[go_sem]
    rw[blk_alloc_at _ _ _ _ _ e,Array.getElem?_append_left (by simp[nd_size,hk])];simp[nd_get _ _ _ hk]
  ·exact grA
def rdD(w:World)(b i:Nat):Nat:=match (blk w b)[i]? with|some (.int _ z)=>z.toNat|_=>0
def numD(f:Nat→Nat):Nat→Nat
 | 0=>0
 | n+1=>numD f n+f n*pq n
def mS(w:World):Value→Nat
 | .slice (some ⟨b,_,_⟩) n _=>numD (rdD w b) n
 | _=>0
theorem numD_is(f:Nat→Nat)(x:Nat):∀n,(∀i,i<n→f i=dg x i)→numD f n=x%pq n
 | 0,_=>by rw[pq_zero,Nat.mod_one];rfl
 | n+1,h=>by
  show numD f n+f n*pq n=_
  rw[numD_is f x n (fun i hi=>h i (by omega)),h n (by omega),dmod_succ]
theorem mS_is{w:World}{p:Option Addr}{x n:Nat}(h:Sl w p x):mS w (.slice p (dl x) n)=x:=by
 by_cases h0:dl x=0
 ·have e:=dl_eq_zero x h0;subst e
  cases p <;> rfl
 ·obtain⟨b,rfl,hb,hc⟩:=h.some (by omega)
  show numD (rdD w b) (dl x)=x
  rw[numD_is (rdD w b) x (dl x) (fun i hi=>by unfold rdD;rw[hc i hi];rfl),Nat.mod_eq_of_lt (dl_lt x)]
theorem subM_is(t c m:Nat)(ht:t<m)(hc:c<m):subM t c m<m∧∃k:Int,(subM t c m:Int)=t-c+k*m:=by
 unfold subM
 split
 ·exact⟨by omega,0,by omega⟩
 ·exact⟨by omega,1,by omega⟩
structure RI(a m r s t u:Nat):Prop where
 rm:r≤m
 sm:s≤m
 tm:t<m
 um:u<m
 d1:(m:Int)∣(a:Int)*t-r
 d2:(m:Int)∣(a:Int)*u-s
 g:Nat.gcd r s=Nat.gcd m a
theorem RI.start(a m:Nat)(h:1<m):RI a m m (a%m) 0 1:=by
 refine⟨Nat.le_refl _,Nat.le_of_lt (Nat.mod_lt _ (by omega)),by omega,h,⟨-1,by simp⟩,⟨((a/m:Nat):Int),?_⟩,?_⟩
 ·have h1:=Nat.div_add_mod a m;obtain⟨q,hq⟩:=exl (a/m);obtain⟨v,hv⟩:=exl (a%m);rw[hq,hv]at h1 ⊢
  have h2:(m:Int)*q+v=a:=by exact_mod_cast h1
  rw[←h2]
  grind
 ·rw[Nat.gcd_comm,←Nat.gcd_rec]
theorem RI.step{a m r s t u:Nat}(h:RI a m r s t u)(h0:0<s)(q v c x:Nat)(hq:r/s=q)(hv:r%s=v)(hc:q%m*u%m=c)(hx:subM t c m=x):RI a m s v u x∧v<s:=by
 have hm:0<m:=by have:=h.tm;omega
 have hvs:v<s:=by rw[←hv];exact Nat.mod_lt _ h0
 have hcm:c<m:=by rw[←hc];exact Nat.mod_lt _ hm
 obtain⟨h1,k,h2⟩:=subM_is t c m h.tm hcm;rw[hx]at h1 h2
 refine⟨⟨h.sm,by have:=h.sm;omega,h.um,h1,h.d2,?_,?_⟩,hvs⟩
 ·obtain⟨c1,e1⟩:=h.d1;obtain⟨c2,e2⟩:=h.d2;have h3:=Nat.div_add_mod r s;rw[hq,hv]at h3
  have h4:(s:Int)*q+v=r:=by exact_mod_cast h3
  rw[pow_mul]at hc;have h5:=Nat.div_add_mod (q*u) m;rw[hc]at h5;obtain⟨k',hk⟩:∃k',q*u/m=k':=⟨_,rfl⟩;rw[hk]at h5
  have h6:(m:Int)*k'+c=q*u:=by exact_mod_cast h5
  refine⟨c1-q*c2+a*k'+a*k,?_⟩;rw[h2]
  grind
 ·rw[←h.g,←hv,Nat.gcd_comm,←Nat.gcd_rec,Nat.gcd_comm]
theorem RI.last{a m r t u:Nat}(h:RI a m r 0 t u)(h1:1<m):r=Nat.gcd m a∧0<r∧(r=1→a*t%m=1):=by
 have hg:=h.g;rw[Nat.gcd_zero_right]at hg;have hp:0<Nat.gcd m a:=Nat.gcd_pos_of_pos_left _ (by omega);refine⟨hg,by omega,fun e=>?_⟩;obtain⟨c,hc⟩:=h.d1;rw[e]at hc;obtain⟨k,hk⟩:=inv_pos (a*t) m c h1 (by rw[←hc];simp);rw[hk,Nat.add_mul_mod_self_left,Nat.mod_eq_of_lt h1]
def InvR(a m:Nat)(w:World)(e:Ending)(w':World):Prop:=
 (Nat.gcd m a=1→∃t p n,t<m∧a*t%m=1∧e=.returned (.tuple #[.slice p (dl t) n,.bool true])∧Sl w' p t)∧(Nat.gcd m a≠1→e=.returned (.tuple #[.slice none 0 0,.bool false]))∧Gr w w'
attribute [local go_sem ↓] app_is
theorem rinv_any(a m n n':Nat)(p q:Option Addr)(w:World)(hp:Sl w p a)(hq:Sl w q m)(ha:dl a≤400)(hm:dl m≤400)(h1:1<m):
 Calls prog 39 #[.slice p (dl a) n,.slice q (dl m) n'] w (InvR a m w):=by
 have H1:Hid (∀w' r z k k' p1 p',dl r≤400→Sl w' p1 r→Sl w' p' 1→cmpZ r 1=z→Calls prog 14 #[.slice p1 (dl r) k,.slice p' 1 k'] w' fun e w''=>e=.returned (.int .i64 z)∧Gr w' w''):=fun w' r z k k' p1 p' h2 h3 h4 e=>e▸rcmp_any r 1 k k' p1 p' w' h3 h4 (by omega) (by decide)
 have hcm:cmpZ m 1=1:=by unfold cmpZ;split <;> (try split) <;> omega
 have hc:=fun w' k' p' (g:Gr w w') (h:Sl w' p' 1)=>H1.out w' m 1 n' k' q p' hm (hq.gr g) h hcm;have hmod:=fun w' (g:Gr w w')=>rmod_any a m n n' p q w' (hp.gr g) (hq.gr g) (by omega) (by omega) (by omega);have hqm:=fun w' k p' x y (g:Gr w w') (h:Sl w' p' x) (hx:dl x≤400) (e:x%m=y)=>(e▸rmod_any x m k n' p' q w' h (hq.gr g) (by omega) (by omega) (by omega):Calls prog 20 #[.slice p' (dl x) k,.slice q (dl m) n'] w' (Nm y w'));have hmm:=fun w' k k' p1 p2 x y z (g:Gr w w') (s1:Sl w' p1 x) (s2:Sl w' p2 y) (l1:x<m) (l2:y<m) (e:x*y%m=z)=>(e▸rmulmod_any x y m k k' n' p1 p2 q w' s1 s2 (hq.gr g) (dl_low x m 400 (by omega) hm) (dl_low y m 400 (by omega) hm) hm (by omega):Calls prog 36 #[.slice p1 (dl x) k,.slice p2 (dl y) k',.slice q (dl m) n'] w' (Nm z w'));have hsm:=fun w' k k' p1 p2 x y z (g:Gr w w') (s1:Sl w' p1 x) (s2:Sl w' p2 y) (l1:x<m) (l2:y<m) (e:subM x y m=z)=>(e▸rsubmod_any x y m k k' n' p1 p2 q w' s1 s2 (hq.gr g) hm l1 l2:Calls prog 38 #[.slice p1 (dl x) k,.slice p2 (dl y) k',.slice q (dl m) n'] w' (Nm z w'));have hap:=fun w' b (g:Gr w w')=>append_digits w' b n' m q (hq.gr g) (by omega);have HB:Hid _:=fun x hx=>dl_low x m 400 hx hm;have HS:Hid _:=RI.start a m h1;obtain⟨X,eX⟩:=exl (a%m);obtain⟨A,eA⟩:=exl (dl a);obtain⟨K,eK⟩:=exl (dl m);simp only[eX,eA,eK]at hc hmod hqm hmm hsm hap HS ⊢;have HC:Hid _:=hc;have HM:Hid _:=hmod;have HQ:Hid _:=hqm;have HMM:Hid _:=hmm;have HSM:Hid _:=hsm;have HA:Hid _:=hap;have HK:Hu (dl m=K∧1<m):=fun _=>⟨eK,h1⟩;have hb1:∀w,(bslS 29 1 #[(0,.int .u32 1)]).run prog w=.ok (.slice (some ⟨w.heap.size,0,none⟩) 1 1) (w.alloc (.cells (nd 1 1) 61)):=fun w=>build1 1 (by decide) w
 have hb0:∀w,(bslS 29 0 #[]).run prog w=.ok (.slice (some ⟨w.heap.size,0,none⟩) 0 0) (w.alloc (.cells #[] 61)):=fun w=>by kernel_rfl
 clear hc hmod hqm hmm hsm hap hp hq ha hm h1 hcm eX eA eK
 go_enter func39,ntmps39
 go_upto_region 6 with (first
  | (go_at_call 14;refine(HC.out _ _ _ ((Gr.refl _).alloc _) (sl_new w)).mono ?_;rintro e W1 ⟨rfl,G1⟩;have GW1:=(((Gr.refl w).alloc _).trans G1).alloc (.cells #[] 61);obtain⟨pr,cr,Wa,hrun,SR,GA⟩:=HA.out _ W1.heap.size GW1;have GWa:=GW1.trans GA)
  | (go_at_call 20;refine(HM.out _ GWa).mono ?_;rintro e W2 ⟨ps,ns,rfl,SS,G2⟩;have GW2:=GWa.trans G2;have SR2:=SR.gr G2))
 have HS0:Hid (Sl W2 pr m∧Sl W2 ps X∧Gr w W2):=⟨SR2,SS,GW2⟩;clear hrun HC HM HA SR GA GWa SS G2 GW2 SR2 G1 GW1
 go_loopw [6,7,8,9] (fun ra sa ta ua wr=>∃(r s t u n1 n2 n3 n4:Nat) (p1 p2 p3 p4:Option Addr),ra=.slice p1 (dl r) n1∧sa=.slice p2 (dl s) n2∧ta=.slice p3 (dl t) n3∧ua=.slice p4 (dl u) n4∧Hid (RI a m r s t u)∧Hid (Sl wr p1 r∧Sl wr p2 s∧Sl wr p3 t∧Sl wr p4 u∧Gr w wr)) (fun _ sa _ _ wr=>mS wr sa)
 case atStart=>
  refine⟨m,X,0,1,cr,ns,0,1,pr,ps,none,some ⟨W2.heap.size,0,none⟩,by rw[(HK.out ()).1],rfl,rfl,rfl,HS,⟨HS0.out.1.gr ((Gr.refl _).alloc _),HS0.out.2.1.gr ((Gr.refl _).alloc _),Sl.zero _ _,sl_new W2,HS0.out.2.2.alloc _⟩⟩
 case round=>
  obtain⟨r,s,t,u,n1,n2,n3,n4,p1,p2,p3,p4,rfl,rfl,rfl,rfl,HI,HL⟩:=hrel;clear HS HS0
  by_cases hs:s=0
  ·subst hs;obtain⟨l1,l2,l3⟩:=HI.out.last (HK.out ()).2;have hr4:=HB.out r HI.out.rm;have htm:=HI.out.tm;rw[dl_zero]
   by_cases hr1:r=1
   ·have HC1:Hid _:=fun w' k' p' g h=>H1.out w' r 0 n1 k' p1 p' hr4 g h (by rw[hr1];rfl);have HE:Hid (Nat.gcd m a=1∧a*t%m=1∧t<m):=⟨by rw[←l1];exact hr1,l3 hr1,htm⟩;clear H1 HQ HMM HSM HB HK HI hr1 l1 l2 l3 hr4 htm hb0
    go_wp2_with (go_at_call 14;refine(HC1.out _ _ _ (HL.out.1.gr ((Gr.refl _).alloc _)) (sl_new _)).mono ?_;rintro e W3 ⟨rfl,G3⟩;have G3':=((Gr.refl _).alloc _).trans G3)
    go_ret2
    exact⟨fun _=>⟨t,p3,n3,HE.out.2.2,HE.out.2.1,rfl,HL.out.2.2.1.gr G3'⟩,fun h=>absurd HE.out.1 h,HL.out.2.2.2.2.trans G3'⟩
   ·have HC1:Hid _:=fun w' k' p' g h=>H1.out w' r 1 n1 k' p1 p' hr4 g h (by unfold cmpZ;split <;> (try split) <;> omega)
    have HE:Hid (¬Nat.gcd m a=1):=by rw[←l1];exact hr1
    clear H1 HQ HMM HSM HB HK HI hr1 l1 l2 l3 hr4 htm hb0
    go_wp2_with (go_at_call 14;refine(HC1.out _ _ _ (HL.out.1.gr ((Gr.refl _).alloc _)) (sl_new _)).mono ?_;rintro e W3 ⟨rfl,G3⟩;have G3':=((Gr.refl _).alloc _).trans G3)
    go_ret2
    exact⟨fun h=>absurd h HE.out,fun _=>rfl,HL.out.2.2.2.2.trans G3'⟩
  ·have s0:0<s:=by omega
   have hl0:(0:Int)<((dl s:Nat):Int):=by
    have:dl s≠0:=fun e=>hs (dl_eq_zero s e)
    omega
   have hl1:=decide_eq_true hl0;obtain⟨b,hb⟩:=exl (r/s);obtain⟨v,hv⟩:=exl (r%s);obtain⟨y,hy⟩:=exl (b%m);obtain⟨c,hc⟩:=exl (y*u%m);obtain⟨x,hx⟩:=exl (subM t c m);have hi:=HI.out
   have hm0:0<m:=by have:=(HK.out ()).2;omega
   have HN:=hi.step s0 b v c x hb hv (by rw[hy];exact hc) hx
   have hbr:b≤r:=by rw[←hb];exact Nat.div_le_self _ _
   have HF:Hid (b%m=y∧y*u%m=c∧subM t c m=x∧dl b≤400∧y<m∧u<m∧t<m∧c<m∧dl v≤400∧RI a m s v u x∧v<s):=⟨hy,hc,hx,HB.out b (by have:=hi.rm;omega),by rw[←hy];exact Nat.mod_lt _ hm0,hi.um,hi.tm,by rw[←hc];exact Nat.mod_lt _ hm0,HB.out v (by have:=hi.sm;have:=HN.2;omega),HN.1,HN.2⟩
   have HD:Hu (Calls prog 43 #[.slice p1 (dl r) n1,.slice p2 (dl s) n2] wr (Nm2 b v wr)):=fun _=>by
    have h:=rdiv_any r s n1 n2 p1 p2 wr HL.out.1 HL.out.2.1 (by have:=HB.out r hi.rm;omega) (by have:=HB.out s hi.sm;omega) s0;rw[hb,hv]at h;exact h
   go_wp2_with (first
    | (go_at_call 43;refine(HD.out ()).mono ?_;rintro e W3 ⟨pb,nb,pv,nv,rfl,Sb,Sv,G3⟩;have GW3:=HL.out.2.2.2.2.trans G3)
    | (go_at_call 20;refine(HQ.out _ nb pb b y GW3 Sb HF.out.2.2.2.1 HF.out.1).mono ?_;rintro e W4 ⟨py,ny,rfl,Sy,G4⟩;have GW4:=GW3.trans G4)
    | (go_at_call 36;refine(HMM.out _ ny n4 py p4 y u c GW4 Sy (HL.out.2.2.2.1.gr (G3.trans G4)) HF.out.2.2.2.2.1 HF.out.2.2.2.2.2.1 HF.out.2.1).mono ?_;rintro e W5 ⟨pc,nc,rfl,Sc,G5⟩;have GW5:=GW4.trans G5)
    | (go_at_call 38;refine(HSM.out _ n3 nc p3 pc t c x GW5 (HL.out.2.2.1.gr ((G3.trans G4).trans G5)) Sc HF.out.2.2.2.2.2.2.1 HF.out.2.2.2.2.2.2.2.1 HF.out.2.2.1).mono ?_;rintro e W6 ⟨px,nx,rfl,Sx,G6⟩;have GW6:=(GW5.trans G6).alloc (.cells #[] 61);have GG:=(((G4.trans G5).trans G6).alloc (.cells #[] 61));obtain⟨pw',cw,Wa,hrun,SV,GA⟩:=append_digits _ W6.heap.size nv v pv (Sv.gr GG) (Nat.le_trans HF.out.2.2.2.2.2.2.2.2.1 (by decide))))
   go_roundw
   case rel=>
    have GT:=(G3.trans GG).trans GA;exact⟨s,v,u,x,n2,cw,n4,nx,p2,pw',p4,px,rfl,rfl,rfl,rfl,HF.out.2.2.2.2.2.2.2.2.2.1,⟨HL.out.2.1.gr GT,SV,HL.out.2.2.2.1.gr GT,Sx.gr (((Gr.refl _).alloc _).trans GA),GW6.trans GA⟩⟩
   case measure=>
    rw[mS_is SV,mS_is HL.out.2.1];exact HF.out.2.2.2.2.2.2.2.2.2.2
end
end
section
section
variable {a b m c n n' n'':Nat} {p q r:Option Addr} {w:World}
theorem mm_any(sa:Sl w p a)(sb:Sl w q b)(sm:Sl w r m)(ha:a<m)(hb:b<m)(hm:dl m≤400)(hc:a*b%m=c):
 Calls prog 36 #[.slice p (dl a) n,.slice q (dl b) n',.slice r (dl m) n''] w (Rt (.n c) w):=
 Rt.n (hc▸rmulmod_any a b m n n' n'' p q r w sa sb sm (dl_low a m 400 (by omega) hm) (dl_low b m 400 (by omega) hm) hm (by omega))
theorem am_any(sa:Sl w p a)(sb:Sl w q b)(sm:Sl w r m)(ha:a<m)(hb:b<m)(hm:dl m≤400)(hc:(a+b)%m=c):
 Calls prog 26 #[.slice p (dl a) n,.slice q (dl b) n',.slice r (dl m) n''] w (Rt (.n c) w):=
 Rt.n (hc▸raddmod_any a b m n n' n'' p q r w sa sb sm hm ha hb)
theorem sm_any(sa:Sl w p a)(sb:Sl w q b)(sm:Sl w r m)(ha:a<m)(hb:b<m)(hm:dl m≤400)(hc:subM a b m=c):
 Calls prog 38 #[.slice p (dl a) n,.slice q (dl b) n',.slice r (dl m) n''] w (Rt (.n c) w):=
 Rt.n (hc▸rsubmod_any a b m n n' n'' p q r w sa sb sm hm ha hb)
theorem iv_any(sa:Sl w p a)(sm:Sl w r m)(ha:a<m)(hm:dl m≤400)(h1:1<m)(hc:c<m)(hac:a*c%m=1):
 Calls prog 39 #[.slice p (dl a) n,.slice r (dl m) n'] w (Rt (.nb c true) w):=by
 have hg:Nat.gcd m a=1:=by
  have h1:=Nat.gcd_dvd_left m a;have h2:=Nat.dvd_trans (Nat.gcd_dvd_right m a) (Nat.dvd_mul_right a c);have h3:=(Nat.dvd_mod_iff h1).2 h2;rw[hac]at h3;exact Nat.dvd_one.1 h3
 refine(rinv_any a m n n' p r w sa sm (dl_low a m 400 (by omega) hm) hm h1).mono fun e w' h=>?_;obtain⟨t,p',k,ht,hat,he,hS⟩:=h.1 hg;obtain rfl:=inv_one a m t c ht hc hat hac;exact⟨_,he,⟨_,_,rfl,hS⟩,h.2.2⟩
theorem cz_any{z:Int}(sa:Sl w p a)(sb:Sl w q b)(ha:dl a≤400)(hb:dl b≤400)(hz:cmpZ a b=z):
 Calls prog 14 #[.slice p (dl a) n,.slice q (dl b) n'] w (Rt (.c (.int .i64 z)) w):=
 Rt.c (hz▸rcmp_any a b n n' p q w sa sb (by omega) (by omega))
theorem nt_any(sa:Sl w p a):Calls prog 19 #[.slice p (dl a) n] w (Rt (.c (.agg (nw 9 a))) w):=Rt.c (rnat_any a n p w sa)
theorem fm_any(ha:a<M):Calls prog 9 #[.agg (nw 9 a)] w (Rt (.n a) w):=Rt.n (from_any a ha w)
end
theorem subM_lt{a b m:Nat}(ha:a<m)(hb:b<m):subM a b m<m:=by unfold subM;split <;> omega
end
section
section
variable (p:Option Addr) (x n:Nat) (q:Option Addr) (y m:Nat) (f:Bool)
theorem ptA_size:(ptA p x n q y m f).size=3:=rfl
theorem ptA_one:(ptA p x n q y m f).all (·.oneCell')=true:=by simp[ptA,Value.oneCell']
theorem loadPt_is:LdI 39:=fun _=>rfl
theorem storePt_is:StI 39:=fun _ _=>rfl
theorem loadPt:LdS 39 3:=ldS
theorem storePt:StS 39 3 (ptA p x n q y m f):=stS (ptA_size p x n q y m f) (ptA_one p x n q y m f)
theorem zvPt_is:zeroValue 39=zvS 39:=rfl
theorem zvPt(w:World):(zvS 39).run prog w=.ok (.agg (ptA none 0 0 none 0 0 false)) w:=by kernel_rfl
theorem buildPt_is(p:Array (Nat×Value)):Instr.build 39 p=buildF 39 p:=rfl
theorem buildPt3(w:World):(buildF 39 #[(0,.slice p (dl x) n),(1,.slice q (dl y) m),(2,.bool f)]).run prog w=.ok (.agg (ptA p x n q y m f)) w:=by kernel_rfl
theorem buildPt2(w:World):(buildF 39 #[(0,.slice p (dl x) n),(1,.slice q (dl y) m)]).run prog w=.ok (.agg (ptA p x n q y m false)) w:=by kernel_rfl
theorem buildPtI(w:World):(buildF 39 #[(2,.bool f)]).run prog w=.ok (.agg (ptA none 0 0 none 0 0 f)) w:=by kernel_rfl
theorem rd_pt:RdC 39 (ptA p x n q y m f):=rdC 3 (ptA_size p x n q y m f)
theorem ptA_no(i:Nat)(z:Int):(ptA p x n q y m f)[i]? ≠ some (Value.int .u32 z):=by
 intro h
 match i,h with
 | 0,h=>simp[ptA]at h
 | 1,h=>simp[ptA]at h
 | 2,h=>simp[ptA]at h
 | k+3,h=>simp[ptA]at h
end
abbrev uz9:=And.intro @loadPt_is<|And.intro @storePt_is<|And.intro @zvPt_is<|And.intro @buildPt_is<|And.intro @loadC_is<|And.intro @loadPn_is<|And.intro @loadCu_is<|And.intro @storePn_is<|And.intro @zvPn_is<|And.intro @buildPn_is<|And.intro @storeCu_is<|And.intro @zvCu_is @buildCu_is
abbrev uz10:=And.intro @loadPt<|And.intro @storePt<|And.intro @zvPt<|And.intro @buildPt3<|And.intro @buildPt2<|And.intro @buildPtI<|And.intro @ptA_size<|And.intro @crA_size<|And.intro @loadC<|And.intro @loadPn<|And.intro @loadPX<|And.intro @loadPY<|And.intro @pnt_size<|And.intro @pnt_X<|And.intro @pnt_Y<|And.intro @storePn<|And.intro @zvPn<|And.intro @buildPn2<|And.intro @buildPn3<|And.intro @storeCu<|And.intro @zvCu<|And.intro @buildCu9<|And.intro @cu_size @loadCu
abbrev uz17:=And.intro @bsl_is<|And.intro @loadC_is<|And.intro @storeC_is<|And.intro @loadPt_is<|And.intro @storePt_is<|And.intro @zvPt_is<|And.intro @buildPt_is<|And.intro @loadPn_is<|And.intro @storePn_is<|And.intro @zvPn_is<|And.intro @loadCu_is<|And.intro @storeCu_is<|And.intro @zvCu_is<|And.intro @buildCu_is @buildPn_is
abbrev uz18:=And.intro @loadC<|And.intro @storeC0<|And.intro @storeCr<|And.intro @crA_size<|And.intro @loadPt<|And.intro @storePt<|And.intro @zvPt<|And.intro @ptA_size<|And.intro @loadPn<|And.intro @storePn<|And.intro @zvPn<|And.intro @pnt_size<|And.intro @loadCu<|And.intro @storeCu<|And.intro @zvCu<|And.intro @cu_size<|And.intro @buildCu0<|And.intro @buildPnI<|And.intro @buildPn2<|And.intro @loadCP<|And.intro @loadCA<|And.intro @loadCB<|And.intro @loadCN<|And.intro @loadCG<|And.intro @loadCX<|And.intro @loadCY<|And.intro @cu_P<|And.intro @cu_A<|And.intro @cu_B<|And.intro @cu_N<|And.intro @cu_G<|And.intro @cu_X<|And.intro @cu_Y<|And.intro @frz_setBlk<|And.intro @blk_setBlk<|And.intro @setBlk_setBlk @blk_other
end
section
attribute [local go_sem ↓] uz1
attribute [local go_sem] uz2
section
attribute [local go_sem ↓] uz9 Go.wp_at_zero Go.wp_at_succ
attribute [local go_sem] uz10
theorem dl_nought(x:Nat):((dl x:Int)==0)=decide (x=0):=by
 by_cases h:x=0
 ·subst h;rfl
 ·have:dl x≠0:=fun e=>h (dl_eq_zero x e);rw[decide_eq_false h,beq_eq_false_iff_ne]
  omega
theorem cmpZ_nought(a b:Nat):(cmpZ a b==0)=decide (a=b):=by
 unfold cmpZ
 by_cases h:a<b
 ·rw[if_pos h,decide_eq_false (by omega)];rfl
 ·by_cases h2:b<a
  ·rw[if_neg h,if_pos h2,decide_eq_false (by omega)];rfl
  ·rw[if_neg h,if_neg h2,decide_eq_true (by omega)];rfl
theorem rin_any(x y:Nat)(f:Bool)(hx:x<M)(hy:y<M)(w:World):
 Calls prog 10 #[.agg (pnt x y f)] w (Rt (.pt x y f) w):=by
 go_enter func10,ntmps10
 go_upto_region 1 with fail
 refine gen_w (fun v=>Gr w v∧Vr v (w.heap.size) (pnt x y f)∧Vr v (w.heap.size+1) (ptA none 0 0 none 0 0 false)) ⟨grA,vrA,vrA⟩ ?_;rintro v0 ⟨G,c1,c2⟩;refine wp_wT 9 [.c (pv (w.heap.size) 0),.N x,.n (x),.c (pv (w.heap.size) 9),.N y,.n (y),.c (pv (w.heap.size) 18),.c (.bool f),.pt (x) (y) f] [1,2,4,5,7,8] ⟨.g 25 0 c1 rfl,.k _ fun yy vv hg hh=>RtW.of_n (fm_any hx),.g 25 9 c1 rfl,.k _ fun yy vv hg hh=>RtW.of_n (fm_any hy),.o 4 18 c1 rfl (by exact pnt_18 _ _ _),.p (fun yy i=>match i with|0=>yy 2 0|_=>yy 5 0) fun yy vv hg hh=>⟨hh 2 rfl,hh 5 rfl⟩,⟨⟩⟩ (.s 39 (fun yy=>.pointer (some ⟨w.heap.size+1,0,none⟩)) (fun yy=>.agg (ptA (yy 8 0).1 (x) (yy 8 0).2 (yy 8 1).1 (y) (yy 8 1).2 f)) fun yw1 v1 hg h1=>?_);have HT:=(c2.gr hg).h;have FT:=(c2.gr hg).f;refine⟨setBlk v1 (w.heap.size+1) (ptA (yw1 8 0).1 (x) (yw1 8 0).2 (yw1 8 1).1 (y) (yw1 8 1).2 f),by simp[go_sem,exI,HT,FT],?_⟩;simp only[fzw];obtain⟨S1_8,T1_8⟩:Sl v1 (yw1 8 0).1 (x)∧Sl v1 (yw1 8 1).1 (y):=h1 8;clear h1;replace G:=G.trans hg;replace c1:=c1.gr hg;replace c2:=c2.gr hg;clear hg
 go_wp2_with fail
 exact bodyPost_ret (res_one results10 (rd_pt _ _ _ _ _ _ _ (by rfl) (blk_setBlk _ _ _ (by rw[HT];decide)))) rfl ⟨_,rfl,⟨_,_,_,_,rfl,Sl.set S1_8 (by rw[HT];exact ptA_no _ _ _ _ _ _ _),Sl.set T1_8 (by rw[HT];exact ptA_no _ _ _ _ _ _ _)⟩,gr_setNew G (by omega)⟩
theorem rout_any(x y:Nat)(f:Bool)(p q:Option Addr)(n m:Nat)(w:World)(Sx:Sl w p x)(Sy:Sl w q y):
 Cg 18 #[.agg (ptA p x n q y m f)] w (.agg (pnt x y f)):=by
 go_enter func18,ntmps18
 go_upto_region 1 with fail
 refine gen_w (fun v=>Gr w v∧Vr v (w.heap.size) (ptA p x n q y m f)∧Vr v (w.heap.size+1) (pnt 0 0 false)) ⟨grA,vrA,vrA⟩ ?_;rintro v0 ⟨G,c1,c2⟩;replace Sx:=Sx.gr G;replace Sy:=Sy.gr G;refine wp_wT 9 [.c (pv (w.heap.size) 0),.c (.slice p (dl (x)) n),.N x,.c (pv (w.heap.size) 1),.c (.slice q (dl (y)) m),.N y,.c (pv (w.heap.size) 2),.c (.bool f),.c (.agg (pnt x y f))] [1,2,4,5,7] ⟨.o 29 0 c1 rfl rfl,.k (fun yy =>#[.slice p (dl (x)) n]) fun yy vv hg hh=>RtW.of_c (nt_any (Sx.gr hg)),.o 29 1 c1 rfl rfl,.k (fun yy =>#[.slice q (dl (y)) m]) fun yy vv hg hh=>RtW.of_c (nt_any (Sy.gr hg)),.o 4 2 c1 rfl rfl,⟨⟩⟩ (.s 27 (fun yy=>.pointer (some ⟨w.heap.size+1,0,none⟩)) (fun yy=>.agg (pnt x y f)) fun yw1 v1 hg h1=>?_);have HT:=(c2.gr hg).h;have FT:=(c2.gr hg).f;refine⟨setBlk v1 (w.heap.size+1) (pnt x y f),by simp[go_sem,exI,HT,FT],?_⟩;simp only[fzw];replace G:=G.trans hg
 go_wp2_with fail
 exact bodyPost_ret (res_one results18 (rd_pn (by rfl) (blk_setBlk _ _ _ (by rw[HT,pnt_size];decide)))) rfl ⟨rfl,gr_setNew G (by omega)⟩
theorem rright_any(id:Int)(P A B N X Y:Nat)(qc:Nat→Option Addr×Nat)(a n:Nat)(p:Option Addr)(la:a<P)(lA:A<P)(lB:B<P)(hd:dl P≤400)(w:World)(HQ:∀k,Sl w (qc k).1 (six P A B N X Y k))(Sa:Sl w p a):
 Calls prog 37 #[.agg (crA id (six P A B N X Y) qc),.slice p (dl a) n] w (Nm (((a*a%P+A)%P*a%P+B)%P) w):=by
 have hP:0<P:=by omega
 obtain⟨t1,ht1⟩:=exl (a*a%P);have lt1:t1<P:=ht1▸Nat.mod_lt _ hP;obtain⟨t2,ht2⟩:=exl ((t1+A)%P);have lt2:t2<P:=ht2▸Nat.mod_lt _ hP;obtain⟨t3,ht3⟩:=exl (t2*a%P);have lt3:t3<P:=ht3▸Nat.mod_lt _ hP;obtain⟨t4,ht4⟩:=exl ((t3+B)%P);have lt4:t4<P:=ht4▸Nat.mod_lt _ hP;rw[show ((a*a%P+A)%P*a%P+B)%P=t4 by rw[ht1,ht2,ht3,ht4]]
 go_enter func37,ntmps37
 go_upto_region 1 with fail
 refine gen_w (fun v=>Gr w v∧Vr v (w.heap.size) (crA id (six P A B N X Y) qc)) ⟨grA,vrA⟩ ?_;rintro v0 ⟨G,c1⟩;replace HQ:=fun k=>(HQ k).gr G;replace Sa:=Sa.gr G;refine wp_wS [.c (.slice p (dl (a)) n),.c (.slice p (dl (a)) n),.c (pv (w.heap.size) 1),.c (.slice (qc 0).1 (dl (P)) (qc 0).2),.n (t1),.n (t1)] [3,4,5] ⟨.o 29 1 c1 rfl rfl,.k (fun yy =>#[.slice p (dl (a)) n,.slice p (dl (a)) n,.slice (qc 0).1 (dl (P)) (qc 0).2]) fun yy vv hg hh=>RtW.of_n (mm_any (Sa.gr hg) (Sa.gr hg) ((HQ 0).gr hg) la la hd ht1),.m 4,⟨⟩⟩ fun yw1 v1 hg h1=>?_;simp only[fzw];have S1_5:Sl v1 (yw1 5 0).1 (t1):=h1 5;clear h1;replace G:=G.trans hg;replace c1:=c1.gr hg;replace HQ:=fun k=>(HQ k).gr hg;replace Sa:=Sa.gr hg;clear hg
 go_upto_region 2 with fail
 refine wp_w [.c (.slice (yw1 5 0).1 (dl (t1)) (yw1 5 0).2),.c (pv (w.heap.size) 2),.c (.slice (qc 1).1 (dl (A)) (qc 1).2),.c (pv (w.heap.size) 1),.c (.slice (qc 0).1 (dl (P)) (qc 0).2),.n (t2),.c (.slice p (dl (a)) n),.c (pv (w.heap.size) 1),.c (.slice (qc 0).1 (dl (P)) (qc 0).2),.n (t3),.n (t3)] [2,4,5,8,9,10] ⟨.o 29 2 c1 rfl rfl,.o 29 1 c1 rfl rfl,.k (fun yy =>#[.slice (yw1 5 0).1 (dl (t1)) (yw1 5 0).2,.slice (qc 1).1 (dl (A)) (qc 1).2,.slice (qc 0).1 (dl (P)) (qc 0).2]) fun yy vv hg hh=>RtW.of_n (am_any (S1_5.gr hg) ((HQ 1).gr hg) ((HQ 0).gr hg) lt1 lA hd ht2),.o 29 1 c1 rfl rfl,.k (fun yy =>#[.slice (yy 5 0).1 (dl (t2)) (yy 5 0).2,.slice p (dl (a)) n,.slice (qc 0).1 (dl (P)) (qc 0).2]) fun yy vv hg hh=>RtW.of_n (mm_any (hh 5 rfl) (Sa.gr hg) ((HQ 0).gr hg) lt2 la hd ht3),.m 9,⟨⟩⟩ fun yw2 v2 hg h2=>?_;simp only[fzw];have S2_10:Sl v2 (yw2 10 0).1 (t3):=h2 10;clear h2;replace G:=G.trans hg;replace c1:=c1.gr hg;replace HQ:=fun k=>(HQ k).gr hg;replace Sa:=Sa.gr hg;replace S1_5:=S1_5.gr hg;clear hg
 go_upto_region 3 with fail
 refine wp_wS [.c (.slice (yw2 10 0).1 (dl (t3)) (yw2 10 0).2),.c (pv (w.heap.size) 3),.c (.slice (qc 2).1 (dl (B)) (qc 2).2),.c (pv (w.heap.size) 1),.c (.slice (qc 0).1 (dl (P)) (qc 0).2),.n (t4),.n (t4)] [2,4,5,6] ⟨.o 29 3 c1 rfl rfl,.o 29 1 c1 rfl rfl,.k (fun yy =>#[.slice (yw2 10 0).1 (dl (t3)) (yw2 10 0).2,.slice (qc 2).1 (dl (B)) (qc 2).2,.slice (qc 0).1 (dl (P)) (qc 0).2]) fun yy vv hg hh=>RtW.of_n (am_any (S2_10.gr hg) ((HQ 2).gr hg) ((HQ 0).gr hg) lt3 lB hd ht4),.m 5,⟨⟩⟩ fun yw3 v3 hg h3=>?_;simp only[fzw];have S3_6:Sl v3 (yw3 6 0).1 (t4):=h3 6;clear h3;replace G:=G.trans hg;replace c1:=c1.gr hg;replace HQ:=fun k=>(HQ k).gr hg;replace Sa:=Sa.gr hg;replace S1_5:=S1_5.gr hg;replace S2_10:=S2_10.gr hg;clear hg
 go_wp2_with fail
 go_ret
 exact⟨(yw3 6 0).1,(yw3 6 0).2,rfl,S3_6,G⟩
end
section
attribute [local go_sem ↓] uz9 Go.wp_at_zero Go.wp_at_succ
attribute [local go_sem] uz10
theorem rplus_inf1(id:Int)(P A B N X Y:Nat)(qc:Nat→Option Addr×Nat)(x1 y1 x2 y2:Nat)(f:Bool)(p1 q1:Option Addr)(n1 m1:Nat)(p2 q2:Option Addr)(n2 m2:Nat)(w:World)(HQ:∀k,Sl w (qc k).1 (six P A B N X Y k))(Sx1:Sl w p1 x1)(Sy1:Sl w q1 y1)(Sx2:Sl w p2 x2)(Sy2:Sl w q2 y2):
 Calls prog 15 #[.agg (crA id (six P A B N X Y) qc),.agg (ptA p1 (x1) n1 q1 (y1) m1 true),.agg (ptA p2 (x2) n2 q2 (y2) m2 f)] w (Rt (.pt x2 y2 f) w):=by
 go_enter func15,ntmps15
 go_upto_region 1 with fail
 refine gen_w (fun v=>Gr w v∧Vr v (w.heap.size) (crA id (six P A B N X Y) qc)∧Vr v (w.heap.size+1) (ptA p1 (x1) n1 q1 (y1) m1 true)∧Vr v (w.heap.size+1+1) (ptA p2 (x2) n2 q2 (y2) m2 f)∧Vr v (w.heap.size+1+1+1) (ptA none 0 0 none 0 0 false)) ⟨grA,vrA,vrA,vrA,vrA⟩ ?_;rintro v0 ⟨G,c1,c2,c3,c4⟩;replace HQ:=fun k=>(HQ k).gr G;replace Sx1:=Sx1.gr G;replace Sy1:=Sy1.gr G;replace Sx2:=Sx2.gr G;replace Sy2:=Sy2.gr G;refine wp_wS [.c (pv (w.heap.size+1) 2),.T] [1] ⟨.o 4 2 c2 rfl rfl,⟨⟩⟩ fun yw1 v1 hg h1=>?_;simp only[fzw];clear h1;have g1:=hg;clear hg
 go_upto_region 2 with fail
 refine wp_wTS 1 [.c (.agg (ptA p2 (x2) n2 q2 (y2) m2 f))] [0] ⟨.g 39 0 (c3.gr g1) rfl,⟨⟩⟩ (.s 39 (fun yy=>.pointer (some ⟨w.heap.size+1+1+1,0,none⟩)) (fun yy=>.agg (ptA p2 (x2) n2 q2 (y2) m2 f)) fun yw2 v2 hg h2=>?_);have HT:=((c4.gr g1).gr hg).h;have FT:=((c4.gr g1).gr hg).f;refine⟨setBlk v2 (w.heap.size+1+1+1) (ptA p2 (x2) n2 q2 (y2) m2 f),by simp[go_sem,exI,HT,FT],?_⟩;simp only[fzw];clear h2;replace g1:=g1.trans hg;replace G:=G.trans g1;replace Sx2:=Sx2.gr g1;replace Sy2:=Sy2.gr g1
 go_wp2_with fail
 exact bodyPost_ret (res_one results15 (rd_pt _ _ _ _ _ _ _ (by rfl) (blk_setBlk _ _ _ (by rw[HT];decide)))) rfl ⟨_,rfl,⟨_,_,_,_,rfl,Sl.set Sx2 (by rw[HT];exact ptA_no _ _ _ _ _ _ _),Sl.set Sy2 (by rw[HT];exact ptA_no _ _ _ _ _ _ _)⟩,gr_setNew G (by omega)⟩
theorem rplus_inf2(id:Int)(P A B N X Y:Nat)(qc:Nat→Option Addr×Nat)(x1 y1 x2 y2:Nat)(p1 q1:Option Addr)(n1 m1:Nat)(p2 q2:Option Addr)(n2 m2:Nat)(w:World)(HQ:∀k,Sl w (qc k).1 (six P A B N X Y k))(Sx1:Sl w p1 x1)(Sy1:Sl w q1 y1)(Sx2:Sl w p2 x2)(Sy2:Sl w q2 y2):
 Calls prog 15 #[.agg (crA id (six P A B N X Y) qc),.agg (ptA p1 (x1) n1 q1 (y1) m1 false),.agg (ptA p2 (x2) n2 q2 (y2) m2 true)] w (Rt (.pt x1 y1 false) w):=by
 go_enter func15,ntmps15
 go_upto_region 1 with fail
 refine gen_w (fun v=>Gr w v∧Vr v (w.heap.size) (crA id (six P A B N X Y) qc)∧Vr v (w.heap.size+1) (ptA p1 (x1) n1 q1 (y1) m1 false)∧Vr v (w.heap.size+1+1) (ptA p2 (x2) n2 q2 (y2) m2 true)∧Vr v (w.heap.size+1+1+1) (ptA none 0 0 none 0 0 false)) ⟨grA,vrA,vrA,vrA,vrA⟩ ?_;rintro v0 ⟨G,c1,c2,c3,c4⟩;replace HQ:=fun k=>(HQ k).gr G;replace Sx1:=Sx1.gr G;replace Sy1:=Sy1.gr G;replace Sx2:=Sx2.gr G;replace Sy2:=Sy2.gr G;refine wp_wS [.c (pv (w.heap.size+1) 2),.F] [1] ⟨.o 4 2 c2 rfl rfl,⟨⟩⟩ fun yw1 v1 hg h1=>?_;simp only[fzw];clear h1;have g1:=hg;clear hg
 go_upto_region 3 with fail
 refine wp_wS [.c (pv (w.heap.size+1+1) 2),.T] [1] ⟨.o 4 2 (c3.gr g1) rfl rfl,⟨⟩⟩ fun yw3 v2 hg h3=>?_;simp only[fzw];clear h3;replace g1:=g1.trans hg;clear hg
 go_upto_region 4 with fail
 refine wp_wTS 1 [.c (.agg (ptA p1 (x1) n1 q1 (y1) m1 false))] [0] ⟨.g 39 0 (c2.gr g1) rfl,⟨⟩⟩ (.s 39 (fun yy=>.pointer (some ⟨w.heap.size+1+1+1,0,none⟩)) (fun yy=>.agg (ptA p1 (x1) n1 q1 (y1) m1 false)) fun yw4 v3 hg h4=>?_);have HT:=((c4.gr g1).gr hg).h;have FT:=((c4.gr g1).gr hg).f;refine⟨setBlk v3 (w.heap.size+1+1+1) (ptA p1 (x1) n1 q1 (y1) m1 false),by simp[go_sem,exI,HT,FT],?_⟩;simp only[fzw];clear h4;replace g1:=g1.trans hg;clear hg;replace G:=G.trans g1;replace c1:=c1.gr g1;replace Sx1:=Sx1.gr g1;replace Sy1:=Sy1.gr g1
 go_wp2_with fail
 exact bodyPost_ret (res_one results15 (rd_pt _ _ _ _ _ _ _ (by rfl) (blk_setBlk _ _ _ (by rw[HT];decide)))) rfl ⟨_,rfl,⟨_,_,_,_,rfl,Sl.set Sx1 (by rw[HT];exact ptA_no _ _ _ _ _ _ _),Sl.set Sy1 (by rw[HT];exact ptA_no _ _ _ _ _ _ _)⟩,gr_setNew G (by omega)⟩
theorem rplus_op(id:Int)(P A B N X Y:Nat)(qc:Nat→Option Addr×Nat)(x y1 y2:Nat)(hd:dl P≤400)(lx:x<P)(ly1:y1<P)(ly2:y2<P)(hy:y1≠y2)(p1 q1:Option Addr)(n1 m1:Nat)(p2 q2:Option Addr)(n2 m2:Nat)(w:World)(HQ:∀k,Sl w (qc k).1 (six P A B N X Y k))(Sx1:Sl w p1 x)(Sy1:Sl w q1 y1)(Sx2:Sl w p2 x)(Sy2:Sl w q2 y2):
 Calls prog 15 #[.agg (crA id (six P A B N X Y) qc),.agg (ptA p1 (x) n1 q1 (y1) m1 false),.agg (ptA p2 (x) n2 q2 (y2) m2 false)] w (Rt (.pt 0 0 true) w):=by
 obtain⟨zz,ez⟩:=exl (cmpZ y1 y2)
 have bz:(zz != 0)=true:=by rw[bne,←ez,cmpZ_nought,decide_eq_false hy];rfl
 go_enter func15,ntmps15
 go_upto_region 1 with fail
 refine gen_w (fun v=>Gr w v∧Vr v (w.heap.size) (crA id (six P A B N X Y) qc)∧Vr v (w.heap.size+1) (ptA p1 (x) n1 q1 (y1) m1 false)∧Vr v (w.heap.size+1+1) (ptA p2 (x) n2 q2 (y2) m2 false)∧Vr v (w.heap.size+1+1+1) (ptA none 0 0 none 0 0 false)) ⟨grA,vrA,vrA,vrA,vrA⟩ ?_;rintro v0 ⟨G,c1,c2,c3,c4⟩;replace HQ:=fun k=>(HQ k).gr G;replace Sx1:=Sx1.gr G;replace Sy1:=Sy1.gr G;replace Sx2:=Sx2.gr G;replace Sy2:=Sy2.gr G;refine wp_wS [.c (pv (w.heap.size+1) 2),.F] [1] ⟨.o 4 2 c2 rfl rfl,⟨⟩⟩ fun yw1 v1 hg h1=>?_;simp only[fzw];clear h1;have g1:=hg;clear hg
 go_upto_region 3 with fail
 refine wp_wS [.c (pv (w.heap.size+1+1) 2),.F] [1] ⟨.o 4 2 (c3.gr g1) rfl rfl,⟨⟩⟩ fun yw3 v2 hg h3=>?_;simp only[fzw];clear h3;replace g1:=g1.trans hg;clear hg
 go_upto_region 5 with fail
 refine wp_wS [.c (.slice none 0 0),.c (.slice none 0 0)] [] ⟨⟩ fun yw5 v3 hg h5=>?_;simp only[fzw];clear h5;replace g1:=g1.trans hg;clear hg
 go_upto_region 6 with fail
 refine wp_wS [.c (pv (w.heap.size+1) 0),.c (.slice p1 (dl (x)) n1),.c (pv (w.heap.size+1+1) 0),.c (.slice p2 (dl (x)) n2),.O,.T] [1,3,4] ⟨.o 29 0 (c2.gr g1) rfl rfl,.o 29 0 (c3.gr g1) rfl rfl,.k (fun yy =>#[.slice p1 (dl (x)) n1,.slice p2 (dl (x)) n2]) fun yy vv hg hh=>RtW.of_c (cz_any (Sx1.gr (g1.trans hg)) (Sx2.gr (g1.trans hg)) (dl_low _ P 400 (by omega) hd) (dl_low _ P 400 (by omega) hd) (by unfold cmpZ;simp)),⟨⟩⟩ fun yw6 v4 hg h6=>?_;simp only[fzw];clear h6;replace g1:=g1.trans hg;clear hg
 go_upto_region 7 with fail
 refine wp_wS [.c (pv (w.heap.size+1) 1),.c (.slice q1 (dl (y1)) m1),.c (pv (w.heap.size+1+1) 1),.c (.slice q2 (dl (y2)) m2),.c (.int .i64 zz),.T,.T,.u,.u,.u,.u,.T] [1,3,4,5] ⟨.o 29 1 (c2.gr g1) rfl rfl,.o 29 1 (c3.gr g1) rfl rfl,.k (fun yy =>#[.slice q1 (dl (y1)) m1,.slice q2 (dl (y2)) m2]) fun yy vv hg hh=>RtW.of_c (cz_any (Sy1.gr (g1.trans hg)) (Sy2.gr (g1.trans hg)) (dl_low _ P 400 (by omega) hd) (dl_low _ P 400 (by omega) hd) ez),.s (.binOp .neq 3 (.const (.int .i64 zz)) (.const (.int .i64 0)) 3) rfl fun vv hg=>by simp[go_sem,exI,bz],⟨⟩⟩ fun yw7 v5 hg h7=>?_;simp only[fzw];clear h7;replace g1:=g1.trans hg;clear hg
 go_upto_region 8 with fail
 refine wp_wTS 1 [.pt (0) (0) true] [0] ⟨.p (fun yy i=>match i with|0=>(none,0)|_=>(none,0)) fun yy vv hg hh=>⟨Sl.zero _ _,Sl.zero _ _⟩,⟨⟩⟩ (.s 39 (fun yy=>.pointer (some ⟨w.heap.size+1+1+1,0,none⟩)) (fun yy=>.agg (ptA (yy 0 0).1 (0) (yy 0 0).2 (yy 0 1).1 (0) (yy 0 1).2 true)) fun yw8 v6 hg h8=>?_);have HT:=((c4.gr g1).gr hg).h;have FT:=((c4.gr g1).gr hg).f;refine⟨setBlk v6 (w.heap.size+1+1+1) (ptA (yw8 0 0).1 (0) (yw8 0 0).2 (yw8 0 1).1 (0) (yw8 0 1).2 true),by simp[go_sem,exI,HT,FT],?_⟩;simp only[fzw];obtain⟨S8_0,T8_0⟩:=h8 0;replace g1:=g1.trans hg;replace G:=G.trans g1
 go_wp2_with fail
 exact bodyPost_ret (res_one results15 (rd_pt _ _ _ _ _ _ _ (by rfl) (blk_setBlk _ _ _ (by rw[HT];decide)))) rfl ⟨_,rfl,⟨_,_,_,_,rfl,Sl.set S8_0 (by rw[HT];exact ptA_no _ _ _ _ _ _ _),Sl.set T8_0 (by rw[HT];exact ptA_no _ _ _ _ _ _ _)⟩,gr_setNew G (by omega)⟩
theorem rplus_flat(id:Int)(P A B N X Y:Nat)(qc:Nat→Option Addr×Nat)(x:Nat)(hd:dl P≤400)(lx:x<P)(p1 q1:Option Addr)(n1 m1:Nat)(p2 q2:Option Addr)(n2 m2:Nat)(w:World)(HQ:∀k,Sl w (qc k).1 (six P A B N X Y k))(Sx1:Sl w p1 x)(Sy1:Sl w q1 0)(Sx2:Sl w p2 x)(Sy2:Sl w q2 0):
 Calls prog 15 #[.agg (crA id (six P A B N X Y) qc),.agg (ptA p1 (x) n1 q1 (0) m1 false),.agg (ptA p2 (x) n2 q2 (0) m2 false)] w (Rt (.pt 0 0 true) w):=by
 go_enter func15,ntmps15
 go_upto_region 1 with fail
 refine gen_w (fun v=>Gr w v∧Vr v (w.heap.size) (crA id (six P A B N X Y) qc)∧Vr v (w.heap.size+1) (ptA p1 (x) n1 q1 (0) m1 false)∧Vr v (w.heap.size+1+1) (ptA p2 (x) n2 q2 (0) m2 false)∧Vr v (w.heap.size+1+1+1) (ptA none 0 0 none 0 0 false)) ⟨grA,vrA,vrA,vrA,vrA⟩ ?_;rintro v0 ⟨G,c1,c2,c3,c4⟩;replace HQ:=fun k=>(HQ k).gr G;replace Sx1:=Sx1.gr G;replace Sy1:=Sy1.gr G;replace Sx2:=Sx2.gr G;replace Sy2:=Sy2.gr G;refine wp_wS [.c (pv (w.heap.size+1) 2),.F] [1] ⟨.o 4 2 c2 rfl rfl,⟨⟩⟩ fun yw1 v1 hg h1=>?_;simp only[fzw];clear h1;have g1:=hg;clear hg
 go_upto_region 3 with fail
 refine wp_wS [.c (pv (w.heap.size+1+1) 2),.F] [1] ⟨.o 4 2 (c3.gr g1) rfl rfl,⟨⟩⟩ fun yw3 v2 hg h3=>?_;simp only[fzw];clear h3;replace g1:=g1.trans hg;clear hg
 go_upto_region 5 with fail
 refine wp_wS [.c (.slice none 0 0),.c (.slice none 0 0)] [] ⟨⟩ fun yw5 v3 hg h5=>?_;simp only[fzw];clear h5;replace g1:=g1.trans hg;clear hg
 go_upto_region 6 with fail
 refine wp_wS [.c (pv (w.heap.size+1) 0),.c (.slice p1 (dl (x)) n1),.c (pv (w.heap.size+1+1) 0),.c (.slice p2 (dl (x)) n2),.O,.T] [1,3,4] ⟨.o 29 0 (c2.gr g1) rfl rfl,.o 29 0 (c3.gr g1) rfl rfl,.k (fun yy =>#[.slice p1 (dl (x)) n1,.slice p2 (dl (x)) n2]) fun yy vv hg hh=>RtW.of_c (cz_any (Sx1.gr (g1.trans hg)) (Sx2.gr (g1.trans hg)) (dl_low _ P 400 (by omega) hd) (dl_low _ P 400 (by omega) hd) (by unfold cmpZ;simp)),⟨⟩⟩ fun yw6 v4 hg h6=>?_;simp only[fzw];clear h6;replace g1:=g1.trans hg;clear hg
 go_upto_region 7 with fail
 refine wp_wS [.c (pv (w.heap.size+1) 1),.c (.slice q1 (dl (0)) m1),.c (pv (w.heap.size+1+1) 1),.c (.slice q2 (dl (0)) m2),.O,.F,.F,.c (pv (w.heap.size+1) 1),.c (.slice q1 (dl (0)) m1),.c (.int .i64 (dl (0))),.T,.T] [1,3,4,8,10] ⟨.o 29 1 (c2.gr g1) rfl rfl,.o 29 1 (c3.gr g1) rfl rfl,.k (fun yy =>#[.slice q1 (dl (0)) m1,.slice q2 (dl (0)) m2]) fun yy vv hg hh=>RtW.of_c (cz_any (Sy1.gr (g1.trans hg)) (Sy2.gr (g1.trans hg)) (dl_low _ P 400 (by omega) hd) (dl_low _ P 400 (by omega) hd) (by unfold cmpZ;simp)),.o 29 1 (c2.gr g1) rfl rfl,.s (.binOp .eql 3 (.const (.int .i64 (dl (0)))) (.const (.int .i64 0)) 3) rfl fun vv hg=>by simp[go_sem,exI,dl_zero],⟨⟩⟩ fun yw7 v5 hg h7=>?_;simp only[fzw];clear h7;replace g1:=g1.trans hg;clear hg
 go_upto_region 8 with fail
 refine wp_wTS 1 [.pt (0) (0) true] [0] ⟨.p (fun yy i=>match i with|0=>(none,0)|_=>(none,0)) fun yy vv hg hh=>⟨Sl.zero _ _,Sl.zero _ _⟩,⟨⟩⟩ (.s 39 (fun yy=>.pointer (some ⟨w.heap.size+1+1+1,0,none⟩)) (fun yy=>.agg (ptA (yy 0 0).1 (0) (yy 0 0).2 (yy 0 1).1 (0) (yy 0 1).2 true)) fun yw8 v6 hg h8=>?_);have HT:=((c4.gr g1).gr hg).h;have FT:=((c4.gr g1).gr hg).f;refine⟨setBlk v6 (w.heap.size+1+1+1) (ptA (yw8 0 0).1 (0) (yw8 0 0).2 (yw8 0 1).1 (0) (yw8 0 1).2 true),by simp[go_sem,exI,HT,FT],?_⟩;simp only[fzw];obtain⟨S8_0,T8_0⟩:=h8 0;replace g1:=g1.trans hg;replace G:=G.trans g1
 go_wp2_with fail
 exact bodyPost_ret (res_one results15 (rd_pt _ _ _ _ _ _ _ (by rfl) (blk_setBlk _ _ _ (by rw[HT];decide)))) rfl ⟨_,rfl,⟨_,_,_,_,rfl,Sl.set S8_0 (by rw[HT];exact ptA_no _ _ _ _ _ _ _),Sl.set T8_0 (by rw[HT];exact ptA_no _ _ _ _ _ _ _)⟩,gr_setNew G (by omega)⟩
end
section
attribute [local go_sem ↓] uz9 Go.wp_at_zero Go.wp_at_succ
attribute [local go_sem] uz10
theorem rplus_dbl(id:Int)(P A B N X Y:Nat)(qc:Nat→Option Addr×Nat)(x y:Nat)(hd:dl P≤400)(lx:x<P)(ly:y<P)(lA:A<P)(h0:y≠0)(h1P:1<P)(p1 q1:Option Addr)(n1 m1:Nat)(p2 q2:Option Addr)(n2 m2:Nat)(iv:Nat)(t1:Nat)(ht1:x*x%P=t1)(t2:Nat)(ht2:(t1+t1)%P=t2)(t3:Nat)(ht3:(t1+t2)%P=t3)(t4:Nat)(ht4:(t3+A)%P=t4)(t5:Nat)(ht5:(y+y)%P=t5)(t6:Nat)(ht6:t4*iv%P=t6)(t7:Nat)(ht7:t6*t6%P=t7)(t8:Nat)(ht8:subM t7 x P=t8)(t9:Nat)(ht9:subM t8 x P=t9)(t10:Nat)(ht10:subM x t9 P=t10)(t11:Nat)(ht11:t6*t10%P=t11)(t12:Nat)(ht12:subM t11 y P=t12)(liv:iv<P)(hiv:t5*iv%P=1)(w:World)(HQ:∀k,Sl w (qc k).1 (six P A B N X Y k))(Sx1:Sl w p1 x)(Sy1:Sl w q1 y)(Sx2:Sl w p2 x)(Sy2:Sl w q2 y):
 Calls prog 15 #[.agg (crA id (six P A B N X Y) qc),.agg (ptA p1 (x) n1 q1 (y) m1 false),.agg (ptA p2 (x) n2 q2 (y) m2 false)] w (Rt (.pt t9 t12 false) w):=by
 have hP:0<P:=by omega
 have zy:((dl y:Int)==0)=false:=by rw[dl_nought,decide_eq_false h0]
 have lt1:=ht1▸Nat.mod_lt _ hP;have lt2:=ht2▸Nat.mod_lt _ hP;have lt3:=ht3▸Nat.mod_lt _ hP;have lt4:=ht4▸Nat.mod_lt _ hP;have lt5:=ht5▸Nat.mod_lt _ hP;have lt6:=ht6▸Nat.mod_lt _ hP;have lt7:=ht7▸Nat.mod_lt _ hP;have lt8:=ht8▸subM_lt lt7 lx;have lt9:=ht9▸subM_lt lt8 lx;have lt10:=ht10▸subM_lt lx lt9;have lt11:=ht11▸Nat.mod_lt _ hP;have lt12:=ht12▸subM_lt lt11 ly
 go_enter func15,ntmps15
 go_upto_region 1 with fail
 refine gen_w (fun v=>Gr w v∧Vr v (w.heap.size) (crA id (six P A B N X Y) qc)∧Vr v (w.heap.size+1) (ptA p1 (x) n1 q1 (y) m1 false)∧Vr v (w.heap.size+1+1) (ptA p2 (x) n2 q2 (y) m2 false)∧Vr v (w.heap.size+1+1+1) (ptA none 0 0 none 0 0 false)) ⟨grA,vrA,vrA,vrA,vrA⟩ ?_;rintro v0 ⟨G,c1,c2,c3,c4⟩;replace HQ:=fun k=>(HQ k).gr G;replace Sx1:=Sx1.gr G;replace Sy1:=Sy1.gr G;replace Sx2:=Sx2.gr G;replace Sy2:=Sy2.gr G;refine wp_wS [.c (pv (w.heap.size+1) 2),.F] [1] ⟨.o 4 2 c2 rfl rfl,⟨⟩⟩ fun yw1 v1 hg h1=>?_;simp only[fzw];clear h1;have g1:=hg;clear hg
 go_upto_region 3 with fail
 refine wp_wS [.c (pv (w.heap.size+1+1) 2),.F] [1] ⟨.o 4 2 (c3.gr g1) rfl rfl,⟨⟩⟩ fun yw3 v2 hg h3=>?_;simp only[fzw];clear h3;replace g1:=g1.trans hg;clear hg
 go_upto_region 5 with fail
 refine wp_wS [.c (.slice none 0 0),.c (.slice none 0 0)] [] ⟨⟩ fun yw5 v3 hg h5=>?_;simp only[fzw];clear h5;replace g1:=g1.trans hg;clear hg
 go_upto_region 6 with fail
 refine wp_wS [.c (pv (w.heap.size+1) 0),.c (.slice p1 (dl (x)) n1),.c (pv (w.heap.size+1+1) 0),.c (.slice p2 (dl (x)) n2),.O,.T] [1,3,4] ⟨.o 29 0 (c2.gr g1) rfl rfl,.o 29 0 (c3.gr g1) rfl rfl,.k (fun yy =>#[.slice p1 (dl (x)) n1,.slice p2 (dl (x)) n2]) fun yy vv hg hh=>RtW.of_c (cz_any (Sx1.gr (g1.trans hg)) (Sx2.gr (g1.trans hg)) (dl_low _ P 400 (by omega) hd) (dl_low _ P 400 (by omega) hd) (by unfold cmpZ;simp)),⟨⟩⟩ fun yw6 v4 hg h6=>?_;simp only[fzw];clear h6;replace g1:=g1.trans hg;clear hg
 go_upto_region 7 with fail
 refine wp_wS [.c (pv (w.heap.size+1) 1),.c (.slice q1 (dl (y)) m1),.c (pv (w.heap.size+1+1) 1),.c (.slice q2 (dl (y)) m2),.O,.F,.F,.c (pv (w.heap.size+1) 1),.c (.slice q1 (dl (y)) m1),.c (.int .i64 (dl (y))),.F,.F] [1,3,4,8,10] ⟨.o 29 1 (c2.gr g1) rfl rfl,.o 29 1 (c3.gr g1) rfl rfl,.k (fun yy =>#[.slice q1 (dl (y)) m1,.slice q2 (dl (y)) m2]) fun yy vv hg hh=>RtW.of_c (cz_any (Sy1.gr (g1.trans hg)) (Sy2.gr (g1.trans hg)) (dl_low _ P 400 (by omega) hd) (dl_low _ P 400 (by omega) hd) (by unfold cmpZ;simp)),.o 29 1 (c2.gr g1) rfl rfl,.s (.binOp .eql 3 (.const (.int .i64 (dl (y)))) (.const (.int .i64 0)) 3) rfl fun vv hg=>by simp[go_sem,exI,zy],⟨⟩⟩ fun yw7 v5 hg h7=>?_;simp only[fzw];clear h7;replace g1:=g1.trans hg;clear hg
 go_upto_region 9 with fail
 refine wp_wS [.c (pv (w.heap.size+1) 0),.c (.slice p1 (dl (x)) n1),.c (pv (w.heap.size+1) 0),.c (.slice p1 (dl (x)) n1),.c (pv (w.heap.size) 1),.c (.slice (qc 0).1 (dl (P)) (qc 0).2),.n (t1),.n (t1)] [1,3,5,6,7] ⟨.o 29 0 (c2.gr g1) rfl rfl,.o 29 0 (c2.gr g1) rfl rfl,.o 29 1 (c1.gr g1) rfl rfl,.k (fun yy =>#[.slice p1 (dl (x)) n1,.slice p1 (dl (x)) n1,.slice (qc 0).1 (dl (P)) (qc 0).2]) fun yy vv hg hh=>RtW.of_n (mm_any (Sx1.gr (g1.trans hg)) (Sx1.gr (g1.trans hg)) ((HQ 0).gr (g1.trans hg)) lx lx hd ht1),.m 6,⟨⟩⟩ fun yw9 v6 hg h9=>?_;simp only[fzw];have S9_7:=h9 7;clear h9;replace g1:=g1.trans hg;clear hg
 go_upto_region 10 with fail
 refine wp_w [.c (.slice (yw9 7 0).1 (dl (t1)) (yw9 7 0).2),.c (.slice (yw9 7 0).1 (dl (t1)) (yw9 7 0).2),.c (.slice (yw9 7 0).1 (dl (t1)) (yw9 7 0).2),.c (pv (w.heap.size) 1),.c (.slice (qc 0).1 (dl (P)) (qc 0).2),.n (t2),.c (pv (w.heap.size) 1),.c (.slice (qc 0).1 (dl (P)) (qc 0).2),.n (t3),.c (pv (w.heap.size) 2),.c (.slice (qc 1).1 (dl (A)) (qc 1).2),.c (pv (w.heap.size) 1),.c (.slice (qc 0).1 (dl (P)) (qc 0).2),.n (t4),.n (t4)] [4,5,7,8,10,12,13,14] ⟨.o 29 1 (c1.gr g1) rfl rfl,.k (fun yy =>#[.slice (yw9 7 0).1 (dl (t1)) (yw9 7 0).2,.slice (yw9 7 0).1 (dl (t1)) (yw9 7 0).2,.slice (qc 0).1 (dl (P)) (qc 0).2]) fun yy vv hg hh=>RtW.of_n (am_any (S9_7.gr hg) (S9_7.gr hg) ((HQ 0).gr (g1.trans hg)) lt1 lt1 hd ht2),.o 29 1 (c1.gr g1) rfl rfl,.k (fun yy =>#[.slice (yw9 7 0).1 (dl (t1)) (yw9 7 0).2,.slice (yy 5 0).1 (dl (t2)) (yy 5 0).2,.slice (qc 0).1 (dl (P)) (qc 0).2]) fun yy vv hg hh=>RtW.of_n (am_any (S9_7.gr hg) (hh 5 rfl) ((HQ 0).gr (g1.trans hg)) lt1 lt2 hd ht3),.o 29 2 (c1.gr g1) rfl rfl,.o 29 1 (c1.gr g1) rfl rfl,.k (fun yy =>#[.slice (yy 8 0).1 (dl (t3)) (yy 8 0).2,.slice (qc 1).1 (dl (A)) (qc 1).2,.slice (qc 0).1 (dl (P)) (qc 0).2]) fun yy vv hg hh=>RtW.of_n (am_any (hh 8 rfl) ((HQ 1).gr (g1.trans hg)) ((HQ 0).gr (g1.trans hg)) lt3 lA hd ht4),.m 13,⟨⟩⟩ fun yw10 v7 hg h10=>?_;simp only[fzw];have S10_14:=h10 14;clear h10;replace g1:=g1.trans hg;have g10:=hg;clear hg
 go_upto_region 11 with fail
 refine wp_wS [.c (pv (w.heap.size+1) 1),.c (.slice q1 (dl (y)) m1),.c (pv (w.heap.size+1) 1),.c (.slice q1 (dl (y)) m1),.c (pv (w.heap.size) 1),.c (.slice (qc 0).1 (dl (P)) (qc 0).2),.n (t5),.n (t5)] [1,3,5,6,7] ⟨.o 29 1 (c2.gr g1) rfl rfl,.o 29 1 (c2.gr g1) rfl rfl,.o 29 1 (c1.gr g1) rfl rfl,.k (fun yy =>#[.slice q1 (dl (y)) m1,.slice q1 (dl (y)) m1,.slice (qc 0).1 (dl (P)) (qc 0).2]) fun yy vv hg hh=>RtW.of_n (am_any (Sy1.gr (g1.trans hg)) (Sy1.gr (g1.trans hg)) ((HQ 0).gr (g1.trans hg)) ly ly hd ht5),.m 6,⟨⟩⟩ fun yw11 v8 hg h11=>?_;simp only[fzw];have S11_7:=h11 7;clear h11;replace g1:=g1.trans hg;replace g10:=g10.trans hg;have g11:=hg;clear hg
 go_upto_region 14 with fail
 refine wp_wS [.c (.slice (yw11 7 0).1 (dl (t5)) (yw11 7 0).2),.c (pv (w.heap.size) 1),.c (.slice (qc 0).1 (dl (P)) (qc 0).2),.nb (iv) true,.nb (iv) true,.n (iv),.T,.n (iv),.T] [2,3,4,5,6,7] ⟨.o 29 1 (c1.gr g1) rfl rfl,.k (fun yy =>#[.slice (yw11 7 0).1 (dl (t5)) (yw11 7 0).2,.slice (qc 0).1 (dl (P)) (qc 0).2]) fun yy vv hg hh=>RtW.of_nb (iv_any (S11_7.gr hg) ((HQ 0).gr (g1.trans hg)) lt5 hd h1P liv hiv),.m 3,.m 4,.m 4,.m 5,⟨⟩⟩ fun yw14 v9 hg h14=>?_;simp only[fzw];have S14_7:=h14 7;clear h14;replace g1:=g1.trans hg;replace g10:=g10.trans hg;replace g11:=g11.trans hg;have g14:=hg;clear hg
 go_upto_region 15 with fail
 refine wp_wS [.c (.slice (yw10 14 0).1 (dl (t4)) (yw10 14 0).2),.c (.slice (yw14 7 0).1 (dl (iv)) (yw14 7 0).2),.c (pv (w.heap.size) 1),.c (.slice (qc 0).1 (dl (P)) (qc 0).2),.n (t6),.n (t6)] [3,4,5] ⟨.o 29 1 (c1.gr g1) rfl rfl,.k (fun yy =>#[.slice (yw10 14 0).1 (dl (t4)) (yw10 14 0).2,.slice (yw14 7 0).1 (dl (iv)) (yw14 7 0).2,.slice (qc 0).1 (dl (P)) (qc 0).2]) fun yy vv hg hh=>RtW.of_n (mm_any (S10_14.gr (g11.trans hg)) (S14_7.gr hg) ((HQ 0).gr (g1.trans hg)) lt4 liv hd ht6),.m 4,⟨⟩⟩ fun yw15 v10 hg h15=>?_;simp only[fzw];have S15_5:=h15 5;clear h15;replace g1:=g1.trans hg;replace g10:=g10.trans hg;replace g11:=g11.trans hg;replace g14:=g14.trans hg;have g15:=hg;clear hg
 go_upto_region 16 with fail
 refine wp_w [.c (.slice (yw15 5 0).1 (dl (t6)) (yw15 5 0).2),.c (.slice (yw15 5 0).1 (dl (t6)) (yw15 5 0).2),.c (pv (w.heap.size) 1),.c (.slice (qc 0).1 (dl (P)) (qc 0).2),.n (t7),.c (pv (w.heap.size+1) 0),.c (.slice p1 (dl (x)) n1),.c (pv (w.heap.size) 1),.c (.slice (qc 0).1 (dl (P)) (qc 0).2),.n (t8),.c (pv (w.heap.size+1+1) 0),.c (.slice p2 (dl (x)) n2),.c (pv (w.heap.size) 1),.c (.slice (qc 0).1 (dl (P)) (qc 0).2),.n (t9),.n (t9)] [3,4,6,8,9,11,13,14,15] ⟨.o 29 1 (c1.gr g1) rfl rfl,.k (fun yy =>#[.slice (yw15 5 0).1 (dl (t6)) (yw15 5 0).2,.slice (yw15 5 0).1 (dl (t6)) (yw15 5 0).2,.slice (qc 0).1 (dl (P)) (qc 0).2]) fun yy vv hg hh=>RtW.of_n (mm_any (S15_5.gr hg) (S15_5.gr hg) ((HQ 0).gr (g1.trans hg)) lt6 lt6 hd ht7),.o 29 0 (c2.gr g1) rfl rfl,.o 29 1 (c1.gr g1) rfl rfl,.k (fun yy =>#[.slice (yy 4 0).1 (dl (t7)) (yy 4 0).2,.slice p1 (dl (x)) n1,.slice (qc 0).1 (dl (P)) (qc 0).2]) fun yy vv hg hh=>RtW.of_n (sm_any (hh 4 rfl) (Sx1.gr (g1.trans hg)) ((HQ 0).gr (g1.trans hg)) lt7 lx hd ht8),.o 29 0 (c3.gr g1) rfl rfl,.o 29 1 (c1.gr g1) rfl rfl,.k (fun yy =>#[.slice (yy 9 0).1 (dl (t8)) (yy 9 0).2,.slice p2 (dl (x)) n2,.slice (qc 0).1 (dl (P)) (qc 0).2]) fun yy vv hg hh=>RtW.of_n (sm_any (hh 9 rfl) (Sx2.gr (g1.trans hg)) ((HQ 0).gr (g1.trans hg)) lt8 lx hd ht9),.m 14,⟨⟩⟩ fun yw16 v11 hg h16=>?_;simp only[fzw];have S16_15:=h16 15;clear h16;replace g1:=g1.trans hg;replace g10:=g10.trans hg;replace g11:=g11.trans hg;replace g14:=g14.trans hg;replace g15:=g15.trans hg;have g16:=hg;clear hg
 go_upto_region 17 with fail
 refine wp_w [.c (.slice (yw15 5 0).1 (dl (t6)) (yw15 5 0).2),.c (pv (w.heap.size+1) 0),.c (.slice p1 (dl (x)) n1),.c (.slice (yw16 15 0).1 (dl (t9)) (yw16 15 0).2),.c (pv (w.heap.size) 1),.c (.slice (qc 0).1 (dl (P)) (qc 0).2),.n (t10),.c (pv (w.heap.size) 1),.c (.slice (qc 0).1 (dl (P)) (qc 0).2),.n (t11),.c (pv (w.heap.size+1) 1),.c (.slice q1 (dl (y)) m1),.c (pv (w.heap.size) 1),.c (.slice (qc 0).1 (dl (P)) (qc 0).2),.n (t12),.n (t12)] [2,5,6,8,9,11,13,14,15] ⟨.o 29 0 (c2.gr g1) rfl rfl,.o 29 1 (c1.gr g1) rfl rfl,.k (fun yy =>#[.slice p1 (dl (x)) n1,.slice (yw16 15 0).1 (dl (t9)) (yw16 15 0).2,.slice (qc 0).1 (dl (P)) (qc 0).2]) fun yy vv hg hh=>RtW.of_n (sm_any (Sx1.gr (g1.trans hg)) (S16_15.gr hg) ((HQ 0).gr (g1.trans hg)) lx lt9 hd ht10),.o 29 1 (c1.gr g1) rfl rfl,.k (fun yy =>#[.slice (yw15 5 0).1 (dl (t6)) (yw15 5 0).2,.slice (yy 6 0).1 (dl (t10)) (yy 6 0).2,.slice (qc 0).1 (dl (P)) (qc 0).2]) fun yy vv hg hh=>RtW.of_n (mm_any (S15_5.gr (g16.trans hg)) (hh 6 rfl) ((HQ 0).gr (g1.trans hg)) lt6 lt10 hd ht11),.o 29 1 (c2.gr g1) rfl rfl,.o 29 1 (c1.gr g1) rfl rfl,.k (fun yy =>#[.slice (yy 9 0).1 (dl (t11)) (yy 9 0).2,.slice q1 (dl (y)) m1,.slice (qc 0).1 (dl (P)) (qc 0).2]) fun yy vv hg hh=>RtW.of_n (sm_any (hh 9 rfl) (Sy1.gr (g1.trans hg)) ((HQ 0).gr (g1.trans hg)) lt11 ly hd ht12),.m 14,⟨⟩⟩ fun yw17 v12 hg h17=>?_;simp only[fzw];have S17_15:=h17 15;clear h17;replace g1:=g1.trans hg;replace g10:=g10.trans hg;replace g11:=g11.trans hg;replace g14:=g14.trans hg;replace g15:=g15.trans hg;replace g16:=g16.trans hg;have g17:=hg;clear hg
 go_upto_region 18 with fail
 refine wp_wTS 3 [.c (.slice (yw16 15 0).1 (dl (t9)) (yw16 15 0).2),.c (.slice (yw17 15 0).1 (dl (t12)) (yw17 15 0).2),.pt (t9) (t12) false] [2] ⟨.p (fun yy i=>match i with|0=>((yw16 15 0).1,(yw16 15 0).2)|_=>((yw17 15 0).1,(yw17 15 0).2)) fun yy vv hg hh=>⟨(S16_15.gr (g17.trans hg)),(S17_15.gr hg)⟩,⟨⟩⟩ (.s 39 (fun yy=>.pointer (some ⟨w.heap.size+1+1+1,0,none⟩)) (fun yy=>.agg (ptA (yy 2 0).1 (t9) (yy 2 0).2 (yy 2 1).1 (t12) (yy 2 1).2 false)) fun yw18 v13 hg h18=>?_);have HT:=((c4.gr g1).gr hg).h;have FT:=((c4.gr g1).gr hg).f;refine⟨setBlk v13 (w.heap.size+1+1+1) (ptA (yw18 2 0).1 (t9) (yw18 2 0).2 (yw18 2 1).1 (t12) (yw18 2 1).2 false),by simp[go_sem,exI,HT,FT],?_⟩;simp only[fzw];obtain⟨S18_2,T18_2⟩:=h18 2;clear h18;replace g1:=g1.trans hg;replace G:=G.trans g1
 go_wp2_with fail
 exact bodyPost_ret (res_one results15 (rd_pt _ _ _ _ _ _ _ (by rfl) (blk_setBlk _ _ _ (by rw[HT];decide)))) rfl ⟨_,rfl,⟨_,_,_,_,rfl,Sl.set S18_2 (by rw[HT];exact ptA_no _ _ _ _ _ _ _),Sl.set T18_2 (by rw[HT];exact ptA_no _ _ _ _ _ _ _)⟩,gr_setNew G (by omega)⟩
end
section
attribute [local go_sem ↓] uz9 Go.wp_at_zero Go.wp_at_succ
attribute [local go_sem] uz10
theorem rplus_add(id:Int)(P A B N X Y:Nat)(qc:Nat→Option Addr×Nat)(x1 y1 x2 y2:Nat)(hd:dl P≤400)(lx1:x1<P)(ly1:y1<P)(lx2:x2<P)(ly2:y2<P)(hx:x1≠x2)(h1P:1<P)(p1 q1:Option Addr)(n1 m1:Nat)(p2 q2:Option Addr)(n2 m2:Nat)(iv:Nat)(t1:Nat)(ht1:subM y2 y1 P=t1)(t2:Nat)(ht2:subM x2 x1 P=t2)(t3:Nat)(ht3:t1*iv%P=t3)(t4:Nat)(ht4:t3*t3%P=t4)(t5:Nat)(ht5:subM t4 x1 P=t5)(t6:Nat)(ht6:subM t5 x2 P=t6)(t7:Nat)(ht7:subM x1 t6 P=t7)(t8:Nat)(ht8:t3*t7%P=t8)(t9:Nat)(ht9:subM t8 y1 P=t9)(liv:iv<P)(hiv:t2*iv%P=1)(w:World)(HQ:∀k,Sl w (qc k).1 (six P A B N X Y k))(Sx1:Sl w p1 x1)(Sy1:Sl w q1 y1)(Sx2:Sl w p2 x2)(Sy2:Sl w q2 y2):
 Calls prog 15 #[.agg (crA id (six P A B N X Y) qc),.agg (ptA p1 (x1) n1 q1 (y1) m1 false),.agg (ptA p2 (x2) n2 q2 (y2) m2 false)] w (Rt (.pt t6 t9 false) w):=by
 have hP:0<P:=by omega
 obtain⟨zz,ez⟩:=exl (cmpZ x1 x2)
 have bz:(zz==0)=false:=by rw[←ez,cmpZ_nought,decide_eq_false hx]
 have lt1:=ht1▸subM_lt ly2 ly1;have lt2:=ht2▸subM_lt lx2 lx1;have lt3:=ht3▸Nat.mod_lt _ hP;have lt4:=ht4▸Nat.mod_lt _ hP;have lt5:=ht5▸subM_lt lt4 lx1;have lt6:=ht6▸subM_lt lt5 lx2;have lt7:=ht7▸subM_lt lx1 lt6;have lt8:=ht8▸Nat.mod_lt _ hP;have lt9:=ht9▸subM_lt lt8 ly1
 go_enter func15,ntmps15
 go_upto_region 1 with fail
 refine gen_w (fun v=>Gr w v∧Vr v (w.heap.size) (crA id (six P A B N X Y) qc)∧Vr v (w.heap.size+1) (ptA p1 (x1) n1 q1 (y1) m1 false)∧Vr v (w.heap.size+1+1) (ptA p2 (x2) n2 q2 (y2) m2 false)∧Vr v (w.heap.size+1+1+1) (ptA none 0 0 none 0 0 false)) ⟨grA,vrA,vrA,vrA,vrA⟩ ?_;rintro v0 ⟨G,c1,c2,c3,c4⟩;replace HQ:=fun k=>(HQ k).gr G;replace Sx1:=Sx1.gr G;replace Sy1:=Sy1.gr G;replace Sx2:=Sx2.gr G;replace Sy2:=Sy2.gr G;refine wp_wS [.c (pv (w.heap.size+1) 2),.F] [1] ⟨.o 4 2 c2 rfl rfl,⟨⟩⟩ fun yw1 v1 hg h1=>?_;simp only[fzw];clear h1;have g1:=hg;clear hg
 go_upto_region 3 with fail
 refine wp_wS [.c (pv (w.heap.size+1+1) 2),.F] [1] ⟨.o 4 2 (c3.gr g1) rfl rfl,⟨⟩⟩ fun yw3 v2 hg h3=>?_;simp only[fzw];clear h3;replace g1:=g1.trans hg;clear hg
 go_upto_region 5 with fail
 refine wp_wS [.c (.slice none 0 0),.c (.slice none 0 0)] [] ⟨⟩ fun yw5 v3 hg h5=>?_;simp only[fzw];clear h5;replace g1:=g1.trans hg;clear hg
 go_upto_region 6 with fail
 refine wp_wS [.c (pv (w.heap.size+1) 0),.c (.slice p1 (dl (x1)) n1),.c (pv (w.heap.size+1+1) 0),.c (.slice p2 (dl (x2)) n2),.c (.int .i64 zz),.F] [1,3,4,5] ⟨.o 29 0 (c2.gr g1) rfl rfl,.o 29 0 (c3.gr g1) rfl rfl,.k (fun yy =>#[.slice p1 (dl (x1)) n1,.slice p2 (dl (x2)) n2]) fun yy vv hg hh=>RtW.of_c (cz_any (Sx1.gr (g1.trans hg)) (Sx2.gr (g1.trans hg)) (dl_low _ P 400 (by omega) hd) (dl_low _ P 400 (by omega) hd) ez),.s (.binOp .eql 3 (.const (.int .i64 zz)) (.const (.int .i64 0)) 3) rfl fun vv hg=>by simp[go_sem,exI,bz],⟨⟩⟩ fun yw6 v4 hg h6=>?_;simp only[fzw];clear h6;replace g1:=g1.trans hg;clear hg
 go_upto_region 12 with fail
 refine wp_wS [.c (pv (w.heap.size+1+1) 1),.c (.slice q2 (dl (y2)) m2),.c (pv (w.heap.size+1) 1),.c (.slice q1 (dl (y1)) m1),.c (pv (w.heap.size) 1),.c (.slice (qc 0).1 (dl (P)) (qc 0).2),.n (t1),.n (t1)] [1,3,5,6,7] ⟨.o 29 1 (c3.gr g1) rfl rfl,.o 29 1 (c2.gr g1) rfl rfl,.o 29 1 (c1.gr g1) rfl rfl,.k (fun yy =>#[.slice q2 (dl (y2)) m2,.slice q1 (dl (y1)) m1,.slice (qc 0).1 (dl (P)) (qc 0).2]) fun yy vv hg hh=>RtW.of_n (sm_any (Sy2.gr (g1.trans hg)) (Sy1.gr (g1.trans hg)) ((HQ 0).gr (g1.trans hg)) ly2 ly1 hd ht1),.m 6,⟨⟩⟩ fun yw12 v5 hg h12=>?_;simp only[fzw];have S12_7:=h12 7;clear h12;replace g1:=g1.trans hg;clear hg
 go_upto_region 13 with fail
 refine wp_wS [.c (pv (w.heap.size+1+1) 0),.c (.slice p2 (dl (x2)) n2),.c (pv (w.heap.size+1) 0),.c (.slice p1 (dl (x1)) n1),.c (pv (w.heap.size) 1),.c (.slice (qc 0).1 (dl (P)) (qc 0).2),.n (t2),.n (t2)] [1,3,5,6,7] ⟨.o 29 0 (c3.gr g1) rfl rfl,.o 29 0 (c2.gr g1) rfl rfl,.o 29 1 (c1.gr g1) rfl rfl,.k (fun yy =>#[.slice p2 (dl (x2)) n2,.slice p1 (dl (x1)) n1,.slice (qc 0).1 (dl (P)) (qc 0).2]) fun yy vv hg hh=>RtW.of_n (sm_any (Sx2.gr (g1.trans hg)) (Sx1.gr (g1.trans hg)) ((HQ 0).gr (g1.trans hg)) lx2 lx1 hd ht2),.m 6,⟨⟩⟩ fun yw13 v6 hg h13=>?_;simp only[fzw];have S13_7:=h13 7;clear h13;replace g1:=g1.trans hg;have g13:=hg;clear hg
 go_upto_region 14 with fail
 refine wp_wS [.c (.slice (yw13 7 0).1 (dl (t2)) (yw13 7 0).2),.c (pv (w.heap.size) 1),.c (.slice (qc 0).1 (dl (P)) (qc 0).2),.nb (iv) true,.nb (iv) true,.n (iv),.T,.n (iv),.T] [2,3,4,5,6,7] ⟨.o 29 1 (c1.gr g1) rfl rfl,.k (fun yy =>#[.slice (yw13 7 0).1 (dl (t2)) (yw13 7 0).2,.slice (qc 0).1 (dl (P)) (qc 0).2]) fun yy vv hg hh=>RtW.of_nb (iv_any (S13_7.gr hg) ((HQ 0).gr (g1.trans hg)) lt2 hd h1P liv hiv),.m 3,.m 4,.m 4,.m 5,⟨⟩⟩ fun yw14 v7 hg h14=>?_;simp only[fzw];have S14_7:=h14 7;clear h14;replace g1:=g1.trans hg;replace g13:=g13.trans hg;have g14:=hg;clear hg
 go_upto_region 15 with fail
 refine wp_wS [.c (.slice (yw12 7 0).1 (dl (t1)) (yw12 7 0).2),.c (.slice (yw14 7 0).1 (dl (iv)) (yw14 7 0).2),.c (pv (w.heap.size) 1),.c (.slice (qc 0).1 (dl (P)) (qc 0).2),.n (t3),.n (t3)] [3,4,5] ⟨.o 29 1 (c1.gr g1) rfl rfl,.k (fun yy =>#[.slice (yw12 7 0).1 (dl (t1)) (yw12 7 0).2,.slice (yw14 7 0).1 (dl (iv)) (yw14 7 0).2,.slice (qc 0).1 (dl (P)) (qc 0).2]) fun yy vv hg hh=>RtW.of_n (mm_any (S12_7.gr (g13.trans hg)) (S14_7.gr hg) ((HQ 0).gr (g1.trans hg)) lt1 liv hd ht3),.m 4,⟨⟩⟩ fun yw15 v8 hg h15=>?_;simp only[fzw];have S15_5:=h15 5;clear h15;replace g1:=g1.trans hg;replace g13:=g13.trans hg;replace g14:=g14.trans hg;have g15:=hg;clear hg
 go_upto_region 16 with fail
 refine wp_w [.c (.slice (yw15 5 0).1 (dl (t3)) (yw15 5 0).2),.c (.slice (yw15 5 0).1 (dl (t3)) (yw15 5 0).2),.c (pv (w.heap.size) 1),.c (.slice (qc 0).1 (dl (P)) (qc 0).2),.n (t4),.c (pv (w.heap.size+1) 0),.c (.slice p1 (dl (x1)) n1),.c (pv (w.heap.size) 1),.c (.slice (qc 0).1 (dl (P)) (qc 0).2),.n (t5),.c (pv (w.heap.size+1+1) 0),.c (.slice p2 (dl (x2)) n2),.c (pv (w.heap.size) 1),.c (.slice (qc 0).1 (dl (P)) (qc 0).2),.n (t6),.n (t6)] [3,4,6,8,9,11,13,14,15] ⟨.o 29 1 (c1.gr g1) rfl rfl,.k (fun yy =>#[.slice (yw15 5 0).1 (dl (t3)) (yw15 5 0).2,.slice (yw15 5 0).1 (dl (t3)) (yw15 5 0).2,.slice (qc 0).1 (dl (P)) (qc 0).2]) fun yy vv hg hh=>RtW.of_n (mm_any (S15_5.gr hg) (S15_5.gr hg) ((HQ 0).gr (g1.trans hg)) lt3 lt3 hd ht4),.o 29 0 (c2.gr g1) rfl rfl,.o 29 1 (c1.gr g1) rfl rfl,.k (fun yy =>#[.slice (yy 4 0).1 (dl (t4)) (yy 4 0).2,.slice p1 (dl (x1)) n1,.slice (qc 0).1 (dl (P)) (qc 0).2]) fun yy vv hg hh=>RtW.of_n (sm_any (hh 4 rfl) (Sx1.gr (g1.trans hg)) ((HQ 0).gr (g1.trans hg)) lt4 lx1 hd ht5),.o 29 0 (c3.gr g1) rfl rfl,.o 29 1 (c1.gr g1) rfl rfl,.k (fun yy =>#[.slice (yy 9 0).1 (dl (t5)) (yy 9 0).2,.slice p2 (dl (x2)) n2,.slice (qc 0).1 (dl (P)) (qc 0).2]) fun yy vv hg hh=>RtW.of_n (sm_any (hh 9 rfl) (Sx2.gr (g1.trans hg)) ((HQ 0).gr (g1.trans hg)) lt5 lx2 hd ht6),.m 14,⟨⟩⟩ fun yw16 v9 hg h16=>?_;simp only[fzw];have S16_15:=h16 15;clear h16;replace g1:=g1.trans hg;replace g13:=g13.trans hg;replace g14:=g14.trans hg;replace g15:=g15.trans hg;have g16:=hg;clear hg
 go_upto_region 17 with fail
 refine wp_w [.c (.slice (yw15 5 0).1 (dl (t3)) (yw15 5 0).2),.c (pv (w.heap.size+1) 0),.c (.slice p1 (dl (x1)) n1),.c (.slice (yw16 15 0).1 (dl (t6)) (yw16 15 0).2),.c (pv (w.heap.size) 1),.c (.slice (qc 0).1 (dl (P)) (qc 0).2),.n (t7),.c (pv (w.heap.size) 1),.c (.slice (qc 0).1 (dl (P)) (qc 0).2),.n (t8),.c (pv (w.heap.size+1) 1),.c (.slice q1 (dl (y1)) m1),.c (pv (w.heap.size) 1),.c (.slice (qc 0).1 (dl (P)) (qc 0).2),.n (t9),.n (t9)] [2,5,6,8,9,11,13,14,15] ⟨.o 29 0 (c2.gr g1) rfl rfl,.o 29 1 (c1.gr g1) rfl rfl,.k (fun yy =>#[.slice p1 (dl (x1)) n1,.slice (yw16 15 0).1 (dl (t6)) (yw16 15 0).2,.slice (qc 0).1 (dl (P)) (qc 0).2]) fun yy vv hg hh=>RtW.of_n (sm_any (Sx1.gr (g1.trans hg)) (S16_15.gr hg) ((HQ 0).gr (g1.trans hg)) lx1 lt6 hd ht7),.o 29 1 (c1.gr g1) rfl rfl,.k (fun yy =>#[.slice (yw15 5 0).1 (dl (t3)) (yw15 5 0).2,.slice (yy 6 0).1 (dl (t7)) (yy 6 0).2,.slice (qc 0).1 (dl (P)) (qc 0).2]) fun yy vv hg hh=>RtW.of_n (mm_any (S15_5.gr (g16.trans hg)) (hh 6 rfl) ((HQ 0).gr (g1.trans hg)) lt3 lt7 hd ht8),.o 29 1 (c2.gr g1) rfl rfl,.o 29 1 (c1.gr g1) rfl rfl,.k (fun yy =>#[.slice (yy 9 0).1 (dl (t8)) (yy 9 0).2,.slice q1 (dl (y1)) m1,.slice (qc 0).1 (dl (P)) (qc 0).2]) fun yy vv hg hh=>RtW.of_n (sm_any (hh 9 rfl) (Sy1.gr (g1.trans hg)) ((HQ 0).gr (g1.trans hg)) lt8 ly1 hd ht9),.m 14,⟨⟩⟩ fun yw17 v10 hg h17=>?_;simp only[fzw];have S17_15:=h17 15;clear h17;replace g1:=g1.trans hg;replace g13:=g13.trans hg;replace g14:=g14.trans hg;replace g15:=g15.trans hg;replace g16:=g16.trans hg;have g17:=hg;clear hg
 go_upto_region 18 with fail
 refine wp_wTS 3 [.c (.slice (yw16 15 0).1 (dl (t6)) (yw16 15 0).2),.c (.slice (yw17 15 0).1 (dl (t9)) (yw17 15 0).2),.pt (t6) (t9) false] [2] ⟨.p (fun yy i=>match i with|0=>((yw16 15 0).1,(yw16 15 0).2)|_=>((yw17 15 0).1,(yw17 15 0).2)) fun yy vv hg hh=>⟨(S16_15.gr (g17.trans hg)),(S17_15.gr hg)⟩,⟨⟩⟩ (.s 39 (fun yy=>.pointer (some ⟨w.heap.size+1+1+1,0,none⟩)) (fun yy=>.agg (ptA (yy 2 0).1 (t6) (yy 2 0).2 (yy 2 1).1 (t9) (yy 2 1).2 false)) fun yw18 v11 hg h18=>?_);have HT:=((c4.gr g1).gr hg).h;have FT:=((c4.gr g1).gr hg).f;refine⟨setBlk v11 (w.heap.size+1+1+1) (ptA (yw18 2 0).1 (t6) (yw18 2 0).2 (yw18 2 1).1 (t9) (yw18 2 1).2 false),by simp[go_sem,exI,HT,FT],?_⟩;simp only[fzw];obtain⟨S18_2,T18_2⟩:=h18 2;clear h18;replace g1:=g1.trans hg;replace G:=G.trans g1
 go_wp2_with fail
 exact bodyPost_ret (res_one results15 (rd_pt _ _ _ _ _ _ _ (by rfl) (blk_setBlk _ _ _ (by rw[HT];decide)))) rfl ⟨_,rfl,⟨_,_,_,_,rfl,Sl.set S18_2 (by rw[HT];exact ptA_no _ _ _ _ _ _ _),Sl.set T18_2 (by rw[HT];exact ptA_no _ _ _ _ _ _ _)⟩,gr_setNew G (by omega)⟩
end
end
section
def ex{p:Nat}:Option (Fin p×Fin p)→Nat
 | none=>0
 | some q=>q.1.val
def ey{p:Nat}:Option (Fin p×Fin p)→Nat
 | none=>0
 | some q=>q.2.val
def ef{p:Nat}:Option (Fin p×Fin p)→Bool
 | none=>true
 | some _=>false
theorem subM_val{p:Nat}(a b:Fin p):subM a.val b.val p=(a-b).val:=by
 have h:(a-b).val=(p-b.val+a.val)%p:=Fin.sub_def a b▸rfl;rw[h];unfold subM
 split
 ·rw[show p-b.val+a.val=a.val-b.val+p by omega,Nat.add_mod_right,Nat.mod_eq_of_lt (by omega)]
 ·rw[Nat.mod_eq_of_lt (by omega)];omega
theorem one_val{p:Nat}[NeZero p](h:1<p):(1:Fin p).val=1:=by
 exact Nat.mod_eq_of_lt h
theorem inv_val{p:Nat}[NeZero p](h:1<p){a b:Fin p}(e:b*a=1):a.val*b.val%p=1:=by
 rw[Nat.mul_comm,←Fin.val_mul,e,one_val h]
section
variable {P:Nat} [NeZero P] {i:Fin P→Fin P} {A B:Fin P}
theorem rplus_any(C:EC.Cur i A B)(hd:dl P≤400)(id:Int)(N X Y:Nat)(qc:Nat→Option Addr×Nat)(Q1 Q2:Option (Fin P×Fin P))(p1 q1:Option Addr)(n1 m1:Nat)(p2 q2:Option Addr)(n2 m2:Nat)(w:World)(HQ:∀k,Sl w (qc k).1 (six P A.val B.val N X Y k))(Sx1:Sl w p1 (ex Q1))(Sy1:Sl w q1 (ey Q1))(Sx2:Sl w p2 (ex Q2))(Sy2:Sl w q2 (ey Q2)):
 Calls prog 15 #[.agg (crA id (six P A.val B.val N X Y) qc),.agg (ptA p1 (ex Q1) n1 q1 (ey Q1) m1 (ef Q1)),.agg (ptA p2 (ex Q2) n2 q2 (ey Q2) m2 (ef Q2))] w
  (Rt (.pt (ex (EC.pl i A Q1 Q2)) (ey (EC.pl i A Q1 Q2)) (ef (EC.pl i A Q1 Q2))) w):=by
 have h1P:=C.pr.1
 match Q1,Q2,Sx1,Sy1,Sx2,Sy2 with
 | none,Q2,Sx1,Sy1,Sx2,Sy2=>exact rplus_inf1 id P A.val B.val N X Y qc 0 0 (ex Q2) (ey Q2) (ef Q2) p1 q1 n1 m1 p2 q2 n2 m2 w HQ Sx1 Sy1 Sx2 Sy2
 | some (x1,y1),none,Sx1,Sy1,Sx2,Sy2=>exact rplus_inf2 id P A.val B.val N X Y qc x1.val y1.val 0 0 p1 q1 n1 m1 p2 q2 n2 m2 w HQ Sx1 Sy1 Sx2 Sy2
 | some (x1,y1),some (x2,y2),Sx1,Sy1,Sx2,Sy2=>
  by_cases hx:x1=x2
  ·subst hx
   by_cases hy:y1=y2
   ·subst hy
    by_cases h0:y1=0
    ·subst h0
     have e:EC.pl i A (some (x1,0)) (some (x1,0))=none:=by simp[EC.pl]
     rw[e];have ez:=Fin.val_zero P;have:=rplus_flat id P A.val B.val N X Y qc x1.val hd x1.isLt p1 q1 n1 m1 p2 q2 n2 m2 w HQ Sx1 (by have:=Sy1;simp only[ey,ez]at this;exact this) Sx2 (by have:=Sy2;simp only[ey,ez]at this;exact this);simp only[ex,ey,ef,ez];exact this
    ·have hs:y1+y1≠0:=fun h=>h0 (C.dbl h)
     have e:EC.pl i A (some (x1,y1)) (some (x1,y1))=some (EC.sx ((x1*x1+(x1*x1+x1*x1)+A)*i (y1+y1)) x1 x1,EC.sy ((x1*x1+(x1*x1+x1*x1)+A)*i (y1+y1)) x1 y1 (EC.sx ((x1*x1+(x1*x1+x1*x1)+A)*i (y1+y1)) x1 x1)):=by simp[EC.pl,h0]
     rw[e]
     exact rplus_dbl id P A.val B.val N X Y qc x1.val y1.val hd x1.isLt y1.isLt A.isLt (fun h=>h0 (Fin.ext (h.trans (Fin.val_zero P).symm))) h1P p1 q1 n1 m1 p2 q2 n2 m2 (i (y1+y1)).val _ (Fin.val_mul x1 x1).symm _ (Fin.val_add _ _).symm _ (Fin.val_add _ _).symm _ (Fin.val_add _ _).symm _ (Fin.val_add y1 y1).symm
      _ (Fin.val_mul _ _).symm _ (Fin.val_mul _ _).symm _ (subM_val _ _) _ (subM_val _ _) _ (subM_val _ _) _ (Fin.val_mul _ _).symm _ (subM_val _ _) (i (y1+y1)).isLt (inv_val h1P (C.inv _ hs)) w HQ Sx1 Sy1 Sx2 Sy2
   ·have e:EC.pl i A (some (x1,y1)) (some (x1,y2))=none:=by simp[EC.pl,hy]
    rw[e];exact rplus_op id P A.val B.val N X Y qc x1.val y1.val y2.val hd x1.isLt y1.isLt y2.isLt (fun h=>hy (Fin.ext h)) p1 q1 n1 m1 p2 q2 n2 m2 w HQ Sx1 Sy1 Sx2 Sy2
  ·have hs:x2-x1≠0:=fun h=>hx (EC.sub_zero_of h).symm
   have e:EC.pl i A (some (x1,y1)) (some (x2,y2))=some (EC.sx ((y2-y1)*i (x2-x1)) x1 x2,EC.sy ((y2-y1)*i (x2-x1)) x1 y1 (EC.sx ((y2-y1)*i (x2-x1)) x1 x2)):=by simp[EC.pl,hx]
   rw[e]
   exact rplus_add id P A.val B.val N X Y qc x1.val y1.val x2.val y2.val hd x1.isLt y1.isLt x2.isLt y2.isLt (fun h=>hx (Fin.ext h)) h1P p1 q1 n1 m1 p2 q2 n2 m2 (i (x2-x1)).val _ (subM_val y2 y1) _ (subM_val x2 x1) _ (Fin.val_mul _ _).symm _ (Fin.val_mul _ _).symm _ (subM_val _ _) _ (subM_val _ _) _ (subM_val _ _) _ (Fin.val_mul _ _).symm _ (subM_val _ _)
    (i (x2-x1)).isLt (inv_val h1P (C.inv _ hs)) w HQ Sx1 Sy1 Sx2 Sy2
end
end
section
abbrev Q3:=Nat×Nat×Bool
def inf:Q3:=(0,0,true)
abbrev pnQ(Q:Q3):Array Value:=pnt Q.1 Q.2.1 Q.2.2
def OnQ(k:Nat)(Q:Q3):Prop:=onB k Q.1 Q.2.1 Q.2.2=true
def encQ{p:Nat}(Q:Option (Fin p×Fin p)):Q3:=(ex Q,ey Q,ef Q)
def decQ(p:Nat)[NeZero p](Q:Q3):Option (Fin p×Fin p):=cond Q.2.2 none (some (Fin.ofNat p Q.1,Fin.ofNat p Q.2.1))
theorem dec_enc{p:Nat}[NeZero p](Q:Option (Fin p×Fin p)):decQ p (encQ Q)=Q:=by
 cases Q with
 | none=>rfl
 | some q=>
  obtain⟨x,y⟩:=q
  show some (Fin.ofNat p x.val,Fin.ofNat p y.val)=some (x,y)
  rw[show Fin.ofNat p x.val=x from Fin.ext (Nat.mod_eq_of_lt x.isLt),show Fin.ofNat p y.val=y from Fin.ext (Nat.mod_eq_of_lt y.isLt)]
theorem OnQ.cases{k:Nat}{Q:Q3}(h:OnQ k Q):Q=inf∨∃x y,Q=(x,y,false)∧x<pN k∧y<pN k∧y*y%pN k=rhN k x:=by
 obtain⟨x,y,f⟩:=Q
 cases f with
 | true=>
  simp only[OnQ,onB,if_true,Bool.and_eq_true,decide_eq_true_eq]at h;exact .inl (by rw[h.1,h.2];rfl)
 | false=>
  simp only[OnQ,onB,Bool.false_eq_true,if_false,Bool.and_eq_true,decide_eq_true_eq]at h;exact .inr ⟨x,y,rfl,h⟩
theorem enc_dec{k:Nat}[NeZero (pN k)]{Q:Q3}(h:OnQ k Q):encQ (decQ (pN k) Q)=Q:=by
 rcases h.cases with rfl|⟨x,y,rfl,hx,hy,-⟩
 ·rfl
 ·show (x%pN k,y%pN k,false)=(x,y,false)
  rw[Nat.mod_eq_of_lt hx,Nat.mod_eq_of_lt hy]
theorem dec3{k:Nat}[NeZero (pN k)]{P:Q3}(h:OnQ k P):ex (decQ (pN k) P)=P.1∧ey (decQ (pN k) P)=P.2.1∧ef (decQ (pN k) P)=P.2.2:=by
 have e:=enc_dec h;exact⟨congrArg (·.1) e,congrArg (·.2.1) e,congrArg (·.2.2) e⟩
theorem OnQ.lt{k:Nat}{Q:Q3}(h:OnQ k Q):Q.1<M∧Q.2.1<M:=by
 have hp:=pN_M k
 rcases h.cases with rfl|⟨x,y,rfl,hx,hy,-⟩
 ·exact⟨M_pos,M_pos⟩
 ·exact⟨Nat.lt_trans hx hp,Nat.lt_trans hy hp⟩
theorem inf_on(k:Nat):OnQ k inf:=rfl
section
variable {k:Nat} (h1:1≤k) (h2:k≤15) [NeZero (pN k)]
theorem on_iff(x y:Fin (pN k)):EC.OnC (EC.aF k h1 h2) (EC.bF k h1 h2) x y↔y.val*y.val%pN k=rhN k x.val:=by
 have e:x*x*x+EC.aF k h1 h2*x+EC.bF k h1 h2=(x*x+EC.aF k h1 h2)*x+EC.bF k h1 h2:=by grobner
 unfold EC.OnC;rw[e]
 constructor
 ·intro h;exact congrArg Fin.val h
 ·intro h;exact Fin.ext h
theorem on_dec{Q:Q3}(h:OnQ k Q):EC.On (EC.aF k h1 h2) (EC.bF k h1 h2) (decQ (pN k) Q):=by
 rcases h.cases with rfl|⟨x,y,rfl,hx,hy,e⟩
 ·trivial
 ·show EC.OnC _ _ (Fin.ofNat (pN k) x) (Fin.ofNat (pN k) y)
  rw[on_iff]
  show (y%pN k)*(y%pN k)%pN k=rhN k (x%pN k)
  rw[Nat.mod_eq_of_lt hx,Nat.mod_eq_of_lt hy,e]
theorem on_enc{R:Option (Fin (pN k)×Fin (pN k))}(h:EC.On (EC.aF k h1 h2) (EC.bF k h1 h2) R):OnQ k (encQ R):=by
 cases R with
 | none=>rfl
 | some q=>
  obtain⟨x,y⟩:=q;have h':=(on_iff h1 h2 x y).1 h
  show onB k x.val y.val false=true
  simp only[onB,Bool.false_eq_true,if_false,Bool.and_eq_true,decide_eq_true_eq];exact⟨x.isLt,y.isLt,h'⟩
end
def plQ(k:Nat)(P Q:Q3):Q3:=if h:1≤k∧k≤15 then(haveI:=EC.nzP k h.1 h.2;encQ (EC.pl (EC.iP (pN k)) (EC.aF k h.1 h.2) (decQ (pN k) P) (decQ (pN k) Q))) else inf
def mlQ(k n:Nat)(P:Q3):Q3:=if h:1≤k∧k≤15 then(haveI:=EC.nzP k h.1 h.2;encQ (EC.ml (EC.iP (pN k)) (EC.aF k h.1 h.2) n (decQ (pN k) P))) else inf
def gQ(k:Nat):Q3:=(xN k,yN k,false)
theorem plQ_is{k:Nat}(h1:1≤k)(h2:k≤15)[NeZero (pN k)](P Q:Q3):plQ k P Q=encQ (EC.pl (EC.iP (pN k)) (EC.aF k h1 h2) (decQ (pN k) P) (decQ (pN k) Q)):=dif_pos ⟨h1,h2⟩
theorem mlQ_is{k:Nat}(h1:1≤k)(h2:k≤15)[NeZero (pN k)](n:Nat)(P:Q3):mlQ k n P=encQ (EC.ml (EC.iP (pN k)) (EC.aF k h1 h2) n (decQ (pN k) P)):=dif_pos ⟨h1,h2⟩
theorem gQ_on{k:Nat}(h1:1≤k)(h2:k≤15):OnQ k (gQ k):=gN_on k h1 h2
theorem plQ_on{k:Nat}(h1:1≤k)(h2:k≤15){P Q:Q3}(hP:OnQ k P)(hQ:OnQ k Q):OnQ k (plQ k P Q):=by
 haveI:=EC.nzP k h1 h2
 rw[plQ_is h1 h2];exact on_enc h1 h2 (EC.pl_on (EC.curN k h1 h2) (on_dec h1 h2 hP) (on_dec h1 h2 hQ))
theorem mlQ_on{k:Nat}(h1:1≤k)(h2:k≤15)(n:Nat){P:Q3}(hP:OnQ k P):OnQ k (mlQ k n P):=by
 haveI:=EC.nzP k h1 h2
 rw[mlQ_is h1 h2];exact on_enc h1 h2 (EC.ml_on (EC.curN k h1 h2) (on_dec h1 h2 hP) n)
theorem plQ_comm{k:Nat}(h1:1≤k)(h2:k≤15){P Q:Q3}(hP:OnQ k P)(hQ:OnQ k Q):plQ k P Q=plQ k Q P:=by
 haveI:=EC.nzP k h1 h2
 rw[plQ_is h1 h2,plQ_is h1 h2,EC.pl_comm (EC.curN k h1 h2) (on_dec h1 h2 hP) (on_dec h1 h2 hQ)]
theorem plQ_assoc{k:Nat}(h1:1≤k)(h2:k≤15){P Q R:Q3}(hP:OnQ k P)(hQ:OnQ k Q)(hR:OnQ k R):plQ k (plQ k P Q) R=plQ k P (plQ k Q R):=by
 haveI:=EC.nzP k h1 h2
 rw[plQ_is h1 h2 P Q,plQ_is h1 h2 Q R,plQ_is h1 h2,plQ_is h1 h2,dec_enc,dec_enc,EC.pl_assoc (EC.curN k h1 h2) (on_dec h1 h2 hP) (on_dec h1 h2 hQ) (on_dec h1 h2 hR)]
theorem plQ_inf{k:Nat}(h1:1≤k)(h2:k≤15){P:Q3}(hP:OnQ k P):plQ k P inf=P:=by
 haveI:=EC.nzP k h1 h2
 rw[plQ_is h1 h2,show decQ (pN k) inf=none from rfl,EC.pl_none,enc_dec hP]
theorem inf_plQ{k:Nat}(h1:1≤k)(h2:k≤15){P:Q3}(hP:OnQ k P):plQ k inf P=P:=by
 haveI:=EC.nzP k h1 h2
 rw[plQ_is h1 h2,show decQ (pN k) inf=none from rfl];exact enc_dec hP
theorem mlQ_zero{k:Nat}(h1:1≤k)(h2:k≤15)(P:Q3):mlQ k 0 P=inf:=by
 haveI:=EC.nzP k h1 h2
 rw[mlQ_is h1 h2];rfl
theorem mlQ_one{k:Nat}(h1:1≤k)(h2:k≤15){P:Q3}(hP:OnQ k P):mlQ k 1 P=P:=by
 haveI:=EC.nzP k h1 h2
 rw[mlQ_is h1 h2,EC.ml_one,enc_dec hP]
theorem mlQ_add{k:Nat}(h1:1≤k)(h2:k≤15)(m n:Nat){P:Q3}(hP:OnQ k P):mlQ k (m+n) P=plQ k (mlQ k m P) (mlQ k n P):=by
 haveI:=EC.nzP k h1 h2
 rw[mlQ_is h1 h2,mlQ_is h1 h2 m,mlQ_is h1 h2 n,plQ_is h1 h2,dec_enc,dec_enc,EC.ml_add (EC.curN k h1 h2) (on_dec h1 h2 hP)]
theorem mlQ_mul{k:Nat}(h1:1≤k)(h2:k≤15)(m n:Nat){P:Q3}(hP:OnQ k P):mlQ k (n*m) P=mlQ k n (mlQ k m P):=by
 haveI:=EC.nzP k h1 h2
 rw[mlQ_is h1 h2,mlQ_is h1 h2 m,mlQ_is h1 h2 n,dec_enc,EC.ml_mul (EC.curN k h1 h2) (on_dec h1 h2 hP)]
theorem mlQ_inf{k:Nat}(h1:1≤k)(h2:k≤15)(n:Nat):mlQ k n inf=inf:=by
 haveI:=EC.nzP k h1 h2
 rw[mlQ_is h1 h2,show decQ (pN k) inf=none from rfl,EC.ml_none]
 rfl
theorem dec_g{k:Nat}(h1:1≤k)(h2:k≤15)[NeZero (pN k)]:decQ (pN k) (gQ k)=some (EC.xF k h1 h2,EC.yF k h1 h2):=by
 show some (Fin.ofNat (pN k) (xN k),Fin.ofNat (pN k) (yN k))=_
 rw[show Fin.ofNat (pN k) (xN k)=EC.xF k h1 h2 from Fin.ext (Nat.mod_eq_of_lt (xN_lt k h1 h2)),show Fin.ofNat (pN k) (yN k)=EC.yF k h1 h2 from Fin.ext (Nat.mod_eq_of_lt (yN_lt k h1 h2).1)]
theorem mlQ_N{k:Nat}(h1:1≤k)(h2:k≤15):mlQ k (oN k) (gQ k)=inf:=by
 haveI:=EC.nzP k h1 h2
 rw[mlQ_is h1 h2,dec_g h1 h2,EC.ml_G k h1 h2]
 rfl
theorem mlQ_mod{k:Nat}(h1:1≤k)(h2:k≤15)(n:Nat):mlQ k (n%oN k) (gQ k)=mlQ k n (gQ k):=by
 have h:mlQ k n (gQ k)=mlQ k (oN k*(n/oN k)+n%oN k) (gQ k):=by rw[Nat.div_add_mod]
 rw[h,mlQ_add h1 h2 _ _ (gQ_on h1 h2),Nat.mul_comm,mlQ_mul h1 h2 _ _ (gQ_on h1 h2),mlQ_N h1 h2,mlQ_inf h1 h2,inf_plQ h1 h2 (mlQ_on h1 h2 _ (gQ_on h1 h2))]
end
section
theorem fsubF{k:Nat}(h1:1≤k)(h2:k≤15)(a b:Fin (pN k))(w:World):Cg 148 #[.int .i64 (k:Int),.agg (nw 9 a.val),.agg (nw 9 b.val)] w (.tuple #[.agg (nw 9 (a-b).val),.int .i64 0]):=by
 have h:=fSub_ok k a.val b.val h1 h2 a.isLt b.isLt w;rw[show (a.val+pN k-b.val)%pN k=(a-b).val by rw[Fin.sub_def];show _=(pN k-b.val+a.val)%pN k;rw[show a.val+pN k-b.val=pN k-b.val+a.val by omega]]at h;exact h
theorem faddF{k:Nat}(h1:1≤k)(h2:k≤15)(a b:Fin (pN k))(w:World):Cg 119 #[.int .i64 (k:Int),.agg (nw 9 a.val),.agg (nw 9 b.val)] w (.tuple #[.agg (nw 9 (a+b).val),.int .i64 0]):=by
 have h:=fAdd_ok k a.val b.val h1 h2 a.isLt b.isLt w;rw[←Fin.val_add]at h;exact h
theorem fmulF{k:Nat}(h1:1≤k)(h2:k≤15)(a b:Fin (pN k))(w:World):Cg 118 #[.int .i64 (k:Int),.agg (nw 9 a.val),.agg (nw 9 b.val)] w (.tuple #[.agg (nw 9 (a*b).val),.int .i64 0]):=by
 have h:=fMul_ok k a.val b.val h1 h2 a.isLt b.isLt w;rw[←Fin.val_mul]at h;exact h
theorem finvF{k:Nat}(h1:1≤k)(h2:k≤15)[NeZero (pN k)](b:Fin (pN k))(hb:b≠0)(w:World):Cg 125 #[.int .i64 (k:Int),.agg (nw 9 b.val)] w (.tuple #[.agg (nw 9 (EC.iP (pN k) b).val),.int .i64 0]):=by
 have hp:=prm_pN k h1 h2;have h0:=Nat.pos_of_ne_zero fun e=>hb (Fin.ext (e.trans (Fin.val_zero (pN k)).symm))
 have hg:=hp.cop fun d=>by
  have:=Nat.le_of_dvd h0 d
  omega
 obtain⟨x,hx,hax,hc⟩:=fInv_ok k b.val h1 h2 h0 b.isLt hg;have e:=inv_one b.val (pN k) x (EC.iP (pN k) b).val hx (EC.iP (pN k) b).isLt hax (inv_val hp.1 (EC.iP_is hp b hb));rw[e]at hc;exact hc w
end
section
attribute [local go_sem ↓] uz1
attribute [local go_sem] uz2
section
attribute [local go_sem] uz8
attribute [local go_sem ↓] uz11 Go.wp_at_zero Go.wp_at_succ
attribute [local go_sem] uz12
theorem jprod_of(id:Int)(P A B N X Y:Nat)(s z:Int)(l:Bool)(n:Nat)(hn:n≤3)(f acc:Nat→Nat)(c:Array Value)(hrow:∀i,i<n→c.extract (i*9) (i*9+9)=nw 9 (f i))(hsz:n*9≤c.size)(HA':∀i,i<n→∀w,Cg 118 #[.int .i64 id,.agg (nw 9 (acc i)),.agg (nw 9 (f i))] w (.tuple #[.agg (nw 9 (acc (i+1))),.int .i64 0]))(b cap:Nat)(w:World)(hv:Vr w b c):
 Cg 123 #[.agg (cu id P A B N X Y s z l),.agg (nw 9 (acc 0)),.slice (some ⟨b,0,none⟩) n cap] w (.agg (nw 9 (acc n))):=by
 have HA:Hid _:=HA';have HN:Hu (n≤3):=fun _=>hn
 have HL:Hid (∀j,j<n→∀v,Gr w v→(loadS 25 (.pointer (some ⟨b,j*9,none⟩))).run prog v=.ok (.agg (nw 9 (f j))) v):=fun j hj v g=>by
  have hb:=(hv.gr g).h;rw[loadPart v b (j*9) (by rw[hb];omega),hb,hrow j hj]
 clear hn HA' hrow hsz
 go_enter func123,ntmps123
 go_wp2_with fail
 refine gen_w (fun wr=>Hid (Gr w wr∧Vr wr (w.heap.size) (cu id P A B N X Y s z l)∧Vr wr (w.heap.size+1+1) (nw 9 0)∧Vr wr (w.heap.size+1+1+1) (nw 9 (acc 0)))) ⟨grA,vrA,vrA,vrA⟩ ?_;intro v0 HV
 go_loopw [13] (fun ia wr=>∃j:Nat,ia=.int .i64 (j:Int)∧Hu (j≤n)∧Hid (Gr w wr∧Vr wr (w.heap.size) (cu id P A B N X Y s z l)∧Vr wr (w.heap.size+1+1) (nw 9 0)∧Vr wr (w.heap.size+1+1+1) (nw 9 (acc j)))) (fun ia _=>((n:Int)-intOf ia).toNat)
 case atStart=>exact⟨0,rfl,fun _=>Nat.zero_le _,HV⟩
 case round=>
  clear HV;obtain⟨j,rfl,HJ,HV⟩:=hrel;obtain⟨G,c0,c1,c2⟩:=HV.out
  have k0:wr.cell? ⟨w.heap.size,0,none⟩=some (.int .i64 id):=by rw[c0.cell];exact cu_0 id P A B N X Y s z l
  have nea:¬(w.heap.size+1+1+1=w.heap.size):=by omega
  have j0:(0:Int)≤(j:Int):=by omega
  have n4:(n:Int)≤3:=by have:=HN.out ();omega
  have⟨h0,f0,p0⟩:=c0;have⟨h1,f1,p1⟩:=c1;have⟨h2,f2,p2⟩:=c2;have⟨p01,p02,p03,p04,p05,p06⟩:=c0.pp;have⟨p11,p12,p13,p14,p15,p16⟩:=c1.pp;have⟨p21,p22,p23,p24,p25,p26⟩:=c2.pp
  by_cases hlt:j<n
  ·have j1:(j:Int)<(n:Int):=by omega
   have ld0:=HL.out j hlt wr G;have HA2:Hid _:=HA.out j hlt
   go_wp2_with (go_at_call 118;refine(HA2.out _).mono ?_;rintro e w' ⟨rfl,g,rfl⟩)
   go_roundw
   case rel=>
    refine⟨j+1,by go_num,fun _=>hlt,?_,⟨by simp[go_sem, *],by simp[go_sem, *],by simp[go_sem, *]⟩,⟨by simp[go_sem, *],by simp[go_sem, *],by simp[go_sem, *]⟩,⟨by simp[go_sem, *],by simp[go_sem, *],by simp[go_sem, *]⟩⟩;exact grB
   case measure=>simp[intOf];omega
  ·have j1:¬(j:Int)<(n:Int):=by omega
   have hj:j=n:=by have:=HJ.out ();omega
   go_wp2_with fail
   refine bodyPost_ret (res_one results123 (rd_nat (x:=acc j) (by rfl) ?_)) rfl ⟨by rw[hj],?_⟩
   ·simp[go_sem, *]
   ·exact grB
theorem jsum_of(id:Int)(P A B N X Y:Nat)(s z:Int)(l:Bool)(n:Nat)(hn:n≤3)(f acc:Nat→Nat)(c:Array Value)(hrow:∀i,i<n→c.extract (i*9) (i*9+9)=nw 9 (f i))(hsz:n*9≤c.size)(HA':∀i,i<n→∀w,Cg 119 #[.int .i64 id,.agg (nw 9 (acc i)),.agg (nw 9 (f i))] w (.tuple #[.agg (nw 9 (acc (i+1))),.int .i64 0]))(b cap:Nat)(w:World)(hv:Vr w b c):
 Cg 122 #[.agg (cu id P A B N X Y s z l),.agg (nw 9 (acc 0)),.slice (some ⟨b,0,none⟩) n cap] w (.agg (nw 9 (acc n))):=by
 have HA:Hid _:=HA';have HN:Hu (n≤3):=fun _=>hn
 have HL:Hid (∀j,j<n→∀v,Gr w v→(loadS 25 (.pointer (some ⟨b,j*9,none⟩))).run prog v=.ok (.agg (nw 9 (f j))) v):=fun j hj v g=>by
  have hb:=(hv.gr g).h;rw[loadPart v b (j*9) (by rw[hb];omega),hb,hrow j hj]
 clear hn HA' hrow hsz
 go_enter func122,ntmps122
 go_wp2_with fail
 refine gen_w (fun wr=>Hid (Gr w wr∧Vr wr (w.heap.size) (cu id P A B N X Y s z l)∧Vr wr (w.heap.size+1+1) (nw 9 0)∧Vr wr (w.heap.size+1+1+1) (nw 9 (acc 0)))) ⟨grA,vrA,vrA,vrA⟩ ?_;intro v0 HV
 go_loopw [13] (fun ia wr=>∃j:Nat,ia=.int .i64 (j:Int)∧Hu (j≤n)∧Hid (Gr w wr∧Vr wr (w.heap.size) (cu id P A B N X Y s z l)∧Vr wr (w.heap.size+1+1) (nw 9 0)∧Vr wr (w.heap.size+1+1+1) (nw 9 (acc j)))) (fun ia _=>((n:Int)-intOf ia).toNat)
 case atStart=>exact⟨0,rfl,fun _=>Nat.zero_le _,HV⟩
 case round=>
  clear HV;obtain⟨j,rfl,HJ,HV⟩:=hrel;obtain⟨G,c0,c1,c2⟩:=HV.out
  have k0:wr.cell? ⟨w.heap.size,0,none⟩=some (.int .i64 id):=by rw[c0.cell];exact cu_0 id P A B N X Y s z l
  have nea:¬(w.heap.size+1+1+1=w.heap.size):=by omega
  have j0:(0:Int)≤(j:Int):=by omega
  have n4:(n:Int)≤3:=by have:=HN.out ();omega
  have⟨h0,f0,p0⟩:=c0;have⟨h1,f1,p1⟩:=c1;have⟨h2,f2,p2⟩:=c2;have⟨p01,p02,p03,p04,p05,p06⟩:=c0.pp;have⟨p11,p12,p13,p14,p15,p16⟩:=c1.pp;have⟨p21,p22,p23,p24,p25,p26⟩:=c2.pp
  by_cases hlt:j<n
  ·have j1:(j:Int)<(n:Int):=by omega
   have ld0:=HL.out j hlt wr G;have HA2:Hid _:=HA.out j hlt
   go_wp2_with (go_at_call 119;refine(HA2.out _).mono ?_;rintro e w' ⟨rfl,g,rfl⟩)
   go_roundw
   case rel=>
    refine⟨j+1,by go_num,fun _=>hlt,?_,⟨by simp[go_sem, *],by simp[go_sem, *],by simp[go_sem, *]⟩,⟨by simp[go_sem, *],by simp[go_sem, *],by simp[go_sem, *]⟩,⟨by simp[go_sem, *],by simp[go_sem, *],by simp[go_sem, *]⟩⟩;exact grB
   case measure=>simp[intOf];omega
  ·have j1:¬(j:Int)<(n:Int):=by omega
   have hj:j=n:=by have:=HJ.out ();omega
   go_wp2_with fail
   refine bodyPost_ret (res_one results122 (rd_nat (x:=acc j) (by rfl) ?_)) rfl ⟨by rw[hj],?_⟩
   ·simp[go_sem, *]
   ·exact grB
theorem jdiff_of(id:Int)(P A B N X Y:Nat)(s z:Int)(l:Bool)(x y q:Nat)(H1':∀w,Cg 148 #[.int .i64 id,.agg (nw 9 x),.agg (nw 9 y)] w (.tuple #[.agg (nw 9 q),.int .i64 0]))(w:World):
 Cg 124 #[.agg (cu id P A B N X Y s z l),.agg (nw 9 x),.agg (nw 9 y)] w (.agg (nw 9 q)):=by
 have H1:Hid _:=H1';clear H1'
 go_enter func124,ntmps124
 go_upto_region 1 with fail
 refine gen_w (fun v=>Hid (Gr w v∧Vr v (w.heap.size) (cu id P A B N X Y s z l)∧Vr v (w.heap.size+1) (nw 9 x)∧Vr v (w.heap.size+1+1) (nw 9 y)∧Vr v (w.heap.size+1+1+1) (nw 9 0))) ⟨grA,vrA,vrA,vrA,vrA⟩ ?_;intro v0 HV;obtain⟨G,c0,c1,c2,c3⟩:=HV.out
 have k0:v0.cell? ⟨w.heap.size,0,none⟩=some (.int .i64 id):=by rw[c0.cell];exact cu_0 id P A B N X Y s z l
 have hh0:=c0.al;have⟨hh1,ff1,pp1⟩:=c1;have⟨hh2,ff2,pp2⟩:=c2;have hh3:=c3.al
 go_wp2_with (first
  | (go_at_call_of 148 ((#[.int .i64 id,.agg (nw 9 x),.agg (nw 9 y)]:Array Value));refine(H1.out _).mono ?_;rintro e w' ⟨rfl,g0,rfl⟩))
 refine bodyPost_ret (res_one results124 (rd_nat (by rfl) ?_)) rfl ⟨rfl,?_⟩
 ·simp[go_sem, *]
 ·exact grB
theorem jbelow_yes(id:Int)(P A B N X Y:Nat)(s z:Int)(l:Bool)(hP:P<M)(n:Nat)(hn:n≤3)(f:Nat→Nat)(hF:∀i,i<n→f i<M)(c:Array Value)(hrow:∀i,i<n→c.extract (i*9) (i*9+9)=nw 9 (f i))(hsz:n*9≤c.size)(hon:∀i,i<n→f i<P)(b cap:Nat)(w:World)(hv:Vr w b c):
 Cg 145 #[.agg (cu id P A B N X Y s z l),.slice (some ⟨b,0,none⟩) n cap] w (.bool true):=by
 have HN:Hu (n≤3):=fun _=>hn;have HP:Hu (P<M):=fun _=>hP;have HB:Hid _:=hF;have HO:Hid _:=hon
 have HL:Hid (∀j,j<n→∀v,Gr w v→(loadS 25 (.pointer (some ⟨b,j*9,none⟩))).run prog v=.ok (.agg (nw 9 (f j))) v):=fun j hj v g=>by
  have hb:=(hv.gr g).h;rw[loadPart v b (j*9) (by rw[hb];omega),hb,hrow j hj]
 clear hn hP hF hrow hsz hon
 go_enter func145,ntmps145
 go_wp2_with fail
 refine gen_w (fun wr=>Hid (Gr w wr∧Vr wr (w.heap.size) (cu id P A B N X Y s z l))) ⟨grA,vrA⟩ ?_;intro v0 HV
 go_loopw [9] (fun ia wr=>∃j:Nat,ia=.int .i64 (j:Int)∧Hu (j≤n)∧Hid (Gr w wr∧Vr wr (w.heap.size) (cu id P A B N X Y s z l))) (fun ia _=>((n:Int)-intOf ia).toNat)
 case atStart=>exact⟨0,rfl,fun _=>Nat.zero_le _,HV⟩
 case round=>
  clear HV;obtain⟨j,rfl,HJ,HV⟩:=hrel;obtain⟨G,c0⟩:=HV.out
  have j0:(0:Int)≤(j:Int):=by omega
  have n4:(n:Int)≤3:=by have:=HN.out ();omega
  have⟨h0,f0,p0⟩:=c0
  by_cases hlt:j<n
  ·have hjn:j<n:=by exact hlt
   have ld0:=HL.out j hjn wr G
   have HO2:Hid _:=fun w=>by
    have h:=cmp_any (f j) P (HB.out j hjn) (HP.out ()) w;rw[show cmpZ (f j) P = -1 by have:=HO.out j hlt;unfold cmpZ;rw[if_pos this]]at h;exact h
   go_wp2_with (go_at_call 32;refine(HO2.out _).mono ?_;rintro e w' ⟨rfl,g,rfl⟩)
   go_roundw
   case rel=>
    refine⟨j+1,by go_num,fun _=>hlt,?_,⟨by simp[go_sem, *],by simp[go_sem, *],by simp[go_sem, *]⟩⟩;exact grB
   case measure=>simp[intOf];omega
  ·skip
   go_wp2_with fail
   go_ret
   exact⟨rfl,G⟩
end
section
attribute [local go_sem] uz8
attribute [local go_sem ↓] uz11 Go.wp_at_zero Go.wp_at_succ
attribute [local go_sem] uz12
def accM{p:Nat}(x:Fin p)(F:Nat→Fin p):Nat→Fin p
 | 0=>x
 | n+1=>accM x F n*F n
def accA{p:Nat}(x:Fin p)(F:Nat→Fin p):Nat→Fin p
 | 0=>x
 | n+1=>accA x F n+F n
theorem jpF{k:Nat}(h1:1≤k)(h2:k≤15){P A B N X Y:Nat}{s z:Int}{l:Bool}(x:Fin (pN k))(F:Nat→Fin (pN k))(n:Nat)(hn:n≤3)(c:Array Value)(hrow:∀i,i<n→c.extract (i*9) (i*9+9)=nw 9 (F i).val)(hsz:n*9≤c.size){w:World}{q:Nat}(hv:Vr w q c):
 Cg 123 #[.agg (cu (k:Int) P A B N X Y s z l),.agg (nw 9 x.val),.slice (some ⟨q,0,none⟩) n n] w (.agg (nw 9 (accM x F n).val)):=
 jprod_of (k:Int) P A B N X Y s z l n hn (fun i=>(F i).val) (fun i=>(accM x F i).val) c hrow hsz (fun i _ w=>fmulF h1 h2 (accM x F i) (F i) w) q n w hv
theorem jp1{k:Nat}(h1:1≤k)(h2:k≤15){P A B N X Y:Nat}{s z:Int}{l:Bool}{a b r:Fin (pN k)}(e:a*b=r){w:World}{q:Nat}(hv:Vr w q (nw 9 b.val)):
 Cg 123 #[.agg (cu (k:Int) P A B N X Y s z l),.agg (nw 9 a.val),.slice (some ⟨q,0,none⟩) 1 1] w (.agg (nw 9 r.val)):=by
 subst e
 exact jpF h1 h2 a (fun _=>b) 1 (by decide) _ (fun i hi=>by
  obtain rfl:i=0:=by omega
  ·kernel_rfl) (by simp[nw_size]) hv
theorem jp2{k:Nat}(h1:1≤k)(h2:k≤15){P A B N X Y:Nat}{s z:Int}{l:Bool}{a b c r:Fin (pN k)}(e:a*b*c=r){w:World}{q:Nat}(hv:Vr w q (nw 9 b.val++nw 9 c.val)):
 Cg 123 #[.agg (cu (k:Int) P A B N X Y s z l),.agg (nw 9 a.val),.slice (some ⟨q,0,none⟩) 2 2] w (.agg (nw 9 r.val)):=by
 subst e
 exact jpF h1 h2 a (fun i=>match i with|0=>b|_=>c) 2 (by decide) _ (fun i hi=>by
  obtain rfl|rfl:i=0∨i=1:=by omega
  ·kernel_rfl
  ·kernel_rfl) (by simp[nw_size]) hv
theorem jp3{k:Nat}(h1:1≤k)(h2:k≤15){P A B N X Y:Nat}{s z:Int}{l:Bool}{a b c d r:Fin (pN k)}(e:a*b*c*d=r){w:World}{q:Nat}(hv:Vr w q (nw 9 b.val++nw 9 c.val++nw 9 d.val)):
 Cg 123 #[.agg (cu (k:Int) P A B N X Y s z l),.agg (nw 9 a.val),.slice (some ⟨q,0,none⟩) 3 3] w (.agg (nw 9 r.val)):=by
 subst e
 exact jpF h1 h2 a (fun i=>match i with|0=>b|1=>c|_=>d) 3 (by decide) _ (fun i hi=>by
  obtain rfl|rfl|rfl:i=0∨i=1∨i=2:=by omega
  ·kernel_rfl
  ·kernel_rfl
  ·kernel_rfl) (by simp[nw_size]) hv
theorem jsF{k:Nat}(h1:1≤k)(h2:k≤15){P A B N X Y:Nat}{s z:Int}{l:Bool}(x:Fin (pN k))(F:Nat→Fin (pN k))(n:Nat)(hn:n≤3)(c:Array Value)(hrow:∀i,i<n→c.extract (i*9) (i*9+9)=nw 9 (F i).val)(hsz:n*9≤c.size){w:World}{q:Nat}(hv:Vr w q c):
 Cg 122 #[.agg (cu (k:Int) P A B N X Y s z l),.agg (nw 9 x.val),.slice (some ⟨q,0,none⟩) n n] w (.agg (nw 9 (accA x F n).val)):=
 jsum_of (k:Int) P A B N X Y s z l n hn (fun i=>(F i).val) (fun i=>(accA x F i).val) c hrow hsz (fun i _ w=>faddF h1 h2 (accA x F i) (F i) w) q n w hv
theorem js1{k:Nat}(h1:1≤k)(h2:k≤15){P A B N X Y:Nat}{s z:Int}{l:Bool}{a b r:Fin (pN k)}(e:a+b=r){w:World}{q:Nat}(hv:Vr w q (nw 9 b.val)):
 Cg 122 #[.agg (cu (k:Int) P A B N X Y s z l),.agg (nw 9 a.val),.slice (some ⟨q,0,none⟩) 1 1] w (.agg (nw 9 r.val)):=by
 subst e
 exact jsF h1 h2 a (fun _=>b) 1 (by decide) _ (fun i hi=>by
  obtain rfl:i=0:=by omega
  ·kernel_rfl) (by simp[nw_size]) hv
theorem js2{k:Nat}(h1:1≤k)(h2:k≤15){P A B N X Y:Nat}{s z:Int}{l:Bool}{a b c r:Fin (pN k)}(e:a+b+c=r){w:World}{q:Nat}(hv:Vr w q (nw 9 b.val++nw 9 c.val)):
 Cg 122 #[.agg (cu (k:Int) P A B N X Y s z l),.agg (nw 9 a.val),.slice (some ⟨q,0,none⟩) 2 2] w (.agg (nw 9 r.val)):=by
 subst e
 exact jsF h1 h2 a (fun i=>match i with|0=>b|_=>c) 2 (by decide) _ (fun i hi=>by
  obtain rfl|rfl:i=0∨i=1:=by omega
  ·kernel_rfl
  ·kernel_rfl) (by simp[nw_size]) hv
theorem js3{k:Nat}(h1:1≤k)(h2:k≤15){P A B N X Y:Nat}{s z:Int}{l:Bool}{a b c d r:Fin (pN k)}(e:a+b+c+d=r){w:World}{q:Nat}(hv:Vr w q (nw 9 b.val++nw 9 c.val++nw 9 d.val)):
 Cg 122 #[.agg (cu (k:Int) P A B N X Y s z l),.agg (nw 9 a.val),.slice (some ⟨q,0,none⟩) 3 3] w (.agg (nw 9 r.val)):=by
 subst e
 exact jsF h1 h2 a (fun i=>match i with|0=>b|1=>c|_=>d) 3 (by decide) _ (fun i hi=>by
  obtain rfl|rfl|rfl:i=0∨i=1∨i=2:=by omega
  ·kernel_rfl
  ·kernel_rfl
  ·kernel_rfl) (by simp[nw_size]) hv
theorem jd{k:Nat}(h1:1≤k)(h2:k≤15){P A B N X Y:Nat}{s z:Int}{l:Bool}{a b r:Fin (pN k)}(e:a-b=r)(w:World):
 Cg 124 #[.agg (cu (k:Int) P A B N X Y s z l),.agg (nw 9 a.val),.agg (nw 9 b.val)] w (.agg (nw 9 r.val)):=by
 subst e;exact jdiff_of (k:Int) P A B N X Y s z l _ _ _ (fsubF h1 h2 a b) w
theorem jleft{k:Nat}(h1:1≤k)(h2:k≤15){N X Y:Nat}{s z:Int}{l:Bool}{A B:Fin (pN k)}{X1 Y1 Z1:Fin (pN k)}{r:Fin (pN k)}(er:Y1*Y1*Z1=r)(w:World):
 Cg 146 #[.agg (cu (k:Int) (pN k) A.val B.val N X Y s z l),.agg (prj X1.val Y1.val Z1.val)] w (.agg (nw 9 r.val)):=by
 have Jp2:=@jp2 k h1 h2 (pN k) A.val B.val N X Y s z l
 go_enter func146,ntmps146
 go_upto_region 1 with fail
 refine gen_w (fun v=>Hid (Gr w v∧Vr v (w.heap.size) (cu (k:Int) (pN k) A.val B.val N X Y s z l)∧Vr v (w.heap.size+1) (prj X1.val Y1.val Z1.val)∧Vr v (w.heap.size+1+1) (nw 9 0))) ⟨grA,vrA,vrA,vrA⟩ ?_;intro v0 HV;obtain⟨G,c0,c1,c2⟩:=HV.out;refine wp_wTS 9 [.c (.agg (cu (k:Int) (pN k) A.val B.val N X Y s z l)),.c (pv (w.heap.size+1) 9),.N Y1.val,.c (pv (w.heap.size+1) 9),.N Y1.val,.c (pv (w.heap.size+1) 18),.N Z1.val,.r 2 (nw 9 Y1.val++nw 9 Z1.val),.N r.val] [0,2,4,6,7,8] ⟨.g 141 0 c0 rfl,.g 25 9 c1 rfl,.g 25 9 c1 rfl,.g 25 18 c1 rfl,.r (.buildSlice 185 2 #[(0,.const (.agg (nw 9 Y1.val))),(1,.const (.agg (nw 9 Z1.val)))]) rfl (rowN2 _ _),.k _ fun yy vv hg hh=>RtW.of_c (Rt.c (Jp2 er (hh 7 rfl))),⟨⟩⟩ (.s 25 (fun yy=>.pointer (some ⟨w.heap.size+1+1,0,none⟩)) (fun yy=>.agg (nw 9 r.val)) fun yw1 v1 hg h1=>?_);have HT:=(c2.gr hg).h;have FT:=(c2.gr hg).f;refine⟨setBlk v1 (w.heap.size+1+1) (nw 9 r.val),by simp[go_sem,exI,HT,FT],?_⟩;simp only[fzw,Kw.r];replace G:=G.trans hg
 go_wp2_with fail
 exact bodyPost_ret (res_one results146 (rd_nat (by rfl) (blk_setBlk _ _ _ (by rw[HT];decide +kernel)))) rfl ⟨rfl,gr_setNew G (by omega)⟩
theorem jright{k:Nat}(h1:1≤k)(h2:k≤15){N X Y:Nat}{s z:Int}{l:Bool}{A B:Fin (pN k)}{X1 Y1 Z1:Fin (pN k)}{q1 q2 q3 r:Fin (pN k)}(eq1:X1*X1*X1=q1)(eq2:A*X1*Z1*Z1=q2)(eq3:B*Z1*Z1*Z1=q3)(er:q1+q2+q3=r)(w:World):
 Cg 147 #[.agg (cu (k:Int) (pN k) A.val B.val N X Y s z l),.agg (prj X1.val Y1.val Z1.val)] w (.agg (nw 9 r.val)):=by
 have Jp2:=@jp2 k h1 h2 (pN k) A.val B.val N X Y s z l;have Jp3:=@jp3 k h1 h2 (pN k) A.val B.val N X Y s z l;have Js2:=@js2 k h1 h2 (pN k) A.val B.val N X Y s z l
 go_enter func147,ntmps147
 go_upto_region 1 with fail
 refine gen_w (fun v=>Hid (Gr w v∧Vr v (w.heap.size) (cu (k:Int) (pN k) A.val B.val N X Y s z l)∧Vr v (w.heap.size+1) (prj X1.val Y1.val Z1.val)∧Vr v (w.heap.size+1+1) (nw 9 0))) ⟨grA,vrA,vrA,vrA⟩ ?_;intro v0 HV;obtain⟨G,c0,c1,c2⟩:=HV.out;refine wp_wT 36 [.c (.agg (cu (k:Int) (pN k) A.val B.val N X Y s z l)),.c (.agg (cu (k:Int) (pN k) A.val B.val N X Y s z l)),.c (pv (w.heap.size+1) 0),.N X1.val,.c (pv (w.heap.size+1) 0),.N X1.val,.c (pv (w.heap.size+1) 0),.N X1.val,.r 2 (nw 9 X1.val++nw 9 X1.val),.N q1.val,.c (.agg (cu (k:Int) (pN k) A.val B.val N X Y s z l)),.c (pv (w.heap.size) 0),.c (pv (w.heap.size) 10),.N A.val,.c (pv (w.heap.size+1) 0),.N X1.val,.c (pv (w.heap.size+1) 18),.N Z1.val,.c (pv (w.heap.size+1) 18),.N Z1.val,.r 3 (nw 9 X1.val++nw 9 Z1.val++nw 9 Z1.val),.N q2.val,.c (.agg (cu (k:Int) (pN k) A.val B.val N X Y s z l)),.c (pv (w.heap.size) 0),.c (pv (w.heap.size) 19),.N B.val,.c (pv (w.heap.size+1) 18),.N Z1.val,.c (pv (w.heap.size+1) 18),.N Z1.val,.c (pv (w.heap.size+1) 18),.N Z1.val,.r 3 (nw 9 Z1.val++nw 9 Z1.val++nw 9 Z1.val),.N q3.val,.r 2 (nw 9 q2.val++nw 9 q3.val),.N r.val] [0,1,3,5,7,8,9,10,13,15,17,19,20,21,22,25,27,29,31,32,33,34,35] ?hs2 ?hf2
 case hs2=>
  exact⟨.g 141 0 c0 rfl,.g 141 0 c0 rfl,.g 25 0 c1 rfl,.g 25 0 c1 rfl,.g 25 0 c1 rfl,.r (.buildSlice 185 2 #[(0,.const (.agg (nw 9 X1.val))),(1,.const (.agg (nw 9 X1.val)))]) rfl (rowN2 _ _),.k _ fun yy vv hg hh=>RtW.of_c (Rt.c (Jp2 eq1 (hh 8 rfl))),.g 141 0 c0 rfl,.g 25 10 c0 rfl,.g 25 0 c1 rfl,.g 25 18 c1 rfl,.g 25 18 c1 rfl,.r (.buildSlice 185 3 #[(0,.const (.agg (nw 9 X1.val))),(1,.const (.agg (nw 9 Z1.val))),(2,.const (.agg (nw 9 Z1.val)))]) rfl (rowN3 _ _ _),.k _ fun yy vv hg hh=>RtW.of_c (Rt.c (Jp3 eq2 (hh 20 rfl))),.g 141 0 c0 rfl,.g 25 19 c0 rfl,.g 25 18 c1 rfl,.g 25 18 c1 rfl,.g 25 18 c1 rfl,.r (.buildSlice 185 3 #[(0,.const (.agg (nw 9 Z1.val))),(1,.const (.agg (nw 9 Z1.val))),(2,.const (.agg (nw 9 Z1.val)))]) rfl (rowN3 _ _ _),.k _ fun yy vv hg hh=>RtW.of_c (Rt.c (Jp3 eq3 (hh 32 rfl))),.r (.buildSlice 185 2 #[(0,.const (.agg (nw 9 q2.val))),(1,.const (.agg (nw 9 q3.val)))]) rfl (rowN2 _ _),.k _ fun yy vv hg hh=>RtW.of_c (Rt.c (Js2 er (hh 34 rfl))),⟨⟩⟩
 refine .s 25 (fun yy=>.pointer (some ⟨w.heap.size+1+1,0,none⟩)) (fun yy=>.agg (nw 9 r.val)) fun yw1 v1 hg h1=>?_;have HT:=(c2.gr hg).h;have FT:=(c2.gr hg).f;refine⟨setBlk v1 (w.heap.size+1+1) (nw 9 r.val),by simp[go_sem,exI,HT,FT],?_⟩;simp only[fzw,Kw.r];replace G:=G.trans hg
 go_wp2_with fail
 exact bodyPost_ret (res_one results147 (rd_nat (by rfl) (blk_setBlk _ _ _ (by rw[HT];decide +kernel)))) rfl ⟨rfl,gr_setNew G (by omega)⟩
theorem jtri_inf(x y:Nat)(w:World):
 Cg 85 #[.agg (pnt x y true)] w (.agg (prj 0 1 0)):=by
 go_enter func85,ntmps85
 go_upto_region 1 with fail
 refine gen_w (fun v=>Hid (Gr w v∧Vr v (w.heap.size) (pnt x y true)∧Vr v (w.heap.size+1) (prj 0 0 0))) ⟨grA,vrA,vrA⟩ ?_;intro v0 HV;obtain⟨G,c0,c1⟩:=HV.out;clear HV;refine wp_v false [.N 1,.a,.u] [0] [⟨1,2,25,nw 9 0,fun _=>nw 9 1⟩] ⟨.z (small_any 1 (by decide)),⟨⟩⟩ ⟨.k zNat (.t rfl),⟨⟩⟩ fun yw1 v1 hg h1 hV1=>?_;simp only[fzw,Kw.a];obtain⟨⟨N1_1,V1_1⟩,-⟩:(v0.heap.size≤(yw1 1 0).2∧Vr v1 (yw1 1 0).2 (nw 9 1))∧True:=hV1;clear h1;replace G:=G.trans hg;replace c0:=c0.gr hg;replace c1:=c1.gr hg;clear hg
 go_upto_region 2 with fail
 refine wp_wS [.c (pv (w.heap.size) 18),.T] [1] ⟨.o 4 18 c0 rfl (by exact pnt_18 _ _ _),⟨⟩⟩ fun yw2 v2 hg h2=>?_;simp only[fzw];clear h2;replace G:=G.trans hg;replace c0:=c0.gr hg;replace c1:=c1.gr hg;replace V1_1:=V1_1.gr hg;clear hg
 go_upto_region 3 with fail
 refine wp_wTS 2 [.N 1,.c (.agg (prj 0 1 0))] [0] ⟨.g 25 0 V1_1 rfl,⟨⟩⟩ (.s 74 (fun yy=>.pointer (some ⟨w.heap.size+1,0,none⟩)) (fun yy=>.agg (prj 0 1 0)) fun yw3 v3 hg h3=>?_);have HT:=(c1.gr hg).h;have FT:=(c1.gr hg).f;refine⟨setBlk v3 (w.heap.size+1) (prj 0 1 0),by simp[go_sem,exI,HT,FT],?_⟩;simp only[fzw];clear h3;replace G:=G.trans hg;replace c0:=c0.gr hg;replace c1:=c1.gr hg;replace V1_1:=V1_1.gr hg;clear hg
 go_wp2_with fail
 exact bodyPost_ret (res_one results85 (rd_pj (by rfl) (blk_setBlk _ _ _ (by rw[HT];decide +kernel)))) rfl ⟨rfl,gr_setNew G (by omega)⟩
theorem jtri_fin(x y:Nat)(w:World):
 Cg 85 #[.agg (pnt x y false)] w (.agg (prj x y 1)):=by
 go_enter func85,ntmps85
 go_upto_region 1 with fail
 refine gen_w (fun v=>Hid (Gr w v∧Vr v (w.heap.size) (pnt x y false)∧Vr v (w.heap.size+1) (prj 0 0 0))) ⟨grA,vrA,vrA⟩ ?_;intro v0 HV;obtain⟨G,c0,c1⟩:=HV.out;clear HV;refine wp_v false [.N 1,.a,.u] [0] [⟨1,2,25,nw 9 0,fun _=>nw 9 1⟩] ⟨.z (small_any 1 (by decide)),⟨⟩⟩ ⟨.k zNat (.t rfl),⟨⟩⟩ fun yw1 v1 hg h1 hV1=>?_;simp only[fzw,Kw.a];obtain⟨⟨N1_1,V1_1⟩,-⟩:(v0.heap.size≤(yw1 1 0).2∧Vr v1 (yw1 1 0).2 (nw 9 1))∧True:=hV1;clear h1;replace G:=G.trans hg;replace c0:=c0.gr hg;replace c1:=c1.gr hg;clear hg
 go_upto_region 2 with fail
 refine wp_wS [.c (pv (w.heap.size) 18),.F] [1] ⟨.o 4 18 c0 rfl (by exact pnt_18 _ _ _),⟨⟩⟩ fun yw2 v2 hg h2=>?_;simp only[fzw];clear h2;replace G:=G.trans hg;replace c0:=c0.gr hg;replace c1:=c1.gr hg;replace V1_1:=V1_1.gr hg;clear hg
 go_upto_region 4 with fail
 refine wp_wTS 6 [.c (pv (w.heap.size) 0),.N x,.c (pv (w.heap.size) 9),.N y,.N 1,.c (.agg (prj x y 1))] [1,3,4] ⟨.g 25 0 c0 rfl,.g 25 9 c0 rfl,.g 25 0 V1_1 rfl,⟨⟩⟩ (.s 74 (fun yy=>.pointer (some ⟨w.heap.size+1,0,none⟩)) (fun yy=>.agg (prj x y 1)) fun yw4 v3 hg h4=>?_);have HT:=(c1.gr hg).h;have FT:=(c1.gr hg).f;refine⟨setBlk v3 (w.heap.size+1) (prj x y 1),by simp[go_sem,exI,HT,FT],?_⟩;simp only[fzw];clear h4;replace G:=G.trans hg;replace c0:=c0.gr hg;replace c1:=c1.gr hg;replace V1_1:=V1_1.gr hg;clear hg
 go_wp2_with fail
 exact bodyPost_ret (res_one results85 (rd_pj (by rfl) (blk_setBlk _ _ _ (by rw[HT];decide +kernel)))) rfl ⟨rfl,gr_setNew G (by omega)⟩
theorem jpt_inf{k:Nat}{N X Y:Nat}{s z:Int}{l:Bool}{A B:Fin (pN k)}(x y:Nat)(w:World):
 Cg 84 #[.agg (cu (k:Int) (pN k) A.val B.val N X Y s z l),.agg (prj x y 0)] w (.agg (pnt 0 0 true)):=by
 go_enter func84,ntmps84
 go_upto_region 1 with fail
 refine gen_w (fun v=>Hid (Gr w v∧Vr v (w.heap.size) (cu (k:Int) (pN k) A.val B.val N X Y s z l)∧Vr v (w.heap.size+1) (prj x y 0)∧Vr v (w.heap.size+1+1) (pnt 0 0 false))) ⟨grA,vrA,vrA,vrA⟩ ?_;intro v0 HV;obtain⟨G,c0,c1,c2⟩:=HV.out;clear HV;refine wp_wS [.c (pv (w.heap.size+1) 18),.N 0,.N 0,.T] [1,3] ⟨.g 25 18 c1 rfl,.s (.binOp .eql 25 (.const (.agg (nw 9 0))) (.const (.agg (nw 9 0))) 25) rfl fun vv hg=>by simp[go_sem,exI,eqNat,eqN_self],⟨⟩⟩ fun yw1 v1 hg h1=>?_;simp only[fzw];clear h1;replace G:=G.trans hg;replace c2:=c2.gr hg
 go_upto_region 2 with fail
 refine wp_wTS 1 [.c (.agg (pnt 0 0 true))] [] ⟨⟩ (.s 27 (fun yy=>.pointer (some ⟨w.heap.size+1+1,0,none⟩)) (fun yy=>.agg (pnt 0 0 true)) fun yw2 v2 hg h2=>?_);have HT:=(c2.gr hg).h;have FT:=(c2.gr hg).f;refine⟨setBlk v2 (w.heap.size+1+1) (pnt 0 0 true),by simp[go_sem,exI,HT,FT],?_⟩;simp only[fzw];replace G:=G.trans hg
 go_wp2_with fail
 exact bodyPost_ret (res_one results84 (rd_pn (by rfl) (blk_setBlk _ _ _ (by rw[HT];decide +kernel)))) rfl ⟨rfl,gr_setNew G (by omega)⟩
theorem jpt_fin{k:Nat}(h1:1≤k)(h2:k≤15){N X Y:Nat}{s z:Int}{l:Bool}{A B:Fin (pN k)}{X1 Y1 Z1 i1:Fin (pN k)}(hz:eqN 9 Z1.val 0=false)(HI':∀w,Cg 125 #[.int .i64 (k:Int),.agg (nw 9 Z1.val)] w (.tuple #[.agg (nw 9 i1.val),.int .i64 0])){p1 p2:Fin (pN k)}(ep1:X1*i1=p1)(ep2:Y1*i1=p2)(w:World):
 Cg 84 #[.agg (cu (k:Int) (pN k) A.val B.val N X Y s z l),.agg (prj X1.val Y1.val Z1.val)] w (.agg (pnt p1.val p2.val false)):=by
 have HI:Hid _:=HI';clear HI';have Jp1:=@jp1 k h1 h2 (pN k) A.val B.val N X Y s z l
 go_enter func84,ntmps84
 go_upto_region 1 with fail
 refine gen_w (fun v=>Hid (Gr w v∧Vr v (w.heap.size) (cu (k:Int) (pN k) A.val B.val N X Y s z l)∧Vr v (w.heap.size+1) (prj X1.val Y1.val Z1.val)∧Vr v (w.heap.size+1+1) (pnt 0 0 false))) ⟨grA,vrA,vrA,vrA⟩ ?_;intro v0 HV;obtain⟨G,c0,c1,c2⟩:=HV.out;clear HV;refine wp_wS [.c (pv (w.heap.size+1) 18),.N Z1.val,.N 0,.F] [1,3] ⟨.g 25 18 c1 rfl,.s (.binOp .eql 25 (.const (.agg (nw 9 Z1.val))) (.const (.agg (nw 9 0))) 25) rfl fun vv hg=>by simp[go_sem,exI,eqNat,hz],⟨⟩⟩ fun yw1 v1 hg h1=>?_;simp only[fzw];clear h1;replace G:=G.trans hg;replace c0:=c0.gr hg;replace c1:=c1.gr hg;replace c2:=c2.gr hg;clear hg
 go_upto_region 3 with fail
 refine wp_v false [.c (pv (w.heap.size) 0),.c (pv (w.heap.size) 0),.c (.int .i64 (k:Int)),.c (pv (w.heap.size+1) 18),.N Z1.val,.c (.tuple #[.agg (nw 9 i1.val),.int .i64 0]),.c (.tuple #[.agg (nw 9 i1.val),.int .i64 0]),.N i1.val,.O,.a,.u,.O] [2,4,5] [⟨9,10,25,nw 9 0,fun _=>nw 9 i1.val⟩] ⟨.o 3 0 c0 rfl (by exact cu_0 _ _ _ _ _ _ _ _ _ _),.g 25 18 c1 rfl,.z HI.out,⟨⟩⟩ ⟨.k zNat (.t rfl),⟨⟩⟩ fun yw3 v2 hg h3 hV3=>?_;simp only[fzw,Kw.a];obtain⟨⟨N3_9,V3_9⟩,-⟩:=hV3;clear h3;replace G:=G.trans hg;replace c0:=c0.gr hg;replace c1:=c1.gr hg;replace c2:=c2.gr hg
 go_upto_region 4 with fail
 refine wp_wT 13 [.c (.agg (cu (k:Int) (pN k) A.val B.val N X Y s z l)),.c (pv (w.heap.size+1) 0),.N X1.val,.N i1.val,.r 1 (nw 9 i1.val),.N p1.val,.c (.agg (cu (k:Int) (pN k) A.val B.val N X Y s z l)),.c (pv (w.heap.size+1) 9),.N Y1.val,.N i1.val,.r 1 (nw 9 i1.val),.N p2.val,.c (.agg (pnt p1.val p2.val false))] [0,2,3,4,5,6,8,9,10,11] ⟨.g 141 0 c0 rfl,.g 25 0 c1 rfl,.g 25 0 V3_9 rfl,.r (.buildSlice 185 1 #[(0,.const (.agg (nw 9 i1.val)))]) rfl (rowN1 _),.k _ fun yy vv hg hh=>RtW.of_c (Rt.c (Jp1 ep1 (hh 4 rfl))),.g 141 0 c0 rfl,.g 25 9 c1 rfl,.g 25 0 V3_9 rfl,.r (.buildSlice 185 1 #[(0,.const (.agg (nw 9 i1.val)))]) rfl (rowN1 _),.k _ fun yy vv hg hh=>RtW.of_c (Rt.c (Jp1 ep2 (hh 10 rfl))),⟨⟩⟩ (.s 27 (fun yy=>.pointer (some ⟨w.heap.size+1+1,0,none⟩)) (fun yy=>.agg (pnt p1.val p2.val false)) fun yw4 v3 hg h4=>?_);have HT:=(c2.gr hg).h;have FT:=(c2.gr hg).f;refine⟨setBlk v3 (w.heap.size+1+1) (pnt p1.val p2.val false),by simp[go_sem,exI,HT,FT],?_⟩;simp only[fzw,Kw.r];replace G:=G.trans hg
 go_wp2_with fail
 exact bodyPost_ret (res_one results84 (rd_pn (by rfl) (blk_setBlk _ _ _ (by rw[HT];decide +kernel)))) rfl ⟨rfl,gr_setNew G (by omega)⟩
theorem jholds_2{k:Nat}{N X Y:Nat}{s z:Int}{l:Bool}{A B:Fin (pN k)}{X1 Y1 Z1:Fin (pN k)}(L R:Nat)(r:Bool)(hne:(eqN 9 X1.val 0&&(eqN 9 Y1.val 0&&eqN 9 Z1.val 0))=false)(HB':∀w q,Vr w q (nw 9 X1.val++nw 9 Y1.val++nw 9 Z1.val)→Cg 145 #[.agg (cu (k:Int) (pN k) A.val B.val N X Y s z l),.slice (some ⟨q,0,none⟩) 3 3] w (.bool true))(HL':∀w,Cg 146 #[.agg (cu (k:Int) (pN k) A.val B.val N X Y s z l),.agg (prj X1.val Y1.val Z1.val)] w (.agg (nw 9 L)))(HR':∀w,Cg 147 #[.agg (cu (k:Int) (pN k) A.val B.val N X Y s z l),.agg (prj X1.val Y1.val Z1.val)] w (.agg (nw 9 R)))(hr:eqN 9 L R=r)(w:World):
 Cg 121 #[.agg (cu (k:Int) (pN k) A.val B.val N X Y s z l),.agg (prj X1.val Y1.val Z1.val)] w (.bool r):=by
 have HB:Hid _:=HB';have HL:Hid _:=HL';have HR:Hid _:=HR'
 go_enter func121,ntmps121
 go_upto_region 1 with fail
 refine gen_w (fun v=>Hid (Gr w v∧Vr v (w.heap.size) (cu (k:Int) (pN k) A.val B.val N X Y s z l)∧Vr v (w.heap.size+1) (prj X1.val Y1.val Z1.val))) ⟨grA,vrA,vrA⟩ ?_;intro v0 HV;obtain⟨G,c0,c1⟩:=HV.out;refine wp_w [.c (.agg (prj X1.val Y1.val Z1.val)),.c (.agg (prj 0 0 0)),.T,.T,.c (.agg (cu (k:Int) (pN k) A.val B.val N X Y s z l)),.c (pv (w.heap.size+1) 0),.N X1.val,.c (pv (w.heap.size+1) 9),.N Y1.val,.c (pv (w.heap.size+1) 18),.N Z1.val,.r 3 (nw 9 X1.val++nw 9 Y1.val++nw 9 Z1.val),.T,.T,.T,.c (.agg (cu (k:Int) (pN k) A.val B.val N X Y s z l)),.c (.agg (prj X1.val Y1.val Z1.val)),.N L,.c (.agg (cu (k:Int) (pN k) A.val B.val N X Y s z l)),.c (.agg (prj X1.val Y1.val Z1.val)),.N R,.c (.bool r),.c (.bool r),.c (.bool r)] [0,2,4,6,8,10,11,12,15,16,17,18,19,20,21] ⟨.g 74 0 c1 rfl,.s (.binOp .neq 74 (.const (.agg (prj X1.val Y1.val Z1.val))) (.const (.agg (prj 0 0 0))) 74) rfl fun vv hg=>by simp[go_sem,exI,nePj,hne],.g 141 0 c0 rfl,.g 25 0 c1 rfl,.g 25 9 c1 rfl,.g 25 18 c1 rfl,.r (.buildSlice 185 3 #[(0,.const (.agg (nw 9 X1.val))),(1,.const (.agg (nw 9 Y1.val))),(2,.const (.agg (nw 9 Z1.val)))]) rfl (rowN3 _ _ _),.k _ fun yy vv hg hh=>RtW.of_c (Rt.c (HB.out _ _ (hh 11 rfl))),.g 141 0 c0 rfl,.g 74 0 c1 rfl,.z HL.out,.g 141 0 c0 rfl,.g 74 0 c1 rfl,.z HR.out,.s (.binOp .eql 25 (.const (.agg (nw 9 L))) (.const (.agg (nw 9 R))) 25) rfl fun vv hg=>by simp[go_sem,exI,eqNat,hr],⟨⟩⟩ fun yw1 v1 hg h1=>?_;simp only[fzw,Kw.r];replace G:=G.trans hg
 go_wp2_with fail
 go_ret
 exact⟨rfl,G⟩
end
end
section
abbrev T3:=Nat×Nat×Nat
def TrQ(k:Nat)(T:T3)(Q:Q3):Prop:=OnQ k Q∧∃(X Y Z:Fin (pN k)),T=(X.val,Y.val,Z.val)∧∀ [NeZero (pN k)],EC.Std X Y Z (decQ (pN k) Q)
theorem std_one{p:Nat}[NeZero p](hp:Prm p){X Y Z:Fin p}{P Q:Option (Fin p×Fin p)}(h1:EC.Std X Y Z P)(h2:EC.Std X Y Z Q):P=Q:=by
 match P,Q,h1,h2 with
 | none,none,_,_=>rfl
 | none,some (x,y),⟨_,_,c⟩,⟨d,_,_⟩=>exact absurd c d
 | some (x,y),none,⟨d,_,_⟩,⟨_,_,c⟩=>exact absurd c d
 | some (x,y),some (u,v),⟨a,b,c⟩,⟨_,d,e⟩=>
  have hx:x=u:=by
   have h:(x-u)*Z=0:=by
    have:(x-u)*Z=x*Z-u*Z:=by clear b c d e;grobner
    rw[this,←b,←d];clear this b c d e;grobner
   rcases EC.nzd hp _ _ h with h|h
   ·exact EC.sub_zero_of h
   ·exact absurd h a
  have hy:y=v:=by
   have h:(y-v)*Z=0:=by
    have:(y-v)*Z=y*Z-v*Z:=by clear b c d e;grobner
    rw[this,←c,←e];clear this b c d e;grobner
   rcases EC.nzd hp _ _ h with h|h
   ·exact EC.sub_zero_of h
   ·exact absurd h a
  rw[hx,hy]
theorem TrQ.one{k:Nat}(h1:1≤k)(h2:k≤15){T:T3}{P Q:Q3}(hP:TrQ k T P)(hQ:TrQ k T Q):P=Q:=by
 haveI:=EC.nzP k h1 h2
 obtain⟨o1,X,Y,Z,rfl,s1⟩:=hP;obtain⟨o2,X',Y',Z',e,s2⟩:=hQ;simp only[Prod.mk.injEq]at e;obtain⟨e1,e2,e3⟩:=e;have s2':=s2;rw[←Fin.ext e1,←Fin.ext e2,←Fin.ext e3]at s2';rw[←enc_dec o1,←enc_dec o2,std_one (prm_pN k h1 h2) s1 s2']
def addT(k:Nat)(S T:T3):T3:=
 if h:1≤k∧k≤15 then(haveI:=EC.nzP k h.1 h.2
  ((EC.pX (EC.aF k h.1 h.2) (EC.bF k h.1 h.2) (Fin.ofNat (pN k) S.1) (Fin.ofNat (pN k) S.2.1) (Fin.ofNat (pN k) S.2.2) (Fin.ofNat (pN k) T.1) (Fin.ofNat (pN k) T.2.1) (Fin.ofNat (pN k) T.2.2)).val,
   (EC.pY (EC.aF k h.1 h.2) (EC.bF k h.1 h.2) (Fin.ofNat (pN k) S.1) (Fin.ofNat (pN k) S.2.1) (Fin.ofNat (pN k) S.2.2) (Fin.ofNat (pN k) T.1) (Fin.ofNat (pN k) T.2.1) (Fin.ofNat (pN k) T.2.2)).val,
   (EC.pZ (EC.aF k h.1 h.2) (EC.bF k h.1 h.2) (Fin.ofNat (pN k) S.1) (Fin.ofNat (pN k) S.2.1) (Fin.ofNat (pN k) S.2.2) (Fin.ofNat (pN k) T.1) (Fin.ofNat (pN k) T.2.1) (Fin.ofNat (pN k) T.2.2)).val))
 else(0,0,0)
theorem ofV{p:Nat}[NeZero p](a:Fin p):Fin.ofNat p a.val=a:=Fin.ext (Nat.mod_eq_of_lt a.isLt)
theorem addT_is{k:Nat}(h1:1≤k)(h2:k≤15)[NeZero (pN k)](X1 Y1 Z1 X2 Y2 Z2:Fin (pN k)):addT k (X1.val,Y1.val,Z1.val) (X2.val,Y2.val,Z2.val) =
 ((EC.pX (EC.aF k h1 h2) (EC.bF k h1 h2) X1 Y1 Z1 X2 Y2 Z2).val,(EC.pY (EC.aF k h1 h2) (EC.bF k h1 h2) X1 Y1 Z1 X2 Y2 Z2).val,(EC.pZ (EC.aF k h1 h2) (EC.bF k h1 h2) X1 Y1 Z1 X2 Y2 Z2).val):=by
 unfold addT;rw[dif_pos ⟨h1,h2⟩];simp only[ofV]
theorem addT_tr{k:Nat}(h1:1≤k)(h2:k≤15){S T:T3}{P Q:Q3}(hS:TrQ k S P)(hT:TrQ k T Q):TrQ k (addT k S T) (plQ k P Q):=by
 haveI:=EC.nzP k h1 h2
 obtain⟨o1,X1,Y1,Z1,rfl,s1⟩:=hS;obtain⟨o2,X2,Y2,Z2,rfl,s2⟩:=hT;refine⟨plQ_on h1 h2 o1 o2,_,_,_,addT_is h1 h2 X1 Y1 Z1 X2 Y2 Z2,fun {_}=>?_⟩;rw[plQ_is h1 h2,dec_enc];exact EC.std_add (EC.curN k h1 h2) (EC.no_two k h1 h2) (on_dec h1 h2 o1) (on_dec h1 h2 o2) s1 s2
theorem inf_tr{k:Nat}(h1:1≤k)(h2:k≤15){y:Nat}(hy:y<pN k)(h0:0<y):TrQ k (0,y,0) inf:=by
 haveI:=EC.nzP k h1 h2
 refine⟨inf_on k,0,⟨y,hy⟩,0,by rw[Fin.val_zero],fun {_}=>⟨rfl,fun e=>?_,rfl⟩⟩;have:=congrArg Fin.val e;rw[Fin.val_zero]at this;have e2:y=0:=this
 omega
theorem one_tr{k:Nat}(h1:1≤k)(h2:k≤15){x y:Nat}(h:OnQ k (x,y,false)):TrQ k (x,y,1) (x,y,false):=by
 haveI:=EC.nzP k h1 h2
 have hp:=(prm_pN k h1 h2).1
 rcases h.cases with e|⟨a,b,e,ha,hb,-⟩
 ·cases e
 ·cases e
  refine⟨h,⟨x,ha⟩,⟨y,hb⟩,1,by rw[one_val (by omega)],fun {_}=>?_⟩
  refine⟨fun e=>?_,?_,?_⟩
  ·have:=congrArg Fin.val e;rw[one_val (by omega),Fin.val_zero]at this
   cases this
  ·rw[show Fin.ofNat (pN k) x=⟨x,ha⟩ from Fin.ext (Nat.mod_eq_of_lt ha)];grobner
  ·rw[show Fin.ofNat (pN k) y=⟨y,hb⟩ from Fin.ext (Nat.mod_eq_of_lt hb)];grobner
end
section
attribute [local go_sem ↓] uz1
attribute [local go_sem] uz2
section
attribute [local go_sem ↓] uz9 Go.wp_at_zero Go.wp_at_succ
attribute [local go_sem] uz10
theorem ron_inf(id:Int)(P A B N X Y:Nat)(qc:Nat→Option Addr×Nat)(x y:Nat)(p q:Option Addr)(n m:Nat)(w:World)(HQ:∀k,Sl w (qc k).1 (six P A B N X Y k))(Sx:Sl w p x)(Sy:Sl w q y):
 Cg 13 #[.agg (crA id (six P A B N X Y) qc),.agg (ptA p x n q y m true)] w (.bool (decide (x=0)&&decide (y=0))):=by
 go_enter func13,ntmps13
 go_upto_region 1 with fail
 refine gen_w (fun v=>Gr w v∧Vr v (w.heap.size) (crA id (six P A B N X Y) qc)∧Vr v (w.heap.size+1) (ptA p x n q y m true)) ⟨grA,vrA,vrA⟩ ?_;rintro v0 ⟨G,c1,c2⟩;replace HQ:=fun k=>(HQ k).gr G;replace Sx:=Sx.gr G;replace Sy:=Sy.gr G;refine wp_wS [.c (pv (w.heap.size+1) 2),.T] [1] ⟨.o 4 2 c2 rfl rfl,⟨⟩⟩ fun yw1 v1 hg h1=>?_;simp only[fzw];clear h1;replace G:=G.trans hg;replace c1:=c1.gr hg;replace c2:=c2.gr hg;replace HQ:=fun k=>(HQ k).gr hg;replace Sx:=Sx.gr hg;replace Sy:=Sy.gr hg;clear hg
 have k20:v1.cell? ⟨w.heap.size+1,0,none⟩=some (.slice p (dl x) n):=by rw[cell_blk,c2.h];rfl
 have k21:v1.cell? ⟨w.heap.size+1,1,none⟩=some (.slice q (dl y) m):=by rw[cell_blk,c2.h];rfl
 by_cases hx:x=0
 ·have zx:=dl_nought x;rw[decide_eq_true hx]at zx;have zy:=dl_nought y
  go_wp2_with fail
  go_ret
  exact⟨by simp[hx],G⟩
 ·have zx:=dl_nought x;rw[decide_eq_false hx]at zx
  go_wp2_with fail
  go_ret
  exact⟨by simp[hx],G⟩
theorem ron_x(id:Int)(P A B N X Y:Nat)(qc:Nat→Option Addr×Nat)(x y:Nat)(p q:Option Addr)(n m:Nat)(hx4:dl x≤400)(hd:dl P≤400)(hx:P≤x)(w:World)(HQ:∀k,Sl w (qc k).1 (six P A B N X Y k))(Sx:Sl w p x)(Sy:Sl w q y):
 Cg 13 #[.agg (crA id (six P A B N X Y) qc),.agg (ptA p x n q y m false)] w (.bool false):=by
 obtain⟨zx,ex⟩:=exl (cmpZ x P)
 have bx:decide (0≤zx)=true:=by rw[←ex];unfold cmpZ;rw[if_neg (by omega)];split <;> decide
 go_enter func13,ntmps13
 go_upto_region 1 with fail
 refine gen_w (fun v=>Gr w v∧Vr v (w.heap.size) (crA id (six P A B N X Y) qc)∧Vr v (w.heap.size+1) (ptA p x n q y m false)) ⟨grA,vrA,vrA⟩ ?_;rintro v0 ⟨G,c1,c2⟩;replace HQ:=fun k=>(HQ k).gr G;replace Sx:=Sx.gr G;replace Sy:=Sy.gr G;refine wp_wS [.c (pv (w.heap.size+1) 2),.F] [1] ⟨.o 4 2 c2 rfl rfl,⟨⟩⟩ fun yw1 v1 hg h1=>?_;simp only[fzw];clear h1;replace G:=G.trans hg;replace c1:=c1.gr hg;replace c2:=c2.gr hg;replace HQ:=fun k=>(HQ k).gr hg;replace Sx:=Sx.gr hg;replace Sy:=Sy.gr hg;clear hg
 go_upto_region 3 with fail
 refine wp_wS [.c (pv (w.heap.size+1) 0),.c (.slice p (dl (x)) n),.c (pv (w.heap.size) 1),.c (.slice (qc 0).1 (dl (P)) (qc 0).2),.c (.int .i64 zx),.T,.T,.u,.u,.u,.u,.u,.u,.T] [1,3,4,5] ⟨.o 29 0 c2 rfl rfl,.o 29 1 c1 rfl rfl,.k (fun yy =>#[.slice p (dl (x)) n,.slice (qc 0).1 (dl (P)) (qc 0).2]) fun yy vv hg hh=>RtW.of_c (cz_any (Sx.gr hg) ((HQ 0).gr hg) hx4 hd ex),.s (.binOp .geq 3 (.const (.int .i64 zx)) (.const (.int .i64 0)) 3) rfl fun vv hg=>by simp[go_sem,exI,bx],⟨⟩⟩ fun yw3 v2 hg h3=>?_;simp only[fzw];clear h3;replace G:=G.trans hg;replace c1:=c1.gr hg;replace c2:=c2.gr hg;replace HQ:=fun k=>(HQ k).gr hg;replace Sx:=Sx.gr hg;replace Sy:=Sy.gr hg;clear hg
 go_wp2_with fail
 go_ret
 exact⟨rfl,G⟩
theorem ron_y(id:Int)(P A B N X Y:Nat)(qc:Nat→Option Addr×Nat)(x y:Nat)(p q:Option Addr)(n m:Nat)(hx4:dl x≤400)(hy4:dl y≤400)(hd:dl P≤400)(hx:x<P)(hy:P≤y)(w:World)(HQ:∀k,Sl w (qc k).1 (six P A B N X Y k))(Sx:Sl w p x)(Sy:Sl w q y):
 Cg 13 #[.agg (crA id (six P A B N X Y) qc),.agg (ptA p x n q y m false)] w (.bool false):=by
 obtain⟨zx,ex⟩:=exl (cmpZ x P)
 have bx:decide (0≤zx)=false:=by rw[←ex];unfold cmpZ;rw[if_pos hx];decide
 obtain⟨zy,ey⟩:=exl (cmpZ y P)
 have by1:decide (0≤zy)=true:=by rw[←ey];unfold cmpZ;rw[if_neg (by omega)];split <;> decide
 go_enter func13,ntmps13
 go_upto_region 1 with fail
 refine gen_w (fun v=>Gr w v∧Vr v (w.heap.size) (crA id (six P A B N X Y) qc)∧Vr v (w.heap.size+1) (ptA p x n q y m false)) ⟨grA,vrA,vrA⟩ ?_;rintro v0 ⟨G,c1,c2⟩;replace HQ:=fun k=>(HQ k).gr G;replace Sx:=Sx.gr G;replace Sy:=Sy.gr G;refine wp_wS [.c (pv (w.heap.size+1) 2),.F] [1] ⟨.o 4 2 c2 rfl rfl,⟨⟩⟩ fun yw1 v1 hg h1=>?_;simp only[fzw];clear h1;replace G:=G.trans hg;replace c1:=c1.gr hg;replace c2:=c2.gr hg;replace HQ:=fun k=>(HQ k).gr hg;replace Sx:=Sx.gr hg;replace Sy:=Sy.gr hg;clear hg
 go_upto_region 3 with fail
 refine wp_wS [.c (pv (w.heap.size+1) 0),.c (.slice p (dl (x)) n),.c (pv (w.heap.size) 1),.c (.slice (qc 0).1 (dl (P)) (qc 0).2),.c (.int .i64 zx),.F,.F,.c (pv (w.heap.size+1) 1),.c (.slice q (dl (y)) m),.c (pv (w.heap.size) 1),.c (.slice (qc 0).1 (dl (P)) (qc 0).2),.c (.int .i64 zy),.T,.T] [1,3,4,5,8,10,11,12] ⟨.o 29 0 c2 rfl rfl,.o 29 1 c1 rfl rfl,.k (fun yy =>#[.slice p (dl (x)) n,.slice (qc 0).1 (dl (P)) (qc 0).2]) fun yy vv hg hh=>RtW.of_c (cz_any (Sx.gr hg) ((HQ 0).gr hg) hx4 hd ex),.s (.binOp .geq 3 (.const (.int .i64 zx)) (.const (.int .i64 0)) 3) rfl fun vv hg=>by simp[go_sem,exI,bx],.o 29 1 c2 rfl rfl,.o 29 1 c1 rfl rfl,.k (fun yy =>#[.slice q (dl (y)) m,.slice (qc 0).1 (dl (P)) (qc 0).2]) fun yy vv hg hh=>RtW.of_c (cz_any (Sy.gr hg) ((HQ 0).gr hg) hy4 hd ey),.s (.binOp .geq 3 (.const (.int .i64 zy)) (.const (.int .i64 0)) 3) rfl fun vv hg=>by simp[go_sem,exI,by1],⟨⟩⟩ fun yw3 v2 hg h3=>?_;simp only[fzw];clear h3;replace G:=G.trans hg;replace c1:=c1.gr hg;replace c2:=c2.gr hg;replace HQ:=fun k=>(HQ k).gr hg;replace Sx:=Sx.gr hg;replace Sy:=Sy.gr hg;clear hg
 go_wp2_with fail
 go_ret
 exact⟨rfl,G⟩
theorem ron_ok(id:Int)(P A B N X Y:Nat)(qc:Nat→Option Addr×Nat)(x y:Nat)(p q:Option Addr)(n m:Nat)(hx4:dl x≤400)(hy4:dl y≤400)(hd:dl P≤400)(lx:x<P)(ly:y<P)(lA:A<P)(lB:B<P)(w:World)(HQ:∀k,Sl w (qc k).1 (six P A B N X Y k))(Sx:Sl w p x)(Sy:Sl w q y):
 Cg 13 #[.agg (crA id (six P A B N X Y) qc),.agg (ptA p x n q y m false)] w (.bool (decide (y*y%P=((x*x%P+A)%P*x%P+B)%P))):=by
 have hP:0<P:=by omega
 obtain⟨zx,ex⟩:=exl (cmpZ x P)
 have bx:decide (0≤zx)=false:=by rw[←ex];unfold cmpZ;rw[if_pos lx];decide
 obtain⟨zy,ey⟩:=exl (cmpZ y P)
 have by1:decide (0≤zy)=false:=by rw[←ey];unfold cmpZ;rw[if_pos ly];decide
 obtain⟨t1,ht1⟩:=exl (y*y%P);have lt1:t1<P:=ht1▸Nat.mod_lt _ hP;obtain⟨R,hR1⟩:=exl (((x*x%P+A)%P*x%P+B)%P);have lR:R<P:=hR1▸Nat.mod_lt _ hP;rw[hR1,ht1];obtain⟨zz,ez⟩:=exl (cmpZ t1 R);obtain⟨r,hr⟩:=exl (decide (t1=R))
 have bz:(zz==0)=r:=by rw[←ez,←hr];exact cmpZ_nought _ _
 rw[hr]
 go_enter func13,ntmps13
 go_upto_region 1 with fail
 refine gen_w (fun v=>Gr w v∧Vr v (w.heap.size) (crA id (six P A B N X Y) qc)∧Vr v (w.heap.size+1) (ptA p x n q y m false)) ⟨grA,vrA,vrA⟩ ?_;rintro v0 ⟨G,c1,c2⟩;replace HQ:=fun k=>(HQ k).gr G;replace Sx:=Sx.gr G;replace Sy:=Sy.gr G;refine wp_wS [.c (pv (w.heap.size+1) 2),.F] [1] ⟨.o 4 2 c2 rfl rfl,⟨⟩⟩ fun yw1 v1 hg h1=>?_;simp only[fzw];clear h1;replace G:=G.trans hg;replace c1:=c1.gr hg;replace c2:=c2.gr hg;replace HQ:=fun k=>(HQ k).gr hg;replace Sx:=Sx.gr hg;replace Sy:=Sy.gr hg;clear hg
 go_upto_region 3 with fail
 refine wp_wS [.c (pv (w.heap.size+1) 0),.c (.slice p (dl (x)) n),.c (pv (w.heap.size) 1),.c (.slice (qc 0).1 (dl (P)) (qc 0).2),.c (.int .i64 zx),.F,.F,.c (pv (w.heap.size+1) 1),.c (.slice q (dl (y)) m),.c (pv (w.heap.size) 1),.c (.slice (qc 0).1 (dl (P)) (qc 0).2),.c (.int .i64 zy),.F,.F] [1,3,4,5,8,10,11,12] ⟨.o 29 0 c2 rfl rfl,.o 29 1 c1 rfl rfl,.k (fun yy =>#[.slice p (dl (x)) n,.slice (qc 0).1 (dl (P)) (qc 0).2]) fun yy vv hg hh=>RtW.of_c (cz_any (Sx.gr hg) ((HQ 0).gr hg) hx4 hd ex),.s (.binOp .geq 3 (.const (.int .i64 zx)) (.const (.int .i64 0)) 3) rfl fun vv hg=>by simp[go_sem,exI,bx],.o 29 1 c2 rfl rfl,.o 29 1 c1 rfl rfl,.k (fun yy =>#[.slice q (dl (y)) m,.slice (qc 0).1 (dl (P)) (qc 0).2]) fun yy vv hg hh=>RtW.of_c (cz_any (Sy.gr hg) ((HQ 0).gr hg) hy4 hd ey),.s (.binOp .geq 3 (.const (.int .i64 zy)) (.const (.int .i64 0)) 3) rfl fun vv hg=>by simp[go_sem,exI,by1],⟨⟩⟩ fun yw3 v2 hg h3=>?_;simp only[fzw];clear h3;replace G:=G.trans hg;replace c1:=c1.gr hg;replace c2:=c2.gr hg;replace HQ:=fun k=>(HQ k).gr hg;replace Sx:=Sx.gr hg;replace Sy:=Sy.gr hg;clear hg
 go_upto_region 5 with fail
 refine wp_w [.c (pv (w.heap.size+1) 1),.c (.slice q (dl (y)) m),.c (pv (w.heap.size+1) 1),.c (.slice q (dl (y)) m),.c (pv (w.heap.size) 1),.c (.slice (qc 0).1 (dl (P)) (qc 0).2),.n (t1),.c (.agg (crA id (six P A B N X Y) qc)),.c (pv (w.heap.size+1) 0),.c (.slice p (dl (x)) n),.n (R),.c (.int .i64 zz),.c (.bool r),.c (.bool r)] [1,3,5,6,7,9,10,11,12] ⟨.o 29 1 c2 rfl rfl,.o 29 1 c2 rfl rfl,.o 29 1 c1 rfl rfl,.k (fun yy =>#[.slice q (dl (y)) m,.slice q (dl (y)) m,.slice (qc 0).1 (dl (P)) (qc 0).2]) fun yy vv hg hh=>RtW.of_n (mm_any (Sy.gr hg) (Sy.gr hg) ((HQ 0).gr hg) ly ly hd ht1),.g 31 0 c1 rfl,.o 29 0 c2 rfl rfl,.k (fun yy =>#[.agg (crA id (six P A B N X Y) qc),.slice p (dl (x)) n]) fun yy vv hg hh=>RtW.of_n (Rt.n (hR1▸rright_any id P A B N X Y qc x _ _ lx lA lB hd _ (fun k=>(HQ k).gr hg) (Sx.gr hg))),.k (fun yy =>#[.slice (yy 6 0).1 (dl (t1)) (yy 6 0).2,.slice (yy 10 0).1 (dl (R)) (yy 10 0).2]) fun yy vv hg hh=>RtW.of_c (cz_any (hh 6 rfl) (hh 10 rfl) (dl_low _ P 400 (by omega) hd) (dl_low _ P 400 (by omega) hd) ez),.s (.binOp .eql 3 (.const (.int .i64 zz)) (.const (.int .i64 0)) 3) rfl fun vv hg=>by simp[go_sem,exI,bz],⟨⟩⟩ fun yw5 v3 hg h5=>?_;simp only[fzw];clear h5;replace G:=G.trans hg;replace c1:=c1.gr hg;replace c2:=c2.gr hg;replace HQ:=fun k=>(HQ k).gr hg;replace Sx:=Sx.gr hg;replace Sy:=Sy.gr hg;clear hg
 go_wp2_with fail
 go_ret
 exact⟨rfl,G⟩
end
section
attribute [local go_sem ↓] uz9 Go.wp_at_zero Go.wp_at_succ
attribute [local go_sem] uz10
attribute [local go_sem] frz_setBlk blk_setBlk setBlk_setBlk
section
variable {P:Nat} [NeZero P] {i:Fin P→Fin P} {A B:Fin P}
theorem rtimes_any(C:EC.Cur i A B)(hd:dl P≤400)(id:Int)(N X Y:Nat)(qc:Nat→Option Addr×Nat)(k nk:Nat)(pk:Option Addr)(hk:dl k≤400)(Q:Option (Fin P×Fin P))(hQ:EC.On A B Q)(p q:Option Addr)(n m:Nat)(w:World)(HQ:∀k,Sl w (qc k).1 (six P A.val B.val N X Y k))(Sk:Sl w pk k)(Sx:Sl w p (ex Q))(Sy:Sl w q (ey Q)):
 Calls prog 16 #[.agg (crA id (six P A.val B.val N X Y) qc),.slice pk (dl k) nk,.agg (ptA p (ex Q) n q (ey Q) m (ef Q))] w (Rt (.pt (ex (EC.ml i A k Q)) (ey (EC.ml i A k Q)) (ef (EC.ml i A k Q))) w):=by
 obtain⟨L,hL⟩:=exl (bl k)
 have hL1:(L:Int)≤12800:=by
  have:(bl k+31)/32≤400:=hk
  omega
 have hL0:(0:Int)≤(L:Int):=by omega
 have HB:Hid _:=fun w' g=>hL▸rbits_any k nk pk w' (Sk.gr g) (by omega);have HZ:Hu (k/2^L=0):=fun _=>Nat.div_eq_of_lt (hL▸(bl_le k (bl k)).1 (Nat.le_refl _))
 have HLk:Hu (L≤12800):=fun _=>by omega
 clear hL
 go_enter func16,ntmps16
 go_upto_region 3 with (go_at_call 40;refine(HB.out _ grA).mono ?_;rintro e w' ⟨rfl,rfl⟩)
 obtain⟨b7,hb7⟩:=exl (w.heap.size+1+1+1);simp only[hb7]
 refine gen_w (fun v=>Hid (Gr w v∧Vr v (w.heap.size) (crA id (six P A.val B.val N X Y) qc)∧Vr v (w.heap.size+1) (ptA p (ex Q) n q (ey Q) m (ef Q))∧Vr v (w.heap.size+1+1) (ptA none 0 0 none 0 0 false)∧Vr v b7 (ptA none 0 0 none 0 0 true))) ?_ ?_
 ·subst hb7;exact⟨grA,⟨by simp[go_sem],by simp[go_sem],by simp[go_sem]⟩,⟨by simp[go_sem],by simp[go_sem],by simp[go_sem]⟩,⟨by simp[go_sem],by simp[go_sem],by simp[go_sem]⟩,⟨by simp[go_sem],by simp[go_sem],by simp[go_sem]⟩⟩
 intro v0 HV
 have ne0:b7≠w.heap.size:=by omega
 have ne1:b7≠w.heap.size+1:=by omega
 have ne2:b7≠w.heap.size+1+1:=by omega
 have nb7:w.heap.size≤b7:=by omega
 have HN:Hu (b7≠w.heap.size∧b7≠w.heap.size+1∧b7≠w.heap.size+1+1∧w.heap.size≤b7):=fun _=>⟨ne0,ne1,ne2,nb7⟩;clear hb7 ne0 ne1 ne2 nb7 HB
 go_loopw [8] (fun ia wr=>∃(j:Nat) (po:Option Addr) (no:Nat) (qo:Option Addr) (mo:Nat),ia=.int .i64 ((j:Int)-1)∧Hu (j≤L)∧Hid (Gr w wr∧Vr wr (w.heap.size) (crA id (six P A.val B.val N X Y) qc)∧Vr wr (w.heap.size+1) (ptA p (ex Q) n q (ey Q) m (ef Q))∧Vr wr (w.heap.size+1+1) (ptA none 0 0 none 0 0 false)∧Vr wr b7 (ptA po (ex (EC.ml i A (k/2^j) Q)) no qo (ey (EC.ml i A (k/2^j) Q)) mo (ef (EC.ml i A (k/2^j) Q)))∧Sl wr po (ex (EC.ml i A (k/2^j) Q))∧Sl wr qo (ey (EC.ml i A (k/2^j) Q)))) (fun ia _=>(intOf ia+1).toNat)
 case atStart=>
  refine⟨L,none,0,none,0,rfl,fun _=>Nat.le_refl _,?_⟩;rw[HZ.out ()];obtain⟨h1,h2,h3,h4,h5⟩:=HV.out;exact⟨h1,h2,h3,h4,h5,Sl.zero _ _,Sl.zero _ _⟩
 case round=>
  obtain⟨j,po,no,qo,mo,rfl,HJ,HR⟩:=hrel
  by_cases hpos:0<j
  ·obtain⟨i0,rfl⟩:∃i,j=i+1:=⟨j-1,by omega⟩
   have e1:(((i0+1:Nat):Int)-1)=(i0:Int):=by omega
   rw[e1]
   have j0:(0:Int)≤(i0:Int):=by omega
   have j1:(i0:Int)<12800:=by have:=HJ.out ();have:=HLk.out ();omega
   have HJ2:i0≤L:=by have:=HJ.out ();omega
   obtain⟨R,hR⟩:=exl (EC.ml i A (k/2^(i0+1)) Q);obtain⟨R1,hR1⟩:=exl (EC.pl i A R R);obtain⟨R2,hR2⟩:=exl (EC.pl i A R1 Q);rw[hR]at HR;obtain⟨G,c1,c2,c3,c7,So,To⟩:=HR.out;obtain⟨ne0,ne1,ne2,nb7⟩:=HN.out ();replace HQ:=fun k=>(HQ k).gr G;replace Sk:=Sk.gr G;replace Sx:=Sx.gr G;replace Sy:=Sy.gr G
   have hdiv:∀b,k/2^i0%2=b→k/2^i0=k/2^(i0+1)+k/2^(i0+1)+b:=fun b hb=>by
    rw[Nat.pow_succ,←Nat.div_div_eq_div_mul];omega
   have h12:EC.ml i A (k/2^(i0+1)+k/2^(i0+1)) Q=R1:=by rw[EC.ml_add C hQ,hR,hR1]
   have hbt:=fun w' (s:Sl w' pk k)=>rbit_any k nk i0 pk w' s (by omega);clear HV HR HJ hpos e1
   obtain hb|hb:k/2^i0%2=0∨k/2^i0%2=1:=by omega
   ·have hR3:R1=EC.ml i A (k/2^i0) Q:=by rw[hdiv 0 hb,Nat.add_zero,h12]
    have hbit:∀w',Sl w' pk k→Calls prog 41 #[.slice pk (dl k) nk,.int .i64 (i0:Int)] w' fun e w''=>e=.returned (.int .i64 0)∧w''=w':=fun w' s=>by
     have:=hbt w' s;rw[show bitN k i0=0 from hb]at this;exact this
    clear hb h12 hdiv hbt
    go_upto_region 5 with fail
    refine wp_wTS 4 [.c (.agg (crA id (six P A.val B.val N X Y) qc)),.c (.agg (ptA po (ex R) no qo (ey R) mo (ef R))),.c (.agg (ptA po (ex R) no qo (ey R) mo (ef R))),.pt (ex R1) (ey R1) (ef R1)] [0,1,2,3] ⟨.g 31 0 c1 rfl,.g 39 0 c7 rfl,.g 39 0 c7 rfl,.k (fun yy =>#[.agg (crA id (six P A.val B.val N X Y) qc),.agg (ptA po (ex R) no qo (ey R) mo (ef R)),.agg (ptA po (ex R) no qo (ey R) mo (ef R))]) fun yy vv hg hh=>RtW.of_pt (hR1▸rplus_any C hd id N X Y qc R R po qo no mo po qo no mo _ (fun k=>(HQ k).gr hg) (So.gr hg) (To.gr hg) (So.gr hg) (To.gr hg)),⟨⟩⟩ (.s 39 (fun yy=>.pointer (some ⟨b7,0,none⟩)) (fun yy=>.agg (ptA (yy 3 0).1 (ex R1) (yy 3 0).2 (yy 3 1).1 (ey R1) (yy 3 1).2 (ef R1))) fun yw5 v1 hg h5=>?_);have HT:=(c7.gr hg).h;have FT:=(c7.gr hg).f;refine⟨setBlk v1 (b7) (ptA (yw5 3 0).1 (ex R1) (yw5 3 0).2 (yw5 3 1).1 (ey R1) (yw5 3 1).2 (ef R1)),by simp[go_sem,exI,HT,FT],?_⟩;simp only[fzw];obtain⟨S5_3,T5_3⟩:=h5 3;clear h5;replace G:=G.trans hg;replace c1:=c1.gr hg;replace c2:=c2.gr hg;replace c3:=c3.gr hg;replace c7:=c7.gr hg;replace HQ:=fun k=>(HQ k).gr hg;replace Sk:=Sk.gr hg;replace Sx:=Sx.gr hg;replace Sy:=Sy.gr hg;replace So:=So.gr hg;replace To:=To.gr hg;clear hg
    go_upto_region 6 with fail
    refine gen_w (fun u=>Gr w u∧Vr u (w.heap.size) (crA id (six P A.val B.val N X Y) qc)∧Vr u (w.heap.size+1) (ptA p (ex Q) n q (ey Q) m (ef Q))∧Vr u (w.heap.size+1+1) (ptA none 0 0 none 0 0 false)∧Vr u (b7) (ptA (yw5 3 0).1 (ex R1) (yw5 3 0).2 (yw5 3 1).1 (ey R1) (yw5 3 1).2 (ef R1))∧(∀k,Sl u (qc k).1 (six P A.val B.val N X Y k))∧Sl u pk (k)∧Sl u p (ex Q)∧Sl u q (ey Q)∧Sl u (yw5 3 0).1 (ex R1)∧Sl u (yw5 3 1).1 (ey R1)) ⟨gr_setNew G (by omega),c1.other (ne0),c2.other (ne1),c3.other (ne2),c7.set (by rw[ptA_size];decide) _,fun k=>Sl.set (HQ k) (by rw[HT];exact ptA_no _ _ _ _ _ _ _),Sl.set Sk (by rw[HT];exact ptA_no _ _ _ _ _ _ _),Sl.set Sx (by rw[HT];exact ptA_no _ _ _ _ _ _ _),Sl.set Sy (by rw[HT];exact ptA_no _ _ _ _ _ _ _),Sl.set S5_3 (by rw[HT];exact ptA_no _ _ _ _ _ _ _),Sl.set T5_3 (by rw[HT];exact ptA_no _ _ _ _ _ _ _)⟩ ?_;clear HT FT;rintro u5 ⟨G,c1,c2,c3,c7,HQ,Sk,Sx,Sy,S5_3,T5_3⟩;refine wp_wS [.c (.slice pk (dl (k)) nk),.c (.int .i64 (i0:Int)),.O,.F] [2] ⟨.k (fun yy =>#[.slice pk (dl (k)) nk,.int .i64 (i0:Int)]) fun yy vv hg hh=>RtW.of_c (Rt.same (hbit _ (Sk.gr hg))),⟨⟩⟩ fun yw6 v2 hg h6=>?_;simp only[fzw];clear h6;replace G:=G.trans hg;replace c1:=c1.gr hg;replace c2:=c2.gr hg;replace c3:=c3.gr hg;replace c7:=c7.gr hg;replace HQ:=fun k=>(HQ k).gr hg;replace Sk:=Sk.gr hg;replace Sx:=Sx.gr hg;replace Sy:=Sy.gr hg;replace S5_3:=S5_3.gr hg;replace T5_3:=T5_3.gr hg;clear hg
    go_wp2_with fail
    go_roundw
    case rel=>
     refine⟨i0,(yw5 3 0).1,(yw5 3 0).2,(yw5 3 1).1,(yw5 3 1).2,by simp,fun _=>HJ2,?_⟩;rw[←hR3];exact⟨G,c1,c2,c3,c7,S5_3,T5_3⟩
    case measure=>simp[intOf]
   ·have hR3:R2=EC.ml i A (k/2^i0) Q:=by
     rw[hdiv 1 hb]
     show R2=EC.pl i A (EC.ml i A (k/2^(i0+1)+k/2^(i0+1)) Q) Q
     rw[h12,hR2]
    have hbit:∀w',Sl w' pk k→Calls prog 41 #[.slice pk (dl k) nk,.int .i64 (i0:Int)] w' fun e w''=>e=.returned (.int .i64 1)∧w''=w':=fun w' s=>by
     have:=hbt w' s;rw[show bitN k i0=1 from hb]at this;exact this
    clear hb h12 hdiv hbt
    go_upto_region 5 with fail
    refine wp_wTS 4 [.c (.agg (crA id (six P A.val B.val N X Y) qc)),.c (.agg (ptA po (ex R) no qo (ey R) mo (ef R))),.c (.agg (ptA po (ex R) no qo (ey R) mo (ef R))),.pt (ex R1) (ey R1) (ef R1)] [0,1,2,3] ⟨.g 31 0 c1 rfl,.g 39 0 c7 rfl,.g 39 0 c7 rfl,.k (fun yy =>#[.agg (crA id (six P A.val B.val N X Y) qc),.agg (ptA po (ex R) no qo (ey R) mo (ef R)),.agg (ptA po (ex R) no qo (ey R) mo (ef R))]) fun yy vv hg hh=>RtW.of_pt (hR1▸rplus_any C hd id N X Y qc R R po qo no mo po qo no mo _ (fun k=>(HQ k).gr hg) (So.gr hg) (To.gr hg) (So.gr hg) (To.gr hg)),⟨⟩⟩ (.s 39 (fun yy=>.pointer (some ⟨b7,0,none⟩)) (fun yy=>.agg (ptA (yy 3 0).1 (ex R1) (yy 3 0).2 (yy 3 1).1 (ey R1) (yy 3 1).2 (ef R1))) fun yw5 v1 hg h5=>?_);have HT:=(c7.gr hg).h;have FT:=(c7.gr hg).f;refine⟨setBlk v1 (b7) (ptA (yw5 3 0).1 (ex R1) (yw5 3 0).2 (yw5 3 1).1 (ey R1) (yw5 3 1).2 (ef R1)),by simp[go_sem,exI,HT,FT],?_⟩;simp only[fzw];obtain⟨S5_3,T5_3⟩:=h5 3;clear h5;replace G:=G.trans hg;replace c1:=c1.gr hg;replace c2:=c2.gr hg;replace c3:=c3.gr hg;replace c7:=c7.gr hg;replace HQ:=fun k=>(HQ k).gr hg;replace Sk:=Sk.gr hg;replace Sx:=Sx.gr hg;replace Sy:=Sy.gr hg;replace So:=So.gr hg;replace To:=To.gr hg;clear hg
    go_upto_region 6 with fail
    refine gen_w (fun u=>Gr w u∧Vr u (w.heap.size) (crA id (six P A.val B.val N X Y) qc)∧Vr u (w.heap.size+1) (ptA p (ex Q) n q (ey Q) m (ef Q))∧Vr u (w.heap.size+1+1) (ptA none 0 0 none 0 0 false)∧Vr u (b7) (ptA (yw5 3 0).1 (ex R1) (yw5 3 0).2 (yw5 3 1).1 (ey R1) (yw5 3 1).2 (ef R1))∧(∀k,Sl u (qc k).1 (six P A.val B.val N X Y k))∧Sl u pk (k)∧Sl u p (ex Q)∧Sl u q (ey Q)∧Sl u (yw5 3 0).1 (ex R1)∧Sl u (yw5 3 1).1 (ey R1)) ⟨gr_setNew G (by omega),c1.other (ne0),c2.other (ne1),c3.other (ne2),c7.set (by rw[ptA_size];decide) _,fun k=>Sl.set (HQ k) (by rw[HT];exact ptA_no _ _ _ _ _ _ _),Sl.set Sk (by rw[HT];exact ptA_no _ _ _ _ _ _ _),Sl.set Sx (by rw[HT];exact ptA_no _ _ _ _ _ _ _),Sl.set Sy (by rw[HT];exact ptA_no _ _ _ _ _ _ _),Sl.set S5_3 (by rw[HT];exact ptA_no _ _ _ _ _ _ _),Sl.set T5_3 (by rw[HT];exact ptA_no _ _ _ _ _ _ _)⟩ ?_;clear HT FT;rintro u5 ⟨G,c1,c2,c3,c7,HQ,Sk,Sx,Sy,S5_3,T5_3⟩;refine wp_wS [.c (.slice pk (dl (k)) nk),.c (.int .i64 (i0:Int)),.c (.int .i64 1),.T] [2] ⟨.k (fun yy =>#[.slice pk (dl (k)) nk,.int .i64 (i0:Int)]) fun yy vv hg hh=>RtW.of_c (Rt.same (hbit _ (Sk.gr hg))),⟨⟩⟩ fun yw6 v2 hg h6=>?_;simp only[fzw];clear h6;replace G:=G.trans hg;replace c1:=c1.gr hg;replace c2:=c2.gr hg;replace c3:=c3.gr hg;replace c7:=c7.gr hg;replace HQ:=fun k=>(HQ k).gr hg;replace Sk:=Sk.gr hg;replace Sx:=Sx.gr hg;replace Sy:=Sy.gr hg;replace S5_3:=S5_3.gr hg;replace T5_3:=T5_3.gr hg;clear hg
    go_upto_region 7 with fail
    refine wp_wTS 4 [.c (.agg (crA id (six P A.val B.val N X Y) qc)),.c (.agg (ptA (yw5 3 0).1 (ex R1) (yw5 3 0).2 (yw5 3 1).1 (ey R1) (yw5 3 1).2 (ef R1))),.c (.agg (ptA p (ex Q) n q (ey Q) m (ef Q))),.pt (ex R2) (ey R2) (ef R2)] [0,1,2,3] ⟨.g 31 0 c1 rfl,.g 39 0 c7 rfl,.g 39 0 c2 rfl,.k (fun yy =>#[.agg (crA id (six P A.val B.val N X Y) qc),.agg (ptA (yw5 3 0).1 (ex R1) (yw5 3 0).2 (yw5 3 1).1 (ey R1) (yw5 3 1).2 (ef R1)),.agg (ptA p (ex Q) n q (ey Q) m (ef Q))]) fun yy vv hg hh=>RtW.of_pt (hR2▸rplus_any C hd id N X Y qc R1 Q (yw5 3 0).1 (yw5 3 1).1 (yw5 3 0).2 (yw5 3 1).2 p q n m _ (fun k=>(HQ k).gr hg) (S5_3.gr hg) (T5_3.gr hg) (Sx.gr hg) (Sy.gr hg)),⟨⟩⟩ (.s 39 (fun yy=>.pointer (some ⟨b7,0,none⟩)) (fun yy=>.agg (ptA (yy 3 0).1 (ex R2) (yy 3 0).2 (yy 3 1).1 (ey R2) (yy 3 1).2 (ef R2))) fun yw7 v3 hg h7=>?_);have HT:=(c7.gr hg).h;have FT:=(c7.gr hg).f;refine⟨setBlk v3 (b7) (ptA (yw7 3 0).1 (ex R2) (yw7 3 0).2 (yw7 3 1).1 (ey R2) (yw7 3 1).2 (ef R2)),by simp[go_sem,exI,HT,FT],?_⟩;simp only[fzw];obtain⟨S7_3,T7_3⟩:=h7 3;clear h7;replace G:=G.trans hg;replace c1:=c1.gr hg;replace c2:=c2.gr hg;replace c3:=c3.gr hg;replace c7:=c7.gr hg
    go_wp2_with fail
    go_roundw
    case rel=>
     refine⟨i0,(yw7 3 0).1,(yw7 3 0).2,(yw7 3 1).1,(yw7 3 1).2,by simp,fun _=>HJ2,?_⟩;rw[←hR3];exact⟨gr_setNew G (by omega),c1.other ne0,c2.other ne1,c3.other ne2,c7.set (by rw[ptA_size];decide) _,Sl.set S7_3 (by rw[HT];exact ptA_no _ _ _ _ _ _ _),Sl.set T7_3 (by rw[HT];exact ptA_no _ _ _ _ _ _ _)⟩
    case measure=>simp[intOf]
  ·obtain rfl:j=0:=by omega
   rw[Nat.pow_zero,Nat.div_one]at HR;obtain⟨R,hR⟩:=exl (EC.ml i A k Q);rw[hR]at HR;obtain⟨G,c1,c2,c3,c7,So,To⟩:=HR.out;obtain⟨ne0,ne1,ne2,nb7⟩:=HN.out ();have⟨h3,f3,p3⟩:=c3;have⟨h7,f7,p7⟩:=c7
   go_wp2_with fail
   refine bodyPost_ret (res_one results16 (rd_pt po (ex R) no qo (ey R) mo (ef R) (by rfl) ?_)) rfl ⟨_,rfl,?_,gr_setNew G (by omega)⟩
   ·simp[go_sem,h3]
   ·rw[hR];exact⟨_,_,_,_,rfl,Sl.set So (by rw[h3];exact ptA_no _ _ _ _ _ _ _),Sl.set To (by rw[h3];exact ptA_no _ _ _ _ _ _ _)⟩
end
end
end
end Go.Proofs.YtghidgcekieljaaGreat