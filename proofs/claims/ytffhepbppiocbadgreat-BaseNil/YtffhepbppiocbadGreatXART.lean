import Derived.Deep.AppendSrc
import Derived.Test.YtffhepbppiocbadGreatXARAddM
import Derived.Test.YtffhepbppiocbadGreatXAIX
namespace Go.Proofs.YtffhepbppiocbadGreat
open Go.RowKit Go.Proofs.Tryz
set_option maxRecDepth 100000
set_option maxHeartbeats 8000000
section
attribute [local go_sem ↓] uz1
attribute [local go_sem] uz2
section
attribute [local go_sem ↓] bsl_is
def appS(ty:TypeId)(xs:Array Value):Sem Value:=Builtin.append_ #[28,28] ty xs
theorem app_is(ty:TypeId)(xs:Array Value):Builtin.append_ #[28,28] ty xs=appS ty xs:=rfl
theorem infoU:(prog.info? 36).map (fun i=>(i.zero,i.size,i.bytes))=some (some (.int .u32 0),1,4):=by kernel_rfl
theorem append_digits(w:World)(b n x:Nat)(p:Option Addr)(h:Sl w p x)(hx:dl x≤1000):
 ∃p' c w',(∀ty,(appS ty #[.slice (some ⟨b,0,none⟩) 0 0,.slice p (dl x) n]).run prog w=.ok (.slice p' (dl x) c) w')∧Sl w' p' x∧Gr w w':=by
 obtain⟨i,G,I,J,K⟩:∃i,prog.info? 36=some i∧i.zero=some (.int .u32 0)∧i.size=1∧i.bytes=4:=by
  have q:=infoU
  cases hc:prog.info? 36 with
  | none=>rw[hc]at q;cases q
  | some i=>
   rw[hc]at q;simp only[Option.map_some,Option.some.injEq,Prod.mk.injEq]at q;exact⟨i,rfl,q.1,q.2.1,q.2.2⟩
 by_cases q:dl x=0
 ·have L:=dl_eq_zero x q;subst L
  have f:Src prog i.size 28 (.slice p 0 n) 0 [] w:=by
   cases p with
   | none=>exact Src.ofNil w underlying28 n
   | some a=>exact Src.ofSlice w underlying28 a 0 n [] (by simp) (fun j u d=>by simp at d) (fun u C=>by cases C)
  refine⟨some ⟨b,0,none⟩,0,w,fun ty=>?_,Sl.zero _ _,Gr.refl _⟩;have B:=run_append_room_src w 28 28 ty 36 i underlying28 G b 0 0 0 (.slice p 0 n) 0 [] f (by omega) (fun j d=>by simp at d) (fun j d=>by simp at d);rw[dl_zero];exact B
 ·obtain⟨c,rfl,hc,P⟩:=h.some (by omega)
  have D:(nd (dl x) x).toList.length=dl x*i.size:=by rw[J,Array.length_toList,nd_size,Nat.mul_one]
  have f:Src prog i.size 28 (.slice (some ⟨c,0,none⟩) (dl x) n) (dl x) (nd (dl x) x).toList w:=by
   refine Src.ofSlice w underlying28 ⟨c,0,none⟩ (dl x) n _ D (fun j u d=>?_) (fun u C=>?_)
   ·rw[Array.getElem?_toList]at d
    have A:j<dl x:=by
     by_cases hl:j<dl x
     ·exact hl
     ·rw[Array.getElem?_eq_none (by rw[nd_size];omega)]at d;cases d
    rw[nd_get _ _ _ A]at d
    have e:(⟨c,0,none⟩:Addr).add j=⟨c,j,none⟩:=by rw[Addr.add_lit,Nat.zero_add]
    rw[e,cell_blk,P j A,d]
   ·obtain⟨j,d⟩:=List.mem_iff_getElem?.1 C;rw[Array.getElem?_toList]at d
    have A:j<dl x:=by
     by_cases hl:j<dl x
     ·exact hl
     ·rw[Array.getElem?_eq_none (by rw[nd_size];omega)]at d;cases d
    rw[nd_get _ _ _ A]at d
    cases d
    rfl
  have B:=fun ty=>run_append_grow_src w 28 28 ty 36 i _ underlying28 G I (some ⟨b,0,none⟩) 0 0 [] (run_firstCells_some w.drew i.size 0 ⟨b,0,none⟩ 0 0 [] (by simp) (fun j u d=>by simp at d)) (.slice (some ⟨c,0,none⟩) (dl x) n) (dl x) (nd (dl x) x).toList f (by omega) (by omega) (by rw[K,Nat.zero_add];simp only[Builtin.nextslicecap];rw[if_pos (by omega)];omega);simp only[Nat.zero_add,List.nil_append]at B
  refine⟨_,_,_,B,?_,?_⟩
  ·intro k H
   refine⟨w.heap.size,rfl,?_,?_⟩
   ·simp[go_sem]
   ·have e:w.heap.size=w.drew.heap.size:=by simp[go_sem]
    rw[blk_alloc_at _ _ _ _ _ e,Array.getElem?_append_left (by simp[nd_size,H])];simp[nd_get _ _ _ H]
  ·exact grA
def rdD(w:World)(b i:Nat):Nat:=match (blk w b)[i]? with|some (.int _ z)=>z.toNat|_=>0
def numD(f:Nat→Nat):Nat→Nat
 | 0=>0
 | n+1=>numD f n+f n*pq n
def mS(w:World):Value→Nat
 | .slice (some ⟨b,_,_⟩) n _=>numD (rdD w b) n
 | _=>0
theorem numD_is(f:Nat→Nat)(x:Nat):∀n,(∀i,i<n→f i=dg x i)→numD f n=x%pq n
 | 0,_=>by rw[pq_zero,Nat.mod_one];rfl
 | n+1,h=>by
  show numD f n+f n*pq n=_
  rw[numD_is f x n (fun i hi=>h i (by omega)),h n (by omega),dmod_succ]
theorem mS_is{w:World}{p:Option Addr}{x n:Nat}(h:Sl w p x):mS w (.slice p (dl x) n)=x:=by
 by_cases h0:dl x=0
 ·have e:=dl_eq_zero x h0;subst e
  cases p <;> rfl
 ·obtain⟨b,rfl,j,d⟩:=h.some (by omega)
  show numD (rdD w b) (dl x)=x
  rw[numD_is (rdD w b) x (dl x) (fun i f=>by unfold rdD;rw[d i f];rfl),Nat.mod_eq_of_lt (dl_lt x)]
theorem subM_is(t c m:Nat)(ht:t<m)(hc:c<m):subM t c m<m∧∃k:Int,(subM t c m:Int)=t-c+k*m:=by
 unfold subM
 split
 ·exact⟨by omega,0,by omega⟩
 ·exact⟨by omega,1,by omega⟩
structure RI(a m r s t u:Nat):Prop where
 rm:r≤m
 sm:s≤m
 tm:t<m
 um:u<m
 d1:(m:Int)∣(a:Int)*t-r
 d2:(m:Int)∣(a:Int)*u-s
 g:Nat.gcd r s=Nat.gcd m a
theorem RI.start(a m:Nat)(h:1<m):RI a m m (a%m) 0 1:=by
 refine⟨Nat.le_refl _,Nat.le_of_lt (Nat.mod_lt _ (by omega)),by omega,h,⟨-1,by simp⟩,⟨((a/m:Nat):Int),?_⟩,?_⟩
 ·have d:=Nat.div_add_mod a m;obtain⟨q,f⟩:=exl (a/m);obtain⟨v,i⟩:=exl (a%m);rw[f,i]at d ⊢
  have j:(m:Int)*q+v=a:=by exact_mod_cast d
  rw[←j]
  grind
 ·rw[Nat.gcd_comm,←Nat.gcd_rec]
theorem RI.step{a m r s t u:Nat}(h:RI a m r s t u)(h0:0<s)(q v c x:Nat)(hq:r/s=q)(hv:r%s=v)(hc:q%m*u%m=c)(hx:subM t c m=x):RI a m s v u x∧v<s:=by
 have D:0<m:=by have:=h.tm;omega
 have f:v<s:=by rw[←hv];exact Nat.mod_lt _ h0
 have i:c<m:=by rw[←hc];exact Nat.mod_lt _ D
 obtain⟨A,k,B⟩:=subM_is t c m h.tm i;rw[hx]at A B
 refine⟨⟨h.sm,by have:=h.sm;omega,h.um,A,h.d2,?_,?_⟩,f⟩
 ·obtain⟨G,J⟩:=h.d1;obtain⟨H,K⟩:=h.d2;have C:=Nat.div_add_mod r s;rw[hq,hv]at C
  have L:(s:Int)*q+v=r:=by exact_mod_cast C
  rw[pow_mul]at hc;have j:=Nat.div_add_mod (q*u) m;rw[hc]at j;obtain⟨d,I⟩:∃d,q*u/m=d:=⟨_,rfl⟩;rw[I]at j
  have P:(m:Int)*d+c=q*u:=by exact_mod_cast j
  refine⟨G-q*H+a*d+a*k,?_⟩;rw[B]
  grind
 ·rw[←h.g,←hv,Nat.gcd_comm,←Nat.gcd_rec,Nat.gcd_comm]
theorem RI.last{a m r t u:Nat}(h:RI a m r 0 t u)(h1:1<m):r=Nat.gcd m a∧0<r∧(r=1→a*t%m=1):=by
 have d:=h.g;rw[Nat.gcd_zero_right]at d;have j:0<Nat.gcd m a:=Nat.gcd_pos_of_pos_left _ (by omega);refine⟨d,by omega,fun e=>?_⟩;obtain⟨c,f⟩:=h.d1;rw[e]at f;obtain⟨k,i⟩:=inv_pos (a*t) m c h1 (by rw[←f];simp);rw[i,Nat.add_mul_mod_self_left,Nat.mod_eq_of_lt h1]
def InvR(a m:Nat)(w:World)(e:Ending)(w':World):Prop:=
 (Nat.gcd m a=1→∃t p n,t<m∧a*t%m=1∧e=.returned (.tuple #[.slice p (dl t) n,.bool true])∧Sl w' p t)∧(Nat.gcd m a≠1→e=.returned (.tuple #[.slice none 0 0,.bool false]))∧Gr w w'
attribute [local go_sem ↓] app_is
theorem rinv_any(a m n n':Nat)(p q:Option Addr)(w:World)(hp:Sl w p a)(hq:Sl w q m)(ha:dl a≤400)(hm:dl m≤400)(h1:1<m):
 Calls prog 50 #[.slice p (dl a) n,.slice q (dl m) n'] w (InvR a m w):=by
 have H1:Hid (∀w' r z k k' p1 p',dl r≤400→Sl w' p1 r→Sl w' p' 1→cmpZ r 1=z→Calls prog 26 #[.slice p1 (dl r) k,.slice p' 1 k'] w' fun e aj=>e=.returned (.int .i64 z)∧Gr w' aj):=fun w' r z k k' p1 p' h2 h3 h4 e=>e▸rcmp_any r 1 k k' p1 p' w' h3 h4 (by omega) (by decide)
 have aa:cmpZ m 1=1:=by unfold cmpZ;split <;> (try split) <;> omega
 have H:=fun w' k' p' (g:Gr w w') (h:Sl w' p' 1)=>H1.out w' m 1 n' k' q p' hm (hq.gr g) h aa;have f:=fun w' (g:Gr w w')=>rmod_any a m n n' p q w' (hp.gr g) (hq.gr g) (by omega) (by omega) (by omega);have I:=fun w' k p' x y (g:Gr w w') (h:Sl w' p' x) (hx:dl x≤400) (e:x%m=y)=>(e▸rmod_any x m k n' p' q w' h (hq.gr g) (by omega) (by omega) (by omega):Calls prog 12 #[.slice p' (dl x) k,.slice q (dl m) n'] w' (Nm y w'));have J:=fun w' k k' p1 p2 x y z (g:Gr w w') (s1:Sl w' p1 x) (s2:Sl w' p2 y) (l1:x<m) (l2:y<m) (e:x*y%m=z)=>(e▸rmulmod_any x y m k k' n' p1 p2 q w' s1 s2 (hq.gr g) (dl_low x m 400 (by omega) hm) (dl_low y m 400 (by omega) hm) hm (by omega):Calls prog 47 #[.slice p1 (dl x) k,.slice p2 (dl y) k',.slice q (dl m) n'] w' (Nm z w'));have L:=fun w' k k' p1 p2 x y z (g:Gr w w') (s1:Sl w' p1 x) (s2:Sl w' p2 y) (l1:x<m) (l2:y<m) (e:subM x y m=z)=>(e▸rsubmod_any x y m k k' n' p1 p2 q w' s1 s2 (hq.gr g) hm l1 l2:Calls prog 49 #[.slice p1 (dl x) k,.slice p2 (dl y) k',.slice q (dl m) n'] w' (Nm z w'));have P:=fun w' b (g:Gr w w')=>append_digits w' b n' m q (hq.gr g) (by omega);have Q:Hid _:=fun x hx=>dl_low x m 400 hx hm;have HS:Hid _:=RI.start a m h1;obtain⟨X,eX⟩:=exl (a%m);obtain⟨A,eA⟩:=exl (dl a);obtain⟨K,eK⟩:=exl (dl m);simp only[eX,eA,eK]at H f I J L P HS ⊢;have HC:Hid _:=H;have HM:Hid _:=f;have HQ:Hid _:=I;have S:Hid _:=J;have U:Hid _:=L;have HA:Hid _:=P;have HK:Hu (dl m=K∧1<m):=fun _=>⟨eK,h1⟩;have aq:∀w,(bslS 28 1 #[(0,.int .u32 1)]).run prog w=.ok (.slice (some ⟨w.heap.size,0,none⟩) 1 1) (w.alloc (.cells (nd 1 1) 36)):=fun w=>build1 1 (by decide) w
 have ab:∀w,(bslS 28 0 #[]).run prog w=.ok (.slice (some ⟨w.heap.size,0,none⟩) 0 0) (w.alloc (.cells #[] 36)):=fun w=>by kernel_rfl
 clear H f I J L P hp hq ha hm h1 aa eX eA eK
 go_enter func50,ntmps50
 go_upto_region 6 with (first
  | (go_at_call 26;refine(HC.out _ _ _ ((Gr.refl _).alloc _) (sl_new w)).mono ?_;rintro e W1 ⟨rfl,G1⟩;have V:=(((Gr.refl w).alloc _).trans G1).alloc (.cells #[] 36);obtain⟨pr,cr,Wa,D,SR,GA⟩:=HA.out _ W1.heap.size V;have W:=V.trans GA)
  | (go_at_call 12;refine(HM.out _ W).mono ?_;rintro e W2 ⟨ps,ns,rfl,SS,G2⟩;have ac:=W.trans G2;have ae:=SR.gr G2))
 have j:Hid (Sl W2 pr m∧Sl W2 ps X∧Gr w W2):=⟨ae,SS,ac⟩;clear D HC HM HA SR GA W SS G2 ac ae G1 V
 go_loopw [6,7,8,9] (fun ra sa ta ua wr=>∃(r s t u n1 n2 n3 n4:Nat) (p1 p2 p3 p4:Option Addr),ra=.slice p1 (dl r) n1∧sa=.slice p2 (dl s) n2∧ta=.slice p3 (dl t) n3∧ua=.slice p4 (dl u) n4∧Hid (RI a m r s t u)∧Hid (Sl wr p1 r∧Sl wr p2 s∧Sl wr p3 t∧Sl wr p4 u∧Gr w wr)) (fun _ sa _ _ wr=>mS wr sa)
 case atStart=>
  refine⟨m,X,0,1,cr,ns,0,1,pr,ps,none,some ⟨W2.heap.size,0,none⟩,by rw[(HK.out ()).1],rfl,rfl,rfl,HS,⟨j.out.1.gr ((Gr.refl _).alloc _),j.out.2.1.gr ((Gr.refl _).alloc _),Sl.zero _ _,sl_new W2,j.out.2.2.alloc _⟩⟩
 case round=>
  obtain⟨r,s,t,u,n1,n2,n3,n4,p1,p2,p3,p4,rfl,rfl,rfl,rfl,HI,d⟩:=hrel;clear HS j
  by_cases hs:s=0
  ·subst hs;obtain⟨l1,l2,l3⟩:=HI.out.last (HK.out ()).2;have B:=Q.out r HI.out.rm;have Y:=HI.out.tm;rw[dl_zero]
   by_cases hr1:r=1
   ·have Z:Hid _:=fun w' k' p' g h=>H1.out w' r 0 n1 k' p1 p' B g h (by rw[hr1];rfl);have HE:Hid (Nat.gcd m a=1∧a*t%m=1∧t<m):=⟨by rw[←l1];exact hr1,l3 hr1,Y⟩;clear H1 HQ S U Q HK HI hr1 l1 l2 l3 B Y ab
    go_wp2_with (go_at_call 26;refine(Z.out _ _ _ (d.out.1.gr ((Gr.refl _).alloc _)) (sl_new _)).mono ?_;rintro e W3 ⟨rfl,G⟩;have C:=((Gr.refl _).alloc _).trans G)
    go_ret2
    exact⟨fun _=>⟨t,p3,n3,HE.out.2.2,HE.out.2.1,rfl,d.out.2.2.1.gr C⟩,fun h=>absurd HE.out.1 h,d.out.2.2.2.2.trans C⟩
   ·have Z:Hid _:=fun w' k' p' g h=>H1.out w' r 1 n1 k' p1 p' B g h (by unfold cmpZ;split <;> (try split) <;> omega)
    have HE:Hid (¬Nat.gcd m a=1):=by rw[←l1];exact hr1
    clear H1 HQ S U Q HK HI hr1 l1 l2 l3 B Y ab
    go_wp2_with (go_at_call 26;refine(Z.out _ _ _ (d.out.1.gr ((Gr.refl _).alloc _)) (sl_new _)).mono ?_;rintro e W3 ⟨rfl,G⟩;have C:=((Gr.refl _).alloc _).trans G)
    go_ret2
    exact⟨fun h=>absurd h HE.out,fun _=>rfl,d.out.2.2.2.2.trans C⟩
  ·have s0:0<s:=by omega
   have ak:(0:Int)<((dl s:Nat):Int):=by
    have:dl s≠0:=fun e=>hs (dl_eq_zero s e)
    omega
   have ar:=decide_eq_true ak;obtain⟨b,hb⟩:=exl (r/s);obtain⟨v,hv⟩:=exl (r%s);obtain⟨y,hy⟩:=exl (b%m);obtain⟨c,H⟩:=exl (y*u%m);obtain⟨x,hx⟩:=exl (subM t c m);have hi:=HI.out
   have af:0<m:=by have:=(HK.out ()).2;omega
   have HN:=hi.step s0 b v c x hb hv (by rw[hy];exact H) hx
   have au:b≤r:=by rw[←hb];exact Nat.div_le_self _ _
   have i:Hid (b%m=y∧y*u%m=c∧subM t c m=x∧dl b≤400∧y<m∧u<m∧t<m∧c<m∧dl v≤400∧RI a m s v u x∧v<s):=⟨hy,H,hx,Q.out b (by have:=hi.rm;omega),by rw[←hy];exact Nat.mod_lt _ af,hi.um,hi.tm,by rw[←H];exact Nat.mod_lt _ af,Q.out v (by have:=hi.sm;have:=HN.2;omega),HN.1,HN.2⟩
   have HD:Hu (Calls prog 39 #[.slice p1 (dl r) n1,.slice p2 (dl s) n2] wr (Nm2 b v wr)):=fun _=>by
    have h:=rdiv_any r s n1 n2 p1 p2 wr d.out.1 d.out.2.1 (by have:=Q.out r hi.rm;omega) (by have:=Q.out s hi.sm;omega) s0;rw[hb,hv]at h;exact h
   go_wp2_with (first
    | (go_at_call 39;refine(HD.out ()).mono ?_;rintro e W3 ⟨pb,nb,pv,nv,rfl,Sb,Sv,G⟩;have ag:=d.out.2.2.2.2.trans G)
    | (go_at_call 12;refine(HQ.out _ nb pb b y ag Sb i.out.2.2.2.1 i.out.1).mono ?_;rintro e W4 ⟨py,ny,rfl,Sy,G4⟩;have ah:=ag.trans G4)
    | (go_at_call 47;refine(S.out _ ny n4 py p4 y u c ah Sy (d.out.2.2.2.1.gr (G.trans G4)) i.out.2.2.2.2.1 i.out.2.2.2.2.2.1 i.out.2.1).mono ?_;rintro e W5 ⟨pc,nc,rfl,Sc,G5⟩;have ai:=ah.trans G5)
    | (go_at_call 49;refine(U.out _ n3 nc p3 pc t c x ai (d.out.2.2.1.gr ((G.trans G4).trans G5)) Sc i.out.2.2.2.2.2.2.1 i.out.2.2.2.2.2.2.2.1 i.out.2.2.1).mono ?_;rintro e W6 ⟨px,nx,rfl,Sx,G6⟩;have ao:=(ai.trans G6).alloc (.cells #[] 36);have GG:=(((G4.trans G5).trans G6).alloc (.cells #[] 36));obtain⟨ap,cw,Wa,D,SV,GA⟩:=append_digits _ W6.heap.size nv v pv (Sv.gr GG) (Nat.le_trans i.out.2.2.2.2.2.2.2.2.1 (by decide))))
   go_roundw
   case rel=>
    have GT:=(G.trans GG).trans GA;exact⟨s,v,u,x,n2,cw,n4,nx,p2,ap,p4,px,rfl,rfl,rfl,rfl,i.out.2.2.2.2.2.2.2.2.2.1,⟨d.out.2.1.gr GT,SV,d.out.2.2.2.1.gr GT,Sx.gr (((Gr.refl _).alloc _).trans GA),ao.trans GA⟩⟩
   case measure=>
    rw[mS_is SV,mS_is d.out.2.1];exact i.out.2.2.2.2.2.2.2.2.2.2
end
end
section
section
variable {a b m c n n' n'':Nat} {p q r:Option Addr} {w:World}
theorem mm_any(sa:Sl w p a)(sb:Sl w q b)(sm:Sl w r m)(ha:a<m)(hb:b<m)(hm:dl m≤400)(hc:a*b%m=c):
 Calls prog 47 #[.slice p (dl a) n,.slice q (dl b) n',.slice r (dl m) n''] w (Rt (.n c) w):=
 Rt.n (hc▸rmulmod_any a b m n n' n'' p q r w sa sb sm (dl_low a m 400 (by omega) hm) (dl_low b m 400 (by omega) hm) hm (by omega))
theorem am_any(sa:Sl w p a)(sb:Sl w q b)(sm:Sl w r m)(ha:a<m)(hb:b<m)(hm:dl m≤400)(hc:(a+b)%m=c):
 Calls prog 34 #[.slice p (dl a) n,.slice q (dl b) n',.slice r (dl m) n''] w (Rt (.n c) w):=
 Rt.n (hc▸raddmod_any a b m n n' n'' p q r w sa sb sm hm ha hb)
theorem sm_any(sa:Sl w p a)(sb:Sl w q b)(sm:Sl w r m)(ha:a<m)(hb:b<m)(hm:dl m≤400)(hc:subM a b m=c):
 Calls prog 49 #[.slice p (dl a) n,.slice q (dl b) n',.slice r (dl m) n''] w (Rt (.n c) w):=
 Rt.n (hc▸rsubmod_any a b m n n' n'' p q r w sa sb sm hm ha hb)
theorem iv_any(sa:Sl w p a)(sm:Sl w r m)(ha:a<m)(hm:dl m≤400)(h1:1<m)(hc:c<m)(hac:a*c%m=1):
 Calls prog 50 #[.slice p (dl a) n,.slice r (dl m) n'] w (Rt (.nb c true) w):=by
 have i:Nat.gcd m a=1:=by
  have h1:=Nat.gcd_dvd_left m a;have j:=Nat.dvd_trans (Nat.gcd_dvd_right m a) (Nat.dvd_mul_right a c);have f:=(Nat.dvd_mod_iff h1).2 j;rw[hac]at f;exact Nat.dvd_one.1 f
 refine(rinv_any a m n n' p r w sa sm (dl_low a m 400 (by omega) hm) hm h1).mono fun e B h=>?_;obtain⟨t,C,k,q,d,x,A⟩:=h.1 i;obtain rfl:=inv_one a m t c q hc d hac;exact⟨_,x,⟨_,_,rfl,A⟩,h.2.2⟩
theorem cz_any{z:Int}(sa:Sl w p a)(sb:Sl w q b)(ha:dl a≤400)(hb:dl b≤400)(hz:cmpZ a b=z):
 Calls prog 26 #[.slice p (dl a) n,.slice q (dl b) n'] w (Rt (.c (.int .i64 z)) w):=
 Rt.c (hz▸rcmp_any a b n n' p q w sa sb (by omega) (by omega))
theorem sb_any(sa:Sl w p a)(sb:Sl w q b)(ha:dl a≤400)(h:b≤a)(hc:a-b=c):
 Calls prog 14 #[.slice p (dl a) n,.slice q (dl b) n'] w (Rt (.n c) w):=
 Rt.n (hc▸rsub_any a b n n' p q w sa sb (by omega) h)
theorem nt_any(sa:Sl w p a):Calls prog 16 #[.slice p (dl a) n] w (Rt (.c (.agg (nw 9 a))) w):=Rt.c (rnat_any a n p w sa)
theorem fm_any(ha:a<M):Calls prog 13 #[.agg (nw 9 a)] w (Rt (.n a) w):=Rt.n (from_any a ha w)
end
theorem subM_lt{a b m:Nat}(ha:a<m)(hb:b<m):subM a b m<m:=by unfold subM;split <;> omega
end
section
section
variable (p:Option Addr) (x n:Nat) (q:Option Addr) (y m:Nat) (f:Bool)
theorem ptA_size:(ptA p x n q y m f).size=3:=rfl
theorem ptA_one:(ptA p x n q y m f).all (·.oneCell')=true:=by simp[ptA,Value.oneCell']
theorem loadPt_is:LdI 54:=fun _=>rfl
theorem storePt_is:StI 54:=fun _ _=>rfl
theorem loadPt:LdS 54 3:=ldS
theorem storePt:StS 54 3 (ptA p x n q y m f):=stS (ptA_size p x n q y m f) (ptA_one p x n q y m f)
theorem zvPt_is:zeroValue 54=zvS 54:=rfl
theorem zvPt(w:World):(zvS 54).run prog w=.ok (.agg (ptA none 0 0 none 0 0 false)) w:=by kernel_rfl
theorem buildPt_is(p:Array (Nat×Value)):Instr.build 54 p=buildF 54 p:=rfl
theorem buildPt3(w:World):(buildF 54 #[(0,.slice p (dl x) n),(1,.slice q (dl y) m),(2,.bool f)]).run prog w=.ok (.agg (ptA p x n q y m f)) w:=by kernel_rfl
theorem buildPt2(w:World):(buildF 54 #[(0,.slice p (dl x) n),(1,.slice q (dl y) m)]).run prog w=.ok (.agg (ptA p x n q y m false)) w:=by kernel_rfl
theorem buildPtI(w:World):(buildF 54 #[(2,.bool f)]).run prog w=.ok (.agg (ptA none 0 0 none 0 0 f)) w:=by kernel_rfl
theorem rd_pt:RdC 54 (ptA p x n q y m f):=rdC 3 (ptA_size p x n q y m f)
theorem ptA_no(i:Nat)(z:Int):(ptA p x n q y m f)[i]? ≠ some (Value.int .u32 z):=by
 intro h
 match i,h with
 | 0,h=>simp[ptA]at h
 | 1,h=>simp[ptA]at h
 | 2,h=>simp[ptA]at h
 | k+3,h=>simp[ptA]at h
end
abbrev uz9:=And.intro @loadPt_is<|And.intro @storePt_is<|And.intro @zvPt_is<|And.intro @buildPt_is<|And.intro @loadC_is<|And.intro @loadPn_is<|And.intro @loadCu_is<|And.intro @storePn_is<|And.intro @zvPn_is<|And.intro @buildPn_is<|And.intro @storeCu_is<|And.intro @zvCu_is @buildCu_is
abbrev uz10:=And.intro @loadPt<|And.intro @storePt<|And.intro @zvPt<|And.intro @buildPt3<|And.intro @buildPt2<|And.intro @buildPtI<|And.intro @ptA_size<|And.intro @crA_size<|And.intro @loadC<|And.intro @loadPn<|And.intro @loadPX<|And.intro @loadPY<|And.intro @pnt_size<|And.intro @pnt_X<|And.intro @pnt_Y<|And.intro @storePn<|And.intro @zvPn<|And.intro @buildPn2<|And.intro @buildPn3<|And.intro @storeCu<|And.intro @zvCu<|And.intro @buildCu9<|And.intro @cu_size @loadCu
abbrev uz17:=And.intro @bsl_is<|And.intro @loadC_is<|And.intro @storeC_is<|And.intro @loadPt_is<|And.intro @storePt_is<|And.intro @zvPt_is<|And.intro @buildPt_is<|And.intro @loadPn_is<|And.intro @storePn_is<|And.intro @zvPn_is<|And.intro @loadCu_is<|And.intro @storeCu_is<|And.intro @zvCu_is<|And.intro @buildCu_is @buildPn_is
abbrev uz18:=And.intro @loadC<|And.intro @storeC0<|And.intro @storeCr<|And.intro @crA_size<|And.intro @loadPt<|And.intro @storePt<|And.intro @zvPt<|And.intro @ptA_size<|And.intro @loadPn<|And.intro @storePn<|And.intro @zvPn<|And.intro @pnt_size<|And.intro @loadCu<|And.intro @storeCu<|And.intro @zvCu<|And.intro @cu_size<|And.intro @buildCu0<|And.intro @buildPnI<|And.intro @buildPn2<|And.intro @loadCP<|And.intro @loadCA<|And.intro @loadCB<|And.intro @loadCN<|And.intro @loadCG<|And.intro @loadCX<|And.intro @loadCY<|And.intro @cu_P<|And.intro @cu_A<|And.intro @cu_B<|And.intro @cu_N<|And.intro @cu_G<|And.intro @cu_X<|And.intro @cu_Y<|And.intro @frz_setBlk<|And.intro @blk_setBlk<|And.intro @setBlk_setBlk @blk_other
end
section
attribute [local go_sem ↓] uz1
attribute [local go_sem] uz2
section
attribute [local go_sem ↓] uz9 Go.wp_at_zero Go.wp_at_succ
attribute [local go_sem] uz10
theorem dl_nought(x:Nat):((dl x:Int)==0)=decide (x=0):=by
 by_cases h:x=0
 ·subst h;rfl
 grind [dl,dl_eq_zero]
theorem cmpZ_nought(a b:Nat):(cmpZ a b==0)=decide (a=b):=by
 grind [cmpZ]
theorem rin_any(x y:Nat)(f:Bool)(hx:x<M)(hy:y<M)(w:World):
 Calls prog 23 #[.agg (pnt x y f)] w (Rt (.pt x y f) w):=by
 go_enter func23,ntmps23
 go_upto_region 1 with fail
 refine gen_w (fun v=>Gr w v∧Vr v (w.heap.size) (pnt x y f)∧Vr v (w.heap.size+1) (ptA none 0 0 none 0 0 false)) ⟨grA,vrA,vrA⟩ ?_;rintro Q ⟨G,A,D⟩;refine wp_wT 9 [.c (pv (w.heap.size) 0),.N x,.n (x),.c (pv (w.heap.size) 9),.N y,.n (y),.c (pv (w.heap.size) 18),.c (.bool f),.pt (x) (y) f] [1,2,4,5,7,8] ⟨.g 25 0 A rfl,.k _ fun j K q H=>RtW.of_n (fm_any hx),.g 25 9 A rfl,.k _ fun j K q H=>RtW.of_n (fm_any hy),.o 4 18 A rfl (by exact pnt_18 _ _ _),.p (fun j i=>match i with|0=>j 2 0|_=>j 5 0) fun j K q H=>⟨H 2 rfl,H 5 rfl⟩,⟨⟩⟩ (.s 54 (fun j=>pv (w.heap.size+1) 0) (fun j=>.agg (ptA (j 8 0).1 (x) (j 8 0).2 (j 8 1).1 (y) (j 8 1).2 f)) fun d J q L=>?_);have I:=(D.gr q).h;have P:=(D.gr q).f;refine⟨setBlk J (w.heap.size+1) (ptA (d 8 0).1 (x) (d 8 0).2 (d 8 1).1 (y) (d 8 1).2 f),by simp[go_sem,exI,I,P],?_⟩;simp only[fzw];obtain⟨B,C⟩:Sl J (d 8 0).1 (x)∧Sl J (d 8 1).1 (y):=L 8;clear L;replace G:=G.trans q;replace A:=A.gr q;replace D:=D.gr q;clear q
 go_wp2_with fail
 exact bo1 results23 (rd_pt _ _ _ _ _ _ _ (by rfl) (blk_setBlk _ _ _ (by rw[I];decide))) ⟨_,rfl,⟨_,_,_,_,rfl,Sl.set B (by rw[I];exact ptA_no _ _ _ _ _ _ _),Sl.set C (by rw[I];exact ptA_no _ _ _ _ _ _ _)⟩,gr_setNew G (by omega)⟩
theorem rout_any(x y:Nat)(f:Bool)(p q:Option Addr)(n m:Nat)(w:World)(Sx:Sl w p x)(Sy:Sl w q y):
 Cg 30 #[.agg (ptA p x n q y m f)] w (.agg (pnt x y f)):=by
 go_enter func30,ntmps30
 go_upto_region 1 with fail
 refine gen_w (fun v=>Gr w v∧Vr v (w.heap.size) (ptA p x n q y m f)∧Vr v (w.heap.size+1) (pnt 0 0 false)) ⟨grA,vrA,vrA⟩ ?_;rintro K ⟨G,j,A⟩;replace Sx:=Sx.gr G;replace Sy:=Sy.gr G;refine wp_wT 9 [.c (pv (w.heap.size) 0),.c (.slice p (dl (x)) n),.N x,.c (pv (w.heap.size) 1),.c (.slice q (dl (y)) m),.N y,.c (pv (w.heap.size) 2),.c (.bool f),.c (.agg (pnt x y f))] [1,2,4,5,7] ⟨.o 28 0 j rfl rfl,.k (fun i =>#[.slice p (dl (x)) n]) fun i C d D=>RtW.of_c (nt_any (Sx.gr d)),.o 28 1 j rfl rfl,.k (fun i =>#[.slice q (dl (y)) m]) fun i C d D=>RtW.of_c (nt_any (Sy.gr d)),.o 4 2 j rfl rfl,⟨⟩⟩ (.s 38 (fun i=>pv (w.heap.size+1) 0) (fun i=>.agg (pnt x y f)) fun H I d L=>?_);have B:=(A.gr d).h;have J:=(A.gr d).f;refine⟨setBlk I (w.heap.size+1) (pnt x y f),by simp[go_sem,exI,B,J],?_⟩;simp only[fzw];replace G:=G.trans d
 go_wp2_with fail
 exact bo1 results30 (rd_pn (by rfl) (blk_setBlk _ _ _ (by rw[B,pnt_size];decide))) ⟨rfl,gr_setNew G (by omega)⟩
theorem rright_any(id:Int)(P A B N X Y:Nat)(qc:Nat→Option Addr×Nat)(a n:Nat)(p:Option Addr)(la:a<P)(lA:A<P)(lB:B<P)(hd:dl P≤400)(w:World)(HQ:∀k,Sl w (qc k).1 (six P A B N X Y k))(Sa:Sl w p a):
 Calls prog 48 #[.agg (crA id (six P A B N X Y) qc),.slice p (dl a) n] w (Nm (((a*a%P+A)%P*a%P+B)%P) w):=by
 have U:0<P:=by omega
 obtain⟨C,D⟩:=exl (a*a%P);have Z:C<P:=D▸Nat.mod_lt _ U;obtain⟨V,H⟩:=exl ((C+A)%P);have aa:V<P:=H▸Nat.mod_lt _ U;obtain⟨I,J⟩:=exl (V*a%P);have ab:I<P:=J▸Nat.mod_lt _ U;obtain⟨Q,K⟩:=exl ((I+B)%P);have ac:Q<P:=K▸Nat.mod_lt _ U;rw[show ((a*a%P+A)%P*a%P+B)%P=Q by rw[D,H,J,K]]
 go_enter func48,ntmps48
 go_upto_region 1 with fail
 refine gen_w (fun v=>Gr w v∧Vr v (w.heap.size) (crA id (six P A B N X Y) qc)) ⟨grA,vrA⟩ ?_;rintro v0 ⟨G,i⟩;replace HQ:=fun k=>(HQ k).gr G;replace Sa:=Sa.gr G;refine wp_wS [.c (.slice p (dl (a)) n),.c (.slice p (dl (a)) n),.c (pv (w.heap.size) 1),.c (.slice (qc 0).1 (dl (P)) (qc 0).2),.n (C),.n (C)] [3,4,5] ⟨.o 28 1 i rfl rfl,.k (fun x =>#[.slice p (dl (a)) n,.slice p (dl (a)) n,.slice (qc 0).1 (dl (P)) (qc 0).2]) fun x vv d W=>RtW.of_n (mm_any (Sa.gr d) (Sa.gr d) ((HQ 0).gr d) la la hd D),.m 4,⟨⟩⟩ fun j v1 d h1=>?_;simp only[fzw];have f:Sl v1 (j 5 0).1 (C):=h1 5;clear h1;replace G:=G.trans d;replace i:=i.gr d;replace HQ:=fun k=>(HQ k).gr d;replace Sa:=Sa.gr d;clear d
 go_upto_region 2 with fail
 refine wp_w [.c (.slice (j 5 0).1 (dl (C)) (j 5 0).2),.c (pv (w.heap.size) 2),.c (.slice (qc 1).1 (dl (A)) (qc 1).2),.c (pv (w.heap.size) 1),.c (.slice (qc 0).1 (dl (P)) (qc 0).2),.n (V),.c (.slice p (dl (a)) n),.c (pv (w.heap.size) 1),.c (.slice (qc 0).1 (dl (P)) (qc 0).2),.n (I),.n (I)] [2,4,5,8,9,10] ⟨.o 28 2 i rfl rfl,.o 28 1 i rfl rfl,.k (fun x =>#[.slice (j 5 0).1 (dl (C)) (j 5 0).2,.slice (qc 1).1 (dl (A)) (qc 1).2,.slice (qc 0).1 (dl (P)) (qc 0).2]) fun x vv d W=>RtW.of_n (am_any (f.gr d) ((HQ 1).gr d) ((HQ 0).gr d) Z lA hd H),.o 28 1 i rfl rfl,.k (fun x =>#[.slice (x 5 0).1 (dl (V)) (x 5 0).2,.slice p (dl (a)) n,.slice (qc 0).1 (dl (P)) (qc 0).2]) fun x vv d W=>RtW.of_n (mm_any (W 5 rfl) (Sa.gr d) ((HQ 0).gr d) aa la hd J),.m 9,⟨⟩⟩ fun q v2 d h2=>?_;simp only[fzw];have h:Sl v2 (q 10 0).1 (I):=h2 10;clear h2;replace G:=G.trans d;replace i:=i.gr d;replace HQ:=fun k=>(HQ k).gr d;replace Sa:=Sa.gr d;replace f:=f.gr d;clear d
 go_upto_region 3 with fail
 refine wp_wS [.c (.slice (q 10 0).1 (dl (I)) (q 10 0).2),.c (pv (w.heap.size) 3),.c (.slice (qc 2).1 (dl (B)) (qc 2).2),.c (pv (w.heap.size) 1),.c (.slice (qc 0).1 (dl (P)) (qc 0).2),.n (Q),.n (Q)] [2,4,5,6] ⟨.o 28 3 i rfl rfl,.o 28 1 i rfl rfl,.k (fun x =>#[.slice (q 10 0).1 (dl (I)) (q 10 0).2,.slice (qc 2).1 (dl (B)) (qc 2).2,.slice (qc 0).1 (dl (P)) (qc 0).2]) fun x vv d W=>RtW.of_n (am_any (h.gr d) ((HQ 2).gr d) ((HQ 0).gr d) ab lB hd K),.m 5,⟨⟩⟩ fun L v3 d h3=>?_;simp only[fzw];have S:Sl v3 (L 6 0).1 (Q):=h3 6;clear h3;replace G:=G.trans d;replace i:=i.gr d;replace HQ:=fun k=>(HQ k).gr d;replace Sa:=Sa.gr d;replace f:=f.gr d;replace h:=h.gr d;clear d
 go_wp2_with fail
 go_ret
 exact⟨(L 6 0).1,(L 6 0).2,rfl,S,G⟩
end
section
attribute [local go_sem ↓] uz9 Go.wp_at_zero Go.wp_at_succ
attribute [local go_sem] uz10
theorem rplus_inf1(id:Int)(P A B N X Y:Nat)(qc:Nat→Option Addr×Nat)(x1 y1 x2 y2:Nat)(f:Bool)(p1 q1:Option Addr)(n1 m1:Nat)(p2 q2:Option Addr)(n2 m2:Nat)(w:World)(HQ:∀k,Sl w (qc k).1 (six P A B N X Y k))(Sx1:Sl w p1 x1)(Sy1:Sl w q1 y1)(Sx2:Sl w p2 x2)(Sy2:Sl w q2 y2):
 Calls prog 27 #[.agg (crA id (six P A B N X Y) qc),.agg (ptA p1 (x1) n1 q1 (y1) m1 true),.agg (ptA p2 (x2) n2 q2 (y2) m2 f)] w (Rt (.pt x2 y2 f) w):=by
 go_enter func27,ntmps27
 go_upto_region 1 with fail
 refine gen_w (fun v=>Gr w v∧Vr v (w.heap.size) (crA id (six P A B N X Y) qc)∧Vr v (w.heap.size+1) (ptA p1 (x1) n1 q1 (y1) m1 true)∧Vr v (w.heap.size+1+1) (ptA p2 (x2) n2 q2 (y2) m2 f)∧Vr v (w.heap.size+1+1+1) (ptA none 0 0 none 0 0 false)) ⟨grA,vrA,vrA,vrA,vrA⟩ ?_;rintro S ⟨G,U,x,C,q⟩;replace HQ:=fun k=>(HQ k).gr G;replace Sx1:=Sx1.gr G;replace Sy1:=Sy1.gr G;replace Sx2:=Sx2.gr G;replace Sy2:=Sy2.gr G;refine wp_wS [.c (pv (w.heap.size+1) 2),.T] [1] ⟨.o 4 2 x rfl rfl,⟨⟩⟩ fun D V i H=>?_;simp only[fzw];clear H;have d:=i;clear i
 go_upto_region 2 with fail
 refine wp_wTS 1 [.c (.agg (ptA p2 (x2) n2 q2 (y2) m2 f))] [0] ⟨.g 54 0 (C.gr d) rfl,⟨⟩⟩ (.s 54 (fun I=>pv (w.heap.size+1+1+1) 0) (fun I=>.agg (ptA p2 (x2) n2 q2 (y2) m2 f)) fun J K i L=>?_);have j:=((q.gr d).gr i).h;have Q:=((q.gr d).gr i).f;refine⟨setBlk K (w.heap.size+1+1+1) (ptA p2 (x2) n2 q2 (y2) m2 f),by simp[go_sem,exI,j,Q],?_⟩;simp only[fzw];clear L;replace d:=d.trans i;replace G:=G.trans d;replace Sx2:=Sx2.gr d;replace Sy2:=Sy2.gr d
 go_wp2_with fail
 exact bo1 results27 (rd_pt _ _ _ _ _ _ _ (by rfl) (blk_setBlk _ _ _ (by rw[j];decide))) ⟨_,rfl,⟨_,_,_,_,rfl,Sl.set Sx2 (by rw[j];exact ptA_no _ _ _ _ _ _ _),Sl.set Sy2 (by rw[j];exact ptA_no _ _ _ _ _ _ _)⟩,gr_setNew G (by omega)⟩
theorem rplus_inf2(id:Int)(P A B N X Y:Nat)(qc:Nat→Option Addr×Nat)(x1 y1 x2 y2:Nat)(p1 q1:Option Addr)(n1 m1:Nat)(p2 q2:Option Addr)(n2 m2:Nat)(w:World)(HQ:∀k,Sl w (qc k).1 (six P A B N X Y k))(Sx1:Sl w p1 x1)(Sy1:Sl w q1 y1)(Sx2:Sl w p2 x2)(Sy2:Sl w q2 y2):
 Calls prog 27 #[.agg (crA id (six P A B N X Y) qc),.agg (ptA p1 (x1) n1 q1 (y1) m1 false),.agg (ptA p2 (x2) n2 q2 (y2) m2 true)] w (Rt (.pt x1 y1 false) w):=by
 go_enter func27,ntmps27
 go_upto_region 1 with fail
 refine gen_w (fun v=>Gr w v∧Vr v (w.heap.size) (crA id (six P A B N X Y) qc)∧Vr v (w.heap.size+1) (ptA p1 (x1) n1 q1 (y1) m1 false)∧Vr v (w.heap.size+1+1) (ptA p2 (x2) n2 q2 (y2) m2 true)∧Vr v (w.heap.size+1+1+1) (ptA none 0 0 none 0 0 false)) ⟨grA,vrA,vrA,vrA,vrA⟩ ?_;rintro W ⟨G,q,x,D,C⟩;replace HQ:=fun k=>(HQ k).gr G;replace Sx1:=Sx1.gr G;replace Sy1:=Sy1.gr G;replace Sx2:=Sx2.gr G;replace Sy2:=Sy2.gr G;refine wp_wS [.c (pv (w.heap.size+1) 2),.F] [1] ⟨.o 4 2 x rfl rfl,⟨⟩⟩ fun H Z i I=>?_;simp only[fzw];clear I;have d:=i;clear i
 go_upto_region 3 with fail
 refine wp_wS [.c (pv (w.heap.size+1+1) 2),.T] [1] ⟨.o 4 2 (D.gr d) rfl rfl,⟨⟩⟩ fun J v2 i K=>?_;simp only[fzw];clear K;replace d:=d.trans i;clear i
 go_upto_region 4 with fail
 refine wp_wTS 1 [.c (.agg (ptA p1 (x1) n1 q1 (y1) m1 false))] [0] ⟨.g 54 0 (x.gr d) rfl,⟨⟩⟩ (.s 54 (fun L=>pv (w.heap.size+1+1+1) 0) (fun L=>.agg (ptA p1 (x1) n1 q1 (y1) m1 false)) fun Q S i U=>?_);have j:=((C.gr d).gr i).h;have V:=((C.gr d).gr i).f;refine⟨setBlk S (w.heap.size+1+1+1) (ptA p1 (x1) n1 q1 (y1) m1 false),by simp[go_sem,exI,j,V],?_⟩;simp only[fzw];clear U;replace d:=d.trans i;clear i;replace G:=G.trans d;replace q:=q.gr d;replace Sx1:=Sx1.gr d;replace Sy1:=Sy1.gr d
 go_wp2_with fail
 exact bo1 results27 (rd_pt _ _ _ _ _ _ _ (by rfl) (blk_setBlk _ _ _ (by rw[j];decide))) ⟨_,rfl,⟨_,_,_,_,rfl,Sl.set Sx1 (by rw[j];exact ptA_no _ _ _ _ _ _ _),Sl.set Sy1 (by rw[j];exact ptA_no _ _ _ _ _ _ _)⟩,gr_setNew G (by omega)⟩
theorem rplus_op(id:Int)(P A B N X Y:Nat)(qc:Nat→Option Addr×Nat)(x y1 y2:Nat)(hd:dl P≤400)(lx:x<P)(ly1:y1<P)(ly2:y2<P)(hy:y1≠y2)(p1 q1:Option Addr)(n1 m1:Nat)(p2 q2:Option Addr)(n2 m2:Nat)(w:World)(HQ:∀k,Sl w (qc k).1 (six P A B N X Y k))(Sx1:Sl w p1 x)(Sy1:Sl w q1 y1)(Sx2:Sl w p2 x)(Sy2:Sl w q2 y2):
 Calls prog 27 #[.agg (crA id (six P A B N X Y) qc),.agg (ptA p1 (x) n1 q1 (y1) m1 false),.agg (ptA p2 (x) n2 q2 (y2) m2 false)] w (Rt (.pt 0 0 true) w):=by
 obtain⟨J,S⟩:=exl (cmpZ y1 y2)
 have W:(J != 0)=true:=by rw[bne,←S,cmpZ_nought,decide_eq_false hy];rfl
 go_enter func27,ntmps27
 go_upto_region 1 with fail
 refine gen_w (fun v=>Gr w v∧Vr v (w.heap.size) (crA id (six P A B N X Y) qc)∧Vr v (w.heap.size+1) (ptA p1 (x) n1 q1 (y1) m1 false)∧Vr v (w.heap.size+1+1) (ptA p2 (x) n2 q2 (y2) m2 false)∧Vr v (w.heap.size+1+1+1) (ptA none 0 0 none 0 0 false)) ⟨grA,vrA,vrA,vrA,vrA⟩ ?_;rintro v0 ⟨G,c1,K,L,U⟩;replace HQ:=fun k=>(HQ k).gr G;replace Sx1:=Sx1.gr G;replace Sy1:=Sy1.gr G;replace Sx2:=Sx2.gr G;replace Sy2:=Sy2.gr G;refine wp_wS [.c (pv (w.heap.size+1) 2),.F] [1] ⟨.o 4 2 K rfl rfl,⟨⟩⟩ fun Z v1 d h1=>?_;simp only[fzw];clear h1;have j:=d;clear d
 go_upto_region 3 with fail
 refine wp_wS [.c (pv (w.heap.size+1+1) 2),.F] [1] ⟨.o 4 2 (L.gr j) rfl rfl,⟨⟩⟩ fun aa v2 d h3=>?_;simp only[fzw];clear h3;replace j:=j.trans d;clear d
 go_upto_region 5 with fail
 refine wp_wS [.c (.slice none 0 0),.c (.slice none 0 0)] [] ⟨⟩ fun ab v3 d h5=>?_;simp only[fzw];clear h5;replace j:=j.trans d;clear d
 go_upto_region 6 with fail
 refine wp_wS [.c (pv (w.heap.size+1) 0),.c (.slice p1 (dl (x)) n1),.c (pv (w.heap.size+1+1) 0),.c (.slice p2 (dl (x)) n2),.O,.T] [1,3,4] ⟨.o 28 0 (K.gr j) rfl rfl,.o 28 0 (L.gr j) rfl rfl,.k (fun q =>#[.slice p1 (dl (x)) n1,.slice p2 (dl (x)) n2]) fun q Q d V=>RtW.of_c (cz_any (Sx1.gr (j.trans d)) (Sx2.gr (j.trans d)) (dl_low _ P 400 (by omega) hd) (dl_low _ P 400 (by omega) hd) (by unfold cmpZ;simp)),⟨⟩⟩ fun ac v4 d h6=>?_;simp only[fzw];clear h6;replace j:=j.trans d;clear d
 go_upto_region 7 with fail
 refine wp_wS [.c (pv (w.heap.size+1) 1),.c (.slice q1 (dl (y1)) m1),.c (pv (w.heap.size+1+1) 1),.c (.slice q2 (dl (y2)) m2),.c (.int .i64 J),.T,.T,.u,.u,.u,.u,.T] [1,3,4,5] ⟨.o 28 1 (K.gr j) rfl rfl,.o 28 1 (L.gr j) rfl rfl,.k (fun q =>#[.slice q1 (dl (y1)) m1,.slice q2 (dl (y2)) m2]) fun q Q d V=>RtW.of_c (cz_any (Sy1.gr (j.trans d)) (Sy2.gr (j.trans d)) (dl_low _ P 400 (by omega) hd) (dl_low _ P 400 (by omega) hd) S),.s (.binOp .neq 3 (.const (.int .i64 J)) (.const (.int .i64 0)) 3) rfl fun Q d=>by simp[go_sem,exI,W],⟨⟩⟩ fun ae v5 d h7=>?_;simp only[fzw];clear h7;replace j:=j.trans d;clear d
 go_upto_region 8 with fail
 refine wp_wTS 1 [.pt (0) (0) true] [0] ⟨.p (fun q i=>match i with|0=>(none,0)|_=>(none,0)) fun q Q d V=>⟨Sl.zero _ _,Sl.zero _ _⟩,⟨⟩⟩ (.s 54 (fun q=>pv (w.heap.size+1+1+1) 0) (fun q=>.agg (ptA (q 0 0).1 (0) (q 0 0).2 (q 0 1).1 (0) (q 0 1).2 true)) fun C v6 d h8=>?_);have I:=((U.gr j).gr d).h;have FT:=((U.gr j).gr d).f;refine⟨setBlk v6 (w.heap.size+1+1+1) (ptA (C 0 0).1 (0) (C 0 0).2 (C 0 1).1 (0) (C 0 1).2 true),by simp[go_sem,exI,I,FT],?_⟩;simp only[fzw];obtain⟨D,H⟩:=h8 0;replace j:=j.trans d;replace G:=G.trans j
 go_wp2_with fail
 exact bo1 results27 (rd_pt _ _ _ _ _ _ _ (by rfl) (blk_setBlk _ _ _ (by rw[I];decide))) ⟨_,rfl,⟨_,_,_,_,rfl,Sl.set D (by rw[I];exact ptA_no _ _ _ _ _ _ _),Sl.set H (by rw[I];exact ptA_no _ _ _ _ _ _ _)⟩,gr_setNew G (by omega)⟩
theorem rplus_flat(id:Int)(P A B N X Y:Nat)(qc:Nat→Option Addr×Nat)(x:Nat)(hd:dl P≤400)(lx:x<P)(p1 q1:Option Addr)(n1 m1:Nat)(p2 q2:Option Addr)(n2 m2:Nat)(w:World)(HQ:∀k,Sl w (qc k).1 (six P A B N X Y k))(Sx1:Sl w p1 x)(Sy1:Sl w q1 0)(Sx2:Sl w p2 x)(Sy2:Sl w q2 0):
 Calls prog 27 #[.agg (crA id (six P A B N X Y) qc),.agg (ptA p1 (x) n1 q1 (0) m1 false),.agg (ptA p2 (x) n2 q2 (0) m2 false)] w (Rt (.pt 0 0 true) w):=by
 go_enter func27,ntmps27
 go_upto_region 1 with fail
 refine gen_w (fun v=>Gr w v∧Vr v (w.heap.size) (crA id (six P A B N X Y) qc)∧Vr v (w.heap.size+1) (ptA p1 (x) n1 q1 (0) m1 false)∧Vr v (w.heap.size+1+1) (ptA p2 (x) n2 q2 (0) m2 false)∧Vr v (w.heap.size+1+1+1) (ptA none 0 0 none 0 0 false)) ⟨grA,vrA,vrA,vrA,vrA⟩ ?_;rintro v0 ⟨G,c1,I,K,Q⟩;replace HQ:=fun k=>(HQ k).gr G;replace Sx1:=Sx1.gr G;replace Sy1:=Sy1.gr G;replace Sx2:=Sx2.gr G;replace Sy2:=Sy2.gr G;refine wp_wS [.c (pv (w.heap.size+1) 2),.F] [1] ⟨.o 4 2 I rfl rfl,⟨⟩⟩ fun U v1 d V=>?_;simp only[fzw];clear V;have j:=d;clear d
 go_upto_region 3 with fail
 refine wp_wS [.c (pv (w.heap.size+1+1) 2),.F] [1] ⟨.o 4 2 (K.gr j) rfl rfl,⟨⟩⟩ fun W v2 d Z=>?_;simp only[fzw];clear Z;replace j:=j.trans d;clear d
 go_upto_region 5 with fail
 refine wp_wS [.c (.slice none 0 0),.c (.slice none 0 0)] [] ⟨⟩ fun aa v3 d h5=>?_;simp only[fzw];clear h5;replace j:=j.trans d;clear d
 go_upto_region 6 with fail
 refine wp_wS [.c (pv (w.heap.size+1) 0),.c (.slice p1 (dl (x)) n1),.c (pv (w.heap.size+1+1) 0),.c (.slice p2 (dl (x)) n2),.O,.T] [1,3,4] ⟨.o 28 0 (I.gr j) rfl rfl,.o 28 0 (K.gr j) rfl rfl,.k (fun q =>#[.slice p1 (dl (x)) n1,.slice p2 (dl (x)) n2]) fun q L d S=>RtW.of_c (cz_any (Sx1.gr (j.trans d)) (Sx2.gr (j.trans d)) (dl_low _ P 400 (by omega) hd) (dl_low _ P 400 (by omega) hd) (by unfold cmpZ;simp)),⟨⟩⟩ fun ab v4 d h6=>?_;simp only[fzw];clear h6;replace j:=j.trans d;clear d
 go_upto_region 7 with fail
 refine wp_wS [.c (pv (w.heap.size+1) 1),.c (.slice q1 (dl (0)) m1),.c (pv (w.heap.size+1+1) 1),.c (.slice q2 (dl (0)) m2),.O,.F,.F,.c (pv (w.heap.size+1) 1),.c (.slice q1 (dl (0)) m1),.c (.int .i64 (dl (0))),.T,.T] [1,3,4,8,10] ⟨.o 28 1 (I.gr j) rfl rfl,.o 28 1 (K.gr j) rfl rfl,.k (fun q =>#[.slice q1 (dl (0)) m1,.slice q2 (dl (0)) m2]) fun q L d S=>RtW.of_c (cz_any (Sy1.gr (j.trans d)) (Sy2.gr (j.trans d)) (dl_low _ P 400 (by omega) hd) (dl_low _ P 400 (by omega) hd) (by unfold cmpZ;simp)),.o 28 1 (I.gr j) rfl rfl,.s (.binOp .eql 3 (.const (.int .i64 (dl (0)))) (.const (.int .i64 0)) 3) rfl fun L d=>by simp[go_sem,exI,dl_zero],⟨⟩⟩ fun ac v5 d h7=>?_;simp only[fzw];clear h7;replace j:=j.trans d;clear d
 go_upto_region 8 with fail
 refine wp_wTS 1 [.pt (0) (0) true] [0] ⟨.p (fun q i=>match i with|0=>(none,0)|_=>(none,0)) fun q L d S=>⟨Sl.zero _ _,Sl.zero _ _⟩,⟨⟩⟩ (.s 54 (fun q=>pv (w.heap.size+1+1+1) 0) (fun q=>.agg (ptA (q 0 0).1 (0) (q 0 0).2 (q 0 1).1 (0) (q 0 1).2 true)) fun C v6 d h8=>?_);have J:=((Q.gr j).gr d).h;have FT:=((Q.gr j).gr d).f;refine⟨setBlk v6 (w.heap.size+1+1+1) (ptA (C 0 0).1 (0) (C 0 0).2 (C 0 1).1 (0) (C 0 1).2 true),by simp[go_sem,exI,J,FT],?_⟩;simp only[fzw];obtain⟨D,H⟩:=h8 0;replace j:=j.trans d;replace G:=G.trans j
 go_wp2_with fail
 exact bo1 results27 (rd_pt _ _ _ _ _ _ _ (by rfl) (blk_setBlk _ _ _ (by rw[J];decide))) ⟨_,rfl,⟨_,_,_,_,rfl,Sl.set D (by rw[J];exact ptA_no _ _ _ _ _ _ _),Sl.set H (by rw[J];exact ptA_no _ _ _ _ _ _ _)⟩,gr_setNew G (by omega)⟩
end
section
attribute [local go_sem ↓] uz9 Go.wp_at_zero Go.wp_at_succ
attribute [local go_sem] uz10
theorem rplus_dbl(id:Int)(P A B N X Y:Nat)(qc:Nat→Option Addr×Nat)(x y:Nat)(hd:dl P≤400)(lx:x<P)(ly:y<P)(lA:A<P)(h0:y≠0)(h1P:1<P)(p1 q1:Option Addr)(n1 m1:Nat)(p2 q2:Option Addr)(n2 m2:Nat)(iv:Nat)(t1:Nat)(ht1:x*x%P=t1)(t2:Nat)(ht2:(t1+t1)%P=t2)(t3:Nat)(ht3:(t1+t2)%P=t3)(t4:Nat)(ht4:(t3+A)%P=t4)(t5:Nat)(ht5:(y+y)%P=t5)(t6:Nat)(ht6:t4*iv%P=t6)(t7:Nat)(ht7:t6*t6%P=t7)(t8:Nat)(ht8:subM t7 x P=t8)(t9:Nat)(ht9:subM t8 x P=t9)(t10:Nat)(ht10:subM x t9 P=t10)(t11:Nat)(ht11:t6*t10%P=t11)(t12:Nat)(ht12:subM t11 y P=t12)(liv:iv<P)(hiv:t5*iv%P=1)(w:World)(HQ:∀k,Sl w (qc k).1 (six P A B N X Y k))(Sx1:Sl w p1 x)(Sy1:Sl w q1 y)(Sx2:Sl w p2 x)(Sy2:Sl w q2 y):
 Calls prog 27 #[.agg (crA id (six P A B N X Y) qc),.agg (ptA p1 (x) n1 q1 (y) m1 false),.agg (ptA p2 (x) n2 q2 (y) m2 false)] w (Rt (.pt t9 t12 false) w):=by
 have hP:0<P:=by omega
 have zy:((dl y:Int)==0)=false:=by rw[dl_nought,decide_eq_false h0]
 have aj:=ht1▸Nat.mod_lt _ hP;have aH:=ht2▸Nat.mod_lt _ hP;have aI:=ht3▸Nat.mod_lt _ hP;have aJ:=ht4▸Nat.mod_lt _ hP;have aK:=ht5▸Nat.mod_lt _ hP;have ak:=ht6▸Nat.mod_lt _ hP;have av:=ht7▸Nat.mod_lt _ hP;have aw:=ht8▸subM_lt av lx;have ax:=ht9▸subM_lt aw lx;have ay:=ht10▸subM_lt lx ax;have ai:=ht11▸Nat.mod_lt _ hP;have aO:=ht12▸subM_lt ai ly
 go_enter func27,ntmps27
 go_upto_region 1 with fail
 refine gen_w (fun v=>Gr w v∧Vr v (w.heap.size) (crA id (six P A B N X Y) qc)∧Vr v (w.heap.size+1) (ptA p1 (x) n1 q1 (y) m1 false)∧Vr v (w.heap.size+1+1) (ptA p2 (x) n2 q2 (y) m2 false)∧Vr v (w.heap.size+1+1+1) (ptA none 0 0 none 0 0 false)) ⟨grA,vrA,vrA,vrA,vrA⟩ ?_;rintro v0 ⟨G,S,c2,c3,c4⟩;replace HQ:=fun k=>(HQ k).gr G;replace Sx1:=Sx1.gr G;replace Sy1:=Sy1.gr G;replace Sx2:=Sx2.gr G;replace Sy2:=Sy2.gr G;refine wp_wS [.c (pv (w.heap.size+1) 2),.F] [1] ⟨.o 4 2 c2 rfl rfl,⟨⟩⟩ fun aP v1 d h1=>?_;simp only[fzw];clear h1;have j:=d;clear d
 go_upto_region 3 with fail
 refine wp_wS [.c (pv (w.heap.size+1+1) 2),.F] [1] ⟨.o 4 2 (c3.gr j) rfl rfl,⟨⟩⟩ fun aQ v2 d h3=>?_;simp only[fzw];clear h3;replace j:=j.trans d;clear d
 go_upto_region 5 with fail
 refine wp_wS [.c (.slice none 0 0),.c (.slice none 0 0)] [] ⟨⟩ fun aR v3 d h5=>?_;simp only[fzw];clear h5;replace j:=j.trans d;clear d
 go_upto_region 6 with fail
 refine wp_wS [.c (pv (w.heap.size+1) 0),.c (.slice p1 (dl (x)) n1),.c (pv (w.heap.size+1+1) 0),.c (.slice p2 (dl (x)) n2),.O,.T] [1,3,4] ⟨.o 28 0 (c2.gr j) rfl rfl,.o 28 0 (c3.gr j) rfl rfl,.k (fun q =>#[.slice p1 (dl (x)) n1,.slice p2 (dl (x)) n2]) fun q L d I=>RtW.of_c (cz_any (Sx1.gr (j.trans d)) (Sx2.gr (j.trans d)) (dl_low _ P 400 (by omega) hd) (dl_low _ P 400 (by omega) hd) (by unfold cmpZ;simp)),⟨⟩⟩ fun aS v4 d h6=>?_;simp only[fzw];clear h6;replace j:=j.trans d;clear d
 go_upto_region 7 with fail
 refine wp_wS [.c (pv (w.heap.size+1) 1),.c (.slice q1 (dl (y)) m1),.c (pv (w.heap.size+1+1) 1),.c (.slice q2 (dl (y)) m2),.O,.F,.F,.c (pv (w.heap.size+1) 1),.c (.slice q1 (dl (y)) m1),.c (.int .i64 (dl (y))),.F,.F] [1,3,4,8,10] ⟨.o 28 1 (c2.gr j) rfl rfl,.o 28 1 (c3.gr j) rfl rfl,.k (fun q =>#[.slice q1 (dl (y)) m1,.slice q2 (dl (y)) m2]) fun q L d I=>RtW.of_c (cz_any (Sy1.gr (j.trans d)) (Sy2.gr (j.trans d)) (dl_low _ P 400 (by omega) hd) (dl_low _ P 400 (by omega) hd) (by unfold cmpZ;simp)),.o 28 1 (c2.gr j) rfl rfl,.s (.binOp .eql 3 (.const (.int .i64 (dl (y)))) (.const (.int .i64 0)) 3) rfl fun L d=>by simp[go_sem,exI,zy],⟨⟩⟩ fun aT v5 d h7=>?_;simp only[fzw];clear h7;replace j:=j.trans d;clear d
 go_upto_region 9 with fail
 refine wp_wS [.c (pv (w.heap.size+1) 0),.c (.slice p1 (dl (x)) n1),.c (pv (w.heap.size+1) 0),.c (.slice p1 (dl (x)) n1),.c (pv (w.heap.size) 1),.c (.slice (qc 0).1 (dl (P)) (qc 0).2),.n (t1),.n (t1)] [1,3,5,6,7] ⟨.o 28 0 (c2.gr j) rfl rfl,.o 28 0 (c2.gr j) rfl rfl,.o 28 1 (S.gr j) rfl rfl,.k (fun q =>#[.slice p1 (dl (x)) n1,.slice p1 (dl (x)) n1,.slice (qc 0).1 (dl (P)) (qc 0).2]) fun q L d I=>RtW.of_n (mm_any (Sx1.gr (j.trans d)) (Sx1.gr (j.trans d)) ((HQ 0).gr (j.trans d)) lx lx hd ht1),.m 6,⟨⟩⟩ fun H v6 d h9=>?_;simp only[fzw];have ae:=h9 7;clear h9;replace j:=j.trans d;clear d
 go_upto_region 10 with fail
 refine wp_w [.c (.slice (H 7 0).1 (dl (t1)) (H 7 0).2),.c (.slice (H 7 0).1 (dl (t1)) (H 7 0).2),.c (.slice (H 7 0).1 (dl (t1)) (H 7 0).2),.c (pv (w.heap.size) 1),.c (.slice (qc 0).1 (dl (P)) (qc 0).2),.n (t2),.c (pv (w.heap.size) 1),.c (.slice (qc 0).1 (dl (P)) (qc 0).2),.n (t3),.c (pv (w.heap.size) 2),.c (.slice (qc 1).1 (dl (A)) (qc 1).2),.c (pv (w.heap.size) 1),.c (.slice (qc 0).1 (dl (P)) (qc 0).2),.n (t4),.n (t4)] [4,5,7,8,10,12,13,14] ⟨.o 28 1 (S.gr j) rfl rfl,.k (fun q =>#[.slice (H 7 0).1 (dl (t1)) (H 7 0).2,.slice (H 7 0).1 (dl (t1)) (H 7 0).2,.slice (qc 0).1 (dl (P)) (qc 0).2]) fun q L d I=>RtW.of_n (am_any (ae.gr d) (ae.gr d) ((HQ 0).gr (j.trans d)) aj aj hd ht2),.o 28 1 (S.gr j) rfl rfl,.k (fun q =>#[.slice (H 7 0).1 (dl (t1)) (H 7 0).2,.slice (q 5 0).1 (dl (t2)) (q 5 0).2,.slice (qc 0).1 (dl (P)) (qc 0).2]) fun q L d I=>RtW.of_n (am_any (ae.gr d) (I 5 rfl) ((HQ 0).gr (j.trans d)) aj aH hd ht3),.o 28 2 (S.gr j) rfl rfl,.o 28 1 (S.gr j) rfl rfl,.k (fun q =>#[.slice (q 8 0).1 (dl (t3)) (q 8 0).2,.slice (qc 1).1 (dl (A)) (qc 1).2,.slice (qc 0).1 (dl (P)) (qc 0).2]) fun q L d I=>RtW.of_n (am_any (I 8 rfl) ((HQ 1).gr (j.trans d)) ((HQ 0).gr (j.trans d)) aI lA hd ht4),.m 13,⟨⟩⟩ fun U v7 d az=>?_;simp only[fzw];have af:=az 14;clear az;replace j:=j.trans d;have J:=d;clear d
 go_upto_region 11 with fail
 refine wp_wS [.c (pv (w.heap.size+1) 1),.c (.slice q1 (dl (y)) m1),.c (pv (w.heap.size+1) 1),.c (.slice q1 (dl (y)) m1),.c (pv (w.heap.size) 1),.c (.slice (qc 0).1 (dl (P)) (qc 0).2),.n (t5),.n (t5)] [1,3,5,6,7] ⟨.o 28 1 (c2.gr j) rfl rfl,.o 28 1 (c2.gr j) rfl rfl,.o 28 1 (S.gr j) rfl rfl,.k (fun q =>#[.slice q1 (dl (y)) m1,.slice q1 (dl (y)) m1,.slice (qc 0).1 (dl (P)) (qc 0).2]) fun q L d I=>RtW.of_n (am_any (Sy1.gr (j.trans d)) (Sy1.gr (j.trans d)) ((HQ 0).gr (j.trans d)) ly ly hd ht5),.m 6,⟨⟩⟩ fun V v8 d aA=>?_;simp only[fzw];have ao:=aA 7;clear aA;replace j:=j.trans d;replace J:=J.trans d;have K:=d;clear d
 go_upto_region 14 with fail
 refine wp_wS [.c (.slice (V 7 0).1 (dl (t5)) (V 7 0).2),.c (pv (w.heap.size) 1),.c (.slice (qc 0).1 (dl (P)) (qc 0).2),.nb (iv) true,.nb (iv) true,.n (iv),.T,.n (iv),.T] [2,3,4,5,6,7] ⟨.o 28 1 (S.gr j) rfl rfl,.k (fun q =>#[.slice (V 7 0).1 (dl (t5)) (V 7 0).2,.slice (qc 0).1 (dl (P)) (qc 0).2]) fun q L d I=>RtW.of_nb (iv_any (ao.gr d) ((HQ 0).gr (j.trans d)) aK hd h1P liv hiv),.m 3,.m 4,.m 4,.m 5,⟨⟩⟩ fun W v9 d aB=>?_;simp only[fzw];have ap:=aB 7;clear aB;replace j:=j.trans d;replace J:=J.trans d;replace K:=K.trans d;have ac:=d;clear d
 go_upto_region 15 with fail
 refine wp_wS [.c (.slice (U 14 0).1 (dl (t4)) (U 14 0).2),.c (.slice (W 7 0).1 (dl (iv)) (W 7 0).2),.c (pv (w.heap.size) 1),.c (.slice (qc 0).1 (dl (P)) (qc 0).2),.n (t6),.n (t6)] [3,4,5] ⟨.o 28 1 (S.gr j) rfl rfl,.k (fun q =>#[.slice (U 14 0).1 (dl (t4)) (U 14 0).2,.slice (W 7 0).1 (dl (iv)) (W 7 0).2,.slice (qc 0).1 (dl (P)) (qc 0).2]) fun q L d I=>RtW.of_n (mm_any (af.gr (K.trans d)) (ap.gr d) ((HQ 0).gr (j.trans d)) aJ liv hd ht6),.m 4,⟨⟩⟩ fun C aU d aC=>?_;simp only[fzw];have Q:=aC 5;clear aC;replace j:=j.trans d;replace J:=J.trans d;replace K:=K.trans d;replace ac:=ac.trans d;have ag:=d;clear d
 go_upto_region 16 with fail
 refine wp_w [.c (.slice (C 5 0).1 (dl (t6)) (C 5 0).2),.c (.slice (C 5 0).1 (dl (t6)) (C 5 0).2),.c (pv (w.heap.size) 1),.c (.slice (qc 0).1 (dl (P)) (qc 0).2),.n (t7),.c (pv (w.heap.size+1) 0),.c (.slice p1 (dl (x)) n1),.c (pv (w.heap.size) 1),.c (.slice (qc 0).1 (dl (P)) (qc 0).2),.n (t8),.c (pv (w.heap.size+1+1) 0),.c (.slice p2 (dl (x)) n2),.c (pv (w.heap.size) 1),.c (.slice (qc 0).1 (dl (P)) (qc 0).2),.n (t9),.n (t9)] [3,4,6,8,9,11,13,14,15] ⟨.o 28 1 (S.gr j) rfl rfl,.k (fun q =>#[.slice (C 5 0).1 (dl (t6)) (C 5 0).2,.slice (C 5 0).1 (dl (t6)) (C 5 0).2,.slice (qc 0).1 (dl (P)) (qc 0).2]) fun q L d I=>RtW.of_n (mm_any (Q.gr d) (Q.gr d) ((HQ 0).gr (j.trans d)) ak ak hd ht7),.o 28 0 (c2.gr j) rfl rfl,.o 28 1 (S.gr j) rfl rfl,.k (fun q =>#[.slice (q 4 0).1 (dl (t7)) (q 4 0).2,.slice p1 (dl (x)) n1,.slice (qc 0).1 (dl (P)) (qc 0).2]) fun q L d I=>RtW.of_n (sm_any (I 4 rfl) (Sx1.gr (j.trans d)) ((HQ 0).gr (j.trans d)) av lx hd ht8),.o 28 0 (c3.gr j) rfl rfl,.o 28 1 (S.gr j) rfl rfl,.k (fun q =>#[.slice (q 9 0).1 (dl (t8)) (q 9 0).2,.slice p2 (dl (x)) n2,.slice (qc 0).1 (dl (P)) (qc 0).2]) fun q L d I=>RtW.of_n (sm_any (I 9 rfl) (Sx2.gr (j.trans d)) ((HQ 0).gr (j.trans d)) aw lx hd ht9),.m 14,⟨⟩⟩ fun D aV d aD=>?_;simp only[fzw];have Z:=aD 15;clear aD;replace j:=j.trans d;replace J:=J.trans d;replace K:=K.trans d;replace ac:=ac.trans d;replace ag:=ag.trans d;have aq:=d;clear d
 go_upto_region 17 with fail
 refine wp_w [.c (.slice (C 5 0).1 (dl (t6)) (C 5 0).2),.c (pv (w.heap.size+1) 0),.c (.slice p1 (dl (x)) n1),.c (.slice (D 15 0).1 (dl (t9)) (D 15 0).2),.c (pv (w.heap.size) 1),.c (.slice (qc 0).1 (dl (P)) (qc 0).2),.n (t10),.c (pv (w.heap.size) 1),.c (.slice (qc 0).1 (dl (P)) (qc 0).2),.n (t11),.c (pv (w.heap.size+1) 1),.c (.slice q1 (dl (y)) m1),.c (pv (w.heap.size) 1),.c (.slice (qc 0).1 (dl (P)) (qc 0).2),.n (t12),.n (t12)] [2,5,6,8,9,11,13,14,15] ⟨.o 28 0 (c2.gr j) rfl rfl,.o 28 1 (S.gr j) rfl rfl,.k (fun q =>#[.slice p1 (dl (x)) n1,.slice (D 15 0).1 (dl (t9)) (D 15 0).2,.slice (qc 0).1 (dl (P)) (qc 0).2]) fun q L d I=>RtW.of_n (sm_any (Sx1.gr (j.trans d)) (Z.gr d) ((HQ 0).gr (j.trans d)) lx ax hd ht10),.o 28 1 (S.gr j) rfl rfl,.k (fun q =>#[.slice (C 5 0).1 (dl (t6)) (C 5 0).2,.slice (q 6 0).1 (dl (t10)) (q 6 0).2,.slice (qc 0).1 (dl (P)) (qc 0).2]) fun q L d I=>RtW.of_n (mm_any (Q.gr (aq.trans d)) (I 6 rfl) ((HQ 0).gr (j.trans d)) ak ay hd ht11),.o 28 1 (c2.gr j) rfl rfl,.o 28 1 (S.gr j) rfl rfl,.k (fun q =>#[.slice (q 9 0).1 (dl (t11)) (q 9 0).2,.slice q1 (dl (y)) m1,.slice (qc 0).1 (dl (P)) (qc 0).2]) fun q L d I=>RtW.of_n (sm_any (I 9 rfl) (Sy1.gr (j.trans d)) ((HQ 0).gr (j.trans d)) ai ly hd ht12),.m 14,⟨⟩⟩ fun aa aW d aE=>?_;simp only[fzw];have ah:=aE 15;clear aE;replace j:=j.trans d;replace J:=J.trans d;replace K:=K.trans d;replace ac:=ac.trans d;replace ag:=ag.trans d;replace aq:=aq.trans d;have aL:=d;clear d
 go_upto_region 18 with fail
 refine wp_wTS 3 [.c (.slice (D 15 0).1 (dl (t9)) (D 15 0).2),.c (.slice (aa 15 0).1 (dl (t12)) (aa 15 0).2),.pt (t9) (t12) false] [2] ⟨.p (fun q i=>match i with|0=>((D 15 0).1,(D 15 0).2)|_=>((aa 15 0).1,(aa 15 0).2)) fun q L d I=>⟨(Z.gr (aL.trans d)),(ah.gr d)⟩,⟨⟩⟩ (.s 54 (fun q=>pv (w.heap.size+1+1+1) 0) (fun q=>.agg (ptA (q 2 0).1 (t9) (q 2 0).2 (q 2 1).1 (t12) (q 2 1).2 false)) fun ab aM d aG=>?_);have HT:=((c4.gr j).gr d).h;have FT:=((c4.gr j).gr d).f;refine⟨setBlk aM (w.heap.size+1+1+1) (ptA (ab 2 0).1 (t9) (ab 2 0).2 (ab 2 1).1 (t12) (ab 2 1).2 false),by simp[go_sem,exI,HT,FT],?_⟩;simp only[fzw];obtain⟨ar,au⟩:=aG 2;clear aG;replace j:=j.trans d;replace G:=G.trans j
 go_wp2_with fail
 exact bo1 results27 (rd_pt _ _ _ _ _ _ _ (by rfl) (blk_setBlk _ _ _ (by rw[HT];decide))) ⟨_,rfl,⟨_,_,_,_,rfl,Sl.set ar (by rw[HT];exact ptA_no _ _ _ _ _ _ _),Sl.set au (by rw[HT];exact ptA_no _ _ _ _ _ _ _)⟩,gr_setNew G (by omega)⟩
end
section
attribute [local go_sem ↓] uz9 Go.wp_at_zero Go.wp_at_succ
attribute [local go_sem] uz10
theorem rplus_add(id:Int)(P A B N X Y:Nat)(qc:Nat→Option Addr×Nat)(x1 y1 x2 y2:Nat)(hd:dl P≤400)(lx1:x1<P)(ly1:y1<P)(lx2:x2<P)(ly2:y2<P)(hx:x1≠x2)(h1P:1<P)(p1 q1:Option Addr)(n1 m1:Nat)(p2 q2:Option Addr)(n2 m2:Nat)(iv:Nat)(t1:Nat)(ht1:subM y2 y1 P=t1)(t2:Nat)(ht2:subM x2 x1 P=t2)(t3:Nat)(ht3:t1*iv%P=t3)(t4:Nat)(ht4:t3*t3%P=t4)(t5:Nat)(ht5:subM t4 x1 P=t5)(t6:Nat)(ht6:subM t5 x2 P=t6)(t7:Nat)(ht7:subM x1 t6 P=t7)(t8:Nat)(ht8:t3*t7%P=t8)(t9:Nat)(ht9:subM t8 y1 P=t9)(liv:iv<P)(hiv:t2*iv%P=1)(w:World)(HQ:∀k,Sl w (qc k).1 (six P A B N X Y k))(Sx1:Sl w p1 x1)(Sy1:Sl w q1 y1)(Sx2:Sl w p2 x2)(Sy2:Sl w q2 y2):
 Calls prog 27 #[.agg (crA id (six P A B N X Y) qc),.agg (ptA p1 (x1) n1 q1 (y1) m1 false),.agg (ptA p2 (x2) n2 q2 (y2) m2 false)] w (Rt (.pt t6 t9 false) w):=by
 have hP:0<P:=by omega
 obtain⟨zz,ez⟩:=exl (cmpZ x1 x2)
 have bz:(zz==0)=false:=by rw[←ez,cmpZ_nought,decide_eq_false hx]
 have aA:=ht1▸subM_lt ly2 ly1;have aB:=ht2▸subM_lt lx2 lx1;have ac:=ht3▸Nat.mod_lt _ hP;have ak:=ht4▸Nat.mod_lt _ hP;have ao:=ht5▸subM_lt ak lx1;have ap:=ht6▸subM_lt ao lx2;have aC:=ht7▸subM_lt lx1 ap;have aq:=ht8▸Nat.mod_lt _ hP;have aG:=ht9▸subM_lt aq ly1
 go_enter func27,ntmps27
 go_upto_region 1 with fail
 refine gen_w (fun v=>Gr w v∧Vr v (w.heap.size) (crA id (six P A B N X Y) qc)∧Vr v (w.heap.size+1) (ptA p1 (x1) n1 q1 (y1) m1 false)∧Vr v (w.heap.size+1+1) (ptA p2 (x2) n2 q2 (y2) m2 false)∧Vr v (w.heap.size+1+1+1) (ptA none 0 0 none 0 0 false)) ⟨grA,vrA,vrA,vrA,vrA⟩ ?_;rintro v0 ⟨G,Z,c2,c3,c4⟩;replace HQ:=fun k=>(HQ k).gr G;replace Sx1:=Sx1.gr G;replace Sy1:=Sy1.gr G;replace Sx2:=Sx2.gr G;replace Sy2:=Sy2.gr G;refine wp_wS [.c (pv (w.heap.size+1) 2),.F] [1] ⟨.o 4 2 c2 rfl rfl,⟨⟩⟩ fun aH v1 d h1=>?_;simp only[fzw];clear h1;have j:=d;clear d
 go_upto_region 3 with fail
 refine wp_wS [.c (pv (w.heap.size+1+1) 2),.F] [1] ⟨.o 4 2 (c3.gr j) rfl rfl,⟨⟩⟩ fun aI v2 d h3=>?_;simp only[fzw];clear h3;replace j:=j.trans d;clear d
 go_upto_region 5 with fail
 refine wp_wS [.c (.slice none 0 0),.c (.slice none 0 0)] [] ⟨⟩ fun aJ v3 d h5=>?_;simp only[fzw];clear h5;replace j:=j.trans d;clear d
 go_upto_region 6 with fail
 refine wp_wS [.c (pv (w.heap.size+1) 0),.c (.slice p1 (dl (x1)) n1),.c (pv (w.heap.size+1+1) 0),.c (.slice p2 (dl (x2)) n2),.c (.int .i64 zz),.F] [1,3,4,5] ⟨.o 28 0 (c2.gr j) rfl rfl,.o 28 0 (c3.gr j) rfl rfl,.k (fun x =>#[.slice p1 (dl (x1)) n1,.slice p2 (dl (x2)) n2]) fun x W d H=>RtW.of_c (cz_any (Sx1.gr (j.trans d)) (Sx2.gr (j.trans d)) (dl_low _ P 400 (by omega) hd) (dl_low _ P 400 (by omega) hd) ez),.s (.binOp .eql 3 (.const (.int .i64 zz)) (.const (.int .i64 0)) 3) rfl fun W d=>by simp[go_sem,exI,bz],⟨⟩⟩ fun aK v4 d h6=>?_;simp only[fzw];clear h6;replace j:=j.trans d;clear d
 go_upto_region 12 with fail
 refine wp_wS [.c (pv (w.heap.size+1+1) 1),.c (.slice q2 (dl (y2)) m2),.c (pv (w.heap.size+1) 1),.c (.slice q1 (dl (y1)) m1),.c (pv (w.heap.size) 1),.c (.slice (qc 0).1 (dl (P)) (qc 0).2),.n (t1),.n (t1)] [1,3,5,6,7] ⟨.o 28 1 (c3.gr j) rfl rfl,.o 28 1 (c2.gr j) rfl rfl,.o 28 1 (Z.gr j) rfl rfl,.k (fun x =>#[.slice q2 (dl (y2)) m2,.slice q1 (dl (y1)) m1,.slice (qc 0).1 (dl (P)) (qc 0).2]) fun x W d H=>RtW.of_n (sm_any (Sy2.gr (j.trans d)) (Sy1.gr (j.trans d)) ((HQ 0).gr (j.trans d)) ly2 ly1 hd ht1),.m 6,⟨⟩⟩ fun J v5 d ar=>?_;simp only[fzw];have ae:=ar 7;clear ar;replace j:=j.trans d;clear d
 go_upto_region 13 with fail
 refine wp_wS [.c (pv (w.heap.size+1+1) 0),.c (.slice p2 (dl (x2)) n2),.c (pv (w.heap.size+1) 0),.c (.slice p1 (dl (x1)) n1),.c (pv (w.heap.size) 1),.c (.slice (qc 0).1 (dl (P)) (qc 0).2),.n (t2),.n (t2)] [1,3,5,6,7] ⟨.o 28 0 (c3.gr j) rfl rfl,.o 28 0 (c2.gr j) rfl rfl,.o 28 1 (Z.gr j) rfl rfl,.k (fun x =>#[.slice p2 (dl (x2)) n2,.slice p1 (dl (x1)) n1,.slice (qc 0).1 (dl (P)) (qc 0).2]) fun x W d H=>RtW.of_n (sm_any (Sx2.gr (j.trans d)) (Sx1.gr (j.trans d)) ((HQ 0).gr (j.trans d)) lx2 lx1 hd ht2),.m 6,⟨⟩⟩ fun K v6 d au=>?_;simp only[fzw];have af:=au 7;clear au;replace j:=j.trans d;have D:=d;clear d
 go_upto_region 14 with fail
 refine wp_wS [.c (.slice (K 7 0).1 (dl (t2)) (K 7 0).2),.c (pv (w.heap.size) 1),.c (.slice (qc 0).1 (dl (P)) (qc 0).2),.nb (iv) true,.nb (iv) true,.n (iv),.T,.n (iv),.T] [2,3,4,5,6,7] ⟨.o 28 1 (Z.gr j) rfl rfl,.k (fun x =>#[.slice (K 7 0).1 (dl (t2)) (K 7 0).2,.slice (qc 0).1 (dl (P)) (qc 0).2]) fun x W d H=>RtW.of_nb (iv_any (af.gr d) ((HQ 0).gr (j.trans d)) aB hd h1P liv hiv),.m 3,.m 4,.m 4,.m 5,⟨⟩⟩ fun L v7 d av=>?_;simp only[fzw];have ag:=av 7;clear av;replace j:=j.trans d;replace D:=D.trans d;have V:=d;clear d
 go_upto_region 15 with fail
 refine wp_wS [.c (.slice (J 7 0).1 (dl (t1)) (J 7 0).2),.c (.slice (L 7 0).1 (dl (iv)) (L 7 0).2),.c (pv (w.heap.size) 1),.c (.slice (qc 0).1 (dl (P)) (qc 0).2),.n (t3),.n (t3)] [3,4,5] ⟨.o 28 1 (Z.gr j) rfl rfl,.k (fun x =>#[.slice (J 7 0).1 (dl (t1)) (J 7 0).2,.slice (L 7 0).1 (dl (iv)) (L 7 0).2,.slice (qc 0).1 (dl (P)) (qc 0).2]) fun x W d H=>RtW.of_n (mm_any (ae.gr (D.trans d)) (ag.gr d) ((HQ 0).gr (j.trans d)) aA liv hd ht3),.m 4,⟨⟩⟩ fun q v8 d aw=>?_;simp only[fzw];have I:=aw 5;clear aw;replace j:=j.trans d;replace D:=D.trans d;replace V:=V.trans d;have aa:=d;clear d
 go_upto_region 16 with fail
 refine wp_w [.c (.slice (q 5 0).1 (dl (t3)) (q 5 0).2),.c (.slice (q 5 0).1 (dl (t3)) (q 5 0).2),.c (pv (w.heap.size) 1),.c (.slice (qc 0).1 (dl (P)) (qc 0).2),.n (t4),.c (pv (w.heap.size+1) 0),.c (.slice p1 (dl (x1)) n1),.c (pv (w.heap.size) 1),.c (.slice (qc 0).1 (dl (P)) (qc 0).2),.n (t5),.c (pv (w.heap.size+1+1) 0),.c (.slice p2 (dl (x2)) n2),.c (pv (w.heap.size) 1),.c (.slice (qc 0).1 (dl (P)) (qc 0).2),.n (t6),.n (t6)] [3,4,6,8,9,11,13,14,15] ⟨.o 28 1 (Z.gr j) rfl rfl,.k (fun x =>#[.slice (q 5 0).1 (dl (t3)) (q 5 0).2,.slice (q 5 0).1 (dl (t3)) (q 5 0).2,.slice (qc 0).1 (dl (P)) (qc 0).2]) fun x W d H=>RtW.of_n (mm_any (I.gr d) (I.gr d) ((HQ 0).gr (j.trans d)) ac ac hd ht4),.o 28 0 (c2.gr j) rfl rfl,.o 28 1 (Z.gr j) rfl rfl,.k (fun x =>#[.slice (x 4 0).1 (dl (t4)) (x 4 0).2,.slice p1 (dl (x1)) n1,.slice (qc 0).1 (dl (P)) (qc 0).2]) fun x W d H=>RtW.of_n (sm_any (H 4 rfl) (Sx1.gr (j.trans d)) ((HQ 0).gr (j.trans d)) ak lx1 hd ht5),.o 28 0 (c3.gr j) rfl rfl,.o 28 1 (Z.gr j) rfl rfl,.k (fun x =>#[.slice (x 9 0).1 (dl (t5)) (x 9 0).2,.slice p2 (dl (x2)) n2,.slice (qc 0).1 (dl (P)) (qc 0).2]) fun x W d H=>RtW.of_n (sm_any (H 9 rfl) (Sx2.gr (j.trans d)) ((HQ 0).gr (j.trans d)) ao lx2 hd ht6),.m 14,⟨⟩⟩ fun C v9 d ax=>?_;simp only[fzw];have Q:=ax 15;clear ax;replace j:=j.trans d;replace D:=D.trans d;replace V:=V.trans d;replace aa:=aa.trans d;have ah:=d;clear d
 go_upto_region 17 with fail
 refine wp_w [.c (.slice (q 5 0).1 (dl (t3)) (q 5 0).2),.c (pv (w.heap.size+1) 0),.c (.slice p1 (dl (x1)) n1),.c (.slice (C 15 0).1 (dl (t6)) (C 15 0).2),.c (pv (w.heap.size) 1),.c (.slice (qc 0).1 (dl (P)) (qc 0).2),.n (t7),.c (pv (w.heap.size) 1),.c (.slice (qc 0).1 (dl (P)) (qc 0).2),.n (t8),.c (pv (w.heap.size+1) 1),.c (.slice q1 (dl (y1)) m1),.c (pv (w.heap.size) 1),.c (.slice (qc 0).1 (dl (P)) (qc 0).2),.n (t9),.n (t9)] [2,5,6,8,9,11,13,14,15] ⟨.o 28 0 (c2.gr j) rfl rfl,.o 28 1 (Z.gr j) rfl rfl,.k (fun x =>#[.slice p1 (dl (x1)) n1,.slice (C 15 0).1 (dl (t6)) (C 15 0).2,.slice (qc 0).1 (dl (P)) (qc 0).2]) fun x W d H=>RtW.of_n (sm_any (Sx1.gr (j.trans d)) (Q.gr d) ((HQ 0).gr (j.trans d)) lx1 ap hd ht7),.o 28 1 (Z.gr j) rfl rfl,.k (fun x =>#[.slice (q 5 0).1 (dl (t3)) (q 5 0).2,.slice (x 6 0).1 (dl (t7)) (x 6 0).2,.slice (qc 0).1 (dl (P)) (qc 0).2]) fun x W d H=>RtW.of_n (mm_any (I.gr (ah.trans d)) (H 6 rfl) ((HQ 0).gr (j.trans d)) ac aC hd ht8),.o 28 1 (c2.gr j) rfl rfl,.o 28 1 (Z.gr j) rfl rfl,.k (fun x =>#[.slice (x 9 0).1 (dl (t8)) (x 9 0).2,.slice q1 (dl (y1)) m1,.slice (qc 0).1 (dl (P)) (qc 0).2]) fun x W d H=>RtW.of_n (sm_any (H 9 rfl) (Sy1.gr (j.trans d)) ((HQ 0).gr (j.trans d)) aq ly1 hd ht9),.m 14,⟨⟩⟩ fun S aL d ay=>?_;simp only[fzw];have ab:=ay 15;clear ay;replace j:=j.trans d;replace D:=D.trans d;replace V:=V.trans d;replace aa:=aa.trans d;replace ah:=ah.trans d;have aD:=d;clear d
 go_upto_region 18 with fail
 refine wp_wTS 3 [.c (.slice (C 15 0).1 (dl (t6)) (C 15 0).2),.c (.slice (S 15 0).1 (dl (t9)) (S 15 0).2),.pt (t6) (t9) false] [2] ⟨.p (fun x i=>match i with|0=>((C 15 0).1,(C 15 0).2)|_=>((S 15 0).1,(S 15 0).2)) fun x W d H=>⟨(Q.gr (aD.trans d)),(ab.gr d)⟩,⟨⟩⟩ (.s 54 (fun x=>pv (w.heap.size+1+1+1) 0) (fun x=>.agg (ptA (x 2 0).1 (t6) (x 2 0).2 (x 2 1).1 (t9) (x 2 1).2 false)) fun U aE d az=>?_);have HT:=((c4.gr j).gr d).h;have FT:=((c4.gr j).gr d).f;refine⟨setBlk aE (w.heap.size+1+1+1) (ptA (U 2 0).1 (t6) (U 2 0).2 (U 2 1).1 (t9) (U 2 1).2 false),by simp[go_sem,exI,HT,FT],?_⟩;simp only[fzw];obtain⟨ai,aj⟩:=az 2;clear az;replace j:=j.trans d;replace G:=G.trans j
 go_wp2_with fail
 exact bo1 results27 (rd_pt _ _ _ _ _ _ _ (by rfl) (blk_setBlk _ _ _ (by rw[HT];decide))) ⟨_,rfl,⟨_,_,_,_,rfl,Sl.set ai (by rw[HT];exact ptA_no _ _ _ _ _ _ _),Sl.set aj (by rw[HT];exact ptA_no _ _ _ _ _ _ _)⟩,gr_setNew G (by omega)⟩
end
end
section
def ex{p:Nat}:Option (Fin p×Fin p)→Nat
 | none=>0
 | some q=>q.1.val
def ey{p:Nat}:Option (Fin p×Fin p)→Nat
 | none=>0
 | some q=>q.2.val
def ef{p:Nat}:Option (Fin p×Fin p)→Bool
 | none=>true
 | some _=>false
theorem subM_val{p:Nat}(a b:Fin p):subM a.val b.val p=(a-b).val:=by
 have h:(a-b).val=(p-b.val+a.val)%p:=Fin.sub_def a b▸rfl;rw[h];unfold subM
 split
 ·rw[show p-b.val+a.val=a.val-b.val+p by omega,Nat.add_mod_right,Nat.mod_eq_of_lt (by omega)]
 ·rw[Nat.mod_eq_of_lt (by omega)];omega
theorem one_val{p:Nat}[NeZero p](h:1<p):(1:Fin p).val=1:=by
 exact Nat.mod_eq_of_lt h
theorem inv_val{p:Nat}[NeZero p](h:1<p){a b:Fin p}(e:b*a=1):a.val*b.val%p=1:=by
 rw[Nat.mul_comm,←Fin.val_mul,e,one_val h]
section
variable {P:Nat} [NeZero P] {i:Fin P→Fin P} {A B:Fin P}
theorem rplus_any(C:EC.Cur i A B)(hd:dl P≤400)(id:Int)(N X Y:Nat)(qc:Nat→Option Addr×Nat)(Q1 Q2:Option (Fin P×Fin P))(p1 q1:Option Addr)(n1 m1:Nat)(p2 q2:Option Addr)(n2 m2:Nat)(w:World)(HQ:∀k,Sl w (qc k).1 (six P A.val B.val N X Y k))(Sx1:Sl w p1 (ex Q1))(Sy1:Sl w q1 (ey Q1))(Sx2:Sl w p2 (ex Q2))(Sy2:Sl w q2 (ey Q2)):
 Calls prog 27 #[.agg (crA id (six P A.val B.val N X Y) qc),.agg (ptA p1 (ex Q1) n1 q1 (ey Q1) m1 (ef Q1)),.agg (ptA p2 (ex Q2) n2 q2 (ey Q2) m2 (ef Q2))] w
  (Rt (.pt (ex (EC.pl i A Q1 Q2)) (ey (EC.pl i A Q1 Q2)) (ef (EC.pl i A Q1 Q2))) w):=by
 have d:=C.pr.1
 match Q1,Q2,Sx1,Sy1,Sx2,Sy2 with
 | none,Q2,Sx1,Sy1,Sx2,Sy2=>exact rplus_inf1 id P A.val B.val N X Y qc 0 0 (ex Q2) (ey Q2) (ef Q2) p1 q1 n1 m1 p2 q2 n2 m2 w HQ Sx1 Sy1 Sx2 Sy2
 | some (x1,y1),none,Sx1,Sy1,Sx2,Sy2=>exact rplus_inf2 id P A.val B.val N X Y qc x1.val y1.val 0 0 p1 q1 n1 m1 p2 q2 n2 m2 w HQ Sx1 Sy1 Sx2 Sy2
 | some (x1,y1),some (x2,y2),Sx1,Sy1,Sx2,Sy2=>
  by_cases hx:x1=x2
  ·subst hx
   by_cases hy:y1=y2
   ·subst hy
    by_cases h0:y1=0
    ·subst h0
     have e:EC.pl i A (some (x1,0)) (some (x1,0))=none:=by simp[EC.pl]
     rw[e];have f:=Fin.val_zero P;have:=rplus_flat id P A.val B.val N X Y qc x1.val hd x1.isLt p1 q1 n1 m1 p2 q2 n2 m2 w HQ Sx1 (by have:=Sy1;simp only[ey,f]at this;exact this) Sx2 (by have:=Sy2;simp only[ey,f]at this;exact this);simp only[ex,ey,ef,f];exact this
    ·have j:y1+y1≠0:=fun h=>h0 (C.dbl h)
     have e:EC.pl i A (some (x1,y1)) (some (x1,y1))=some (EC.sx ((x1*x1+(x1*x1+x1*x1)+A)*i (y1+y1)) x1 x1,EC.sy ((x1*x1+(x1*x1+x1*x1)+A)*i (y1+y1)) x1 y1 (EC.sx ((x1*x1+(x1*x1+x1*x1)+A)*i (y1+y1)) x1 x1)):=by simp[EC.pl,h0]
     rw[e]
     exact rplus_dbl id P A.val B.val N X Y qc x1.val y1.val hd x1.isLt y1.isLt A.isLt (fun h=>h0 (Fin.ext (h.trans (Fin.val_zero P).symm))) d p1 q1 n1 m1 p2 q2 n2 m2 (i (y1+y1)).val _ (Fin.val_mul x1 x1).symm _ (Fin.val_add _ _).symm _ (Fin.val_add _ _).symm _ (Fin.val_add _ _).symm _ (Fin.val_add y1 y1).symm
      _ (Fin.val_mul _ _).symm _ (Fin.val_mul _ _).symm _ (subM_val _ _) _ (subM_val _ _) _ (subM_val _ _) _ (Fin.val_mul _ _).symm _ (subM_val _ _) (i (y1+y1)).isLt (inv_val d (C.inv _ j)) w HQ Sx1 Sy1 Sx2 Sy2
   ·have e:EC.pl i A (some (x1,y1)) (some (x1,y2))=none:=by simp[EC.pl,hy]
    rw[e];exact rplus_op id P A.val B.val N X Y qc x1.val y1.val y2.val hd x1.isLt y1.isLt y2.isLt (fun h=>hy (Fin.ext h)) p1 q1 n1 m1 p2 q2 n2 m2 w HQ Sx1 Sy1 Sx2 Sy2
  ·have j:x2-x1≠0:=fun h=>hx (EC.sub_zero_of h).symm
   have e:EC.pl i A (some (x1,y1)) (some (x2,y2))=some (EC.sx ((y2-y1)*i (x2-x1)) x1 x2,EC.sy ((y2-y1)*i (x2-x1)) x1 y1 (EC.sx ((y2-y1)*i (x2-x1)) x1 x2)):=by simp[EC.pl,hx]
   rw[e]
   exact rplus_add id P A.val B.val N X Y qc x1.val y1.val x2.val y2.val hd x1.isLt y1.isLt x2.isLt y2.isLt (fun h=>hx (Fin.ext h)) d p1 q1 n1 m1 p2 q2 n2 m2 (i (x2-x1)).val _ (subM_val y2 y1) _ (subM_val x2 x1) _ (Fin.val_mul _ _).symm _ (Fin.val_mul _ _).symm _ (subM_val _ _) _ (subM_val _ _) _ (subM_val _ _) _ (Fin.val_mul _ _).symm _ (subM_val _ _)
    (i (x2-x1)).isLt (inv_val d (C.inv _ j)) w HQ Sx1 Sy1 Sx2 Sy2
end
end
section
abbrev Q3:=Nat×Nat×Bool
def inf:Q3:=(0,0,true)
abbrev pnQ(Q:Q3):Array Value:=pnt Q.1 Q.2.1 Q.2.2
def OnQ(k:Nat)(Q:Q3):Prop:=onB k Q.1 Q.2.1 Q.2.2=true
def encQ{p:Nat}(Q:Option (Fin p×Fin p)):Q3:=(ex Q,ey Q,ef Q)
def decQ(p:Nat)[NeZero p](Q:Q3):Option (Fin p×Fin p):=cond Q.2.2 none (some (Fin.ofNat p Q.1,Fin.ofNat p Q.2.1))
theorem dec_enc{p:Nat}[NeZero p](Q:Option (Fin p×Fin p)):decQ p (encQ Q)=Q:=by
 cases Q with
 | none=>rfl
 | some q=>
  obtain⟨x,y⟩:=q
  show some (Fin.ofNat p x.val,Fin.ofNat p y.val)=some (x,y)
  rw[show Fin.ofNat p x.val=x from Fin.ext (Nat.mod_eq_of_lt x.isLt),show Fin.ofNat p y.val=y from Fin.ext (Nat.mod_eq_of_lt y.isLt)]
theorem OnQ.cases{k:Nat}{Q:Q3}(h:OnQ k Q):Q=inf∨∃x y,Q=(x,y,false)∧x<pN k∧y<pN k∧y*y%pN k=rhN k x:=by
 obtain⟨x,y,f⟩:=Q
 cases f with
 | true=>
  simp only[OnQ,onB,if_true,Bool.and_eq_true,decide_eq_true_eq]at h;exact .inl (by rw[h.1,h.2];rfl)
 | false=>
  simp only[OnQ,onB,Bool.false_eq_true,if_false,Bool.and_eq_true,decide_eq_true_eq]at h;exact .inr ⟨x,y,rfl,h⟩
theorem enc_dec{k:Nat}[NeZero (pN k)]{Q:Q3}(h:OnQ k Q):encQ (decQ (pN k) Q)=Q:=by
 rcases h.cases with rfl|⟨x,y,rfl,hx,hy,-⟩
 ·rfl
 ·show (x%pN k,y%pN k,false)=(x,y,false)
  rw[Nat.mod_eq_of_lt hx,Nat.mod_eq_of_lt hy]
theorem dec3{k:Nat}[NeZero (pN k)]{P:Q3}(h:OnQ k P):ex (decQ (pN k) P)=P.1∧ey (decQ (pN k) P)=P.2.1∧ef (decQ (pN k) P)=P.2.2:=by
 have e:=enc_dec h;exact⟨congrArg (·.1) e,congrArg (·.2.1) e,congrArg (·.2.2) e⟩
theorem OnQ.lt{k:Nat}{Q:Q3}(h:OnQ k Q):Q.1<M∧Q.2.1<M:=by
 have d:=pN_M k
 rcases h.cases with rfl|⟨x,y,rfl,hx,hy,-⟩
 ·exact⟨M_pos,M_pos⟩
 ·exact⟨Nat.lt_trans hx d,Nat.lt_trans hy d⟩
theorem inf_on(k:Nat):OnQ k inf:=rfl
section
variable {k:Nat} (h1:1≤k) (h2:k≤15) [NeZero (pN k)]
theorem on_iff(x y:Fin (pN k)):EC.OnC (EC.aF k h1 h2) (EC.bF k h1 h2) x y↔y.val*y.val%pN k=rhN k x.val:=by
 have e:x*x*x+EC.aF k h1 h2*x+EC.bF k h1 h2=(x*x+EC.aF k h1 h2)*x+EC.bF k h1 h2:=by grobner
 unfold EC.OnC;rw[e]
 constructor
 ·intro h;exact congrArg Fin.val h
 ·intro h;exact Fin.ext h
theorem on_dec{Q:Q3}(h:OnQ k Q):EC.On (EC.aF k h1 h2) (EC.bF k h1 h2) (decQ (pN k) Q):=by
 rcases h.cases with rfl|⟨x,y,rfl,hx,hy,e⟩
 ·trivial
 ·show EC.OnC _ _ (Fin.ofNat (pN k) x) (Fin.ofNat (pN k) y)
  rw[on_iff]
  show (y%pN k)*(y%pN k)%pN k=rhN k (x%pN k)
  rw[Nat.mod_eq_of_lt hx,Nat.mod_eq_of_lt hy,e]
theorem on_enc{R:Option (Fin (pN k)×Fin (pN k))}(h:EC.On (EC.aF k h1 h2) (EC.bF k h1 h2) R):OnQ k (encQ R):=by
 cases R with
 | none=>rfl
 | some q=>
  obtain⟨x,y⟩:=q;have d:=(on_iff h1 h2 x y).1 h
  show onB k x.val y.val false=true
  simp only[onB,Bool.false_eq_true,if_false,Bool.and_eq_true,decide_eq_true_eq];exact⟨x.isLt,y.isLt,d⟩
end
def plQ(k:Nat)(P Q:Q3):Q3:=if h:1≤k∧k≤15 then(haveI:=EC.nzP k h.1 h.2;encQ (EC.pl (EC.iP (pN k)) (EC.aF k h.1 h.2) (decQ (pN k) P) (decQ (pN k) Q))) else inf
def ngQ(k:Nat)(P:Q3):Q3:=if h:1≤k∧k≤15 then(haveI:=EC.nzP k h.1 h.2;encQ (EC.ng (decQ (pN k) P))) else inf
def mlQ(k n:Nat)(P:Q3):Q3:=if h:1≤k∧k≤15 then(haveI:=EC.nzP k h.1 h.2;encQ (EC.ml (EC.iP (pN k)) (EC.aF k h.1 h.2) n (decQ (pN k) P))) else inf
def gQ(k:Nat):Q3:=(xN k,yN k,false)
theorem plQ_is{k:Nat}(h1:1≤k)(h2:k≤15)[NeZero (pN k)](P Q:Q3):plQ k P Q=encQ (EC.pl (EC.iP (pN k)) (EC.aF k h1 h2) (decQ (pN k) P) (decQ (pN k) Q)):=dif_pos ⟨h1,h2⟩
theorem ngQ_is{k:Nat}(h1:1≤k)(h2:k≤15)[NeZero (pN k)](P:Q3):ngQ k P=encQ (EC.ng (decQ (pN k) P)):=dif_pos ⟨h1,h2⟩
theorem mlQ_is{k:Nat}(h1:1≤k)(h2:k≤15)[NeZero (pN k)](n:Nat)(P:Q3):mlQ k n P=encQ (EC.ml (EC.iP (pN k)) (EC.aF k h1 h2) n (decQ (pN k) P)):=dif_pos ⟨h1,h2⟩
theorem gQ_on{k:Nat}(h1:1≤k)(h2:k≤15):OnQ k (gQ k):=gN_on k h1 h2
theorem plQ_on{k:Nat}(h1:1≤k)(h2:k≤15){P Q:Q3}(hP:OnQ k P)(hQ:OnQ k Q):OnQ k (plQ k P Q):=by
 haveI:=EC.nzP k h1 h2
 rw[plQ_is h1 h2];exact on_enc h1 h2 (EC.pl_on (EC.curN k h1 h2) (on_dec h1 h2 hP) (on_dec h1 h2 hQ))
theorem ngQ_on{k:Nat}(h1:1≤k)(h2:k≤15){P:Q3}(hP:OnQ k P):OnQ k (ngQ k P):=by
 haveI:=EC.nzP k h1 h2
 rw[ngQ_is h1 h2];exact on_enc h1 h2 (EC.ng_on (on_dec h1 h2 hP))
theorem mlQ_on{k:Nat}(h1:1≤k)(h2:k≤15)(n:Nat){P:Q3}(hP:OnQ k P):OnQ k (mlQ k n P):=by
 haveI:=EC.nzP k h1 h2
 rw[mlQ_is h1 h2];exact on_enc h1 h2 (EC.ml_on (EC.curN k h1 h2) (on_dec h1 h2 hP) n)
theorem plQ_comm{k:Nat}(h1:1≤k)(h2:k≤15){P Q:Q3}(hP:OnQ k P)(hQ:OnQ k Q):plQ k P Q=plQ k Q P:=by
 haveI:=EC.nzP k h1 h2
 rw[plQ_is h1 h2,plQ_is h1 h2,EC.pl_comm (EC.curN k h1 h2) (on_dec h1 h2 hP) (on_dec h1 h2 hQ)]
theorem plQ_assoc{k:Nat}(h1:1≤k)(h2:k≤15){P Q R:Q3}(hP:OnQ k P)(hQ:OnQ k Q)(hR:OnQ k R):plQ k (plQ k P Q) R=plQ k P (plQ k Q R):=by
 haveI:=EC.nzP k h1 h2
 rw[plQ_is h1 h2 P Q,plQ_is h1 h2 Q R,plQ_is h1 h2,plQ_is h1 h2,dec_enc,dec_enc,EC.pl_assoc (EC.curN k h1 h2) (on_dec h1 h2 hP) (on_dec h1 h2 hQ) (on_dec h1 h2 hR)]
theorem plQ_inf{k:Nat}(h1:1≤k)(h2:k≤15){P:Q3}(hP:OnQ k P):plQ k P inf=P:=by
 haveI:=EC.nzP k h1 h2
 rw[plQ_is h1 h2,show decQ (pN k) inf=none from rfl,EC.pl_none,enc_dec hP]
theorem inf_plQ{k:Nat}(h1:1≤k)(h2:k≤15){P:Q3}(hP:OnQ k P):plQ k inf P=P:=by
 haveI:=EC.nzP k h1 h2
 rw[plQ_is h1 h2,show decQ (pN k) inf=none from rfl];exact enc_dec hP
theorem plQ_ng{k:Nat}(h1:1≤k)(h2:k≤15)(P:Q3):plQ k P (ngQ k P)=inf:=by
 haveI:=EC.nzP k h1 h2
 rw[ngQ_is h1 h2,plQ_is h1 h2,dec_enc,EC.pl_ng (EC.curN k h1 h2)]
 rfl
theorem mlQ_zero{k:Nat}(h1:1≤k)(h2:k≤15)(P:Q3):mlQ k 0 P=inf:=by
 haveI:=EC.nzP k h1 h2
 rw[mlQ_is h1 h2];rfl
theorem mlQ_one{k:Nat}(h1:1≤k)(h2:k≤15){P:Q3}(hP:OnQ k P):mlQ k 1 P=P:=by
 haveI:=EC.nzP k h1 h2
 rw[mlQ_is h1 h2,EC.ml_one,enc_dec hP]
theorem mlQ_add{k:Nat}(h1:1≤k)(h2:k≤15)(m n:Nat){P:Q3}(hP:OnQ k P):mlQ k (m+n) P=plQ k (mlQ k m P) (mlQ k n P):=by
 haveI:=EC.nzP k h1 h2
 rw[mlQ_is h1 h2,mlQ_is h1 h2 m,mlQ_is h1 h2 n,plQ_is h1 h2,dec_enc,dec_enc,EC.ml_add (EC.curN k h1 h2) (on_dec h1 h2 hP)]
theorem mlQ_mul{k:Nat}(h1:1≤k)(h2:k≤15)(m n:Nat){P:Q3}(hP:OnQ k P):mlQ k (n*m) P=mlQ k n (mlQ k m P):=by
 haveI:=EC.nzP k h1 h2
 rw[mlQ_is h1 h2,mlQ_is h1 h2 m,mlQ_is h1 h2 n,dec_enc,EC.ml_mul (EC.curN k h1 h2) (on_dec h1 h2 hP)]
theorem mlQ_inf{k:Nat}(h1:1≤k)(h2:k≤15)(n:Nat):mlQ k n inf=inf:=by
 haveI:=EC.nzP k h1 h2
 rw[mlQ_is h1 h2,show decQ (pN k) inf=none from rfl,EC.ml_none]
 rfl
theorem dec_g{k:Nat}(h1:1≤k)(h2:k≤15)[NeZero (pN k)]:decQ (pN k) (gQ k)=some (EC.xF k h1 h2,EC.yF k h1 h2):=by
 show some (Fin.ofNat (pN k) (xN k),Fin.ofNat (pN k) (yN k))=_
 rw[show Fin.ofNat (pN k) (xN k)=EC.xF k h1 h2 from Fin.ext (Nat.mod_eq_of_lt (xN_lt k h1 h2)),show Fin.ofNat (pN k) (yN k)=EC.yF k h1 h2 from Fin.ext (Nat.mod_eq_of_lt (yN_lt k h1 h2).1)]
theorem mlQ_N{k:Nat}(h1:1≤k)(h2:k≤15):mlQ k (oN k) (gQ k)=inf:=by
 haveI:=EC.nzP k h1 h2
 rw[mlQ_is h1 h2,dec_g h1 h2,EC.ml_G k h1 h2]
 rfl
theorem mlQ_mod{k:Nat}(h1:1≤k)(h2:k≤15)(n:Nat):mlQ k (n%oN k) (gQ k)=mlQ k n (gQ k):=by
 have h:mlQ k n (gQ k)=mlQ k (oN k*(n/oN k)+n%oN k) (gQ k):=by rw[Nat.div_add_mod]
 rw[h,mlQ_add h1 h2 _ _ (gQ_on h1 h2),Nat.mul_comm,mlQ_mul h1 h2 _ _ (gQ_on h1 h2),mlQ_N h1 h2,mlQ_inf h1 h2,inf_plQ h1 h2 (mlQ_on h1 h2 _ (gQ_on h1 h2))]
end
section
theorem fsubF{k:Nat}(h1:1≤k)(h2:k≤15)(a b:Fin (pN k))(w:World):Cg 84 #[.int .i64 k,.agg (nw 9 a.val),.agg (nw 9 b.val)] w (.tuple #[.agg (nw 9 (a-b).val),.int .i64 0]):=by
 have h:=fSub_ok k a.val b.val h1 h2 a.isLt b.isLt w;rw[show (a.val+pN k-b.val)%pN k=(a-b).val by rw[Fin.sub_def];show _=(pN k-b.val+a.val)%pN k;rw[show a.val+pN k-b.val=pN k-b.val+a.val by omega]]at h;exact h
theorem faddF{k:Nat}(h1:1≤k)(h2:k≤15)(a b:Fin (pN k))(w:World):Cg 129 #[.int .i64 k,.agg (nw 9 a.val),.agg (nw 9 b.val)] w (.tuple #[.agg (nw 9 (a+b).val),.int .i64 0]):=by
 have h:=fAdd_ok k a.val b.val h1 h2 a.isLt b.isLt w;rw[←Fin.val_add]at h;exact h
theorem fmulF{k:Nat}(h1:1≤k)(h2:k≤15)(a b:Fin (pN k))(w:World):Cg 128 #[.int .i64 k,.agg (nw 9 a.val),.agg (nw 9 b.val)] w (.tuple #[.agg (nw 9 (a*b).val),.int .i64 0]):=by
 have h:=fMul_ok k a.val b.val h1 h2 a.isLt b.isLt w;rw[←Fin.val_mul]at h;exact h
theorem finvF{k:Nat}(h1:1≤k)(h2:k≤15)[NeZero (pN k)](b:Fin (pN k))(hb:b≠0)(w:World):Cg 135 #[.int .i64 k,.agg (nw 9 b.val)] w (.tuple #[.agg (nw 9 (EC.iP (pN k) b).val),.int .i64 0]):=by
 have f:=prm_pN k h1 h2;have i:=Nat.pos_of_ne_zero fun e=>hb (Fin.ext (e.trans (Fin.val_zero (pN k)).symm))
 have q:=f.cop fun d=>by
  have:=Nat.le_of_dvd i d
  omega
 obtain⟨x,A,h,j⟩:=fInv_ok k b.val h1 h2 i b.isLt q;have e:=inv_one b.val (pN k) x (EC.iP (pN k) b).val A (EC.iP (pN k) b).isLt h (inv_val f.1 (EC.iP_is f b hb));rw[e]at j;exact j w
end
section
attribute [local go_sem ↓] uz1
attribute [local go_sem] uz2
section
attribute [local go_sem] uz8
attribute [local go_sem ↓] uz11 Go.wp_at_zero Go.wp_at_succ
attribute [local go_sem] uz12
theorem jprod_of(id:Int)(P A B N X Y:Nat)(s z:Int)(l:Bool)(n:Nat)(hn:n≤3)(f acc:Nat→Nat)(c:Array Value)(hrow:∀i,i<n→c.extract (i*9) (i*9+9)=nw 9 (f i))(hsz:n*9≤c.size)(HA':∀i,i<n→∀w,Cg 128 #[.int .i64 id,.agg (nw 9 (acc i)),.agg (nw 9 (f i))] w (.tuple #[.agg (nw 9 (acc (i+1))),.int .i64 0]))(b cap:Nat)(w:World)(hv:Vr w b c):
 Cg 133 #[.agg (cu id P A B N X Y s z l),.agg (nw 9 (acc 0)),.slice (some ⟨b,0,none⟩) n cap] w (.agg (nw 9 (acc n))):=by
 have K:Hid _:=HA';have L:Hu (n≤3):=fun _=>hn
 have Q:Hid (∀j,j<n→∀v,Gr w v→(loadS 25 (.pointer (some ⟨b,j*9,none⟩))).run prog v=.ok (.agg (nw 9 (f j))) v):=fun j q v g=>by
  have H:=(hv.gr g).h;rw[loadPart v b (j*9) (by rw[H];omega),H,hrow j q]
 clear hn HA' hrow hsz
 go_enter func133,ntmps133
 go_wp2_with fail
 refine gen_w (fun wr=>Hid (Gr w wr∧Vr wr (w.heap.size) (cu id P A B N X Y s z l)∧Vr wr (w.heap.size+1+1) (nw 9 0)∧Vr wr (w.heap.size+1+1+1) (nw 9 (acc 0)))) ⟨grA,vrA,vrA,vrA⟩ ?_;intro v0 d
 go_loopw [13] (fun ia wr=>∃j:Nat,ia=.int .i64 j∧Hu (j≤n)∧Hid (Gr w wr∧Vr wr (w.heap.size) (cu id P A B N X Y s z l)∧Vr wr (w.heap.size+1+1) (nw 9 0)∧Vr wr (w.heap.size+1+1+1) (nw 9 (acc j)))) (fun ia _=>((n:Int)-intOf ia).toNat)
 case atStart=>exact⟨0,rfl,fun _=>Nat.zero_le _,d⟩
 case round=>
  clear d;obtain⟨j,rfl,S,d⟩:=hrel;obtain⟨G,C,I,J⟩:=d.out
  have k0:wr.cell? ⟨w.heap.size,0,none⟩=some (.int .i64 id):=by rw[C.cell];exact cu_0 id P A B N X Y s z l
  have U:¬(w.heap.size+1+1+1=w.heap.size):=by omega
  have j0:(0:Int)≤j:=by omega
  have n4:(n:Int)≤3:=by have:=L.out ();omega
  have⟨h0,f0,p0⟩:=C;have⟨h1,f1,p1⟩:=I;have⟨h2,f2,p2⟩:=J;have⟨V,W,Z,aa,ab,ac⟩:=C.pp;have⟨ae,af,ag,ah,ai,aj⟩:=I.pp;have⟨ak,ao,ap,aq,ar,au⟩:=J.pp
  by_cases hlt:j<n
  ·have j1:(j:Int)<n:=by omega
   have av:=Q.out j hlt wr G;have D:Hid _:=K.out j hlt
   go_wp2_with (go_at_call 128;refine hkA D fun g=>?_)
   go_roundw
   case rel=>
    refine⟨j+1,by go_num,fun _=>hlt,?_,⟨by simp[go_sem, *],by simp[go_sem, *],by simp[go_sem, *]⟩,⟨by simp[go_sem, *],by simp[go_sem, *],by simp[go_sem, *]⟩,⟨by simp[go_sem, *],by simp[go_sem, *],by simp[go_sem, *]⟩⟩;exact grB
   case measure=>simp[intOf];omega
  ·have j1:¬(j:Int)<n:=by omega
   have q:j=n:=by have:=S.out ();omega
   go_wp2_with fail
   refine bo1 results133 (rd_nat (x:=acc j) (by rfl) ?_) ⟨by rw[q],?_⟩
   ·simp[go_sem, *]
   ·exact grB
theorem jsum_of(id:Int)(P A B N X Y:Nat)(s z:Int)(l:Bool)(n:Nat)(hn:n≤3)(f acc:Nat→Nat)(c:Array Value)(hrow:∀i,i<n→c.extract (i*9) (i*9+9)=nw 9 (f i))(hsz:n*9≤c.size)(HA':∀i,i<n→∀w,Cg 129 #[.int .i64 id,.agg (nw 9 (acc i)),.agg (nw 9 (f i))] w (.tuple #[.agg (nw 9 (acc (i+1))),.int .i64 0]))(b cap:Nat)(w:World)(hv:Vr w b c):
 Cg 132 #[.agg (cu id P A B N X Y s z l),.agg (nw 9 (acc 0)),.slice (some ⟨b,0,none⟩) n cap] w (.agg (nw 9 (acc n))):=by
 have K:Hid _:=HA';have L:Hu (n≤3):=fun _=>hn
 have Q:Hid (∀j,j<n→∀v,Gr w v→(loadS 25 (.pointer (some ⟨b,j*9,none⟩))).run prog v=.ok (.agg (nw 9 (f j))) v):=fun j q v g=>by
  have H:=(hv.gr g).h;rw[loadPart v b (j*9) (by rw[H];omega),H,hrow j q]
 clear hn HA' hrow hsz
 go_enter func132,ntmps132
 go_wp2_with fail
 refine gen_w (fun wr=>Hid (Gr w wr∧Vr wr (w.heap.size) (cu id P A B N X Y s z l)∧Vr wr (w.heap.size+1+1) (nw 9 0)∧Vr wr (w.heap.size+1+1+1) (nw 9 (acc 0)))) ⟨grA,vrA,vrA,vrA⟩ ?_;intro v0 d
 go_loopw [13] (fun ia wr=>∃j:Nat,ia=.int .i64 j∧Hu (j≤n)∧Hid (Gr w wr∧Vr wr (w.heap.size) (cu id P A B N X Y s z l)∧Vr wr (w.heap.size+1+1) (nw 9 0)∧Vr wr (w.heap.size+1+1+1) (nw 9 (acc j)))) (fun ia _=>((n:Int)-intOf ia).toNat)
 case atStart=>exact⟨0,rfl,fun _=>Nat.zero_le _,d⟩
 case round=>
  clear d;obtain⟨j,rfl,S,d⟩:=hrel;obtain⟨G,C,I,J⟩:=d.out
  have k0:wr.cell? ⟨w.heap.size,0,none⟩=some (.int .i64 id):=by rw[C.cell];exact cu_0 id P A B N X Y s z l
  have U:¬(w.heap.size+1+1+1=w.heap.size):=by omega
  have j0:(0:Int)≤j:=by omega
  have n4:(n:Int)≤3:=by have:=L.out ();omega
  have⟨h0,f0,p0⟩:=C;have⟨h1,f1,p1⟩:=I;have⟨h2,f2,p2⟩:=J;have⟨V,W,Z,aa,ab,ac⟩:=C.pp;have⟨ae,af,ag,ah,ai,aj⟩:=I.pp;have⟨ak,ao,ap,aq,ar,au⟩:=J.pp
  by_cases hlt:j<n
  ·have j1:(j:Int)<n:=by omega
   have av:=Q.out j hlt wr G;have D:Hid _:=K.out j hlt
   go_wp2_with (go_at_call 129;refine hkA D fun g=>?_)
   go_roundw
   case rel=>
    refine⟨j+1,by go_num,fun _=>hlt,?_,⟨by simp[go_sem, *],by simp[go_sem, *],by simp[go_sem, *]⟩,⟨by simp[go_sem, *],by simp[go_sem, *],by simp[go_sem, *]⟩,⟨by simp[go_sem, *],by simp[go_sem, *],by simp[go_sem, *]⟩⟩;exact grB
   case measure=>simp[intOf];omega
  ·have j1:¬(j:Int)<n:=by omega
   have q:j=n:=by have:=S.out ();omega
   go_wp2_with fail
   refine bo1 results132 (rd_nat (x:=acc j) (by rfl) ?_) ⟨by rw[q],?_⟩
   ·simp[go_sem, *]
   ·exact grB
theorem jdiff_of(id:Int)(P A B N X Y:Nat)(s z:Int)(l:Bool)(x y q:Nat)(H1':∀w,Cg 84 #[.int .i64 id,.agg (nw 9 x),.agg (nw 9 y)] w (.tuple #[.agg (nw 9 q),.int .i64 0]))(w:World):
 Cg 134 #[.agg (cu id P A B N X Y s z l),.agg (nw 9 x),.agg (nw 9 y)] w (.agg (nw 9 q)):=by
 have f:Hid _:=H1';clear H1'
 go_enter func134,ntmps134
 go_upto_region 1 with fail
 refine gen_w (fun v=>Hid (Gr w v∧Vr v (w.heap.size) (cu id P A B N X Y s z l)∧Vr v (w.heap.size+1) (nw 9 x)∧Vr v (w.heap.size+1+1) (nw 9 y)∧Vr v (w.heap.size+1+1+1) (nw 9 0))) ⟨grA,vrA,vrA,vrA,vrA⟩ ?_;intro h i;obtain⟨G,d,j,C,D⟩:=i.out
 have V:h.cell? ⟨w.heap.size,0,none⟩=some (.int .i64 id):=by rw[d.cell];exact cu_0 id P A B N X Y s z l
 have H:=d.al;have⟨I,J,K⟩:=j;have⟨L,Q,S⟩:=C;have U:=D.al
 go_wp2_with (first
  | (go_at_call_of 84 ((#[.int .i64 id,.agg (nw 9 x),.agg (nw 9 y)]:Array Value));refine hkA f fun W=>?_))
 refine bo1 results134 (rd_nat (by rfl) ?_) ⟨rfl,?_⟩
 ·simp[go_sem, *]
 ·exact grB
theorem jbelow_yes(id:Int)(P A B N X Y:Nat)(s z:Int)(l:Bool)(hP:P<M)(n:Nat)(hn:n≤3)(f:Nat→Nat)(hF:∀i,i<n→f i<M)(c:Array Value)(hrow:∀i,i<n→c.extract (i*9) (i*9+9)=nw 9 (f i))(hsz:n*9≤c.size)(hon:∀i,i<n→f i<P)(b cap:Nat)(w:World)(hv:Vr w b c):
 Cg 155 #[.agg (cu id P A B N X Y s z l),.slice (some ⟨b,0,none⟩) n cap] w (.bool true):=by
 have D:Hu (n≤3):=fun _=>hn;have H:Hu (P<M):=fun _=>hP;have I:Hid _:=hF;have J:Hid _:=hon
 have K:Hid (∀j,j<n→∀v,Gr w v→(loadS 25 (.pointer (some ⟨b,j*9,none⟩))).run prog v=.ok (.agg (nw 9 (f j))) v):=fun j L v g=>by
  have C:=(hv.gr g).h;rw[loadPart v b (j*9) (by rw[C];omega),C,hrow j L]
 clear hn hP hF hrow hsz hon
 go_enter func155,ntmps155
 go_wp2_with fail
 refine gen_w (fun wr=>Hid (Gr w wr∧Vr wr (w.heap.size) (cu id P A B N X Y s z l))) ⟨grA,vrA⟩ ?_;intro U q
 go_loopw [9] (fun ia wr=>∃j:Nat,ia=.int .i64 j∧Hu (j≤n)∧Hid (Gr w wr∧Vr wr (w.heap.size) (cu id P A B N X Y s z l))) (fun ia _=>((n:Int)-intOf ia).toNat)
 case atStart=>exact⟨0,rfl,fun _=>Nat.zero_le _,q⟩
 case round=>
  clear q;obtain⟨j,rfl,V,q⟩:=hrel;obtain⟨G,Q⟩:=q.out
  have W:(0:Int)≤j:=by omega
  have Z:(n:Int)≤3:=by have:=D.out ();omega
  have⟨h0,f0,p0⟩:=Q
  by_cases hlt:j<n
  ·have d:j<n:=by exact hlt
   have S:=K.out j d wr G
   have x:Hid _:=fun w=>by
    have h:=cmp_any (f j) P (I.out j d) (H.out ()) w;rw[show cmpZ (f j) P = -1 by have:=J.out j hlt;unfold cmpZ;rw[if_pos this]]at h;exact h
   go_wp2_with (go_at_call 44;refine hkA x fun g=>?_)
   go_roundw
   case rel=>
    refine⟨j+1,by go_num,fun _=>hlt,?_,⟨by simp[go_sem, *],by simp[go_sem, *],by simp[go_sem, *]⟩⟩;exact grB
   case measure=>simp[intOf];omega
  ·skip
   go_wp2_with fail
   go_ret
   exact⟨rfl,G⟩
end
section
attribute [local go_sem] uz8
attribute [local go_sem ↓] uz11 Go.wp_at_zero Go.wp_at_succ
attribute [local go_sem] uz12
def accM{p:Nat}(x:Fin p)(F:Nat→Fin p):Nat→Fin p
 | 0=>x
 | n+1=>accM x F n*F n
def accA{p:Nat}(x:Fin p)(F:Nat→Fin p):Nat→Fin p
 | 0=>x
 | n+1=>accA x F n+F n
theorem jpF{k:Nat}(h1:1≤k)(h2:k≤15){P A B N X Y:Nat}{s z:Int}{l:Bool}(x:Fin (pN k))(F:Nat→Fin (pN k))(n:Nat)(hn:n≤3)(c:Array Value)(hrow:∀i,i<n→c.extract (i*9) (i*9+9)=nw 9 (F i).val)(hsz:n*9≤c.size){w:World}{q:Nat}(hv:Vr w q c):
 Cg 133 #[.agg (cu (k:Int) P A B N X Y s z l),.agg (nw 9 x.val),.slice (some ⟨q,0,none⟩) n n] w (.agg (nw 9 (accM x F n).val)):=
 jprod_of (k:Int) P A B N X Y s z l n hn (fun i=>(F i).val) (fun i=>(accM x F i).val) c hrow hsz (fun i _ w=>fmulF h1 h2 (accM x F i) (F i) w) q n w hv
theorem jp1{k:Nat}(h1:1≤k)(h2:k≤15){P A B N X Y:Nat}{s z:Int}{l:Bool}{a b r:Fin (pN k)}(e:a*b=r){w:World}{q:Nat}(hv:Vr w q (nw 9 b.val)):
 Cg 133 #[.agg (cu (k:Int) P A B N X Y s z l),.agg (nw 9 a.val),.slice (some ⟨q,0,none⟩) 1 1] w (.agg (nw 9 r.val)):=by
 subst e
 exact jpF h1 h2 a (fun _=>b) 1 (by decide) _ (fun i d=>by
  obtain rfl:i=0:=by omega
  ·kernel_rfl) (by simp[nw_size]) hv
theorem jp2{k:Nat}(h1:1≤k)(h2:k≤15){P A B N X Y:Nat}{s z:Int}{l:Bool}{a b c r:Fin (pN k)}(e:a*b*c=r){w:World}{q:Nat}(hv:Vr w q (nw 9 b.val++nw 9 c.val)):
 Cg 133 #[.agg (cu (k:Int) P A B N X Y s z l),.agg (nw 9 a.val),.slice (some ⟨q,0,none⟩) 2 2] w (.agg (nw 9 r.val)):=by
 subst e
 exact jpF h1 h2 a (fun i=>match i with|0=>b|_=>c) 2 (by decide) _ (fun i d=>by
  obtain rfl|rfl:i=0∨i=1:=by omega
  ·kernel_rfl
  ·kernel_rfl) (by simp[nw_size]) hv
theorem jp3{k:Nat}(h1:1≤k)(h2:k≤15){P A B N X Y:Nat}{s z:Int}{l:Bool}{a b c d r:Fin (pN k)}(e:a*b*c*d=r){w:World}{q:Nat}(hv:Vr w q (nw 9 b.val++nw 9 c.val++nw 9 d.val)):
 Cg 133 #[.agg (cu (k:Int) P A B N X Y s z l),.agg (nw 9 a.val),.slice (some ⟨q,0,none⟩) 3 3] w (.agg (nw 9 r.val)):=by
 subst e
 exact jpF h1 h2 a (fun i=>match i with|0=>b|1=>c|_=>d) 3 (by decide) _ (fun i f=>by
  obtain rfl|rfl|rfl:i=0∨i=1∨i=2:=by omega
  ·kernel_rfl
  ·kernel_rfl
  ·kernel_rfl) (by simp[nw_size]) hv
theorem jsF{k:Nat}(h1:1≤k)(h2:k≤15){P A B N X Y:Nat}{s z:Int}{l:Bool}(x:Fin (pN k))(F:Nat→Fin (pN k))(n:Nat)(hn:n≤3)(c:Array Value)(hrow:∀i,i<n→c.extract (i*9) (i*9+9)=nw 9 (F i).val)(hsz:n*9≤c.size){w:World}{q:Nat}(hv:Vr w q c):
 Cg 132 #[.agg (cu (k:Int) P A B N X Y s z l),.agg (nw 9 x.val),.slice (some ⟨q,0,none⟩) n n] w (.agg (nw 9 (accA x F n).val)):=
 jsum_of (k:Int) P A B N X Y s z l n hn (fun i=>(F i).val) (fun i=>(accA x F i).val) c hrow hsz (fun i _ w=>faddF h1 h2 (accA x F i) (F i) w) q n w hv
theorem js1{k:Nat}(h1:1≤k)(h2:k≤15){P A B N X Y:Nat}{s z:Int}{l:Bool}{a b r:Fin (pN k)}(e:a+b=r){w:World}{q:Nat}(hv:Vr w q (nw 9 b.val)):
 Cg 132 #[.agg (cu (k:Int) P A B N X Y s z l),.agg (nw 9 a.val),.slice (some ⟨q,0,none⟩) 1 1] w (.agg (nw 9 r.val)):=by
 subst e
 exact jsF h1 h2 a (fun _=>b) 1 (by decide) _ (fun i d=>by
  obtain rfl:i=0:=by omega
  ·kernel_rfl) (by simp[nw_size]) hv
theorem js2{k:Nat}(h1:1≤k)(h2:k≤15){P A B N X Y:Nat}{s z:Int}{l:Bool}{a b c r:Fin (pN k)}(e:a+b+c=r){w:World}{q:Nat}(hv:Vr w q (nw 9 b.val++nw 9 c.val)):
 Cg 132 #[.agg (cu (k:Int) P A B N X Y s z l),.agg (nw 9 a.val),.slice (some ⟨q,0,none⟩) 2 2] w (.agg (nw 9 r.val)):=by
 subst e
 exact jsF h1 h2 a (fun i=>match i with|0=>b|_=>c) 2 (by decide) _ (fun i d=>by
  obtain rfl|rfl:i=0∨i=1:=by omega
  ·kernel_rfl
  ·kernel_rfl) (by simp[nw_size]) hv
theorem js3{k:Nat}(h1:1≤k)(h2:k≤15){P A B N X Y:Nat}{s z:Int}{l:Bool}{a b c d r:Fin (pN k)}(e:a+b+c+d=r){w:World}{q:Nat}(hv:Vr w q (nw 9 b.val++nw 9 c.val++nw 9 d.val)):
 Cg 132 #[.agg (cu (k:Int) P A B N X Y s z l),.agg (nw 9 a.val),.slice (some ⟨q,0,none⟩) 3 3] w (.agg (nw 9 r.val)):=by
 subst e
 exact jsF h1 h2 a (fun i=>match i with|0=>b|1=>c|_=>d) 3 (by decide) _ (fun i f=>by
  obtain rfl|rfl|rfl:i=0∨i=1∨i=2:=by omega
  ·kernel_rfl
  ·kernel_rfl
  ·kernel_rfl) (by simp[nw_size]) hv
theorem jd{k:Nat}(h1:1≤k)(h2:k≤15){P A B N X Y:Nat}{s z:Int}{l:Bool}{a b r:Fin (pN k)}(e:a-b=r)(w:World):
 Cg 134 #[.agg (cu (k:Int) P A B N X Y s z l),.agg (nw 9 a.val),.agg (nw 9 b.val)] w (.agg (nw 9 r.val)):=by
 subst e;exact jdiff_of (k:Int) P A B N X Y s z l _ _ _ (fsubF h1 h2 a b) w
theorem jleft{k:Nat}(h1:1≤k)(h2:k≤15){N X Y:Nat}{s z:Int}{l:Bool}{A B:Fin (pN k)}{X1 Y1 Z1:Fin (pN k)}{r:Fin (pN k)}(er:Y1*Y1*Z1=r)(w:World):
 Cg 156 #[.agg (cu (k:Int) (pN k) A.val B.val N X Y s z l),.agg (prj X1.val Y1.val Z1.val)] w (.agg (nw 9 r.val)):=by
 have i:=@jp2 k h1 h2 (pN k) A.val B.val N X Y s z l
 go_enter func156,ntmps156
 go_upto_region 1 with fail
 refine gen_w (fun v=>Hid (Gr w v∧Vr v (w.heap.size) (cu (k:Int) (pN k) A.val B.val N X Y s z l)∧Vr v (w.heap.size+1) (prj X1.val Y1.val Z1.val)∧Vr v (w.heap.size+1+1) (nw 9 0))) ⟨grA,vrA,vrA,vrA⟩ ?_;intro P D;obtain⟨G,H,j,q⟩:=D.out;refine wp_wTS 9 [.c (.agg (cu (k:Int) (pN k) A.val B.val N X Y s z l)),.c (pv (w.heap.size+1) 9),.N Y1.val,.c (pv (w.heap.size+1) 9),.N Y1.val,.c (pv (w.heap.size+1) 18),.N Z1.val,.r 2 (nw 9 Y1.val++nw 9 Z1.val),.N r.val] [0,2,4,6,7,8] ⟨.g 155 0 H rfl,.g 25 9 j rfl,.g 25 9 j rfl,.g 25 18 j rfl,.r (.buildSlice 203 2 #[(0,.const (.agg (nw 9 Y1.val))),(1,.const (.agg (nw 9 Z1.val)))]) rfl (rowN2 _ _),.k _ fun x Q d I=>RtW.of_c (Rt.c (i er (I 7 rfl))),⟨⟩⟩ (.s 25 (fun x=>pv (w.heap.size+1+1) 0) (fun x=>.agg (nw 9 r.val)) fun J K d h1=>?_);have C:=(q.gr d).h;have L:=(q.gr d).f;refine⟨setBlk K (w.heap.size+1+1) (nw 9 r.val),by simp[go_sem,exI,C,L],?_⟩;simp only[fzw,Kw.r];replace G:=G.trans d
 go_wp2_with fail
 exact bo1 results156 (rd_nat (by rfl) (blk_setBlk _ _ _ (by rw[C];decide +kernel))) ⟨rfl,gr_setNew G (by omega)⟩
theorem jright{k:Nat}(h1:1≤k)(h2:k≤15){N X Y:Nat}{s z:Int}{l:Bool}{A B:Fin (pN k)}{X1 Y1 Z1:Fin (pN k)}{q1 q2 q3 r:Fin (pN k)}(eq1:X1*X1*X1=q1)(eq2:A*X1*Z1*Z1=q2)(eq3:B*Z1*Z1*Z1=q3)(er:q1+q2+q3=r)(w:World):
 Cg 157 #[.agg (cu (k:Int) (pN k) A.val B.val N X Y s z l),.agg (prj X1.val Y1.val Z1.val)] w (.agg (nw 9 r.val)):=by
 have D:=@jp2 k h1 h2 (pN k) A.val B.val N X Y s z l;have x:=@jp3 k h1 h2 (pN k) A.val B.val N X Y s z l;have H:=@js2 k h1 h2 (pN k) A.val B.val N X Y s z l
 go_enter func157,ntmps157
 go_upto_region 1 with fail
 refine gen_w (fun v=>Hid (Gr w v∧Vr v (w.heap.size) (cu (k:Int) (pN k) A.val B.val N X Y s z l)∧Vr v (w.heap.size+1) (prj X1.val Y1.val Z1.val)∧Vr v (w.heap.size+1+1) (nw 9 0))) ⟨grA,vrA,vrA,vrA⟩ ?_;intro U L;obtain⟨G,q,d,J⟩:=L.out;refine wp_wT 36 [.c (.agg (cu (k:Int) (pN k) A.val B.val N X Y s z l)),.c (.agg (cu (k:Int) (pN k) A.val B.val N X Y s z l)),.c (pv (w.heap.size+1) 0),.N X1.val,.c (pv (w.heap.size+1) 0),.N X1.val,.c (pv (w.heap.size+1) 0),.N X1.val,.r 2 (nw 9 X1.val++nw 9 X1.val),.N q1.val,.c (.agg (cu (k:Int) (pN k) A.val B.val N X Y s z l)),.c (pv (w.heap.size) 0),.c (pv (w.heap.size) 10),.N A.val,.c (pv (w.heap.size+1) 0),.N X1.val,.c (pv (w.heap.size+1) 18),.N Z1.val,.c (pv (w.heap.size+1) 18),.N Z1.val,.r 3 (nw 9 X1.val++nw 9 Z1.val++nw 9 Z1.val),.N q2.val,.c (.agg (cu (k:Int) (pN k) A.val B.val N X Y s z l)),.c (pv (w.heap.size) 0),.c (pv (w.heap.size) 19),.N B.val,.c (pv (w.heap.size+1) 18),.N Z1.val,.c (pv (w.heap.size+1) 18),.N Z1.val,.c (pv (w.heap.size+1) 18),.N Z1.val,.r 3 (nw 9 Z1.val++nw 9 Z1.val++nw 9 Z1.val),.N q3.val,.r 2 (nw 9 q2.val++nw 9 q3.val),.N r.val] [0,1,3,5,7,8,9,10,13,15,17,19,20,21,22,25,27,29,31,32,33,34,35] ?hs2 ?hf2
 case hs2=>
  exact⟨.g 155 0 q rfl,.g 155 0 q rfl,.g 25 0 d rfl,.g 25 0 d rfl,.g 25 0 d rfl,.r (.buildSlice 203 2 #[(0,.const (.agg (nw 9 X1.val))),(1,.const (.agg (nw 9 X1.val)))]) rfl (rowN2 _ _),.k _ fun C I i j=>RtW.of_c (Rt.c (D eq1 (j 8 rfl))),.g 155 0 q rfl,.g 25 10 q rfl,.g 25 0 d rfl,.g 25 18 d rfl,.g 25 18 d rfl,.r (.buildSlice 203 3 #[(0,.const (.agg (nw 9 X1.val))),(1,.const (.agg (nw 9 Z1.val))),(2,.const (.agg (nw 9 Z1.val)))]) rfl (rowN3 _ _ _),.k _ fun C I i j=>RtW.of_c (Rt.c (x eq2 (j 20 rfl))),.g 155 0 q rfl,.g 25 19 q rfl,.g 25 18 d rfl,.g 25 18 d rfl,.g 25 18 d rfl,.r (.buildSlice 203 3 #[(0,.const (.agg (nw 9 Z1.val))),(1,.const (.agg (nw 9 Z1.val))),(2,.const (.agg (nw 9 Z1.val)))]) rfl (rowN3 _ _ _),.k _ fun C I i j=>RtW.of_c (Rt.c (x eq3 (j 32 rfl))),.r (.buildSlice 203 2 #[(0,.const (.agg (nw 9 q2.val))),(1,.const (.agg (nw 9 q3.val)))]) rfl (rowN2 _ _),.k _ fun C I i j=>RtW.of_c (Rt.c (H er (j 34 rfl))),⟨⟩⟩
 refine .s 25 (fun C=>pv (w.heap.size+1+1) 0) (fun C=>.agg (nw 9 r.val)) fun P Q i h1=>?_;have K:=(J.gr i).h;have S:=(J.gr i).f;refine⟨setBlk Q (w.heap.size+1+1) (nw 9 r.val),by simp[go_sem,exI,K,S],?_⟩;simp only[fzw,Kw.r];replace G:=G.trans i
 go_wp2_with fail
 exact bo1 results157 (rd_nat (by rfl) (blk_setBlk _ _ _ (by rw[K];decide +kernel))) ⟨rfl,gr_setNew G (by omega)⟩
theorem jtri_inf(x y:Nat)(w:World):
 Cg 94 #[.agg (pnt x y true)] w (.agg (prj 0 1 0)):=by
 go_enter func94,ntmps94
 go_upto_region 1 with fail
 refine gen_w (fun v=>Hid (Gr w v∧Vr v (w.heap.size) (pnt x y true)∧Vr v (w.heap.size+1) (prj 0 0 0))) ⟨grA,vrA,vrA⟩ ?_;intro I C;obtain⟨G,q,j⟩:=C.out;clear C;refine wp_v false [.N 1,.a,.u] [0] [⟨1,2,25,nw 9 0,fun _=>nw 9 1⟩] ⟨.z (small_any 1 (by decide)),⟨⟩⟩ ⟨.k zNat (.t rfl),⟨⟩⟩ fun A J d K B=>?_;simp only[fzw,Kw.a];obtain⟨⟨D,i⟩,-⟩:(I.heap.size≤(A 1 0).2∧Vr J (A 1 0).2 (nw 9 1))∧True:=B;clear K;replace G:=G.trans d;replace q:=q.gr d;replace j:=j.gr d;clear d
 go_upto_region 2 with fail
 refine wp_wS [.c (pv (w.heap.size) 18),.T] [1] ⟨.o 4 18 q rfl (by exact pnt_18 _ _ _),⟨⟩⟩ fun L X d P=>?_;simp only[fzw];clear P;replace G:=G.trans d;replace q:=q.gr d;replace j:=j.gr d;replace i:=i.gr d;clear d
 go_upto_region 3 with fail
 refine wp_wTS 2 [.N 1,.c (.agg (prj 0 1 0))] [0] ⟨.g 25 0 i rfl,⟨⟩⟩ (.s 93 (fun Q=>pv (w.heap.size+1) 0) (fun Q=>.agg (prj 0 1 0)) fun S U d V=>?_);have H:=(j.gr d).h;have W:=(j.gr d).f;refine⟨setBlk U (w.heap.size+1) (prj 0 1 0),by simp[go_sem,exI,H,W],?_⟩;simp only[fzw];clear V;replace G:=G.trans d;replace q:=q.gr d;replace j:=j.gr d;replace i:=i.gr d;clear d
 go_wp2_with fail
 exact bo1 results94 (rd_pj (by rfl) (blk_setBlk _ _ _ (by rw[H];decide +kernel))) ⟨rfl,gr_setNew G (by omega)⟩
theorem jtri_fin(x y:Nat)(w:World):
 Cg 94 #[.agg (pnt x y false)] w (.agg (prj x y 1)):=by
 go_enter func94,ntmps94
 go_upto_region 1 with fail
 refine gen_w (fun v=>Hid (Gr w v∧Vr v (w.heap.size) (pnt x y false)∧Vr v (w.heap.size+1) (prj 0 0 0))) ⟨grA,vrA,vrA⟩ ?_;intro I C;obtain⟨G,j,q⟩:=C.out;clear C;refine wp_v false [.N 1,.a,.u] [0] [⟨1,2,25,nw 9 0,fun _=>nw 9 1⟩] ⟨.z (small_any 1 (by decide)),⟨⟩⟩ ⟨.k zNat (.t rfl),⟨⟩⟩ fun A J d K B=>?_;simp only[fzw,Kw.a];obtain⟨⟨D,i⟩,-⟩:(I.heap.size≤(A 1 0).2∧Vr J (A 1 0).2 (nw 9 1))∧True:=B;clear K;replace G:=G.trans d;replace j:=j.gr d;replace q:=q.gr d;clear d
 go_upto_region 2 with fail
 refine wp_wS [.c (pv (w.heap.size) 18),.F] [1] ⟨.o 4 18 j rfl (by exact pnt_18 _ _ _),⟨⟩⟩ fun L X d P=>?_;simp only[fzw];clear P;replace G:=G.trans d;replace j:=j.gr d;replace q:=q.gr d;replace i:=i.gr d;clear d
 go_upto_region 4 with fail
 refine wp_wTS 6 [.c (pv (w.heap.size) 0),.N x,.c (pv (w.heap.size) 9),.N y,.N 1,.c (.agg (prj x y 1))] [1,3,4] ⟨.g 25 0 j rfl,.g 25 9 j rfl,.g 25 0 i rfl,⟨⟩⟩ (.s 93 (fun Q=>pv (w.heap.size+1) 0) (fun Q=>.agg (prj x y 1)) fun S U d V=>?_);have H:=(q.gr d).h;have W:=(q.gr d).f;refine⟨setBlk U (w.heap.size+1) (prj x y 1),by simp[go_sem,exI,H,W],?_⟩;simp only[fzw];clear V;replace G:=G.trans d;replace j:=j.gr d;replace q:=q.gr d;replace i:=i.gr d;clear d
 go_wp2_with fail
 exact bo1 results94 (rd_pj (by rfl) (blk_setBlk _ _ _ (by rw[H];decide +kernel))) ⟨rfl,gr_setNew G (by omega)⟩
theorem jpt_inf{k:Nat}{N X Y:Nat}{s z:Int}{l:Bool}{A B:Fin (pN k)}(x y:Nat)(w:World):
 Cg 93 #[.agg (cu (k:Int) (pN k) A.val B.val N X Y s z l),.agg (prj x y 0)] w (.agg (pnt 0 0 true)):=by
 go_enter func93,ntmps93
 go_upto_region 1 with fail
 refine gen_w (fun v=>Hid (Gr w v∧Vr v (w.heap.size) (cu (k:Int) (pN k) A.val B.val N X Y s z l)∧Vr v (w.heap.size+1) (prj x y 0)∧Vr v (w.heap.size+1+1) (pnt 0 0 false))) ⟨grA,vrA,vrA,vrA⟩ ?_;intro P j;obtain⟨G,Q,C,i⟩:=j.out;clear j;refine wp_wS [.c (pv (w.heap.size+1) 18),.N 0,.N 0,.T] [1,3] ⟨.g 25 18 C rfl,.s (.binOp .eql 25 (.const (.agg (nw 9 0))) (.const (.agg (nw 9 0))) 25) rfl fun S d=>by simp[go_sem,exI,eqNat,eqN_self],⟨⟩⟩ fun D U d H=>?_;simp only[fzw];clear H;replace G:=G.trans d;replace i:=i.gr d
 go_upto_region 2 with fail
 refine wp_wTS 1 [.c (.agg (pnt 0 0 true))] [] ⟨⟩ (.s 38 (fun I=>pv (w.heap.size+1+1) 0) (fun I=>.agg (pnt 0 0 true)) fun J K d V=>?_);have q:=(i.gr d).h;have L:=(i.gr d).f;refine⟨setBlk K (w.heap.size+1+1) (pnt 0 0 true),by simp[go_sem,exI,q,L],?_⟩;simp only[fzw];replace G:=G.trans d
 go_wp2_with fail
 exact bo1 results93 (rd_pn (by rfl) (blk_setBlk _ _ _ (by rw[q];decide +kernel))) ⟨rfl,gr_setNew G (by omega)⟩
theorem jpt_fin{k:Nat}(h1:1≤k)(h2:k≤15){N X Y:Nat}{s z:Int}{l:Bool}{A B:Fin (pN k)}{X1 Y1 Z1 i1:Fin (pN k)}(hz:eqN 9 Z1.val 0=false)(HI':∀w,Cg 135 #[.int .i64 k,.agg (nw 9 Z1.val)] w (.tuple #[.agg (nw 9 i1.val),.int .i64 0])){p1 p2:Fin (pN k)}(ep1:X1*i1=p1)(ep2:Y1*i1=p2)(w:World):
 Cg 93 #[.agg (cu (k:Int) (pN k) A.val B.val N X Y s z l),.agg (prj X1.val Y1.val Z1.val)] w (.agg (pnt p1.val p2.val false)):=by
 have Q:Hid _:=HI';clear HI';have C:=@jp1 k h1 h2 (pN k) A.val B.val N X Y s z l
 go_enter func93,ntmps93
 go_upto_region 1 with fail
 refine gen_w (fun v=>Hid (Gr w v∧Vr v (w.heap.size) (cu (k:Int) (pN k) A.val B.val N X Y s z l)∧Vr v (w.heap.size+1) (prj X1.val Y1.val Z1.val)∧Vr v (w.heap.size+1+1) (pnt 0 0 false))) ⟨grA,vrA,vrA,vrA⟩ ?_;intro v0 J;obtain⟨G,q,i,x⟩:=J.out;clear J;refine wp_wS [.c (pv (w.heap.size+1) 18),.N Z1.val,.N 0,.F] [1,3] ⟨.g 25 18 i rfl,.s (.binOp .eql 25 (.const (.agg (nw 9 Z1.val))) (.const (.agg (nw 9 0))) 25) rfl fun K d=>by simp[go_sem,exI,eqNat,hz],⟨⟩⟩ fun S v1 d h1=>?_;simp only[fzw];clear h1;replace G:=G.trans d;replace q:=q.gr d;replace i:=i.gr d;replace x:=x.gr d;clear d
 go_upto_region 3 with fail
 refine wp_v false [.c (pv (w.heap.size) 0),.c (pv (w.heap.size) 0),.c (.int .i64 k),.c (pv (w.heap.size+1) 18),.N Z1.val,.E (.agg (nw 9 i1.val)),.E (.agg (nw 9 i1.val)),.N i1.val,.O,.a,.u,.O] [2,4,5] [⟨9,10,25,nw 9 0,fun _=>nw 9 i1.val⟩] ⟨.o 3 0 q rfl (by exact cu_0 _ _ _ _ _ _ _ _ _ _),.g 25 18 i rfl,.z Q.out,⟨⟩⟩ ⟨.k zNat (.t rfl),⟨⟩⟩ fun U v2 d V D=>?_;simp only[fzw,Kw.a];obtain⟨⟨L,j⟩,-⟩:=D;clear V;replace G:=G.trans d;replace q:=q.gr d;replace i:=i.gr d;replace x:=x.gr d
 go_upto_region 4 with fail
 refine wp_wT 13 [.c (.agg (cu (k:Int) (pN k) A.val B.val N X Y s z l)),.c (pv (w.heap.size+1) 0),.N X1.val,.N i1.val,.r 1 (nw 9 i1.val),.N p1.val,.c (.agg (cu (k:Int) (pN k) A.val B.val N X Y s z l)),.c (pv (w.heap.size+1) 9),.N Y1.val,.N i1.val,.r 1 (nw 9 i1.val),.N p2.val,.c (.agg (pnt p1.val p2.val false))] [0,2,3,4,5,6,8,9,10,11] ⟨.g 155 0 q rfl,.g 25 0 i rfl,.g 25 0 j rfl,.r (.buildSlice 203 1 #[(0,.const (.agg (nw 9 i1.val)))]) rfl (rowN1 _),.k _ fun H K d I=>RtW.of_c (Rt.c (C ep1 (I 4 rfl))),.g 155 0 q rfl,.g 25 9 i rfl,.g 25 0 j rfl,.r (.buildSlice 203 1 #[(0,.const (.agg (nw 9 i1.val)))]) rfl (rowN1 _),.k _ fun H K d I=>RtW.of_c (Rt.c (C ep2 (I 10 rfl))),⟨⟩⟩ (.s 38 (fun H=>pv (w.heap.size+1+1) 0) (fun H=>.agg (pnt p1.val p2.val false)) fun W Z d h4=>?_);have P:=(x.gr d).h;have FT:=(x.gr d).f;refine⟨setBlk Z (w.heap.size+1+1) (pnt p1.val p2.val false),by simp[go_sem,exI,P,FT],?_⟩;simp only[fzw,Kw.r];replace G:=G.trans d
 go_wp2_with fail
 exact bo1 results93 (rd_pn (by rfl) (blk_setBlk _ _ _ (by rw[P];decide +kernel))) ⟨rfl,gr_setNew G (by omega)⟩
theorem jholds_2{k:Nat}{N X Y:Nat}{s z:Int}{l:Bool}{A B:Fin (pN k)}{X1 Y1 Z1:Fin (pN k)}(L R:Nat)(r:Bool)(hne:(eqN 9 X1.val 0&&(eqN 9 Y1.val 0&&eqN 9 Z1.val 0))=false)(HB':∀w q,Vr w q (nw 9 X1.val++nw 9 Y1.val++nw 9 Z1.val)→Cg 155 #[.agg (cu (k:Int) (pN k) A.val B.val N X Y s z l),.slice (some ⟨q,0,none⟩) 3 3] w (.bool true))(HL':∀w,Cg 156 #[.agg (cu (k:Int) (pN k) A.val B.val N X Y s z l),.agg (prj X1.val Y1.val Z1.val)] w (.agg (nw 9 L)))(HR':∀w,Cg 157 #[.agg (cu (k:Int) (pN k) A.val B.val N X Y s z l),.agg (prj X1.val Y1.val Z1.val)] w (.agg (nw 9 R)))(hr:eqN 9 L R=r)(w:World):
 Cg 131 #[.agg (cu (k:Int) (pN k) A.val B.val N X Y s z l),.agg (prj X1.val Y1.val Z1.val)] w (.bool r):=by
 have j:Hid _:=HB';have x:Hid _:=HL';have C:Hid _:=HR'
 go_enter func131,ntmps131
 go_upto_region 1 with fail
 refine gen_w (fun v=>Hid (Gr w v∧Vr v (w.heap.size) (cu (k:Int) (pN k) A.val B.val N X Y s z l)∧Vr v (w.heap.size+1) (prj X1.val Y1.val Z1.val))) ⟨grA,vrA,vrA⟩ ?_;intro J D;obtain⟨G,h,d⟩:=D.out;refine wp_w [.c (.agg (prj X1.val Y1.val Z1.val)),.c (.agg (prj 0 0 0)),.T,.T,.c (.agg (cu (k:Int) (pN k) A.val B.val N X Y s z l)),.c (pv (w.heap.size+1) 0),.N X1.val,.c (pv (w.heap.size+1) 9),.N Y1.val,.c (pv (w.heap.size+1) 18),.N Z1.val,.r 3 (nw 9 X1.val++nw 9 Y1.val++nw 9 Z1.val),.T,.T,.T,.c (.agg (cu (k:Int) (pN k) A.val B.val N X Y s z l)),.c (.agg (prj X1.val Y1.val Z1.val)),.N L,.c (.agg (cu (k:Int) (pN k) A.val B.val N X Y s z l)),.c (.agg (prj X1.val Y1.val Z1.val)),.N R,.c (.bool r),.c (.bool r),.c (.bool r)] [0,2,4,6,8,10,11,12,15,16,17,18,19,20,21] ⟨.g 93 0 d rfl,.s (.binOp .neq 93 (.const (.agg (prj X1.val Y1.val Z1.val))) (.const (.agg (prj 0 0 0))) 93) rfl fun i f=>by simp[go_sem,exI,nePj,hne],.g 155 0 h rfl,.g 25 0 d rfl,.g 25 9 d rfl,.g 25 18 d rfl,.r (.buildSlice 203 3 #[(0,.const (.agg (nw 9 X1.val))),(1,.const (.agg (nw 9 Y1.val))),(2,.const (.agg (nw 9 Z1.val)))]) rfl (rowN3 _ _ _),.k _ fun K i f H=>RtW.of_c (Rt.c (j.out _ _ (H 11 rfl))),.g 155 0 h rfl,.g 93 0 d rfl,.z x.out,.g 155 0 h rfl,.g 93 0 d rfl,.z C.out,.s (.binOp .eql 25 (.const (.agg (nw 9 L))) (.const (.agg (nw 9 R))) 25) rfl fun i f=>by simp[go_sem,exI,eqNat,hr],⟨⟩⟩ fun I P f Q=>?_;simp only[fzw,Kw.r];replace G:=G.trans f
 go_wp2_with fail
 go_ret
 exact⟨rfl,G⟩
end
end
section
abbrev T3:=Nat×Nat×Nat
def TrQ(k:Nat)(T:T3)(Q:Q3):Prop:=OnQ k Q∧∃(X Y Z:Fin (pN k)),T=(X.val,Y.val,Z.val)∧∀ [NeZero (pN k)],EC.Std X Y Z (decQ (pN k) Q)
theorem TrQ.lt{k:Nat}{T:T3}{Q:Q3}(h:TrQ k T Q):T.1<pN k∧T.2.1<pN k∧T.2.2<pN k:=by
 obtain⟨-,X,Y,Z,rfl,-⟩:=h;simp
theorem TrQ.on{k:Nat}{T:T3}{Q:Q3}(h:TrQ k T Q):OnQ k Q:=h.1
theorem std_one{p:Nat}[NeZero p](hp:Prm p){X Y Z:Fin p}{P Q:Option (Fin p×Fin p)}(h1:EC.Std X Y Z P)(h2:EC.Std X Y Z Q):P=Q:=by
 match P,Q,h1,h2 with
 | none,none,_,_=>rfl
 | none,some (x,y),⟨_,_,c⟩,⟨d,_,_⟩=>exact absurd c d
 | some (x,y),none,⟨d,_,_⟩,⟨_,_,c⟩=>exact absurd c d
 | some (x,y),some (u,v),⟨a,b,c⟩,⟨_,d,e⟩=>
  have f:x=u:=by
   have h:(x-u)*Z=0:=by
    have:(x-u)*Z=x*Z-u*Z:=by clear b c d e;grobner
    rw[this,←b,←d];clear this b c d e;grobner
   rcases EC.nzd hp _ _ h with h|h
   ·exact EC.sub_zero_of h
   ·exact absurd h a
  have i:y=v:=by
   have h:(y-v)*Z=0:=by
    have:(y-v)*Z=y*Z-v*Z:=by clear b c d e;grobner
    rw[this,←c,←e];clear this b c d e;grobner
   rcases EC.nzd hp _ _ h with h|h
   ·exact EC.sub_zero_of h
   ·exact absurd h a
  rw[f,i]
theorem TrQ.one{k:Nat}(h1:1≤k)(h2:k≤15){T:T3}{P Q:Q3}(hP:TrQ k T P)(hQ:TrQ k T Q):P=Q:=by
 haveI:=EC.nzP k h1 h2
 obtain⟨d,X,Y,Z,rfl,f⟩:=hP;obtain⟨h,i,j,q,e,x⟩:=hQ
 grind [Fin.ext,enc_dec,std_one,prm_pN]
def addT(k:Nat)(S T:T3):T3:=
 if h:1≤k∧k≤15 then(haveI:=EC.nzP k h.1 h.2
  ((EC.pX (EC.aF k h.1 h.2) (EC.bF k h.1 h.2) (Fin.ofNat (pN k) S.1) (Fin.ofNat (pN k) S.2.1) (Fin.ofNat (pN k) S.2.2) (Fin.ofNat (pN k) T.1) (Fin.ofNat (pN k) T.2.1) (Fin.ofNat (pN k) T.2.2)).val,
   (EC.pY (EC.aF k h.1 h.2) (EC.bF k h.1 h.2) (Fin.ofNat (pN k) S.1) (Fin.ofNat (pN k) S.2.1) (Fin.ofNat (pN k) S.2.2) (Fin.ofNat (pN k) T.1) (Fin.ofNat (pN k) T.2.1) (Fin.ofNat (pN k) T.2.2)).val,
   (EC.pZ (EC.aF k h.1 h.2) (EC.bF k h.1 h.2) (Fin.ofNat (pN k) S.1) (Fin.ofNat (pN k) S.2.1) (Fin.ofNat (pN k) S.2.2) (Fin.ofNat (pN k) T.1) (Fin.ofNat (pN k) T.2.1) (Fin.ofNat (pN k) T.2.2)).val))
 else(0,0,0)
theorem ofV{p:Nat}[NeZero p](a:Fin p):Fin.ofNat p a.val=a:=Fin.ext (Nat.mod_eq_of_lt a.isLt)
theorem addT_is{k:Nat}(h1:1≤k)(h2:k≤15)[NeZero (pN k)](X1 Y1 Z1 X2 Y2 Z2:Fin (pN k)):addT k (X1.val,Y1.val,Z1.val) (X2.val,Y2.val,Z2.val) =
 ((EC.pX (EC.aF k h1 h2) (EC.bF k h1 h2) X1 Y1 Z1 X2 Y2 Z2).val,(EC.pY (EC.aF k h1 h2) (EC.bF k h1 h2) X1 Y1 Z1 X2 Y2 Z2).val,(EC.pZ (EC.aF k h1 h2) (EC.bF k h1 h2) X1 Y1 Z1 X2 Y2 Z2).val):=by
 unfold addT;rw[dif_pos ⟨h1,h2⟩];simp only[ofV]
theorem addT_tr{k:Nat}(h1:1≤k)(h2:k≤15){S T:T3}{P Q:Q3}(hS:TrQ k S P)(hT:TrQ k T Q):TrQ k (addT k S T) (plQ k P Q):=by
 haveI:=EC.nzP k h1 h2
 obtain⟨d,h,i,j,rfl,q⟩:=hS;obtain⟨f,x,A,B,rfl,C⟩:=hT;refine⟨plQ_on h1 h2 d f,_,_,_,addT_is h1 h2 h i j x A B,fun {_}=>?_⟩;rw[plQ_is h1 h2,dec_enc];exact EC.std_add (EC.curN k h1 h2) (EC.no_two k h1 h2) (on_dec h1 h2 d) (on_dec h1 h2 f) q C
theorem inf_tr{k:Nat}(h1:1≤k)(h2:k≤15){y:Nat}(hy:y<pN k)(h0:0<y):TrQ k (0,y,0) inf:=by
 haveI:=EC.nzP k h1 h2
 refine⟨inf_on k,0,⟨y,hy⟩,0,by rw[Fin.val_zero],fun {_}=>⟨rfl,fun e=>?_,rfl⟩⟩;have:=congrArg Fin.val e;rw[Fin.val_zero]at this;have d:y=0:=this
 omega
theorem one_tr{k:Nat}(h1:1≤k)(h2:k≤15){x y:Nat}(h:OnQ k (x,y,false)):TrQ k (x,y,1) (x,y,false):=by
 haveI:=EC.nzP k h1 h2
 have d:=(prm_pN k h1 h2).1
 rcases h.cases with e|⟨a,b,e,ha,hb,-⟩
 ·cases e
 ·cases e
  refine⟨h,⟨x,ha⟩,⟨y,hb⟩,1,by rw[one_val (by omega)],fun {_}=>?_⟩
  refine⟨fun e=>?_,?_,?_⟩
  ·have:=congrArg Fin.val e;rw[one_val (by omega),Fin.val_zero]at this
   cases this
  ·rw[show Fin.ofNat (pN k) x=⟨x,ha⟩ from Fin.ext (Nat.mod_eq_of_lt ha)];grobner
  ·rw[show Fin.ofNat (pN k) y=⟨y,hb⟩ from Fin.ext (Nat.mod_eq_of_lt hb)];grobner
end
section
attribute [local go_sem ↓] uz1
attribute [local go_sem] uz2
section
attribute [local go_sem ↓] uz9 Go.wp_at_zero Go.wp_at_succ
attribute [local go_sem] uz10
theorem ron_inf(id:Int)(P A B N X Y:Nat)(qc:Nat→Option Addr×Nat)(x y:Nat)(p q:Option Addr)(n m:Nat)(w:World)(HQ:∀k,Sl w (qc k).1 (six P A B N X Y k))(Sx:Sl w p x)(Sy:Sl w q y):
 Cg 25 #[.agg (crA id (six P A B N X Y) qc),.agg (ptA p x n q y m true)] w (.bool (decide (x=0)&&decide (y=0))):=by
 go_enter func25,ntmps25
 go_upto_region 1 with fail
 refine gen_w (fun v=>Gr w v∧Vr v (w.heap.size) (crA id (six P A B N X Y) qc)∧Vr v (w.heap.size+1) (ptA p x n q y m true)) ⟨grA,vrA,vrA⟩ ?_;rintro K ⟨G,j,f⟩;replace HQ:=fun k=>(HQ k).gr G;replace Sx:=Sx.gr G;replace Sy:=Sy.gr G;refine wp_wS [.c (pv (w.heap.size+1) 2),.T] [1] ⟨.o 4 2 f rfl rfl,⟨⟩⟩ fun D C d H=>?_;simp only[fzw];clear H;replace G:=G.trans d;replace j:=j.gr d;replace f:=f.gr d;replace HQ:=fun k=>(HQ k).gr d;replace Sx:=Sx.gr d;replace Sy:=Sy.gr d;clear d
 have I:C.cell? ⟨w.heap.size+1,0,none⟩=some (.slice p (dl x) n):=by rw[cell_blk,f.h];rfl
 have J:C.cell? ⟨w.heap.size+1,1,none⟩=some (.slice q (dl y) m):=by rw[cell_blk,f.h];rfl
 by_cases hx:x=0
 ·have i:=dl_nought x;rw[decide_eq_true hx]at i;have L:=dl_nought y
  go_wp2_with fail
  go_ret
  exact⟨by simp[hx],G⟩
 ·have i:=dl_nought x;rw[decide_eq_false hx]at i
  go_wp2_with fail
  go_ret
  exact⟨by simp[hx],G⟩
theorem ron_x(id:Int)(P A B N X Y:Nat)(qc:Nat→Option Addr×Nat)(x y:Nat)(p q:Option Addr)(n m:Nat)(hx4:dl x≤400)(hd:dl P≤400)(hx:P≤x)(w:World)(HQ:∀k,Sl w (qc k).1 (six P A B N X Y k))(Sx:Sl w p x)(Sy:Sl w q y):
 Cg 25 #[.agg (crA id (six P A B N X Y) qc),.agg (ptA p x n q y m false)] w (.bool false):=by
 obtain⟨i,ex⟩:=exl (cmpZ x P)
 have j:decide (0≤i)=true:=by rw[←ex];unfold cmpZ;rw[if_neg (by omega)];split <;> decide
 go_enter func25,ntmps25
 go_upto_region 1 with fail
 refine gen_w (fun v=>Gr w v∧Vr v (w.heap.size) (crA id (six P A B N X Y) qc)∧Vr v (w.heap.size+1) (ptA p x n q y m false)) ⟨grA,vrA,vrA⟩ ?_;rintro L ⟨G,h,f⟩;replace HQ:=fun k=>(HQ k).gr G;replace Sx:=Sx.gr G;replace Sy:=Sy.gr G;refine wp_wS [.c (pv (w.heap.size+1) 2),.F] [1] ⟨.o 4 2 f rfl rfl,⟨⟩⟩ fun C Q d D=>?_;simp only[fzw];clear D;replace G:=G.trans d;replace h:=h.gr d;replace f:=f.gr d;replace HQ:=fun k=>(HQ k).gr d;replace Sx:=Sx.gr d;replace Sy:=Sy.gr d;clear d
 go_upto_region 3 with fail
 refine wp_wS [.c (pv (w.heap.size+1) 0),.c (.slice p (dl (x)) n),.c (pv (w.heap.size) 1),.c (.slice (qc 0).1 (dl (P)) (qc 0).2),.c (.int .i64 i),.T,.T,.u,.u,.u,.u,.u,.u,.T] [1,3,4,5] ⟨.o 28 0 f rfl rfl,.o 28 1 h rfl rfl,.k (fun H =>#[.slice p (dl (x)) n,.slice (qc 0).1 (dl (P)) (qc 0).2]) fun H I d S=>RtW.of_c (cz_any (Sx.gr d) ((HQ 0).gr d) hx4 hd ex),.s (.binOp .geq 3 (.const (.int .i64 i)) (.const (.int .i64 0)) 3) rfl fun I d=>by simp[go_sem,exI,j],⟨⟩⟩ fun J U d K=>?_;simp only[fzw];clear K;replace G:=G.trans d;replace h:=h.gr d;replace f:=f.gr d;replace HQ:=fun k=>(HQ k).gr d;replace Sx:=Sx.gr d;replace Sy:=Sy.gr d;clear d
 go_wp2_with fail
 go_ret
 exact⟨rfl,G⟩
theorem ron_y(id:Int)(P A B N X Y:Nat)(qc:Nat→Option Addr×Nat)(x y:Nat)(p q:Option Addr)(n m:Nat)(hx4:dl x≤400)(hy4:dl y≤400)(hd:dl P≤400)(hx:x<P)(hy:P≤y)(w:World)(HQ:∀k,Sl w (qc k).1 (six P A B N X Y k))(Sx:Sl w p x)(Sy:Sl w q y):
 Cg 25 #[.agg (crA id (six P A B N X Y) qc),.agg (ptA p x n q y m false)] w (.bool false):=by
 obtain⟨i,ex⟩:=exl (cmpZ x P)
 have I:decide (0≤i)=false:=by rw[←ex];unfold cmpZ;rw[if_pos hx];decide
 obtain⟨j,ey⟩:=exl (cmpZ y P)
 have C:decide (0≤j)=true:=by rw[←ey];unfold cmpZ;rw[if_neg (by omega)];split <;> decide
 go_enter func25,ntmps25
 go_upto_region 1 with fail
 refine gen_w (fun v=>Gr w v∧Vr v (w.heap.size) (crA id (six P A B N X Y) qc)∧Vr v (w.heap.size+1) (ptA p x n q y m false)) ⟨grA,vrA,vrA⟩ ?_;rintro U ⟨G,h,f⟩;replace HQ:=fun k=>(HQ k).gr G;replace Sx:=Sx.gr G;replace Sy:=Sy.gr G;refine wp_wS [.c (pv (w.heap.size+1) 2),.F] [1] ⟨.o 4 2 f rfl rfl,⟨⟩⟩ fun J V d K=>?_;simp only[fzw];clear K;replace G:=G.trans d;replace h:=h.gr d;replace f:=f.gr d;replace HQ:=fun k=>(HQ k).gr d;replace Sx:=Sx.gr d;replace Sy:=Sy.gr d;clear d
 go_upto_region 3 with fail
 refine wp_wS [.c (pv (w.heap.size+1) 0),.c (.slice p (dl (x)) n),.c (pv (w.heap.size) 1),.c (.slice (qc 0).1 (dl (P)) (qc 0).2),.c (.int .i64 i),.F,.F,.c (pv (w.heap.size+1) 1),.c (.slice q (dl (y)) m),.c (pv (w.heap.size) 1),.c (.slice (qc 0).1 (dl (P)) (qc 0).2),.c (.int .i64 j),.T,.T] [1,3,4,5,8,10,11,12] ⟨.o 28 0 f rfl rfl,.o 28 1 h rfl rfl,.k (fun D =>#[.slice p (dl (x)) n,.slice (qc 0).1 (dl (P)) (qc 0).2]) fun D H d L=>RtW.of_c (cz_any (Sx.gr d) ((HQ 0).gr d) hx4 hd ex),.s (.binOp .geq 3 (.const (.int .i64 i)) (.const (.int .i64 0)) 3) rfl fun H d=>by simp[go_sem,exI,I],.o 28 1 f rfl rfl,.o 28 1 h rfl rfl,.k (fun D =>#[.slice q (dl (y)) m,.slice (qc 0).1 (dl (P)) (qc 0).2]) fun D H d L=>RtW.of_c (cz_any (Sy.gr d) ((HQ 0).gr d) hy4 hd ey),.s (.binOp .geq 3 (.const (.int .i64 j)) (.const (.int .i64 0)) 3) rfl fun H d=>by simp[go_sem,exI,C],⟨⟩⟩ fun Q W d S=>?_;simp only[fzw];clear S;replace G:=G.trans d;replace h:=h.gr d;replace f:=f.gr d;replace HQ:=fun k=>(HQ k).gr d;replace Sx:=Sx.gr d;replace Sy:=Sy.gr d;clear d
 go_wp2_with fail
 go_ret
 exact⟨rfl,G⟩
theorem ron_ok(id:Int)(P A B N X Y:Nat)(qc:Nat→Option Addr×Nat)(x y:Nat)(p q:Option Addr)(n m:Nat)(hx4:dl x≤400)(hy4:dl y≤400)(hd:dl P≤400)(lx:x<P)(ly:y<P)(lA:A<P)(lB:B<P)(w:World)(HQ:∀k,Sl w (qc k).1 (six P A B N X Y k))(Sx:Sl w p x)(Sy:Sl w q y):
 Cg 25 #[.agg (crA id (six P A B N X Y) qc),.agg (ptA p x n q y m false)] w (.bool (decide (y*y%P=((x*x%P+A)%P*x%P+B)%P))):=by
 have S:0<P:=by omega
 obtain⟨J,ex⟩:=exl (cmpZ x P)
 have W:decide (0≤J)=false:=by rw[←ex];unfold cmpZ;rw[if_pos lx];decide
 obtain⟨K,ey⟩:=exl (cmpZ y P)
 have L:decide (0≤K)=false:=by rw[←ey];unfold cmpZ;rw[if_pos ly];decide
 obtain⟨I,j⟩:=exl (y*y%P);have Z:I<P:=j▸Nat.mod_lt _ S;obtain⟨R,C⟩:=exl (((x*x%P+A)%P*x%P+B)%P);have lR:R<P:=C▸Nat.mod_lt _ S;rw[C,j];obtain⟨Q,U⟩:=exl (cmpZ I R);obtain⟨r,V⟩:=exl (decide (I=R))
 have bz:(Q==0)=r:=by rw[←U,←V];exact cmpZ_nought _ _
 rw[V]
 go_enter func25,ntmps25
 go_upto_region 1 with fail
 refine gen_w (fun v=>Gr w v∧Vr v (w.heap.size) (crA id (six P A B N X Y) qc)∧Vr v (w.heap.size+1) (ptA p x n q y m false)) ⟨grA,vrA,vrA⟩ ?_;rintro v0 ⟨G,i,h⟩;replace HQ:=fun k=>(HQ k).gr G;replace Sx:=Sx.gr G;replace Sy:=Sy.gr G;refine wp_wS [.c (pv (w.heap.size+1) 2),.F] [1] ⟨.o 4 2 h rfl rfl,⟨⟩⟩ fun aa v1 d h1=>?_;simp only[fzw];clear h1;replace G:=G.trans d;replace i:=i.gr d;replace h:=h.gr d;replace HQ:=fun k=>(HQ k).gr d;replace Sx:=Sx.gr d;replace Sy:=Sy.gr d;clear d
 go_upto_region 3 with fail
 refine wp_wS [.c (pv (w.heap.size+1) 0),.c (.slice p (dl (x)) n),.c (pv (w.heap.size) 1),.c (.slice (qc 0).1 (dl (P)) (qc 0).2),.c (.int .i64 J),.F,.F,.c (pv (w.heap.size+1) 1),.c (.slice q (dl (y)) m),.c (pv (w.heap.size) 1),.c (.slice (qc 0).1 (dl (P)) (qc 0).2),.c (.int .i64 K),.F,.F] [1,3,4,5,8,10,11,12] ⟨.o 28 0 h rfl rfl,.o 28 1 i rfl rfl,.k (fun f =>#[.slice p (dl (x)) n,.slice (qc 0).1 (dl (P)) (qc 0).2]) fun f D d H=>RtW.of_c (cz_any (Sx.gr d) ((HQ 0).gr d) hx4 hd ex),.s (.binOp .geq 3 (.const (.int .i64 J)) (.const (.int .i64 0)) 3) rfl fun D d=>by simp[go_sem,exI,W],.o 28 1 h rfl rfl,.o 28 1 i rfl rfl,.k (fun f =>#[.slice q (dl (y)) m,.slice (qc 0).1 (dl (P)) (qc 0).2]) fun f D d H=>RtW.of_c (cz_any (Sy.gr d) ((HQ 0).gr d) hy4 hd ey),.s (.binOp .geq 3 (.const (.int .i64 K)) (.const (.int .i64 0)) 3) rfl fun D d=>by simp[go_sem,exI,L],⟨⟩⟩ fun ab v2 d h3=>?_;simp only[fzw];clear h3;replace G:=G.trans d;replace i:=i.gr d;replace h:=h.gr d;replace HQ:=fun k=>(HQ k).gr d;replace Sx:=Sx.gr d;replace Sy:=Sy.gr d;clear d
 go_upto_region 5 with fail
 refine wp_w [.c (pv (w.heap.size+1) 1),.c (.slice q (dl (y)) m),.c (pv (w.heap.size+1) 1),.c (.slice q (dl (y)) m),.c (pv (w.heap.size) 1),.c (.slice (qc 0).1 (dl (P)) (qc 0).2),.n (I),.c (.agg (crA id (six P A B N X Y) qc)),.c (pv (w.heap.size+1) 0),.c (.slice p (dl (x)) n),.n (R),.c (.int .i64 Q),.c (.bool r),.c (.bool r)] [1,3,5,6,7,9,10,11,12] ⟨.o 28 1 h rfl rfl,.o 28 1 h rfl rfl,.o 28 1 i rfl rfl,.k (fun f =>#[.slice q (dl (y)) m,.slice q (dl (y)) m,.slice (qc 0).1 (dl (P)) (qc 0).2]) fun f D d H=>RtW.of_n (mm_any (Sy.gr d) (Sy.gr d) ((HQ 0).gr d) ly ly hd j),.g 30 0 i rfl,.o 28 0 h rfl rfl,.k (fun f =>#[.agg (crA id (six P A B N X Y) qc),.slice p (dl (x)) n]) fun f D d H=>RtW.of_n (Rt.n (C▸rright_any id P A B N X Y qc x _ _ lx lA lB hd _ (fun k=>(HQ k).gr d) (Sx.gr d))),.k (fun f =>#[.slice (f 6 0).1 (dl (I)) (f 6 0).2,.slice (f 10 0).1 (dl (R)) (f 10 0).2]) fun f D d H=>RtW.of_c (cz_any (H 6 rfl) (H 10 rfl) (dl_low _ P 400 (by omega) hd) (dl_low _ P 400 (by omega) hd) U),.s (.binOp .eql 3 (.const (.int .i64 Q)) (.const (.int .i64 0)) 3) rfl fun D d=>by simp[go_sem,exI,bz],⟨⟩⟩ fun ac v3 d h5=>?_;simp only[fzw];clear h5;replace G:=G.trans d;replace i:=i.gr d;replace h:=h.gr d;replace HQ:=fun k=>(HQ k).gr d;replace Sx:=Sx.gr d;replace Sy:=Sy.gr d;clear d
 go_wp2_with fail
 go_ret
 exact⟨rfl,G⟩
end
section
attribute [local go_sem ↓] uz9 Go.wp_at_zero Go.wp_at_succ
attribute [local go_sem] uz10
attribute [local go_sem] frz_setBlk blk_setBlk setBlk_setBlk
section
variable {P:Nat} [NeZero P] {i:Fin P→Fin P} {A B:Fin P}
theorem rtimes_any(C:EC.Cur i A B)(hd:dl P≤400)(id:Int)(N X Y:Nat)(qc:Nat→Option Addr×Nat)(k nk:Nat)(pk:Option Addr)(hk:dl k≤400)(Q:Option (Fin P×Fin P))(hQ:EC.On A B Q)(p q:Option Addr)(n m:Nat)(w:World)(HQ:∀k,Sl w (qc k).1 (six P A.val B.val N X Y k))(Sk:Sl w pk k)(Sx:Sl w p (ex Q))(Sy:Sl w q (ey Q)):
 Calls prog 28 #[.agg (crA id (six P A.val B.val N X Y) qc),.slice pk (dl k) nk,.agg (ptA p (ex Q) n q (ey Q) m (ef Q))] w (Rt (.pt (ex (EC.ml i A k Q)) (ey (EC.ml i A k Q)) (ef (EC.ml i A k Q))) w):=by
 obtain⟨L,hL⟩:=exl (bl k)
 have az:(L:Int)≤12800:=by
  have:(bl k+31)/32≤400:=hk
  omega
 have aA:(0:Int)≤L:=by omega
 have HB:Hid _:=fun w' g=>hL▸rbits_any k nk pk w' (Sk.gr g) (by omega);have HZ:Hu (k/2^L=0):=fun _=>Nat.div_eq_of_lt (hL▸(bl_le k (bl k)).1 (Nat.le_refl _))
 have ax:Hu (L≤12800):=fun _=>by omega
 clear hL
 go_enter func28,ntmps28
 go_upto_region 3 with (go_at_call 51;refine(HB.out _ grA).mono ?_;rintro e w' ⟨rfl,rfl⟩)
 obtain⟨W,ak⟩:=exl (w.heap.size+1+1+1);simp only[ak]
 refine gen_w (fun v=>Hid (Gr w v∧Vr v (w.heap.size) (crA id (six P A.val B.val N X Y) qc)∧Vr v (w.heap.size+1) (ptA p (ex Q) n q (ey Q) m (ef Q))∧Vr v (w.heap.size+1+1) (ptA none 0 0 none 0 0 false)∧Vr v W (ptA none 0 0 none 0 0 true))) ?_ ?_
 ·subst ak;exact⟨grA,⟨by simp[go_sem],by simp[go_sem],by simp[go_sem]⟩,⟨by simp[go_sem],by simp[go_sem],by simp[go_sem]⟩,⟨by simp[go_sem],by simp[go_sem],by simp[go_sem]⟩,⟨by simp[go_sem],by simp[go_sem],by simp[go_sem]⟩⟩
 intro v0 HV
 have ab:W≠w.heap.size:=by omega
 have ac:W≠w.heap.size+1:=by omega
 have ae:W≠w.heap.size+1+1:=by omega
 have ah:w.heap.size≤W:=by omega
 have HN:Hu (W≠w.heap.size∧W≠w.heap.size+1∧W≠w.heap.size+1+1∧w.heap.size≤W):=fun _=>⟨ab,ac,ae,ah⟩;clear ak ab ac ae ah HB
 go_loopw [8] (fun ia wr=>∃(j:Nat) (po:Option Addr) (no:Nat) (qo:Option Addr) (mo:Nat),ia=.int .i64 ((j:Int)-1)∧Hu (j≤L)∧Hid (Gr w wr∧Vr wr (w.heap.size) (crA id (six P A.val B.val N X Y) qc)∧Vr wr (w.heap.size+1) (ptA p (ex Q) n q (ey Q) m (ef Q))∧Vr wr (w.heap.size+1+1) (ptA none 0 0 none 0 0 false)∧Vr wr W (ptA po (ex (EC.ml i A (k/2^j) Q)) no qo (ey (EC.ml i A (k/2^j) Q)) mo (ef (EC.ml i A (k/2^j) Q)))∧Sl wr po (ex (EC.ml i A (k/2^j) Q))∧Sl wr qo (ey (EC.ml i A (k/2^j) Q)))) (fun ia _=>(intOf ia+1).toNat)
 case atStart=>
  refine⟨L,none,0,none,0,rfl,fun _=>Nat.le_refl _,?_⟩;rw[HZ.out ()];obtain⟨h1,h2,h3,h4,h5⟩:=HV.out;exact⟨h1,h2,h3,h4,h5,Sl.zero _ _,Sl.zero _ _⟩
 case round=>
  obtain⟨j,po,no,qo,mo,rfl,HJ,HR⟩:=hrel
  by_cases hpos:0<j
  ·obtain⟨J,rfl⟩:∃i,j=i+1:=⟨j-1,by omega⟩
   have e1:(((J+1:Nat):Int)-1)=(J:Int):=by omega
   rw[e1]
   have j0:(0:Int)≤J:=by omega
   have j1:(J:Int)<12800:=by have:=HJ.out ();have:=ax.out ();omega
   have ar:J≤L:=by have:=HJ.out ();omega
   obtain⟨R,hR⟩:=exl (EC.ml i A (k/2^(J+1)) Q);obtain⟨D,ao⟩:=exl (EC.pl i A R R);obtain⟨R2,au⟩:=exl (EC.pl i A D Q);rw[hR]at HR;obtain⟨G,V,Z,c3,K,So,To⟩:=HR.out;obtain⟨ab,ac,ae,ah⟩:=HN.out ();replace HQ:=fun k=>(HQ k).gr G;replace Sk:=Sk.gr G;replace Sx:=Sx.gr G;replace Sy:=Sy.gr G
   have af:∀b,k/2^J%2=b→k/2^J=k/2^(J+1)+k/2^(J+1)+b:=fun b hb=>by
    rw[Nat.pow_succ,←Nat.div_div_eq_div_mul];omega
   have ai:EC.ml i A (k/2^(J+1)+k/2^(J+1)) Q=D:=by rw[EC.ml_add C hQ,hR,ao]
   have aj:=fun w' (s:Sl w' pk k)=>rbit_any k nk J pk w' s (by omega);clear HV HR HJ hpos e1
   obtain hb|hb:k/2^J%2=0∨k/2^J%2=1:=by omega
   ·have ap:D=EC.ml i A (k/2^J) Q:=by rw[af 0 hb,Nat.add_zero,ai]
    have ag:∀w',Sl w' pk k→Calls prog 52 #[.slice pk (dl k) nk,.int .i64 J] w' fun e aq=>e=.returned (.int .i64 0)∧aq=w':=fun w' s=>by
     have:=aj w' s;rw[show bitN k J=0 from hb]at this;exact this
    clear hb ai af aj
    go_upto_region 5 with fail
    refine wp_wTS 4 [.c (.agg (crA id (six P A.val B.val N X Y) qc)),.c (.agg (ptA po (ex R) no qo (ey R) mo (ef R))),.c (.agg (ptA po (ex R) no qo (ey R) mo (ef R))),.pt (ex D) (ey D) (ef D)] [0,1,2,3] ⟨.g 30 0 V rfl,.g 54 0 K rfl,.g 54 0 K rfl,.k (fun S =>#[.agg (crA id (six P A.val B.val N X Y) qc),.agg (ptA po (ex R) no qo (ey R) mo (ef R)),.agg (ptA po (ex R) no qo (ey R) mo (ef R))]) fun S vv d hh=>RtW.of_pt (ao▸rplus_any C hd id N X Y qc R R po qo no mo po qo no mo _ (fun k=>(HQ k).gr d) (So.gr d) (To.gr d) (So.gr d) (To.gr d)),⟨⟩⟩ (.s 54 (fun S=>pv W 0) (fun S=>.agg (ptA (S 3 0).1 (ex D) (S 3 0).2 (S 3 1).1 (ey D) (S 3 1).2 (ef D))) fun x v1 d h5=>?_);have U:=(K.gr d).h;have FT:=(K.gr d).f;refine⟨setBlk v1 (W) (ptA (x 3 0).1 (ex D) (x 3 0).2 (x 3 1).1 (ey D) (x 3 1).2 (ef D)),by simp[go_sem,exI,U,FT],?_⟩;simp only[fzw];obtain⟨H,I⟩:=h5 3;clear h5;replace G:=G.trans d;replace V:=V.gr d;replace Z:=Z.gr d;replace c3:=c3.gr d;replace K:=K.gr d;replace HQ:=fun k=>(HQ k).gr d;replace Sk:=Sk.gr d;replace Sx:=Sx.gr d;replace Sy:=Sy.gr d;replace So:=So.gr d;replace To:=To.gr d;clear d
    go_upto_region 6 with fail
    refine gen_w (fun u=>Gr w u∧Vr u (w.heap.size) (crA id (six P A.val B.val N X Y) qc)∧Vr u (w.heap.size+1) (ptA p (ex Q) n q (ey Q) m (ef Q))∧Vr u (w.heap.size+1+1) (ptA none 0 0 none 0 0 false)∧Vr u (W) (ptA (x 3 0).1 (ex D) (x 3 0).2 (x 3 1).1 (ey D) (x 3 1).2 (ef D))∧(∀k,Sl u (qc k).1 (six P A.val B.val N X Y k))∧Sl u pk (k)∧Sl u p (ex Q)∧Sl u q (ey Q)∧Sl u (x 3 0).1 (ex D)∧Sl u (x 3 1).1 (ey D)) ⟨gr_setNew G (by omega),V.other (ab),Z.other (ac),c3.other (ae),K.set (by rw[ptA_size];decide) _,fun k=>Sl.set (HQ k) (by rw[U];exact ptA_no _ _ _ _ _ _ _),Sl.set Sk (by rw[U];exact ptA_no _ _ _ _ _ _ _),Sl.set Sx (by rw[U];exact ptA_no _ _ _ _ _ _ _),Sl.set Sy (by rw[U];exact ptA_no _ _ _ _ _ _ _),Sl.set H (by rw[U];exact ptA_no _ _ _ _ _ _ _),Sl.set I (by rw[U];exact ptA_no _ _ _ _ _ _ _)⟩ ?_;clear U FT;rintro u5 ⟨G,V,Z,c3,K,HQ,Sk,Sx,Sy,H,I⟩;refine wp_wS [.c (.slice pk (dl (k)) nk),.c (.int .i64 J),.O,.F] [2] ⟨.k (fun S =>#[.slice pk (dl (k)) nk,.int .i64 J]) fun S vv d hh=>RtW.of_c (Rt.same (ag _ (Sk.gr d))),⟨⟩⟩ fun ay v2 d h6=>?_;simp only[fzw];clear h6;replace G:=G.trans d;replace V:=V.gr d;replace Z:=Z.gr d;replace c3:=c3.gr d;replace K:=K.gr d;replace HQ:=fun k=>(HQ k).gr d;replace Sk:=Sk.gr d;replace Sx:=Sx.gr d;replace Sy:=Sy.gr d;replace H:=H.gr d;replace I:=I.gr d;clear d
    go_wp2_with fail
    go_roundw
    case rel=>
     refine⟨J,(x 3 0).1,(x 3 0).2,(x 3 1).1,(x 3 1).2,by simp,fun _=>ar,?_⟩;rw[←ap];exact⟨G,V,Z,c3,K,H,I⟩
    case measure=>simp[intOf]
   ·have ap:R2=EC.ml i A (k/2^J) Q:=by
     rw[af 1 hb]
     show R2=EC.pl i A (EC.ml i A (k/2^(J+1)+k/2^(J+1)) Q) Q
     rw[ai,au]
    have ag:∀w',Sl w' pk k→Calls prog 52 #[.slice pk (dl k) nk,.int .i64 J] w' fun e aq=>e=.returned (.int .i64 1)∧aq=w':=fun w' s=>by
     have:=aj w' s;rw[show bitN k J=1 from hb]at this;exact this
    clear hb ai af aj
    go_upto_region 5 with fail
    refine wp_wTS 4 [.c (.agg (crA id (six P A.val B.val N X Y) qc)),.c (.agg (ptA po (ex R) no qo (ey R) mo (ef R))),.c (.agg (ptA po (ex R) no qo (ey R) mo (ef R))),.pt (ex D) (ey D) (ef D)] [0,1,2,3] ⟨.g 30 0 V rfl,.g 54 0 K rfl,.g 54 0 K rfl,.k (fun S =>#[.agg (crA id (six P A.val B.val N X Y) qc),.agg (ptA po (ex R) no qo (ey R) mo (ef R)),.agg (ptA po (ex R) no qo (ey R) mo (ef R))]) fun S vv d hh=>RtW.of_pt (ao▸rplus_any C hd id N X Y qc R R po qo no mo po qo no mo _ (fun k=>(HQ k).gr d) (So.gr d) (To.gr d) (So.gr d) (To.gr d)),⟨⟩⟩ (.s 54 (fun S=>pv W 0) (fun S=>.agg (ptA (S 3 0).1 (ex D) (S 3 0).2 (S 3 1).1 (ey D) (S 3 1).2 (ef D))) fun x v1 d h5=>?_);have U:=(K.gr d).h;have FT:=(K.gr d).f;refine⟨setBlk v1 (W) (ptA (x 3 0).1 (ex D) (x 3 0).2 (x 3 1).1 (ey D) (x 3 1).2 (ef D)),by simp[go_sem,exI,U,FT],?_⟩;simp only[fzw];obtain⟨H,I⟩:=h5 3;clear h5;replace G:=G.trans d;replace V:=V.gr d;replace Z:=Z.gr d;replace c3:=c3.gr d;replace K:=K.gr d;replace HQ:=fun k=>(HQ k).gr d;replace Sk:=Sk.gr d;replace Sx:=Sx.gr d;replace Sy:=Sy.gr d;replace So:=So.gr d;replace To:=To.gr d;clear d
    go_upto_region 6 with fail
    refine gen_w (fun u=>Gr w u∧Vr u (w.heap.size) (crA id (six P A.val B.val N X Y) qc)∧Vr u (w.heap.size+1) (ptA p (ex Q) n q (ey Q) m (ef Q))∧Vr u (w.heap.size+1+1) (ptA none 0 0 none 0 0 false)∧Vr u (W) (ptA (x 3 0).1 (ex D) (x 3 0).2 (x 3 1).1 (ey D) (x 3 1).2 (ef D))∧(∀k,Sl u (qc k).1 (six P A.val B.val N X Y k))∧Sl u pk (k)∧Sl u p (ex Q)∧Sl u q (ey Q)∧Sl u (x 3 0).1 (ex D)∧Sl u (x 3 1).1 (ey D)) ⟨gr_setNew G (by omega),V.other (ab),Z.other (ac),c3.other (ae),K.set (by rw[ptA_size];decide) _,fun k=>Sl.set (HQ k) (by rw[U];exact ptA_no _ _ _ _ _ _ _),Sl.set Sk (by rw[U];exact ptA_no _ _ _ _ _ _ _),Sl.set Sx (by rw[U];exact ptA_no _ _ _ _ _ _ _),Sl.set Sy (by rw[U];exact ptA_no _ _ _ _ _ _ _),Sl.set H (by rw[U];exact ptA_no _ _ _ _ _ _ _),Sl.set I (by rw[U];exact ptA_no _ _ _ _ _ _ _)⟩ ?_;clear U FT;rintro u5 ⟨G,V,Z,c3,K,HQ,Sk,Sx,Sy,H,I⟩;refine wp_wS [.c (.slice pk (dl (k)) nk),.c (.int .i64 J),.c (.int .i64 1),.T] [2] ⟨.k (fun S =>#[.slice pk (dl (k)) nk,.int .i64 J]) fun S vv d hh=>RtW.of_c (Rt.same (ag _ (Sk.gr d))),⟨⟩⟩ fun ay v2 d h6=>?_;simp only[fzw];clear h6;replace G:=G.trans d;replace V:=V.gr d;replace Z:=Z.gr d;replace c3:=c3.gr d;replace K:=K.gr d;replace HQ:=fun k=>(HQ k).gr d;replace Sk:=Sk.gr d;replace Sx:=Sx.gr d;replace Sy:=Sy.gr d;replace H:=H.gr d;replace I:=I.gr d;clear d
    go_upto_region 7 with fail
    refine wp_wTS 4 [.c (.agg (crA id (six P A.val B.val N X Y) qc)),.c (.agg (ptA (x 3 0).1 (ex D) (x 3 0).2 (x 3 1).1 (ey D) (x 3 1).2 (ef D))),.c (.agg (ptA p (ex Q) n q (ey Q) m (ef Q))),.pt (ex R2) (ey R2) (ef R2)] [0,1,2,3] ⟨.g 30 0 V rfl,.g 54 0 K rfl,.g 54 0 Z rfl,.k (fun S =>#[.agg (crA id (six P A.val B.val N X Y) qc),.agg (ptA (x 3 0).1 (ex D) (x 3 0).2 (x 3 1).1 (ey D) (x 3 1).2 (ef D)),.agg (ptA p (ex Q) n q (ey Q) m (ef Q))]) fun S vv d hh=>RtW.of_pt (au▸rplus_any C hd id N X Y qc D Q (x 3 0).1 (x 3 1).1 (x 3 0).2 (x 3 1).2 p q n m _ (fun k=>(HQ k).gr d) (H.gr d) (I.gr d) (Sx.gr d) (Sy.gr d)),⟨⟩⟩ (.s 54 (fun S=>pv W 0) (fun S=>.agg (ptA (S 3 0).1 (ex R2) (S 3 0).2 (S 3 1).1 (ey R2) (S 3 1).2 (ef R2))) fun aa v3 d h7=>?_);have U:=(K.gr d).h;have FT:=(K.gr d).f;refine⟨setBlk v3 (W) (ptA (aa 3 0).1 (ex R2) (aa 3 0).2 (aa 3 1).1 (ey R2) (aa 3 1).2 (ef R2)),by simp[go_sem,exI,U,FT],?_⟩;simp only[fzw];obtain⟨av,aw⟩:=h7 3;clear h7;replace G:=G.trans d;replace V:=V.gr d;replace Z:=Z.gr d;replace c3:=c3.gr d;replace K:=K.gr d
    go_wp2_with fail
    go_roundw
    case rel=>
     refine⟨J,(aa 3 0).1,(aa 3 0).2,(aa 3 1).1,(aa 3 1).2,by simp,fun _=>ar,?_⟩;rw[←ap];exact⟨gr_setNew G (by omega),V.other ab,Z.other ac,c3.other ae,K.set (by rw[ptA_size];decide) _,Sl.set av (by rw[U];exact ptA_no _ _ _ _ _ _ _),Sl.set aw (by rw[U];exact ptA_no _ _ _ _ _ _ _)⟩
    case measure=>simp[intOf]
  ·obtain rfl:j=0:=by omega
   rw[Nat.pow_zero,Nat.div_one]at HR;obtain⟨R,hR⟩:=exl (EC.ml i A k Q);rw[hR]at HR;obtain⟨G,V,Z,c3,K,So,To⟩:=HR.out;obtain⟨ab,ac,ae,ah⟩:=HN.out ();have⟨h3,f3,p3⟩:=c3;have⟨h7,f7,p7⟩:=K
   go_wp2_with fail
   refine bo1 results28 (rd_pt po (ex R) no qo (ey R) mo (ef R) (by rfl) ?_) ⟨_,rfl,?_,gr_setNew G (by omega)⟩
   ·simp[go_sem,h3]
   ·rw[hR];exact⟨_,_,_,_,rfl,Sl.set So (by rw[h3];exact ptA_no _ _ _ _ _ _ _),Sl.set To (by rw[h3];exact ptA_no _ _ _ _ _ _ _)⟩
end
end
end
end Go.Proofs.YtffhepbppiocbadGreat