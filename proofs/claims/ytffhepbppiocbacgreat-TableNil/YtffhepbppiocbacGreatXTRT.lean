import Derived.Deep.AppendSrc
import Derived.Test.YtffhepbppiocbacGreatXTRAddM
import Derived.Test.YtffhepbppiocbacGreatXTIX
namespace Go.Proofs.YtffhepbppiocbacGreat
open Go.RowKit Go.Proofs.Tryz
set_option maxRecDepth 100000
set_option maxHeartbeats 8000000
section
attribute [local go_sem ↓] uz1
attribute [local go_sem] uz2
section
attribute [local go_sem ↓] bsl_is
def appS(ty:TypeId)(xs:Array Value):Sem Value:=Builtin.append_ #[25,25] ty xs
theorem app_is(ty:TypeId)(xs:Array Value):Builtin.append_ #[25,25] ty xs=appS ty xs:=rfl
theorem infoU:(prog.info? 71).map (fun i=>(i.zero,i.size,i.bytes))=some (some (.int .u32 0),1,4):=by kernel_rfl
theorem append_digits(w:World)(b n x:Nat)(p:Option Addr)(h:Sl w p x)(hx:dl x≤1000):
 ∃p' c w',(∀ty,(appS ty #[.slice (some ⟨b,0,none⟩) 0 0,.slice p (dl x) n]).run prog w=.ok (.slice p' (dl x) c) w')∧Sl w' p' x∧Gr w w':=by
 obtain⟨i,G,I,J,K⟩:∃i,prog.info? 71=some i∧i.zero=some (.int .u32 0)∧i.size=1∧i.bytes=4:=by
  have q:=infoU
  cases hc:prog.info? 71 with
  | none=>rw[hc]at q;cases q
  | some i=>
   rw[hc]at q;simp only[Option.map_some,Option.some.injEq,Prod.mk.injEq]at q;exact⟨i,rfl,q.1,q.2.1,q.2.2⟩
 by_cases q:dl x=0
 ·have L:=dl_eq_zero x q;subst L
  have f:Src prog i.size 25 (.slice p 0 n) 0 [] w:=by
   cases p with
   | none=>exact Src.ofNil w underlying25 n
   | some a=>exact Src.ofSlice w underlying25 a 0 n [] (by simp) (fun j u d=>by simp at d) (fun u C=>by cases C)
  refine⟨some ⟨b,0,none⟩,0,w,fun ty=>?_,Sl.zero _ _,Gr.refl _⟩;have B:=run_append_room_src w 25 25 ty 71 i underlying25 G b 0 0 0 (.slice p 0 n) 0 [] f (by omega) (fun j d=>by simp at d) (fun j d=>by simp at d);rw[dl_zero];exact B
 ·obtain⟨c,rfl,hc,P⟩:=h.some (by omega)
  have D:(nd (dl x) x).toList.length=dl x*i.size:=by rw[J,Array.length_toList,nd_size,Nat.mul_one]
  have f:Src prog i.size 25 (.slice (some ⟨c,0,none⟩) (dl x) n) (dl x) (nd (dl x) x).toList w:=by
   refine Src.ofSlice w underlying25 ⟨c,0,none⟩ (dl x) n _ D (fun j u d=>?_) (fun u C=>?_)
   ·rw[Array.getElem?_toList]at d
    have A:j<dl x:=by
     by_cases hl:j<dl x
     ·exact hl
     ·rw[Array.getElem?_eq_none (by rw[nd_size];omega)]at d;cases d
    rw[nd_get _ _ _ A]at d
    have e:(⟨c,0,none⟩:Addr).add j=⟨c,j,none⟩:=by rw[Addr.add_lit,Nat.zero_add]
    rw[e,cell_blk,P j A,d]
   ·obtain⟨j,d⟩:=List.mem_iff_getElem?.1 C;rw[Array.getElem?_toList]at d
    have A:j<dl x:=by
     by_cases hl:j<dl x
     ·exact hl
     ·rw[Array.getElem?_eq_none (by rw[nd_size];omega)]at d;cases d
    rw[nd_get _ _ _ A]at d
    cases d
    rfl
  have B:=fun ty=>run_append_grow_src w 25 25 ty 71 i _ underlying25 G I (some ⟨b,0,none⟩) 0 0 [] (run_firstCells_some w.drew i.size 0 ⟨b,0,none⟩ 0 0 [] (by simp) (fun j u d=>by simp at d)) (.slice (some ⟨c,0,none⟩) (dl x) n) (dl x) (nd (dl x) x).toList f (by omega) (by omega) (by rw[K,Nat.zero_add];simp only[Builtin.nextslicecap];rw[if_pos (by omega)];omega);simp only[Nat.zero_add,List.nil_append]at B
  refine⟨_,_,_,B,?_,?_⟩
  ·intro k H
   refine⟨w.heap.size,rfl,?_,?_⟩
   ·simp[go_sem]
   ·have e:w.heap.size=w.drew.heap.size:=by simp[go_sem]
    rw[blk_alloc_at _ _ _ _ _ e,Array.getElem?_append_left (by simp[nd_size,H])];simp[nd_get _ _ _ H]
  ·exact grA
def rdD(w:World)(b i:Nat):Nat:=match (blk w b)[i]? with|some (.int _ z)=>z.toNat|_=>0
def numD(f:Nat→Nat):Nat→Nat
 | 0=>0
 | n+1=>numD f n+f n*pq n
def mS(w:World):Value→Nat
 | .slice (some ⟨b,_,_⟩) n _=>numD (rdD w b) n
 | _=>0
theorem numD_is(f:Nat→Nat)(x:Nat):∀n,(∀i,i<n→f i=dg x i)→numD f n=x%pq n
 | 0,_=>by rw[pq_zero,Nat.mod_one];rfl
 | n+1,h=>by
  show numD f n+f n*pq n=_
  rw[numD_is f x n (fun i hi=>h i (by omega)),h n (by omega),dmod_succ]
theorem mS_is{w:World}{p:Option Addr}{x n:Nat}(h:Sl w p x):mS w (.slice p (dl x) n)=x:=by
 by_cases h0:dl x=0
 ·have e:=dl_eq_zero x h0;subst e
  cases p <;> rfl
 ·obtain⟨b,rfl,j,d⟩:=h.some (by omega)
  show numD (rdD w b) (dl x)=x
  rw[numD_is (rdD w b) x (dl x) (fun i f=>by unfold rdD;rw[d i f];rfl),Nat.mod_eq_of_lt (dl_lt x)]
theorem subM_is(t c m:Nat)(ht:t<m)(hc:c<m):subM t c m<m∧∃k:Int,(subM t c m:Int)=t-c+k*m:=by
 unfold subM
 split
 ·exact⟨by omega,0,by omega⟩
 ·exact⟨by omega,1,by omega⟩
structure RI(a m r s t u:Nat):Prop where
 rm:r≤m
 sm:s≤m
 tm:t<m
 um:u<m
 d1:(m:Int)∣(a:Int)*t-r
 d2:(m:Int)∣(a:Int)*u-s
 g:Nat.gcd r s=Nat.gcd m a
theorem RI.start(a m:Nat)(h:1<m):RI a m m (a%m) 0 1:=by
 refine⟨Nat.le_refl _,Nat.le_of_lt (Nat.mod_lt _ (by omega)),by omega,h,⟨-1,by simp⟩,⟨((a/m:Nat):Int),?_⟩,?_⟩
 ·have d:=Nat.div_add_mod a m;obtain⟨q,f⟩:=exl (a/m);obtain⟨v,i⟩:=exl (a%m);rw[f,i]at d ⊢
  have j:(m:Int)*q+v=a:=by exact_mod_cast d
  rw[←j]
  grind
 ·rw[Nat.gcd_comm,←Nat.gcd_rec]
theorem RI.step{a m r s t u:Nat}(h:RI a m r s t u)(h0:0<s)(q v c x:Nat)(hq:r/s=q)(hv:r%s=v)(hc:q%m*u%m=c)(hx:subM t c m=x):RI a m s v u x∧v<s:=by
 have D:0<m:=by have:=h.tm;omega
 have f:v<s:=by rw[←hv];exact Nat.mod_lt _ h0
 have i:c<m:=by rw[←hc];exact Nat.mod_lt _ D
 obtain⟨A,k,B⟩:=subM_is t c m h.tm i;rw[hx]at A B
 refine⟨⟨h.sm,by have:=h.sm;omega,h.um,A,h.d2,?_,?_⟩,f⟩
 ·obtain⟨G,J⟩:=h.d1;obtain⟨H,K⟩:=h.d2;have C:=Nat.div_add_mod r s;rw[hq,hv]at C
  have L:(s:Int)*q+v=r:=by exact_mod_cast C
  rw[pow_mul]at hc;have j:=Nat.div_add_mod (q*u) m;rw[hc]at j;obtain⟨d,I⟩:∃d,q*u/m=d:=⟨_,rfl⟩;rw[I]at j
  have P:(m:Int)*d+c=q*u:=by exact_mod_cast j
  refine⟨G-q*H+a*d+a*k,?_⟩;rw[B]
  grind
 ·rw[←h.g,←hv,Nat.gcd_comm,←Nat.gcd_rec,Nat.gcd_comm]
theorem RI.last{a m r t u:Nat}(h:RI a m r 0 t u)(h1:1<m):r=Nat.gcd m a∧0<r∧(r=1→a*t%m=1):=by
 have d:=h.g;rw[Nat.gcd_zero_right]at d;have j:0<Nat.gcd m a:=Nat.gcd_pos_of_pos_left _ (by omega);refine⟨d,by omega,fun e=>?_⟩;obtain⟨c,f⟩:=h.d1;rw[e]at f;obtain⟨k,i⟩:=inv_pos (a*t) m c h1 (by rw[←f];simp);rw[i,Nat.add_mul_mod_self_left,Nat.mod_eq_of_lt h1]
def InvR(a m:Nat)(w:World)(e:Ending)(w':World):Prop:=
 (Nat.gcd m a=1→∃t p n,t<m∧a*t%m=1∧e=.returned (.tuple #[.slice p (dl t) n,.bool true])∧Sl w' p t)∧(Nat.gcd m a≠1→e=.returned (.tuple #[.slice none 0 0,.bool false]))∧Gr w w'
attribute [local go_sem ↓] app_is
theorem rinv_any(a m n n':Nat)(p q:Option Addr)(w:World)(hp:Sl w p a)(hq:Sl w q m)(ha:dl a≤400)(hm:dl m≤400)(h1:1<m):
 Calls prog 71 #[.slice p (dl a) n,.slice q (dl m) n'] w (InvR a m w):=by
 have H1:Hid (∀w' r z k k' p1 p',dl r≤400→Sl w' p1 r→Sl w' p' 1→cmpZ r 1=z→Calls prog 33 #[.slice p1 (dl r) k,.slice p' 1 k'] w' fun e aj=>e=.returned (.int .i64 z)∧Gr w' aj):=fun w' r z k k' p1 p' h2 h3 h4 e=>e▸rcmp_any r 1 k k' p1 p' w' h3 h4 (by omega) (by decide)
 have aa:cmpZ m 1=1:=by unfold cmpZ;split <;> (try split) <;> omega
 have H:=fun w' k' p' (g:Gr w w') (h:Sl w' p' 1)=>H1.out w' m 1 n' k' q p' hm (hq.gr g) h aa;have f:=fun w' (g:Gr w w')=>rmod_any a m n n' p q w' (hp.gr g) (hq.gr g) (by omega) (by omega) (by omega);have I:=fun w' k p' x y (g:Gr w w') (h:Sl w' p' x) (hx:dl x≤400) (e:x%m=y)=>(e▸rmod_any x m k n' p' q w' h (hq.gr g) (by omega) (by omega) (by omega):Calls prog 36 #[.slice p' (dl x) k,.slice q (dl m) n'] w' (Nm y w'));have J:=fun w' k k' p1 p2 x y z (g:Gr w w') (s1:Sl w' p1 x) (s2:Sl w' p2 y) (l1:x<m) (l2:y<m) (e:x*y%m=z)=>(e▸rmulmod_any x y m k k' n' p1 p2 q w' s1 s2 (hq.gr g) (dl_low x m 400 (by omega) hm) (dl_low y m 400 (by omega) hm) hm (by omega):Calls prog 44 #[.slice p1 (dl x) k,.slice p2 (dl y) k',.slice q (dl m) n'] w' (Nm z w'));have L:=fun w' k k' p1 p2 x y z (g:Gr w w') (s1:Sl w' p1 x) (s2:Sl w' p2 y) (l1:x<m) (l2:y<m) (e:subM x y m=z)=>(e▸rsubmod_any x y m k k' n' p1 p2 q w' s1 s2 (hq.gr g) hm l1 l2:Calls prog 70 #[.slice p1 (dl x) k,.slice p2 (dl y) k',.slice q (dl m) n'] w' (Nm z w'));have P:=fun w' b (g:Gr w w')=>append_digits w' b n' m q (hq.gr g) (by omega);have Q:Hid _:=fun x hx=>dl_low x m 400 hx hm;have HS:Hid _:=RI.start a m h1;obtain⟨X,eX⟩:=exl (a%m);obtain⟨A,eA⟩:=exl (dl a);obtain⟨K,eK⟩:=exl (dl m);simp only[eX,eA,eK]at H f I J L P HS ⊢;have HC:Hid _:=H;have HM:Hid _:=f;have HQ:Hid _:=I;have S:Hid _:=J;have U:Hid _:=L;have HA:Hid _:=P;have HK:Hu (dl m=K∧1<m):=fun _=>⟨eK,h1⟩;have aq:∀w,(bslS 25 1 #[(0,.int .u32 1)]).run prog w=.ok (.slice (some ⟨w.heap.size,0,none⟩) 1 1) (w.alloc (.cells (nd 1 1) 71)):=fun w=>build1 1 (by decide) w
 have ab:∀w,(bslS 25 0 #[]).run prog w=.ok (.slice (some ⟨w.heap.size,0,none⟩) 0 0) (w.alloc (.cells #[] 71)):=fun w=>by kernel_rfl
 clear H f I J L P hp hq ha hm h1 aa eX eA eK
 go_enter func71,ntmps71
 go_upto_region 6 with (first
  | (go_at_call 33;refine(HC.out _ _ _ ((Gr.refl _).alloc _) (sl_new w)).mono ?_;rintro e W1 ⟨rfl,G1⟩;have V:=(((Gr.refl w).alloc _).trans G1).alloc (.cells #[] 71);obtain⟨pr,cr,Wa,D,SR,GA⟩:=HA.out _ W1.heap.size V;have W:=V.trans GA)
  | (go_at_call 36;refine(HM.out _ W).mono ?_;rintro e W2 ⟨ps,ns,rfl,SS,G2⟩;have ac:=W.trans G2;have ae:=SR.gr G2))
 have j:Hid (Sl W2 pr m∧Sl W2 ps X∧Gr w W2):=⟨ae,SS,ac⟩;clear D HC HM HA SR GA W SS G2 ac ae G1 V
 go_loopw [6,7,8,9] (fun ra sa ta ua wr=>∃(r s t u n1 n2 n3 n4:Nat) (p1 p2 p3 p4:Option Addr),ra=.slice p1 (dl r) n1∧sa=.slice p2 (dl s) n2∧ta=.slice p3 (dl t) n3∧ua=.slice p4 (dl u) n4∧Hid (RI a m r s t u)∧Hid (Sl wr p1 r∧Sl wr p2 s∧Sl wr p3 t∧Sl wr p4 u∧Gr w wr)) (fun _ sa _ _ wr=>mS wr sa)
 case atStart=>
  refine⟨m,X,0,1,cr,ns,0,1,pr,ps,none,some ⟨W2.heap.size,0,none⟩,by rw[(HK.out ()).1],rfl,rfl,rfl,HS,⟨j.out.1.gr ((Gr.refl _).alloc _),j.out.2.1.gr ((Gr.refl _).alloc _),Sl.zero _ _,sl_new W2,j.out.2.2.alloc _⟩⟩
 case round=>
  obtain⟨r,s,t,u,n1,n2,n3,n4,p1,p2,p3,p4,rfl,rfl,rfl,rfl,HI,d⟩:=hrel;clear HS j
  by_cases hs:s=0
  ·subst hs;obtain⟨l1,l2,l3⟩:=HI.out.last (HK.out ()).2;have B:=Q.out r HI.out.rm;have Y:=HI.out.tm;rw[dl_zero]
   by_cases hr1:r=1
   ·have Z:Hid _:=fun w' k' p' g h=>H1.out w' r 0 n1 k' p1 p' B g h (by rw[hr1];rfl);have HE:Hid (Nat.gcd m a=1∧a*t%m=1∧t<m):=⟨by rw[←l1];exact hr1,l3 hr1,Y⟩;clear H1 HQ S U Q HK HI hr1 l1 l2 l3 B Y ab
    go_wp2_with (go_at_call 33;refine(Z.out _ _ _ (d.out.1.gr ((Gr.refl _).alloc _)) (sl_new _)).mono ?_;rintro e W3 ⟨rfl,G⟩;have C:=((Gr.refl _).alloc _).trans G)
    go_ret2
    exact⟨fun _=>⟨t,p3,n3,HE.out.2.2,HE.out.2.1,rfl,d.out.2.2.1.gr C⟩,fun h=>absurd HE.out.1 h,d.out.2.2.2.2.trans C⟩
   ·have Z:Hid _:=fun w' k' p' g h=>H1.out w' r 1 n1 k' p1 p' B g h (by unfold cmpZ;split <;> (try split) <;> omega)
    have HE:Hid (¬Nat.gcd m a=1):=by rw[←l1];exact hr1
    clear H1 HQ S U Q HK HI hr1 l1 l2 l3 B Y ab
    go_wp2_with (go_at_call 33;refine(Z.out _ _ _ (d.out.1.gr ((Gr.refl _).alloc _)) (sl_new _)).mono ?_;rintro e W3 ⟨rfl,G⟩;have C:=((Gr.refl _).alloc _).trans G)
    go_ret2
    exact⟨fun h=>absurd h HE.out,fun _=>rfl,d.out.2.2.2.2.trans C⟩
  ·have s0:0<s:=by omega
   have ak:(0:Int)<((dl s:Nat):Int):=by
    have:dl s≠0:=fun e=>hs (dl_eq_zero s e)
    omega
   have ar:=decide_eq_true ak;obtain⟨b,hb⟩:=exl (r/s);obtain⟨v,hv⟩:=exl (r%s);obtain⟨y,hy⟩:=exl (b%m);obtain⟨c,H⟩:=exl (y*u%m);obtain⟨x,hx⟩:=exl (subM t c m);have hi:=HI.out
   have af:0<m:=by have:=(HK.out ()).2;omega
   have HN:=hi.step s0 b v c x hb hv (by rw[hy];exact H) hx
   have au:b≤r:=by rw[←hb];exact Nat.div_le_self _ _
   have i:Hid (b%m=y∧y*u%m=c∧subM t c m=x∧dl b≤400∧y<m∧u<m∧t<m∧c<m∧dl v≤400∧RI a m s v u x∧v<s):=⟨hy,H,hx,Q.out b (by have:=hi.rm;omega),by rw[←hy];exact Nat.mod_lt _ af,hi.um,hi.tm,by rw[←H];exact Nat.mod_lt _ af,Q.out v (by have:=hi.sm;have:=HN.2;omega),HN.1,HN.2⟩
   have HD:Hu (Calls prog 67 #[.slice p1 (dl r) n1,.slice p2 (dl s) n2] wr (Nm2 b v wr)):=fun _=>by
    have h:=rdiv_any r s n1 n2 p1 p2 wr d.out.1 d.out.2.1 (by have:=Q.out r hi.rm;omega) (by have:=Q.out s hi.sm;omega) s0;rw[hb,hv]at h;exact h
   go_wp2_with (first
    | (go_at_call 67;refine(HD.out ()).mono ?_;rintro e W3 ⟨pb,nb,pv,nv,rfl,Sb,Sv,G⟩;have ag:=d.out.2.2.2.2.trans G)
    | (go_at_call 36;refine(HQ.out _ nb pb b y ag Sb i.out.2.2.2.1 i.out.1).mono ?_;rintro e W4 ⟨py,ny,rfl,Sy,G4⟩;have ah:=ag.trans G4)
    | (go_at_call 44;refine(S.out _ ny n4 py p4 y u c ah Sy (d.out.2.2.2.1.gr (G.trans G4)) i.out.2.2.2.2.1 i.out.2.2.2.2.2.1 i.out.2.1).mono ?_;rintro e W5 ⟨pc,nc,rfl,Sc,G5⟩;have ai:=ah.trans G5)
    | (go_at_call 70;refine(U.out _ n3 nc p3 pc t c x ai (d.out.2.2.1.gr ((G.trans G4).trans G5)) Sc i.out.2.2.2.2.2.2.1 i.out.2.2.2.2.2.2.2.1 i.out.2.2.1).mono ?_;rintro e W6 ⟨px,nx,rfl,Sx,G6⟩;have ao:=(ai.trans G6).alloc (.cells #[] 71);have GG:=(((G4.trans G5).trans G6).alloc (.cells #[] 71));obtain⟨ap,cw,Wa,D,SV,GA⟩:=append_digits _ W6.heap.size nv v pv (Sv.gr GG) (Nat.le_trans i.out.2.2.2.2.2.2.2.2.1 (by decide))))
   go_roundw
   case rel=>
    have GT:=(G.trans GG).trans GA;exact⟨s,v,u,x,n2,cw,n4,nx,p2,ap,p4,px,rfl,rfl,rfl,rfl,i.out.2.2.2.2.2.2.2.2.2.1,⟨d.out.2.1.gr GT,SV,d.out.2.2.2.1.gr GT,Sx.gr (((Gr.refl _).alloc _).trans GA),ao.trans GA⟩⟩
   case measure=>
    rw[mS_is SV,mS_is d.out.2.1];exact i.out.2.2.2.2.2.2.2.2.2.2
end
end
section
section
variable {a b m c n n' n'':Nat} {p q r:Option Addr} {w:World}
theorem mm_any(sa:Sl w p a)(sb:Sl w q b)(sm:Sl w r m)(ha:a<m)(hb:b<m)(hm:dl m≤400)(hc:a*b%m=c):
 Calls prog 44 #[.slice p (dl a) n,.slice q (dl b) n',.slice r (dl m) n''] w (Rt (.n c) w):=
 Rt.n (hc▸rmulmod_any a b m n n' n'' p q r w sa sb sm (dl_low a m 400 (by omega) hm) (dl_low b m 400 (by omega) hm) hm (by omega))
theorem am_any(sa:Sl w p a)(sb:Sl w q b)(sm:Sl w r m)(ha:a<m)(hb:b<m)(hm:dl m≤400)(hc:(a+b)%m=c):
 Calls prog 43 #[.slice p (dl a) n,.slice q (dl b) n',.slice r (dl m) n''] w (Rt (.n c) w):=
 Rt.n (hc▸raddmod_any a b m n n' n'' p q r w sa sb sm hm ha hb)
theorem sm_any(sa:Sl w p a)(sb:Sl w q b)(sm:Sl w r m)(ha:a<m)(hb:b<m)(hm:dl m≤400)(hc:subM a b m=c):
 Calls prog 70 #[.slice p (dl a) n,.slice q (dl b) n',.slice r (dl m) n''] w (Rt (.n c) w):=
 Rt.n (hc▸rsubmod_any a b m n n' n'' p q r w sa sb sm hm ha hb)
theorem iv_any(sa:Sl w p a)(sm:Sl w r m)(ha:a<m)(hm:dl m≤400)(h1:1<m)(hc:c<m)(hac:a*c%m=1):
 Calls prog 71 #[.slice p (dl a) n,.slice r (dl m) n'] w (Rt (.nb c true) w):=by
 have i:Nat.gcd m a=1:=by
  have h1:=Nat.gcd_dvd_left m a;have j:=Nat.dvd_trans (Nat.gcd_dvd_right m a) (Nat.dvd_mul_right a c);have f:=(Nat.dvd_mod_iff h1).2 j;rw[hac]at f;exact Nat.dvd_one.1 f
 refine(rinv_any a m n n' p r w sa sm (dl_low a m 400 (by omega) hm) hm h1).mono fun e B h=>?_;obtain⟨t,C,k,q,d,x,A⟩:=h.1 i;obtain rfl:=inv_one a m t c q hc d hac;exact⟨_,x,⟨_,_,rfl,A⟩,h.2.2⟩
theorem cz_any{z:Int}(sa:Sl w p a)(sb:Sl w q b)(ha:dl a≤400)(hb:dl b≤400)(hz:cmpZ a b=z):
 Calls prog 33 #[.slice p (dl a) n,.slice q (dl b) n'] w (Rt (.c (.int .i64 z)) w):=
 Rt.c (hz▸rcmp_any a b n n' p q w sa sb (by omega) (by omega))
theorem nt_any(sa:Sl w p a):Calls prog 35 #[.slice p (dl a) n] w (Rt (.c (.agg (nw 9 a))) w):=Rt.c (rnat_any a n p w sa)
theorem fm_any(ha:a<M):Calls prog 19 #[.agg (nw 9 a)] w (Rt (.n a) w):=Rt.n (from_any a ha w)
end
theorem subM_lt{a b m:Nat}(ha:a<m)(hb:b<m):subM a b m<m:=by unfold subM;split <;> omega
end
section
section
variable (p:Option Addr) (x n:Nat) (q:Option Addr) (y m:Nat) (f:Bool)
theorem ptA_size:(ptA p x n q y m f).size=3:=rfl
theorem ptA_one:(ptA p x n q y m f).all (·.oneCell')=true:=by simp[ptA,Value.oneCell']
theorem loadPt_is:LdI 38:=fun _=>rfl
theorem storePt_is:StI 38:=fun _ _=>rfl
theorem loadPt:LdS 38 3:=ldS
theorem storePt:StS 38 3 (ptA p x n q y m f):=stS (ptA_size p x n q y m f) (ptA_one p x n q y m f)
theorem zvPt_is:zeroValue 38=zvS 38:=rfl
theorem zvPt(w:World):(zvS 38).run prog w=.ok (.agg (ptA none 0 0 none 0 0 false)) w:=by kernel_rfl
theorem buildPt_is(p:Array (Nat×Value)):Instr.build 38 p=buildF 38 p:=rfl
theorem buildPt3(w:World):(buildF 38 #[(0,.slice p (dl x) n),(1,.slice q (dl y) m),(2,.bool f)]).run prog w=.ok (.agg (ptA p x n q y m f)) w:=by kernel_rfl
theorem buildPt2(w:World):(buildF 38 #[(0,.slice p (dl x) n),(1,.slice q (dl y) m)]).run prog w=.ok (.agg (ptA p x n q y m false)) w:=by kernel_rfl
theorem buildPtI(w:World):(buildF 38 #[(2,.bool f)]).run prog w=.ok (.agg (ptA none 0 0 none 0 0 f)) w:=by kernel_rfl
theorem rd_pt:RdC 38 (ptA p x n q y m f):=rdC 3 (ptA_size p x n q y m f)
theorem ptA_no(i:Nat)(z:Int):(ptA p x n q y m f)[i]? ≠ some (Value.int .u32 z):=by
 intro h
 match i,h with
 | 0,h=>simp[ptA]at h
 | 1,h=>simp[ptA]at h
 | 2,h=>simp[ptA]at h
 | k+3,h=>simp[ptA]at h
end
abbrev uz8:=And.intro @loadPt_is<|And.intro @storePt_is<|And.intro @zvPt_is<|And.intro @buildPt_is<|And.intro @loadC_is<|And.intro @loadPn_is<|And.intro @loadCu_is<|And.intro @storePn_is<|And.intro @zvPn_is<|And.intro @buildPn_is<|And.intro @storeCu_is<|And.intro @zvCu_is @buildCu_is
abbrev uz9:=And.intro @loadPt<|And.intro @storePt<|And.intro @zvPt<|And.intro @buildPt3<|And.intro @buildPt2<|And.intro @buildPtI<|And.intro @ptA_size<|And.intro @crA_size<|And.intro @loadC<|And.intro @loadPn<|And.intro @loadPX<|And.intro @loadPY<|And.intro @pnt_size<|And.intro @pnt_X<|And.intro @pnt_Y<|And.intro @storePn<|And.intro @zvPn<|And.intro @buildPn2<|And.intro @buildPn3<|And.intro @storeCu<|And.intro @zvCu<|And.intro @buildCu9<|And.intro @cu_size @loadCu
abbrev uz12:=And.intro @bsl_is<|And.intro @loadC_is<|And.intro @storeC_is<|And.intro @loadPt_is<|And.intro @storePt_is<|And.intro @zvPt_is<|And.intro @buildPt_is<|And.intro @loadPn_is<|And.intro @storePn_is<|And.intro @zvPn_is<|And.intro @loadCu_is<|And.intro @storeCu_is<|And.intro @zvCu_is<|And.intro @buildCu_is @buildPn_is
abbrev uz13:=And.intro @loadC<|And.intro @storeC0<|And.intro @storeCr<|And.intro @crA_size<|And.intro @loadPt<|And.intro @storePt<|And.intro @zvPt<|And.intro @ptA_size<|And.intro @loadPn<|And.intro @storePn<|And.intro @zvPn<|And.intro @pnt_size<|And.intro @loadCu<|And.intro @storeCu<|And.intro @zvCu<|And.intro @cu_size<|And.intro @buildCu0<|And.intro @buildPnI<|And.intro @buildPn2<|And.intro @loadCP<|And.intro @loadCA<|And.intro @loadCB<|And.intro @loadCN<|And.intro @loadCG<|And.intro @loadCX<|And.intro @loadCY<|And.intro @cu_P<|And.intro @cu_A<|And.intro @cu_B<|And.intro @cu_N<|And.intro @cu_G<|And.intro @cu_X<|And.intro @cu_Y<|And.intro @frz_setBlk<|And.intro @blk_setBlk<|And.intro @setBlk_setBlk @blk_other
end
section
attribute [local go_sem ↓] uz1
attribute [local go_sem] uz2
section
attribute [local go_sem ↓] uz8 Go.wp_at_zero Go.wp_at_succ
attribute [local go_sem] uz9
theorem dl_nought(x:Nat):((dl x:Int)==0)=decide (x=0):=by
 by_cases h:x=0
 ·subst h;rfl
 grind [dl,dl_eq_zero]
theorem cmpZ_nought(a b:Nat):(cmpZ a b==0)=decide (a=b):=by
 grind [cmpZ]
theorem rout_any(x y:Nat)(f:Bool)(p q:Option Addr)(n m:Nat)(w:World)(Sx:Sl w p x)(Sy:Sl w q y):
 Cg 17 #[.agg (ptA p x n q y m f)] w (.agg (pnt x y f)):=by
 go_enter func17,ntmps17
 go_upto_region 1 with fail
 refine gen_w (fun v=>Gr w v∧Vr v (w.heap.size) (ptA p x n q y m f)∧Vr v (w.heap.size+1) (pnt 0 0 false)) ⟨grA,vrA,vrA⟩ ?_;rintro K ⟨G,j,A⟩;replace Sx:=Sx.gr G;replace Sy:=Sy.gr G;refine wp_wT 9 [.c (pv (w.heap.size) 0),.c (.slice p (dl (x)) n),.N x,.c (pv (w.heap.size) 1),.c (.slice q (dl (y)) m),.N y,.c (pv (w.heap.size) 2),.c (.bool f),.c (.agg (pnt x y f))] [1,2,4,5,7] ⟨.o 25 0 j rfl rfl,.k (fun i =>#[.slice p (dl (x)) n]) fun i C d D=>RtW.of_c (nt_any (Sx.gr d)),.o 25 1 j rfl rfl,.k (fun i =>#[.slice q (dl (y)) m]) fun i C d D=>RtW.of_c (nt_any (Sy.gr d)),.o 4 2 j rfl rfl,⟨⟩⟩ (.s 35 (fun i=>pv (w.heap.size+1) 0) (fun i=>.agg (pnt x y f)) fun H I d L=>?_);have B:=(A.gr d).h;have J:=(A.gr d).f;refine⟨setBlk I (w.heap.size+1) (pnt x y f),by simp[go_sem,exI,B,J],?_⟩;simp only[fzw];replace G:=G.trans d
 go_wp2_with fail
 exact bo1 results17 (rd_pn (by rfl) (blk_setBlk _ _ _ (by rw[B,pnt_size];decide))) ⟨rfl,gr_setNew G (by omega)⟩
end
section
attribute [local go_sem ↓] uz8 Go.wp_at_zero Go.wp_at_succ
attribute [local go_sem] uz9
theorem rplus_inf1(id:Int)(P A B N X Y:Nat)(qc:Nat→Option Addr×Nat)(x1 y1 x2 y2:Nat)(f:Bool)(p1 q1:Option Addr)(n1 m1:Nat)(p2 q2:Option Addr)(n2 m2:Nat)(w:World)(HQ:∀k,Sl w (qc k).1 (six P A B N X Y k))(Sx1:Sl w p1 x1)(Sy1:Sl w q1 y1)(Sx2:Sl w p2 x2)(Sy2:Sl w q2 y2):
 Calls prog 45 #[.agg (crA id (six P A B N X Y) qc),.agg (ptA p1 (x1) n1 q1 (y1) m1 true),.agg (ptA p2 (x2) n2 q2 (y2) m2 f)] w (Rt (.pt x2 y2 f) w):=by
 go_enter func45,ntmps45
 go_upto_region 1 with fail
 refine gen_w (fun v=>Gr w v∧Vr v (w.heap.size) (crA id (six P A B N X Y) qc)∧Vr v (w.heap.size+1) (ptA p1 (x1) n1 q1 (y1) m1 true)∧Vr v (w.heap.size+1+1) (ptA p2 (x2) n2 q2 (y2) m2 f)∧Vr v (w.heap.size+1+1+1) (ptA none 0 0 none 0 0 false)) ⟨grA,vrA,vrA,vrA,vrA⟩ ?_;rintro S ⟨G,U,x,C,q⟩;replace HQ:=fun k=>(HQ k).gr G;replace Sx1:=Sx1.gr G;replace Sy1:=Sy1.gr G;replace Sx2:=Sx2.gr G;replace Sy2:=Sy2.gr G;refine wp_wS [.c (pv (w.heap.size+1) 2),.T] [1] ⟨.o 4 2 x rfl rfl,⟨⟩⟩ fun D V i H=>?_;simp only[fzw];clear H;have d:=i;clear i
 go_upto_region 2 with fail
 refine wp_wTS 1 [.c (.agg (ptA p2 (x2) n2 q2 (y2) m2 f))] [0] ⟨.g 38 0 (C.gr d) rfl,⟨⟩⟩ (.s 38 (fun I=>pv (w.heap.size+1+1+1) 0) (fun I=>.agg (ptA p2 (x2) n2 q2 (y2) m2 f)) fun J K i L=>?_);have j:=((q.gr d).gr i).h;have Q:=((q.gr d).gr i).f;refine⟨setBlk K (w.heap.size+1+1+1) (ptA p2 (x2) n2 q2 (y2) m2 f),by simp[go_sem,exI,j,Q],?_⟩;simp only[fzw];clear L;replace d:=d.trans i;replace G:=G.trans d;replace Sx2:=Sx2.gr d;replace Sy2:=Sy2.gr d
 go_wp2_with fail
 exact bo1 results45 (rd_pt _ _ _ _ _ _ _ (by rfl) (blk_setBlk _ _ _ (by rw[j];decide))) ⟨_,rfl,⟨_,_,_,_,rfl,Sl.set Sx2 (by rw[j];exact ptA_no _ _ _ _ _ _ _),Sl.set Sy2 (by rw[j];exact ptA_no _ _ _ _ _ _ _)⟩,gr_setNew G (by omega)⟩
theorem rplus_inf2(id:Int)(P A B N X Y:Nat)(qc:Nat→Option Addr×Nat)(x1 y1 x2 y2:Nat)(p1 q1:Option Addr)(n1 m1:Nat)(p2 q2:Option Addr)(n2 m2:Nat)(w:World)(HQ:∀k,Sl w (qc k).1 (six P A B N X Y k))(Sx1:Sl w p1 x1)(Sy1:Sl w q1 y1)(Sx2:Sl w p2 x2)(Sy2:Sl w q2 y2):
 Calls prog 45 #[.agg (crA id (six P A B N X Y) qc),.agg (ptA p1 (x1) n1 q1 (y1) m1 false),.agg (ptA p2 (x2) n2 q2 (y2) m2 true)] w (Rt (.pt x1 y1 false) w):=by
 go_enter func45,ntmps45
 go_upto_region 1 with fail
 refine gen_w (fun v=>Gr w v∧Vr v (w.heap.size) (crA id (six P A B N X Y) qc)∧Vr v (w.heap.size+1) (ptA p1 (x1) n1 q1 (y1) m1 false)∧Vr v (w.heap.size+1+1) (ptA p2 (x2) n2 q2 (y2) m2 true)∧Vr v (w.heap.size+1+1+1) (ptA none 0 0 none 0 0 false)) ⟨grA,vrA,vrA,vrA,vrA⟩ ?_;rintro W ⟨G,q,x,D,C⟩;replace HQ:=fun k=>(HQ k).gr G;replace Sx1:=Sx1.gr G;replace Sy1:=Sy1.gr G;replace Sx2:=Sx2.gr G;replace Sy2:=Sy2.gr G;refine wp_wS [.c (pv (w.heap.size+1) 2),.F] [1] ⟨.o 4 2 x rfl rfl,⟨⟩⟩ fun H Z i I=>?_;simp only[fzw];clear I;have d:=i;clear i
 go_upto_region 3 with fail
 refine wp_wS [.c (pv (w.heap.size+1+1) 2),.T] [1] ⟨.o 4 2 (D.gr d) rfl rfl,⟨⟩⟩ fun J v2 i K=>?_;simp only[fzw];clear K;replace d:=d.trans i;clear i
 go_upto_region 4 with fail
 refine wp_wTS 1 [.c (.agg (ptA p1 (x1) n1 q1 (y1) m1 false))] [0] ⟨.g 38 0 (x.gr d) rfl,⟨⟩⟩ (.s 38 (fun L=>pv (w.heap.size+1+1+1) 0) (fun L=>.agg (ptA p1 (x1) n1 q1 (y1) m1 false)) fun Q S i U=>?_);have j:=((C.gr d).gr i).h;have V:=((C.gr d).gr i).f;refine⟨setBlk S (w.heap.size+1+1+1) (ptA p1 (x1) n1 q1 (y1) m1 false),by simp[go_sem,exI,j,V],?_⟩;simp only[fzw];clear U;replace d:=d.trans i;clear i;replace G:=G.trans d;replace q:=q.gr d;replace Sx1:=Sx1.gr d;replace Sy1:=Sy1.gr d
 go_wp2_with fail
 exact bo1 results45 (rd_pt _ _ _ _ _ _ _ (by rfl) (blk_setBlk _ _ _ (by rw[j];decide))) ⟨_,rfl,⟨_,_,_,_,rfl,Sl.set Sx1 (by rw[j];exact ptA_no _ _ _ _ _ _ _),Sl.set Sy1 (by rw[j];exact ptA_no _ _ _ _ _ _ _)⟩,gr_setNew G (by omega)⟩
theorem rplus_op(id:Int)(P A B N X Y:Nat)(qc:Nat→Option Addr×Nat)(x y1 y2:Nat)(hd:dl P≤400)(lx:x<P)(ly1:y1<P)(ly2:y2<P)(hy:y1≠y2)(p1 q1:Option Addr)(n1 m1:Nat)(p2 q2:Option Addr)(n2 m2:Nat)(w:World)(HQ:∀k,Sl w (qc k).1 (six P A B N X Y k))(Sx1:Sl w p1 x)(Sy1:Sl w q1 y1)(Sx2:Sl w p2 x)(Sy2:Sl w q2 y2):
 Calls prog 45 #[.agg (crA id (six P A B N X Y) qc),.agg (ptA p1 (x) n1 q1 (y1) m1 false),.agg (ptA p2 (x) n2 q2 (y2) m2 false)] w (Rt (.pt 0 0 true) w):=by
 obtain⟨J,S⟩:=exl (cmpZ y1 y2)
 have W:(J != 0)=true:=by rw[bne,←S,cmpZ_nought,decide_eq_false hy];rfl
 go_enter func45,ntmps45
 go_upto_region 1 with fail
 refine gen_w (fun v=>Gr w v∧Vr v (w.heap.size) (crA id (six P A B N X Y) qc)∧Vr v (w.heap.size+1) (ptA p1 (x) n1 q1 (y1) m1 false)∧Vr v (w.heap.size+1+1) (ptA p2 (x) n2 q2 (y2) m2 false)∧Vr v (w.heap.size+1+1+1) (ptA none 0 0 none 0 0 false)) ⟨grA,vrA,vrA,vrA,vrA⟩ ?_;rintro v0 ⟨G,c1,K,L,U⟩;replace HQ:=fun k=>(HQ k).gr G;replace Sx1:=Sx1.gr G;replace Sy1:=Sy1.gr G;replace Sx2:=Sx2.gr G;replace Sy2:=Sy2.gr G;refine wp_wS [.c (pv (w.heap.size+1) 2),.F] [1] ⟨.o 4 2 K rfl rfl,⟨⟩⟩ fun Z v1 d h1=>?_;simp only[fzw];clear h1;have j:=d;clear d
 go_upto_region 3 with fail
 refine wp_wS [.c (pv (w.heap.size+1+1) 2),.F] [1] ⟨.o 4 2 (L.gr j) rfl rfl,⟨⟩⟩ fun aa v2 d h3=>?_;simp only[fzw];clear h3;replace j:=j.trans d;clear d
 go_upto_region 5 with fail
 refine wp_wS [.c (.slice none 0 0),.c (.slice none 0 0)] [] ⟨⟩ fun ab v3 d h5=>?_;simp only[fzw];clear h5;replace j:=j.trans d;clear d
 go_upto_region 6 with fail
 refine wp_wS [.c (pv (w.heap.size+1) 0),.c (.slice p1 (dl (x)) n1),.c (pv (w.heap.size+1+1) 0),.c (.slice p2 (dl (x)) n2),.O,.T] [1,3,4] ⟨.o 25 0 (K.gr j) rfl rfl,.o 25 0 (L.gr j) rfl rfl,.k (fun q =>#[.slice p1 (dl (x)) n1,.slice p2 (dl (x)) n2]) fun q Q d V=>RtW.of_c (cz_any (Sx1.gr (j.trans d)) (Sx2.gr (j.trans d)) (dl_low _ P 400 (by omega) hd) (dl_low _ P 400 (by omega) hd) (by unfold cmpZ;simp)),⟨⟩⟩ fun ac v4 d h6=>?_;simp only[fzw];clear h6;replace j:=j.trans d;clear d
 go_upto_region 7 with fail
 refine wp_wS [.c (pv (w.heap.size+1) 1),.c (.slice q1 (dl (y1)) m1),.c (pv (w.heap.size+1+1) 1),.c (.slice q2 (dl (y2)) m2),.c (.int .i64 J),.T,.T,.u,.u,.u,.u,.T] [1,3,4,5] ⟨.o 25 1 (K.gr j) rfl rfl,.o 25 1 (L.gr j) rfl rfl,.k (fun q =>#[.slice q1 (dl (y1)) m1,.slice q2 (dl (y2)) m2]) fun q Q d V=>RtW.of_c (cz_any (Sy1.gr (j.trans d)) (Sy2.gr (j.trans d)) (dl_low _ P 400 (by omega) hd) (dl_low _ P 400 (by omega) hd) S),.s (.binOp .neq 3 (.const (.int .i64 J)) (.const (.int .i64 0)) 3) rfl fun Q d=>by simp[go_sem,exI,W],⟨⟩⟩ fun ae v5 d h7=>?_;simp only[fzw];clear h7;replace j:=j.trans d;clear d
 go_upto_region 8 with fail
 refine wp_wTS 1 [.pt (0) (0) true] [0] ⟨.p (fun q i=>match i with|0=>(none,0)|_=>(none,0)) fun q Q d V=>⟨Sl.zero _ _,Sl.zero _ _⟩,⟨⟩⟩ (.s 38 (fun q=>pv (w.heap.size+1+1+1) 0) (fun q=>.agg (ptA (q 0 0).1 (0) (q 0 0).2 (q 0 1).1 (0) (q 0 1).2 true)) fun C v6 d h8=>?_);have I:=((U.gr j).gr d).h;have FT:=((U.gr j).gr d).f;refine⟨setBlk v6 (w.heap.size+1+1+1) (ptA (C 0 0).1 (0) (C 0 0).2 (C 0 1).1 (0) (C 0 1).2 true),by simp[go_sem,exI,I,FT],?_⟩;simp only[fzw];obtain⟨D,H⟩:=h8 0;replace j:=j.trans d;replace G:=G.trans j
 go_wp2_with fail
 exact bo1 results45 (rd_pt _ _ _ _ _ _ _ (by rfl) (blk_setBlk _ _ _ (by rw[I];decide))) ⟨_,rfl,⟨_,_,_,_,rfl,Sl.set D (by rw[I];exact ptA_no _ _ _ _ _ _ _),Sl.set H (by rw[I];exact ptA_no _ _ _ _ _ _ _)⟩,gr_setNew G (by omega)⟩
theorem rplus_flat(id:Int)(P A B N X Y:Nat)(qc:Nat→Option Addr×Nat)(x:Nat)(hd:dl P≤400)(lx:x<P)(p1 q1:Option Addr)(n1 m1:Nat)(p2 q2:Option Addr)(n2 m2:Nat)(w:World)(HQ:∀k,Sl w (qc k).1 (six P A B N X Y k))(Sx1:Sl w p1 x)(Sy1:Sl w q1 0)(Sx2:Sl w p2 x)(Sy2:Sl w q2 0):
 Calls prog 45 #[.agg (crA id (six P A B N X Y) qc),.agg (ptA p1 (x) n1 q1 (0) m1 false),.agg (ptA p2 (x) n2 q2 (0) m2 false)] w (Rt (.pt 0 0 true) w):=by
 go_enter func45,ntmps45
 go_upto_region 1 with fail
 refine gen_w (fun v=>Gr w v∧Vr v (w.heap.size) (crA id (six P A B N X Y) qc)∧Vr v (w.heap.size+1) (ptA p1 (x) n1 q1 (0) m1 false)∧Vr v (w.heap.size+1+1) (ptA p2 (x) n2 q2 (0) m2 false)∧Vr v (w.heap.size+1+1+1) (ptA none 0 0 none 0 0 false)) ⟨grA,vrA,vrA,vrA,vrA⟩ ?_;rintro v0 ⟨G,c1,I,K,Q⟩;replace HQ:=fun k=>(HQ k).gr G;replace Sx1:=Sx1.gr G;replace Sy1:=Sy1.gr G;replace Sx2:=Sx2.gr G;replace Sy2:=Sy2.gr G;refine wp_wS [.c (pv (w.heap.size+1) 2),.F] [1] ⟨.o 4 2 I rfl rfl,⟨⟩⟩ fun U v1 d V=>?_;simp only[fzw];clear V;have j:=d;clear d
 go_upto_region 3 with fail
 refine wp_wS [.c (pv (w.heap.size+1+1) 2),.F] [1] ⟨.o 4 2 (K.gr j) rfl rfl,⟨⟩⟩ fun W v2 d Z=>?_;simp only[fzw];clear Z;replace j:=j.trans d;clear d
 go_upto_region 5 with fail
 refine wp_wS [.c (.slice none 0 0),.c (.slice none 0 0)] [] ⟨⟩ fun aa v3 d h5=>?_;simp only[fzw];clear h5;replace j:=j.trans d;clear d
 go_upto_region 6 with fail
 refine wp_wS [.c (pv (w.heap.size+1) 0),.c (.slice p1 (dl (x)) n1),.c (pv (w.heap.size+1+1) 0),.c (.slice p2 (dl (x)) n2),.O,.T] [1,3,4] ⟨.o 25 0 (I.gr j) rfl rfl,.o 25 0 (K.gr j) rfl rfl,.k (fun q =>#[.slice p1 (dl (x)) n1,.slice p2 (dl (x)) n2]) fun q L d S=>RtW.of_c (cz_any (Sx1.gr (j.trans d)) (Sx2.gr (j.trans d)) (dl_low _ P 400 (by omega) hd) (dl_low _ P 400 (by omega) hd) (by unfold cmpZ;simp)),⟨⟩⟩ fun ab v4 d h6=>?_;simp only[fzw];clear h6;replace j:=j.trans d;clear d
 go_upto_region 7 with fail
 refine wp_wS [.c (pv (w.heap.size+1) 1),.c (.slice q1 (dl (0)) m1),.c (pv (w.heap.size+1+1) 1),.c (.slice q2 (dl (0)) m2),.O,.F,.F,.c (pv (w.heap.size+1) 1),.c (.slice q1 (dl (0)) m1),.c (.int .i64 (dl (0))),.T,.T] [1,3,4,8,10] ⟨.o 25 1 (I.gr j) rfl rfl,.o 25 1 (K.gr j) rfl rfl,.k (fun q =>#[.slice q1 (dl (0)) m1,.slice q2 (dl (0)) m2]) fun q L d S=>RtW.of_c (cz_any (Sy1.gr (j.trans d)) (Sy2.gr (j.trans d)) (dl_low _ P 400 (by omega) hd) (dl_low _ P 400 (by omega) hd) (by unfold cmpZ;simp)),.o 25 1 (I.gr j) rfl rfl,.s (.binOp .eql 3 (.const (.int .i64 (dl (0)))) (.const (.int .i64 0)) 3) rfl fun L d=>by simp[go_sem,exI,dl_zero],⟨⟩⟩ fun ac v5 d h7=>?_;simp only[fzw];clear h7;replace j:=j.trans d;clear d
 go_upto_region 8 with fail
 refine wp_wTS 1 [.pt (0) (0) true] [0] ⟨.p (fun q i=>match i with|0=>(none,0)|_=>(none,0)) fun q L d S=>⟨Sl.zero _ _,Sl.zero _ _⟩,⟨⟩⟩ (.s 38 (fun q=>pv (w.heap.size+1+1+1) 0) (fun q=>.agg (ptA (q 0 0).1 (0) (q 0 0).2 (q 0 1).1 (0) (q 0 1).2 true)) fun C v6 d h8=>?_);have J:=((Q.gr j).gr d).h;have FT:=((Q.gr j).gr d).f;refine⟨setBlk v6 (w.heap.size+1+1+1) (ptA (C 0 0).1 (0) (C 0 0).2 (C 0 1).1 (0) (C 0 1).2 true),by simp[go_sem,exI,J,FT],?_⟩;simp only[fzw];obtain⟨D,H⟩:=h8 0;replace j:=j.trans d;replace G:=G.trans j
 go_wp2_with fail
 exact bo1 results45 (rd_pt _ _ _ _ _ _ _ (by rfl) (blk_setBlk _ _ _ (by rw[J];decide))) ⟨_,rfl,⟨_,_,_,_,rfl,Sl.set D (by rw[J];exact ptA_no _ _ _ _ _ _ _),Sl.set H (by rw[J];exact ptA_no _ _ _ _ _ _ _)⟩,gr_setNew G (by omega)⟩
end
section
attribute [local go_sem ↓] uz8 Go.wp_at_zero Go.wp_at_succ
attribute [local go_sem] uz9
theorem rplus_dbl(id:Int)(P A B N X Y:Nat)(qc:Nat→Option Addr×Nat)(x y:Nat)(hd:dl P≤400)(lx:x<P)(ly:y<P)(lA:A<P)(h0:y≠0)(h1P:1<P)(p1 q1:Option Addr)(n1 m1:Nat)(p2 q2:Option Addr)(n2 m2:Nat)(iv:Nat)(t1:Nat)(ht1:x*x%P=t1)(t2:Nat)(ht2:(t1+t1)%P=t2)(t3:Nat)(ht3:(t1+t2)%P=t3)(t4:Nat)(ht4:(t3+A)%P=t4)(t5:Nat)(ht5:(y+y)%P=t5)(t6:Nat)(ht6:t4*iv%P=t6)(t7:Nat)(ht7:t6*t6%P=t7)(t8:Nat)(ht8:subM t7 x P=t8)(t9:Nat)(ht9:subM t8 x P=t9)(t10:Nat)(ht10:subM x t9 P=t10)(t11:Nat)(ht11:t6*t10%P=t11)(t12:Nat)(ht12:subM t11 y P=t12)(liv:iv<P)(hiv:t5*iv%P=1)(w:World)(HQ:∀k,Sl w (qc k).1 (six P A B N X Y k))(Sx1:Sl w p1 x)(Sy1:Sl w q1 y)(Sx2:Sl w p2 x)(Sy2:Sl w q2 y):
 Calls prog 45 #[.agg (crA id (six P A B N X Y) qc),.agg (ptA p1 (x) n1 q1 (y) m1 false),.agg (ptA p2 (x) n2 q2 (y) m2 false)] w (Rt (.pt t9 t12 false) w):=by
 have hP:0<P:=by omega
 have zy:((dl y:Int)==0)=false:=by rw[dl_nought,decide_eq_false h0]
 have aj:=ht1▸Nat.mod_lt _ hP;have aH:=ht2▸Nat.mod_lt _ hP;have aI:=ht3▸Nat.mod_lt _ hP;have aJ:=ht4▸Nat.mod_lt _ hP;have aK:=ht5▸Nat.mod_lt _ hP;have ak:=ht6▸Nat.mod_lt _ hP;have av:=ht7▸Nat.mod_lt _ hP;have aw:=ht8▸subM_lt av lx;have ax:=ht9▸subM_lt aw lx;have ay:=ht10▸subM_lt lx ax;have ai:=ht11▸Nat.mod_lt _ hP;have aO:=ht12▸subM_lt ai ly
 go_enter func45,ntmps45
 go_upto_region 1 with fail
 refine gen_w (fun v=>Gr w v∧Vr v (w.heap.size) (crA id (six P A B N X Y) qc)∧Vr v (w.heap.size+1) (ptA p1 (x) n1 q1 (y) m1 false)∧Vr v (w.heap.size+1+1) (ptA p2 (x) n2 q2 (y) m2 false)∧Vr v (w.heap.size+1+1+1) (ptA none 0 0 none 0 0 false)) ⟨grA,vrA,vrA,vrA,vrA⟩ ?_;rintro v0 ⟨G,S,c2,c3,c4⟩;replace HQ:=fun k=>(HQ k).gr G;replace Sx1:=Sx1.gr G;replace Sy1:=Sy1.gr G;replace Sx2:=Sx2.gr G;replace Sy2:=Sy2.gr G;refine wp_wS [.c (pv (w.heap.size+1) 2),.F] [1] ⟨.o 4 2 c2 rfl rfl,⟨⟩⟩ fun aP v1 d h1=>?_;simp only[fzw];clear h1;have j:=d;clear d
 go_upto_region 3 with fail
 refine wp_wS [.c (pv (w.heap.size+1+1) 2),.F] [1] ⟨.o 4 2 (c3.gr j) rfl rfl,⟨⟩⟩ fun aQ v2 d h3=>?_;simp only[fzw];clear h3;replace j:=j.trans d;clear d
 go_upto_region 5 with fail
 refine wp_wS [.c (.slice none 0 0),.c (.slice none 0 0)] [] ⟨⟩ fun aR v3 d h5=>?_;simp only[fzw];clear h5;replace j:=j.trans d;clear d
 go_upto_region 6 with fail
 refine wp_wS [.c (pv (w.heap.size+1) 0),.c (.slice p1 (dl (x)) n1),.c (pv (w.heap.size+1+1) 0),.c (.slice p2 (dl (x)) n2),.O,.T] [1,3,4] ⟨.o 25 0 (c2.gr j) rfl rfl,.o 25 0 (c3.gr j) rfl rfl,.k (fun q =>#[.slice p1 (dl (x)) n1,.slice p2 (dl (x)) n2]) fun q L d I=>RtW.of_c (cz_any (Sx1.gr (j.trans d)) (Sx2.gr (j.trans d)) (dl_low _ P 400 (by omega) hd) (dl_low _ P 400 (by omega) hd) (by unfold cmpZ;simp)),⟨⟩⟩ fun aS v4 d h6=>?_;simp only[fzw];clear h6;replace j:=j.trans d;clear d
 go_upto_region 7 with fail
 refine wp_wS [.c (pv (w.heap.size+1) 1),.c (.slice q1 (dl (y)) m1),.c (pv (w.heap.size+1+1) 1),.c (.slice q2 (dl (y)) m2),.O,.F,.F,.c (pv (w.heap.size+1) 1),.c (.slice q1 (dl (y)) m1),.c (.int .i64 (dl (y))),.F,.F] [1,3,4,8,10] ⟨.o 25 1 (c2.gr j) rfl rfl,.o 25 1 (c3.gr j) rfl rfl,.k (fun q =>#[.slice q1 (dl (y)) m1,.slice q2 (dl (y)) m2]) fun q L d I=>RtW.of_c (cz_any (Sy1.gr (j.trans d)) (Sy2.gr (j.trans d)) (dl_low _ P 400 (by omega) hd) (dl_low _ P 400 (by omega) hd) (by unfold cmpZ;simp)),.o 25 1 (c2.gr j) rfl rfl,.s (.binOp .eql 3 (.const (.int .i64 (dl (y)))) (.const (.int .i64 0)) 3) rfl fun L d=>by simp[go_sem,exI,zy],⟨⟩⟩ fun aT v5 d h7=>?_;simp only[fzw];clear h7;replace j:=j.trans d;clear d
 go_upto_region 9 with fail
 refine wp_wS [.c (pv (w.heap.size+1) 0),.c (.slice p1 (dl (x)) n1),.c (pv (w.heap.size+1) 0),.c (.slice p1 (dl (x)) n1),.c (pv (w.heap.size) 1),.c (.slice (qc 0).1 (dl (P)) (qc 0).2),.n (t1),.n (t1)] [1,3,5,6,7] ⟨.o 25 0 (c2.gr j) rfl rfl,.o 25 0 (c2.gr j) rfl rfl,.o 25 1 (S.gr j) rfl rfl,.k (fun q =>#[.slice p1 (dl (x)) n1,.slice p1 (dl (x)) n1,.slice (qc 0).1 (dl (P)) (qc 0).2]) fun q L d I=>RtW.of_n (mm_any (Sx1.gr (j.trans d)) (Sx1.gr (j.trans d)) ((HQ 0).gr (j.trans d)) lx lx hd ht1),.m 6,⟨⟩⟩ fun H v6 d h9=>?_;simp only[fzw];have ae:=h9 7;clear h9;replace j:=j.trans d;clear d
 go_upto_region 10 with fail
 refine wp_w [.c (.slice (H 7 0).1 (dl (t1)) (H 7 0).2),.c (.slice (H 7 0).1 (dl (t1)) (H 7 0).2),.c (.slice (H 7 0).1 (dl (t1)) (H 7 0).2),.c (pv (w.heap.size) 1),.c (.slice (qc 0).1 (dl (P)) (qc 0).2),.n (t2),.c (pv (w.heap.size) 1),.c (.slice (qc 0).1 (dl (P)) (qc 0).2),.n (t3),.c (pv (w.heap.size) 2),.c (.slice (qc 1).1 (dl (A)) (qc 1).2),.c (pv (w.heap.size) 1),.c (.slice (qc 0).1 (dl (P)) (qc 0).2),.n (t4),.n (t4)] [4,5,7,8,10,12,13,14] ⟨.o 25 1 (S.gr j) rfl rfl,.k (fun q =>#[.slice (H 7 0).1 (dl (t1)) (H 7 0).2,.slice (H 7 0).1 (dl (t1)) (H 7 0).2,.slice (qc 0).1 (dl (P)) (qc 0).2]) fun q L d I=>RtW.of_n (am_any (ae.gr d) (ae.gr d) ((HQ 0).gr (j.trans d)) aj aj hd ht2),.o 25 1 (S.gr j) rfl rfl,.k (fun q =>#[.slice (H 7 0).1 (dl (t1)) (H 7 0).2,.slice (q 5 0).1 (dl (t2)) (q 5 0).2,.slice (qc 0).1 (dl (P)) (qc 0).2]) fun q L d I=>RtW.of_n (am_any (ae.gr d) (I 5 rfl) ((HQ 0).gr (j.trans d)) aj aH hd ht3),.o 25 2 (S.gr j) rfl rfl,.o 25 1 (S.gr j) rfl rfl,.k (fun q =>#[.slice (q 8 0).1 (dl (t3)) (q 8 0).2,.slice (qc 1).1 (dl (A)) (qc 1).2,.slice (qc 0).1 (dl (P)) (qc 0).2]) fun q L d I=>RtW.of_n (am_any (I 8 rfl) ((HQ 1).gr (j.trans d)) ((HQ 0).gr (j.trans d)) aI lA hd ht4),.m 13,⟨⟩⟩ fun U v7 d az=>?_;simp only[fzw];have af:=az 14;clear az;replace j:=j.trans d;have J:=d;clear d
 go_upto_region 11 with fail
 refine wp_wS [.c (pv (w.heap.size+1) 1),.c (.slice q1 (dl (y)) m1),.c (pv (w.heap.size+1) 1),.c (.slice q1 (dl (y)) m1),.c (pv (w.heap.size) 1),.c (.slice (qc 0).1 (dl (P)) (qc 0).2),.n (t5),.n (t5)] [1,3,5,6,7] ⟨.o 25 1 (c2.gr j) rfl rfl,.o 25 1 (c2.gr j) rfl rfl,.o 25 1 (S.gr j) rfl rfl,.k (fun q =>#[.slice q1 (dl (y)) m1,.slice q1 (dl (y)) m1,.slice (qc 0).1 (dl (P)) (qc 0).2]) fun q L d I=>RtW.of_n (am_any (Sy1.gr (j.trans d)) (Sy1.gr (j.trans d)) ((HQ 0).gr (j.trans d)) ly ly hd ht5),.m 6,⟨⟩⟩ fun V v8 d aA=>?_;simp only[fzw];have ao:=aA 7;clear aA;replace j:=j.trans d;replace J:=J.trans d;have K:=d;clear d
 go_upto_region 14 with fail
 refine wp_wS [.c (.slice (V 7 0).1 (dl (t5)) (V 7 0).2),.c (pv (w.heap.size) 1),.c (.slice (qc 0).1 (dl (P)) (qc 0).2),.nb (iv) true,.nb (iv) true,.n (iv),.T,.n (iv),.T] [2,3,4,5,6,7] ⟨.o 25 1 (S.gr j) rfl rfl,.k (fun q =>#[.slice (V 7 0).1 (dl (t5)) (V 7 0).2,.slice (qc 0).1 (dl (P)) (qc 0).2]) fun q L d I=>RtW.of_nb (iv_any (ao.gr d) ((HQ 0).gr (j.trans d)) aK hd h1P liv hiv),.m 3,.m 4,.m 4,.m 5,⟨⟩⟩ fun W v9 d aB=>?_;simp only[fzw];have ap:=aB 7;clear aB;replace j:=j.trans d;replace J:=J.trans d;replace K:=K.trans d;have ac:=d;clear d
 go_upto_region 15 with fail
 refine wp_wS [.c (.slice (U 14 0).1 (dl (t4)) (U 14 0).2),.c (.slice (W 7 0).1 (dl (iv)) (W 7 0).2),.c (pv (w.heap.size) 1),.c (.slice (qc 0).1 (dl (P)) (qc 0).2),.n (t6),.n (t6)] [3,4,5] ⟨.o 25 1 (S.gr j) rfl rfl,.k (fun q =>#[.slice (U 14 0).1 (dl (t4)) (U 14 0).2,.slice (W 7 0).1 (dl (iv)) (W 7 0).2,.slice (qc 0).1 (dl (P)) (qc 0).2]) fun q L d I=>RtW.of_n (mm_any (af.gr (K.trans d)) (ap.gr d) ((HQ 0).gr (j.trans d)) aJ liv hd ht6),.m 4,⟨⟩⟩ fun C aU d aC=>?_;simp only[fzw];have Q:=aC 5;clear aC;replace j:=j.trans d;replace J:=J.trans d;replace K:=K.trans d;replace ac:=ac.trans d;have ag:=d;clear d
 go_upto_region 16 with fail
 refine wp_w [.c (.slice (C 5 0).1 (dl (t6)) (C 5 0).2),.c (.slice (C 5 0).1 (dl (t6)) (C 5 0).2),.c (pv (w.heap.size) 1),.c (.slice (qc 0).1 (dl (P)) (qc 0).2),.n (t7),.c (pv (w.heap.size+1) 0),.c (.slice p1 (dl (x)) n1),.c (pv (w.heap.size) 1),.c (.slice (qc 0).1 (dl (P)) (qc 0).2),.n (t8),.c (pv (w.heap.size+1+1) 0),.c (.slice p2 (dl (x)) n2),.c (pv (w.heap.size) 1),.c (.slice (qc 0).1 (dl (P)) (qc 0).2),.n (t9),.n (t9)] [3,4,6,8,9,11,13,14,15] ⟨.o 25 1 (S.gr j) rfl rfl,.k (fun q =>#[.slice (C 5 0).1 (dl (t6)) (C 5 0).2,.slice (C 5 0).1 (dl (t6)) (C 5 0).2,.slice (qc 0).1 (dl (P)) (qc 0).2]) fun q L d I=>RtW.of_n (mm_any (Q.gr d) (Q.gr d) ((HQ 0).gr (j.trans d)) ak ak hd ht7),.o 25 0 (c2.gr j) rfl rfl,.o 25 1 (S.gr j) rfl rfl,.k (fun q =>#[.slice (q 4 0).1 (dl (t7)) (q 4 0).2,.slice p1 (dl (x)) n1,.slice (qc 0).1 (dl (P)) (qc 0).2]) fun q L d I=>RtW.of_n (sm_any (I 4 rfl) (Sx1.gr (j.trans d)) ((HQ 0).gr (j.trans d)) av lx hd ht8),.o 25 0 (c3.gr j) rfl rfl,.o 25 1 (S.gr j) rfl rfl,.k (fun q =>#[.slice (q 9 0).1 (dl (t8)) (q 9 0).2,.slice p2 (dl (x)) n2,.slice (qc 0).1 (dl (P)) (qc 0).2]) fun q L d I=>RtW.of_n (sm_any (I 9 rfl) (Sx2.gr (j.trans d)) ((HQ 0).gr (j.trans d)) aw lx hd ht9),.m 14,⟨⟩⟩ fun D aV d aD=>?_;simp only[fzw];have Z:=aD 15;clear aD;replace j:=j.trans d;replace J:=J.trans d;replace K:=K.trans d;replace ac:=ac.trans d;replace ag:=ag.trans d;have aq:=d;clear d
 go_upto_region 17 with fail
 refine wp_w [.c (.slice (C 5 0).1 (dl (t6)) (C 5 0).2),.c (pv (w.heap.size+1) 0),.c (.slice p1 (dl (x)) n1),.c (.slice (D 15 0).1 (dl (t9)) (D 15 0).2),.c (pv (w.heap.size) 1),.c (.slice (qc 0).1 (dl (P)) (qc 0).2),.n (t10),.c (pv (w.heap.size) 1),.c (.slice (qc 0).1 (dl (P)) (qc 0).2),.n (t11),.c (pv (w.heap.size+1) 1),.c (.slice q1 (dl (y)) m1),.c (pv (w.heap.size) 1),.c (.slice (qc 0).1 (dl (P)) (qc 0).2),.n (t12),.n (t12)] [2,5,6,8,9,11,13,14,15] ⟨.o 25 0 (c2.gr j) rfl rfl,.o 25 1 (S.gr j) rfl rfl,.k (fun q =>#[.slice p1 (dl (x)) n1,.slice (D 15 0).1 (dl (t9)) (D 15 0).2,.slice (qc 0).1 (dl (P)) (qc 0).2]) fun q L d I=>RtW.of_n (sm_any (Sx1.gr (j.trans d)) (Z.gr d) ((HQ 0).gr (j.trans d)) lx ax hd ht10),.o 25 1 (S.gr j) rfl rfl,.k (fun q =>#[.slice (C 5 0).1 (dl (t6)) (C 5 0).2,.slice (q 6 0).1 (dl (t10)) (q 6 0).2,.slice (qc 0).1 (dl (P)) (qc 0).2]) fun q L d I=>RtW.of_n (mm_any (Q.gr (aq.trans d)) (I 6 rfl) ((HQ 0).gr (j.trans d)) ak ay hd ht11),.o 25 1 (c2.gr j) rfl rfl,.o 25 1 (S.gr j) rfl rfl,.k (fun q =>#[.slice (q 9 0).1 (dl (t11)) (q 9 0).2,.slice q1 (dl (y)) m1,.slice (qc 0).1 (dl (P)) (qc 0).2]) fun q L d I=>RtW.of_n (sm_any (I 9 rfl) (Sy1.gr (j.trans d)) ((HQ 0).gr (j.trans d)) ai ly hd ht12),.m 14,⟨⟩⟩ fun aa aW d aE=>?_;simp only[fzw];have ah:=aE 15;clear aE;replace j:=j.trans d;replace J:=J.trans d;replace K:=K.trans d;replace ac:=ac.trans d;replace ag:=ag.trans d;replace aq:=aq.trans d;have aL:=d;clear d
 go_upto_region 18 with fail
 refine wp_wTS 3 [.c (.slice (D 15 0).1 (dl (t9)) (D 15 0).2),.c (.slice (aa 15 0).1 (dl (t12)) (aa 15 0).2),.pt (t9) (t12) false] [2] ⟨.p (fun q i=>match i with|0=>((D 15 0).1,(D 15 0).2)|_=>((aa 15 0).1,(aa 15 0).2)) fun q L d I=>⟨(Z.gr (aL.trans d)),(ah.gr d)⟩,⟨⟩⟩ (.s 38 (fun q=>pv (w.heap.size+1+1+1) 0) (fun q=>.agg (ptA (q 2 0).1 (t9) (q 2 0).2 (q 2 1).1 (t12) (q 2 1).2 false)) fun ab aM d aG=>?_);have HT:=((c4.gr j).gr d).h;have FT:=((c4.gr j).gr d).f;refine⟨setBlk aM (w.heap.size+1+1+1) (ptA (ab 2 0).1 (t9) (ab 2 0).2 (ab 2 1).1 (t12) (ab 2 1).2 false),by simp[go_sem,exI,HT,FT],?_⟩;simp only[fzw];obtain⟨ar,au⟩:=aG 2;clear aG;replace j:=j.trans d;replace G:=G.trans j
 go_wp2_with fail
 exact bo1 results45 (rd_pt _ _ _ _ _ _ _ (by rfl) (blk_setBlk _ _ _ (by rw[HT];decide))) ⟨_,rfl,⟨_,_,_,_,rfl,Sl.set ar (by rw[HT];exact ptA_no _ _ _ _ _ _ _),Sl.set au (by rw[HT];exact ptA_no _ _ _ _ _ _ _)⟩,gr_setNew G (by omega)⟩
end
section
attribute [local go_sem ↓] uz8 Go.wp_at_zero Go.wp_at_succ
attribute [local go_sem] uz9
theorem rplus_add(id:Int)(P A B N X Y:Nat)(qc:Nat→Option Addr×Nat)(x1 y1 x2 y2:Nat)(hd:dl P≤400)(lx1:x1<P)(ly1:y1<P)(lx2:x2<P)(ly2:y2<P)(hx:x1≠x2)(h1P:1<P)(p1 q1:Option Addr)(n1 m1:Nat)(p2 q2:Option Addr)(n2 m2:Nat)(iv:Nat)(t1:Nat)(ht1:subM y2 y1 P=t1)(t2:Nat)(ht2:subM x2 x1 P=t2)(t3:Nat)(ht3:t1*iv%P=t3)(t4:Nat)(ht4:t3*t3%P=t4)(t5:Nat)(ht5:subM t4 x1 P=t5)(t6:Nat)(ht6:subM t5 x2 P=t6)(t7:Nat)(ht7:subM x1 t6 P=t7)(t8:Nat)(ht8:t3*t7%P=t8)(t9:Nat)(ht9:subM t8 y1 P=t9)(liv:iv<P)(hiv:t2*iv%P=1)(w:World)(HQ:∀k,Sl w (qc k).1 (six P A B N X Y k))(Sx1:Sl w p1 x1)(Sy1:Sl w q1 y1)(Sx2:Sl w p2 x2)(Sy2:Sl w q2 y2):
 Calls prog 45 #[.agg (crA id (six P A B N X Y) qc),.agg (ptA p1 (x1) n1 q1 (y1) m1 false),.agg (ptA p2 (x2) n2 q2 (y2) m2 false)] w (Rt (.pt t6 t9 false) w):=by
 have hP:0<P:=by omega
 obtain⟨zz,ez⟩:=exl (cmpZ x1 x2)
 have bz:(zz==0)=false:=by rw[←ez,cmpZ_nought,decide_eq_false hx]
 have aA:=ht1▸subM_lt ly2 ly1;have aB:=ht2▸subM_lt lx2 lx1;have ac:=ht3▸Nat.mod_lt _ hP;have ak:=ht4▸Nat.mod_lt _ hP;have ao:=ht5▸subM_lt ak lx1;have ap:=ht6▸subM_lt ao lx2;have aC:=ht7▸subM_lt lx1 ap;have aq:=ht8▸Nat.mod_lt _ hP;have aG:=ht9▸subM_lt aq ly1
 go_enter func45,ntmps45
 go_upto_region 1 with fail
 refine gen_w (fun v=>Gr w v∧Vr v (w.heap.size) (crA id (six P A B N X Y) qc)∧Vr v (w.heap.size+1) (ptA p1 (x1) n1 q1 (y1) m1 false)∧Vr v (w.heap.size+1+1) (ptA p2 (x2) n2 q2 (y2) m2 false)∧Vr v (w.heap.size+1+1+1) (ptA none 0 0 none 0 0 false)) ⟨grA,vrA,vrA,vrA,vrA⟩ ?_;rintro v0 ⟨G,Z,c2,c3,c4⟩;replace HQ:=fun k=>(HQ k).gr G;replace Sx1:=Sx1.gr G;replace Sy1:=Sy1.gr G;replace Sx2:=Sx2.gr G;replace Sy2:=Sy2.gr G;refine wp_wS [.c (pv (w.heap.size+1) 2),.F] [1] ⟨.o 4 2 c2 rfl rfl,⟨⟩⟩ fun aH v1 d h1=>?_;simp only[fzw];clear h1;have j:=d;clear d
 go_upto_region 3 with fail
 refine wp_wS [.c (pv (w.heap.size+1+1) 2),.F] [1] ⟨.o 4 2 (c3.gr j) rfl rfl,⟨⟩⟩ fun aI v2 d h3=>?_;simp only[fzw];clear h3;replace j:=j.trans d;clear d
 go_upto_region 5 with fail
 refine wp_wS [.c (.slice none 0 0),.c (.slice none 0 0)] [] ⟨⟩ fun aJ v3 d h5=>?_;simp only[fzw];clear h5;replace j:=j.trans d;clear d
 go_upto_region 6 with fail
 refine wp_wS [.c (pv (w.heap.size+1) 0),.c (.slice p1 (dl (x1)) n1),.c (pv (w.heap.size+1+1) 0),.c (.slice p2 (dl (x2)) n2),.c (.int .i64 zz),.F] [1,3,4,5] ⟨.o 25 0 (c2.gr j) rfl rfl,.o 25 0 (c3.gr j) rfl rfl,.k (fun x =>#[.slice p1 (dl (x1)) n1,.slice p2 (dl (x2)) n2]) fun x W d H=>RtW.of_c (cz_any (Sx1.gr (j.trans d)) (Sx2.gr (j.trans d)) (dl_low _ P 400 (by omega) hd) (dl_low _ P 400 (by omega) hd) ez),.s (.binOp .eql 3 (.const (.int .i64 zz)) (.const (.int .i64 0)) 3) rfl fun W d=>by simp[go_sem,exI,bz],⟨⟩⟩ fun aK v4 d h6=>?_;simp only[fzw];clear h6;replace j:=j.trans d;clear d
 go_upto_region 12 with fail
 refine wp_wS [.c (pv (w.heap.size+1+1) 1),.c (.slice q2 (dl (y2)) m2),.c (pv (w.heap.size+1) 1),.c (.slice q1 (dl (y1)) m1),.c (pv (w.heap.size) 1),.c (.slice (qc 0).1 (dl (P)) (qc 0).2),.n (t1),.n (t1)] [1,3,5,6,7] ⟨.o 25 1 (c3.gr j) rfl rfl,.o 25 1 (c2.gr j) rfl rfl,.o 25 1 (Z.gr j) rfl rfl,.k (fun x =>#[.slice q2 (dl (y2)) m2,.slice q1 (dl (y1)) m1,.slice (qc 0).1 (dl (P)) (qc 0).2]) fun x W d H=>RtW.of_n (sm_any (Sy2.gr (j.trans d)) (Sy1.gr (j.trans d)) ((HQ 0).gr (j.trans d)) ly2 ly1 hd ht1),.m 6,⟨⟩⟩ fun J v5 d ar=>?_;simp only[fzw];have ae:=ar 7;clear ar;replace j:=j.trans d;clear d
 go_upto_region 13 with fail
 refine wp_wS [.c (pv (w.heap.size+1+1) 0),.c (.slice p2 (dl (x2)) n2),.c (pv (w.heap.size+1) 0),.c (.slice p1 (dl (x1)) n1),.c (pv (w.heap.size) 1),.c (.slice (qc 0).1 (dl (P)) (qc 0).2),.n (t2),.n (t2)] [1,3,5,6,7] ⟨.o 25 0 (c3.gr j) rfl rfl,.o 25 0 (c2.gr j) rfl rfl,.o 25 1 (Z.gr j) rfl rfl,.k (fun x =>#[.slice p2 (dl (x2)) n2,.slice p1 (dl (x1)) n1,.slice (qc 0).1 (dl (P)) (qc 0).2]) fun x W d H=>RtW.of_n (sm_any (Sx2.gr (j.trans d)) (Sx1.gr (j.trans d)) ((HQ 0).gr (j.trans d)) lx2 lx1 hd ht2),.m 6,⟨⟩⟩ fun K v6 d au=>?_;simp only[fzw];have af:=au 7;clear au;replace j:=j.trans d;have D:=d;clear d
 go_upto_region 14 with fail
 refine wp_wS [.c (.slice (K 7 0).1 (dl (t2)) (K 7 0).2),.c (pv (w.heap.size) 1),.c (.slice (qc 0).1 (dl (P)) (qc 0).2),.nb (iv) true,.nb (iv) true,.n (iv),.T,.n (iv),.T] [2,3,4,5,6,7] ⟨.o 25 1 (Z.gr j) rfl rfl,.k (fun x =>#[.slice (K 7 0).1 (dl (t2)) (K 7 0).2,.slice (qc 0).1 (dl (P)) (qc 0).2]) fun x W d H=>RtW.of_nb (iv_any (af.gr d) ((HQ 0).gr (j.trans d)) aB hd h1P liv hiv),.m 3,.m 4,.m 4,.m 5,⟨⟩⟩ fun L v7 d av=>?_;simp only[fzw];have ag:=av 7;clear av;replace j:=j.trans d;replace D:=D.trans d;have V:=d;clear d
 go_upto_region 15 with fail
 refine wp_wS [.c (.slice (J 7 0).1 (dl (t1)) (J 7 0).2),.c (.slice (L 7 0).1 (dl (iv)) (L 7 0).2),.c (pv (w.heap.size) 1),.c (.slice (qc 0).1 (dl (P)) (qc 0).2),.n (t3),.n (t3)] [3,4,5] ⟨.o 25 1 (Z.gr j) rfl rfl,.k (fun x =>#[.slice (J 7 0).1 (dl (t1)) (J 7 0).2,.slice (L 7 0).1 (dl (iv)) (L 7 0).2,.slice (qc 0).1 (dl (P)) (qc 0).2]) fun x W d H=>RtW.of_n (mm_any (ae.gr (D.trans d)) (ag.gr d) ((HQ 0).gr (j.trans d)) aA liv hd ht3),.m 4,⟨⟩⟩ fun q v8 d aw=>?_;simp only[fzw];have I:=aw 5;clear aw;replace j:=j.trans d;replace D:=D.trans d;replace V:=V.trans d;have aa:=d;clear d
 go_upto_region 16 with fail
 refine wp_w [.c (.slice (q 5 0).1 (dl (t3)) (q 5 0).2),.c (.slice (q 5 0).1 (dl (t3)) (q 5 0).2),.c (pv (w.heap.size) 1),.c (.slice (qc 0).1 (dl (P)) (qc 0).2),.n (t4),.c (pv (w.heap.size+1) 0),.c (.slice p1 (dl (x1)) n1),.c (pv (w.heap.size) 1),.c (.slice (qc 0).1 (dl (P)) (qc 0).2),.n (t5),.c (pv (w.heap.size+1+1) 0),.c (.slice p2 (dl (x2)) n2),.c (pv (w.heap.size) 1),.c (.slice (qc 0).1 (dl (P)) (qc 0).2),.n (t6),.n (t6)] [3,4,6,8,9,11,13,14,15] ⟨.o 25 1 (Z.gr j) rfl rfl,.k (fun x =>#[.slice (q 5 0).1 (dl (t3)) (q 5 0).2,.slice (q 5 0).1 (dl (t3)) (q 5 0).2,.slice (qc 0).1 (dl (P)) (qc 0).2]) fun x W d H=>RtW.of_n (mm_any (I.gr d) (I.gr d) ((HQ 0).gr (j.trans d)) ac ac hd ht4),.o 25 0 (c2.gr j) rfl rfl,.o 25 1 (Z.gr j) rfl rfl,.k (fun x =>#[.slice (x 4 0).1 (dl (t4)) (x 4 0).2,.slice p1 (dl (x1)) n1,.slice (qc 0).1 (dl (P)) (qc 0).2]) fun x W d H=>RtW.of_n (sm_any (H 4 rfl) (Sx1.gr (j.trans d)) ((HQ 0).gr (j.trans d)) ak lx1 hd ht5),.o 25 0 (c3.gr j) rfl rfl,.o 25 1 (Z.gr j) rfl rfl,.k (fun x =>#[.slice (x 9 0).1 (dl (t5)) (x 9 0).2,.slice p2 (dl (x2)) n2,.slice (qc 0).1 (dl (P)) (qc 0).2]) fun x W d H=>RtW.of_n (sm_any (H 9 rfl) (Sx2.gr (j.trans d)) ((HQ 0).gr (j.trans d)) ao lx2 hd ht6),.m 14,⟨⟩⟩ fun C v9 d ax=>?_;simp only[fzw];have Q:=ax 15;clear ax;replace j:=j.trans d;replace D:=D.trans d;replace V:=V.trans d;replace aa:=aa.trans d;have ah:=d;clear d
 go_upto_region 17 with fail
 refine wp_w [.c (.slice (q 5 0).1 (dl (t3)) (q 5 0).2),.c (pv (w.heap.size+1) 0),.c (.slice p1 (dl (x1)) n1),.c (.slice (C 15 0).1 (dl (t6)) (C 15 0).2),.c (pv (w.heap.size) 1),.c (.slice (qc 0).1 (dl (P)) (qc 0).2),.n (t7),.c (pv (w.heap.size) 1),.c (.slice (qc 0).1 (dl (P)) (qc 0).2),.n (t8),.c (pv (w.heap.size+1) 1),.c (.slice q1 (dl (y1)) m1),.c (pv (w.heap.size) 1),.c (.slice (qc 0).1 (dl (P)) (qc 0).2),.n (t9),.n (t9)] [2,5,6,8,9,11,13,14,15] ⟨.o 25 0 (c2.gr j) rfl rfl,.o 25 1 (Z.gr j) rfl rfl,.k (fun x =>#[.slice p1 (dl (x1)) n1,.slice (C 15 0).1 (dl (t6)) (C 15 0).2,.slice (qc 0).1 (dl (P)) (qc 0).2]) fun x W d H=>RtW.of_n (sm_any (Sx1.gr (j.trans d)) (Q.gr d) ((HQ 0).gr (j.trans d)) lx1 ap hd ht7),.o 25 1 (Z.gr j) rfl rfl,.k (fun x =>#[.slice (q 5 0).1 (dl (t3)) (q 5 0).2,.slice (x 6 0).1 (dl (t7)) (x 6 0).2,.slice (qc 0).1 (dl (P)) (qc 0).2]) fun x W d H=>RtW.of_n (mm_any (I.gr (ah.trans d)) (H 6 rfl) ((HQ 0).gr (j.trans d)) ac aC hd ht8),.o 25 1 (c2.gr j) rfl rfl,.o 25 1 (Z.gr j) rfl rfl,.k (fun x =>#[.slice (x 9 0).1 (dl (t8)) (x 9 0).2,.slice q1 (dl (y1)) m1,.slice (qc 0).1 (dl (P)) (qc 0).2]) fun x W d H=>RtW.of_n (sm_any (H 9 rfl) (Sy1.gr (j.trans d)) ((HQ 0).gr (j.trans d)) aq ly1 hd ht9),.m 14,⟨⟩⟩ fun S aL d ay=>?_;simp only[fzw];have ab:=ay 15;clear ay;replace j:=j.trans d;replace D:=D.trans d;replace V:=V.trans d;replace aa:=aa.trans d;replace ah:=ah.trans d;have aD:=d;clear d
 go_upto_region 18 with fail
 refine wp_wTS 3 [.c (.slice (C 15 0).1 (dl (t6)) (C 15 0).2),.c (.slice (S 15 0).1 (dl (t9)) (S 15 0).2),.pt (t6) (t9) false] [2] ⟨.p (fun x i=>match i with|0=>((C 15 0).1,(C 15 0).2)|_=>((S 15 0).1,(S 15 0).2)) fun x W d H=>⟨(Q.gr (aD.trans d)),(ab.gr d)⟩,⟨⟩⟩ (.s 38 (fun x=>pv (w.heap.size+1+1+1) 0) (fun x=>.agg (ptA (x 2 0).1 (t6) (x 2 0).2 (x 2 1).1 (t9) (x 2 1).2 false)) fun U aE d az=>?_);have HT:=((c4.gr j).gr d).h;have FT:=((c4.gr j).gr d).f;refine⟨setBlk aE (w.heap.size+1+1+1) (ptA (U 2 0).1 (t6) (U 2 0).2 (U 2 1).1 (t9) (U 2 1).2 false),by simp[go_sem,exI,HT,FT],?_⟩;simp only[fzw];obtain⟨ai,aj⟩:=az 2;clear az;replace j:=j.trans d;replace G:=G.trans j
 go_wp2_with fail
 exact bo1 results45 (rd_pt _ _ _ _ _ _ _ (by rfl) (blk_setBlk _ _ _ (by rw[HT];decide))) ⟨_,rfl,⟨_,_,_,_,rfl,Sl.set ai (by rw[HT];exact ptA_no _ _ _ _ _ _ _),Sl.set aj (by rw[HT];exact ptA_no _ _ _ _ _ _ _)⟩,gr_setNew G (by omega)⟩
end
end
section
def ex{p:Nat}:Option (Fin p×Fin p)→Nat
 | none=>0
 | some q=>q.1.val
def ey{p:Nat}:Option (Fin p×Fin p)→Nat
 | none=>0
 | some q=>q.2.val
def ef{p:Nat}:Option (Fin p×Fin p)→Bool
 | none=>true
 | some _=>false
theorem subM_val{p:Nat}(a b:Fin p):subM a.val b.val p=(a-b).val:=by
 have h:(a-b).val=(p-b.val+a.val)%p:=Fin.sub_def a b▸rfl;rw[h];unfold subM
 split
 ·rw[show p-b.val+a.val=a.val-b.val+p by omega,Nat.add_mod_right,Nat.mod_eq_of_lt (by omega)]
 ·rw[Nat.mod_eq_of_lt (by omega)];omega
theorem one_val{p:Nat}[NeZero p](h:1<p):(1:Fin p).val=1:=by
 exact Nat.mod_eq_of_lt h
theorem inv_val{p:Nat}[NeZero p](h:1<p){a b:Fin p}(e:b*a=1):a.val*b.val%p=1:=by
 rw[Nat.mul_comm,←Fin.val_mul,e,one_val h]
section
variable {P:Nat} [NeZero P] {i:Fin P→Fin P} {A B:Fin P}
theorem rplus_any(C:EC.Cur i A B)(hd:dl P≤400)(id:Int)(N X Y:Nat)(qc:Nat→Option Addr×Nat)(Q1 Q2:Option (Fin P×Fin P))(p1 q1:Option Addr)(n1 m1:Nat)(p2 q2:Option Addr)(n2 m2:Nat)(w:World)(HQ:∀k,Sl w (qc k).1 (six P A.val B.val N X Y k))(Sx1:Sl w p1 (ex Q1))(Sy1:Sl w q1 (ey Q1))(Sx2:Sl w p2 (ex Q2))(Sy2:Sl w q2 (ey Q2)):
 Calls prog 45 #[.agg (crA id (six P A.val B.val N X Y) qc),.agg (ptA p1 (ex Q1) n1 q1 (ey Q1) m1 (ef Q1)),.agg (ptA p2 (ex Q2) n2 q2 (ey Q2) m2 (ef Q2))] w
  (Rt (.pt (ex (EC.pl i A Q1 Q2)) (ey (EC.pl i A Q1 Q2)) (ef (EC.pl i A Q1 Q2))) w):=by
 have d:=C.pr.1
 match Q1,Q2,Sx1,Sy1,Sx2,Sy2 with
 | none,Q2,Sx1,Sy1,Sx2,Sy2=>exact rplus_inf1 id P A.val B.val N X Y qc 0 0 (ex Q2) (ey Q2) (ef Q2) p1 q1 n1 m1 p2 q2 n2 m2 w HQ Sx1 Sy1 Sx2 Sy2
 | some (x1,y1),none,Sx1,Sy1,Sx2,Sy2=>exact rplus_inf2 id P A.val B.val N X Y qc x1.val y1.val 0 0 p1 q1 n1 m1 p2 q2 n2 m2 w HQ Sx1 Sy1 Sx2 Sy2
 | some (x1,y1),some (x2,y2),Sx1,Sy1,Sx2,Sy2=>
  by_cases hx:x1=x2
  ·subst hx
   by_cases hy:y1=y2
   ·subst hy
    by_cases h0:y1=0
    ·subst h0
     have e:EC.pl i A (some (x1,0)) (some (x1,0))=none:=by simp[EC.pl]
     rw[e];have f:=Fin.val_zero P;have:=rplus_flat id P A.val B.val N X Y qc x1.val hd x1.isLt p1 q1 n1 m1 p2 q2 n2 m2 w HQ Sx1 (by have:=Sy1;simp only[ey,f]at this;exact this) Sx2 (by have:=Sy2;simp only[ey,f]at this;exact this);simp only[ex,ey,ef,f];exact this
    ·have j:y1+y1≠0:=fun h=>h0 (C.dbl h)
     have e:EC.pl i A (some (x1,y1)) (some (x1,y1))=some (EC.sx ((x1*x1+(x1*x1+x1*x1)+A)*i (y1+y1)) x1 x1,EC.sy ((x1*x1+(x1*x1+x1*x1)+A)*i (y1+y1)) x1 y1 (EC.sx ((x1*x1+(x1*x1+x1*x1)+A)*i (y1+y1)) x1 x1)):=by simp[EC.pl,h0]
     rw[e]
     exact rplus_dbl id P A.val B.val N X Y qc x1.val y1.val hd x1.isLt y1.isLt A.isLt (fun h=>h0 (Fin.ext (h.trans (Fin.val_zero P).symm))) d p1 q1 n1 m1 p2 q2 n2 m2 (i (y1+y1)).val _ (Fin.val_mul x1 x1).symm _ (Fin.val_add _ _).symm _ (Fin.val_add _ _).symm _ (Fin.val_add _ _).symm _ (Fin.val_add y1 y1).symm
      _ (Fin.val_mul _ _).symm _ (Fin.val_mul _ _).symm _ (subM_val _ _) _ (subM_val _ _) _ (subM_val _ _) _ (Fin.val_mul _ _).symm _ (subM_val _ _) (i (y1+y1)).isLt (inv_val d (C.inv _ j)) w HQ Sx1 Sy1 Sx2 Sy2
   ·have e:EC.pl i A (some (x1,y1)) (some (x1,y2))=none:=by simp[EC.pl,hy]
    rw[e];exact rplus_op id P A.val B.val N X Y qc x1.val y1.val y2.val hd x1.isLt y1.isLt y2.isLt (fun h=>hy (Fin.ext h)) p1 q1 n1 m1 p2 q2 n2 m2 w HQ Sx1 Sy1 Sx2 Sy2
  ·have j:x2-x1≠0:=fun h=>hx (EC.sub_zero_of h).symm
   have e:EC.pl i A (some (x1,y1)) (some (x2,y2))=some (EC.sx ((y2-y1)*i (x2-x1)) x1 x2,EC.sy ((y2-y1)*i (x2-x1)) x1 y1 (EC.sx ((y2-y1)*i (x2-x1)) x1 x2)):=by simp[EC.pl,hx]
   rw[e]
   exact rplus_add id P A.val B.val N X Y qc x1.val y1.val x2.val y2.val hd x1.isLt y1.isLt x2.isLt y2.isLt (fun h=>hx (Fin.ext h)) d p1 q1 n1 m1 p2 q2 n2 m2 (i (x2-x1)).val _ (subM_val y2 y1) _ (subM_val x2 x1) _ (Fin.val_mul _ _).symm _ (Fin.val_mul _ _).symm _ (subM_val _ _) _ (subM_val _ _) _ (subM_val _ _) _ (Fin.val_mul _ _).symm _ (subM_val _ _)
    (i (x2-x1)).isLt (inv_val d (C.inv _ j)) w HQ Sx1 Sy1 Sx2 Sy2
end
end
section
abbrev Q3:=Nat×Nat×Bool
def inf:Q3:=(0,0,true)
abbrev pnQ(Q:Q3):Array Value:=pnt Q.1 Q.2.1 Q.2.2
def OnQ(k:Nat)(Q:Q3):Prop:=onB k Q.1 Q.2.1 Q.2.2=true
def encQ{p:Nat}(Q:Option (Fin p×Fin p)):Q3:=(ex Q,ey Q,ef Q)
def decQ(p:Nat)[NeZero p](Q:Q3):Option (Fin p×Fin p):=cond Q.2.2 none (some (Fin.ofNat p Q.1,Fin.ofNat p Q.2.1))
theorem dec_enc{p:Nat}[NeZero p](Q:Option (Fin p×Fin p)):decQ p (encQ Q)=Q:=by
 cases Q with
 | none=>rfl
 | some q=>
  obtain⟨x,y⟩:=q
  show some (Fin.ofNat p x.val,Fin.ofNat p y.val)=some (x,y)
  rw[show Fin.ofNat p x.val=x from Fin.ext (Nat.mod_eq_of_lt x.isLt),show Fin.ofNat p y.val=y from Fin.ext (Nat.mod_eq_of_lt y.isLt)]
theorem OnQ.cases{k:Nat}{Q:Q3}(h:OnQ k Q):Q=inf∨∃x y,Q=(x,y,false)∧x<pN k∧y<pN k∧y*y%pN k=rhN k x:=by
 obtain⟨x,y,f⟩:=Q
 cases f with
 | true=>
  simp only[OnQ,onB,if_true,Bool.and_eq_true,decide_eq_true_eq]at h;exact .inl (by rw[h.1,h.2];rfl)
 | false=>
  simp only[OnQ,onB,Bool.false_eq_true,if_false,Bool.and_eq_true,decide_eq_true_eq]at h;exact .inr ⟨x,y,rfl,h⟩
theorem enc_dec{k:Nat}[NeZero (pN k)]{Q:Q3}(h:OnQ k Q):encQ (decQ (pN k) Q)=Q:=by
 rcases h.cases with rfl|⟨x,y,rfl,hx,hy,-⟩
 ·rfl
 ·show (x%pN k,y%pN k,false)=(x,y,false)
  rw[Nat.mod_eq_of_lt hx,Nat.mod_eq_of_lt hy]
theorem dec3{k:Nat}[NeZero (pN k)]{P:Q3}(h:OnQ k P):ex (decQ (pN k) P)=P.1∧ey (decQ (pN k) P)=P.2.1∧ef (decQ (pN k) P)=P.2.2:=by
 have e:=enc_dec h;exact⟨congrArg (·.1) e,congrArg (·.2.1) e,congrArg (·.2.2) e⟩
theorem OnQ.lt{k:Nat}{Q:Q3}(h:OnQ k Q):Q.1<M∧Q.2.1<M:=by
 have d:=pN_M k
 rcases h.cases with rfl|⟨x,y,rfl,hx,hy,-⟩
 ·exact⟨M_pos,M_pos⟩
 ·exact⟨Nat.lt_trans hx d,Nat.lt_trans hy d⟩
section
variable {k:Nat} (h1:1≤k) (h2:k≤15) [NeZero (pN k)]
theorem on_iff(x y:Fin (pN k)):EC.OnC (EC.aF k h1 h2) (EC.bF k h1 h2) x y↔y.val*y.val%pN k=rhN k x.val:=by
 have e:x*x*x+EC.aF k h1 h2*x+EC.bF k h1 h2=(x*x+EC.aF k h1 h2)*x+EC.bF k h1 h2:=by grobner
 unfold EC.OnC;rw[e]
 constructor
 ·intro h;exact congrArg Fin.val h
 ·intro h;exact Fin.ext h
theorem on_dec{Q:Q3}(h:OnQ k Q):EC.On (EC.aF k h1 h2) (EC.bF k h1 h2) (decQ (pN k) Q):=by
 rcases h.cases with rfl|⟨x,y,rfl,hx,hy,e⟩
 ·trivial
 ·show EC.OnC _ _ (Fin.ofNat (pN k) x) (Fin.ofNat (pN k) y)
  rw[on_iff]
  show (y%pN k)*(y%pN k)%pN k=rhN k (x%pN k)
  rw[Nat.mod_eq_of_lt hx,Nat.mod_eq_of_lt hy,e]
theorem on_enc{R:Option (Fin (pN k)×Fin (pN k))}(h:EC.On (EC.aF k h1 h2) (EC.bF k h1 h2) R):OnQ k (encQ R):=by
 cases R with
 | none=>rfl
 | some q=>
  obtain⟨x,y⟩:=q;have d:=(on_iff h1 h2 x y).1 h
  show onB k x.val y.val false=true
  simp only[onB,Bool.false_eq_true,if_false,Bool.and_eq_true,decide_eq_true_eq];exact⟨x.isLt,y.isLt,d⟩
end
def plQ(k:Nat)(P Q:Q3):Q3:=if h:1≤k∧k≤15 then(haveI:=EC.nzP k h.1 h.2;encQ (EC.pl (EC.iP (pN k)) (EC.aF k h.1 h.2) (decQ (pN k) P) (decQ (pN k) Q))) else inf
def mlQ(k n:Nat)(P:Q3):Q3:=if h:1≤k∧k≤15 then(haveI:=EC.nzP k h.1 h.2;encQ (EC.ml (EC.iP (pN k)) (EC.aF k h.1 h.2) n (decQ (pN k) P))) else inf
def gQ(k:Nat):Q3:=(xN k,yN k,false)
theorem plQ_is{k:Nat}(h1:1≤k)(h2:k≤15)[NeZero (pN k)](P Q:Q3):plQ k P Q=encQ (EC.pl (EC.iP (pN k)) (EC.aF k h1 h2) (decQ (pN k) P) (decQ (pN k) Q)):=dif_pos ⟨h1,h2⟩
theorem mlQ_is{k:Nat}(h1:1≤k)(h2:k≤15)[NeZero (pN k)](n:Nat)(P:Q3):mlQ k n P=encQ (EC.ml (EC.iP (pN k)) (EC.aF k h1 h2) n (decQ (pN k) P)):=dif_pos ⟨h1,h2⟩
theorem gQ_on{k:Nat}(h1:1≤k)(h2:k≤15):OnQ k (gQ k):=gN_on k h1 h2
theorem mlQ_on{k:Nat}(h1:1≤k)(h2:k≤15)(n:Nat){P:Q3}(hP:OnQ k P):OnQ k (mlQ k n P):=by
 haveI:=EC.nzP k h1 h2
 rw[mlQ_is h1 h2];exact on_enc h1 h2 (EC.ml_on (EC.curN k h1 h2) (on_dec h1 h2 hP) n)
theorem mlQ_zero{k:Nat}(h1:1≤k)(h2:k≤15)(P:Q3):mlQ k 0 P=inf:=by
 haveI:=EC.nzP k h1 h2
 rw[mlQ_is h1 h2];rfl
theorem mlQ_one{k:Nat}(h1:1≤k)(h2:k≤15){P:Q3}(hP:OnQ k P):mlQ k 1 P=P:=by
 haveI:=EC.nzP k h1 h2
 rw[mlQ_is h1 h2,EC.ml_one,enc_dec hP]
theorem mlQ_add{k:Nat}(h1:1≤k)(h2:k≤15)(m n:Nat){P:Q3}(hP:OnQ k P):mlQ k (m+n) P=plQ k (mlQ k m P) (mlQ k n P):=by
 haveI:=EC.nzP k h1 h2
 rw[mlQ_is h1 h2,mlQ_is h1 h2 m,mlQ_is h1 h2 n,plQ_is h1 h2,dec_enc,dec_enc,EC.ml_add (EC.curN k h1 h2) (on_dec h1 h2 hP)]
end
section
theorem fsubF{k:Nat}(h1:1≤k)(h2:k≤15)(a b:Fin (pN k))(w:World):Cg 149 #[.int .i64 k,.agg (nw 9 a.val),.agg (nw 9 b.val)] w (.tuple #[.agg (nw 9 (a-b).val),.int .i64 0]):=by
 have h:=fSub_ok k a.val b.val h1 h2 a.isLt b.isLt w;rw[show (a.val+pN k-b.val)%pN k=(a-b).val by rw[Fin.sub_def];show _=(pN k-b.val+a.val)%pN k;rw[show a.val+pN k-b.val=pN k-b.val+a.val by omega]]at h;exact h
theorem faddF{k:Nat}(h1:1≤k)(h2:k≤15)(a b:Fin (pN k))(w:World):Cg 142 #[.int .i64 k,.agg (nw 9 a.val),.agg (nw 9 b.val)] w (.tuple #[.agg (nw 9 (a+b).val),.int .i64 0]):=by
 have h:=fAdd_ok k a.val b.val h1 h2 a.isLt b.isLt w;rw[←Fin.val_add]at h;exact h
theorem fmulF{k:Nat}(h1:1≤k)(h2:k≤15)(a b:Fin (pN k))(w:World):Cg 141 #[.int .i64 k,.agg (nw 9 a.val),.agg (nw 9 b.val)] w (.tuple #[.agg (nw 9 (a*b).val),.int .i64 0]):=by
 have h:=fMul_ok k a.val b.val h1 h2 a.isLt b.isLt w;rw[←Fin.val_mul]at h;exact h
theorem finvF{k:Nat}(h1:1≤k)(h2:k≤15)[NeZero (pN k)](b:Fin (pN k))(hb:b≠0)(w:World):Cg 148 #[.int .i64 k,.agg (nw 9 b.val)] w (.tuple #[.agg (nw 9 (EC.iP (pN k) b).val),.int .i64 0]):=by
 have f:=prm_pN k h1 h2;have i:=Nat.pos_of_ne_zero fun e=>hb (Fin.ext (e.trans (Fin.val_zero (pN k)).symm))
 have q:=f.cop fun d=>by
  have:=Nat.le_of_dvd i d
  omega
 obtain⟨x,A,h,j⟩:=fInv_ok k b.val h1 h2 i b.isLt q;have e:=inv_one b.val (pN k) x (EC.iP (pN k) b).val A (EC.iP (pN k) b).isLt h (inv_val f.1 (EC.iP_is f b hb));rw[e]at j;exact j w
end
section
attribute [local go_sem ↓] uz1
attribute [local go_sem] uz2
section
attribute [local go_sem] uz7
attribute [local go_sem ↓] uz10 Go.wp_at_zero Go.wp_at_succ
attribute [local go_sem] uz11
theorem gdiff_of(id:Int)(P A B N X Y:Nat)(s z:Int)(l:Bool)(x y q:Nat)(H1':∀w,Cg 149 #[.int .i64 id,.agg (nw 9 x),.agg (nw 9 y)] w (.tuple #[.agg (nw 9 q),.int .i64 0]))(w:World):
 Cg 120 #[.agg (cu id P A B N X Y s z l),.agg (nw 9 x),.agg (nw 9 y)] w (.agg (nw 9 q)):=by
 have C:Hid _:=H1';clear H1'
 go_enter func120,ntmps120
 go_upto_region 1 with fail
 refine gen_w (fun v=>Hid (Gr w v∧Vr v (w.heap.size) (cu id P A B N X Y s z l)∧Vr v (w.heap.size+1) (nw 9 x)∧Vr v (w.heap.size+1+1) (nw 9 y)∧Vr v (w.heap.size+1+1+1) (nw 9 0))) ⟨grA,vrA,vrA,vrA,vrA⟩ ?_;intro D f;obtain⟨G,d,h,i,j⟩:=f.out
 have V:D.cell? ⟨w.heap.size,0,none⟩=some (.int .i64 id):=by rw[d.cell];exact cu_0 id P A B N X Y s z l
 have H:=d.al;have⟨I,J,K⟩:=h;have⟨L,Q,S⟩:=i;have U:=j.al;clear f d h i j
 go_wp2_with (first
  | (go_at_call_of 149 ((#[.int .i64 id,.agg (nw 9 x),.agg (nw 9 y)]:Array Value));refine hkA C fun W=>?_))
 refine bo1 results120 (rd_nat (by rfl) ?_) ⟨rfl,?_⟩
 ·simp[go_sem, *]
 ·exact grB
theorem gprod_of(id:Int)(P A B N X Y:Nat)(s z:Int)(l:Bool)(x y q:Nat)(H1':∀w,Cg 141 #[.int .i64 id,.agg (nw 9 x),.agg (nw 9 y)] w (.tuple #[.agg (nw 9 q),.int .i64 0]))(w:World):
 Cg 122 #[.agg (cu id P A B N X Y s z l),.agg (nw 9 x),.agg (nw 9 y)] w (.agg (nw 9 q)):=by
 have C:Hid _:=H1';clear H1'
 go_enter func122,ntmps122
 go_upto_region 1 with fail
 refine gen_w (fun v=>Hid (Gr w v∧Vr v (w.heap.size) (cu id P A B N X Y s z l)∧Vr v (w.heap.size+1) (nw 9 x)∧Vr v (w.heap.size+1+1) (nw 9 y)∧Vr v (w.heap.size+1+1+1) (nw 9 0))) ⟨grA,vrA,vrA,vrA,vrA⟩ ?_;intro D f;obtain⟨G,d,h,i,j⟩:=f.out
 have V:D.cell? ⟨w.heap.size,0,none⟩=some (.int .i64 id):=by rw[d.cell];exact cu_0 id P A B N X Y s z l
 have H:=d.al;have⟨I,J,K⟩:=h;have⟨L,Q,S⟩:=i;have U:=j.al;clear f d h i j
 go_wp2_with (first
  | (go_at_call_of 141 ((#[.int .i64 id,.agg (nw 9 x),.agg (nw 9 y)]:Array Value));refine hkA C fun W=>?_))
 refine bo1 results122 (rd_nat (by rfl) ?_) ⟨rfl,?_⟩
 ·simp[go_sem, *]
 ·exact grB
theorem gquot_of(id:Int)(P A B N X Y:Nat)(s z:Int)(l:Bool)(x y u q:Nat)(H1':∀w,Cg 148 #[.int .i64 id,.agg (nw 9 y)] w (.tuple #[.agg (nw 9 u),.int .i64 0]))(H2':∀w,Cg 122 #[.agg (cu id P A B N X Y s z l),.agg (nw 9 x),.agg (nw 9 u)] w (.agg (nw 9 q)))(w:World):
 Cg 119 #[.agg (cu id P A B N X Y s z l),.agg (nw 9 x),.agg (nw 9 y)] w (.agg (nw 9 q)):=by
 have C:Hid _:=H1';have D:Hid _:=H2';clear H1' H2'
 go_enter func119,ntmps119
 go_upto_region 1 with fail
 refine gen_w (fun v=>Hid (Gr w v∧Vr v (w.heap.size) (cu id P A B N X Y s z l)∧Vr v (w.heap.size+1) (nw 9 x)∧Vr v (w.heap.size+1+1) (nw 9 y)∧Vr v (w.heap.size+1+1+1) (nw 9 0))) ⟨grA,vrA,vrA,vrA,vrA⟩ ?_;intro H f;obtain⟨G,d,h,i,j⟩:=f.out
 have U:H.cell? ⟨w.heap.size,0,none⟩=some (.int .i64 id):=by rw[d.cell];exact cu_0 id P A B N X Y s z l
 have I:=d.al;have J:=h.al;have⟨K,L,Q⟩:=i;have S:=j.al;clear f d h i j
 go_wp2_with (first
  | (go_at_call_of 148 ((#[.int .i64 id,.agg (nw 9 y)]:Array Value));refine hkA C fun V=>?_)
  | (go_at_call_of 122 ((#[.agg (cu id P A B N X Y s z l),.agg (nw 9 x),.agg (nw 9 u)]:Array Value));refine hkA D fun W=>?_))
 refine bo1 results119 (rd_nat (by rfl) ?_) ⟨rfl,?_⟩
 ·simp[go_sem, *]
 ·exact grB
theorem gleft_any(id:Int)(P A B N X Y:Nat)(s z:Int)(l:Bool)(x1 y1 x2 y2:Nat)(f1 f2:Bool)(w:World):
 Cg 98 #[.agg (cu id P A B N X Y s z l),.agg (pnt x1 y1 f1),.agg (pnt x2 y2 f2)] w (.agg (pnt x1 y1 f1)):=by
 go_enter func98,ntmps98
 go_upto_region 1 with fail
 refine gen_w (fun v=>Hid (Gr w v∧Vr v (w.heap.size) (cu id P A B N X Y s z l)∧Vr v (w.heap.size+1) (pnt x1 y1 f1)∧Vr v (w.heap.size+1+1) (pnt x2 y2 f2)∧Vr v (w.heap.size+1+1+1) (pnt 0 0 false))) ⟨grA,vrA,vrA,vrA,vrA⟩ ?_;intro H d;obtain⟨G,I,f,J,h⟩:=d.out;have⟨i,j,q⟩:=f;have⟨x,C,D⟩:=h
 go_wp2_with fail
 refine bo1 results98 (rd_pn (by rfl) ?_) ⟨rfl,?_⟩
 ·simp[go_sem, *]
 ·exact grB
theorem gright_any(id:Int)(P A B N X Y:Nat)(s z:Int)(l:Bool)(x1 y1 x2 y2:Nat)(f1 f2:Bool)(w:World):
 Cg 97 #[.agg (cu id P A B N X Y s z l),.agg (pnt x1 y1 f1),.agg (pnt x2 y2 f2)] w (.agg (pnt x2 y2 f2)):=by
 go_enter func97,ntmps97
 go_upto_region 1 with fail
 refine gen_w (fun v=>Hid (Gr w v∧Vr v (w.heap.size) (cu id P A B N X Y s z l)∧Vr v (w.heap.size+1) (pnt x1 y1 f1)∧Vr v (w.heap.size+1+1) (pnt x2 y2 f2)∧Vr v (w.heap.size+1+1+1) (pnt 0 0 false))) ⟨grA,vrA,vrA,vrA,vrA⟩ ?_;intro H d;obtain⟨G,I,J,f,h⟩:=d.out;have⟨i,j,q⟩:=f;have⟨x,C,D⟩:=h
 go_wp2_with fail
 refine bo1 results97 (rd_pn (by rfl) ?_) ⟨rfl,?_⟩
 ·simp[go_sem, *]
 ·exact grB
theorem ginf_any(id:Int)(P A B N X Y:Nat)(s z:Int)(l:Bool)(x1 y1 x2 y2:Nat)(f1 f2:Bool)(w:World):
 Cg 101 #[.agg (cu id P A B N X Y s z l),.agg (pnt x1 y1 f1),.agg (pnt x2 y2 f2)] w (.agg (pnt 0 0 true)):=by
 go_enter func101,ntmps101
 go_upto_region 1 with fail
 refine gen_w (fun v=>Hid (Gr w v∧Vr v (w.heap.size) (cu id P A B N X Y s z l)∧Vr v (w.heap.size+1) (pnt x1 y1 f1)∧Vr v (w.heap.size+1+1) (pnt x2 y2 f2)∧Vr v (w.heap.size+1+1+1) (pnt 0 0 false))) ⟨grA,vrA,vrA,vrA,vrA⟩ ?_;intro q d;obtain⟨G,x,C,D,f⟩:=d.out;have⟨h,i,j⟩:=f
 go_wp2_with fail
 refine bo1 results101 (rd_pn (by rfl) ?_) ⟨rfl,?_⟩
 ·simp[go_sem, *]
 ·exact grB
theorem toSum_any(w:World):Cg 81 #[] w (.agg tabA):=by
 go_enter func81,ntmps81
 go_wp2
 refine bo1 results81 (rd_cell 5 underlying131 rfl (by kernel_rfl) (by rfl) ?_ rfl) ⟨rfl,grA⟩;simp[go_sem]
end
section
attribute [local go_sem] uz7
attribute [local go_sem ↓] uz10 Go.wp_at_zero Go.wp_at_succ
attribute [local go_sem] uz11
theorem gsum_of(id:Int)(P A B N X Y:Nat)(s z:Int)(l:Bool)(n:Nat)(hn:n≤4)(f acc:Nat→Nat)(c:Array Value)(h0:acc 0=0)(hrow:∀i,i<n→c.extract (i*9) (i*9+9)=nw 9 (f i))(hsz:n*9≤c.size)(HA':∀i,i<n→∀w,Cg 142 #[.int .i64 id,.agg (nw 9 (acc i)),.agg (nw 9 (f i))] w (.tuple #[.agg (nw 9 (acc (i+1))),.int .i64 0]))(b cap:Nat)(w:World)(hv:Vr w b c):
 Cg 123 #[.agg (cu id P A B N X Y s z l),.slice (some ⟨b,0,none⟩) n cap] w (.agg (nw 9 (acc n))):=by
 have K:Hid _:=HA';have L:Hu (_):=fun _=>hn
 have Q:Hid (∀j,j<n→∀v,Gr w v→(loadS 33 (.pointer (some ⟨b,j*9,none⟩))).run prog v=.ok (.agg (nw 9 (f j))) v):=fun j q v g=>by
  have H:=(hv.gr g).h;rw[loadPart v b (j*9) (by rw[H];omega),H,hrow j q]
 have S:Hu (_):=fun _=>h0;clear hn HA' h0 hrow hsz
 go_enter func123,ntmps123
 go_wp2_with fail
 refine gen_w (fun wr=>Hid (Gr w wr∧Vr wr (w.heap.size) (cu id P A B N X Y s z l)∧Vr wr (w.heap.size+1) (nw 9 0)∧Vr wr (w.heap.size+1+1) (nw 9 (acc 0)))) ⟨grA,vrA,vrA,by rw[S.out ()];exact vrA⟩ ?_;intro v0 d
 go_loopw [10] (fun ia wr=>∃j:Nat,ia=.int .i64 j∧Hu (j≤n)∧Hid (Gr w wr∧Vr wr (w.heap.size) (cu id P A B N X Y s z l)∧Vr wr (w.heap.size+1) (nw 9 0)∧Vr wr (w.heap.size+1+1) (nw 9 (acc j)))) (fun ia _=>((n:Int)-intOf ia).toNat)
 case atStart=>exact⟨0,rfl,fun _=>Nat.zero_le _,d⟩
 case round=>
  clear d;obtain⟨j,rfl,U,d⟩:=hrel;obtain⟨G,C,I,J⟩:=d.out
  have k0:wr.cell? ⟨w.heap.size,0,none⟩=some (.int .i64 id):=by rw[C.cell];exact cu_0 id P A B N X Y s z l
  have V:¬(w.heap.size+1+1=w.heap.size):=by omega
  have j0:(0:Int)≤j:=by omega
  have n4:(n:Int)≤4:=by have:=L.out ();omega
  have⟨h0,f0,p0⟩:=C;have⟨h1,f1,p1⟩:=I;have⟨h2,f2,p2⟩:=J;have⟨W,Z,aa,ab,ac,ae⟩:=C.pp;have⟨af,ag,ah,ai,aj,ak⟩:=I.pp;have⟨ao,ap,aq,ar,au,av⟩:=J.pp
  by_cases hlt:j<n
  ·have j1:(j:Int)<n:=by omega
   have ld:=Q.out j hlt;have D:Hid _:=K.out j hlt
   go_wp2_with (go_at_call 142;refine hkA D fun g=>?_)
   go_roundw
   case rel=>
    refine⟨j+1,by go_num,fun _=>hlt,?_,⟨by simp[go_sem, *],by simp[go_sem, *],by simp[go_sem, *]⟩,⟨by simp[go_sem, *],by simp[go_sem, *],by simp[go_sem, *]⟩,⟨by simp[go_sem, *],by simp[go_sem, *],by simp[go_sem, *]⟩⟩;exact grB
   case measure=>simp[intOf];omega
  ·have j1:¬(j:Int)<n:=by omega
   have q:j=n:=by have:=U.out ();omega
   go_wp2_with fail
   refine bo1 results123 (rd_nat (x:=acc j) (by rfl) ?_) ⟨by rw[q],?_⟩
   ·simp[go_sem, *]
   ·exact grB
end
section
attribute [local go_sem] uz7
attribute [local go_sem ↓] uz10 Go.wp_at_zero Go.wp_at_succ
attribute [local go_sem] uz11
theorem galong_of(id:Int)(P A B N X Y:Nat)(s z:Int)(l:Bool)(m x1 y1 x2 y2 q1 q2 q3 q4 q5 q6:Nat)(H1':∀w,Cg 122 #[.agg (cu id P A B N X Y s z l),.agg (nw 9 m),.agg (nw 9 m)] w (.agg (nw 9 q1)))(H3':∀w,Cg 120 #[.agg (cu id P A B N X Y s z l),.agg (nw 9 q1),.agg (nw 9 q2)] w (.agg (nw 9 q3)))(H4':∀w,Cg 120 #[.agg (cu id P A B N X Y s z l),.agg (nw 9 x1),.agg (nw 9 q3)] w (.agg (nw 9 q4)))(H5':∀w,Cg 122 #[.agg (cu id P A B N X Y s z l),.agg (nw 9 m),.agg (nw 9 q4)] w (.agg (nw 9 q5)))(H6':∀w,Cg 120 #[.agg (cu id P A B N X Y s z l),.agg (nw 9 q5),.agg (nw 9 y1)] w (.agg (nw 9 q6)))(H2':∀w b,Vr w b (nw 9 x1++nw 9 x2)→Cg 123 #[.agg (cu id P A B N X Y s z l),.slice (some ⟨b,0,none⟩) 2 2] w (.agg (nw 9 q2)))(w:World):
 Cg 121 #[.agg (cu id P A B N X Y s z l),.agg (nw 9 m),.agg (pnt x1 y1 false),.agg (pnt x2 y2 false)] w (.agg (pnt q3 q6 false)):=by
 have V:Hid _:=H1';have W:Hid _:=H3';have Z:Hid _:=H4';have H5:Hid _:=H5';have H6:Hid _:=H6';have H2:Hid _:=H2';clear H1' H3' H4' H5' H6' H2'
 go_enter func121,ntmps121
 go_upto_region 1 with fail
 refine gen_w (fun v=>Hid (Gr w v∧Vr v (w.heap.size) (cu id P A B N X Y s z l)∧Vr v (w.heap.size+1) (nw 9 m)∧Vr v (w.heap.size+1+1) (pnt x1 y1 false)∧Vr v (w.heap.size+1+1+1) (pnt x2 y2 false)∧Vr v (w.heap.size+1+1+1+1) (pnt 0 0 false))) ⟨grA,vrA,vrA,vrA,vrA,vrA⟩ ?_;intro v0 S;obtain⟨G,j,q,x,H,D⟩:=S.out;clear S;refine wp_v true [.c (.agg (cu id P A B N X Y s z l)),.c (.agg (cu id P A B N X Y s z l)),.N m,.N m,.N q1,.c (.agg (cu id P A B N X Y s z l)),.c (pv (w.heap.size+1+1) 0),.N x1,.c (pv (w.heap.size+1+1+1) 0),.N x2,.r 2 (nw 9 x1++nw 9 x2),.N q2,.N q3,.a,.u] [0,1,2,3,4,5,7,9,10,11,12] [⟨13,14,33,nw 9 0,fun _=>nw 9 q3⟩] ⟨.g 98 0 j rfl,.g 98 0 j rfl,.g 33 0 q rfl,.g 33 0 q rfl,.z V.out,.g 98 0 j rfl,.g 33 0 x rfl,.g 33 0 H rfl,.r (.buildSlice 189 2 #[(0,.const (.agg (nw 9 x1))),(1,.const (.agg (nw 9 x2)))]) rfl (rowN2 _ _),.k (fun I =>#[.agg (cu id P A B N X Y s z l),.slice (some ⟨(I 10 0).2,0,none⟩) 2 2]) fun I vv d hh=>RtW.of_c (Rt.c (H2.out _ _ (hh 10 rfl))),.z W.out,⟨⟩⟩ ⟨.k zNat ⟨fkc,fkc,fkc,fkc,fkc,fkc,fkc,fkc,fkc,fkc,fkr (by simp[nw_size]),fkc,fkc,fka,fku,trivial⟩,⟨⟩⟩ fun aa v1 d h1 J=>?_;simp only[fzw,Kw.a,Kw.r];obtain⟨⟨K,i⟩,-⟩:=J;clear h1;replace G:=G.trans d;replace j:=j.gr d;replace q:=q.gr d;replace x:=x.gr d;replace H:=H.gr d;replace D:=D.gr d;clear d
 go_upto_region 2 with fail
 refine wp_v true [.c (.agg (cu id P A B N X Y s z l)),.c (.agg (cu id P A B N X Y s z l)),.N m,.c (.agg (cu id P A B N X Y s z l)),.c (pv (w.heap.size+1+1) 0),.N x1,.N q3,.N q4,.N q5,.c (pv (w.heap.size+1+1) 9),.N y1,.N q6,.a,.u] [0,1,2,3,5,6,7,8,10,11] [⟨12,13,33,nw 9 0,fun _=>nw 9 q6⟩] ⟨.g 98 0 j rfl,.g 98 0 j rfl,.g 33 0 q rfl,.g 98 0 j rfl,.g 33 0 x rfl,.g 33 0 i rfl,.z Z.out,.z H5.out,.g 33 9 x rfl,.z H6.out,⟨⟩⟩ ⟨.k zNat (.t rfl),⟨⟩⟩ fun ab v2 d h2 L=>?_;simp only[fzw,Kw.a];obtain⟨⟨Q,C⟩,-⟩:=L;clear h2;replace G:=G.trans d;replace j:=j.gr d;replace q:=q.gr d;replace x:=x.gr d;replace H:=H.gr d;replace D:=D.gr d;replace i:=i.gr d
 go_upto_region 3 with fail
 refine wp_wTS 3 [.N q3,.N q6,.c (.agg (pnt q3 q6 false))] [0,1] ⟨.g 33 0 i rfl,.g 33 0 C rfl,⟨⟩⟩ (.s 35 (fun I=>pv (w.heap.size+1+1+1+1) 0) (fun I=>.agg (pnt q3 q6 false)) fun ac v3 d h3=>?_);have U:=(D.gr d).h;have FT:=(D.gr d).f;refine⟨setBlk v3 (w.heap.size+1+1+1+1) (pnt q3 q6 false),by simp[go_sem,exI,U,FT],?_⟩;simp only[fzw];replace G:=G.trans d
 go_wp2_with fail
 exact bo1 results121 (rd_pn (by rfl) (blk_setBlk _ _ _ (by rw[U];decide +kernel))) ⟨rfl,gr_setNew G (by omega)⟩
theorem gchord_of(id:Int)(P A B N X Y:Nat)(s z:Int)(l:Bool)(x1 y1 x2 y2 q1 q2 q3 r1 r2:Nat)(H1':∀w,Cg 120 #[.agg (cu id P A B N X Y s z l),.agg (nw 9 y2),.agg (nw 9 y1)] w (.agg (nw 9 q1)))(H2':∀w,Cg 120 #[.agg (cu id P A B N X Y s z l),.agg (nw 9 x2),.agg (nw 9 x1)] w (.agg (nw 9 q2)))(H3':∀w,Cg 119 #[.agg (cu id P A B N X Y s z l),.agg (nw 9 q1),.agg (nw 9 q2)] w (.agg (nw 9 q3)))(HAL':∀w,Cg 121 #[.agg (cu id P A B N X Y s z l),.agg (nw 9 q3),.agg (pnt x1 y1 false),.agg (pnt x2 y2 false)] w (.agg (pnt r1 r2 false)))(w:World):
 Cg 99 #[.agg (cu id P A B N X Y s z l),.agg (pnt x1 y1 false),.agg (pnt x2 y2 false)] w (.agg (pnt r1 r2 false)):=by
 have L:Hid _:=H1';have Q:Hid _:=H2';have S:Hid _:=H3';have D:Hid _:=HAL';clear H1' H2' H3' HAL'
 go_enter func99,ntmps99
 go_upto_region 1 with fail
 refine gen_w (fun v=>Hid (Gr w v∧Vr v (w.heap.size) (cu id P A B N X Y s z l)∧Vr v (w.heap.size+1) (pnt x1 y1 false)∧Vr v (w.heap.size+1+1) (pnt x2 y2 false)∧Vr v (w.heap.size+1+1+1) (pnt 0 0 false))) ⟨grA,vrA,vrA,vrA,vrA⟩ ?_;intro v0 J;obtain⟨G,j,q,x,C⟩:=J.out;clear J;refine wp_v true [.c (.agg (cu id P A B N X Y s z l)),.c (.agg (cu id P A B N X Y s z l)),.c (pv (w.heap.size+1+1) 9),.N y2,.c (pv (w.heap.size+1) 9),.N y1,.N q1,.c (.agg (cu id P A B N X Y s z l)),.c (pv (w.heap.size+1+1) 0),.N x2,.c (pv (w.heap.size+1) 0),.N x1,.N q2,.N q3,.a,.u] [0,1,3,5,6,7,9,11,12,13] [⟨14,15,33,nw 9 0,fun _=>nw 9 q3⟩] ⟨.g 98 0 j rfl,.g 98 0 j rfl,.g 33 9 x rfl,.g 33 9 q rfl,.z L.out,.g 98 0 j rfl,.g 33 0 x rfl,.g 33 0 q rfl,.z Q.out,.z S.out,⟨⟩⟩ ⟨.k zNat (.t rfl),⟨⟩⟩ fun U v1 d V H=>?_;simp only[fzw,Kw.a];obtain⟨⟨I,i⟩,-⟩:=H;clear V;replace G:=G.trans d;replace j:=j.gr d;replace q:=q.gr d;replace x:=x.gr d;replace C:=C.gr d
 go_upto_region 2 with fail
 refine wp_wTS 5 [.c (.agg (cu id P A B N X Y s z l)),.N q3,.c (.agg (pnt x1 y1 false)),.c (.agg (pnt x2 y2 false)),.c (.agg (pnt r1 r2 false))] [0,1,2,3,4] ⟨.g 98 0 j rfl,.g 33 0 i rfl,.g 35 0 q rfl,.g 35 0 x rfl,.z D.out,⟨⟩⟩ (.s 35 (fun W=>pv (w.heap.size+1+1+1) 0) (fun W=>.agg (pnt r1 r2 false)) fun Z v2 d h2=>?_);have K:=(C.gr d).h;have FT:=(C.gr d).f;refine⟨setBlk v2 (w.heap.size+1+1+1) (pnt r1 r2 false),by simp[go_sem,exI,K,FT],?_⟩;simp only[fzw];replace G:=G.trans d
 go_wp2_with fail
 exact bo1 results99 (rd_pn (by rfl) (blk_setBlk _ _ _ (by rw[K];decide +kernel))) ⟨rfl,gr_setNew G (by omega)⟩
theorem gtang_of(id:Int)(P A B N X Y:Nat)(s z:Int)(l:Bool)(x1 y1 x2 y2 q1 q2 q3 q4 r1 r2:Nat)(H1':∀w,Cg 122 #[.agg (cu id P A B N X Y s z l),.agg (nw 9 x1),.agg (nw 9 x1)] w (.agg (nw 9 q1)))(H4':∀w,Cg 119 #[.agg (cu id P A B N X Y s z l),.agg (nw 9 q2),.agg (nw 9 q3)] w (.agg (nw 9 q4)))(H2':∀w b,Vr w b (nw 9 q1++nw 9 q1++nw 9 q1++nw 9 A)→Cg 123 #[.agg (cu id P A B N X Y s z l),.slice (some ⟨b,0,none⟩) 4 4] w (.agg (nw 9 q2)))(H3':∀w b,Vr w b (nw 9 y1++nw 9 y1)→Cg 123 #[.agg (cu id P A B N X Y s z l),.slice (some ⟨b,0,none⟩) 2 2] w (.agg (nw 9 q3)))(HAL':∀w,Cg 121 #[.agg (cu id P A B N X Y s z l),.agg (nw 9 q4),.agg (pnt x1 y1 false),.agg (pnt x2 y2 false)] w (.agg (pnt r1 r2 false)))(w:World):
 Cg 100 #[.agg (cu id P A B N X Y s z l),.agg (pnt x1 y1 false),.agg (pnt x2 y2 false)] w (.agg (pnt r1 r2 false)):=by
 have W:Hid _:=H1';have Z:Hid _:=H4';have H2:Hid _:=H2';have H3:Hid _:=H3';have I:Hid _:=HAL';clear H1' H4' H2' H3' HAL'
 go_enter func100,ntmps100
 go_upto_region 1 with fail
 refine gen_w (fun v=>Hid (Gr w v∧Vr v (w.heap.size) (cu id P A B N X Y s z l)∧Vr v (w.heap.size+1) (pnt x1 y1 false)∧Vr v (w.heap.size+1+1) (pnt x2 y2 false)∧Vr v (w.heap.size+1+1+1) (pnt 0 0 false))) ⟨grA,vrA,vrA,vrA,vrA⟩ ?_;intro v0 S;obtain⟨G,j,q,H,D⟩:=S.out;clear S;refine wp_v false [.c (.agg (cu id P A B N X Y s z l)),.c (pv (w.heap.size+1) 0),.N x1,.c (pv (w.heap.size+1) 0),.N x1,.N q1,.a,.u] [0,2,4,5] [⟨6,7,33,nw 9 0,fun _=>nw 9 q1⟩] ⟨.g 98 0 j rfl,.g 33 0 q rfl,.g 33 0 q rfl,.z W.out,⟨⟩⟩ ⟨.k zNat (.t rfl),⟨⟩⟩ fun aa v1 d h1 J=>?_;simp only[fzw,Kw.a];obtain⟨⟨U,i⟩,-⟩:=J;clear h1;replace G:=G.trans d;replace j:=j.gr d;replace q:=q.gr d;replace H:=H.gr d;replace D:=D.gr d;clear d
 go_upto_region 2 with fail
 refine wp_v true [.c (.agg (cu id P A B N X Y s z l)),.c (.agg (cu id P A B N X Y s z l)),.N q1,.N q1,.N q1,.c (pv (w.heap.size) 0),.c (pv (w.heap.size) 10),.N A,.r 4 (nw 9 q1++nw 9 q1++nw 9 q1++nw 9 A),.N q2,.c (.agg (cu id P A B N X Y s z l)),.c (pv (w.heap.size+1) 9),.N y1,.c (pv (w.heap.size+1) 9),.N y1,.r 2 (nw 9 y1++nw 9 y1),.N q3,.N q4,.a,.u] [0,1,2,3,4,7,8,9,10,12,14,15,16,17] [⟨18,19,33,nw 9 0,fun _=>nw 9 q4⟩] ⟨.g 98 0 j rfl,.g 98 0 j rfl,.g 33 0 i rfl,.g 33 0 i rfl,.g 33 0 i rfl,.g 33 10 j rfl,.r (.buildSlice 189 4 #[(0,.const (.agg (nw 9 q1))),(1,.const (.agg (nw 9 q1))),(2,.const (.agg (nw 9 q1))),(3,.const (.agg (nw 9 A)))]) rfl (rowN4 _ _ _ _),.k (fun x =>#[.agg (cu id P A B N X Y s z l),.slice (some ⟨(x 8 0).2,0,none⟩) 4 4]) fun x vv d K=>RtW.of_c (Rt.c (H2.out _ _ (K 8 rfl))),.g 98 0 j rfl,.g 33 9 q rfl,.g 33 9 q rfl,.r (.buildSlice 189 2 #[(0,.const (.agg (nw 9 y1))),(1,.const (.agg (nw 9 y1)))]) rfl (rowN2 _ _),.k (fun x =>#[.agg (cu id P A B N X Y s z l),.slice (some ⟨(x 15 0).2,0,none⟩) 2 2]) fun x vv d K=>RtW.of_c (Rt.c (H3.out _ _ (K 15 rfl))),.z Z.out,⟨⟩⟩ ⟨.k zNat ⟨fkc,fkc,fkc,fkc,fkc,fkc,fkc,fkc,fkr (by simp[nw_size]),fkc,fkc,fkc,fkc,fkc,fkc,fkr (by simp[nw_size]),fkc,fkc,fka,fku,trivial⟩,⟨⟩⟩ fun ab v2 d h2 L=>?_;simp only[fzw,Kw.a,Kw.r];obtain⟨⟨Q,C⟩,-⟩:=L;clear h2;replace G:=G.trans d;replace j:=j.gr d;replace q:=q.gr d;replace H:=H.gr d;replace D:=D.gr d
 go_upto_region 3 with fail
 refine wp_wTS 5 [.c (.agg (cu id P A B N X Y s z l)),.N q4,.c (.agg (pnt x1 y1 false)),.c (.agg (pnt x2 y2 false)),.c (.agg (pnt r1 r2 false))] [0,1,2,3,4] ⟨.g 98 0 j rfl,.g 33 0 C rfl,.g 35 0 q rfl,.g 35 0 H rfl,.z I.out,⟨⟩⟩ (.s 35 (fun x=>pv (w.heap.size+1+1+1) 0) (fun x=>.agg (pnt r1 r2 false)) fun ac v3 d h3=>?_);have V:=(D.gr d).h;have FT:=(D.gr d).f;refine⟨setBlk v3 (w.heap.size+1+1+1) (pnt r1 r2 false),by simp[go_sem,exI,V,FT],?_⟩;simp only[fzw];replace G:=G.trans d
 go_wp2_with fail
 exact bo1 results100 (rd_pn (by rfl) (blk_setBlk _ _ _ (by rw[V];decide +kernel))) ⟨rfl,gr_setNew G (by omega)⟩
end
section
theorem neNat(x y:Nat)(w:World):(binOp .neq 33 (.agg (nw 9 x)) (.agg (nw 9 y))).run prog w=.ok (.bool (!(eqN 9 x y))) w:=by
 rw[run_neq_struct,show (10000:Nat)=9997+3 from rfl,eqNatIn]
 rfl
theorem storePY(w:World)(b q:Nat)(hs:(blk w b).size=19)(hf:frz w b=(0,0)):(storeS 33 (.pointer (some ⟨b,9,none⟩)) (.agg (nw 9 q))).run prog w=.ok () (setBlk w b (setL (blk w b) 9 (nw 9 q).toList)):=by
 have d:w.there b 9 (nw 9 q).size:=fun j f=>by
  rw[nw_size]at f;exact⟨by rw[cell_blk,Array.getElem?_eq_getElem (by omega)];rfl,frz_at w b _ hf⟩
 simp only[storeS,Instr.storeAt,Instr.sureAddr,Sem.run_bind,Sem.run_pure,Result.andThen_ok];rw[run_storeVar_mid w b 9 33 (nw 9 q) d (by kernel_rfl) (nw_one 9 q),setCells_setBlk _ _ _ _ (by omega)]
theorem pnt_setY(x y q:Nat)(f:Bool):setL (pnt x y f) 9 (nw 9 q).toList=pnt x q f:=by kernel_rfl
theorem buildN0(w:World):(buildF 33 #[]).run prog w=.ok (.agg (nw 9 0)) w:=by kernel_rfl
theorem buildN_is(p:Array (Nat×Value)):Instr.build 33 p=buildF 33 p:=rfl
attribute [local go_sem] uz7
attribute [local go_sem ↓] uz10 Go.wp_at_zero Go.wp_at_succ
attribute [local go_sem] uz11
theorem rel_0(x1 y1 x2 y2:Nat)(f2:Bool)(w:World):
 Cg 82 #[.agg (pnt x1 y1 true),.agg (pnt x2 y2 f2)] w (.int .i64 0):=by
 go_enter func82,ntmps82
 go_upto_region 1 with fail
 refine gen_w (fun v=>Hid (Gr w v∧Vr v (w.heap.size) (pnt x1 y1 true)∧Vr v (w.heap.size+1) (pnt x2 y2 f2))) ⟨grA,vrA,vrA⟩ ?_;intro j d;obtain⟨G,f,q⟩:=d.out;refine wp_wS [.c (pv (w.heap.size) 18),.T,.T] [1] ⟨.o 4 18 f rfl (by exact pnt_18 _ _ _),⟨⟩⟩ fun h x i A=>?_;simp only[fzw];replace G:=G.trans i
 go_wp2_with fail
 go_ret
 exact⟨rfl,G⟩
theorem rel_1(x1 y1 x2 y2:Nat)(w:World):
 Cg 82 #[.agg (pnt x1 y1 false),.agg (pnt x2 y2 true)] w (.int .i64 1):=by
 go_enter func82,ntmps82
 go_upto_region 1 with fail
 refine gen_w (fun v=>Hid (Gr w v∧Vr v (w.heap.size) (pnt x1 y1 false)∧Vr v (w.heap.size+1) (pnt x2 y2 true))) ⟨grA,vrA,vrA⟩ ?_;intro A i;obtain⟨G,f,h⟩:=i.out;clear i;refine wp_wS [.c (pv (w.heap.size) 18),.F,.F] [1] ⟨.o 4 18 f rfl (by exact pnt_18 _ _ _),⟨⟩⟩ fun j B d q=>?_;simp only[fzw];clear q;replace G:=G.trans d;replace f:=f.gr d;replace h:=h.gr d
 go_upto_region 3 with fail
 refine wp_wS [.c (pv (w.heap.size+1) 18),.T,.T] [1] ⟨.o 4 18 h rfl (by exact pnt_18 _ _ _),⟨⟩⟩ fun x C d D=>?_;simp only[fzw];replace G:=G.trans d;replace f:=f.gr d
 go_wp2_with fail
 go_ret
 exact⟨rfl,G⟩
theorem rel_2(x1 y1 x2 y2:Nat)(e1:eqN 9 x1 x2=false)(w:World):
 Cg 82 #[.agg (pnt x1 y1 false),.agg (pnt x2 y2 false)] w (.int .i64 2):=by
 go_enter func82,ntmps82
 go_upto_region 1 with fail
 refine gen_w (fun v=>Hid (Gr w v∧Vr v (w.heap.size) (pnt x1 y1 false)∧Vr v (w.heap.size+1) (pnt x2 y2 false))) ⟨grA,vrA,vrA⟩ ?_;intro C i;obtain⟨G,f,h⟩:=i.out;clear i;refine wp_wS [.c (pv (w.heap.size) 18),.F,.F] [1] ⟨.o 4 18 f rfl (by exact pnt_18 _ _ _),⟨⟩⟩ fun j D d q=>?_;simp only[fzw];clear q;replace G:=G.trans d;replace f:=f.gr d;replace h:=h.gr d;clear d
 go_upto_region 3 with fail
 refine wp_wS [.c (pv (w.heap.size+1) 18),.F,.F] [1] ⟨.o 4 18 h rfl (by exact pnt_18 _ _ _),⟨⟩⟩ fun x H d A=>?_;simp only[fzw];clear A;replace G:=G.trans d;replace f:=f.gr d;replace h:=h.gr d
 go_upto_region 5 with fail
 refine wp_wS [.c (pv (w.heap.size) 0),.N x1,.c (pv (w.heap.size+1) 0),.N x2,.T,.T] [1,3,4] ⟨.g 33 0 f rfl,.g 33 0 h rfl,.s (.binOp .neq 33 (.const (.agg (nw 9 x1))) (.const (.agg (nw 9 x2))) 33) rfl fun I d=>by simp[go_sem,exI,neNat,e1],⟨⟩⟩ fun B J d K=>?_;simp only[fzw];replace G:=G.trans d
 go_wp2_with fail
 go_ret
 exact⟨rfl,G⟩
theorem rel_3(x1 y1 x2 y2:Nat)(e1:eqN 9 x1 x2=true)(e2:eqN 9 y1 y2=true)(e3:eqN 9 y1 0=false)(w:World):
 Cg 82 #[.agg (pnt x1 y1 false),.agg (pnt x2 y2 false)] w (.int .i64 3):=by
 go_enter func82,ntmps82
 go_upto_region 1 with fail
 refine gen_w (fun v=>Hid (Gr w v∧Vr v (w.heap.size) (pnt x1 y1 false)∧Vr v (w.heap.size+1) (pnt x2 y2 false))) ⟨grA,vrA,vrA⟩ ?_;intro I i;obtain⟨G,f,h⟩:=i.out;clear i;refine wp_wS [.c (pv (w.heap.size) 18),.F,.F] [1] ⟨.o 4 18 f rfl (by exact pnt_18 _ _ _),⟨⟩⟩ fun q J d x=>?_;simp only[fzw];clear x;replace G:=G.trans d;replace f:=f.gr d;replace h:=h.gr d;clear d
 go_upto_region 3 with fail
 refine wp_wS [.c (pv (w.heap.size+1) 18),.F,.F] [1] ⟨.o 4 18 h rfl (by exact pnt_18 _ _ _),⟨⟩⟩ fun A K d B=>?_;simp only[fzw];clear B;replace G:=G.trans d;replace f:=f.gr d;replace h:=h.gr d;clear d
 go_upto_region 5 with fail
 refine wp_wS [.c (pv (w.heap.size) 0),.N x1,.c (pv (w.heap.size+1) 0),.N x2,.F,.F] [1,3,4] ⟨.g 33 0 f rfl,.g 33 0 h rfl,.s (.binOp .neq 33 (.const (.agg (nw 9 x1))) (.const (.agg (nw 9 x2))) 33) rfl fun j d=>by simp[go_sem,exI,neNat,e1],⟨⟩⟩ fun C L d D=>?_;simp only[fzw];clear D;replace G:=G.trans d;replace f:=f.gr d;replace h:=h.gr d
 go_upto_region 7 with fail
 refine wp_wS [.c (.agg (pnt x1 y1 false)),.c (.agg (pnt x2 y2 false)),.T,.T,.c (pv (w.heap.size) 9),.N y1,.N 0,.T,.T,.T] [0,1,2,5,7] ⟨.g 35 0 f rfl,.g 35 0 h rfl,.s (.binOp .eql 35 (.const (.agg (pnt x1 y1 false))) (.const (.agg (pnt x2 y2 false))) 35) rfl fun j d=>by simp[go_sem,exI,eqPn,e1,e2],.g 33 9 f rfl,.s (.binOp .neq 33 (.const (.agg (nw 9 y1))) (.const (.agg (nw 9 0))) 33) rfl fun j d=>by simp[go_sem,exI,neNat,e3],⟨⟩⟩ fun H P d Q=>?_;simp only[fzw];replace G:=G.trans d
 go_wp2_with fail
 go_ret
 exact⟨rfl,G⟩
theorem rel_4(x1 y1 x2 y2:Nat)(e1:eqN 9 x1 x2=true)(e2:eqN 9 y1 y2=false)(w:World):
 Cg 82 #[.agg (pnt x1 y1 false),.agg (pnt x2 y2 false)] w (.int .i64 4):=by
 go_enter func82,ntmps82
 go_upto_region 1 with fail
 refine gen_w (fun v=>Hid (Gr w v∧Vr v (w.heap.size) (pnt x1 y1 false)∧Vr v (w.heap.size+1) (pnt x2 y2 false))) ⟨grA,vrA,vrA⟩ ?_;intro I i;obtain⟨G,f,h⟩:=i.out;clear i;refine wp_wS [.c (pv (w.heap.size) 18),.F,.F] [1] ⟨.o 4 18 f rfl (by exact pnt_18 _ _ _),⟨⟩⟩ fun j J d q=>?_;simp only[fzw];clear q;replace G:=G.trans d;replace f:=f.gr d;replace h:=h.gr d;clear d
 go_upto_region 3 with fail
 refine wp_wS [.c (pv (w.heap.size+1) 18),.F,.F] [1] ⟨.o 4 18 h rfl (by exact pnt_18 _ _ _),⟨⟩⟩ fun x K d A=>?_;simp only[fzw];clear A;replace G:=G.trans d;replace f:=f.gr d;replace h:=h.gr d;clear d
 go_upto_region 5 with fail
 refine wp_wS [.c (pv (w.heap.size) 0),.N x1,.c (pv (w.heap.size+1) 0),.N x2,.F,.F] [1,3,4] ⟨.g 33 0 f rfl,.g 33 0 h rfl,.s (.binOp .neq 33 (.const (.agg (nw 9 x1))) (.const (.agg (nw 9 x2))) 33) rfl fun B d=>by simp[go_sem,exI,neNat,e1],⟨⟩⟩ fun C L d D=>?_;simp only[fzw];clear D;replace G:=G.trans d;replace f:=f.gr d;replace h:=h.gr d
 go_upto_region 7 with fail
 refine wp_wS [.c (.agg (pnt x1 y1 false)),.c (.agg (pnt x2 y2 false)),.F,.F,.u,.u,.u,.u,.F,.F] [0,1,2] ⟨.g 35 0 f rfl,.g 35 0 h rfl,.s (.binOp .eql 35 (.const (.agg (pnt x1 y1 false))) (.const (.agg (pnt x2 y2 false))) 35) rfl fun B d=>by simp[go_sem,exI,eqPn,e1,e2],⟨⟩⟩ fun H P d Q=>?_;simp only[fzw];replace G:=G.trans d
 go_wp2_with fail
 go_ret
 exact⟨rfl,G⟩
theorem rel_5(x1 y1 x2 y2:Nat)(e1:eqN 9 x1 x2=true)(e2:eqN 9 y1 y2=true)(e3:eqN 9 y1 0=true)(w:World):
 Cg 82 #[.agg (pnt x1 y1 false),.agg (pnt x2 y2 false)] w (.int .i64 4):=by
 go_enter func82,ntmps82
 go_upto_region 1 with fail
 refine gen_w (fun v=>Hid (Gr w v∧Vr v (w.heap.size) (pnt x1 y1 false)∧Vr v (w.heap.size+1) (pnt x2 y2 false))) ⟨grA,vrA,vrA⟩ ?_;intro I i;obtain⟨G,f,h⟩:=i.out;clear i;refine wp_wS [.c (pv (w.heap.size) 18),.F,.F] [1] ⟨.o 4 18 f rfl (by exact pnt_18 _ _ _),⟨⟩⟩ fun q J d x=>?_;simp only[fzw];clear x;replace G:=G.trans d;replace f:=f.gr d;replace h:=h.gr d;clear d
 go_upto_region 3 with fail
 refine wp_wS [.c (pv (w.heap.size+1) 18),.F,.F] [1] ⟨.o 4 18 h rfl (by exact pnt_18 _ _ _),⟨⟩⟩ fun A K d B=>?_;simp only[fzw];clear B;replace G:=G.trans d;replace f:=f.gr d;replace h:=h.gr d;clear d
 go_upto_region 5 with fail
 refine wp_wS [.c (pv (w.heap.size) 0),.N x1,.c (pv (w.heap.size+1) 0),.N x2,.F,.F] [1,3,4] ⟨.g 33 0 f rfl,.g 33 0 h rfl,.s (.binOp .neq 33 (.const (.agg (nw 9 x1))) (.const (.agg (nw 9 x2))) 33) rfl fun j d=>by simp[go_sem,exI,neNat,e1],⟨⟩⟩ fun C L d D=>?_;simp only[fzw];clear D;replace G:=G.trans d;replace f:=f.gr d;replace h:=h.gr d
 go_upto_region 7 with fail
 refine wp_wS [.c (.agg (pnt x1 y1 false)),.c (.agg (pnt x2 y2 false)),.T,.T,.c (pv (w.heap.size) 9),.N y1,.N 0,.F,.F,.F] [0,1,2,5,7] ⟨.g 35 0 f rfl,.g 35 0 h rfl,.s (.binOp .eql 35 (.const (.agg (pnt x1 y1 false))) (.const (.agg (pnt x2 y2 false))) 35) rfl fun j d=>by simp[go_sem,exI,eqPn,e1,e2],.g 33 9 f rfl,.s (.binOp .neq 33 (.const (.agg (nw 9 y1))) (.const (.agg (nw 9 0))) 33) rfl fun j d=>by simp[go_sem,exI,neNat,e3],⟨⟩⟩ fun H P d Q=>?_;simp only[fzw];replace G:=G.trans d
 go_wp2_with fail
 go_ret
 exact⟨rfl,G⟩
theorem gadd_of(id:Int)(P A B N X Y:Nat)(s z:Int)(l:Bool)(x1 y1 x2 y2 x3 y3:Nat)(f1 f2 f3:Bool)(r:Int)(f:Nat)(hid:∀w,(Instr.index 131 (.agg tabA) (.int .i64 r)).run prog w=.ok (.func (.func f) #[] #[]) w)(hcf:∀w,(callFunc f #[.agg (cu id P A B N X Y s z l),.agg (pnt x1 y1 f1),.agg (pnt x2 y2 f2)]).run prog w=.ok (.enter f #[.agg (cu id P A B N X Y s z l),.agg (pnt x1 y1 f1),.agg (pnt x2 y2 f2)]) w)(HR':∀w,Cg 82 #[.agg (pnt x1 y1 f1),.agg (pnt x2 y2 f2)] w (.int .i64 r))(HS':∀w,Calls prog f #[.agg (cu id P A B N X Y s z l),.agg (pnt x1 y1 f1),.agg (pnt x2 y2 f2)] w fun e w'=>e=.returned (.agg (pnt x3 y3 f3))∧Gr w w')(w:World):
 Cg 59 #[.agg (cu id P A B N X Y s z l),.agg (pnt x1 y1 f1),.agg (pnt x2 y2 f2)] w (.agg (pnt x3 y3 f3)):=by
 have H:Hid _:=HR';have I:Hid _:=HS';clear HR' HS'
 go_enter func59,ntmps59
 go_upto_region 1 with fail
 refine gen_w (fun v=>Hid (Gr w v∧Vr v (w.heap.size) (cu id P A B N X Y s z l)∧Vr v (w.heap.size+1) (pnt x1 y1 f1)∧Vr v (w.heap.size+1+1) (pnt x2 y2 f2)∧Vr v (w.heap.size+1+1+1) (pnt 0 0 false))) ⟨grA,vrA,vrA,vrA,vrA⟩ ?_;intro U i;obtain⟨G,J,j,q,x⟩:=i.out;clear i;refine wp_wT 9 [.c (.agg tabA),.c (.agg (pnt x1 y1 f1)),.c (.agg (pnt x2 y2 f2)),.c (.int .i64 r),.c (.func (.func f) #[] #[]),.c (.agg (cu id P A B N X Y s z l)),.c (.agg (pnt x1 y1 f1)),.c (.agg (pnt x2 y2 f2)),.c (.agg (pnt x3 y3 f3))] [0,1,2,3,4,5,6,7,8] ⟨.z toSum_any,.g 35 0 j rfl,.g 35 0 q rfl,.z H.out,.s (.index 131 (.const (.agg tabA)) (.const (.int .i64 r))) rfl fun K d=>by simp[go_sem,exI,hid],.g 98 0 J rfl,.g 35 0 j rfl,.g 35 0 q rfl,.kf (fun _ =>#[.agg (cu id P A B N X Y s z l),.agg (pnt x1 y1 f1),.agg (pnt x2 y2 f2)]) (fun _=>hcf) fun C K d V=>RtW.of_c (Rt.c (I.out _)),⟨⟩⟩ (.s 35 (fun C=>pv (w.heap.size+1+1+1) 0) (fun C=>.agg (pnt x3 y3 f3)) fun L Q d W=>?_);have D:=(x.gr d).h;have S:=(x.gr d).f;refine⟨setBlk Q (w.heap.size+1+1+1) (pnt x3 y3 f3),by simp[go_sem,exI,D,S],?_⟩;simp only[fzw];replace G:=G.trans d
 go_wp2_with fail
 exact bo1 results59 (rd_pn (by rfl) (blk_setBlk _ _ _ (by rw[D];decide +kernel))) ⟨rfl,gr_setNew G (by omega)⟩
attribute [local go_sem ↓] buildN_is
attribute [local go_sem] storePY pnt_setY buildN0
end
end
section
theorem gdiffF{k:Nat}(h1:1≤k)(h2:k≤15)(a b:Fin (pN k))(w:World):Cg 120 #[.agg (cuK k),.agg (nw 9 a.val),.agg (nw 9 b.val)] w (.agg (nw 9 (a-b).val)):=gdiff_of _ _ _ _ _ _ _ _ _ _ _ _ _ (fsubF h1 h2 a b) w
theorem gprodF{k:Nat}(h1:1≤k)(h2:k≤15)(a b:Fin (pN k))(w:World):Cg 122 #[.agg (cuK k),.agg (nw 9 a.val),.agg (nw 9 b.val)] w (.agg (nw 9 (a*b).val)):=gprod_of _ _ _ _ _ _ _ _ _ _ _ _ _ (fmulF h1 h2 a b) w
theorem gquotF{k:Nat}(h1:1≤k)(h2:k≤15)[NeZero (pN k)](a b:Fin (pN k))(hb:b≠0)(w:World):Cg 119 #[.agg (cuK k),.agg (nw 9 a.val),.agg (nw 9 b.val)] w (.agg (nw 9 (a*EC.iP (pN k) b).val)):=gquot_of _ _ _ _ _ _ _ _ _ _ _ _ _ _ (finvF h1 h2 b hb) (gprodF h1 h2 a _) w
def accF{p:Nat}[NeZero p](F:Nat→Fin p):Nat→Fin p
 | 0=>0
 | n+1=>accF F n+F n
theorem gsumF{k:Nat}(h1:1≤k)(h2:k≤15)[NeZero (pN k)](F:Nat→Fin (pN k))(n:Nat)(hn:n≤4)(c:Array Value)(hrow:∀i,i<n→c.extract (i*9) (i*9+9)=nw 9 (F i).val)(hsz:n*9≤c.size)(b:Nat)(w:World)(hv:Vr w b c):
 Cg 123 #[.agg (cuK k),.slice (some ⟨b,0,none⟩) n n] w (.agg (nw 9 (accF F n).val)):=
 gsum_of _ _ _ _ _ _ _ _ _ _ n hn (fun i=>(F i).val) (fun i=>(accF F i).val) c (Fin.val_zero _) hrow hsz (fun _ _ w=>faddF h1 h2 _ _ w) b n w hv
theorem gsum2F{k:Nat}(h1:1≤k)(h2:k≤15)[NeZero (pN k)](x y:Fin (pN k))(w:World)(b:Nat)(hv:Vr w b (nw 9 x.val++nw 9 y.val)):
 Cg 123 #[.agg (cuK k),.slice (some ⟨b,0,none⟩) 2 2] w (.agg (nw 9 (x+y).val)):=by
 have h:=gsumF h1 h2 (fun i=>match i with|0=>x|_=>y) 2 (by decide) _ (fun i d=>by
  obtain rfl|rfl:i=0∨i=1:=by omega
  ·kernel_rfl
  ·kernel_rfl) (by simp[nw_size]) b w hv
 rw[show accF (fun i=>match i with|0=>x|_=>y) 2=x+y by show 0+x+y=x+y;grobner]at h;exact h
theorem gsum4F{k:Nat}(h1:1≤k)(h2:k≤15)[NeZero (pN k)](x y z u:Fin (pN k))(w:World)(b:Nat)(hv:Vr w b (nw 9 x.val++nw 9 y.val++nw 9 z.val++nw 9 u.val)):
 Cg 123 #[.agg (cuK k),.slice (some ⟨b,0,none⟩) 4 4] w (.agg (nw 9 (x+y+z+u).val)):=by
 have h:=gsumF h1 h2 (fun i=>match i with|0=>x|1=>y|2=>z|_=>u) 4 (by decide) _ (fun i d=>by
  obtain rfl|rfl|rfl|rfl:i=0∨i=1∨i=2∨i=3:=by omega
  ·kernel_rfl
  ·kernel_rfl
  ·kernel_rfl
  ·kernel_rfl) (by simp[nw_size]) b w hv
 rw[show accF (fun i=>match i with|0=>x|1=>y|2=>z|_=>u) 4=x+y+z+u by show 0+x+y+z+u=x+y+z+u;grobner]at h;exact h
theorem galongF{k:Nat}(h1:1≤k)(h2:k≤15)[NeZero (pN k)](m x1 y1 x2 y2:Fin (pN k))(w:World):
 Cg 121 #[.agg (cuK k),.agg (nw 9 m.val),.agg (pnt x1.val y1.val false),.agg (pnt x2.val y2.val false)] w (.agg (pnt (ex (some (EC.sx m x1 x2,EC.sy m x1 y1 (EC.sx m x1 x2)))) (ey (some (EC.sx m x1 x2,EC.sy m x1 y1 (EC.sx m x1 x2)))) (ef (some (EC.sx m x1 x2,EC.sy m x1 y1 (EC.sx m x1 x2)))))):=by
 have e:m*m-(x1+x2)=EC.sx m x1 x2:=by unfold EC.sx;grobner
 have d:=gdiffF h1 h2 (m*m) (x1+x2);rw[e]at d;exact galong_of _ _ _ _ _ _ _ _ _ _ _ _ _ _ _ _ _ _ _ _ _ (gprodF h1 h2 m m) d (gdiffF h1 h2 x1 _) (gprodF h1 h2 m _) (gdiffF h1 h2 _ y1) (gsum2F h1 h2 x1 x2) w
theorem gadd_any{k:Nat}(h1:1≤k)(h2:k≤15)[NeZero (pN k)](Q1 Q2:Option (Fin (pN k)×Fin (pN k)))(w:World):
 Cg 59 #[.agg (cuK k),.agg (pnt (ex Q1) (ey Q1) (ef Q1)),.agg (pnt (ex Q2) (ey Q2) (ef Q2))] w (.agg (pnt (ex (EC.pl (EC.iP (pN k)) (EC.aF k h1 h2) Q1 Q2)) (ey (EC.pl (EC.iP (pN k)) (EC.aF k h1 h2) Q1 Q2)) (ef (EC.pl (EC.iP (pN k)) (EC.aF k h1 h2) Q1 Q2)))):=by
 have C:=EC.curN k h1 h2;have j:=pN_M k;have z:(0:Fin (pN k)).val=0:=Fin.val_zero _
 have d:∀a b:Fin (pN k),eqN 9 a.val b.val=decide (a=b):=fun a b=>by
  rw[eqN9 _ _ (Nat.lt_trans a.isLt j) (Nat.lt_trans b.isLt j)];exact decide_eq_decide.2 Fin.ext_iff.symm
 match Q1,Q2 with
 | none,Q2=>exact gadd_of _ _ _ _ _ _ _ _ _ _ _ _ _ _ _ _ _ _ _ 0 97 (fun w=>by kernel_rfl) (fun w=>by kernel_rfl) (rel_0 _ _ _ _ _) (gright_any _ _ _ _ _ _ _ _ _ _ _ _ _ _ _ _) w
 | some (x1,y1),none=>exact gadd_of _ _ _ _ _ _ _ _ _ _ _ _ _ _ _ _ _ _ _ 1 98 (fun w=>by kernel_rfl) (fun w=>by kernel_rfl) (rel_1 _ _ _ _) (gleft_any _ _ _ _ _ _ _ _ _ _ _ _ _ _ _ _) w
 | some (x1,y1),some (x2,y2)=>
  by_cases hx:x1=x2
  ·subst hx;have f:eqN 9 x1.val x1.val=true:=eqN_self _ _
   by_cases hy:y1=y2
   ·subst hy;have q:eqN 9 y1.val y1.val=true:=eqN_self _ _
    by_cases h0:y1=0
    ·have e:EC.pl (EC.iP (pN k)) (EC.aF k h1 h2) (some (x1,y1)) (some (x1,y1))=none:=by simp[EC.pl,h0]
     rw[e];exact gadd_of _ _ _ _ _ _ _ _ _ _ _ _ _ _ _ _ _ _ _ 4 101 (fun w=>by kernel_rfl) (fun w=>by kernel_rfl) (rel_5 _ _ _ _ f q (z▸(d y1 0).trans (decide_eq_true h0))) (ginf_any _ _ _ _ _ _ _ _ _ _ _ _ _ _ _ _) w
    ·have i:y1+y1≠0:=fun h=>h0 (C.dbl h)
     have e:EC.pl (EC.iP (pN k)) (EC.aF k h1 h2) (some (x1,y1)) (some (x1,y1))=some (EC.sx ((x1*x1+(x1*x1+x1*x1)+EC.aF k h1 h2)*EC.iP (pN k) (y1+y1)) x1 x1,EC.sy ((x1*x1+(x1*x1+x1*x1)+EC.aF k h1 h2)*EC.iP (pN k) (y1+y1)) x1 y1 (EC.sx ((x1*x1+(x1*x1+x1*x1)+EC.aF k h1 h2)*EC.iP (pN k) (y1+y1)) x1 x1)):=by simp[EC.pl,h0]
     rw[e];have x:=gsum4F h1 h2 (x1*x1) (x1*x1) (x1*x1) (EC.aF k h1 h2);rw[show x1*x1+x1*x1+x1*x1+EC.aF k h1 h2=x1*x1+(x1*x1+x1*x1)+EC.aF k h1 h2 by grobner]at x;exact gadd_of _ _ _ _ _ _ _ _ _ _ _ _ _ _ _ _ _ _ _ 3 100 (fun w=>by kernel_rfl) (fun w=>by kernel_rfl) (rel_3 _ _ _ _ f q (z▸(d y1 0).trans (decide_eq_false h0))) (gtang_of _ _ _ _ _ _ _ _ _ _ _ _ _ _ _ _ _ _ _ _ (gprodF h1 h2 x1 x1) (gquotF h1 h2 _ _ i) x (gsum2F h1 h2 y1 y1) (galongF h1 h2 _ x1 y1 x1 y1)) w
   ·have e:EC.pl (EC.iP (pN k)) (EC.aF k h1 h2) (some (x1,y1)) (some (x1,y2))=none:=by simp[EC.pl,hy]
    rw[e];exact gadd_of _ _ _ _ _ _ _ _ _ _ _ _ _ _ _ _ _ _ _ 4 101 (fun w=>by kernel_rfl) (fun w=>by kernel_rfl) (rel_4 _ _ _ _ f ((d y1 y2).trans (decide_eq_false hy))) (ginf_any _ _ _ _ _ _ _ _ _ _ _ _ _ _ _ _) w
  ·have i:x2-x1≠0:=fun h=>hx (EC.sub_zero_of h).symm
   have e:EC.pl (EC.iP (pN k)) (EC.aF k h1 h2) (some (x1,y1)) (some (x2,y2))=some (EC.sx ((y2-y1)*EC.iP (pN k) (x2-x1)) x1 x2,EC.sy ((y2-y1)*EC.iP (pN k) (x2-x1)) x1 y1 (EC.sx ((y2-y1)*EC.iP (pN k) (x2-x1)) x1 x2)):=by simp[EC.pl,hx]
   rw[e];exact gadd_of _ _ _ _ _ _ _ _ _ _ _ _ _ _ _ _ _ _ _ 2 99 (fun w=>by kernel_rfl) (fun w=>by kernel_rfl) (rel_2 _ _ _ _ ((d x1 x2).trans (decide_eq_false hx))) (gchord_of _ _ _ _ _ _ _ _ _ _ _ _ _ _ _ _ _ _ _ (gdiffF h1 h2 y2 y1) (gdiffF h1 h2 x2 x1) (gquotF h1 h2 _ _ i) (galongF h1 h2 _ x1 y1 x2 y2)) w
theorem gaddQ{k:Nat}(h1:1≤k)(h2:k≤15){P Q R:Q3}(hP:OnQ k P)(hQ:OnQ k Q)(hR:plQ k P Q=R)(w:World):
 Cg 59 #[.agg (cuK k),.agg (pnQ P),.agg (pnQ Q)] w (.agg (pnQ R)):=by
 haveI:=EC.nzP k h1 h2
 obtain⟨d,f,i⟩:=dec3 hP;obtain⟨j,q,x⟩:=dec3 hQ;have h:=gadd_any h1 h2 (decQ (pN k) P) (decQ (pN k) Q) w;rw[d,f,i,j,q,x]at h;rw[←hR,plQ_is h1 h2];exact h
end
section
attribute [local go_sem ↓] uz1
attribute [local go_sem] uz2
section
attribute [local go_sem] uz7
attribute [local go_sem ↓] uz10 Go.wp_at_zero Go.wp_at_succ
attribute [local go_sem] uz11
theorem gf_yes{k:Nat}(h1:1≤k)(h2:k≤15)(n:Nat)(hn:n≤2)(F:Nat→Q3)(hF:∀i,i<n→(F i).1<M∧(F i).2.1<M)(c:Array Value)(hrow:∀i,i<n→c.extract (i*19) (i*19+19)=pnQ (F i))(hsz:n*19≤c.size)(hon:∀i,i<n→onB k (F i).1 (F i).2.1 (F i).2.2=true)(b cap:Nat)(w:World)(hv:Vr w b c):
 Cg 58 #[.int .i64 k,.slice (some ⟨b,0,none⟩) n cap] w (.tuple #[.agg (cuK k),.int .i64 0]):=by
 have C:Hid (∀w,Cg 60 #[.int .i64 k] w (.tuple #[.agg (cuK k),.int .i64 0])):=fun w=>get13_yes k h1 h2 w;have L:Hu (n≤2):=fun _=>hn;have D:Hid _:=hF;have P:Hid _:=hon
 have Q:Hid (∀j,j<n→∀v,Gr w v→(loadS 35 (.pointer (some ⟨b,j*19,none⟩))).run prog v=.ok (.agg (pnt (F j).1 (F j).2.1 (F j).2.2)) v):=fun j S v g=>by
  have H:=(hv.gr g).h;rw[loadPartP v b (j*19) (by rw[H];omega),H,hrow j S]
 clear hn hF hrow hsz hon
 go_enter func58,ntmps58
 go_wp2_with (go_at_call 60;refine(C.out _).mono ?_;rintro e I ⟨rfl,x⟩)
 obtain⟨q,d⟩:=exl (I.heap.size);simp only[d]
 refine gen_w (fun wr=>Hid (Gr w wr∧Vr wr (w.heap.size) (cu 0 0 0 0 0 0 0 0 0 false)∧Vr wr q (cuK k))) ?_ ?_
 ·subst d;exact⟨(((Gr.refl w).alloc _).trans x).alloc _,((Vr.new w _ _).gr x).gr ((Gr.refl _).alloc _),Vr.new I _ _⟩
 have U:w.heap.size<q:=by have:=x.below.size;simp at this;omega
 have J:¬(w.heap.size=q):=by omega
 have K:¬(q=w.heap.size):=by omega
 clear d x C;intro v0 A
 go_loopw [20] (fun ia wr=>∃j:Nat,ia=.int .i64 j∧Hu (j≤n)∧Hid (Gr w wr∧Vr wr (w.heap.size) (cu 0 0 0 0 0 0 0 0 0 false)∧Vr wr q (cuK k))) (fun ia _=>((n:Int)-intOf ia).toNat)
 case atStart=>exact⟨0,rfl,fun _=>Nat.zero_le _,A⟩
 case round=>
  clear A;obtain⟨j,rfl,HJ,A⟩:=hrel;obtain⟨G,V,W⟩:=A.out
  have j0:(0:Int)≤j:=by omega
  have n4:(n:Int)≤2:=by have:=L.out ();omega
  have⟨X,Y,Z⟩:=V;have⟨aa,ab,ac⟩:=W
  by_cases hlt:j<n
  ·have f:j<n:=by exact hlt
   have ae:=Q.out j f wr G
   have B:Hid _:=fun w=>by
    have:=on13_yes k h1 h2 _ _ (F j).2.2 (D.out j f).1 (D.out j f).2 w;rw[P.out j hlt]at this;exact this
   go_wp2_with (go_at_call 61;refine hkA B fun g=>?_)
   go_roundw
   case rel=>
    refine⟨j+1,by go_num,fun _=>hlt,?_,⟨by simp[go_sem, *],by simp[go_sem, *],by simp[go_sem, *]⟩,⟨by simp[go_sem, *],by simp[go_sem, *],by simp[go_sem, *]⟩⟩;exact grB
   case measure=>simp[intOf];omega
  ·skip
   go_wp2_with fail
   refine bo2 results58 (rd_gp (by rfl) ?_) ⟨rfl,?_⟩
   ·simp[go_sem, *]
   ·exact grB
end
section
attribute [local go_sem] uz7
attribute [local go_sem ↓] uz10 Go.wp_at_zero Go.wp_at_succ
attribute [local go_sem] uz11
theorem aadd_yes{k:Nat}{P Q R:Q3}(HG':(∀w b,Vr w b (pnQ P++pnQ Q)→Cg 58 #[.int .i64 k,.slice (some ⟨b,0,none⟩) 2 2] w (.tuple #[.agg (cuK k),.int .i64 0])))(HA':∀w,Cg 59 #[.agg (cuK k),.agg (pnQ P),.agg (pnQ Q)] w (.agg (pnQ R)))(w:World):
 Cg 25 #[.int .i64 k,.agg (pnQ P),.agg (pnQ Q)] w (.tuple #[.agg (pnQ R),.int .i64 0]):=by
 have C:Hid _:=HG';have D:Hid _:=HA';clear HG' HA'
 go_enter func25,ntmps25
 go_upto_region 1 with fail
 refine gen_w (fun v=>Hid (Gr w v∧Vr v (w.heap.size) (pnQ P)∧Vr v (w.heap.size+1) (pnQ Q)∧Vr v (w.heap.size+1+1) (pnt 0 0 false))) ⟨grA,vrA,vrA,vrA⟩ ?_;intro v0 x;obtain⟨G,h,i,j⟩:=x.out;clear x;refine wp_v false [.c (.int .i64 k),.c (.agg (pnQ P)),.c (.agg (pnQ Q)),.r 2 (pnQ P++pnQ Q),.E (.agg (cuK k)),.E (.agg (cuK k)),.c (.agg (cuK k)),.O,.a,.u,.O] [1,2,3,4] [⟨8,9,98,cu 0 0 0 0 0 0 0 0 0 false,fun _=>cuK k⟩] ⟨.g 35 0 h rfl,.g 35 0 i rfl,.r (.buildSlice 128 2 #[(0,.const (.agg (pnQ P))),(1,.const (.agg (pnQ Q)))]) rfl (rowP2 _ _ _ _ _ _),.k (fun A =>#[.int .i64 k,.slice (some ⟨(A 3 0).2,0,none⟩) 2 2]) fun A vv d H=>RtW.of_c (Rt.c (C.out _ _ (H 3 rfl))),⟨⟩⟩ ⟨.k zCu ⟨fkc,fkc,fkc,fkr (by simp[cu_size,pnt_size]),fkc,fkc,fkc,fkc,fka,fku,fkc,trivial⟩,⟨⟩⟩ fun I v1 d J q=>?_;simp only[fzw,Kw.a,Kw.r];obtain⟨⟨B,f⟩,-⟩:=q;clear J;replace G:=G.trans d;replace h:=h.gr d;replace i:=i.gr d;replace j:=j.gr d;clear d
 go_upto_region 2 with fail
 refine wp_wS [.O,.F] [] ⟨⟩ fun K v2 d L=>?_;simp only[fzw];clear L;replace G:=G.trans d;replace h:=h.gr d;replace i:=i.gr d;replace j:=j.gr d;replace f:=f.gr d;clear d;have S:=h.al;have⟨U,V,W⟩:=i;have X:=j.al;have⟨Y,Z,aa⟩:=f
 go_wp2_with (go_at_call 59;refine hkA D fun g=>?_)
 refine bo2 results25 (rd_pn (by rfl) ?_) ⟨rfl,?_⟩
 ·simp[go_sem, *]
 ·exact grB
theorem gf2{k:Nat}(h1:1≤k)(h2:k≤15){P Q:Q3}(hP:OnQ k P)(hQ:OnQ k Q)(w:World)(b:Nat)(hv:Vr w b (pnQ P++pnQ Q)):Cg 58 #[.int .i64 k,.slice (some ⟨b,0,none⟩) 2 2] w (.tuple #[.agg (cuK k),.int .i64 0]):=
 gf_yes h1 h2 2 (by decide) (fun i=>match i with|0=>P|_=>Q) (fun i _=>match i with|0=>hP.lt|_+1=>hQ.lt) _ (fun i d=>by
  obtain rfl|rfl:i=0∨i=1:=by omega
  ·kernel_rfl
  ·kernel_rfl) (by simp[pnt_size]) (fun i _=>match i with|0=>hP|_+1=>hQ) b 2 w hv
theorem addQ{k:Nat}(h1:1≤k)(h2:k≤15){P Q R:Q3}(hP:OnQ k P)(hQ:OnQ k Q)(hR:plQ k P Q=R)(w:World):Cg 25 #[.int .i64 k,.agg (pnQ P),.agg (pnQ Q)] w (.tuple #[.agg (pnQ R),.int .i64 0]):=aadd_yes (gf2 h1 h2 hP hQ) (gaddQ h1 h2 hP hQ hR) w
end
section
attribute [local go_sem ↓] uz8 Go.wp_at_zero Go.wp_at_succ
attribute [local go_sem] uz9
attribute [local go_sem] frz_setBlk blk_setBlk setBlk_setBlk
section
variable {P:Nat} [NeZero P] {i:Fin P→Fin P} {A B:Fin P}
theorem rtimes_any(C:EC.Cur i A B)(hd:dl P≤400)(id:Int)(N X Y:Nat)(qc:Nat→Option Addr×Nat)(k nk:Nat)(pk:Option Addr)(hk:dl k≤400)(Q:Option (Fin P×Fin P))(hQ:EC.On A B Q)(p q:Option Addr)(n m:Nat)(w:World)(HQ:∀k,Sl w (qc k).1 (six P A.val B.val N X Y k))(Sk:Sl w pk k)(Sx:Sl w p (ex Q))(Sy:Sl w q (ey Q)):
 Calls prog 18 #[.agg (crA id (six P A.val B.val N X Y) qc),.slice pk (dl k) nk,.agg (ptA p (ex Q) n q (ey Q) m (ef Q))] w (Rt (.pt (ex (EC.ml i A k Q)) (ey (EC.ml i A k Q)) (ef (EC.ml i A k Q))) w):=by
 obtain⟨L,hL⟩:=exl (bl k)
 have az:(L:Int)≤12800:=by
  have:(bl k+31)/32≤400:=hk
  omega
 have aA:(0:Int)≤L:=by omega
 have HB:Hid _:=fun w' g=>hL▸rbits_any k nk pk w' (Sk.gr g) (by omega);have HZ:Hu (k/2^L=0):=fun _=>Nat.div_eq_of_lt (hL▸(bl_le k (bl k)).1 (Nat.le_refl _))
 have ax:Hu (L≤12800):=fun _=>by omega
 clear hL
 go_enter func18,ntmps18
 go_upto_region 3 with (go_at_call 38;refine(HB.out _ grA).mono ?_;rintro e w' ⟨rfl,rfl⟩)
 obtain⟨W,ak⟩:=exl (w.heap.size+1+1+1);simp only[ak]
 refine gen_w (fun v=>Hid (Gr w v∧Vr v (w.heap.size) (crA id (six P A.val B.val N X Y) qc)∧Vr v (w.heap.size+1) (ptA p (ex Q) n q (ey Q) m (ef Q))∧Vr v (w.heap.size+1+1) (ptA none 0 0 none 0 0 false)∧Vr v W (ptA none 0 0 none 0 0 true))) ?_ ?_
 ·subst ak;exact⟨grA,⟨by simp[go_sem],by simp[go_sem],by simp[go_sem]⟩,⟨by simp[go_sem],by simp[go_sem],by simp[go_sem]⟩,⟨by simp[go_sem],by simp[go_sem],by simp[go_sem]⟩,⟨by simp[go_sem],by simp[go_sem],by simp[go_sem]⟩⟩
 intro v0 HV
 have ab:W≠w.heap.size:=by omega
 have ac:W≠w.heap.size+1:=by omega
 have ae:W≠w.heap.size+1+1:=by omega
 have ah:w.heap.size≤W:=by omega
 have HN:Hu (W≠w.heap.size∧W≠w.heap.size+1∧W≠w.heap.size+1+1∧w.heap.size≤W):=fun _=>⟨ab,ac,ae,ah⟩;clear ak ab ac ae ah HB
 go_loopw [8] (fun ia wr=>∃(j:Nat) (po:Option Addr) (no:Nat) (qo:Option Addr) (mo:Nat),ia=.int .i64 ((j:Int)-1)∧Hu (j≤L)∧Hid (Gr w wr∧Vr wr (w.heap.size) (crA id (six P A.val B.val N X Y) qc)∧Vr wr (w.heap.size+1) (ptA p (ex Q) n q (ey Q) m (ef Q))∧Vr wr (w.heap.size+1+1) (ptA none 0 0 none 0 0 false)∧Vr wr W (ptA po (ex (EC.ml i A (k/2^j) Q)) no qo (ey (EC.ml i A (k/2^j) Q)) mo (ef (EC.ml i A (k/2^j) Q)))∧Sl wr po (ex (EC.ml i A (k/2^j) Q))∧Sl wr qo (ey (EC.ml i A (k/2^j) Q)))) (fun ia _=>(intOf ia+1).toNat)
 case atStart=>
  refine⟨L,none,0,none,0,rfl,fun _=>Nat.le_refl _,?_⟩;rw[HZ.out ()];obtain⟨h1,h2,h3,h4,h5⟩:=HV.out;exact⟨h1,h2,h3,h4,h5,Sl.zero _ _,Sl.zero _ _⟩
 case round=>
  obtain⟨j,po,no,qo,mo,rfl,HJ,HR⟩:=hrel
  by_cases hpos:0<j
  ·obtain⟨J,rfl⟩:∃i,j=i+1:=⟨j-1,by omega⟩
   have e1:(((J+1:Nat):Int)-1)=(J:Int):=by omega
   rw[e1]
   have j0:(0:Int)≤J:=by omega
   have j1:(J:Int)<12800:=by have:=HJ.out ();have:=ax.out ();omega
   have ar:J≤L:=by have:=HJ.out ();omega
   obtain⟨R,hR⟩:=exl (EC.ml i A (k/2^(J+1)) Q);obtain⟨D,ao⟩:=exl (EC.pl i A R R);obtain⟨R2,au⟩:=exl (EC.pl i A D Q);rw[hR]at HR;obtain⟨G,V,Z,c3,K,So,To⟩:=HR.out;obtain⟨ab,ac,ae,ah⟩:=HN.out ();replace HQ:=fun k=>(HQ k).gr G;replace Sk:=Sk.gr G;replace Sx:=Sx.gr G;replace Sy:=Sy.gr G
   have af:∀b,k/2^J%2=b→k/2^J=k/2^(J+1)+k/2^(J+1)+b:=fun b hb=>by
    rw[Nat.pow_succ,←Nat.div_div_eq_div_mul];omega
   have ai:EC.ml i A (k/2^(J+1)+k/2^(J+1)) Q=D:=by rw[EC.ml_add C hQ,hR,ao]
   have aj:=fun w' (s:Sl w' pk k)=>rbit_any k nk J pk w' s (by omega);clear HV HR HJ hpos e1
   obtain hb|hb:k/2^J%2=0∨k/2^J%2=1:=by omega
   ·have ap:D=EC.ml i A (k/2^J) Q:=by rw[af 0 hb,Nat.add_zero,ai]
    have ag:∀w',Sl w' pk k→Calls prog 51 #[.slice pk (dl k) nk,.int .i64 J] w' fun e aq=>e=.returned (.int .i64 0)∧aq=w':=fun w' s=>by
     have:=aj w' s;rw[show bitN k J=0 from hb]at this;exact this
    clear hb ai af aj
    go_upto_region 5 with fail
    refine wp_wTS 4 [.c (.agg (crA id (six P A.val B.val N X Y) qc)),.c (.agg (ptA po (ex R) no qo (ey R) mo (ef R))),.c (.agg (ptA po (ex R) no qo (ey R) mo (ef R))),.pt (ex D) (ey D) (ef D)] [0,1,2,3] ⟨.g 27 0 V rfl,.g 38 0 K rfl,.g 38 0 K rfl,.k (fun S =>#[.agg (crA id (six P A.val B.val N X Y) qc),.agg (ptA po (ex R) no qo (ey R) mo (ef R)),.agg (ptA po (ex R) no qo (ey R) mo (ef R))]) fun S vv d hh=>RtW.of_pt (ao▸rplus_any C hd id N X Y qc R R po qo no mo po qo no mo _ (fun k=>(HQ k).gr d) (So.gr d) (To.gr d) (So.gr d) (To.gr d)),⟨⟩⟩ (.s 38 (fun S=>pv W 0) (fun S=>.agg (ptA (S 3 0).1 (ex D) (S 3 0).2 (S 3 1).1 (ey D) (S 3 1).2 (ef D))) fun x v1 d h5=>?_);have U:=(K.gr d).h;have FT:=(K.gr d).f;refine⟨setBlk v1 (W) (ptA (x 3 0).1 (ex D) (x 3 0).2 (x 3 1).1 (ey D) (x 3 1).2 (ef D)),by simp[go_sem,exI,U,FT],?_⟩;simp only[fzw];obtain⟨H,I⟩:=h5 3;clear h5;replace G:=G.trans d;replace V:=V.gr d;replace Z:=Z.gr d;replace c3:=c3.gr d;replace K:=K.gr d;replace HQ:=fun k=>(HQ k).gr d;replace Sk:=Sk.gr d;replace Sx:=Sx.gr d;replace Sy:=Sy.gr d;replace So:=So.gr d;replace To:=To.gr d;clear d
    go_upto_region 6 with fail
    refine gen_w (fun u=>Gr w u∧Vr u (w.heap.size) (crA id (six P A.val B.val N X Y) qc)∧Vr u (w.heap.size+1) (ptA p (ex Q) n q (ey Q) m (ef Q))∧Vr u (w.heap.size+1+1) (ptA none 0 0 none 0 0 false)∧Vr u (W) (ptA (x 3 0).1 (ex D) (x 3 0).2 (x 3 1).1 (ey D) (x 3 1).2 (ef D))∧(∀k,Sl u (qc k).1 (six P A.val B.val N X Y k))∧Sl u pk (k)∧Sl u p (ex Q)∧Sl u q (ey Q)∧Sl u (x 3 0).1 (ex D)∧Sl u (x 3 1).1 (ey D)) ⟨gr_setNew G (by omega),V.other (ab),Z.other (ac),c3.other (ae),K.set (by rw[ptA_size];decide) _,fun k=>Sl.set (HQ k) (by rw[U];exact ptA_no _ _ _ _ _ _ _),Sl.set Sk (by rw[U];exact ptA_no _ _ _ _ _ _ _),Sl.set Sx (by rw[U];exact ptA_no _ _ _ _ _ _ _),Sl.set Sy (by rw[U];exact ptA_no _ _ _ _ _ _ _),Sl.set H (by rw[U];exact ptA_no _ _ _ _ _ _ _),Sl.set I (by rw[U];exact ptA_no _ _ _ _ _ _ _)⟩ ?_;clear U FT;rintro u5 ⟨G,V,Z,c3,K,HQ,Sk,Sx,Sy,H,I⟩;refine wp_wS [.c (.slice pk (dl (k)) nk),.c (.int .i64 J),.O,.F] [2] ⟨.k (fun S =>#[.slice pk (dl (k)) nk,.int .i64 J]) fun S vv d hh=>RtW.of_c (Rt.same (ag _ (Sk.gr d))),⟨⟩⟩ fun ay v2 d h6=>?_;simp only[fzw];clear h6;replace G:=G.trans d;replace V:=V.gr d;replace Z:=Z.gr d;replace c3:=c3.gr d;replace K:=K.gr d;replace HQ:=fun k=>(HQ k).gr d;replace Sk:=Sk.gr d;replace Sx:=Sx.gr d;replace Sy:=Sy.gr d;replace H:=H.gr d;replace I:=I.gr d;clear d
    go_wp2_with fail
    go_roundw
    case rel=>
     refine⟨J,(x 3 0).1,(x 3 0).2,(x 3 1).1,(x 3 1).2,by simp,fun _=>ar,?_⟩;rw[←ap];exact⟨G,V,Z,c3,K,H,I⟩
    case measure=>simp[intOf]
   ·have ap:R2=EC.ml i A (k/2^J) Q:=by
     rw[af 1 hb]
     show R2=EC.pl i A (EC.ml i A (k/2^(J+1)+k/2^(J+1)) Q) Q
     rw[ai,au]
    have ag:∀w',Sl w' pk k→Calls prog 51 #[.slice pk (dl k) nk,.int .i64 J] w' fun e aq=>e=.returned (.int .i64 1)∧aq=w':=fun w' s=>by
     have:=aj w' s;rw[show bitN k J=1 from hb]at this;exact this
    clear hb ai af aj
    go_upto_region 5 with fail
    refine wp_wTS 4 [.c (.agg (crA id (six P A.val B.val N X Y) qc)),.c (.agg (ptA po (ex R) no qo (ey R) mo (ef R))),.c (.agg (ptA po (ex R) no qo (ey R) mo (ef R))),.pt (ex D) (ey D) (ef D)] [0,1,2,3] ⟨.g 27 0 V rfl,.g 38 0 K rfl,.g 38 0 K rfl,.k (fun S =>#[.agg (crA id (six P A.val B.val N X Y) qc),.agg (ptA po (ex R) no qo (ey R) mo (ef R)),.agg (ptA po (ex R) no qo (ey R) mo (ef R))]) fun S vv d hh=>RtW.of_pt (ao▸rplus_any C hd id N X Y qc R R po qo no mo po qo no mo _ (fun k=>(HQ k).gr d) (So.gr d) (To.gr d) (So.gr d) (To.gr d)),⟨⟩⟩ (.s 38 (fun S=>pv W 0) (fun S=>.agg (ptA (S 3 0).1 (ex D) (S 3 0).2 (S 3 1).1 (ey D) (S 3 1).2 (ef D))) fun x v1 d h5=>?_);have U:=(K.gr d).h;have FT:=(K.gr d).f;refine⟨setBlk v1 (W) (ptA (x 3 0).1 (ex D) (x 3 0).2 (x 3 1).1 (ey D) (x 3 1).2 (ef D)),by simp[go_sem,exI,U,FT],?_⟩;simp only[fzw];obtain⟨H,I⟩:=h5 3;clear h5;replace G:=G.trans d;replace V:=V.gr d;replace Z:=Z.gr d;replace c3:=c3.gr d;replace K:=K.gr d;replace HQ:=fun k=>(HQ k).gr d;replace Sk:=Sk.gr d;replace Sx:=Sx.gr d;replace Sy:=Sy.gr d;replace So:=So.gr d;replace To:=To.gr d;clear d
    go_upto_region 6 with fail
    refine gen_w (fun u=>Gr w u∧Vr u (w.heap.size) (crA id (six P A.val B.val N X Y) qc)∧Vr u (w.heap.size+1) (ptA p (ex Q) n q (ey Q) m (ef Q))∧Vr u (w.heap.size+1+1) (ptA none 0 0 none 0 0 false)∧Vr u (W) (ptA (x 3 0).1 (ex D) (x 3 0).2 (x 3 1).1 (ey D) (x 3 1).2 (ef D))∧(∀k,Sl u (qc k).1 (six P A.val B.val N X Y k))∧Sl u pk (k)∧Sl u p (ex Q)∧Sl u q (ey Q)∧Sl u (x 3 0).1 (ex D)∧Sl u (x 3 1).1 (ey D)) ⟨gr_setNew G (by omega),V.other (ab),Z.other (ac),c3.other (ae),K.set (by rw[ptA_size];decide) _,fun k=>Sl.set (HQ k) (by rw[U];exact ptA_no _ _ _ _ _ _ _),Sl.set Sk (by rw[U];exact ptA_no _ _ _ _ _ _ _),Sl.set Sx (by rw[U];exact ptA_no _ _ _ _ _ _ _),Sl.set Sy (by rw[U];exact ptA_no _ _ _ _ _ _ _),Sl.set H (by rw[U];exact ptA_no _ _ _ _ _ _ _),Sl.set I (by rw[U];exact ptA_no _ _ _ _ _ _ _)⟩ ?_;clear U FT;rintro u5 ⟨G,V,Z,c3,K,HQ,Sk,Sx,Sy,H,I⟩;refine wp_wS [.c (.slice pk (dl (k)) nk),.c (.int .i64 J),.c (.int .i64 1),.T] [2] ⟨.k (fun S =>#[.slice pk (dl (k)) nk,.int .i64 J]) fun S vv d hh=>RtW.of_c (Rt.same (ag _ (Sk.gr d))),⟨⟩⟩ fun ay v2 d h6=>?_;simp only[fzw];clear h6;replace G:=G.trans d;replace V:=V.gr d;replace Z:=Z.gr d;replace c3:=c3.gr d;replace K:=K.gr d;replace HQ:=fun k=>(HQ k).gr d;replace Sk:=Sk.gr d;replace Sx:=Sx.gr d;replace Sy:=Sy.gr d;replace H:=H.gr d;replace I:=I.gr d;clear d
    go_upto_region 7 with fail
    refine wp_wTS 4 [.c (.agg (crA id (six P A.val B.val N X Y) qc)),.c (.agg (ptA (x 3 0).1 (ex D) (x 3 0).2 (x 3 1).1 (ey D) (x 3 1).2 (ef D))),.c (.agg (ptA p (ex Q) n q (ey Q) m (ef Q))),.pt (ex R2) (ey R2) (ef R2)] [0,1,2,3] ⟨.g 27 0 V rfl,.g 38 0 K rfl,.g 38 0 Z rfl,.k (fun S =>#[.agg (crA id (six P A.val B.val N X Y) qc),.agg (ptA (x 3 0).1 (ex D) (x 3 0).2 (x 3 1).1 (ey D) (x 3 1).2 (ef D)),.agg (ptA p (ex Q) n q (ey Q) m (ef Q))]) fun S vv d hh=>RtW.of_pt (au▸rplus_any C hd id N X Y qc D Q (x 3 0).1 (x 3 1).1 (x 3 0).2 (x 3 1).2 p q n m _ (fun k=>(HQ k).gr d) (H.gr d) (I.gr d) (Sx.gr d) (Sy.gr d)),⟨⟩⟩ (.s 38 (fun S=>pv W 0) (fun S=>.agg (ptA (S 3 0).1 (ex R2) (S 3 0).2 (S 3 1).1 (ey R2) (S 3 1).2 (ef R2))) fun aa v3 d h7=>?_);have U:=(K.gr d).h;have FT:=(K.gr d).f;refine⟨setBlk v3 (W) (ptA (aa 3 0).1 (ex R2) (aa 3 0).2 (aa 3 1).1 (ey R2) (aa 3 1).2 (ef R2)),by simp[go_sem,exI,U,FT],?_⟩;simp only[fzw];obtain⟨av,aw⟩:=h7 3;clear h7;replace G:=G.trans d;replace V:=V.gr d;replace Z:=Z.gr d;replace c3:=c3.gr d;replace K:=K.gr d
    go_wp2_with fail
    go_roundw
    case rel=>
     refine⟨J,(aa 3 0).1,(aa 3 0).2,(aa 3 1).1,(aa 3 1).2,by simp,fun _=>ar,?_⟩;rw[←ap];exact⟨gr_setNew G (by omega),V.other ab,Z.other ac,c3.other ae,K.set (by rw[ptA_size];decide) _,Sl.set av (by rw[U];exact ptA_no _ _ _ _ _ _ _),Sl.set aw (by rw[U];exact ptA_no _ _ _ _ _ _ _)⟩
    case measure=>simp[intOf]
  ·obtain rfl:j=0:=by omega
   rw[Nat.pow_zero,Nat.div_one]at HR;obtain⟨R,hR⟩:=exl (EC.ml i A k Q);rw[hR]at HR;obtain⟨G,V,Z,c3,K,So,To⟩:=HR.out;obtain⟨ab,ac,ae,ah⟩:=HN.out ();have⟨h3,f3,p3⟩:=c3;have⟨h7,f7,p7⟩:=K
   go_wp2_with fail
   refine bo1 results18 (rd_pt po (ex R) no qo (ey R) mo (ef R) (by rfl) ?_) ⟨_,rfl,?_,gr_setNew G (by omega)⟩
   ·simp[go_sem,h3]
   ·rw[hR];exact⟨_,_,_,_,rfl,Sl.set So (by rw[h3];exact ptA_no _ _ _ _ _ _ _),Sl.set To (by rw[h3];exact ptA_no _ _ _ _ _ _ _)⟩
end
end
end
end Go.Proofs.YtffhepbppiocbacGreat