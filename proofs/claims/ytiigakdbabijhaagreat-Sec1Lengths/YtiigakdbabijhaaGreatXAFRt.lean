import Derived.Deep.AppendSrc
import Derived.Test.YtiigakdbabijhaaGreatXARAddM
import Derived.Test.YtiigakdbabijhaaGreatXAIX
namespace Go.Proofs.YtiigakdbabijhaaGreat
open Go.RowKit Go.Proofs.Tryz
set_option maxRecDepth 100000
set_option maxHeartbeats 8000000
section
attribute [local go_sem ↓] uz1
attribute [local go_sem] uz2
section
attribute [local go_sem ↓] bsl_is
def appS(ty:TypeId)(xs:Array Value):Sem Value:=Builtin.append_ #[29,29] ty xs
theorem app_is(ty:TypeId)(xs:Array Value):Builtin.append_ #[29,29] ty xs=appS ty xs:=rfl
theorem infoU:(prog.info? 58).map (fun i=>(i.zero,i.size,i.bytes))=some (some (.int .u32 0),1,4):=by kernel_rfl
theorem append_digits(w:World)(b n x:Nat)(p:Option Addr)(h:Sl w p x)(hx:dl x≤1000):
 ∃p' c w',(∀ty,(appS ty #[.slice (some ⟨b,0,none⟩) 0 0,.slice p (dl x) n]).run prog w=.ok (.slice p' (dl x) c) w')∧Sl w' p' x∧Gr w w':=by
 obtain⟨i,C,G,H,I⟩:∃i,prog.info? 58=some i∧i.zero=some (.int .u32 0)∧i.size=1∧i.bytes=4:=by
  have l:=infoU
  cases hc:prog.info? 58 with
  | none=>rw[hc]at l;cases l
  | some i=>
   rw[hc]at l;simp only[Option.map_some,Option.some.injEq,Prod.mk.injEq]at l;exact⟨i,rfl,l.1,l.2.1,l.2.2⟩
 by_cases l:dl x=0
 ·have J:=dl_eq_zero x l;subst J
  have f:Src prog i.size 29 (.slice p 0 n) 0 [] w:=by
   cases p with
   | none=>exact Src.ofNil w underlying29 n
   | some a=>exact Src.ofSlice w underlying29 a 0 n [] (by simp) (fun j u d=>by simp at d) (fun u A=>by cases A)
  refine⟨some ⟨b,0,none⟩,0,w,fun ty=>?_,Sl.zero _ _,Gr.refl _⟩;have v:=run_append_room_src w 29 29 ty 58 i underlying29 C b 0 0 0 (.slice p 0 n) 0 [] f (by omega) (fun j d=>by simp at d) (fun j d=>by simp at d);rw[dl_zero];exact v
 ·obtain⟨c,rfl,hc,K⟩:=h.some (by omega)
  have B:(nd (dl x) x).toList.length=dl x*i.size:=by rw[H,Array.length_toList,nd_size,Nat.mul_one]
  have f:Src prog i.size 29 (.slice (some ⟨c,0,none⟩) (dl x) n) (dl x) (nd (dl x) x).toList w:=by
   refine Src.ofSlice w underlying29 ⟨c,0,none⟩ (dl x) n _ B (fun j u d=>?_) (fun u A=>?_)
   ·rw[Array.getElem?_toList]at d
    have q:j<dl x:=by
     by_cases hl:j<dl x
     ·exact hl
     ·rw[Array.getElem?_eq_none (by rw[nd_size];omega)]at d;cases d
    rw[nd_get _ _ _ q]at d
    have e:(⟨c,0,none⟩:Addr).add j=⟨c,j,none⟩:=by rw[Addr.add_lit,Nat.zero_add]
    rw[e,cell_blk,K j q,d]
   ·obtain⟨j,d⟩:=List.mem_iff_getElem?.1 A;rw[Array.getElem?_toList]at d
    have q:j<dl x:=by
     by_cases hl:j<dl x
     ·exact hl
     ·rw[Array.getElem?_eq_none (by rw[nd_size];omega)]at d;cases d
    rw[nd_get _ _ _ q]at d
    cases d
    rfl
  have v:=fun ty=>run_append_grow_src w 29 29 ty 58 i _ underlying29 C G (some ⟨b,0,none⟩) 0 0 [] (run_firstCells_some w.drew i.size 0 ⟨b,0,none⟩ 0 0 [] (by simp) (fun j u d=>by simp at d)) (.slice (some ⟨c,0,none⟩) (dl x) n) (dl x) (nd (dl x) x).toList f (by omega) (by omega) (by rw[I,Nat.zero_add];simp only[Builtin.nextslicecap];rw[if_pos (by omega)];omega);simp only[Nat.zero_add,List.nil_append]at v
  refine⟨_,_,_,v,?_,?_⟩
  ·intro k D
   refine⟨w.heap.size,rfl,?_,?_⟩
   ·simp[go_sem]
   ·have e:w.heap.size=w.drew.heap.size:=by simp[go_sem]
    rw[blk_alloc_at _ _ _ _ _ e,Array.getElem?_append_left (by simp[nd_size,D])];simp[nd_get _ _ _ D]
  ·exact grA
def rdD(w:World)(b i:Nat):Nat:=match (blk w b)[i]? with|some (.int _ z)=>z.toNat|_=>0
def numD(f:Nat→Nat):Nat→Nat
 | 0=>0
 | n+1=>numD f n+f n*pq n
def mS(w:World):Value→Nat
 | .slice (some ⟨b,_,_⟩) n _=>numD (rdD w b) n
 | _=>0
theorem numD_is(f:Nat→Nat)(x:Nat):∀n,(∀i,i<n→f i=dg x i)→numD f n=x%pq n
 | 0,_=>by rw[pq_zero,Nat.mod_one];rfl
 | n+1,h=>by
  show numD f n+f n*pq n=_
  rw[numD_is f x n (fun i hi=>h i (by omega)),h n (by omega),dmod_succ]
theorem mS_is{w:World}{p:Option Addr}{x n:Nat}(h:Sl w p x):mS w (.slice p (dl x) n)=x:=by
 by_cases h0:dl x=0
 ·have e:=dl_eq_zero x h0;subst e
  cases p <;> rfl
 ·obtain⟨b,rfl,j,d⟩:=h.some (by omega)
  show numD (rdD w b) (dl x)=x
  rw[numD_is (rdD w b) x (dl x) (fun i f=>by unfold rdD;rw[d i f];rfl),Nat.mod_eq_of_lt (dl_lt x)]
theorem subM_is(t c m:Nat)(ht:t<m)(hc:c<m):subM t c m<m∧∃k:Int,(subM t c m:Int)=t-c+k*m:=by
 unfold subM
 split
 ·exact⟨by omega,0,by omega⟩
 ·exact⟨by omega,1,by omega⟩
structure RI(a m r s t u:Nat):Prop where
 rm:r≤m
 sm:s≤m
 tm:t<m
 um:u<m
 d1:(m:Int)∣(a:Int)*t-r
 d2:(m:Int)∣(a:Int)*u-s
 g:Nat.gcd r s=Nat.gcd m a
theorem RI.start(a m:Nat)(h:1<m):RI a m m (a%m) 0 1:=by
 refine⟨Nat.le_refl _,Nat.le_of_lt (Nat.mod_lt _ (by omega)),by omega,h,⟨-1,by simp⟩,⟨((a/m:Nat):Int),?_⟩,?_⟩
 ·have d:=Nat.div_add_mod a m;obtain⟨q,f⟩:=exl (a/m);obtain⟨v,i⟩:=exl (a%m);rw[f,i]at d ⊢
  have j:(m:Int)*q+v=a:=by exact_mod_cast d
  rw[←j]
  grind
 ·rw[Nat.gcd_comm,←Nat.gcd_rec]
theorem RI.step{a m r s t u:Nat}(h:RI a m r s t u)(h0:0<s)(q v c x:Nat)(hq:r/s=q)(hv:r%s=v)(hc:q%m*u%m=c)(hx:subM t c m=x):RI a m s v u x∧v<s:=by
 have C:0<m:=by have:=h.tm;omega
 have f:v<s:=by rw[←hv];exact Nat.mod_lt _ h0
 have i:c<m:=by rw[←hc];exact Nat.mod_lt _ C
 obtain⟨l,k,A⟩:=subM_is t c m h.tm i;rw[hx]at l A
 refine⟨⟨h.sm,by have:=h.sm;omega,h.um,l,h.d2,?_,?_⟩,f⟩
 ·obtain⟨D,I⟩:=h.d1;obtain⟨G,J⟩:=h.d2;have B:=Nat.div_add_mod r s;rw[hq,hv]at B
  have K:(s:Int)*q+v=r:=by exact_mod_cast B
  rw[pow_mul]at hc;have j:=Nat.div_add_mod (q*u) m;rw[hc]at j;obtain⟨d,H⟩:∃d,q*u/m=d:=⟨_,rfl⟩;rw[H]at j
  have L:(m:Int)*d+c=q*u:=by exact_mod_cast j
  refine⟨D-q*G+a*d+a*k,?_⟩;rw[A]
  grind
 ·rw[←h.g,←hv,Nat.gcd_comm,←Nat.gcd_rec,Nat.gcd_comm]
theorem RI.last{a m r t u:Nat}(h:RI a m r 0 t u)(h1:1<m):r=Nat.gcd m a∧0<r∧(r=1→a*t%m=1):=by
 have d:=h.g;rw[Nat.gcd_zero_right]at d;have j:0<Nat.gcd m a:=Nat.gcd_pos_of_pos_left _ (by omega);refine⟨d,by omega,fun e=>?_⟩;obtain⟨c,f⟩:=h.d1;rw[e]at f;obtain⟨k,i⟩:=inv_pos (a*t) m c h1 (by rw[←f];simp);rw[i,Nat.add_mul_mod_self_left,Nat.mod_eq_of_lt h1]
def InvR(a m:Nat)(w:World)(e:Ending)(w':World):Prop:=
 (Nat.gcd m a=1→∃t p n,t<m∧a*t%m=1∧e=.returned (.tuple #[.slice p (dl t) n,.bool true])∧Sl w' p t)∧(Nat.gcd m a≠1→e=.returned (.tuple #[.slice none 0 0,.bool false]))∧Gr w w'
attribute [local go_sem ↓] app_is
theorem rinv_any(a m n n':Nat)(p q:Option Addr)(w:World)(hp:Sl w p a)(hq:Sl w q m)(ha:dl a≤400)(hm:dl m≤400)(h1:1<m):
 Calls prog 63 #[.slice p (dl a) n,.slice q (dl m) n'] w (InvR a m w):=by
 have H1:Hid (∀w' r z k k' p1 p',dl r≤400→Sl w' p1 r→Sl w' p' 1→cmpZ r 1=z→Calls prog 41 #[.slice p1 (dl r) k,.slice p' 1 k'] w' fun e aj=>e=.returned (.int .i64 z)∧Gr w' aj):=fun w' r z k k' p1 p' h2 h3 h4 e=>e▸rcmp_any r 1 k k' p1 p' w' h3 h4 (by omega) (by decide)
 have aa:cmpZ m 1=1:=by unfold cmpZ;split <;> (try split) <;> omega
 have G:=fun w' k' p' (g:Gr w w') (h:Sl w' p' 1)=>H1.out w' m 1 n' k' q p' hm (hq.gr g) h aa;have f:=fun w' (g:Gr w w')=>rmod_any a m n n' p q w' (hp.gr g) (hq.gr g) (by omega) (by omega) (by omega);have H:=fun w' k p' x y (g:Gr w w') (h:Sl w' p' x) (hx:dl x≤400) (e:x%m=y)=>(e▸rmod_any x m k n' p' q w' h (hq.gr g) (by omega) (by omega) (by omega):Calls prog 73 #[.slice p' (dl x) k,.slice q (dl m) n'] w' (Nm y w'));have I:=fun w' k k' p1 p2 x y z (g:Gr w w') (s1:Sl w' p1 x) (s2:Sl w' p2 y) (l1:x<m) (l2:y<m) (e:x*y%m=z)=>(e▸rmulmod_any x y m k k' n' p1 p2 q w' s1 s2 (hq.gr g) (dl_low x m 400 (by omega) hm) (dl_low y m 400 (by omega) hm) hm (by omega):Calls prog 59 #[.slice p1 (dl x) k,.slice p2 (dl y) k',.slice q (dl m) n'] w' (Nm z w'));have J:=fun w' k k' p1 p2 x y z (g:Gr w w') (s1:Sl w' p1 x) (s2:Sl w' p2 y) (l1:x<m) (l2:y<m) (e:subM x y m=z)=>(e▸rsubmod_any x y m k k' n' p1 p2 q w' s1 s2 (hq.gr g) hm l1 l2:Calls prog 62 #[.slice p1 (dl x) k,.slice p2 (dl y) k',.slice q (dl m) n'] w' (Nm z w'));have L:=fun w' b (g:Gr w w')=>append_digits w' b n' m q (hq.gr g) (by omega);have P:Hid _:=fun x hx=>dl_low x m 400 hx hm;have HS:Hid _:=RI.start a m h1;obtain⟨X,eX⟩:=exl (a%m);obtain⟨A,eA⟩:=exl (dl a);obtain⟨K,eK⟩:=exl (dl m);simp only[eX,eA,eK]at G f H I J L HS ⊢;have HC:Hid _:=G;have HM:Hid _:=f;have HQ:Hid _:=H;have Q:Hid _:=I;have R:Hid _:=J;have HA:Hid _:=L;have HK:Hu (dl m=K∧1<m):=fun _=>⟨eK,h1⟩;have aq:∀w,(bslS 29 1 #[(0,.int .u32 1)]).run prog w=.ok (.slice (some ⟨w.heap.size,0,none⟩) 1 1) (w.alloc (.cells (nd 1 1) 58)):=fun w=>build1 1 (by decide) w
 have ab:∀w,(bslS 29 0 #[]).run prog w=.ok (.slice (some ⟨w.heap.size,0,none⟩) 0 0) (w.alloc (.cells #[] 58)):=fun w=>by kernel_rfl
 clear G f H I J L hp hq ha hm h1 aa eX eA eK
 go_enter func63,ntmps63
 go_upto_region 6 with (first
  | (go_at_call 41;refine(HC.out _ _ _ ((Gr.refl _).alloc _) (sl_new w)).mono ?_;rintro e W1 ⟨rfl,G1⟩;have S:=(((Gr.refl w).alloc _).trans G1).alloc (.cells #[] 58);obtain⟨pr,cr,Wa,C,SR,Z⟩:=HA.out _ W1.heap.size S;have U:=S.trans Z)
  | (go_at_call 73;refine(HM.out _ U).mono ?_;rintro e W2 ⟨ps,ns,rfl,SS,G2⟩;have ac:=U.trans G2;have ae:=SR.gr G2))
 have j:Hid (Sl W2 pr m∧Sl W2 ps X∧Gr w W2):=⟨ae,SS,ac⟩;clear C HC HM HA SR Z U SS G2 ac ae G1 S
 go_loopw [6,7,8,9] (fun ra sa ta ua wr=>∃(r s t u n1 n2 n3 n4:Nat) (p1 p2 p3 p4:Option Addr),ra=.slice p1 (dl r) n1∧sa=.slice p2 (dl s) n2∧ta=.slice p3 (dl t) n3∧ua=.slice p4 (dl u) n4∧Hid (RI a m r s t u)∧Hid (Sl wr p1 r∧Sl wr p2 s∧Sl wr p3 t∧Sl wr p4 u∧Gr w wr)) (fun _ sa _ _ wr=>mS wr sa)
 case atStart=>
  refine⟨m,X,0,1,cr,ns,0,1,pr,ps,none,some ⟨W2.heap.size,0,none⟩,by rw[(HK.out ()).1],rfl,rfl,rfl,HS,⟨j.out.1.gr ((Gr.refl _).alloc _),j.out.2.1.gr ((Gr.refl _).alloc _),Sl.zero _ _,sl_new W2,j.out.2.2.alloc _⟩⟩
 case round=>
  obtain⟨r,s,t,u,n1,n2,n3,n4,p1,p2,p3,p4,rfl,rfl,rfl,rfl,HI,d⟩:=hrel;clear HS j
  by_cases hs:s=0
  ·subst hs;obtain⟨l1,l2,l3⟩:=HI.out.last (HK.out ()).2;have l:=P.out r HI.out.rm;have V:=HI.out.tm;rw[dl_zero]
   by_cases hr1:r=1
   ·have W:Hid _:=fun w' k' p' g h=>H1.out w' r 0 n1 k' p1 p' l g h (by rw[hr1];rfl);have HE:Hid (Nat.gcd m a=1∧a*t%m=1∧t<m):=⟨by rw[←l1];exact hr1,l3 hr1,V⟩;clear H1 HQ Q R P HK HI hr1 l1 l2 l3 l V ab
    go_wp2_with (go_at_call 41;refine(W.out _ _ _ (d.out.1.gr ((Gr.refl _).alloc _)) (sl_new _)).mono ?_;rintro e W3 ⟨rfl,D⟩;have B:=((Gr.refl _).alloc _).trans D)
    go_ret2
    exact⟨fun _=>⟨t,p3,n3,HE.out.2.2,HE.out.2.1,rfl,d.out.2.2.1.gr B⟩,fun h=>absurd HE.out.1 h,d.out.2.2.2.2.trans B⟩
   ·have W:Hid _:=fun w' k' p' g h=>H1.out w' r 1 n1 k' p1 p' l g h (by unfold cmpZ;split <;> (try split) <;> omega)
    have HE:Hid (¬Nat.gcd m a=1):=by rw[←l1];exact hr1
    clear H1 HQ Q R P HK HI hr1 l1 l2 l3 l V ab
    go_wp2_with (go_at_call 41;refine(W.out _ _ _ (d.out.1.gr ((Gr.refl _).alloc _)) (sl_new _)).mono ?_;rintro e W3 ⟨rfl,D⟩;have B:=((Gr.refl _).alloc _).trans D)
    go_ret2
    exact⟨fun h=>absurd h HE.out,fun _=>rfl,d.out.2.2.2.2.trans B⟩
  ·have s0:0<s:=by omega
   have ak:(0:Int)<((dl s:Nat):Int):=by
    have:dl s≠0:=fun e=>hs (dl_eq_zero s e)
    omega
   have ar:=decide_eq_true ak;obtain⟨b,hb⟩:=exl (r/s);obtain⟨v,hv⟩:=exl (r%s);obtain⟨y,hy⟩:=exl (b%m);obtain⟨c,G⟩:=exl (y*u%m);obtain⟨x,hx⟩:=exl (subM t c m);have Y:=HI.out
   have af:0<m:=by have:=(HK.out ()).2;omega
   have HN:=Y.step s0 b v c x hb hv (by rw[hy];exact G) hx
   have au:b≤r:=by rw[←hb];exact Nat.div_le_self _ _
   have i:Hid (b%m=y∧y*u%m=c∧subM t c m=x∧dl b≤400∧y<m∧u<m∧t<m∧c<m∧dl v≤400∧RI a m s v u x∧v<s):=⟨hy,G,hx,P.out b (by have:=Y.rm;omega),by rw[←hy];exact Nat.mod_lt _ af,Y.um,Y.tm,by rw[←G];exact Nat.mod_lt _ af,P.out v (by have:=Y.sm;have:=HN.2;omega),HN.1,HN.2⟩
   have HD:Hu (Calls prog 75 #[.slice p1 (dl r) n1,.slice p2 (dl s) n2] wr (Nm2 b v wr)):=fun _=>by
    have h:=rdiv_any r s n1 n2 p1 p2 wr d.out.1 d.out.2.1 (by have:=P.out r Y.rm;omega) (by have:=P.out s Y.sm;omega) s0;rw[hb,hv]at h;exact h
   go_wp2_with (first
    | (go_at_call 75;refine(HD.out ()).mono ?_;rintro e W3 ⟨pb,nb,pv,nv,rfl,Sb,Sv,D⟩;have ag:=d.out.2.2.2.2.trans D)
    | (go_at_call 73;refine(HQ.out _ nb pb b y ag Sb i.out.2.2.2.1 i.out.1).mono ?_;rintro e W4 ⟨py,ny,rfl,Sy,G4⟩;have ah:=ag.trans G4)
    | (go_at_call 59;refine(Q.out _ ny n4 py p4 y u c ah Sy (d.out.2.2.2.1.gr (D.trans G4)) i.out.2.2.2.2.1 i.out.2.2.2.2.2.1 i.out.2.1).mono ?_;rintro e W5 ⟨pc,nc,rfl,Sc,G5⟩;have ai:=ah.trans G5)
    | (go_at_call 62;refine(R.out _ n3 nc p3 pc t c x ai (d.out.2.2.1.gr ((D.trans G4).trans G5)) Sc i.out.2.2.2.2.2.2.1 i.out.2.2.2.2.2.2.2.1 i.out.2.2.1).mono ?_;rintro e W6 ⟨px,nx,rfl,Sx,G6⟩;have ao:=(ai.trans G6).alloc (.cells #[] 58);have GG:=(((G4.trans G5).trans G6).alloc (.cells #[] 58));obtain⟨ap,cw,Wa,C,SV,Z⟩:=append_digits _ W6.heap.size nv v pv (Sv.gr GG) (Nat.le_trans i.out.2.2.2.2.2.2.2.2.1 (by decide))))
   go_roundw
   case rel=>
    have GT:=(D.trans GG).trans Z;exact⟨s,v,u,x,n2,cw,n4,nx,p2,ap,p4,px,rfl,rfl,rfl,rfl,i.out.2.2.2.2.2.2.2.2.2.1,⟨d.out.2.1.gr GT,SV,d.out.2.2.2.1.gr GT,Sx.gr (((Gr.refl _).alloc _).trans Z),ao.trans Z⟩⟩
   case measure=>
    rw[mS_is SV,mS_is d.out.2.1];exact i.out.2.2.2.2.2.2.2.2.2.2
end
end
section
section
variable {a b m c n n' n'':Nat} {p q r:Option Addr} {w:World}
theorem mm_any(sa:Sl w p a)(sb:Sl w q b)(sm:Sl w r m)(ha:a<m)(hb:b<m)(hm:dl m≤400)(hc:a*b%m=c):
 Calls prog 59 #[.slice p (dl a) n,.slice q (dl b) n',.slice r (dl m) n''] w (Rt (.n c) w):=
 Rt.n (hc▸rmulmod_any a b m n n' n'' p q r w sa sb sm (dl_low a m 400 (by omega) hm) (dl_low b m 400 (by omega) hm) hm (by omega))
theorem am_any(sa:Sl w p a)(sb:Sl w q b)(sm:Sl w r m)(ha:a<m)(hb:b<m)(hm:dl m≤400)(hc:(a+b)%m=c):
 Calls prog 61 #[.slice p (dl a) n,.slice q (dl b) n',.slice r (dl m) n''] w (Rt (.n c) w):=
 Rt.n (hc▸raddmod_any a b m n n' n'' p q r w sa sb sm hm ha hb)
theorem sm_any(sa:Sl w p a)(sb:Sl w q b)(sm:Sl w r m)(ha:a<m)(hb:b<m)(hm:dl m≤400)(hc:subM a b m=c):
 Calls prog 62 #[.slice p (dl a) n,.slice q (dl b) n',.slice r (dl m) n''] w (Rt (.n c) w):=
 Rt.n (hc▸rsubmod_any a b m n n' n'' p q r w sa sb sm hm ha hb)
theorem iv_any(sa:Sl w p a)(sm:Sl w r m)(ha:a<m)(hm:dl m≤400)(h1:1<m)(hc:c<m)(hac:a*c%m=1):
 Calls prog 63 #[.slice p (dl a) n,.slice r (dl m) n'] w (Rt (.nb c true) w):=by
 have i:Nat.gcd m a=1:=by
  have h1:=Nat.gcd_dvd_left m a;have j:=Nat.dvd_trans (Nat.gcd_dvd_right m a) (Nat.dvd_mul_right a c);have f:=(Nat.dvd_mod_iff h1).2 j;rw[hac]at f;exact Nat.dvd_one.1 f
 refine(rinv_any a m n n' p r w sa sm (dl_low a m 400 (by omega) hm) hm h1).mono fun e x h=>?_;obtain⟨t,A,k,l,d,q,v⟩:=h.1 i;obtain rfl:=inv_one a m t c l hc d hac;exact⟨_,q,⟨_,_,rfl,v⟩,h.2.2⟩
theorem cz_any{z:Int}(sa:Sl w p a)(sb:Sl w q b)(ha:dl a≤400)(hb:dl b≤400)(hz:cmpZ a b=z):
 Calls prog 41 #[.slice p (dl a) n,.slice q (dl b) n'] w (Rt (.c (.int .i64 z)) w):=
 Rt.c (hz▸rcmp_any a b n n' p q w sa sb (by omega) (by omega))
theorem sb_any(sa:Sl w p a)(sb:Sl w q b)(ha:dl a≤400)(h:b≤a)(hc:a-b=c):
 Calls prog 31 #[.slice p (dl a) n,.slice q (dl b) n'] w (Rt (.n c) w):=
 Rt.n (hc▸rsub_any a b n n' p q w sa sb (by omega) h)
theorem nt_any(sa:Sl w p a):Calls prog 27 #[.slice p (dl a) n] w (Rt (.c (.agg (nw 9 a))) w):=Rt.c (rnat_any a n p w sa)
theorem fm_any(ha:a<M):Calls prog 20 #[.agg (nw 9 a)] w (Rt (.n a) w):=Rt.n (from_any a ha w)
theorem bt_any(sa:Sl w p a)(ha:dl a≤400)(hc:bl a=c):Calls prog 44 #[.slice p (dl a) n] w (Rt (.c (.int .i64 c)) w):=Rt.same (hc▸rbits_any a n p w sa (by omega))
end
theorem wrap_id{x:Int}(h1 : -9223372036854775808≤x)(h2:x≤9223372036854775807):IntKind.i64.wrap x=x:=wiA
theorem tdiv8{x z:Int}(h0:0≤x)(h1:x≤100000)(hz:x/8=z):IntKind.i64.wrap (x.tdiv 8)=z:=by
 rw[Int.tdiv_eq_ediv_of_nonneg h0,hz];exact wrap_id (by omega) (by omega)
theorem subM_lt{a b m:Nat}(ha:a<m)(hb:b<m):subM a b m<m:=by unfold subM;split <;> omega
end
section
section
variable (p:Option Addr) (x n:Nat) (q:Option Addr) (y m:Nat) (f:Bool)
theorem ptA_size:(ptA p x n q y m f).size=3:=rfl
theorem ptA_one:(ptA p x n q y m f).all (·.oneCell')=true:=by simp[ptA,Value.oneCell']
theorem loadPt_is:LdI 44:=fun _=>rfl
theorem storePt_is:StI 44:=fun _ _=>rfl
theorem loadPt:LdS 44 3:=ldS
theorem storePt:StS 44 3 (ptA p x n q y m f):=stS (ptA_size p x n q y m f) (ptA_one p x n q y m f)
theorem zvPt_is:zeroValue 44=zvS 44:=rfl
theorem zvPt(w:World):(zvS 44).run prog w=.ok (.agg (ptA none 0 0 none 0 0 false)) w:=by kernel_rfl
theorem buildPt_is(p:Array (Nat×Value)):Instr.build 44 p=buildF 44 p:=rfl
theorem buildPt3(w:World):(buildF 44 #[(0,.slice p (dl x) n),(1,.slice q (dl y) m),(2,.bool f)]).run prog w=.ok (.agg (ptA p x n q y m f)) w:=by kernel_rfl
theorem buildPt2(w:World):(buildF 44 #[(0,.slice p (dl x) n),(1,.slice q (dl y) m)]).run prog w=.ok (.agg (ptA p x n q y m false)) w:=by kernel_rfl
theorem buildPtI(w:World):(buildF 44 #[(2,.bool f)]).run prog w=.ok (.agg (ptA none 0 0 none 0 0 f)) w:=by kernel_rfl
theorem rd_pt:RdC 44 (ptA p x n q y m f):=rdC 3 (ptA_size p x n q y m f)
theorem ptA_no(i:Nat)(z:Int):(ptA p x n q y m f)[i]? ≠ some (Value.int .u32 z):=by
 intro h
 match i,h with
 | 0,h=>simp[ptA]at h
 | 1,h=>simp[ptA]at h
 | 2,h=>simp[ptA]at h
 | k+3,h=>simp[ptA]at h
end
abbrev uz9:=And.intro @loadPt_is<|And.intro @storePt_is<|And.intro @zvPt_is<|And.intro @buildPt_is<|And.intro @loadC_is<|And.intro @loadPn_is<|And.intro @loadCu_is<|And.intro @storePn_is<|And.intro @zvPn_is<|And.intro @buildPn_is<|And.intro @storeCu_is<|And.intro @zvCu_is @buildCu_is
abbrev uz10:=And.intro @loadPt<|And.intro @storePt<|And.intro @zvPt<|And.intro @buildPt3<|And.intro @buildPt2<|And.intro @buildPtI<|And.intro @ptA_size<|And.intro @crA_size<|And.intro @loadC<|And.intro @loadPn<|And.intro @loadPX<|And.intro @loadPY<|And.intro @pnt_size<|And.intro @pnt_X<|And.intro @pnt_Y<|And.intro @storePn<|And.intro @zvPn<|And.intro @buildPn2<|And.intro @buildPn3<|And.intro @storeCu<|And.intro @zvCu<|And.intro @buildCu9<|And.intro @cu_size @loadCu
abbrev uz13:=And.intro @bsl_is<|And.intro @loadC_is<|And.intro @storeC_is<|And.intro @loadPt_is<|And.intro @storePt_is<|And.intro @zvPt_is<|And.intro @buildPt_is<|And.intro @loadPn_is<|And.intro @storePn_is<|And.intro @zvPn_is<|And.intro @loadCu_is<|And.intro @storeCu_is<|And.intro @zvCu_is<|And.intro @buildCu_is @buildPn_is
abbrev uz14:=And.intro @loadC<|And.intro @storeC0<|And.intro @storeCr<|And.intro @crA_size<|And.intro @loadPt<|And.intro @storePt<|And.intro @zvPt<|And.intro @ptA_size<|And.intro @loadPn<|And.intro @storePn<|And.intro @zvPn<|And.intro @pnt_size<|And.intro @loadCu<|And.intro @storeCu<|And.intro @zvCu<|And.intro @cu_size<|And.intro @buildCu0<|And.intro @buildPnI<|And.intro @buildPn2<|And.intro @loadCP<|And.intro @loadCA<|And.intro @loadCB<|And.intro @loadCN<|And.intro @loadCG<|And.intro @loadCX<|And.intro @loadCY<|And.intro @cu_P<|And.intro @cu_A<|And.intro @cu_B<|And.intro @cu_N<|And.intro @cu_G<|And.intro @cu_X<|And.intro @cu_Y<|And.intro @frz_setBlk<|And.intro @blk_setBlk<|And.intro @setBlk_setBlk @blk_other
end
section
attribute [local go_sem ↓] uz1
attribute [local go_sem] uz2
section
attribute [local go_sem ↓] uz9 Go.wp_at_zero Go.wp_at_succ
attribute [local go_sem] uz10
theorem dl_nought(x:Nat):((dl x:Int)==0)=decide (x=0):=by
 by_cases h:x=0
 ·subst h;rfl
 grind [dl,dl_eq_zero]
theorem cmpZ_nought(a b:Nat):(cmpZ a b==0)=decide (a=b):=by
 grind [cmpZ]
theorem rsize_any(id:Int)(P A B N X Y:Nat)(qc:Nat→Option Addr×Nat)(z:Nat)(hd:dl P≤18)(hz:(bl P+7)/8=z)(w:World)(HQ:∀k,Sl w (qc k).1 (six P A B N X Y k)):
 Cg 23 #[.agg (crA id (six P A B N X Y) qc)] w (.int .i64 z):=by
 obtain⟨t,i⟩:=exl (bl P)
 have D:(t:Int)≤576:=by
  have:(bl P+31)/32≤18:=hd
  omega
 have j:IntKind.i64.wrap ((t:Int)+7)=(t:Int)+7:=wrap_id (by omega) (by omega);have l:IntKind.i64.wrap (((t:Int)+7).tdiv 8)=(z:Int):=tdiv8 (by omega) (by omega) (by omega)
 replace hd:dl P≤400:=by omega
 go_enter func23,ntmps23
 go_upto_region 1 with fail
 refine gen_w (fun v=>Gr w v∧Vr v (w.heap.size) (crA id (six P A B N X Y) qc)) ⟨grA,vrA⟩ ?_;rintro H ⟨G,f⟩;replace HQ:=fun k=>(HQ k).gr G;refine wp_wS [.c (pv (w.heap.size) 1),.c (.slice (qc 0).1 (dl (P)) (qc 0).2),.c (.int .i64 t),.c (.int .i64 ((t:Int)+7)),.c (.int .i64 z),.c (.int .i64 z)] [1,2,3,4] ⟨.o 29 1 f rfl rfl,.k (fun q =>#[.slice (qc 0).1 (dl (P)) (qc 0).2]) fun q h d I=>RtW.of_c (bt_any ((HQ 0).gr d) hd i),.s (.binOp .add 3 (.const (.int .i64 t)) (.const (.int .i64 7)) 3) rfl fun h d=>by simp[go_sem,exI,j],.s (.binOp .quo 3 (.const (.int .i64 ((t:Int)+7))) (.const (.int .i64 8)) 3) rfl fun h d=>by simp[go_sem,exI,l],⟨⟩⟩ fun x J d C=>?_;simp only[fzw];clear C;replace G:=G.trans d;replace f:=f.gr d;replace HQ:=fun k=>(HQ k).gr d;clear d
 go_wp2_with fail
 go_ret
 exact⟨rfl,G⟩
theorem rin_any(x y:Nat)(f:Bool)(hx:x<M)(hy:y<M)(w:World):
 Calls prog 16 #[.agg (pnt x y f)] w (Rt (.pt x y f) w):=by
 go_enter func16,ntmps16
 go_upto_region 1 with fail
 refine gen_w (fun v=>Gr w v∧Vr v (w.heap.size) (pnt x y f)∧Vr v (w.heap.size+1) (ptA none 0 0 none 0 0 false)) ⟨grA,vrA,vrA⟩ ?_;rintro P ⟨G,q,C⟩;refine wp_wT 9 [.c (pv (w.heap.size) 0),.N x,.n (x),.c (pv (w.heap.size) 9),.N y,.n (y),.c (pv (w.heap.size) 18),.c (.bool f),.pt (x) (y) f] [1,2,4,5,7,8] ⟨.g 25 0 q rfl,.k _ fun j J l D=>RtW.of_n (fm_any hx),.g 25 9 q rfl,.k _ fun j J l D=>RtW.of_n (fm_any hy),.o 4 18 q rfl (by exact pnt_18 _ _ _),.p (fun j i=>match i with|0=>j 2 0|_=>j 5 0) fun j J l D=>⟨D 2 rfl,D 5 rfl⟩,⟨⟩⟩ (.s 44 (fun j=>pv (w.heap.size+1) 0) (fun j=>.agg (ptA (j 8 0).1 (x) (j 8 0).2 (j 8 1).1 (y) (j 8 1).2 f)) fun d I l K=>?_);have H:=(C.gr l).h;have L:=(C.gr l).f;refine⟨setBlk I (w.heap.size+1) (ptA (d 8 0).1 (x) (d 8 0).2 (d 8 1).1 (y) (d 8 1).2 f),by simp[go_sem,exI,H,L],?_⟩;simp only[fzw];obtain⟨A,B⟩:Sl I (d 8 0).1 (x)∧Sl I (d 8 1).1 (y):=K 8;clear K;replace G:=G.trans l;replace q:=q.gr l;replace C:=C.gr l;clear l
 go_wp2_with fail
 exact bo1 results16 (rd_pt _ _ _ _ _ _ _ (by rfl) (blk_setBlk _ _ _ (by rw[H];decide))) ⟨_,rfl,⟨_,_,_,_,rfl,Sl.set A (by rw[H];exact ptA_no _ _ _ _ _ _ _),Sl.set B (by rw[H];exact ptA_no _ _ _ _ _ _ _)⟩,gr_setNew G (by omega)⟩
theorem rout_any(x y:Nat)(f:Bool)(p q:Option Addr)(n m:Nat)(w:World)(Sx:Sl w p x)(Sy:Sl w q y):
 Cg 18 #[.agg (ptA p x n q y m f)] w (.agg (pnt x y f)):=by
 go_enter func18,ntmps18
 go_upto_region 1 with fail
 refine gen_w (fun v=>Gr w v∧Vr v (w.heap.size) (ptA p x n q y m f)∧Vr v (w.heap.size+1) (pnt 0 0 false)) ⟨grA,vrA,vrA⟩ ?_;rintro J ⟨G,j,l⟩;replace Sx:=Sx.gr G;replace Sy:=Sy.gr G;refine wp_wT 9 [.c (pv (w.heap.size) 0),.c (.slice p (dl (x)) n),.N x,.c (pv (w.heap.size) 1),.c (.slice q (dl (y)) m),.N y,.c (pv (w.heap.size) 2),.c (.bool f),.c (.agg (pnt x y f))] [1,2,4,5,7] ⟨.o 29 0 j rfl rfl,.k (fun i =>#[.slice p (dl (x)) n]) fun i B d C=>RtW.of_c (nt_any (Sx.gr d)),.o 29 1 j rfl rfl,.k (fun i =>#[.slice q (dl (y)) m]) fun i B d C=>RtW.of_c (nt_any (Sy.gr d)),.o 4 2 j rfl rfl,⟨⟩⟩ (.s 27 (fun i=>pv (w.heap.size+1) 0) (fun i=>.agg (pnt x y f)) fun D H d K=>?_);have A:=(l.gr d).h;have I:=(l.gr d).f;refine⟨setBlk H (w.heap.size+1) (pnt x y f),by simp[go_sem,exI,A,I],?_⟩;simp only[fzw];replace G:=G.trans d
 go_wp2_with fail
 exact bo1 results18 (rd_pn (by rfl) (blk_setBlk _ _ _ (by rw[A,pnt_size];decide))) ⟨rfl,gr_setNew G (by omega)⟩
theorem rright_any(id:Int)(P A B N X Y:Nat)(qc:Nat→Option Addr×Nat)(a n:Nat)(p:Option Addr)(la:a<P)(lA:A<P)(lB:B<P)(hd:dl P≤400)(w:World)(HQ:∀k,Sl w (qc k).1 (six P A B N X Y k))(Sa:Sl w p a):
 Calls prog 43 #[.agg (crA id (six P A B N X Y) qc),.slice p (dl a) n] w (Nm (((a*a%P+A)%P*a%P+B)%P) w):=by
 have R:0<P:=by omega
 obtain⟨x,C⟩:=exl (a*a%P);have V:x<P:=C▸Nat.mod_lt _ R;obtain⟨S,D⟩:=exl ((x+A)%P);have W:S<P:=D▸Nat.mod_lt _ R;obtain⟨H,I⟩:=exl (S*a%P);have Z:H<P:=I▸Nat.mod_lt _ R;obtain⟨L,J⟩:=exl ((H+B)%P);have aa:L<P:=J▸Nat.mod_lt _ R;rw[show ((a*a%P+A)%P*a%P+B)%P=L by rw[C,D,I,J]]
 go_enter func43,ntmps43
 go_upto_region 1 with fail
 refine gen_w (fun v=>Gr w v∧Vr v (w.heap.size) (crA id (six P A B N X Y) qc)) ⟨grA,vrA⟩ ?_;rintro v0 ⟨G,i⟩;replace HQ:=fun k=>(HQ k).gr G;replace Sa:=Sa.gr G;refine wp_wS [.c (.slice p (dl (a)) n),.c (.slice p (dl (a)) n),.c (pv (w.heap.size) 1),.c (.slice (qc 0).1 (dl (P)) (qc 0).2),.n (x),.n (x)] [3,4,5] ⟨.o 29 1 i rfl rfl,.k (fun q =>#[.slice p (dl (a)) n,.slice p (dl (a)) n,.slice (qc 0).1 (dl (P)) (qc 0).2]) fun q vv d U=>RtW.of_n (mm_any (Sa.gr d) (Sa.gr d) ((HQ 0).gr d) la la hd C),.m 4,⟨⟩⟩ fun j v1 d h1=>?_;simp only[fzw];have f:Sl v1 (j 5 0).1 (x):=h1 5;clear h1;replace G:=G.trans d;replace i:=i.gr d;replace HQ:=fun k=>(HQ k).gr d;replace Sa:=Sa.gr d;clear d
 go_upto_region 2 with fail
 refine wp_w [.c (.slice (j 5 0).1 (dl (x)) (j 5 0).2),.c (pv (w.heap.size) 2),.c (.slice (qc 1).1 (dl (A)) (qc 1).2),.c (pv (w.heap.size) 1),.c (.slice (qc 0).1 (dl (P)) (qc 0).2),.n (S),.c (.slice p (dl (a)) n),.c (pv (w.heap.size) 1),.c (.slice (qc 0).1 (dl (P)) (qc 0).2),.n (H),.n (H)] [2,4,5,8,9,10] ⟨.o 29 2 i rfl rfl,.o 29 1 i rfl rfl,.k (fun q =>#[.slice (j 5 0).1 (dl (x)) (j 5 0).2,.slice (qc 1).1 (dl (A)) (qc 1).2,.slice (qc 0).1 (dl (P)) (qc 0).2]) fun q vv d U=>RtW.of_n (am_any (f.gr d) ((HQ 1).gr d) ((HQ 0).gr d) V lA hd D),.o 29 1 i rfl rfl,.k (fun q =>#[.slice (q 5 0).1 (dl (S)) (q 5 0).2,.slice p (dl (a)) n,.slice (qc 0).1 (dl (P)) (qc 0).2]) fun q vv d U=>RtW.of_n (mm_any (U 5 rfl) (Sa.gr d) ((HQ 0).gr d) W la hd I),.m 9,⟨⟩⟩ fun l v2 d h2=>?_;simp only[fzw];have h:Sl v2 (l 10 0).1 (H):=h2 10;clear h2;replace G:=G.trans d;replace i:=i.gr d;replace HQ:=fun k=>(HQ k).gr d;replace Sa:=Sa.gr d;replace f:=f.gr d;clear d
 go_upto_region 3 with fail
 refine wp_wS [.c (.slice (l 10 0).1 (dl (H)) (l 10 0).2),.c (pv (w.heap.size) 3),.c (.slice (qc 2).1 (dl (B)) (qc 2).2),.c (pv (w.heap.size) 1),.c (.slice (qc 0).1 (dl (P)) (qc 0).2),.n (L),.n (L)] [2,4,5,6] ⟨.o 29 3 i rfl rfl,.o 29 1 i rfl rfl,.k (fun q =>#[.slice (l 10 0).1 (dl (H)) (l 10 0).2,.slice (qc 2).1 (dl (B)) (qc 2).2,.slice (qc 0).1 (dl (P)) (qc 0).2]) fun q vv d U=>RtW.of_n (am_any (h.gr d) ((HQ 2).gr d) ((HQ 0).gr d) Z lB hd J),.m 5,⟨⟩⟩ fun K v3 d h3=>?_;simp only[fzw];have Q:Sl v3 (K 6 0).1 (L):=h3 6;clear h3;replace G:=G.trans d;replace i:=i.gr d;replace HQ:=fun k=>(HQ k).gr d;replace Sa:=Sa.gr d;replace f:=f.gr d;replace h:=h.gr d;clear d
 go_wp2_with fail
 go_ret
 exact⟨(K 6 0).1,(K 6 0).2,rfl,Q,G⟩
end
section
attribute [local go_sem ↓] uz9 Go.wp_at_zero Go.wp_at_succ
attribute [local go_sem] uz10
theorem rneg_inf(id:Int)(P A B N X Y:Nat)(qc:Nat→Option Addr×Nat)(x y:Nat)(p q:Option Addr)(n m:Nat)(w:World)(HQ:∀k,Sl w (qc k).1 (six P A B N X Y k))(Sx:Sl w p x)(Sy:Sl w q y):
 Calls prog 24 #[.agg (crA id (six P A B N X Y) qc),.agg (ptA p x n q y m true)] w (Rt (.pt x y true) w):=by
 go_enter func24,ntmps24
 go_upto_region 1 with fail
 refine gen_w (fun v=>Gr w v∧Vr v (w.heap.size) (crA id (six P A B N X Y) qc)∧Vr v (w.heap.size+1) (ptA p x n q y m true)∧Vr v (w.heap.size+1+1) (ptA none 0 0 none 0 0 false)) ⟨grA,vrA,vrA,vrA⟩ ?_;rintro R ⟨G,l,i,j⟩;replace HQ:=fun k=>(HQ k).gr G;replace Sx:=Sx.gr G;replace Sy:=Sy.gr G;refine wp_wS [.c (pv (w.heap.size+1) 2),.T,.T,.u,.u,.u,.u,.T] [1] ⟨.o 4 2 i rfl rfl,⟨⟩⟩ fun D S d H=>?_;simp only[fzw];clear H;replace G:=G.trans d;replace l:=l.gr d;replace i:=i.gr d;replace j:=j.gr d;replace HQ:=fun k=>(HQ k).gr d;replace Sx:=Sx.gr d;replace Sy:=Sy.gr d;clear d
 go_upto_region 2 with fail
 refine wp_wTS 1 [.c (.agg (ptA p (x) n q (y) m true))] [0] ⟨.g 44 0 i rfl,⟨⟩⟩ (.s 44 (fun I=>pv (w.heap.size+1+1) 0) (fun I=>.agg (ptA p (x) n q (y) m true)) fun J K d L=>?_);have C:=(j.gr d).h;have Q:=(j.gr d).f;refine⟨setBlk K (w.heap.size+1+1) (ptA p (x) n q (y) m true),by simp[go_sem,exI,C,Q],?_⟩;simp only[fzw];clear L;replace G:=G.trans d;replace l:=l.gr d;replace i:=i.gr d;replace j:=j.gr d;replace HQ:=fun k=>(HQ k).gr d;replace Sx:=Sx.gr d;replace Sy:=Sy.gr d;clear d
 go_wp2_with fail
 exact bo1 results24 (rd_pt _ _ _ _ _ _ _ (by rfl) (blk_setBlk _ _ _ (by rw[C];decide))) ⟨_,rfl,⟨_,_,_,_,rfl,Sl.set Sx (by rw[C];exact ptA_no _ _ _ _ _ _ _),Sl.set Sy (by rw[C];exact ptA_no _ _ _ _ _ _ _)⟩,gr_setNew G (by omega)⟩
theorem rneg_nought(id:Int)(P A B N X Y:Nat)(qc:Nat→Option Addr×Nat)(x:Nat)(p q:Option Addr)(n m:Nat)(w:World)(HQ:∀k,Sl w (qc k).1 (six P A B N X Y k))(Sx:Sl w p x)(Sy:Sl w q 0):
 Calls prog 24 #[.agg (crA id (six P A B N X Y) qc),.agg (ptA p x n q 0 m false)] w (Rt (.pt x 0 false) w):=by
 go_enter func24,ntmps24
 go_upto_region 1 with fail
 refine gen_w (fun v=>Gr w v∧Vr v (w.heap.size) (crA id (six P A B N X Y) qc)∧Vr v (w.heap.size+1) (ptA p x n q 0 m false)∧Vr v (w.heap.size+1+1) (ptA none 0 0 none 0 0 false)) ⟨grA,vrA,vrA,vrA⟩ ?_;rintro R ⟨G,l,i,j⟩;replace HQ:=fun k=>(HQ k).gr G;replace Sx:=Sx.gr G;replace Sy:=Sy.gr G;refine wp_wS [.c (pv (w.heap.size+1) 2),.F,.F,.c (pv (w.heap.size+1) 1),.c (.slice q (dl (0)) m),.c (.int .i64 (dl (0))),.T,.T] [1,4,6] ⟨.o 4 2 i rfl rfl,.o 29 1 i rfl rfl,.s (.binOp .eql 3 (.const (.int .i64 (dl (0)))) (.const (.int .i64 0)) 3) rfl fun S d=>by simp[go_sem,exI,dl_zero],⟨⟩⟩ fun D U d H=>?_;simp only[fzw];clear H;replace G:=G.trans d;replace l:=l.gr d;replace i:=i.gr d;replace j:=j.gr d;replace HQ:=fun k=>(HQ k).gr d;replace Sx:=Sx.gr d;replace Sy:=Sy.gr d;clear d
 go_upto_region 2 with fail
 refine wp_wTS 1 [.c (.agg (ptA p (x) n q (0) m false))] [0] ⟨.g 44 0 i rfl,⟨⟩⟩ (.s 44 (fun I=>pv (w.heap.size+1+1) 0) (fun I=>.agg (ptA p (x) n q (0) m false)) fun J K d L=>?_);have C:=(j.gr d).h;have Q:=(j.gr d).f;refine⟨setBlk K (w.heap.size+1+1) (ptA p (x) n q (0) m false),by simp[go_sem,exI,C,Q],?_⟩;simp only[fzw];clear L;replace G:=G.trans d;replace l:=l.gr d;replace i:=i.gr d;replace j:=j.gr d;replace HQ:=fun k=>(HQ k).gr d;replace Sx:=Sx.gr d;replace Sy:=Sy.gr d;clear d
 go_wp2_with fail
 exact bo1 results24 (rd_pt _ _ _ _ _ _ _ (by rfl) (blk_setBlk _ _ _ (by rw[C];decide))) ⟨_,rfl,⟨_,_,_,_,rfl,Sl.set Sx (by rw[C];exact ptA_no _ _ _ _ _ _ _),Sl.set Sy (by rw[C];exact ptA_no _ _ _ _ _ _ _)⟩,gr_setNew G (by omega)⟩
theorem rneg_ok(id:Int)(P A B N X Y:Nat)(qc:Nat→Option Addr×Nat)(x y:Nat)(p q:Option Addr)(n m:Nat)(z:Nat)(hd:dl P≤400)(h0:y≠0)(hy:y<P)(hz:P-y=z)(w:World)(HQ:∀k,Sl w (qc k).1 (six P A B N X Y k))(Sx:Sl w p x)(Sy:Sl w q y):
 Calls prog 24 #[.agg (crA id (six P A B N X Y) qc),.agg (ptA p x n q y m false)] w (Rt (.pt x z false) w):=by
 have U:((dl y:Int)==0)=false:=by rw[dl_nought,decide_eq_false h0]
 go_enter func24,ntmps24
 go_upto_region 1 with fail
 refine gen_w (fun v=>Gr w v∧Vr v (w.heap.size) (crA id (six P A B N X Y) qc)∧Vr v (w.heap.size+1) (ptA p x n q y m false)∧Vr v (w.heap.size+1+1) (ptA none 0 0 none 0 0 false)) ⟨grA,vrA,vrA,vrA⟩ ?_;rintro v0 ⟨G,H,C,D⟩;replace HQ:=fun k=>(HQ k).gr G;replace Sx:=Sx.gr G;replace Sy:=Sy.gr G;refine wp_wS [.c (pv (w.heap.size+1) 2),.F,.F,.c (pv (w.heap.size+1) 1),.c (.slice q (dl (y)) m),.c (.int .i64 (dl (y))),.F,.F] [1,4,6] ⟨.o 4 2 C rfl rfl,.o 29 1 C rfl rfl,.s (.binOp .eql 3 (.const (.int .i64 (dl (y)))) (.const (.int .i64 0)) 3) rfl fun Q d=>by simp[go_sem,exI,U],⟨⟩⟩ fun V v1 d W=>?_;simp only[fzw];clear W;replace G:=G.trans d;replace H:=H.gr d;replace C:=C.gr d;replace D:=D.gr d;replace HQ:=fun k=>(HQ k).gr d;replace Sx:=Sx.gr d;replace Sy:=Sy.gr d;clear d
 go_upto_region 3 with fail
 refine wp_wT 8 [.c (pv (w.heap.size+1) 0),.c (.slice p (dl (x)) n),.c (pv (w.heap.size) 1),.c (.slice (qc 0).1 (dl (P)) (qc 0).2),.c (pv (w.heap.size+1) 1),.c (.slice q (dl (y)) m),.n (z),.pt (x) (z) false] [1,3,5,6,7] ⟨.o 29 0 C rfl rfl,.o 29 1 H rfl rfl,.o 29 1 C rfl rfl,.k (fun l =>#[.slice (qc 0).1 (dl (P)) (qc 0).2,.slice q (dl (y)) m]) fun l Q d R=>RtW.of_n (sb_any ((HQ 0).gr d) (Sy.gr d) hd (by omega) hz),.p (fun l i=>match i with|0=>(p,n)|_=>l 6 0) fun l Q d R=>⟨(Sx.gr d),R 6 rfl⟩,⟨⟩⟩ (.s 44 (fun l=>pv (w.heap.size+1+1) 0) (fun l=>.agg (ptA (l 7 0).1 (x) (l 7 0).2 (l 7 1).1 (z) (l 7 1).2 false)) fun j L d S=>?_);have K:=(D.gr d).h;have Z:=(D.gr d).f;refine⟨setBlk L (w.heap.size+1+1) (ptA (j 7 0).1 (x) (j 7 0).2 (j 7 1).1 (z) (j 7 1).2 false),by simp[go_sem,exI,K,Z],?_⟩;simp only[fzw];obtain⟨I,J⟩:Sl L (j 7 0).1 (x)∧Sl L (j 7 1).1 (z):=S 7;clear S;replace G:=G.trans d;replace H:=H.gr d;replace C:=C.gr d;replace D:=D.gr d;replace HQ:=fun k=>(HQ k).gr d;replace Sx:=Sx.gr d;replace Sy:=Sy.gr d;clear d
 go_wp2_with fail
 exact bo1 results24 (rd_pt _ _ _ _ _ _ _ (by rfl) (blk_setBlk _ _ _ (by rw[K];decide))) ⟨_,rfl,⟨_,_,_,_,rfl,Sl.set I (by rw[K];exact ptA_no _ _ _ _ _ _ _),Sl.set J (by rw[K];exact ptA_no _ _ _ _ _ _ _)⟩,gr_setNew G (by omega)⟩
end
section
attribute [local go_sem ↓] uz9 Go.wp_at_zero Go.wp_at_succ
attribute [local go_sem] uz10
theorem rplus_inf1(id:Int)(P A B N X Y:Nat)(qc:Nat→Option Addr×Nat)(x1 y1 x2 y2:Nat)(f:Bool)(p1 q1:Option Addr)(n1 m1:Nat)(p2 q2:Option Addr)(n2 m2:Nat)(w:World)(HQ:∀k,Sl w (qc k).1 (six P A B N X Y k))(Sx1:Sl w p1 x1)(Sy1:Sl w q1 y1)(Sx2:Sl w p2 x2)(Sy2:Sl w q2 y2):
 Calls prog 45 #[.agg (crA id (six P A B N X Y) qc),.agg (ptA p1 (x1) n1 q1 (y1) m1 true),.agg (ptA p2 (x2) n2 q2 (y2) m2 f)] w (Rt (.pt x2 y2 f) w):=by
 go_enter func45,ntmps45
 go_upto_region 1 with fail
 refine gen_w (fun v=>Gr w v∧Vr v (w.heap.size) (crA id (six P A B N X Y) qc)∧Vr v (w.heap.size+1) (ptA p1 (x1) n1 q1 (y1) m1 true)∧Vr v (w.heap.size+1+1) (ptA p2 (x2) n2 q2 (y2) m2 f)∧Vr v (w.heap.size+1+1+1) (ptA none 0 0 none 0 0 false)) ⟨grA,vrA,vrA,vrA,vrA⟩ ?_;rintro Q ⟨G,R,q,x,l⟩;replace HQ:=fun k=>(HQ k).gr G;replace Sx1:=Sx1.gr G;replace Sy1:=Sy1.gr G;replace Sx2:=Sx2.gr G;replace Sy2:=Sy2.gr G;refine wp_wS [.c (pv (w.heap.size+1) 2),.T] [1] ⟨.o 4 2 q rfl rfl,⟨⟩⟩ fun C S i D=>?_;simp only[fzw];clear D;have d:=i;clear i
 go_upto_region 2 with fail
 refine wp_wTS 1 [.c (.agg (ptA p2 (x2) n2 q2 (y2) m2 f))] [0] ⟨.g 44 0 (x.gr d) rfl,⟨⟩⟩ (.s 44 (fun H=>pv (w.heap.size+1+1+1) 0) (fun H=>.agg (ptA p2 (x2) n2 q2 (y2) m2 f)) fun I J i K=>?_);have j:=((l.gr d).gr i).h;have L:=((l.gr d).gr i).f;refine⟨setBlk J (w.heap.size+1+1+1) (ptA p2 (x2) n2 q2 (y2) m2 f),by simp[go_sem,exI,j,L],?_⟩;simp only[fzw];clear K;replace d:=d.trans i;replace G:=G.trans d;replace Sx2:=Sx2.gr d;replace Sy2:=Sy2.gr d
 go_wp2_with fail
 exact bo1 results45 (rd_pt _ _ _ _ _ _ _ (by rfl) (blk_setBlk _ _ _ (by rw[j];decide))) ⟨_,rfl,⟨_,_,_,_,rfl,Sl.set Sx2 (by rw[j];exact ptA_no _ _ _ _ _ _ _),Sl.set Sy2 (by rw[j];exact ptA_no _ _ _ _ _ _ _)⟩,gr_setNew G (by omega)⟩
theorem rplus_inf2(id:Int)(P A B N X Y:Nat)(qc:Nat→Option Addr×Nat)(x1 y1 x2 y2:Nat)(p1 q1:Option Addr)(n1 m1:Nat)(p2 q2:Option Addr)(n2 m2:Nat)(w:World)(HQ:∀k,Sl w (qc k).1 (six P A B N X Y k))(Sx1:Sl w p1 x1)(Sy1:Sl w q1 y1)(Sx2:Sl w p2 x2)(Sy2:Sl w q2 y2):
 Calls prog 45 #[.agg (crA id (six P A B N X Y) qc),.agg (ptA p1 (x1) n1 q1 (y1) m1 false),.agg (ptA p2 (x2) n2 q2 (y2) m2 true)] w (Rt (.pt x1 y1 false) w):=by
 go_enter func45,ntmps45
 go_upto_region 1 with fail
 refine gen_w (fun v=>Gr w v∧Vr v (w.heap.size) (crA id (six P A B N X Y) qc)∧Vr v (w.heap.size+1) (ptA p1 (x1) n1 q1 (y1) m1 false)∧Vr v (w.heap.size+1+1) (ptA p2 (x2) n2 q2 (y2) m2 true)∧Vr v (w.heap.size+1+1+1) (ptA none 0 0 none 0 0 false)) ⟨grA,vrA,vrA,vrA,vrA⟩ ?_;rintro U ⟨G,l,q,C,x⟩;replace HQ:=fun k=>(HQ k).gr G;replace Sx1:=Sx1.gr G;replace Sy1:=Sy1.gr G;replace Sx2:=Sx2.gr G;replace Sy2:=Sy2.gr G;refine wp_wS [.c (pv (w.heap.size+1) 2),.F] [1] ⟨.o 4 2 q rfl rfl,⟨⟩⟩ fun D V i H=>?_;simp only[fzw];clear H;have d:=i;clear i
 go_upto_region 3 with fail
 refine wp_wS [.c (pv (w.heap.size+1+1) 2),.T] [1] ⟨.o 4 2 (C.gr d) rfl rfl,⟨⟩⟩ fun I W i J=>?_;simp only[fzw];clear J;replace d:=d.trans i;clear i
 go_upto_region 4 with fail
 refine wp_wTS 1 [.c (.agg (ptA p1 (x1) n1 q1 (y1) m1 false))] [0] ⟨.g 44 0 (q.gr d) rfl,⟨⟩⟩ (.s 44 (fun K=>pv (w.heap.size+1+1+1) 0) (fun K=>.agg (ptA p1 (x1) n1 q1 (y1) m1 false)) fun L Q i R=>?_);have j:=((x.gr d).gr i).h;have S:=((x.gr d).gr i).f;refine⟨setBlk Q (w.heap.size+1+1+1) (ptA p1 (x1) n1 q1 (y1) m1 false),by simp[go_sem,exI,j,S],?_⟩;simp only[fzw];clear R;replace d:=d.trans i;clear i;replace G:=G.trans d;replace l:=l.gr d;replace Sx1:=Sx1.gr d;replace Sy1:=Sy1.gr d
 go_wp2_with fail
 exact bo1 results45 (rd_pt _ _ _ _ _ _ _ (by rfl) (blk_setBlk _ _ _ (by rw[j];decide))) ⟨_,rfl,⟨_,_,_,_,rfl,Sl.set Sx1 (by rw[j];exact ptA_no _ _ _ _ _ _ _),Sl.set Sy1 (by rw[j];exact ptA_no _ _ _ _ _ _ _)⟩,gr_setNew G (by omega)⟩
theorem rplus_op(id:Int)(P A B N X Y:Nat)(qc:Nat→Option Addr×Nat)(x y1 y2:Nat)(hd:dl P≤400)(lx:x<P)(ly1:y1<P)(ly2:y2<P)(hy:y1≠y2)(p1 q1:Option Addr)(n1 m1:Nat)(p2 q2:Option Addr)(n2 m2:Nat)(w:World)(HQ:∀k,Sl w (qc k).1 (six P A B N X Y k))(Sx1:Sl w p1 x)(Sy1:Sl w q1 y1)(Sx2:Sl w p2 x)(Sy2:Sl w q2 y2):
 Calls prog 45 #[.agg (crA id (six P A B N X Y) qc),.agg (ptA p1 (x) n1 q1 (y1) m1 false),.agg (ptA p2 (x) n2 q2 (y2) m2 false)] w (Rt (.pt 0 0 true) w):=by
 obtain⟨I,Q⟩:=exl (cmpZ y1 y2)
 have bz:(I != 0)=true:=by rw[bne,←Q,cmpZ_nought,decide_eq_false hy];rfl
 go_enter func45,ntmps45
 go_upto_region 1 with fail
 refine gen_w (fun v=>Gr w v∧Vr v (w.heap.size) (crA id (six P A B N X Y) qc)∧Vr v (w.heap.size+1) (ptA p1 (x) n1 q1 (y1) m1 false)∧Vr v (w.heap.size+1+1) (ptA p2 (x) n2 q2 (y2) m2 false)∧Vr v (w.heap.size+1+1+1) (ptA none 0 0 none 0 0 false)) ⟨grA,vrA,vrA,vrA,vrA⟩ ?_;rintro v0 ⟨G,c1,J,K,R⟩;replace HQ:=fun k=>(HQ k).gr G;replace Sx1:=Sx1.gr G;replace Sy1:=Sy1.gr G;replace Sx2:=Sx2.gr G;replace Sy2:=Sy2.gr G;refine wp_wS [.c (pv (w.heap.size+1) 2),.F] [1] ⟨.o 4 2 J rfl rfl,⟨⟩⟩ fun U v1 d V=>?_;simp only[fzw];clear V;have j:=d;clear d
 go_upto_region 3 with fail
 refine wp_wS [.c (pv (w.heap.size+1+1) 2),.F] [1] ⟨.o 4 2 (K.gr j) rfl rfl,⟨⟩⟩ fun W v2 d Z=>?_;simp only[fzw];clear Z;replace j:=j.trans d;clear d
 go_upto_region 5 with fail
 refine wp_wS [.c (.slice none 0 0),.c (.slice none 0 0)] [] ⟨⟩ fun aa v3 d h5=>?_;simp only[fzw];clear h5;replace j:=j.trans d;clear d
 go_upto_region 6 with fail
 refine wp_wS [.c (pv (w.heap.size+1) 0),.c (.slice p1 (dl (x)) n1),.c (pv (w.heap.size+1+1) 0),.c (.slice p2 (dl (x)) n2),.O,.T] [1,3,4] ⟨.o 29 0 (J.gr j) rfl rfl,.o 29 0 (K.gr j) rfl rfl,.k (fun l =>#[.slice p1 (dl (x)) n1,.slice p2 (dl (x)) n2]) fun l L d S=>RtW.of_c (cz_any (Sx1.gr (j.trans d)) (Sx2.gr (j.trans d)) (dl_low _ P 400 (by omega) hd) (dl_low _ P 400 (by omega) hd) (by unfold cmpZ;simp)),⟨⟩⟩ fun ab v4 d h6=>?_;simp only[fzw];clear h6;replace j:=j.trans d;clear d
 go_upto_region 7 with fail
 refine wp_wS [.c (pv (w.heap.size+1) 1),.c (.slice q1 (dl (y1)) m1),.c (pv (w.heap.size+1+1) 1),.c (.slice q2 (dl (y2)) m2),.c (.int .i64 I),.T,.T,.u,.u,.u,.u,.T] [1,3,4,5] ⟨.o 29 1 (J.gr j) rfl rfl,.o 29 1 (K.gr j) rfl rfl,.k (fun l =>#[.slice q1 (dl (y1)) m1,.slice q2 (dl (y2)) m2]) fun l L d S=>RtW.of_c (cz_any (Sy1.gr (j.trans d)) (Sy2.gr (j.trans d)) (dl_low _ P 400 (by omega) hd) (dl_low _ P 400 (by omega) hd) Q),.s (.binOp .neq 3 (.const (.int .i64 I)) (.const (.int .i64 0)) 3) rfl fun L d=>by simp[go_sem,exI,bz],⟨⟩⟩ fun ac v5 d h7=>?_;simp only[fzw];clear h7;replace j:=j.trans d;clear d
 go_upto_region 8 with fail
 refine wp_wTS 1 [.pt (0) (0) true] [0] ⟨.p (fun l i=>match i with|0=>(none,0)|_=>(none,0)) fun l L d S=>⟨Sl.zero _ _,Sl.zero _ _⟩,⟨⟩⟩ (.s 44 (fun l=>pv (w.heap.size+1+1+1) 0) (fun l=>.agg (ptA (l 0 0).1 (0) (l 0 0).2 (l 0 1).1 (0) (l 0 1).2 true)) fun q v6 d h8=>?_);have H:=((R.gr j).gr d).h;have FT:=((R.gr j).gr d).f;refine⟨setBlk v6 (w.heap.size+1+1+1) (ptA (q 0 0).1 (0) (q 0 0).2 (q 0 1).1 (0) (q 0 1).2 true),by simp[go_sem,exI,H,FT],?_⟩;simp only[fzw];obtain⟨C,D⟩:=h8 0;replace j:=j.trans d;replace G:=G.trans j
 go_wp2_with fail
 exact bo1 results45 (rd_pt _ _ _ _ _ _ _ (by rfl) (blk_setBlk _ _ _ (by rw[H];decide))) ⟨_,rfl,⟨_,_,_,_,rfl,Sl.set C (by rw[H];exact ptA_no _ _ _ _ _ _ _),Sl.set D (by rw[H];exact ptA_no _ _ _ _ _ _ _)⟩,gr_setNew G (by omega)⟩
theorem rplus_flat(id:Int)(P A B N X Y:Nat)(qc:Nat→Option Addr×Nat)(x:Nat)(hd:dl P≤400)(lx:x<P)(p1 q1:Option Addr)(n1 m1:Nat)(p2 q2:Option Addr)(n2 m2:Nat)(w:World)(HQ:∀k,Sl w (qc k).1 (six P A B N X Y k))(Sx1:Sl w p1 x)(Sy1:Sl w q1 0)(Sx2:Sl w p2 x)(Sy2:Sl w q2 0):
 Calls prog 45 #[.agg (crA id (six P A B N X Y) qc),.agg (ptA p1 (x) n1 q1 (0) m1 false),.agg (ptA p2 (x) n2 q2 (0) m2 false)] w (Rt (.pt 0 0 true) w):=by
 go_enter func45,ntmps45
 go_upto_region 1 with fail
 refine gen_w (fun v=>Gr w v∧Vr v (w.heap.size) (crA id (six P A B N X Y) qc)∧Vr v (w.heap.size+1) (ptA p1 (x) n1 q1 (0) m1 false)∧Vr v (w.heap.size+1+1) (ptA p2 (x) n2 q2 (0) m2 false)∧Vr v (w.heap.size+1+1+1) (ptA none 0 0 none 0 0 false)) ⟨grA,vrA,vrA,vrA,vrA⟩ ?_;rintro v0 ⟨G,c1,H,J,L⟩;replace HQ:=fun k=>(HQ k).gr G;replace Sx1:=Sx1.gr G;replace Sy1:=Sy1.gr G;replace Sx2:=Sx2.gr G;replace Sy2:=Sy2.gr G;refine wp_wS [.c (pv (w.heap.size+1) 2),.F] [1] ⟨.o 4 2 H rfl rfl,⟨⟩⟩ fun R v1 d S=>?_;simp only[fzw];clear S;have j:=d;clear d
 go_upto_region 3 with fail
 refine wp_wS [.c (pv (w.heap.size+1+1) 2),.F] [1] ⟨.o 4 2 (J.gr j) rfl rfl,⟨⟩⟩ fun U v2 d V=>?_;simp only[fzw];clear V;replace j:=j.trans d;clear d
 go_upto_region 5 with fail
 refine wp_wS [.c (.slice none 0 0),.c (.slice none 0 0)] [] ⟨⟩ fun W v3 d Z=>?_;simp only[fzw];clear Z;replace j:=j.trans d;clear d
 go_upto_region 6 with fail
 refine wp_wS [.c (pv (w.heap.size+1) 0),.c (.slice p1 (dl (x)) n1),.c (pv (w.heap.size+1+1) 0),.c (.slice p2 (dl (x)) n2),.O,.T] [1,3,4] ⟨.o 29 0 (H.gr j) rfl rfl,.o 29 0 (J.gr j) rfl rfl,.k (fun l =>#[.slice p1 (dl (x)) n1,.slice p2 (dl (x)) n2]) fun l K d Q=>RtW.of_c (cz_any (Sx1.gr (j.trans d)) (Sx2.gr (j.trans d)) (dl_low _ P 400 (by omega) hd) (dl_low _ P 400 (by omega) hd) (by unfold cmpZ;simp)),⟨⟩⟩ fun aa v4 d h6=>?_;simp only[fzw];clear h6;replace j:=j.trans d;clear d
 go_upto_region 7 with fail
 refine wp_wS [.c (pv (w.heap.size+1) 1),.c (.slice q1 (dl (0)) m1),.c (pv (w.heap.size+1+1) 1),.c (.slice q2 (dl (0)) m2),.O,.F,.F,.c (pv (w.heap.size+1) 1),.c (.slice q1 (dl (0)) m1),.c (.int .i64 (dl (0))),.T,.T] [1,3,4,8,10] ⟨.o 29 1 (H.gr j) rfl rfl,.o 29 1 (J.gr j) rfl rfl,.k (fun l =>#[.slice q1 (dl (0)) m1,.slice q2 (dl (0)) m2]) fun l K d Q=>RtW.of_c (cz_any (Sy1.gr (j.trans d)) (Sy2.gr (j.trans d)) (dl_low _ P 400 (by omega) hd) (dl_low _ P 400 (by omega) hd) (by unfold cmpZ;simp)),.o 29 1 (H.gr j) rfl rfl,.s (.binOp .eql 3 (.const (.int .i64 (dl (0)))) (.const (.int .i64 0)) 3) rfl fun K d=>by simp[go_sem,exI,dl_zero],⟨⟩⟩ fun ab v5 d h7=>?_;simp only[fzw];clear h7;replace j:=j.trans d;clear d
 go_upto_region 8 with fail
 refine wp_wTS 1 [.pt (0) (0) true] [0] ⟨.p (fun l i=>match i with|0=>(none,0)|_=>(none,0)) fun l K d Q=>⟨Sl.zero _ _,Sl.zero _ _⟩,⟨⟩⟩ (.s 44 (fun l=>pv (w.heap.size+1+1+1) 0) (fun l=>.agg (ptA (l 0 0).1 (0) (l 0 0).2 (l 0 1).1 (0) (l 0 1).2 true)) fun q v6 d h8=>?_);have I:=((L.gr j).gr d).h;have FT:=((L.gr j).gr d).f;refine⟨setBlk v6 (w.heap.size+1+1+1) (ptA (q 0 0).1 (0) (q 0 0).2 (q 0 1).1 (0) (q 0 1).2 true),by simp[go_sem,exI,I,FT],?_⟩;simp only[fzw];obtain⟨C,D⟩:=h8 0;replace j:=j.trans d;replace G:=G.trans j
 go_wp2_with fail
 exact bo1 results45 (rd_pt _ _ _ _ _ _ _ (by rfl) (blk_setBlk _ _ _ (by rw[I];decide))) ⟨_,rfl,⟨_,_,_,_,rfl,Sl.set C (by rw[I];exact ptA_no _ _ _ _ _ _ _),Sl.set D (by rw[I];exact ptA_no _ _ _ _ _ _ _)⟩,gr_setNew G (by omega)⟩
end
section
attribute [local go_sem ↓] uz9 Go.wp_at_zero Go.wp_at_succ
attribute [local go_sem] uz10
theorem rplus_dbl(id:Int)(P A B N X Y:Nat)(qc:Nat→Option Addr×Nat)(x y:Nat)(hd:dl P≤400)(lx:x<P)(ly:y<P)(lA:A<P)(h0:y≠0)(h1P:1<P)(p1 q1:Option Addr)(n1 m1:Nat)(p2 q2:Option Addr)(n2 m2:Nat)(iv:Nat)(t1:Nat)(ht1:x*x%P=t1)(t2:Nat)(ht2:(t1+t1)%P=t2)(t3:Nat)(ht3:(t1+t2)%P=t3)(t4:Nat)(ht4:(t3+A)%P=t4)(t5:Nat)(ht5:(y+y)%P=t5)(t6:Nat)(ht6:t4*iv%P=t6)(t7:Nat)(ht7:t6*t6%P=t7)(t8:Nat)(ht8:subM t7 x P=t8)(t9:Nat)(ht9:subM t8 x P=t9)(t10:Nat)(ht10:subM x t9 P=t10)(t11:Nat)(ht11:t6*t10%P=t11)(t12:Nat)(ht12:subM t11 y P=t12)(liv:iv<P)(hiv:t5*iv%P=1)(w:World)(HQ:∀k,Sl w (qc k).1 (six P A B N X Y k))(Sx1:Sl w p1 x)(Sy1:Sl w q1 y)(Sx2:Sl w p2 x)(Sy2:Sl w q2 y):
 Calls prog 45 #[.agg (crA id (six P A B N X Y) qc),.agg (ptA p1 (x) n1 q1 (y) m1 false),.agg (ptA p2 (x) n2 q2 (y) m2 false)] w (Rt (.pt t9 t12 false) w):=by
 have hP:0<P:=by omega
 have zy:((dl y:Int)==0)=false:=by rw[dl_nought,decide_eq_false h0]
 have ah:=ht1▸Nat.mod_lt _ hP;have aE:=ht2▸Nat.mod_lt _ hP;have aG:=ht3▸Nat.mod_lt _ hP;have aH:=ht4▸Nat.mod_lt _ hP;have aI:=ht5▸Nat.mod_lt _ hP;have ai:=ht6▸Nat.mod_lt _ hP;have ar:=ht7▸Nat.mod_lt _ hP;have au:=ht8▸subM_lt ar lx;have av:=ht9▸subM_lt au lx;have aw:=ht10▸subM_lt lx av;have ag:=ht11▸Nat.mod_lt _ hP;have aL:=ht12▸subM_lt ag ly
 go_enter func45,ntmps45
 go_upto_region 1 with fail
 refine gen_w (fun v=>Gr w v∧Vr v (w.heap.size) (crA id (six P A B N X Y) qc)∧Vr v (w.heap.size+1) (ptA p1 (x) n1 q1 (y) m1 false)∧Vr v (w.heap.size+1+1) (ptA p2 (x) n2 q2 (y) m2 false)∧Vr v (w.heap.size+1+1+1) (ptA none 0 0 none 0 0 false)) ⟨grA,vrA,vrA,vrA,vrA⟩ ?_;rintro v0 ⟨G,Q,c2,c3,c4⟩;replace HQ:=fun k=>(HQ k).gr G;replace Sx1:=Sx1.gr G;replace Sy1:=Sy1.gr G;replace Sx2:=Sx2.gr G;replace Sy2:=Sy2.gr G;refine wp_wS [.c (pv (w.heap.size+1) 2),.F] [1] ⟨.o 4 2 c2 rfl rfl,⟨⟩⟩ fun aM v1 d h1=>?_;simp only[fzw];clear h1;have j:=d;clear d
 go_upto_region 3 with fail
 refine wp_wS [.c (pv (w.heap.size+1+1) 2),.F] [1] ⟨.o 4 2 (c3.gr j) rfl rfl,⟨⟩⟩ fun aO v2 d h3=>?_;simp only[fzw];clear h3;replace j:=j.trans d;clear d
 go_upto_region 5 with fail
 refine wp_wS [.c (.slice none 0 0),.c (.slice none 0 0)] [] ⟨⟩ fun aP v3 d h5=>?_;simp only[fzw];clear h5;replace j:=j.trans d;clear d
 go_upto_region 6 with fail
 refine wp_wS [.c (pv (w.heap.size+1) 0),.c (.slice p1 (dl (x)) n1),.c (pv (w.heap.size+1+1) 0),.c (.slice p2 (dl (x)) n2),.O,.T] [1,3,4] ⟨.o 29 0 (c2.gr j) rfl rfl,.o 29 0 (c3.gr j) rfl rfl,.k (fun l =>#[.slice p1 (dl (x)) n1,.slice p2 (dl (x)) n2]) fun l K d H=>RtW.of_c (cz_any (Sx1.gr (j.trans d)) (Sx2.gr (j.trans d)) (dl_low _ P 400 (by omega) hd) (dl_low _ P 400 (by omega) hd) (by unfold cmpZ;simp)),⟨⟩⟩ fun aQ v4 d h6=>?_;simp only[fzw];clear h6;replace j:=j.trans d;clear d
 go_upto_region 7 with fail
 refine wp_wS [.c (pv (w.heap.size+1) 1),.c (.slice q1 (dl (y)) m1),.c (pv (w.heap.size+1+1) 1),.c (.slice q2 (dl (y)) m2),.O,.F,.F,.c (pv (w.heap.size+1) 1),.c (.slice q1 (dl (y)) m1),.c (.int .i64 (dl (y))),.F,.F] [1,3,4,8,10] ⟨.o 29 1 (c2.gr j) rfl rfl,.o 29 1 (c3.gr j) rfl rfl,.k (fun l =>#[.slice q1 (dl (y)) m1,.slice q2 (dl (y)) m2]) fun l K d H=>RtW.of_c (cz_any (Sy1.gr (j.trans d)) (Sy2.gr (j.trans d)) (dl_low _ P 400 (by omega) hd) (dl_low _ P 400 (by omega) hd) (by unfold cmpZ;simp)),.o 29 1 (c2.gr j) rfl rfl,.s (.binOp .eql 3 (.const (.int .i64 (dl (y)))) (.const (.int .i64 0)) 3) rfl fun K d=>by simp[go_sem,exI,zy],⟨⟩⟩ fun aR v5 d h7=>?_;simp only[fzw];clear h7;replace j:=j.trans d;clear d
 go_upto_region 9 with fail
 refine wp_wS [.c (pv (w.heap.size+1) 0),.c (.slice p1 (dl (x)) n1),.c (pv (w.heap.size+1) 0),.c (.slice p1 (dl (x)) n1),.c (pv (w.heap.size) 1),.c (.slice (qc 0).1 (dl (P)) (qc 0).2),.n (t1),.n (t1)] [1,3,5,6,7] ⟨.o 29 0 (c2.gr j) rfl rfl,.o 29 0 (c2.gr j) rfl rfl,.o 29 1 (Q.gr j) rfl rfl,.k (fun l =>#[.slice p1 (dl (x)) n1,.slice p1 (dl (x)) n1,.slice (qc 0).1 (dl (P)) (qc 0).2]) fun l K d H=>RtW.of_n (mm_any (Sx1.gr (j.trans d)) (Sx1.gr (j.trans d)) ((HQ 0).gr (j.trans d)) lx lx hd ht1),.m 6,⟨⟩⟩ fun D v6 d h9=>?_;simp only[fzw];have ab:=h9 7;clear h9;replace j:=j.trans d;clear d
 go_upto_region 10 with fail
 refine wp_w [.c (.slice (D 7 0).1 (dl (t1)) (D 7 0).2),.c (.slice (D 7 0).1 (dl (t1)) (D 7 0).2),.c (.slice (D 7 0).1 (dl (t1)) (D 7 0).2),.c (pv (w.heap.size) 1),.c (.slice (qc 0).1 (dl (P)) (qc 0).2),.n (t2),.c (pv (w.heap.size) 1),.c (.slice (qc 0).1 (dl (P)) (qc 0).2),.n (t3),.c (pv (w.heap.size) 2),.c (.slice (qc 1).1 (dl (A)) (qc 1).2),.c (pv (w.heap.size) 1),.c (.slice (qc 0).1 (dl (P)) (qc 0).2),.n (t4),.n (t4)] [4,5,7,8,10,12,13,14] ⟨.o 29 1 (Q.gr j) rfl rfl,.k (fun l =>#[.slice (D 7 0).1 (dl (t1)) (D 7 0).2,.slice (D 7 0).1 (dl (t1)) (D 7 0).2,.slice (qc 0).1 (dl (P)) (qc 0).2]) fun l K d H=>RtW.of_n (am_any (ab.gr d) (ab.gr d) ((HQ 0).gr (j.trans d)) ah ah hd ht2),.o 29 1 (Q.gr j) rfl rfl,.k (fun l =>#[.slice (D 7 0).1 (dl (t1)) (D 7 0).2,.slice (l 5 0).1 (dl (t2)) (l 5 0).2,.slice (qc 0).1 (dl (P)) (qc 0).2]) fun l K d H=>RtW.of_n (am_any (ab.gr d) (H 5 rfl) ((HQ 0).gr (j.trans d)) ah aE hd ht3),.o 29 2 (Q.gr j) rfl rfl,.o 29 1 (Q.gr j) rfl rfl,.k (fun l =>#[.slice (l 8 0).1 (dl (t3)) (l 8 0).2,.slice (qc 1).1 (dl (A)) (qc 1).2,.slice (qc 0).1 (dl (P)) (qc 0).2]) fun l K d H=>RtW.of_n (am_any (H 8 rfl) ((HQ 1).gr (j.trans d)) ((HQ 0).gr (j.trans d)) aG lA hd ht4),.m 13,⟨⟩⟩ fun R v7 d ax=>?_;simp only[fzw];have ac:=ax 14;clear ax;replace j:=j.trans d;have I:=d;clear d
 go_upto_region 11 with fail
 refine wp_wS [.c (pv (w.heap.size+1) 1),.c (.slice q1 (dl (y)) m1),.c (pv (w.heap.size+1) 1),.c (.slice q1 (dl (y)) m1),.c (pv (w.heap.size) 1),.c (.slice (qc 0).1 (dl (P)) (qc 0).2),.n (t5),.n (t5)] [1,3,5,6,7] ⟨.o 29 1 (c2.gr j) rfl rfl,.o 29 1 (c2.gr j) rfl rfl,.o 29 1 (Q.gr j) rfl rfl,.k (fun l =>#[.slice q1 (dl (y)) m1,.slice q1 (dl (y)) m1,.slice (qc 0).1 (dl (P)) (qc 0).2]) fun l K d H=>RtW.of_n (am_any (Sy1.gr (j.trans d)) (Sy1.gr (j.trans d)) ((HQ 0).gr (j.trans d)) ly ly hd ht5),.m 6,⟨⟩⟩ fun S v8 d ay=>?_;simp only[fzw];have aj:=ay 7;clear ay;replace j:=j.trans d;replace I:=I.trans d;have J:=d;clear d
 go_upto_region 14 with fail
 refine wp_wS [.c (.slice (S 7 0).1 (dl (t5)) (S 7 0).2),.c (pv (w.heap.size) 1),.c (.slice (qc 0).1 (dl (P)) (qc 0).2),.nb (iv) true,.nb (iv) true,.n (iv),.T,.n (iv),.T] [2,3,4,5,6,7] ⟨.o 29 1 (Q.gr j) rfl rfl,.k (fun l =>#[.slice (S 7 0).1 (dl (t5)) (S 7 0).2,.slice (qc 0).1 (dl (P)) (qc 0).2]) fun l K d H=>RtW.of_nb (iv_any (aj.gr d) ((HQ 0).gr (j.trans d)) aI hd h1P liv hiv),.m 3,.m 4,.m 4,.m 5,⟨⟩⟩ fun U v9 d az=>?_;simp only[fzw];have ak:=az 7;clear az;replace j:=j.trans d;replace I:=I.trans d;replace J:=J.trans d;have aa:=d;clear d
 go_upto_region 15 with fail
 refine wp_wS [.c (.slice (R 14 0).1 (dl (t4)) (R 14 0).2),.c (.slice (U 7 0).1 (dl (iv)) (U 7 0).2),.c (pv (w.heap.size) 1),.c (.slice (qc 0).1 (dl (P)) (qc 0).2),.n (t6),.n (t6)] [3,4,5] ⟨.o 29 1 (Q.gr j) rfl rfl,.k (fun l =>#[.slice (R 14 0).1 (dl (t4)) (R 14 0).2,.slice (U 7 0).1 (dl (iv)) (U 7 0).2,.slice (qc 0).1 (dl (P)) (qc 0).2]) fun l K d H=>RtW.of_n (mm_any (ac.gr (J.trans d)) (ak.gr d) ((HQ 0).gr (j.trans d)) aH liv hd ht6),.m 4,⟨⟩⟩ fun q aS d aA=>?_;simp only[fzw];have L:=aA 5;clear aA;replace j:=j.trans d;replace I:=I.trans d;replace J:=J.trans d;replace aa:=aa.trans d;have ae:=d;clear d
 go_upto_region 16 with fail
 refine wp_w [.c (.slice (q 5 0).1 (dl (t6)) (q 5 0).2),.c (.slice (q 5 0).1 (dl (t6)) (q 5 0).2),.c (pv (w.heap.size) 1),.c (.slice (qc 0).1 (dl (P)) (qc 0).2),.n (t7),.c (pv (w.heap.size+1) 0),.c (.slice p1 (dl (x)) n1),.c (pv (w.heap.size) 1),.c (.slice (qc 0).1 (dl (P)) (qc 0).2),.n (t8),.c (pv (w.heap.size+1+1) 0),.c (.slice p2 (dl (x)) n2),.c (pv (w.heap.size) 1),.c (.slice (qc 0).1 (dl (P)) (qc 0).2),.n (t9),.n (t9)] [3,4,6,8,9,11,13,14,15] ⟨.o 29 1 (Q.gr j) rfl rfl,.k (fun l =>#[.slice (q 5 0).1 (dl (t6)) (q 5 0).2,.slice (q 5 0).1 (dl (t6)) (q 5 0).2,.slice (qc 0).1 (dl (P)) (qc 0).2]) fun l K d H=>RtW.of_n (mm_any (L.gr d) (L.gr d) ((HQ 0).gr (j.trans d)) ai ai hd ht7),.o 29 0 (c2.gr j) rfl rfl,.o 29 1 (Q.gr j) rfl rfl,.k (fun l =>#[.slice (l 4 0).1 (dl (t7)) (l 4 0).2,.slice p1 (dl (x)) n1,.slice (qc 0).1 (dl (P)) (qc 0).2]) fun l K d H=>RtW.of_n (sm_any (H 4 rfl) (Sx1.gr (j.trans d)) ((HQ 0).gr (j.trans d)) ar lx hd ht8),.o 29 0 (c3.gr j) rfl rfl,.o 29 1 (Q.gr j) rfl rfl,.k (fun l =>#[.slice (l 9 0).1 (dl (t8)) (l 9 0).2,.slice p2 (dl (x)) n2,.slice (qc 0).1 (dl (P)) (qc 0).2]) fun l K d H=>RtW.of_n (sm_any (H 9 rfl) (Sx2.gr (j.trans d)) ((HQ 0).gr (j.trans d)) au lx hd ht9),.m 14,⟨⟩⟩ fun C aT d aB=>?_;simp only[fzw];have V:=aB 15;clear aB;replace j:=j.trans d;replace I:=I.trans d;replace J:=J.trans d;replace aa:=aa.trans d;replace ae:=ae.trans d;have ao:=d;clear d
 go_upto_region 17 with fail
 refine wp_w [.c (.slice (q 5 0).1 (dl (t6)) (q 5 0).2),.c (pv (w.heap.size+1) 0),.c (.slice p1 (dl (x)) n1),.c (.slice (C 15 0).1 (dl (t9)) (C 15 0).2),.c (pv (w.heap.size) 1),.c (.slice (qc 0).1 (dl (P)) (qc 0).2),.n (t10),.c (pv (w.heap.size) 1),.c (.slice (qc 0).1 (dl (P)) (qc 0).2),.n (t11),.c (pv (w.heap.size+1) 1),.c (.slice q1 (dl (y)) m1),.c (pv (w.heap.size) 1),.c (.slice (qc 0).1 (dl (P)) (qc 0).2),.n (t12),.n (t12)] [2,5,6,8,9,11,13,14,15] ⟨.o 29 0 (c2.gr j) rfl rfl,.o 29 1 (Q.gr j) rfl rfl,.k (fun l =>#[.slice p1 (dl (x)) n1,.slice (C 15 0).1 (dl (t9)) (C 15 0).2,.slice (qc 0).1 (dl (P)) (qc 0).2]) fun l K d H=>RtW.of_n (sm_any (Sx1.gr (j.trans d)) (V.gr d) ((HQ 0).gr (j.trans d)) lx av hd ht10),.o 29 1 (Q.gr j) rfl rfl,.k (fun l =>#[.slice (q 5 0).1 (dl (t6)) (q 5 0).2,.slice (l 6 0).1 (dl (t10)) (l 6 0).2,.slice (qc 0).1 (dl (P)) (qc 0).2]) fun l K d H=>RtW.of_n (mm_any (L.gr (ao.trans d)) (H 6 rfl) ((HQ 0).gr (j.trans d)) ai aw hd ht11),.o 29 1 (c2.gr j) rfl rfl,.o 29 1 (Q.gr j) rfl rfl,.k (fun l =>#[.slice (l 9 0).1 (dl (t11)) (l 9 0).2,.slice q1 (dl (y)) m1,.slice (qc 0).1 (dl (P)) (qc 0).2]) fun l K d H=>RtW.of_n (sm_any (H 9 rfl) (Sy1.gr (j.trans d)) ((HQ 0).gr (j.trans d)) ag ly hd ht12),.m 14,⟨⟩⟩ fun W aU d aC=>?_;simp only[fzw];have af:=aC 15;clear aC;replace j:=j.trans d;replace I:=I.trans d;replace J:=J.trans d;replace aa:=aa.trans d;replace ae:=ae.trans d;replace ao:=ao.trans d;have aJ:=d;clear d
 go_upto_region 18 with fail
 refine wp_wTS 3 [.c (.slice (C 15 0).1 (dl (t9)) (C 15 0).2),.c (.slice (W 15 0).1 (dl (t12)) (W 15 0).2),.pt (t9) (t12) false] [2] ⟨.p (fun l i=>match i with|0=>((C 15 0).1,(C 15 0).2)|_=>((W 15 0).1,(W 15 0).2)) fun l K d H=>⟨(V.gr (aJ.trans d)),(af.gr d)⟩,⟨⟩⟩ (.s 44 (fun l=>pv (w.heap.size+1+1+1) 0) (fun l=>.agg (ptA (l 2 0).1 (t9) (l 2 0).2 (l 2 1).1 (t12) (l 2 1).2 false)) fun Z aK d aD=>?_);have HT:=((c4.gr j).gr d).h;have FT:=((c4.gr j).gr d).f;refine⟨setBlk aK (w.heap.size+1+1+1) (ptA (Z 2 0).1 (t9) (Z 2 0).2 (Z 2 1).1 (t12) (Z 2 1).2 false),by simp[go_sem,exI,HT,FT],?_⟩;simp only[fzw];obtain⟨ap,aq⟩:=aD 2;clear aD;replace j:=j.trans d;replace G:=G.trans j
 go_wp2_with fail
 exact bo1 results45 (rd_pt _ _ _ _ _ _ _ (by rfl) (blk_setBlk _ _ _ (by rw[HT];decide))) ⟨_,rfl,⟨_,_,_,_,rfl,Sl.set ap (by rw[HT];exact ptA_no _ _ _ _ _ _ _),Sl.set aq (by rw[HT];exact ptA_no _ _ _ _ _ _ _)⟩,gr_setNew G (by omega)⟩
end
section
attribute [local go_sem ↓] uz9 Go.wp_at_zero Go.wp_at_succ
attribute [local go_sem] uz10
theorem rplus_add(id:Int)(P A B N X Y:Nat)(qc:Nat→Option Addr×Nat)(x1 y1 x2 y2:Nat)(hd:dl P≤400)(lx1:x1<P)(ly1:y1<P)(lx2:x2<P)(ly2:y2<P)(hx:x1≠x2)(h1P:1<P)(p1 q1:Option Addr)(n1 m1:Nat)(p2 q2:Option Addr)(n2 m2:Nat)(iv:Nat)(t1:Nat)(ht1:subM y2 y1 P=t1)(t2:Nat)(ht2:subM x2 x1 P=t2)(t3:Nat)(ht3:t1*iv%P=t3)(t4:Nat)(ht4:t3*t3%P=t4)(t5:Nat)(ht5:subM t4 x1 P=t5)(t6:Nat)(ht6:subM t5 x2 P=t6)(t7:Nat)(ht7:subM x1 t6 P=t7)(t8:Nat)(ht8:t3*t7%P=t8)(t9:Nat)(ht9:subM t8 y1 P=t9)(liv:iv<P)(hiv:t2*iv%P=1)(w:World)(HQ:∀k,Sl w (qc k).1 (six P A B N X Y k))(Sx1:Sl w p1 x1)(Sy1:Sl w q1 y1)(Sx2:Sl w p2 x2)(Sy2:Sl w q2 y2):
 Calls prog 45 #[.agg (crA id (six P A B N X Y) qc),.agg (ptA p1 (x1) n1 q1 (y1) m1 false),.agg (ptA p2 (x2) n2 q2 (y2) m2 false)] w (Rt (.pt t6 t9 false) w):=by
 have hP:0<P:=by omega
 obtain⟨zz,ez⟩:=exl (cmpZ x1 x2)
 have bz:(zz==0)=false:=by rw[←ez,cmpZ_nought,decide_eq_false hx]
 have ay:=ht1▸subM_lt ly2 ly1;have az:=ht2▸subM_lt lx2 lx1;have aa:=ht3▸Nat.mod_lt _ hP;have ai:=ht4▸Nat.mod_lt _ hP;have aj:=ht5▸subM_lt ai lx1;have ak:=ht6▸subM_lt aj lx2;have aA:=ht7▸subM_lt lx1 ak;have ao:=ht8▸Nat.mod_lt _ hP;have aD:=ht9▸subM_lt ao ly1
 go_enter func45,ntmps45
 go_upto_region 1 with fail
 refine gen_w (fun v=>Gr w v∧Vr v (w.heap.size) (crA id (six P A B N X Y) qc)∧Vr v (w.heap.size+1) (ptA p1 (x1) n1 q1 (y1) m1 false)∧Vr v (w.heap.size+1+1) (ptA p2 (x2) n2 q2 (y2) m2 false)∧Vr v (w.heap.size+1+1+1) (ptA none 0 0 none 0 0 false)) ⟨grA,vrA,vrA,vrA,vrA⟩ ?_;rintro v0 ⟨G,V,c2,c3,c4⟩;replace HQ:=fun k=>(HQ k).gr G;replace Sx1:=Sx1.gr G;replace Sy1:=Sy1.gr G;replace Sx2:=Sx2.gr G;replace Sy2:=Sy2.gr G;refine wp_wS [.c (pv (w.heap.size+1) 2),.F] [1] ⟨.o 4 2 c2 rfl rfl,⟨⟩⟩ fun aE v1 d h1=>?_;simp only[fzw];clear h1;have j:=d;clear d
 go_upto_region 3 with fail
 refine wp_wS [.c (pv (w.heap.size+1+1) 2),.F] [1] ⟨.o 4 2 (c3.gr j) rfl rfl,⟨⟩⟩ fun aG v2 d h3=>?_;simp only[fzw];clear h3;replace j:=j.trans d;clear d
 go_upto_region 5 with fail
 refine wp_wS [.c (.slice none 0 0),.c (.slice none 0 0)] [] ⟨⟩ fun aH v3 d h5=>?_;simp only[fzw];clear h5;replace j:=j.trans d;clear d
 go_upto_region 6 with fail
 refine wp_wS [.c (pv (w.heap.size+1) 0),.c (.slice p1 (dl (x1)) n1),.c (pv (w.heap.size+1+1) 0),.c (.slice p2 (dl (x2)) n2),.c (.int .i64 zz),.F] [1,3,4,5] ⟨.o 29 0 (c2.gr j) rfl rfl,.o 29 0 (c3.gr j) rfl rfl,.k (fun q =>#[.slice p1 (dl (x1)) n1,.slice p2 (dl (x2)) n2]) fun q U d D=>RtW.of_c (cz_any (Sx1.gr (j.trans d)) (Sx2.gr (j.trans d)) (dl_low _ P 400 (by omega) hd) (dl_low _ P 400 (by omega) hd) ez),.s (.binOp .eql 3 (.const (.int .i64 zz)) (.const (.int .i64 0)) 3) rfl fun U d=>by simp[go_sem,exI,bz],⟨⟩⟩ fun aI v4 d h6=>?_;simp only[fzw];clear h6;replace j:=j.trans d;clear d
 go_upto_region 12 with fail
 refine wp_wS [.c (pv (w.heap.size+1+1) 1),.c (.slice q2 (dl (y2)) m2),.c (pv (w.heap.size+1) 1),.c (.slice q1 (dl (y1)) m1),.c (pv (w.heap.size) 1),.c (.slice (qc 0).1 (dl (P)) (qc 0).2),.n (t1),.n (t1)] [1,3,5,6,7] ⟨.o 29 1 (c3.gr j) rfl rfl,.o 29 1 (c2.gr j) rfl rfl,.o 29 1 (V.gr j) rfl rfl,.k (fun q =>#[.slice q2 (dl (y2)) m2,.slice q1 (dl (y1)) m1,.slice (qc 0).1 (dl (P)) (qc 0).2]) fun q U d D=>RtW.of_n (sm_any (Sy2.gr (j.trans d)) (Sy1.gr (j.trans d)) ((HQ 0).gr (j.trans d)) ly2 ly1 hd ht1),.m 6,⟨⟩⟩ fun I v5 d ap=>?_;simp only[fzw];have ab:=ap 7;clear ap;replace j:=j.trans d;clear d
 go_upto_region 13 with fail
 refine wp_wS [.c (pv (w.heap.size+1+1) 0),.c (.slice p2 (dl (x2)) n2),.c (pv (w.heap.size+1) 0),.c (.slice p1 (dl (x1)) n1),.c (pv (w.heap.size) 1),.c (.slice (qc 0).1 (dl (P)) (qc 0).2),.n (t2),.n (t2)] [1,3,5,6,7] ⟨.o 29 0 (c3.gr j) rfl rfl,.o 29 0 (c2.gr j) rfl rfl,.o 29 1 (V.gr j) rfl rfl,.k (fun q =>#[.slice p2 (dl (x2)) n2,.slice p1 (dl (x1)) n1,.slice (qc 0).1 (dl (P)) (qc 0).2]) fun q U d D=>RtW.of_n (sm_any (Sx2.gr (j.trans d)) (Sx1.gr (j.trans d)) ((HQ 0).gr (j.trans d)) lx2 lx1 hd ht2),.m 6,⟨⟩⟩ fun J v6 d aq=>?_;simp only[fzw];have ac:=aq 7;clear aq;replace j:=j.trans d;have C:=d;clear d
 go_upto_region 14 with fail
 refine wp_wS [.c (.slice (J 7 0).1 (dl (t2)) (J 7 0).2),.c (pv (w.heap.size) 1),.c (.slice (qc 0).1 (dl (P)) (qc 0).2),.nb (iv) true,.nb (iv) true,.n (iv),.T,.n (iv),.T] [2,3,4,5,6,7] ⟨.o 29 1 (V.gr j) rfl rfl,.k (fun q =>#[.slice (J 7 0).1 (dl (t2)) (J 7 0).2,.slice (qc 0).1 (dl (P)) (qc 0).2]) fun q U d D=>RtW.of_nb (iv_any (ac.gr d) ((HQ 0).gr (j.trans d)) az hd h1P liv hiv),.m 3,.m 4,.m 4,.m 5,⟨⟩⟩ fun K v7 d ar=>?_;simp only[fzw];have ae:=ar 7;clear ar;replace j:=j.trans d;replace C:=C.trans d;have S:=d;clear d
 go_upto_region 15 with fail
 refine wp_wS [.c (.slice (I 7 0).1 (dl (t1)) (I 7 0).2),.c (.slice (K 7 0).1 (dl (iv)) (K 7 0).2),.c (pv (w.heap.size) 1),.c (.slice (qc 0).1 (dl (P)) (qc 0).2),.n (t3),.n (t3)] [3,4,5] ⟨.o 29 1 (V.gr j) rfl rfl,.k (fun q =>#[.slice (I 7 0).1 (dl (t1)) (I 7 0).2,.slice (K 7 0).1 (dl (iv)) (K 7 0).2,.slice (qc 0).1 (dl (P)) (qc 0).2]) fun q U d D=>RtW.of_n (mm_any (ab.gr (C.trans d)) (ae.gr d) ((HQ 0).gr (j.trans d)) ay liv hd ht3),.m 4,⟨⟩⟩ fun l v8 d au=>?_;simp only[fzw];have H:=au 5;clear au;replace j:=j.trans d;replace C:=C.trans d;replace S:=S.trans d;have W:=d;clear d
 go_upto_region 16 with fail
 refine wp_w [.c (.slice (l 5 0).1 (dl (t3)) (l 5 0).2),.c (.slice (l 5 0).1 (dl (t3)) (l 5 0).2),.c (pv (w.heap.size) 1),.c (.slice (qc 0).1 (dl (P)) (qc 0).2),.n (t4),.c (pv (w.heap.size+1) 0),.c (.slice p1 (dl (x1)) n1),.c (pv (w.heap.size) 1),.c (.slice (qc 0).1 (dl (P)) (qc 0).2),.n (t5),.c (pv (w.heap.size+1+1) 0),.c (.slice p2 (dl (x2)) n2),.c (pv (w.heap.size) 1),.c (.slice (qc 0).1 (dl (P)) (qc 0).2),.n (t6),.n (t6)] [3,4,6,8,9,11,13,14,15] ⟨.o 29 1 (V.gr j) rfl rfl,.k (fun q =>#[.slice (l 5 0).1 (dl (t3)) (l 5 0).2,.slice (l 5 0).1 (dl (t3)) (l 5 0).2,.slice (qc 0).1 (dl (P)) (qc 0).2]) fun q U d D=>RtW.of_n (mm_any (H.gr d) (H.gr d) ((HQ 0).gr (j.trans d)) aa aa hd ht4),.o 29 0 (c2.gr j) rfl rfl,.o 29 1 (V.gr j) rfl rfl,.k (fun q =>#[.slice (q 4 0).1 (dl (t4)) (q 4 0).2,.slice p1 (dl (x1)) n1,.slice (qc 0).1 (dl (P)) (qc 0).2]) fun q U d D=>RtW.of_n (sm_any (D 4 rfl) (Sx1.gr (j.trans d)) ((HQ 0).gr (j.trans d)) ai lx1 hd ht5),.o 29 0 (c3.gr j) rfl rfl,.o 29 1 (V.gr j) rfl rfl,.k (fun q =>#[.slice (q 9 0).1 (dl (t5)) (q 9 0).2,.slice p2 (dl (x2)) n2,.slice (qc 0).1 (dl (P)) (qc 0).2]) fun q U d D=>RtW.of_n (sm_any (D 9 rfl) (Sx2.gr (j.trans d)) ((HQ 0).gr (j.trans d)) aj lx2 hd ht6),.m 14,⟨⟩⟩ fun x v9 d av=>?_;simp only[fzw];have L:=av 15;clear av;replace j:=j.trans d;replace C:=C.trans d;replace S:=S.trans d;replace W:=W.trans d;have af:=d;clear d
 go_upto_region 17 with fail
 refine wp_w [.c (.slice (l 5 0).1 (dl (t3)) (l 5 0).2),.c (pv (w.heap.size+1) 0),.c (.slice p1 (dl (x1)) n1),.c (.slice (x 15 0).1 (dl (t6)) (x 15 0).2),.c (pv (w.heap.size) 1),.c (.slice (qc 0).1 (dl (P)) (qc 0).2),.n (t7),.c (pv (w.heap.size) 1),.c (.slice (qc 0).1 (dl (P)) (qc 0).2),.n (t8),.c (pv (w.heap.size+1) 1),.c (.slice q1 (dl (y1)) m1),.c (pv (w.heap.size) 1),.c (.slice (qc 0).1 (dl (P)) (qc 0).2),.n (t9),.n (t9)] [2,5,6,8,9,11,13,14,15] ⟨.o 29 0 (c2.gr j) rfl rfl,.o 29 1 (V.gr j) rfl rfl,.k (fun q =>#[.slice p1 (dl (x1)) n1,.slice (x 15 0).1 (dl (t6)) (x 15 0).2,.slice (qc 0).1 (dl (P)) (qc 0).2]) fun q U d D=>RtW.of_n (sm_any (Sx1.gr (j.trans d)) (L.gr d) ((HQ 0).gr (j.trans d)) lx1 ak hd ht7),.o 29 1 (V.gr j) rfl rfl,.k (fun q =>#[.slice (l 5 0).1 (dl (t3)) (l 5 0).2,.slice (q 6 0).1 (dl (t7)) (q 6 0).2,.slice (qc 0).1 (dl (P)) (qc 0).2]) fun q U d D=>RtW.of_n (mm_any (H.gr (af.trans d)) (D 6 rfl) ((HQ 0).gr (j.trans d)) aa aA hd ht8),.o 29 1 (c2.gr j) rfl rfl,.o 29 1 (V.gr j) rfl rfl,.k (fun q =>#[.slice (q 9 0).1 (dl (t8)) (q 9 0).2,.slice q1 (dl (y1)) m1,.slice (qc 0).1 (dl (P)) (qc 0).2]) fun q U d D=>RtW.of_n (sm_any (D 9 rfl) (Sy1.gr (j.trans d)) ((HQ 0).gr (j.trans d)) ao ly1 hd ht9),.m 14,⟨⟩⟩ fun Q aJ d aw=>?_;simp only[fzw];have Z:=aw 15;clear aw;replace j:=j.trans d;replace C:=C.trans d;replace S:=S.trans d;replace W:=W.trans d;replace af:=af.trans d;have aB:=d;clear d
 go_upto_region 18 with fail
 refine wp_wTS 3 [.c (.slice (x 15 0).1 (dl (t6)) (x 15 0).2),.c (.slice (Q 15 0).1 (dl (t9)) (Q 15 0).2),.pt (t6) (t9) false] [2] ⟨.p (fun q i=>match i with|0=>((x 15 0).1,(x 15 0).2)|_=>((Q 15 0).1,(Q 15 0).2)) fun q U d D=>⟨(L.gr (aB.trans d)),(Z.gr d)⟩,⟨⟩⟩ (.s 44 (fun q=>pv (w.heap.size+1+1+1) 0) (fun q=>.agg (ptA (q 2 0).1 (t6) (q 2 0).2 (q 2 1).1 (t9) (q 2 1).2 false)) fun R aC d ax=>?_);have HT:=((c4.gr j).gr d).h;have FT:=((c4.gr j).gr d).f;refine⟨setBlk aC (w.heap.size+1+1+1) (ptA (R 2 0).1 (t6) (R 2 0).2 (R 2 1).1 (t9) (R 2 1).2 false),by simp[go_sem,exI,HT,FT],?_⟩;simp only[fzw];obtain⟨ag,ah⟩:=ax 2;clear ax;replace j:=j.trans d;replace G:=G.trans j
 go_wp2_with fail
 exact bo1 results45 (rd_pt _ _ _ _ _ _ _ (by rfl) (blk_setBlk _ _ _ (by rw[HT];decide))) ⟨_,rfl,⟨_,_,_,_,rfl,Sl.set ag (by rw[HT];exact ptA_no _ _ _ _ _ _ _),Sl.set ah (by rw[HT];exact ptA_no _ _ _ _ _ _ _)⟩,gr_setNew G (by omega)⟩
end
end
section
def ex{p:Nat}:Option (Fin p×Fin p)→Nat
 | none=>0
 | some q=>q.1.val
def ey{p:Nat}:Option (Fin p×Fin p)→Nat
 | none=>0
 | some q=>q.2.val
def ef{p:Nat}:Option (Fin p×Fin p)→Bool
 | none=>true
 | some _=>false
theorem subM_val{p:Nat}(a b:Fin p):subM a.val b.val p=(a-b).val:=by
 have h:(a-b).val=(p-b.val+a.val)%p:=Fin.sub_def a b▸rfl;rw[h];unfold subM
 split
 ·rw[show p-b.val+a.val=a.val-b.val+p by omega,Nat.add_mod_right,Nat.mod_eq_of_lt (by omega)]
 ·rw[Nat.mod_eq_of_lt (by omega)];omega
theorem one_val{p:Nat}[NeZero p](h:1<p):(1:Fin p).val=1:=by
 exact Nat.mod_eq_of_lt h
theorem inv_val{p:Nat}[NeZero p](h:1<p){a b:Fin p}(e:b*a=1):a.val*b.val%p=1:=by
 rw[Nat.mul_comm,←Fin.val_mul,e,one_val h]
section
variable {P:Nat} [NeZero P] {i:Fin P→Fin P} {A B:Fin P}
theorem rplus_any(C:EC.Cur i A B)(hd:dl P≤400)(id:Int)(N X Y:Nat)(qc:Nat→Option Addr×Nat)(Q1 Q2:Option (Fin P×Fin P))(p1 q1:Option Addr)(n1 m1:Nat)(p2 q2:Option Addr)(n2 m2:Nat)(w:World)(HQ:∀k,Sl w (qc k).1 (six P A.val B.val N X Y k))(Sx1:Sl w p1 (ex Q1))(Sy1:Sl w q1 (ey Q1))(Sx2:Sl w p2 (ex Q2))(Sy2:Sl w q2 (ey Q2)):
 Calls prog 45 #[.agg (crA id (six P A.val B.val N X Y) qc),.agg (ptA p1 (ex Q1) n1 q1 (ey Q1) m1 (ef Q1)),.agg (ptA p2 (ex Q2) n2 q2 (ey Q2) m2 (ef Q2))] w
  (Rt (.pt (ex (EC.pl i A Q1 Q2)) (ey (EC.pl i A Q1 Q2)) (ef (EC.pl i A Q1 Q2))) w):=by
 have d:=C.pr.1
 match Q1,Q2,Sx1,Sy1,Sx2,Sy2 with
 | none,Q2,Sx1,Sy1,Sx2,Sy2=>exact rplus_inf1 id P A.val B.val N X Y qc 0 0 (ex Q2) (ey Q2) (ef Q2) p1 q1 n1 m1 p2 q2 n2 m2 w HQ Sx1 Sy1 Sx2 Sy2
 | some (x1,y1),none,Sx1,Sy1,Sx2,Sy2=>exact rplus_inf2 id P A.val B.val N X Y qc x1.val y1.val 0 0 p1 q1 n1 m1 p2 q2 n2 m2 w HQ Sx1 Sy1 Sx2 Sy2
 | some (x1,y1),some (x2,y2),Sx1,Sy1,Sx2,Sy2=>
  by_cases hx:x1=x2
  ·subst hx
   by_cases hy:y1=y2
   ·subst hy
    by_cases h0:y1=0
    ·subst h0
     have e:EC.pl i A (some (x1,0)) (some (x1,0))=none:=by simp[EC.pl]
     rw[e];have f:=Fin.val_zero P;have:=rplus_flat id P A.val B.val N X Y qc x1.val hd x1.isLt p1 q1 n1 m1 p2 q2 n2 m2 w HQ Sx1 (by have:=Sy1;simp only[ey,f]at this;exact this) Sx2 (by have:=Sy2;simp only[ey,f]at this;exact this);simp only[ex,ey,ef,f];exact this
    ·have j:y1+y1≠0:=fun h=>h0 (C.dbl h)
     have e:EC.pl i A (some (x1,y1)) (some (x1,y1))=some (EC.sx ((x1*x1+(x1*x1+x1*x1)+A)*i (y1+y1)) x1 x1,EC.sy ((x1*x1+(x1*x1+x1*x1)+A)*i (y1+y1)) x1 y1 (EC.sx ((x1*x1+(x1*x1+x1*x1)+A)*i (y1+y1)) x1 x1)):=by simp[EC.pl,h0]
     rw[e]
     exact rplus_dbl id P A.val B.val N X Y qc x1.val y1.val hd x1.isLt y1.isLt A.isLt (fun h=>h0 (Fin.ext (h.trans (Fin.val_zero P).symm))) d p1 q1 n1 m1 p2 q2 n2 m2 (i (y1+y1)).val _ (Fin.val_mul x1 x1).symm _ (Fin.val_add _ _).symm _ (Fin.val_add _ _).symm _ (Fin.val_add _ _).symm _ (Fin.val_add y1 y1).symm
      _ (Fin.val_mul _ _).symm _ (Fin.val_mul _ _).symm _ (subM_val _ _) _ (subM_val _ _) _ (subM_val _ _) _ (Fin.val_mul _ _).symm _ (subM_val _ _) (i (y1+y1)).isLt (inv_val d (C.inv _ j)) w HQ Sx1 Sy1 Sx2 Sy2
   ·have e:EC.pl i A (some (x1,y1)) (some (x1,y2))=none:=by simp[EC.pl,hy]
    rw[e];exact rplus_op id P A.val B.val N X Y qc x1.val y1.val y2.val hd x1.isLt y1.isLt y2.isLt (fun h=>hy (Fin.ext h)) p1 q1 n1 m1 p2 q2 n2 m2 w HQ Sx1 Sy1 Sx2 Sy2
  ·have j:x2-x1≠0:=fun h=>hx (EC.sub_zero_of h).symm
   have e:EC.pl i A (some (x1,y1)) (some (x2,y2))=some (EC.sx ((y2-y1)*i (x2-x1)) x1 x2,EC.sy ((y2-y1)*i (x2-x1)) x1 y1 (EC.sx ((y2-y1)*i (x2-x1)) x1 x2)):=by simp[EC.pl,hx]
   rw[e]
   exact rplus_add id P A.val B.val N X Y qc x1.val y1.val x2.val y2.val hd x1.isLt y1.isLt x2.isLt y2.isLt (fun h=>hx (Fin.ext h)) d p1 q1 n1 m1 p2 q2 n2 m2 (i (x2-x1)).val _ (subM_val y2 y1) _ (subM_val x2 x1) _ (Fin.val_mul _ _).symm _ (Fin.val_mul _ _).symm _ (subM_val _ _) _ (subM_val _ _) _ (subM_val _ _) _ (Fin.val_mul _ _).symm _ (subM_val _ _)
    (i (x2-x1)).isLt (inv_val d (C.inv _ j)) w HQ Sx1 Sy1 Sx2 Sy2
theorem neg_val{p:Nat}[NeZero p](y:Fin p)(h:y≠0):p-y.val=(-y).val:=by
 grind
theorem rneg_any(hd:dl P≤400)(id:Int)(A B N X Y:Nat)(qc:Nat→Option Addr×Nat)(Q:Option (Fin P×Fin P))(p q:Option Addr)(n m:Nat)(w:World)(HQ:∀k,Sl w (qc k).1 (six P A B N X Y k))(Sx:Sl w p (ex Q))(Sy:Sl w q (ey Q)):
 Calls prog 24 #[.agg (crA id (six P A B N X Y) qc),.agg (ptA p (ex Q) n q (ey Q) m (ef Q))] w (Rt (.pt (ex (EC.ng Q)) (ey (EC.ng Q)) (ef (EC.ng Q))) w):=by
 match Q,Sx,Sy with
 | none,Sx,Sy=>exact rneg_inf id P A B N X Y qc 0 0 p q n m w HQ Sx Sy
 | some (x,y),Sx,Sy=>
  by_cases h0:y=0
  ·subst h0;have d:(0:Fin P).val=0:=Fin.val_zero P
   have f : -(0:Fin P)=0:=by grobner
   simp only[EC.ng,f,ex,ey,ef,d]at Sy ⊢;exact rneg_nought id P A B N X Y qc x.val p q n m w HQ Sx Sy
  ·exact rneg_ok id P A B N X Y qc x.val y.val p q n m _ hd (fun h=>h0 (Fin.ext (h.trans (Fin.val_zero P).symm))) y.isLt (neg_val y h0) w HQ Sx Sy
end
end
section
abbrev Q3:=Nat×Nat×Bool
def inf:Q3:=(0,0,true)
abbrev pnQ(Q:Q3):Array Value:=pnt Q.1 Q.2.1 Q.2.2
def OnQ(k:Nat)(Q:Q3):Prop:=onB k Q.1 Q.2.1 Q.2.2=true
def encQ{p:Nat}(Q:Option (Fin p×Fin p)):Q3:=(ex Q,ey Q,ef Q)
def decQ(p:Nat)[NeZero p](Q:Q3):Option (Fin p×Fin p):=cond Q.2.2 none (some (Fin.ofNat p Q.1,Fin.ofNat p Q.2.1))
theorem OnQ.cases{k:Nat}{Q:Q3}(h:OnQ k Q):Q=inf∨∃x y,Q=(x,y,false)∧x<pN k∧y<pN k∧y*y%pN k=rhN k x:=by
 obtain⟨x,y,f⟩:=Q
 cases f with
 | true=>
  simp only[OnQ,onB,if_true,Bool.and_eq_true,decide_eq_true_eq]at h;exact .inl (by rw[h.1,h.2];rfl)
 | false=>
  simp only[OnQ,onB,Bool.false_eq_true,if_false,Bool.and_eq_true,decide_eq_true_eq]at h;exact .inr ⟨x,y,rfl,h⟩
theorem enc_dec{k:Nat}[NeZero (pN k)]{Q:Q3}(h:OnQ k Q):encQ (decQ (pN k) Q)=Q:=by
 rcases h.cases with rfl|⟨x,y,rfl,hx,hy,-⟩
 ·rfl
 ·show (x%pN k,y%pN k,false)=(x,y,false)
  rw[Nat.mod_eq_of_lt hx,Nat.mod_eq_of_lt hy]
theorem dec3{k:Nat}[NeZero (pN k)]{P:Q3}(h:OnQ k P):ex (decQ (pN k) P)=P.1∧ey (decQ (pN k) P)=P.2.1∧ef (decQ (pN k) P)=P.2.2:=by
 have e:=enc_dec h;exact⟨congrArg (·.1) e,congrArg (·.2.1) e,congrArg (·.2.2) e⟩
theorem OnQ.lt{k:Nat}{Q:Q3}(h:OnQ k Q):Q.1<M∧Q.2.1<M:=by
 have d:=pN_M k
 rcases h.cases with rfl|⟨x,y,rfl,hx,hy,-⟩
 ·exact⟨M_pos,M_pos⟩
 ·exact⟨Nat.lt_trans hx d,Nat.lt_trans hy d⟩
section
variable {k:Nat} (h1:1≤k) (h2:k≤15) [NeZero (pN k)]
theorem on_iff(x y:Fin (pN k)):EC.OnC (EC.aF k h1 h2) (EC.bF k h1 h2) x y↔y.val*y.val%pN k=rhN k x.val:=by
 have e:x*x*x+EC.aF k h1 h2*x+EC.bF k h1 h2=(x*x+EC.aF k h1 h2)*x+EC.bF k h1 h2:=by grobner
 unfold EC.OnC;rw[e]
 constructor
 ·intro h;exact congrArg Fin.val h
 ·intro h;exact Fin.ext h
theorem on_dec{Q:Q3}(h:OnQ k Q):EC.On (EC.aF k h1 h2) (EC.bF k h1 h2) (decQ (pN k) Q):=by
 rcases h.cases with rfl|⟨x,y,rfl,hx,hy,e⟩
 ·trivial
 ·show EC.OnC _ _ (Fin.ofNat (pN k) x) (Fin.ofNat (pN k) y)
  rw[on_iff]
  show (y%pN k)*(y%pN k)%pN k=rhN k (x%pN k)
  rw[Nat.mod_eq_of_lt hx,Nat.mod_eq_of_lt hy,e]
theorem on_enc{R:Option (Fin (pN k)×Fin (pN k))}(h:EC.On (EC.aF k h1 h2) (EC.bF k h1 h2) R):OnQ k (encQ R):=by
 cases R with
 | none=>rfl
 | some q=>
  obtain⟨x,y⟩:=q;have d:=(on_iff h1 h2 x y).1 h
  show onB k x.val y.val false=true
  simp only[onB,Bool.false_eq_true,if_false,Bool.and_eq_true,decide_eq_true_eq];exact⟨x.isLt,y.isLt,d⟩
end
def plQ(k:Nat)(P Q:Q3):Q3:=if h:1≤k∧k≤15 then(haveI:=EC.nzP k h.1 h.2;encQ (EC.pl (EC.iP (pN k)) (EC.aF k h.1 h.2) (decQ (pN k) P) (decQ (pN k) Q))) else inf
def ngQ(k:Nat)(P:Q3):Q3:=if h:1≤k∧k≤15 then(haveI:=EC.nzP k h.1 h.2;encQ (EC.ng (decQ (pN k) P))) else inf
def mlQ(k n:Nat)(P:Q3):Q3:=if h:1≤k∧k≤15 then(haveI:=EC.nzP k h.1 h.2;encQ (EC.ml (EC.iP (pN k)) (EC.aF k h.1 h.2) n (decQ (pN k) P))) else inf
def gQ(k:Nat):Q3:=(xN k,yN k,false)
theorem ngQ_is{k:Nat}(h1:1≤k)(h2:k≤15)[NeZero (pN k)](P:Q3):ngQ k P=encQ (EC.ng (decQ (pN k) P)):=dif_pos ⟨h1,h2⟩
theorem mlQ_is{k:Nat}(h1:1≤k)(h2:k≤15)[NeZero (pN k)](n:Nat)(P:Q3):mlQ k n P=encQ (EC.ml (EC.iP (pN k)) (EC.aF k h1 h2) n (decQ (pN k) P)):=dif_pos ⟨h1,h2⟩
theorem gQ_on{k:Nat}(h1:1≤k)(h2:k≤15):OnQ k (gQ k):=gN_on k h1 h2
theorem ngQ_on{k:Nat}(h1:1≤k)(h2:k≤15){P:Q3}(hP:OnQ k P):OnQ k (ngQ k P):=by
 haveI:=EC.nzP k h1 h2
 rw[ngQ_is h1 h2];exact on_enc h1 h2 (EC.ng_on (on_dec h1 h2 hP))
theorem mlQ_on{k:Nat}(h1:1≤k)(h2:k≤15)(n:Nat){P:Q3}(hP:OnQ k P):OnQ k (mlQ k n P):=by
 haveI:=EC.nzP k h1 h2
 rw[mlQ_is h1 h2];exact on_enc h1 h2 (EC.ml_on (EC.curN k h1 h2) (on_dec h1 h2 hP) n)
end
section
attribute [local go_sem ↓] uz1
attribute [local go_sem] uz2
section
theorem nePn(x y:Nat)(f:Bool)(x' y':Nat)(f':Bool)(w:World):(binOp .neq 27 (.agg (pnt x y f)) (.agg (pnt x' y' f'))).run prog w=.ok (.bool (!(eqN 9 x x'&&(eqN 9 y y'&&(f==f'))))) w:=by
 rw[run_neq_struct,show (10000:Nat)=9996+4 from rfl,eqPnIn]
 rfl
theorem storePY(w:World)(b q:Nat)(hs:(blk w b).size=19)(hf:frz w b=(0,0)):(storeS 25 (.pointer (some ⟨b,9,none⟩)) (.agg (nw 9 q))).run prog w=.ok () (setBlk w b (setL (blk w b) 9 (nw 9 q).toList)):=by
 have d:w.there b 9 (nw 9 q).size:=fun j f=>by
  rw[nw_size]at f;exact⟨by rw[cell_blk,Array.getElem?_eq_getElem (by omega)];rfl,frz_at w b _ hf⟩
 simp only[storeS,Instr.storeAt,Instr.sureAddr,Sem.run_bind,Sem.run_pure,Result.andThen_ok];rw[run_storeVar_mid w b 9 25 (nw 9 q) d (by kernel_rfl) (nw_one 9 q),setCells_setBlk _ _ _ _ (by omega)]
theorem pnt_setY(x y q:Nat)(f:Bool):setL (pnt x y f) 9 (nw 9 q).toList=pnt x q f:=by kernel_rfl
theorem buildN0(w:World):(buildF 25 #[]).run prog w=.ok (.agg (nw 9 0)) w:=by kernel_rfl
theorem buildN_is(p:Array (Nat×Value)):Instr.build 25 p=buildF 25 p:=rfl
attribute [local go_sem] uz8
attribute [local go_sem ↓] uz11 Go.wp_at_zero Go.wp_at_succ
attribute [local go_sem] uz12
attribute [local go_sem ↓] buildN_is
attribute [local go_sem] storePY pnt_setY buildN0
end
section
attribute [local go_sem ↓] uz9 Go.wp_at_zero Go.wp_at_succ
attribute [local go_sem] uz10
theorem ron_inf(id:Int)(P A B N X Y:Nat)(qc:Nat→Option Addr×Nat)(x y:Nat)(p q:Option Addr)(n m:Nat)(w:World)(HQ:∀k,Sl w (qc k).1 (six P A B N X Y k))(Sx:Sl w p x)(Sy:Sl w q y):
 Cg 38 #[.agg (crA id (six P A B N X Y) qc),.agg (ptA p x n q y m true)] w (.bool (decide (x=0)&&decide (y=0))):=by
 go_enter func38,ntmps38
 go_upto_region 1 with fail
 refine gen_w (fun v=>Gr w v∧Vr v (w.heap.size) (crA id (six P A B N X Y) qc)∧Vr v (w.heap.size+1) (ptA p x n q y m true)) ⟨grA,vrA,vrA⟩ ?_;rintro J ⟨G,j,f⟩;replace HQ:=fun k=>(HQ k).gr G;replace Sx:=Sx.gr G;replace Sy:=Sy.gr G;refine wp_wS [.c (pv (w.heap.size+1) 2),.T] [1] ⟨.o 4 2 f rfl rfl,⟨⟩⟩ fun C l d D=>?_;simp only[fzw];clear D;replace G:=G.trans d;replace j:=j.gr d;replace f:=f.gr d;replace HQ:=fun k=>(HQ k).gr d;replace Sx:=Sx.gr d;replace Sy:=Sy.gr d;clear d
 have H:l.cell? ⟨w.heap.size+1,0,none⟩=some (.slice p (dl x) n):=by rw[cell_blk,f.h];rfl
 have I:l.cell? ⟨w.heap.size+1,1,none⟩=some (.slice q (dl y) m):=by rw[cell_blk,f.h];rfl
 by_cases hx:x=0
 ·have i:=dl_nought x;rw[decide_eq_true hx]at i;have K:=dl_nought y
  go_wp2_with fail
  go_ret
  exact⟨by simp[hx],G⟩
 ·have i:=dl_nought x;rw[decide_eq_false hx]at i
  go_wp2_with fail
  go_ret
  exact⟨by simp[hx],G⟩
theorem ron_x(id:Int)(P A B N X Y:Nat)(qc:Nat→Option Addr×Nat)(x y:Nat)(p q:Option Addr)(n m:Nat)(hx4:dl x≤400)(hd:dl P≤400)(hx:P≤x)(w:World)(HQ:∀k,Sl w (qc k).1 (six P A B N X Y k))(Sx:Sl w p x)(Sy:Sl w q y):
 Cg 38 #[.agg (crA id (six P A B N X Y) qc),.agg (ptA p x n q y m false)] w (.bool false):=by
 obtain⟨i,ex⟩:=exl (cmpZ x P)
 have bx:decide (0≤i)=true:=by rw[←ex];unfold cmpZ;rw[if_neg (by omega)];split <;> decide
 go_enter func38,ntmps38
 go_upto_region 1 with fail
 refine gen_w (fun v=>Gr w v∧Vr v (w.heap.size) (crA id (six P A B N X Y) qc)∧Vr v (w.heap.size+1) (ptA p x n q y m false)) ⟨grA,vrA,vrA⟩ ?_;rintro J ⟨G,h,f⟩;replace HQ:=fun k=>(HQ k).gr G;replace Sx:=Sx.gr G;replace Sy:=Sy.gr G;refine wp_wS [.c (pv (w.heap.size+1) 2),.F] [1] ⟨.o 4 2 f rfl rfl,⟨⟩⟩ fun j K d l=>?_;simp only[fzw];clear l;replace G:=G.trans d;replace h:=h.gr d;replace f:=f.gr d;replace HQ:=fun k=>(HQ k).gr d;replace Sx:=Sx.gr d;replace Sy:=Sy.gr d;clear d
 go_upto_region 3 with fail
 refine wp_wS [.c (pv (w.heap.size+1) 0),.c (.slice p (dl (x)) n),.c (pv (w.heap.size) 1),.c (.slice (qc 0).1 (dl (P)) (qc 0).2),.c (.int .i64 i),.T,.T,.u,.u,.u,.u,.u,.u,.T] [1,3,4,5] ⟨.o 29 0 f rfl rfl,.o 29 1 h rfl rfl,.k (fun C =>#[.slice p (dl (x)) n,.slice (qc 0).1 (dl (P)) (qc 0).2]) fun C D d L=>RtW.of_c (cz_any (Sx.gr d) ((HQ 0).gr d) hx4 hd ex),.s (.binOp .geq 3 (.const (.int .i64 i)) (.const (.int .i64 0)) 3) rfl fun D d=>by simp[go_sem,exI,bx],⟨⟩⟩ fun H Q d I=>?_;simp only[fzw];clear I;replace G:=G.trans d;replace h:=h.gr d;replace f:=f.gr d;replace HQ:=fun k=>(HQ k).gr d;replace Sx:=Sx.gr d;replace Sy:=Sy.gr d;clear d
 go_wp2_with fail
 go_ret
 exact⟨rfl,G⟩
theorem ron_y(id:Int)(P A B N X Y:Nat)(qc:Nat→Option Addr×Nat)(x y:Nat)(p q:Option Addr)(n m:Nat)(hx4:dl x≤400)(hy4:dl y≤400)(hd:dl P≤400)(hx:x<P)(hy:P≤y)(w:World)(HQ:∀k,Sl w (qc k).1 (six P A B N X Y k))(Sx:Sl w p x)(Sy:Sl w q y):
 Cg 38 #[.agg (crA id (six P A B N X Y) qc),.agg (ptA p x n q y m false)] w (.bool false):=by
 obtain⟨i,ex⟩:=exl (cmpZ x P)
 have bx:decide (0≤i)=false:=by rw[←ex];unfold cmpZ;rw[if_pos hx];decide
 obtain⟨j,ey⟩:=exl (cmpZ y P)
 have l:decide (0≤j)=true:=by rw[←ey];unfold cmpZ;rw[if_neg (by omega)];split <;> decide
 go_enter func38,ntmps38
 go_upto_region 1 with fail
 refine gen_w (fun v=>Gr w v∧Vr v (w.heap.size) (crA id (six P A B N X Y) qc)∧Vr v (w.heap.size+1) (ptA p x n q y m false)) ⟨grA,vrA,vrA⟩ ?_;rintro Q ⟨G,h,f⟩;replace HQ:=fun k=>(HQ k).gr G;replace Sx:=Sx.gr G;replace Sy:=Sy.gr G;refine wp_wS [.c (pv (w.heap.size+1) 2),.F] [1] ⟨.o 4 2 f rfl rfl,⟨⟩⟩ fun H R d I=>?_;simp only[fzw];clear I;replace G:=G.trans d;replace h:=h.gr d;replace f:=f.gr d;replace HQ:=fun k=>(HQ k).gr d;replace Sx:=Sx.gr d;replace Sy:=Sy.gr d;clear d
 go_upto_region 3 with fail
 refine wp_wS [.c (pv (w.heap.size+1) 0),.c (.slice p (dl (x)) n),.c (pv (w.heap.size) 1),.c (.slice (qc 0).1 (dl (P)) (qc 0).2),.c (.int .i64 i),.F,.F,.c (pv (w.heap.size+1) 1),.c (.slice q (dl (y)) m),.c (pv (w.heap.size) 1),.c (.slice (qc 0).1 (dl (P)) (qc 0).2),.c (.int .i64 j),.T,.T] [1,3,4,5,8,10,11,12] ⟨.o 29 0 f rfl rfl,.o 29 1 h rfl rfl,.k (fun C =>#[.slice p (dl (x)) n,.slice (qc 0).1 (dl (P)) (qc 0).2]) fun C D d J=>RtW.of_c (cz_any (Sx.gr d) ((HQ 0).gr d) hx4 hd ex),.s (.binOp .geq 3 (.const (.int .i64 i)) (.const (.int .i64 0)) 3) rfl fun D d=>by simp[go_sem,exI,bx],.o 29 1 f rfl rfl,.o 29 1 h rfl rfl,.k (fun C =>#[.slice q (dl (y)) m,.slice (qc 0).1 (dl (P)) (qc 0).2]) fun C D d J=>RtW.of_c (cz_any (Sy.gr d) ((HQ 0).gr d) hy4 hd ey),.s (.binOp .geq 3 (.const (.int .i64 j)) (.const (.int .i64 0)) 3) rfl fun D d=>by simp[go_sem,exI,l],⟨⟩⟩ fun K S d L=>?_;simp only[fzw];clear L;replace G:=G.trans d;replace h:=h.gr d;replace f:=f.gr d;replace HQ:=fun k=>(HQ k).gr d;replace Sx:=Sx.gr d;replace Sy:=Sy.gr d;clear d
 go_wp2_with fail
 go_ret
 exact⟨rfl,G⟩
theorem ron_ok(id:Int)(P A B N X Y:Nat)(qc:Nat→Option Addr×Nat)(x y:Nat)(p q:Option Addr)(n m:Nat)(hx4:dl x≤400)(hy4:dl y≤400)(hd:dl P≤400)(lx:x<P)(ly:y<P)(lA:A<P)(lB:B<P)(w:World)(HQ:∀k,Sl w (qc k).1 (six P A B N X Y k))(Sx:Sl w p x)(Sy:Sl w q y):
 Cg 38 #[.agg (crA id (six P A B N X Y) qc),.agg (ptA p x n q y m false)] w (.bool (decide (y*y%P=((x*x%P+A)%P*x%P+B)%P))):=by
 have Q:0<P:=by omega
 obtain⟨I,ex⟩:=exl (cmpZ x P)
 have bx:decide (0≤I)=false:=by rw[←ex];unfold cmpZ;rw[if_pos lx];decide
 obtain⟨J,ey⟩:=exl (cmpZ y P)
 have K:decide (0≤J)=false:=by rw[←ey];unfold cmpZ;rw[if_pos ly];decide
 obtain⟨H,j⟩:=exl (y*y%P);have V:H<P:=j▸Nat.mod_lt _ Q;obtain⟨R,l⟩:=exl (((x*x%P+A)%P*x%P+B)%P);have lR:R<P:=l▸Nat.mod_lt _ Q;rw[l,j];obtain⟨L,S⟩:=exl (cmpZ H R);obtain⟨r,U⟩:=exl (decide (H=R))
 have bz:(L==0)=r:=by rw[←S,←U];exact cmpZ_nought _ _
 rw[U]
 go_enter func38,ntmps38
 go_upto_region 1 with fail
 refine gen_w (fun v=>Gr w v∧Vr v (w.heap.size) (crA id (six P A B N X Y) qc)∧Vr v (w.heap.size+1) (ptA p x n q y m false)) ⟨grA,vrA,vrA⟩ ?_;rintro v0 ⟨G,i,h⟩;replace HQ:=fun k=>(HQ k).gr G;replace Sx:=Sx.gr G;replace Sy:=Sy.gr G;refine wp_wS [.c (pv (w.heap.size+1) 2),.F] [1] ⟨.o 4 2 h rfl rfl,⟨⟩⟩ fun W v1 d Z=>?_;simp only[fzw];clear Z;replace G:=G.trans d;replace i:=i.gr d;replace h:=h.gr d;replace HQ:=fun k=>(HQ k).gr d;replace Sx:=Sx.gr d;replace Sy:=Sy.gr d;clear d
 go_upto_region 3 with fail
 refine wp_wS [.c (pv (w.heap.size+1) 0),.c (.slice p (dl (x)) n),.c (pv (w.heap.size) 1),.c (.slice (qc 0).1 (dl (P)) (qc 0).2),.c (.int .i64 I),.F,.F,.c (pv (w.heap.size+1) 1),.c (.slice q (dl (y)) m),.c (pv (w.heap.size) 1),.c (.slice (qc 0).1 (dl (P)) (qc 0).2),.c (.int .i64 J),.F,.F] [1,3,4,5,8,10,11,12] ⟨.o 29 0 h rfl rfl,.o 29 1 i rfl rfl,.k (fun f =>#[.slice p (dl (x)) n,.slice (qc 0).1 (dl (P)) (qc 0).2]) fun f C d D=>RtW.of_c (cz_any (Sx.gr d) ((HQ 0).gr d) hx4 hd ex),.s (.binOp .geq 3 (.const (.int .i64 I)) (.const (.int .i64 0)) 3) rfl fun C d=>by simp[go_sem,exI,bx],.o 29 1 h rfl rfl,.o 29 1 i rfl rfl,.k (fun f =>#[.slice q (dl (y)) m,.slice (qc 0).1 (dl (P)) (qc 0).2]) fun f C d D=>RtW.of_c (cz_any (Sy.gr d) ((HQ 0).gr d) hy4 hd ey),.s (.binOp .geq 3 (.const (.int .i64 J)) (.const (.int .i64 0)) 3) rfl fun C d=>by simp[go_sem,exI,K],⟨⟩⟩ fun aa v2 d h3=>?_;simp only[fzw];clear h3;replace G:=G.trans d;replace i:=i.gr d;replace h:=h.gr d;replace HQ:=fun k=>(HQ k).gr d;replace Sx:=Sx.gr d;replace Sy:=Sy.gr d;clear d
 go_upto_region 5 with fail
 refine wp_w [.c (pv (w.heap.size+1) 1),.c (.slice q (dl (y)) m),.c (pv (w.heap.size+1) 1),.c (.slice q (dl (y)) m),.c (pv (w.heap.size) 1),.c (.slice (qc 0).1 (dl (P)) (qc 0).2),.n (H),.c (.agg (crA id (six P A B N X Y) qc)),.c (pv (w.heap.size+1) 0),.c (.slice p (dl (x)) n),.n (R),.c (.int .i64 L),.c (.bool r),.c (.bool r)] [1,3,5,6,7,9,10,11,12] ⟨.o 29 1 h rfl rfl,.o 29 1 h rfl rfl,.o 29 1 i rfl rfl,.k (fun f =>#[.slice q (dl (y)) m,.slice q (dl (y)) m,.slice (qc 0).1 (dl (P)) (qc 0).2]) fun f C d D=>RtW.of_n (mm_any (Sy.gr d) (Sy.gr d) ((HQ 0).gr d) ly ly hd j),.g 31 0 i rfl,.o 29 0 h rfl rfl,.k (fun f =>#[.agg (crA id (six P A B N X Y) qc),.slice p (dl (x)) n]) fun f C d D=>RtW.of_n (Rt.n (l▸rright_any id P A B N X Y qc x _ _ lx lA lB hd _ (fun k=>(HQ k).gr d) (Sx.gr d))),.k (fun f =>#[.slice (f 6 0).1 (dl (H)) (f 6 0).2,.slice (f 10 0).1 (dl (R)) (f 10 0).2]) fun f C d D=>RtW.of_c (cz_any (D 6 rfl) (D 10 rfl) (dl_low _ P 400 (by omega) hd) (dl_low _ P 400 (by omega) hd) S),.s (.binOp .eql 3 (.const (.int .i64 L)) (.const (.int .i64 0)) 3) rfl fun C d=>by simp[go_sem,exI,bz],⟨⟩⟩ fun ab v3 d h5=>?_;simp only[fzw];clear h5;replace G:=G.trans d;replace i:=i.gr d;replace h:=h.gr d;replace HQ:=fun k=>(HQ k).gr d;replace Sx:=Sx.gr d;replace Sy:=Sy.gr d;clear d
 go_wp2_with fail
 go_ret
 exact⟨rfl,G⟩
end
section
attribute [local go_sem ↓] uz9 Go.wp_at_zero Go.wp_at_succ
attribute [local go_sem] uz10
attribute [local go_sem] frz_setBlk blk_setBlk setBlk_setBlk
section
variable {P:Nat} [NeZero P] {i:Fin P→Fin P} {A B:Fin P}
theorem rtimes_any(C:EC.Cur i A B)(hd:dl P≤400)(id:Int)(N X Y:Nat)(qc:Nat→Option Addr×Nat)(k nk:Nat)(pk:Option Addr)(hk:dl k≤400)(Q:Option (Fin P×Fin P))(hQ:EC.On A B Q)(p q:Option Addr)(n m:Nat)(w:World)(HQ:∀k,Sl w (qc k).1 (six P A.val B.val N X Y k))(Sk:Sl w pk k)(Sx:Sl w p (ex Q))(Sy:Sl w q (ey Q)):
 Calls prog 19 #[.agg (crA id (six P A.val B.val N X Y) qc),.slice pk (dl k) nk,.agg (ptA p (ex Q) n q (ey Q) m (ef Q))] w (Rt (.pt (ex (EC.ml i A k Q)) (ey (EC.ml i A k Q)) (ef (EC.ml i A k Q))) w):=by
 obtain⟨L,hL⟩:=exl (bl k)
 have az:(L:Int)≤12800:=by
  have:(bl k+31)/32≤400:=hk
  omega
 have aA:(0:Int)≤L:=by omega
 have HB:Hid _:=fun w' g=>hL▸rbits_any k nk pk w' (Sk.gr g) (by omega);have HZ:Hu (k/2^L=0):=fun _=>Nat.div_eq_of_lt (hL▸(bl_le k (bl k)).1 (Nat.le_refl _))
 have ax:Hu (L≤12800):=fun _=>by omega
 clear hL
 go_enter func19,ntmps19
 go_upto_region 3 with (go_at_call 44;refine(HB.out _ grA).mono ?_;rintro e w' ⟨rfl,rfl⟩)
 obtain⟨V,ak⟩:=exl (w.heap.size+1+1+1);simp only[ak]
 refine gen_w (fun v=>Hid (Gr w v∧Vr v (w.heap.size) (crA id (six P A.val B.val N X Y) qc)∧Vr v (w.heap.size+1) (ptA p (ex Q) n q (ey Q) m (ef Q))∧Vr v (w.heap.size+1+1) (ptA none 0 0 none 0 0 false)∧Vr v V (ptA none 0 0 none 0 0 true))) ?_ ?_
 ·subst ak;exact⟨grA,⟨by simp[go_sem],by simp[go_sem],by simp[go_sem]⟩,⟨by simp[go_sem],by simp[go_sem],by simp[go_sem]⟩,⟨by simp[go_sem],by simp[go_sem],by simp[go_sem]⟩,⟨by simp[go_sem],by simp[go_sem],by simp[go_sem]⟩⟩
 intro v0 HV
 have ab:V≠w.heap.size:=by omega
 have ac:V≠w.heap.size+1:=by omega
 have ae:V≠w.heap.size+1+1:=by omega
 have ah:w.heap.size≤V:=by omega
 have HN:Hu (V≠w.heap.size∧V≠w.heap.size+1∧V≠w.heap.size+1+1∧w.heap.size≤V):=fun _=>⟨ab,ac,ae,ah⟩;clear ak ab ac ae ah HB
 go_loopw [8] (fun ia wr=>∃(j:Nat) (po:Option Addr) (no:Nat) (qo:Option Addr) (mo:Nat),ia=.int .i64 ((j:Int)-1)∧Hu (j≤L)∧Hid (Gr w wr∧Vr wr (w.heap.size) (crA id (six P A.val B.val N X Y) qc)∧Vr wr (w.heap.size+1) (ptA p (ex Q) n q (ey Q) m (ef Q))∧Vr wr (w.heap.size+1+1) (ptA none 0 0 none 0 0 false)∧Vr wr V (ptA po (ex (EC.ml i A (k/2^j) Q)) no qo (ey (EC.ml i A (k/2^j) Q)) mo (ef (EC.ml i A (k/2^j) Q)))∧Sl wr po (ex (EC.ml i A (k/2^j) Q))∧Sl wr qo (ey (EC.ml i A (k/2^j) Q)))) (fun ia _=>(intOf ia+1).toNat)
 case atStart=>
  refine⟨L,none,0,none,0,rfl,fun _=>Nat.le_refl _,?_⟩;rw[HZ.out ()];obtain⟨h1,h2,h3,h4,h5⟩:=HV.out;exact⟨h1,h2,h3,h4,h5,Sl.zero _ _,Sl.zero _ _⟩
 case round=>
  obtain⟨j,po,no,qo,mo,rfl,HJ,HR⟩:=hrel
  by_cases hpos:0<j
  ·obtain⟨I,rfl⟩:∃i,j=i+1:=⟨j-1,by omega⟩
   have e1:(((I+1:Nat):Int)-1)=(I:Int):=by omega
   rw[e1]
   have j0:(0:Int)≤I:=by omega
   have j1:(I:Int)<12800:=by have:=HJ.out ();have:=ax.out ();omega
   have ar:I≤L:=by have:=HJ.out ();omega
   obtain⟨R,hR⟩:=exl (EC.ml i A (k/2^(I+1)) Q);obtain⟨x,ao⟩:=exl (EC.pl i A R R);obtain⟨R2,au⟩:=exl (EC.pl i A x Q);rw[hR]at HR;obtain⟨G,U,W,Z,J,So,To⟩:=HR.out;obtain⟨ab,ac,ae,ah⟩:=HN.out ();replace HQ:=fun k=>(HQ k).gr G;replace Sk:=Sk.gr G;replace Sx:=Sx.gr G;replace Sy:=Sy.gr G
   have af:∀b,k/2^I%2=b→k/2^I=k/2^(I+1)+k/2^(I+1)+b:=fun b hb=>by
    rw[Nat.pow_succ,←Nat.div_div_eq_div_mul];omega
   have ai:EC.ml i A (k/2^(I+1)+k/2^(I+1)) Q=x:=by rw[EC.ml_add C hQ,hR,ao]
   have aj:=fun w' (s:Sl w' pk k)=>rbit_any k nk I pk w' s (by omega);clear HV HR HJ hpos e1
   obtain hb|hb:k/2^I%2=0∨k/2^I%2=1:=by omega
   ·have ap:x=EC.ml i A (k/2^I) Q:=by rw[af 0 hb,Nat.add_zero,ai]
    have ag:∀w',Sl w' pk k→Calls prog 39 #[.slice pk (dl k) nk,.int .i64 I] w' fun e aq=>e=.returned (.int .i64 0)∧aq=w':=fun w' s=>by
     have:=aj w' s;rw[show bitN k I=0 from hb]at this;exact this
    clear hb ai af aj
    go_upto_region 5 with fail
    refine wp_wTS 4 [.c (.agg (crA id (six P A.val B.val N X Y) qc)),.c (.agg (ptA po (ex R) no qo (ey R) mo (ef R))),.c (.agg (ptA po (ex R) no qo (ey R) mo (ef R))),.pt (ex x) (ey x) (ef x)] [0,1,2,3] ⟨.g 31 0 U rfl,.g 44 0 J rfl,.g 44 0 J rfl,.k (fun K =>#[.agg (crA id (six P A.val B.val N X Y) qc),.agg (ptA po (ex R) no qo (ey R) mo (ef R)),.agg (ptA po (ex R) no qo (ey R) mo (ef R))]) fun K vv d hh=>RtW.of_pt (ao▸rplus_any C hd id N X Y qc R R po qo no mo po qo no mo _ (fun k=>(HQ k).gr d) (So.gr d) (To.gr d) (So.gr d) (To.gr d)),⟨⟩⟩ (.s 44 (fun K=>pv V 0) (fun K=>.agg (ptA (K 3 0).1 (ex x) (K 3 0).2 (K 3 1).1 (ey x) (K 3 1).2 (ef x))) fun l v1 d h5=>?_);have S:=(J.gr d).h;have FT:=(J.gr d).f;refine⟨setBlk v1 (V) (ptA (l 3 0).1 (ex x) (l 3 0).2 (l 3 1).1 (ey x) (l 3 1).2 (ef x)),by simp[go_sem,exI,S,FT],?_⟩;simp only[fzw];obtain⟨D,H⟩:=h5 3;clear h5;replace G:=G.trans d;replace U:=U.gr d;replace W:=W.gr d;replace Z:=Z.gr d;replace J:=J.gr d;replace HQ:=fun k=>(HQ k).gr d;replace Sk:=Sk.gr d;replace Sx:=Sx.gr d;replace Sy:=Sy.gr d;replace So:=So.gr d;replace To:=To.gr d;clear d
    go_upto_region 6 with fail
    refine gen_w (fun u=>Gr w u∧Vr u (w.heap.size) (crA id (six P A.val B.val N X Y) qc)∧Vr u (w.heap.size+1) (ptA p (ex Q) n q (ey Q) m (ef Q))∧Vr u (w.heap.size+1+1) (ptA none 0 0 none 0 0 false)∧Vr u (V) (ptA (l 3 0).1 (ex x) (l 3 0).2 (l 3 1).1 (ey x) (l 3 1).2 (ef x))∧(∀k,Sl u (qc k).1 (six P A.val B.val N X Y k))∧Sl u pk (k)∧Sl u p (ex Q)∧Sl u q (ey Q)∧Sl u (l 3 0).1 (ex x)∧Sl u (l 3 1).1 (ey x)) ⟨gr_setNew G (by omega),U.other (ab),W.other (ac),Z.other (ae),J.set (by rw[ptA_size];decide) _,fun k=>Sl.set (HQ k) (by rw[S];exact ptA_no _ _ _ _ _ _ _),Sl.set Sk (by rw[S];exact ptA_no _ _ _ _ _ _ _),Sl.set Sx (by rw[S];exact ptA_no _ _ _ _ _ _ _),Sl.set Sy (by rw[S];exact ptA_no _ _ _ _ _ _ _),Sl.set D (by rw[S];exact ptA_no _ _ _ _ _ _ _),Sl.set H (by rw[S];exact ptA_no _ _ _ _ _ _ _)⟩ ?_;clear S FT;rintro u5 ⟨G,U,W,Z,J,HQ,Sk,Sx,Sy,D,H⟩;refine wp_wS [.c (.slice pk (dl (k)) nk),.c (.int .i64 I),.O,.F] [2] ⟨.k (fun K =>#[.slice pk (dl (k)) nk,.int .i64 I]) fun K vv d hh=>RtW.of_c (Rt.same (ag _ (Sk.gr d))),⟨⟩⟩ fun ay v2 d h6=>?_;simp only[fzw];clear h6;replace G:=G.trans d;replace U:=U.gr d;replace W:=W.gr d;replace Z:=Z.gr d;replace J:=J.gr d;replace HQ:=fun k=>(HQ k).gr d;replace Sk:=Sk.gr d;replace Sx:=Sx.gr d;replace Sy:=Sy.gr d;replace D:=D.gr d;replace H:=H.gr d;clear d
    go_wp2_with fail
    go_roundw
    case rel=>
     refine⟨I,(l 3 0).1,(l 3 0).2,(l 3 1).1,(l 3 1).2,by simp,fun _=>ar,?_⟩;rw[←ap];exact⟨G,U,W,Z,J,D,H⟩
    case measure=>simp[intOf]
   ·have ap:R2=EC.ml i A (k/2^I) Q:=by
     rw[af 1 hb]
     show R2=EC.pl i A (EC.ml i A (k/2^(I+1)+k/2^(I+1)) Q) Q
     rw[ai,au]
    have ag:∀w',Sl w' pk k→Calls prog 39 #[.slice pk (dl k) nk,.int .i64 I] w' fun e aq=>e=.returned (.int .i64 1)∧aq=w':=fun w' s=>by
     have:=aj w' s;rw[show bitN k I=1 from hb]at this;exact this
    clear hb ai af aj
    go_upto_region 5 with fail
    refine wp_wTS 4 [.c (.agg (crA id (six P A.val B.val N X Y) qc)),.c (.agg (ptA po (ex R) no qo (ey R) mo (ef R))),.c (.agg (ptA po (ex R) no qo (ey R) mo (ef R))),.pt (ex x) (ey x) (ef x)] [0,1,2,3] ⟨.g 31 0 U rfl,.g 44 0 J rfl,.g 44 0 J rfl,.k (fun K =>#[.agg (crA id (six P A.val B.val N X Y) qc),.agg (ptA po (ex R) no qo (ey R) mo (ef R)),.agg (ptA po (ex R) no qo (ey R) mo (ef R))]) fun K vv d hh=>RtW.of_pt (ao▸rplus_any C hd id N X Y qc R R po qo no mo po qo no mo _ (fun k=>(HQ k).gr d) (So.gr d) (To.gr d) (So.gr d) (To.gr d)),⟨⟩⟩ (.s 44 (fun K=>pv V 0) (fun K=>.agg (ptA (K 3 0).1 (ex x) (K 3 0).2 (K 3 1).1 (ey x) (K 3 1).2 (ef x))) fun l v1 d h5=>?_);have S:=(J.gr d).h;have FT:=(J.gr d).f;refine⟨setBlk v1 (V) (ptA (l 3 0).1 (ex x) (l 3 0).2 (l 3 1).1 (ey x) (l 3 1).2 (ef x)),by simp[go_sem,exI,S,FT],?_⟩;simp only[fzw];obtain⟨D,H⟩:=h5 3;clear h5;replace G:=G.trans d;replace U:=U.gr d;replace W:=W.gr d;replace Z:=Z.gr d;replace J:=J.gr d;replace HQ:=fun k=>(HQ k).gr d;replace Sk:=Sk.gr d;replace Sx:=Sx.gr d;replace Sy:=Sy.gr d;replace So:=So.gr d;replace To:=To.gr d;clear d
    go_upto_region 6 with fail
    refine gen_w (fun u=>Gr w u∧Vr u (w.heap.size) (crA id (six P A.val B.val N X Y) qc)∧Vr u (w.heap.size+1) (ptA p (ex Q) n q (ey Q) m (ef Q))∧Vr u (w.heap.size+1+1) (ptA none 0 0 none 0 0 false)∧Vr u (V) (ptA (l 3 0).1 (ex x) (l 3 0).2 (l 3 1).1 (ey x) (l 3 1).2 (ef x))∧(∀k,Sl u (qc k).1 (six P A.val B.val N X Y k))∧Sl u pk (k)∧Sl u p (ex Q)∧Sl u q (ey Q)∧Sl u (l 3 0).1 (ex x)∧Sl u (l 3 1).1 (ey x)) ⟨gr_setNew G (by omega),U.other (ab),W.other (ac),Z.other (ae),J.set (by rw[ptA_size];decide) _,fun k=>Sl.set (HQ k) (by rw[S];exact ptA_no _ _ _ _ _ _ _),Sl.set Sk (by rw[S];exact ptA_no _ _ _ _ _ _ _),Sl.set Sx (by rw[S];exact ptA_no _ _ _ _ _ _ _),Sl.set Sy (by rw[S];exact ptA_no _ _ _ _ _ _ _),Sl.set D (by rw[S];exact ptA_no _ _ _ _ _ _ _),Sl.set H (by rw[S];exact ptA_no _ _ _ _ _ _ _)⟩ ?_;clear S FT;rintro u5 ⟨G,U,W,Z,J,HQ,Sk,Sx,Sy,D,H⟩;refine wp_wS [.c (.slice pk (dl (k)) nk),.c (.int .i64 I),.c (.int .i64 1),.T] [2] ⟨.k (fun K =>#[.slice pk (dl (k)) nk,.int .i64 I]) fun K vv d hh=>RtW.of_c (Rt.same (ag _ (Sk.gr d))),⟨⟩⟩ fun ay v2 d h6=>?_;simp only[fzw];clear h6;replace G:=G.trans d;replace U:=U.gr d;replace W:=W.gr d;replace Z:=Z.gr d;replace J:=J.gr d;replace HQ:=fun k=>(HQ k).gr d;replace Sk:=Sk.gr d;replace Sx:=Sx.gr d;replace Sy:=Sy.gr d;replace D:=D.gr d;replace H:=H.gr d;clear d
    go_upto_region 7 with fail
    refine wp_wTS 4 [.c (.agg (crA id (six P A.val B.val N X Y) qc)),.c (.agg (ptA (l 3 0).1 (ex x) (l 3 0).2 (l 3 1).1 (ey x) (l 3 1).2 (ef x))),.c (.agg (ptA p (ex Q) n q (ey Q) m (ef Q))),.pt (ex R2) (ey R2) (ef R2)] [0,1,2,3] ⟨.g 31 0 U rfl,.g 44 0 J rfl,.g 44 0 W rfl,.k (fun K =>#[.agg (crA id (six P A.val B.val N X Y) qc),.agg (ptA (l 3 0).1 (ex x) (l 3 0).2 (l 3 1).1 (ey x) (l 3 1).2 (ef x)),.agg (ptA p (ex Q) n q (ey Q) m (ef Q))]) fun K vv d hh=>RtW.of_pt (au▸rplus_any C hd id N X Y qc x Q (l 3 0).1 (l 3 1).1 (l 3 0).2 (l 3 1).2 p q n m _ (fun k=>(HQ k).gr d) (D.gr d) (H.gr d) (Sx.gr d) (Sy.gr d)),⟨⟩⟩ (.s 44 (fun K=>pv V 0) (fun K=>.agg (ptA (K 3 0).1 (ex R2) (K 3 0).2 (K 3 1).1 (ey R2) (K 3 1).2 (ef R2))) fun aa v3 d h7=>?_);have S:=(J.gr d).h;have FT:=(J.gr d).f;refine⟨setBlk v3 (V) (ptA (aa 3 0).1 (ex R2) (aa 3 0).2 (aa 3 1).1 (ey R2) (aa 3 1).2 (ef R2)),by simp[go_sem,exI,S,FT],?_⟩;simp only[fzw];obtain⟨av,aw⟩:=h7 3;clear h7;replace G:=G.trans d;replace U:=U.gr d;replace W:=W.gr d;replace Z:=Z.gr d;replace J:=J.gr d
    go_wp2_with fail
    go_roundw
    case rel=>
     refine⟨I,(aa 3 0).1,(aa 3 0).2,(aa 3 1).1,(aa 3 1).2,by simp,fun _=>ar,?_⟩;rw[←ap];exact⟨gr_setNew G (by omega),U.other ab,W.other ac,Z.other ae,J.set (by rw[ptA_size];decide) _,Sl.set av (by rw[S];exact ptA_no _ _ _ _ _ _ _),Sl.set aw (by rw[S];exact ptA_no _ _ _ _ _ _ _)⟩
    case measure=>simp[intOf]
  ·obtain rfl:j=0:=by omega
   rw[Nat.pow_zero,Nat.div_one]at HR;obtain⟨R,hR⟩:=exl (EC.ml i A k Q);rw[hR]at HR;obtain⟨G,U,W,Z,J,So,To⟩:=HR.out;obtain⟨ab,ac,ae,ah⟩:=HN.out ();have⟨h3,f3,p3⟩:=Z;have⟨h7,f7,p7⟩:=J
   go_wp2_with fail
   refine bo1 results19 (rd_pt po (ex R) no qo (ey R) mo (ef R) (by rfl) ?_) ⟨_,rfl,?_,gr_setNew G (by omega)⟩
   ·simp[go_sem,h3]
   ·rw[hR];exact⟨_,_,_,_,rfl,Sl.set So (by rw[h3];exact ptA_no _ _ _ _ _ _ _),Sl.set To (by rw[h3];exact ptA_no _ _ _ _ _ _ _)⟩
end
end
section
attribute [local go_sem ↓] bsl_is
structure TI(m a S s c x t:Nat):Prop where
 s1:1≤s
 sS:s≤S
 cm:c<m
 xm:x<m
 tm:t<m
 e1:x*x%m=a*t%m
 e2:t^(2^(s-1))%m=1
 e3:c^(2^(s-1))%m=m-1
theorem least_i(m t:Nat)(h1:t%m≠1):∀n,t^(2^n)%m=1→∃i,i+1≤n∧t^(2^(i+1))%m=1∧t^(2^i)%m≠1∧∀j,j≤i→t^(2^j)%m≠1
 | 0,h=>absurd (by rw[Nat.pow_zero,Nat.pow_one]at h;exact h) h1
 | n+1,h=>by
  by_cases hn:∃j,j≤n∧t^(2^j)%m=1
  ·obtain⟨j,hj,e⟩:=hn;obtain⟨i,f,d⟩:=least_i m t h1 j e;exact⟨i,by omega,d⟩
  ·exact⟨n,by omega,h,fun e=>hn ⟨n,by omega,e⟩,fun j hj e=>hn ⟨j,hj,e⟩⟩
theorem TI.step{m a S s c x t i:Nat}(hp:Prm m)(h:TI m a S s c x t)(hi:i+1≤s-1)(hy:t^(2^(i+1))%m=1)(hn:t^(2^i)%m≠1):
 TI m a S (i+1) (c^(2^(s-(i+1)-1))%m*(c^(2^(s-(i+1)-1))%m)%m) (x*(c^(2^(s-(i+1)-1))%m)%m) (t*(c^(2^(s-(i+1)-1))%m*(c^(2^(s-(i+1)-1))%m)%m)%m):=by
 have A:=hp.1;obtain⟨b,l⟩:=exl (c^(2^(s-(i+1)-1))%m)
 have f:b^(2^(i+1))%m=m-1:=by
  rw[←l,←Nat.pow_mod,←Nat.pow_mul,←Nat.pow_add,show s-(i+1)-1+(i+1)=s-1 by omega];exact h.e3
 have q:∀y:Nat,y^(2^(i+1))=y^(2^i)*y^(2^i):=fun y=>by rw[←Nat.pow_add,Nat.pow_succ];congr 1;omega
 have d:(b*b%m)^(2^i)%m=m-1:=by
  rw[←Nat.pow_mod,Nat.mul_pow,←q];exact f
 have j:t^(2^i)%m=m-1:=by
  have:t^(2^i)%m*(t^(2^i)%m)%m=1:=by rw[←Nat.mul_mod,←q];exact hy
  rcases sq1 hp (Nat.mod_lt _ (by omega)) this with e|e
  ·exact absurd e hn
  ·exact e
 rw[l]
 refine⟨by omega,by have:=h.sS;omega,Nat.mod_lt _ (by omega),Nat.mod_lt _ (by omega),Nat.mod_lt _ (by omega),?_,?_,?_⟩
 ·have v:x*b*(x*b)=x*x*(b*b):=by grind
  rw[←Nat.mul_mod,v,Nat.mul_mod,h.e1,←Nat.mul_mod,Nat.mul_mod_mod,show a*(t*(b*b%m))=b*b%m*(a*t) by grind,Nat.mod_mul_mod,show a*t*(b*b)=b*b*(a*t) by grind]
 ·rw[Nat.add_sub_cancel,←Nat.pow_mod,Nat.mul_pow,Nat.mul_mod,j,d];exact neg_neg m (by omega)
 ·rw[Nat.add_sub_cancel];exact d
def SqR(a m:Nat)(w:World)(e:Ending)(w':World):Prop:=
 ∃x p n,x<m∧x%2=0∧x*x%m=a∧e=.returned (.tuple #[.slice p (dl x) n,.bool true])∧Sl w' p x∧Gr w w'
theorem rsqrt_no(a m n na:Nat)(pa p:Option Addr)(w:World)(ha:Sl w pa a)(hp:Sl w p m)(hm:dl m≤400)(ham:a<m)(h0:a≠0)(h1:2<m)(hE:a^((m-1)/2)%m=m-1):
 Cg 42 #[.slice pa (dl a) na,.slice p (dl m) n] w (.tuple #[.slice none 0 0,.bool false]):=by
 obtain⟨L,j⟩:=exl (m-1);rw[j]at hE;obtain⟨h,l⟩:=exl (L/2);rw[l]at hE;have q:dl a≠0:=fun e=>h0 (dl_eq_zero a e)
 have f:¬((dl a:Nat):Int)=0:=by omega
 have B:(((dl a:Nat):Int)==0)=false:=by rw[beq_eq_false_iff_ne];exact f
 have D:Hid (∀w' k' p',Gr w w'→Sl w' p' 1→Calls prog 31 #[.slice p (dl m) n,.slice p' 1 k'] w' (Nm L w')):=fun w' k' p' g s=>j▸rsub_any m 1 n k' p p' w' (hp.gr g) s (by omega) (by omega)
 have G:Hid (∀w' k' p',Sl w' p' L→Calls prog 51 #[.slice p' (dl L) k',.int .i64 1] w' (Nm h w')):=fun w' k' p' s=>by
  have:=rshr_any L k' 1 p' w' s (by have:=dl_low L m 400 (by omega) hm;omega) (by decide);rw[Nat.pow_one,l]at this;exact this
 have H:Hid (∀w' k' p',Gr w w'→Sl w' p' h→Calls prog 60 #[.slice pa (dl a) na,.slice p' (dl h) k',.slice p (dl m) n] w' (Nm L w')):=fun w' k' p' g s=>hE▸rpow_any a h m na k' n pa p' p w' (ha.gr g) s (hp.gr g) (dl_low a m 400 (by omega) hm) (dl_low h m 400 (by omega) hm) hm (by omega)
 have I:Hid (∀w' k k' p1 p',Sl w' p1 L→Sl w' p' 1→Calls prog 41 #[.slice p1 (dl L) k,.slice p' 1 k'] w' fun e v=>e=.returned (.int .i64 1)∧Gr w' v):=fun w' k k' p1 p' J K=>by
  have:=rcmp_any L 1 k k' p1 p' w' J K (by have:=dl_low L m 400 (by omega) hm;omega) (by decide);rw[show cmpZ L 1=1 by unfold cmpZ;rw[if_neg (by omega),if_pos (by omega)]]at this;exact this
 have P:∀w,(bslS 29 1 #[(0,.int .u32 1)]).run prog w=.ok (.slice (some ⟨w.heap.size,0,none⟩) 1 1) (w.alloc (.cells (nd 1 1) 58)):=fun w=>build1 1 (by decide) w;have d:Gr w (w.alloc (.cells (nd 1 1) 58)):=(Gr.refl w).alloc _;have i:=sl_new w;clear hE j l q ham h0 h1 hm ha hp
 go_enter func42,ntmps42
 go_wp2_with (first
  | (go_at_call 31;refine(D.out _ _ _ d i).mono ?_;rintro e V ⟨p1,W,rfl,Q,x⟩)
  | (go_at_call 51;refine(G.out _ _ _ Q).mono ?_;rintro e X ⟨Y,Z,rfl,R,A⟩)
  | (go_at_call 60;refine(H.out _ _ _ (d.trans (x.trans A)) R).mono ?_;rintro e W3 ⟨p3,n3,rfl,S,C⟩)
  | (go_at_call 41;refine(I.out _ _ _ _ _ S (i.gr (x.trans (A.trans C)))).mono ?_;rintro e W4 ⟨rfl,U⟩))
 go_ret2
 exact⟨rfl,d.trans (x.trans (A.trans (C.trans U)))⟩
end
section
attribute [local go_sem ↓] bsl_is
theorem cmp1_ne(y:Nat)(h:y≠1):cmpZ y 1≠0:=by
 unfold cmpZ
 split
 ·decide
 ·split
  ·decide
  ·omega
theorem cmp1_eq:cmpZ 1 1=0:=rfl
theorem TI.start{m a S q z h L:Nat}(hS:1≤S)(hm:2<m)(hq:q%2=1)(hL:q*2^S=L)(hLm:L+1=m)(hh:L/2=h)(hE:a^h%m=1)(hz:z^h%m=L):
 TI m a S S (z^q%m) (a^((q+1)/2)%m) (a^q%m):=by
 have e:h=q*2^(S-1):=by
  rw[show S=S-1+1 by omega,Nat.pow_succ,←Nat.mul_assoc]at hL
  omega
 refine⟨hS,Nat.le_refl _,Nat.mod_lt _ (by omega),Nat.mod_lt _ (by omega),Nat.mod_lt _ (by omega),?_,?_,?_⟩
 ·rw[←Nat.mul_mod,←Nat.pow_add,Nat.mul_mod_mod,Nat.mul_comm a,←Nat.pow_succ,show (q+1)/2+(q+1)/2=q.succ by omega]
 ·rw[←Nat.pow_mod,←Nat.pow_mul,←e];exact hE
 ·rw[←Nat.pow_mod,←Nat.pow_mul,←e];omega
theorem sl_two(w:World):Sl (w.alloc (.cells (nd 1 2) 58)) (some ⟨w.heap.size,0,none⟩) 2:=Sl.of_blk (n:=1) (by simp[go_sem]) (by simp[go_sem]) (by decide)
theorem rsqrt_yes(a m n na q S z:Nat)(pa p:Option Addr)(w:World)(ha:Sl w pa a)(hp:Sl w p m)(hm:dl m≤400)(hprm:Prm m)(hodd:m%2=1)(ham:a<m)(h0:a≠0)(h1:2<m)(hE:a^((m-1)/2)%m=1)(hq:q%2=1)(hqS:m=q*2^S+1)(hS:1≤S)(hS2:S<1000)(hz2:2≤z)(hzm:z<m)(hzE:z^((m-1)/2)%m=m-1)(hzn:∀x,2≤x→x<z→x^((m-1)/2)%m=1):
 Calls prog 42 #[.slice pa (dl a) na,.slice p (dl m) n] w (SqR a m w):=by
 obtain⟨L,hL⟩:=exl (m-1);rw[hL]at hE hzE hzn;obtain⟨h,hh⟩:=exl (L/2);rw[hh]at hE hzE hzn
 have aW:q*2^S=L:=by omega
 have bf:dl a≠0:=fun e=>h0 (dl_eq_zero a e)
 have aX:¬((dl a:Nat):Int)=0:=by omega
 have bK:(((dl a:Nat):Int)==0)=false:=by rw[beq_eq_false_iff_ne];exact aX
 have HD:Hid (∀x,x≤m→dl x≤400):=fun x H=>dl_low x m 400 H hm;have HS:Hid (∀w' k' p',Gr w w'→Sl w' p' 1→Calls prog 31 #[.slice p (dl m) n,.slice p' 1 k'] w' (Nm L w')):=fun w' k' p' g s=>hL▸rsub_any m 1 n k' p p' w' (hp.gr g) s (by omega) (by omega);have aG:Hid (∀w' x k' p',Gr w w'→Sl w' p' x→x≤m→Calls prog 31 #[.slice p (dl m) n,.slice p' (dl x) k'] w' (Nm (m-x) w')):=fun w' x k' p' g s H=>rsub_any m x n k' p p' w' (hp.gr g) s (by omega) H
 have HR:Hid (∀w' x y k' p',Sl w' p' x→x≤m→x/2=y→Calls prog 51 #[.slice p' (dl x) k',.int .i64 1] w' (Nm y w')):=fun w' x y k' p' s H e=>by
  have:=rshr_any x k' 1 p' w' s (by have:=HD.out x H;omega) (by decide);rw[Nat.pow_one,e]at this;exact this
 have HP:Hid (∀w' x e r k k' p1 p',Gr w w'→Sl w' p1 x→Sl w' p' e→x≤m→e≤m→x^e%m=r→Calls prog 60 #[.slice p1 (dl x) k,.slice p' (dl e) k',.slice p (dl m) n] w' (Nm r w')):=fun w' x e r k k' p1 p' g s1 s2 H he e1=>e1▸rpow_any x e m k k' n p1 p' p w' s1 s2 (hp.gr g) (HD.out x H) (HD.out e he) hm (by omega);have HM:Hid (∀w' x y r k k' p1 p2,Gr w w'→Sl w' p1 x→Sl w' p2 y→x≤m→y≤m→x*y%m=r→Calls prog 59 #[.slice p1 (dl x) k,.slice p2 (dl y) k',.slice p (dl m) n] w' (Nm r w')):=fun w' x y r k k' p1 p2 g s1 s2 H hy e1=>e1▸rmulmod_any x y m k k' n p1 p2 p w' s1 s2 (hp.gr g) (HD.out x H) (HD.out y hy) hm (by omega);have HC:Hid (∀w' x c k k' p1 p',Sl w' p1 x→Sl w' p' 1→x≤m→cmpZ x 1=c→Calls prog 41 #[.slice p1 (dl x) k,.slice p' 1 k'] w' fun e aH=>e=.returned (.int .i64 c)∧Gr w' aH):=fun w' x c k k' p1 p' s1 s2 H e=>e▸rcmp_any x 1 k k' p1 p' w' s1 s2 (by have:=HD.out x H;omega) (by decide);have HA:Hid (∀w' x k k' p1 p',Sl w' p1 x→Sl w' p' 1→x≤m→Calls prog 25 #[.slice p1 (dl x) k,.slice p' 1 k'] w' (Nm (x+1) w')):=fun w' x k k' p1 p' s1 s2 H=>radd_any x 1 k k' p1 p' w' s1 s2 (by have:=HD.out x H;omega) (by decide)
 have HB:Hid (∀w' x b k p1,Sl w' p1 x→x%2=b→Calls prog 39 #[.slice p1 (dl x) k,.int .i64 0] w' fun e aH=>e=.returned (.int .i64 b)∧aH=w'):=fun w' x b k p1 s e=>by
  have:=rbit_any x k 0 p1 w' s (by decide);unfold bitN at this;rw[Nat.pow_zero,Nat.div_one,e]at this;exact this
 have bg:∀w,(bslS 29 1 #[(0,.int .u32 1)]).run prog w=.ok (.slice (some ⟨w.heap.size,0,none⟩) 1 1) (w.alloc (.cells (nd 1 1) 58)):=fun w=>build1 1 (by decide) w;have bh:∀w,(bslS 29 1 #[(0,.int .u32 2)]).run prog w=.ok (.slice (some ⟨w.heap.size,0,none⟩) 1 1) (w.alloc (.cells (nd 1 2) 58)):=fun w=>build1 2 (by decide) w;have aj:Gr w (w.alloc (.cells (nd 1 1) 58)):=(Gr.refl w).alloc _;have au:=sl_new w;obtain⟨E,av⟩:∃E,E=1:=⟨_,rfl⟩;rw[←av]at hE;have HE:Hid (cmpZ E 1=0∧E≤m∧a^h%m=E∧a≤m∧h≤m∧L≤m∧L/2=h):=⟨by rw[av];rfl,by omega,hE,by omega,by omega,by omega,hh⟩;have C:Hid (Prm m∧m%2=1∧a<m∧2<m∧q%2=1∧q*2^S=L∧1≤S∧S<1000∧2≤z∧z<m∧z^h%m=L∧(∀x,2≤x→x<z→x^h%m=1)∧L+1=m∧L/2=h∧a^h%m=1):=⟨hprm,hodd,ham,h1,hq,aW,hS,hS2,hz2,hzm,hzE,hzn,by omega,hh,by rw[hE,av]⟩;have aw:Hid (Sl w pa a):=ha
 have s2:(S:Int)<1000:=by omega
 clear hE av hL hh bf ham h0 h1 hm ha hp hprm hodd hq hqS hS hS2 hz2 hzm hzE hzn aW
 go_enter func42,ntmps42
 go_upto_region 7 with (first
  | (go_at_call 31;refine(HS.out _ _ _ aj au).mono ?_;rintro e W1 ⟨p1,n1,rfl,S1,J⟩)
  | (go_at_call 51;refine(HR.out _ _ h _ _ S1 HE.out.2.2.2.2.2.1 HE.out.2.2.2.2.2.2).mono ?_;rintro e W2 ⟨p2,n2,rfl,S2,G2⟩)
  | (go_at_call 60;refine(HP.out _ a h E _ _ _ _ (aj.trans (J.trans G2)) (aw.out.gr (aj.trans (J.trans G2))) S2 HE.out.2.2.2.1 HE.out.2.2.2.2.1 HE.out.2.2.1).mono ?_;rintro e W3 ⟨p3,n3,rfl,S3,G3⟩)
  | (go_at_call 41;refine(HC.out _ E 0 _ _ _ _ S3 (au.gr (J.trans (G2.trans G3))) HE.out.2.1 HE.out.1).mono ?_;rintro e W4 ⟨rfl,G4⟩))
 have GA:Gr w W4:=aj.trans (J.trans (G2.trans (G3.trans G4)));have SO:Sl W4 (some ⟨w.heap.size,0,none⟩) 1:=au.gr (J.trans (G2.trans (G3.trans G4)));have SH:Sl W4 p2 h:=S2.gr (G3.trans G4);generalize (some ⟨w.heap.size,0,none⟩:Option Addr)=po at SO ⊢;clear S1 S2 S3 J G2 G3 G4 aj au HE
 go_wp2_with (go_at_call 31;refine(HS.out _ _ _ GA SO).mono ?_;rintro e W5 ⟨p5,n5,rfl,S5,G5⟩)
 have H5:Hid (Gr w W5∧Sl W5 po 1∧Sl W5 p2 h∧Sl W5 p5 L):=⟨GA.trans G5,SO.gr G5,SH.gr G5,S5⟩;clear GA SO SH S5 G5 HS
 go_loopw [8,9] (fun a8 a9 wr=>∃(j v n8:Nat) (p8:Option Addr),a8=.slice p8 (dl v) n8∧a9=.int .i64 j∧Hu (j≤S∧q*2^(S-j)=v)∧Hid (Gr W5 wr∧Sl wr p8 v)) (fun _ a9 _=>((S:Int)-intOf a9).toNat)
 case atStart=>exact⟨0,L,n5,p5,rfl,rfl,fun _=>⟨Nat.zero_le _,C.out.2.2.2.2.2.1⟩,Gr.refl _,H5.out.2.2.2⟩
 case round=>
  obtain⟨j,v,n8,p8,rfl,rfl,P,A⟩:=hrel;have hS:=C.out.2.2.2.2.2.2.2.1
  by_cases hj:j<S
  ·have e2:q*2^(S-j)=(q*2^(S-(j+1)))*2:=by
    rw[show S-j=S-(j+1)+1 by omega,Nat.pow_succ,Nat.mul_assoc]
   obtain⟨y,hy⟩:=exl (v/2)
   have aY:v≤m:=by
    have h3:=C.out.2.2.2.2.2.1;have h4:=C.out.2.2.2.2.2.2.2.2.2.2.2.2.1;have h5:q*2^(S-j)≤q*2^S:=Nat.mul_le_mul_left q (Nat.pow_le_pow_right (by decide) (by omega));have:=(P.out ()).2
    omega
   have l:Hid (v%2=0∧v≤m∧v/2=y∧j+1≤S∧q*2^(S-(j+1))=y):=⟨by have:=(P.out ()).2;omega,aY,hy,hj,by have:=(P.out ()).2;omega⟩
   have j1:(j:Int)<1000:=by omega
   have j0:(0:Int)≤j:=by omega
   have j2:(j:Int)<S:=by omega
   clear e2 hy aY hj hS
   go_wp2_with (first
    | (go_at_call 39;refine(HB.out _ v 0 _ _ A.out.2 l.out.1).mono ?_;rintro e w' ⟨rfl,rfl⟩)
    | (go_at_call 51;refine(HR.out _ v y _ _ A.out.2 l.out.2.1 l.out.2.2.1).mono ?_;rintro e W6 ⟨p6,n6,rfl,S6,G6⟩))
   go_roundw
   case rel=>exact⟨j+1,y,n6,p6,rfl,by go_num,fun _=>l.out.2.2.2,A.out.1.trans G6,S6⟩
   case measure=>simp[intOf];omega
  ·have bi:j=S:=by have:=(P.out ()).1;omega
   subst bi
   have bj:v=q:=by have:=(P.out ()).2;rw[Nat.sub_self,Nat.pow_zero,Nat.mul_one]at this;exact this.symm
   subst bj;have H6:Hid (Gr w wr∧Sl wr po 1∧Sl wr p2 h∧Sl wr p8 v):=⟨H5.out.1.trans A.out.1,H5.out.2.1.gr A.out.1,H5.out.2.2.1.gr A.out.1,A.out.2⟩;have bk:v%2=1:=C.out.2.2.2.2.1;clear P A H5 hj hS
   go_wp2_with (go_at_call 39;refine(HB.out _ v 1 _ _ H6.out.2.2.2 bk).mono ?_;rintro e w' ⟨rfl,rfl⟩)
   have ae:Gr w' (w'.alloc (.cells (nd 1 2) 58)):=(Gr.refl w').alloc _;have ax:Hid (Sl (w'.alloc (.cells (nd 1 2) 58)) (some ⟨w'.heap.size,0,none⟩) 2):=sl_two w';obtain⟨WB,aZ⟩:=exl (w'.alloc (.cells (nd 1 2) 58));rw[aZ]at ae ax ⊢;generalize (some ⟨w'.heap.size,0,none⟩:Option Addr)=pz at ax ⊢;have H7:Hid (Gr w WB∧Sl WB po 1∧Sl WB p2 h∧Sl WB p8 v∧Sl WB pz 2):=⟨H6.out.1.trans ae,H6.out.2.1.gr ae,H6.out.2.2.1.gr ae,H6.out.2.2.2.gr ae,ax.out⟩;clear aZ ae ax H6 bg bh
   go_loopw [10] (fun a10 wr=>∃(x k:Nat) (p10:Option Addr),a10=.slice p10 (dl x) k∧Hid (2≤x∧x≤z)∧Hid (Gr WB wr∧Sl wr p10 x)) (fun a10 wr=>z-mS wr a10)
   case atStart=>exact⟨2,1,pz,rfl,⟨Nat.le_refl _,C.out.2.2.2.2.2.2.2.2.1⟩,Gr.refl _,H7.out.2.2.2.2⟩
   case round=>
    obtain⟨x,k,p10,rfl,HX,A⟩:=hrel;have hzm:=C.out.2.2.2.2.2.2.2.2.2.1;have a0:=C.out.2.2.2.2.2.2.2.2.2.2.2.2.1;have a1:=C.out.2.2.2.2.2.2.2.2.2.2.2.2.2.1;obtain⟨Y,hY⟩:=exl (x^h%m)
    have ay:Y≤m:=by rw[←hY];exact Nat.le_of_lt (Nat.mod_lt _ (by omega))
    have a2:=HX.out.2;have ak:=HX.out.1
    by_cases H:x<z
    ·have a3:Y=1:=by rw[←hY];exact C.out.2.2.2.2.2.2.2.2.2.2.2.1 x HX.out.1 H
     have l:Hid (x≤m∧h≤m∧x^h%m=Y∧Y≤m∧cmpZ Y 1=0∧2≤x+1∧x+1≤z):=⟨by omega,by omega,hY,ay,by rw[a3];rfl,by omega,H⟩;obtain⟨u,hu⟩:=exl (x+1);have az:Hid (∀w' k k' p1 p',Sl w' p1 x→Sl w' p' 1→x≤m→Calls prog 25 #[.slice p1 (dl x) k,.slice p' 1 k'] w' (Nm u w')):=fun w' k k' p1 p' s1 s2 H=>hu▸HA.out w' x k k' p1 p' s1 s2 H;have B:Hid (Gr w wr∧Sl wr po 1∧Sl wr p2 h):=⟨H7.out.1.trans A.out.1,H7.out.2.1.gr A.out.1,H7.out.2.2.1.gr A.out.1⟩;have aI:Hid (2≤u∧u≤z∧z-u<z-x):=⟨by omega,by omega,by omega⟩;clear hzm a0 a1 hY ay a2 ak H a3 hu HA
     go_wp2_with (first
      | (go_at_call 60;refine(HP.out _ x h Y _ _ _ _ B.out.1 A.out.2 B.out.2.2 l.out.1 l.out.2.1 l.out.2.2.1).mono ?_;rintro e W1 ⟨p1,n1,rfl,S1,J⟩)
      | (go_at_call 41;refine(HC.out _ Y 0 _ _ _ _ S1 (B.out.2.1.gr J) l.out.2.2.2.1 l.out.2.2.2.2.1).mono ?_;rintro e W2 ⟨rfl,G2⟩)
      | (go_at_call 25;refine(az.out _ _ _ _ _ (A.out.2.gr (J.trans G2)) (B.out.2.1.gr (J.trans G2)) l.out.1).mono ?_;rintro e W3 ⟨p3,n3,rfl,S3,G3⟩))
     go_roundw
     case rel=>exact⟨u,n3,p3,rfl,⟨aI.out.1,aI.out.2.1⟩,A.out.1.trans (J.trans (G2.trans G3)),S3⟩
     case measure=>rw[mS_is S3,mS_is A.out.2];exact aI.out.2.2
    ·have bm:x=z:=by omega
     subst bm
     have bo:Y=L:=by rw[←hY];exact C.out.2.2.2.2.2.2.2.2.2.2.1
     subst bo
     have l:Hid (x≤m∧h≤m∧x^h%m=Y∧Y≤m∧cmpZ Y 1=1):=⟨by omega,by omega,hY,ay,by
      have:=C.out.2.2.2.1
      unfold cmpZ;rw[if_neg (by omega),if_pos (by omega)]⟩
     have B:Hid (Gr w wr∧Sl wr po 1∧Sl wr p2 h∧Sl wr p8 v∧Sl wr p10 x):=⟨H7.out.1.trans A.out.1,H7.out.2.1.gr A.out.1,H7.out.2.2.1.gr A.out.1,H7.out.2.2.2.1.gr A.out.1,A.out.2⟩;clear hzm a0 a1 hY ay a2 ak H A HX H7
     go_upto_region 15 with (first
      | (go_at_call 60;refine(HP.out _ x h Y _ _ _ _ B.out.1 B.out.2.2.2.2 B.out.2.2.1 l.out.1 l.out.2.1 l.out.2.2.1).mono ?_;rintro e W1 ⟨p1,n1,rfl,S1,J⟩)
      | (go_at_call 41;refine(HC.out _ Y 1 _ _ _ _ S1 (B.out.2.1.gr J) l.out.2.2.2.1 l.out.2.2.2.2).mono ?_;rintro e W2 ⟨rfl,G2⟩))
     have Q:=J.trans G2;have aa:Hid (Gr w W2∧Sl W2 po 1∧Sl W2 p8 v∧Sl W2 p10 x):=⟨B.out.1.trans Q,B.out.2.1.gr Q,B.out.2.2.2.1.gr Q,B.out.2.2.2.2.gr Q⟩;clear S1 J G2 Q B;obtain⟨c0,aJ⟩:=exl (x^v%m);obtain⟨u,hu⟩:=exl ((v+1)/2);obtain⟨v1,aC⟩:=exl (v+1);obtain⟨x0,aK⟩:=exl (a^u%m);obtain⟨t0,aL⟩:=exl (a^v%m)
     have HT:Hid (TI m a j j c0 x0 t0):=by
      have:=TI.start (z:=x) C.out.2.2.2.2.2.2.1 C.out.2.2.2.1 C.out.2.2.2.2.1 C.out.2.2.2.2.2.1 C.out.2.2.2.2.2.2.2.2.2.2.2.2.1 C.out.2.2.2.2.2.2.2.2.2.2.2.2.2.1 C.out.2.2.2.2.2.2.2.2.2.2.2.2.2.2 l.out.2.2.1;rw[hu,aJ,aK,aL]at this;exact this
     have bp:v≤Y:=by
      have:=C.out.2.2.2.2.2.1;rw[←this];exact Nat.le_mul_of_pos_right v (Nat.two_pow_pos j)
     have HN:Hid (x≤m∧v≤m∧a≤m∧u≤m∧v1≤m∧v1/2=u∧x^v%m=c0∧a^u%m=x0∧a^v%m=t0):=⟨l.out.1,by have:=l.out.2.2.2.1;omega,by have:=C.out.2.2.1;omega,by have:=l.out.2.2.2.1;have:=C.out.2.2.2.2.2.2.2.2.2.2.2.2.1;omega,by have:=l.out.2.2.2.1;have:=C.out.2.2.2.2.2.2.2.2.2.2.2.2.1;omega,by omega,aJ,aK,aL⟩;have az:Hid (∀w' k k' p1 p',Sl w' p1 v→Sl w' p' 1→v≤m→Calls prog 25 #[.slice p1 (dl v) k,.slice p' 1 k'] w' (Nm v1 w')):=fun w' k k' p1 p' s1 s2 H=>aC▸HA.out w' v k k' p1 p' s1 s2 H;clear aJ hu aC aK aL bp HA l
     go_upto_region 16 with (go_at_call 60;refine(HP.out _ x v c0 _ _ _ _ aa.out.1 aa.out.2.2.2 aa.out.2.2.1 HN.out.1 HN.out.2.1 HN.out.2.2.2.2.2.2.1).mono ?_;rintro e W3 ⟨p3,n3,rfl,S3,G3⟩)
     have R:Hid (Gr w W3∧Sl W3 po 1∧Sl W3 p8 v∧Sl W3 p3 c0):=⟨aa.out.1.trans G3,aa.out.2.1.gr G3,aa.out.2.2.1.gr G3,S3⟩;clear aa S3 G3
     go_upto_region 17 with (first
      | (go_at_call 25;refine(az.out _ _ _ _ _ R.out.2.2.1 R.out.2.1 HN.out.2.1).mono ?_;rintro e W4 ⟨p4,n4,rfl,S4,G4⟩)
      | (go_at_call 51;refine(HR.out _ v1 u _ _ S4 HN.out.2.2.2.2.1 HN.out.2.2.2.2.2.1).mono ?_;rintro e W5 ⟨bL,bM,rfl,S5,G5⟩)
      | (go_at_call 60;refine(HP.out _ a u x0 _ _ _ _ (R.out.1.trans (G4.trans G5)) (aw.out.gr (R.out.1.trans (G4.trans G5))) S5 HN.out.2.2.1 HN.out.2.2.2.1 HN.out.2.2.2.2.2.2.2.1).mono ?_;rintro e W6 ⟨p6,n6,rfl,S6,G6⟩))
     have ao:=G4.trans (G5.trans G6);have W:Hid (Gr w W6∧Sl W6 po 1∧Sl W6 p8 v∧Sl W6 p3 c0∧Sl W6 p6 x0):=⟨R.out.1.trans ao,R.out.2.1.gr ao,R.out.2.2.1.gr ao,R.out.2.2.2.gr ao,S6⟩;clear R S4 S5 S6 G4 G5 G6 ao az
     go_wp2_with (go_at_call 60;refine(HP.out _ a v t0 _ _ _ _ W.out.1 (aw.out.gr W.out.1) W.out.2.2.1 HN.out.2.2.1 HN.out.2.1 HN.out.2.2.2.2.2.2.2.2).mono ?_;rintro e W7 ⟨p7,n7,rfl,S7,G7⟩)
     have HW:Hid (Gr w W7∧Sl W7 po 1∧Sl W7 p3 c0∧Sl W7 p6 x0∧Sl W7 p7 t0):=⟨W.out.1.trans G7,W.out.2.1.gr G7,W.out.2.2.2.1.gr G7,W.out.2.2.2.2.gr G7,S7⟩;clear W S7 G7 HN HP HR aw
     go_loopw [9,11,12,13] (fun a9 a11 a12 a13 wr=>∃(s c x t n11 n12 n13:Nat) (p11 p12 p13:Option Addr),a9=.int .i64 s∧a11=.slice p11 (dl c) n11∧a12=.slice p12 (dl x) n12∧a13=.slice p13 (dl t) n13∧Hid (TI m a j s c x t)∧Hid (Gr W7 wr∧Sl wr p11 c∧Sl wr p12 x∧Sl wr p13 t)) (fun a9 _ _ _ _=>(intOf a9).toNat)
     case atStart=>exact⟨j,c0,x0,t0,n3,n6,n7,p3,p6,p7,rfl,rfl,rfl,rfl,HT,Gr.refl _,HW.out.2.2.1,HW.out.2.2.2.1,HW.out.2.2.2.2⟩
     case round=>
      obtain⟨s,c,x,t,n11,n12,n13,p11,p12,p13,rfl,rfl,rfl,rfl,HI,A⟩:=hrel;have aM:=C.out.2.2.2.1;have hprm:=C.out.1;have G:=HI.out;have aO:=G.sS;have hj:=C.out.2.2.2.2.2.2.2.1;have B:Hid (Gr w wr∧Sl wr po 1):=⟨HW.out.1.trans A.out.1,HW.out.2.1.gr A.out.1⟩
      by_cases ht1:t=1
      ·subst ht1
       have aA:x*x%m=a:=by
        have:=G.e1;rw[Nat.mul_one,Nat.mod_eq_of_lt C.out.2.2.1]at this;exact this
       have aP:=G.xm
       by_cases ak:x%2=1
       ·have l:Hid (x≤m∧m-x<m∧(m-x)%2=0∧(m-x)*(m-x)%m=a):=⟨by omega,by omega,by have:=C.out.2.1;omega,by rw[sq_neg _ _ (by omega)];exact aA⟩;obtain⟨f,hf⟩:=exl (m-x);rw[hf]at l;have a4:Hid (∀w' k' p',Gr w w'→Sl w' p' x→x≤m→Calls prog 31 #[.slice p (dl m) n,.slice p' (dl x) k'] w' (Nm f w')):=fun w' k' p' g s1 H=>hf▸aG.out w' x k' p' g s1 H;clear aM hprm G aO hj aA aP hf HM HD HI HT HW aG
        go_wp2_with (first
         | (go_at_call 41;refine(HC.out _ 1 0 _ _ _ _ A.out.2.2.2 B.out.2 ?_ cmp1_eq).mono ?_;have:=C.out.2.2.2.1;omega;rintro e W1 ⟨rfl,J⟩)
         | (go_at_call 39;refine(HB.out _ x 1 _ _ (A.out.2.2.1.gr J) ak).mono ?_;rintro e W2 ⟨rfl,rfl⟩)
         | (go_at_call 31;refine(a4.out _ _ _ (B.out.1.trans J) (A.out.2.2.1.gr J) l.out.1).mono ?_;rintro e W3 ⟨bq,br,rfl,S3,G3⟩))
        go_ret2
        exact⟨f,bq,br,l.out.2.1,l.out.2.2.1,l.out.2.2.2,rfl,S3,B.out.1.trans (J.trans G3)⟩
       ·have a5:x%2=0:=by omega
        have l:Hid (x<m∧x%2=0∧x*x%m=a):=⟨aP,a5,aA⟩;clear aM hprm G aO hj aA aP ak HM HD HI HT HW aG
        go_wp2_with (first
         | (go_at_call 41;refine(HC.out _ 1 0 _ _ _ _ A.out.2.2.2 B.out.2 ?_ cmp1_eq).mono ?_;have:=C.out.2.2.2.1;omega;rintro e W1 ⟨rfl,J⟩)
         | (go_at_call 39;refine(HB.out _ x 0 _ _ (A.out.2.2.1.gr J) a5).mono ?_;rintro e W2 ⟨rfl,rfl⟩))
        go_ret2
        exact⟨x,p12,n12,l.out.1,l.out.2.1,l.out.2.2,rfl,A.out.2.2.1.gr J,B.out.1.trans J⟩
      ·have aD:t%m≠1:=by rw[Nat.mod_eq_of_lt G.tm];exact ht1
       obtain⟨i,i1,iy,a6,aE⟩:=least_i m t aD (s-1) G.e2;have X:=G.step hprm (i:=i) i1 iy a6;obtain⟨D,hD⟩:=exl (s-(i+1)-1);rw[hD]at X;obtain⟨b,hb⟩:=exl (c^(2^D)%m);rw[hb]at X;obtain⟨c',aQ⟩:∃y,b*b%m=y:=⟨_,rfl⟩;rw[aQ]at X;obtain⟨t',aR⟩:∃y,t*c'%m=y:=⟨_,rfl⟩;obtain⟨x',aS⟩:∃y,x*b%m=y:=⟨_,rfl⟩;rw[aR,aS]at X;obtain⟨I,hI⟩:=exl (i+1);rw[hI]at X iy;have a7:Hid (TI m a j I c' x' t'):=X
       have ap:b<m:=by rw[←hb];exact Nat.mod_lt _ (by omega)
       have l:Hid (t≤m∧c<m∧x≤m∧b≤m∧c'≤m∧b*b%m=c'∧t*c'%m=t'∧x*b%m=x'∧t<m):=⟨Nat.le_of_lt G.tm,G.cm,Nat.le_of_lt G.xm,by omega,Nat.le_of_lt X.cm,aQ,aR,aS,G.tm⟩;have HL:Hid (t^(2^I)%m=1∧(∀r,r<I→t^(2^r)%m≠1)∧c^(2^D)%m=b∧I<s):=⟨iy,fun r hr=>aE r (by omega),hb,by omega⟩;obtain⟨ct,aT⟩:=exl (cmpZ t 1)
       have ba:¬ct=0:=by rw[←aT];exact cmp1_ne t ht1
       have bb:(ct==0)=false:=by rw[beq_eq_false_iff_ne];exact ba
       have bt:(ct != 0)=true:=by rw[bne,bb];rfl
       have bO:(s:Int)-I-1=D:=by omega
       have I0:(0:Int)≤I:=by omega
       have I1:(I:Int)<1000:=by omega
       have D0:(D:Int)<1000:=by omega
       have bP:(s:Int)<1000:=by omega
       have sI:(I:Int)<s:=by have:=HL.out.2.2.2;omega
       clear aM G aO hj ht1 aD i1 iy a6 aE X hD hb aQ aR aS hI ap HI HT
       go_wp2_with (go_at_call 41;refine(HC.out _ t ct _ _ _ _ A.out.2.2.2 B.out.2 l.out.1 aT).mono ?_;rintro e W8 ⟨rfl,G8⟩)
       have HQ:Hid (Gr W7 W8∧Gr w W8∧Sl W8 po 1∧Sl W8 p11 c∧Sl W8 p12 x∧Sl W8 p13 t):=⟨A.out.1.trans G8,B.out.1.trans G8,B.out.2.gr G8,A.out.2.1.gr G8,A.out.2.2.1.gr G8,A.out.2.2.2.gr G8⟩;clear A B G8 ba bb bt aT
       go_loopw [14,15] (fun a14 a15 wr'=>∃(r y n15:Nat) (p15:Option Addr),a14=.int .i64 r∧a15=.slice p15 (dl y) n15∧Hid (r≤I∧t^(2^r)%m=y)∧Hid (Gr W8 wr'∧Sl wr' p15 y)) (fun a14 _ _=>((I:Int)-intOf a14).toNat)
       case atStart=>exact⟨0,t,n13,p13,rfl,rfl,⟨Nat.zero_le _,by rw[Nat.pow_zero,Nat.pow_one];exact Nat.mod_eq_of_lt l.out.2.2.2.2.2.2.2.2⟩,Gr.refl _,HQ.out.2.2.2.2.2⟩
       case round=>
        obtain⟨r,y,n15,p15,rfl,rfl,P,U⟩:=hrel
        have Z:0<m:=by have:=C.out.2.2.2.1;omega
        have aU:y≤m:=by rw[←P.out.2];exact Nat.le_of_lt (Nat.mod_lt _ Z)
        have B:Hid (Gr w wr∧Sl wr po 1):=⟨HQ.out.2.1.trans U.out.1,HQ.out.2.2.1.gr U.out.1⟩
        have r0:(0:Int)≤r:=by omega
        by_cases hr:r<I
        ·have aB:y≠1:=by rw[←P.out.2];exact HL.out.2.1 r hr
         obtain⟨cy,aV⟩:=exl (cmpZ y 1)
         have bu:¬cy=0:=by rw[←aV];exact cmp1_ne y aB
         have bQ:(cy==0)=false:=by rw[beq_eq_false_iff_ne];exact bu
         obtain⟨y2,ab⟩:=exl (y*y%m)
         have K:Hid (y≤m∧cmpZ y 1=cy∧y*y%m=y2∧r+1≤I∧t^(2^(r+1))%m=y2):=⟨aU,aV,ab,hr,by
          rw[←ab,←P.out.2,←Nat.mul_mod,←Nat.pow_add,Nat.pow_succ,show 2^r*2=2^r+2^r by omega]⟩
         have r2:(r:Int)<I:=by omega
         clear Z aU aB aV ab hr P
         go_wp2_with (first
          | (go_at_call 41;refine(HC.out _ y cy _ _ _ _ U.out.2 B.out.2 K.out.1 K.out.2.1).mono ?_;rintro e W9 ⟨rfl,G9⟩)
          | (go_at_call 59;refine(HM.out _ y y y2 _ _ _ _ (B.out.1.trans G9) (U.out.2.gr G9) (U.out.2.gr G9) K.out.1 K.out.1 K.out.2.2.1).mono ?_;rintro e bc ⟨aq,ar,rfl,af,ac⟩))
         go_roundw
         case rel=>exact⟨r+1,y2,ar,aq,by go_num,rfl,K.out.2.2.2,U.out.1.trans (G9.trans ac),af⟩
         case measure=>simp[intOf];omega
        ·have bv:r=I:=by have:=P.out.1;omega
         subst bv
         have aB:y=1:=by rw[←P.out.2];exact HL.out.1
         subst aB;have bd:1≤m:=Z;clear hr Z aU P
         go_wp2_with (go_at_call 41;refine(HC.out _ 1 0 _ _ _ _ U.out.2 B.out.2 bd cmp1_eq).mono ?_;rintro e W9 ⟨rfl,G9⟩)
         have ag:=U.out.1.trans G9;have ah:Hid (Gr W7 W9∧Gr w W9∧Sl W9 p11 c∧Sl W9 p12 x∧Sl W9 p13 t):=⟨HQ.out.1.trans ag,HQ.out.2.1.trans ag,HQ.out.2.2.2.1.gr ag,HQ.out.2.2.2.2.1.gr ag,HQ.out.2.2.2.2.2.gr ag⟩;clear U B HQ G9 ag bd
         go_loopw [16,17] (fun a16 a17 wr'=>∃(d b' n16:Nat) (p16:Option Addr),a16=.slice p16 (dl b') n16∧a17=.int .i64 d∧Hid (d≤D∧c^(2^d)%m=b')∧Hid (Gr W9 wr'∧Sl wr' p16 b')) (fun _ a17 _=>((D:Int)-intOf a17).toNat)
         case atStart=>exact⟨0,c,n11,p11,rfl,rfl,⟨Nat.zero_le _,by rw[Nat.pow_zero,Nat.pow_one];exact Nat.mod_eq_of_lt l.out.2.1⟩,Gr.refl _,ah.out.2.2.1⟩
         case round=>
          obtain⟨d,b',n16,p16,rfl,rfl,P,U⟩:=hrel
          have Z:0<m:=by have:=C.out.2.2.2.1;omega
          have ap:b'≤m:=by rw[←P.out.2];exact Nat.le_of_lt (Nat.mod_lt _ Z)
          have B:Hid (Gr w wr):=ah.out.2.1.trans U.out.1
          have d0:(0:Int)≤d:=by omega
          by_cases hd:d<D
          ·obtain⟨y2,ab⟩:=exl (b'*b'%m)
           have K:Hid (b'≤m∧b'*b'%m=y2∧d+1≤D∧c^(2^(d+1))%m=y2):=⟨ap,ab,hd,by
            rw[←ab,←P.out.2,←Nat.mul_mod,←Nat.pow_add,Nat.pow_succ,show 2^d*2=2^d+2^d by omega]⟩
           have d2:(d:Int)<D:=by omega
           clear Z ap ab hd P
           go_wp2_with (go_at_call 59;refine(HM.out _ b' b' y2 _ _ _ _ B.out U.out.2 U.out.2 K.out.1 K.out.1 K.out.2.1).mono ?_;rintro e bc ⟨aq,ar,rfl,af,ac⟩)
           go_roundw
           case rel=>exact⟨d+1,y2,ar,aq,rfl,by go_num,K.out.2.2,U.out.1.trans ac,af⟩
           case measure=>simp[intOf];omega
          ·have bw:d=D:=by have:=P.out.1;omega
           subst bw
           have bA:b'=b:=by rw[←P.out.2];exact HL.out.2.2.1
           subst bA;have ai:Hid (Gr W7 wr∧Sl wr p12 x∧Sl wr p13 t∧Sl wr p16 b'):=⟨ah.out.1.trans U.out.1,ah.out.2.2.2.1.gr U.out.1,ah.out.2.2.2.2.gr U.out.1,U.out.2⟩;clear hd Z ap P U ah
           go_upto_region 31 with (go_at_call 59;refine(HM.out _ b' b' c' _ _ _ _ B.out ai.out.2.2.2 ai.out.2.2.2 l.out.2.2.2.1 l.out.2.2.2.1 l.out.2.2.2.2.2.1).mono ?_;rintro e bc ⟨bB,bC,rfl,af,ac⟩)
           go_upto_region 32 with (go_at_call 59;refine(HM.out _ t c' t' _ _ _ _ (B.out.trans ac) (ai.out.2.2.1.gr ac) af l.out.1 l.out.2.2.2.2.1 l.out.2.2.2.2.2.2.1).mono ?_;rintro e bR ⟨bD,bE,rfl,bG,be⟩)
           have V:=ac.trans be
           go_wp2_with (go_at_call 59;refine(HM.out _ x b' x' _ _ _ _ (B.out.trans V) (ai.out.2.1.gr V) (ai.out.2.2.2.gr V) l.out.2.2.1 l.out.2.2.2.1 l.out.2.2.2.2.2.2.2.1).mono ?_;rintro e bS ⟨bH,bI,rfl,bJ,Q⟩)
           go_roundw
           case rel=>exact⟨r,c',x',t',bC,bI,bE,bB,bH,bD,rfl,rfl,rfl,rfl,a7,ai.out.1.trans (V.trans Q),af.gr (be.trans Q),bJ,bG.gr Q⟩
           case measure=>simp[intOf];exact HL.out.2.2.2
end
end
section
structure RtP(m q S z:Nat):Prop where
 odd:q%2=1
 is:m=q*2^S+1
 s1:1≤S
 s2:S<1000
 z2:2≤z
 zm:z<m
 zE:z^((m-1)/2)%m=m-1
 zn:∀x,2≤x→x<z→x^((m-1)/2)%m=1
theorem RtP.of{m:Nat}(q S y f:Nat)(hp:Prm m)(ho:m%2=1)(odd:q%2=1)(is:m=q*2^S+1)(s1:1≤S)(s2:S<1000)(zm:y+2<m)(he:(m-1)/2<2^f)(zE:Nat.beq (pmF f (y+2) ((m-1)/2) m) (m-1)=true)(zn:noWit f m ((m-1)/2) (m-1) y=true):RtP m q S (y+2):=
 ⟨odd,is,s1,s2,by omega,zm,wit_of he zE,fun x d i=>by
  rcases euler hp ho (show x≠0 by omega) (show x<m by omega) with h|h
  ·exact h
  ·exact absurd h (noWit_is f m _ _ he y zn x d i)⟩
theorem rp_any(k:Nat)(h1:1≤k)(h2:k≤15):∃q S z,RtP (pN k) q S z:=by
 have d:=prm_pN k h1 h2;have f:=pN_bd k h1 h2
 obtain rfl|rfl|rfl|rfl|rfl|rfl|rfl|rfl|rfl|rfl|rfl|rfl|rfl|rfl|rfl:k=1∨k=2∨k=3∨k=4∨k=5∨k=6∨k=7∨k=8∨k=9∨k=10∨k=11∨k=12∨k=13∨k=14∨k=15:=by omega
 ·exact⟨_,_,_,RtP.of 3138550867693340381917894711603833208041954350195162480639 1 9 192 d f.2.2 (by decide +kernel) (by decide +kernel) (by decide +kernel) (by decide +kernel) (by decide +kernel) (by decide +kernel) (by decide +kernel) (by decide +kernel)⟩
 ·exact⟨_,_,_,RtP.of 340282366920938463463374607431768211455 96 9 224 d f.2.2 (by decide +kernel) (by decide +kernel) (by decide +kernel) (by decide +kernel) (by decide +kernel) (by decide +kernel) (by decide +kernel) (by decide +kernel)⟩
 ·exact⟨_,_,_,RtP.of 57896044605178124381348723474703786765043071707645157097766815654433548926975 1 1 256 d f.2.2 (by decide +kernel) (by decide +kernel) (by decide +kernel) (by decide +kernel) (by decide +kernel) (by decide +kernel) (by decide +kernel) (by decide +kernel)⟩
 ·exact⟨_,_,_,RtP.of 19701003098197239606139520050071806902539869635232723333974146702122860885748435164523633044129469000930803486556159 1 17 384 d f.2.2 (by decide +kernel) (by decide +kernel) (by decide +kernel) (by decide +kernel) (by decide +kernel) (by decide +kernel) (by decide +kernel) (by decide +kernel)⟩
 ·exact⟨_,_,_,RtP.of 3432398830065304857490950399540696608634717650071652704697231729592771591698828026061279820330727277488648155695740429018560993999858321906287014145557528575 1 1 521 d f.2.2 (by decide +kernel) (by decide +kernel) (by decide +kernel) (by decide +kernel) (by decide +kernel) (by decide +kernel) (by decide +kernel) (by decide +kernel)⟩
 ·exact⟨_,_,_,RtP.of 57896044618658097711785492504343953926634992332820282019728792003954417335831 1 1 256 d f.2.2 (by decide +kernel) (by decide +kernel) (by decide +kernel) (by decide +kernel) (by decide +kernel) (by decide +kernel) (by decide +kernel) (by decide +kernel)⟩
 ·exact⟨_,_,_,RtP.of 666148799220022437413542779401245871878596899079 1 1 160 d f.2.2 (by decide +kernel) (by decide +kernel) (by decide +kernel) (by decide +kernel) (by decide +kernel) (by decide +kernel) (by decide +kernel) (by decide +kernel)⟩
 ·exact⟨_,_,_,RtP.of 11360811466227176393776268997955464036670366072972496152217736470655 1 1 224 d f.2.2 (by decide +kernel) (by decide +kernel) (by decide +kernel) (by decide +kernel) (by decide +kernel) (by decide +kernel) (by decide +kernel) (by decide +kernel)⟩
 ·exact⟨_,_,_,RtP.of 38442478198522672110404873314500824546518975100471527601867800722515758098875 1 9 256 d f.2.2 (by decide +kernel) (by decide +kernel) (by decide +kernel) (by decide +kernel) (by decide +kernel) (by decide +kernel) (by decide +kernel) (by decide +kernel)⟩
 ·exact⟨_,_,_,RtP.of 881796661119583177080954921223009760444756386359757596386480207644320434401074909047750749951763 1 3 320 d f.2.2 (by decide +kernel) (by decide +kernel) (by decide +kernel) (by decide +kernel) (by decide +kernel) (by decide +kernel) (by decide +kernel) (by decide +kernel)⟩
 ·exact⟨_,_,_,RtP.of 10829635385059658086534618421166302489898058193508824300040809251910544967012980911118280991422267044220354208986665 1 0 384 d f.2.2 (by decide +kernel) (by decide +kernel) (by decide +kernel) (by decide +kernel) (by decide +kernel) (by decide +kernel) (by decide +kernel) (by decide +kernel)⟩
 ·exact⟨_,_,_,RtP.of 4474481103825116275828301407579576711081304822049177255672298593600028505206776219958967152095978471382723265193213672968981947154961964268035267303908473 1 0 512 d f.2.2 (by decide +kernel) (by decide +kernel) (by decide +kernel) (by decide +kernel) (by decide +kernel) (by decide +kernel) (by decide +kernel) (by decide +kernel)⟩
 ·exact⟨_,_,_,RtP.of 125 1 0 8 d f.2.2 (by decide +kernel) (by decide +kernel) (by decide +kernel) (by decide +kernel) (by decide +kernel) (by decide +kernel) (by decide +kernel) (by decide +kernel)⟩
 ·exact⟨_,_,_,RtP.of 15 4 5 8 d f.2.2 (by decide +kernel) (by decide +kernel) (by decide +kernel) (by decide +kernel) (by decide +kernel) (by decide +kernel) (by decide +kernel) (by decide +kernel)⟩
 ·exact⟨_,_,_,RtP.of 119 1 5 8 d f.2.2 (by decide +kernel) (by decide +kernel) (by decide +kernel) (by decide +kernel) (by decide +kernel) (by decide +kernel) (by decide +kernel) (by decide +kernel)⟩
def Nt(x:Nat)(b:Bool)(w:World)(e:Ending)(w':World):Prop:=
 ∃p n,e=.returned (.tuple #[.slice p (dl x) n,.bool b])∧Sl w' p x∧Gr w w'
theorem inv_pN(a m u:Nat)(hp:Prm m)(hd:dl m≤18)(h0:a≠0)(ha:a<m)(hu:u<m)(hau:a*u%m=1)(pa p:Option Addr)(na n:Nat)(w:World)(sa:Sl w pa a)(sp:Sl w p m):
 Calls prog 63 #[.slice pa (dl a) na,.slice p (dl m) n] w (Nt u true w):=by
 have v:=hp.1;refine(rinv_any a m na n pa p w sa sp (by have:=dl_low a m 400 (by omega) (by omega);omega) (by omega) (by omega)).mono ?_;intro e x h;obtain⟨t,f,i,j,d,l,q⟩:=h.1 (hp.cop (not_dvd h0 ha));have:t=u:=inv_one a m t u j hu d hau;subst this;exact⟨f,i,l,q,h.2.2⟩
theorem sqrt_pN(a m s:Nat){q S z:Nat}(hR:RtP m q S z)(hp:Prm m)(ho:m%2=1)(hd:dl m≤18)(h0:a≠0)(ha:a<m)(hE:a^((m-1)/2)%m=1)(hs:s<m)(hs2:s%2=0)(hss:s*s%m=a)(pa p:Option Addr)(na n:Nat)(w:World)(sa:Sl w pa a)(sp:Sl w p m):
 Calls prog 42 #[.slice pa (dl a) na,.slice p (dl m) n] w (Nt s true w):=by
 have C:=hp.1;refine(rsqrt_yes a m n na q S z pa p w sa sp (by omega) hp ho ha h0 (by have:=hR.z2;have:=hR.zm;omega) hE hR.odd hR.is hR.s1 hR.s2 hR.z2 hR.zm hR.zE hR.zn).mono ?_;intro e D h;obtain⟨x,i,j,l,v,d,A,f,B⟩:=h
 have:x=s:=by
  rcases sq_pm hp l hs (d.trans hss.symm) with h|h
  ·exact h
  ·omega
 subst this;exact⟨i,j,A,f,B⟩
theorem sqrt_none_pN(a m:Nat)(hp:Prm m)(ho:m%2=1)(hd:dl m≤18)(h0:a≠0)(ha:a<m)(hE:a^((m-1)/2)%m≠1)(pa p:Option Addr)(na n:Nat)(w:World)(sa:Sl w pa a)(sp:Sl w p m):
 Cg 42 #[.slice pa (dl a) na,.slice p (dl m) n] w (.tuple #[.slice none 0 0,.bool false]):=by
 have d:=hp.1;exact rsqrt_no a m n na pa p w sa sp (by omega) ha h0 (by omega) ((euler hp ho h0 ha).resolve_left hE)
end
end Go.Proofs.YtiigakdbabijhaaGreat