import Derived.Deep.AppendSrc
import Derived.Test.YtffhepbppiocbaaXARAddM
import Derived.Test.YtffhepbppiocbaaXAIX
namespace Go.Proofs.Ytffhepbppiocbaa
open Go.RowKit Go.Proofs.Try
set_option maxRecDepth 100000
set_option maxHeartbeats 8000000
section
attribute [local go_sem ↓] uz1
attribute [local go_sem] uz2
section
attribute [local go_sem ↓] bsl_is
def appS(ty:TypeId)(xs:Array Value):Sem Value:=Builtin.append_ #[34,34] ty xs
theorem app_is(ty:TypeId)(xs:Array Value):Builtin.append_ #[34,34] ty xs=appS ty xs:=rfl
theorem infoU:(prog.info? 55).map (fun i=>(i.zero,i.size,i.bytes))=some (some (.int .u32 0),1,4):=by kernel_rfl
theorem append_digits(w:World)(b n x:Nat)(p:Option Addr)(h:Sl w p x)(hx:dl x≤1000):
 ∃p' c w',(∀ty,(appS ty #[.slice (some ⟨b,0,none⟩) 0 0,.slice p (dl x) n]).run prog w=.ok (.slice p' (dl x) c) w')∧Sl w' p' x∧Gr w w':=by
 obtain⟨i,D,H,I,J⟩:∃i,prog.info? 55=some i∧i.zero=some (.int .u32 0)∧i.size=1∧i.bytes=4:=by
  have l:=infoU
  cases hc:prog.info? 55 with
  | none=>rw[hc]at l;cases l
  | some i=>
   rw[hc]at l;simp only[Option.map_some,Option.some.injEq,Prod.mk.injEq]at l;exact⟨i,rfl,l.1,l.2.1,l.2.2⟩
 by_cases l:dl x=0
 ·have K:=dl_eq_zero x l;subst K
  have f:Src prog i.size 34 (.slice p 0 n) 0 [] w:=by
   cases p with
   | none=>exact Src.ofNil w underlying34 n
   | some a=>exact Src.ofSlice w underlying34 a 0 n [] (by simp) (fun j u d=>by simp at d) (fun u B=>by cases B)
  refine⟨some ⟨b,0,none⟩,0,w,fun ty=>?_,Sl.zero _ _,Gr.refl _⟩;have A:=run_append_room_src w 34 34 ty 55 i underlying34 D b 0 0 0 (.slice p 0 n) 0 [] f (by omega) (fun j d=>by simp at d) (fun j d=>by simp at d);rw[dl_zero];exact A
 ·obtain⟨c,rfl,hc,L⟩:=h.some (by omega)
  have C:(nd (dl x) x).toList.length=dl x*i.size:=by rw[I,Array.length_toList,nd_size,Nat.mul_one]
  have f:Src prog i.size 34 (.slice (some ⟨c,0,none⟩) (dl x) n) (dl x) (nd (dl x) x).toList w:=by
   refine Src.ofSlice w underlying34 ⟨c,0,none⟩ (dl x) n _ C (fun j u d=>?_) (fun u B=>?_)
   ·rw[Array.getElem?_toList]at d
    have q:j<dl x:=by
     by_cases hl:j<dl x
     ·exact hl
     ·rw[Array.getElem?_eq_none (by rw[nd_size];omega)]at d;cases d
    rw[nd_get _ _ _ q]at d
    have e:(⟨c,0,none⟩:Addr).add j=⟨c,j,none⟩:=by rw[Addr.add_lit,Nat.zero_add]
    rw[e,cell_blk,L j q,d]
   ·obtain⟨j,d⟩:=List.mem_iff_getElem?.1 B;rw[Array.getElem?_toList]at d
    have q:j<dl x:=by
     by_cases hl:j<dl x
     ·exact hl
     ·rw[Array.getElem?_eq_none (by rw[nd_size];omega)]at d;cases d
    rw[nd_get _ _ _ q]at d
    cases d
    rfl
  have A:=fun ty=>run_append_grow_src w 34 34 ty 55 i _ underlying34 D H (some ⟨b,0,none⟩) 0 0 [] (run_firstCells_some w.drew i.size 0 ⟨b,0,none⟩ 0 0 [] (by simp) (fun j u d=>by simp at d)) (.slice (some ⟨c,0,none⟩) (dl x) n) (dl x) (nd (dl x) x).toList f (by omega) (by omega) (by rw[J,Nat.zero_add];simp only[Builtin.nextslicecap];rw[if_pos (by omega)];omega);simp only[Nat.zero_add,List.nil_append]at A
  refine⟨_,_,_,A,?_,?_⟩
  ·intro k G
   refine⟨w.heap.size,rfl,?_,?_⟩
   ·simp[go_sem]
   ·have e:w.heap.size=w.drew.heap.size:=by simp[go_sem]
    rw[blk_alloc_at _ _ _ _ _ e,Array.getElem?_append_left (by simp[nd_size,G])];simp[nd_get _ _ _ G]
  ·exact grA
def rdD(w:World)(b i:Nat):Nat:=match (blk w b)[i]? with|some (.int _ z)=>z.toNat|_=>0
def numD(f:Nat→Nat):Nat→Nat
 | 0=>0
 | n+1=>numD f n+f n*pq n
def mS(w:World):Value→Nat
 | .slice (some ⟨b,_,_⟩) n _=>numD (rdD w b) n
 | _=>0
theorem numD_is(f:Nat→Nat)(x:Nat):∀n,(∀i,i<n→f i=dg x i)→numD f n=x%pq n
 | 0,_=>by rw[pq_zero,Nat.mod_one];rfl
 | n+1,h=>by
  show numD f n+f n*pq n=_
  rw[numD_is f x n (fun i hi=>h i (by omega)),h n (by omega),dmod_succ]
theorem mS_is{w:World}{p:Option Addr}{x n:Nat}(h:Sl w p x):mS w (.slice p (dl x) n)=x:=by
 by_cases h0:dl x=0
 ·have e:=dl_eq_zero x h0;subst e
  cases p <;> rfl
 ·obtain⟨b,rfl,j,d⟩:=h.some (by omega)
  show numD (rdD w b) (dl x)=x
  rw[numD_is (rdD w b) x (dl x) (fun i f=>by unfold rdD;rw[d i f];rfl),Nat.mod_eq_of_lt (dl_lt x)]
theorem subM_is(t c m:Nat)(ht:t<m)(hc:c<m):subM t c m<m∧∃k:Int,(subM t c m:Int)=t-c+k*m:=by
 unfold subM
 split
 ·exact⟨by omega,0,by omega⟩
 ·exact⟨by omega,1,by omega⟩
structure RI(a m r s t u:Nat):Prop where
 rm:r≤m
 sm:s≤m
 tm:t<m
 um:u<m
 d1:(m:Int)∣(a:Int)*t-r
 d2:(m:Int)∣(a:Int)*u-s
 g:Nat.gcd r s=Nat.gcd m a
theorem RI.start(a m:Nat)(h:1<m):RI a m m (a%m) 0 1:=by
 refine⟨Nat.le_refl _,Nat.le_of_lt (Nat.mod_lt _ (by omega)),by omega,h,⟨-1,by simp⟩,⟨((a/m:Nat):Int),?_⟩,?_⟩
 ·have d:=Nat.div_add_mod a m;obtain⟨q,f⟩:=exl (a/m);obtain⟨v,i⟩:=exl (a%m);rw[f,i]at d ⊢
  have j:(m:Int)*q+v=a:=by exact_mod_cast d
  rw[←j]
  grind
 ·rw[Nat.gcd_comm,←Nat.gcd_rec]
theorem RI.step{a m r s t u:Nat}(h:RI a m r s t u)(h0:0<s)(q v c x:Nat)(hq:r/s=q)(hv:r%s=v)(hc:q%m*u%m=c)(hx:subM t c m=x):RI a m s v u x∧v<s:=by
 have C:0<m:=by have:=h.tm;omega
 have f:v<s:=by rw[←hv];exact Nat.mod_lt _ h0
 have i:c<m:=by rw[←hc];exact Nat.mod_lt _ C
 obtain⟨l,k,A⟩:=subM_is t c m h.tm i;rw[hx]at l A
 refine⟨⟨h.sm,by have:=h.sm;omega,h.um,l,h.d2,?_,?_⟩,f⟩
 ·obtain⟨D,I⟩:=h.d1;obtain⟨G,J⟩:=h.d2;have B:=Nat.div_add_mod r s;rw[hq,hv]at B
  have K:(s:Int)*q+v=r:=by exact_mod_cast B
  rw[pow_mul]at hc;have j:=Nat.div_add_mod (q*u) m;rw[hc]at j;obtain⟨d,H⟩:∃d,q*u/m=d:=⟨_,rfl⟩;rw[H]at j
  have L:(m:Int)*d+c=q*u:=by exact_mod_cast j
  refine⟨D-q*G+a*d+a*k,?_⟩;rw[A]
  grind
 ·rw[←h.g,←hv,Nat.gcd_comm,←Nat.gcd_rec,Nat.gcd_comm]
theorem RI.last{a m r t u:Nat}(h:RI a m r 0 t u)(h1:1<m):r=Nat.gcd m a∧0<r∧(r=1→a*t%m=1):=by
 have d:=h.g;rw[Nat.gcd_zero_right]at d;have j:0<Nat.gcd m a:=Nat.gcd_pos_of_pos_left _ (by omega);refine⟨d,by omega,fun e=>?_⟩;obtain⟨c,f⟩:=h.d1;rw[e]at f;obtain⟨k,i⟩:=inv_pos (a*t) m c h1 (by rw[←f];simp);rw[i,Nat.add_mul_mod_self_left,Nat.mod_eq_of_lt h1]
def InvR(a m:Nat)(w:World)(e:Ending)(w':World):Prop:=
 (Nat.gcd m a=1→∃t p n,t<m∧a*t%m=1∧e=.returned (.tuple #[.slice p (dl t) n,.bool true])∧Sl w' p t)∧(Nat.gcd m a≠1→e=.returned (.tuple #[.slice none 0 0,.bool false]))∧Gr w w'
attribute [local go_sem ↓] app_is
theorem rinv_any(a m n n':Nat)(p q:Option Addr)(w:World)(hp:Sl w p a)(hq:Sl w q m)(ha:dl a≤400)(hm:dl m≤400)(h1:1<m):
 Calls prog 70 #[.slice p (dl a) n,.slice q (dl m) n'] w (InvR a m w):=by
 have H1:Hid (∀w' r z k k' p1 p',dl r≤400→Sl w' p1 r→Sl w' p' 1→cmpZ r 1=z→Calls prog 26 #[.slice p1 (dl r) k,.slice p' 1 k'] w' fun e aj=>e=.returned (.int .i64 z)∧Gr w' aj):=fun w' r z k k' p1 p' h2 h3 h4 e=>e▸rcmp_any r 1 k k' p1 p' w' h3 h4 (by omega) (by decide)
 have aa:cmpZ m 1=1:=by unfold cmpZ;split <;> (try split) <;> omega
 have G:=fun w' k' p' (g:Gr w w') (h:Sl w' p' 1)=>H1.out w' m 1 n' k' q p' hm (hq.gr g) h aa;have f:=fun w' (g:Gr w w')=>rmod_any a m n n' p q w' (hp.gr g) (hq.gr g) (by omega) (by omega) (by omega);have H:=fun w' k p' x y (g:Gr w w') (h:Sl w' p' x) (hx:dl x≤400) (e:x%m=y)=>(e▸rmod_any x m k n' p' q w' h (hq.gr g) (by omega) (by omega) (by omega):Calls prog 29 #[.slice p' (dl x) k,.slice q (dl m) n'] w' (Nm y w'));have I:=fun w' k k' p1 p2 x y z (g:Gr w w') (s1:Sl w' p1 x) (s2:Sl w' p2 y) (l1:x<m) (l2:y<m) (e:x*y%m=z)=>(e▸rmulmod_any x y m k k' n' p1 p2 q w' s1 s2 (hq.gr g) (dl_low x m 400 (by omega) hm) (dl_low y m 400 (by omega) hm) hm (by omega):Calls prog 27 #[.slice p1 (dl x) k,.slice p2 (dl y) k',.slice q (dl m) n'] w' (Nm z w'));have J:=fun w' k k' p1 p2 x y z (g:Gr w w') (s1:Sl w' p1 x) (s2:Sl w' p2 y) (l1:x<m) (l2:y<m) (e:subM x y m=z)=>(e▸rsubmod_any x y m k k' n' p1 p2 q w' s1 s2 (hq.gr g) hm l1 l2:Calls prog 69 #[.slice p1 (dl x) k,.slice p2 (dl y) k',.slice q (dl m) n'] w' (Nm z w'));have L:=fun w' b (g:Gr w w')=>append_digits w' b n' m q (hq.gr g) (by omega);have P:Hid _:=fun x hx=>dl_low x m 400 hx hm;have HS:Hid _:=RI.start a m h1;obtain⟨X,eX⟩:=exl (a%m);obtain⟨A,eA⟩:=exl (dl a);obtain⟨K,eK⟩:=exl (dl m);simp only[eX,eA,eK]at G f H I J L HS ⊢;have HC:Hid _:=G;have HM:Hid _:=f;have HQ:Hid _:=H;have Q:Hid _:=I;have S:Hid _:=J;have HA:Hid _:=L;have HK:Hu (dl m=K∧1<m):=fun _=>⟨eK,h1⟩;have aq:∀w,(bslS 34 1 #[(0,.int .u32 1)]).run prog w=.ok (.slice (some ⟨w.heap.size,0,none⟩) 1 1) (w.alloc (.cells (nd 1 1) 55)):=fun w=>build1 1 (by decide) w
 have ab:∀w,(bslS 34 0 #[]).run prog w=.ok (.slice (some ⟨w.heap.size,0,none⟩) 0 0) (w.alloc (.cells #[] 55)):=fun w=>by kernel_rfl
 clear G f H I J L hp hq ha hm h1 aa eX eA eK
 go_enter func70,ntmps70
 go_upto_region 6 with (first
  | (go_at_call 26;refine(HC.out _ _ _ ((Gr.refl _).alloc _) (sl_new w)).mono ?_;rintro e W1 ⟨rfl,G1⟩;have U:=(((Gr.refl w).alloc _).trans G1).alloc (.cells #[] 55);obtain⟨pr,cr,Wa,C,SR,GA⟩:=HA.out _ W1.heap.size U;have V:=U.trans GA)
  | (go_at_call 29;refine(HM.out _ V).mono ?_;rintro e W2 ⟨ps,ns,rfl,SS,G2⟩;have ac:=V.trans G2;have ae:=SR.gr G2))
 have j:Hid (Sl W2 pr m∧Sl W2 ps X∧Gr w W2):=⟨ae,SS,ac⟩;clear C HC HM HA SR GA V SS G2 ac ae G1 U
 go_loopw [6,7,8,9] (fun ra sa ta ua wr=>∃(r s t u n1 n2 n3 n4:Nat) (p1 p2 p3 p4:Option Addr),ra=.slice p1 (dl r) n1∧sa=.slice p2 (dl s) n2∧ta=.slice p3 (dl t) n3∧ua=.slice p4 (dl u) n4∧Hid (RI a m r s t u)∧Hid (Sl wr p1 r∧Sl wr p2 s∧Sl wr p3 t∧Sl wr p4 u∧Gr w wr)) (fun _ sa _ _ wr=>mS wr sa)
 case atStart=>
  refine⟨m,X,0,1,cr,ns,0,1,pr,ps,none,some ⟨W2.heap.size,0,none⟩,by rw[(HK.out ()).1],rfl,rfl,rfl,HS,⟨j.out.1.gr ((Gr.refl _).alloc _),j.out.2.1.gr ((Gr.refl _).alloc _),Sl.zero _ _,sl_new W2,j.out.2.2.alloc _⟩⟩
 case round=>
  obtain⟨r,s,t,u,n1,n2,n3,n4,p1,p2,p3,p4,rfl,rfl,rfl,rfl,HI,d⟩:=hrel;clear HS j
  by_cases hs:s=0
  ·subst hs;obtain⟨l1,l2,l3⟩:=HI.out.last (HK.out ()).2;have l:=P.out r HI.out.rm;have W:=HI.out.tm;rw[dl_zero]
   by_cases hr1:r=1
   ·have Y:Hid _:=fun w' k' p' g h=>H1.out w' r 0 n1 k' p1 p' l g h (by rw[hr1];rfl);have HE:Hid (Nat.gcd m a=1∧a*t%m=1∧t<m):=⟨by rw[←l1];exact hr1,l3 hr1,W⟩;clear H1 HQ Q S P HK HI hr1 l1 l2 l3 l W ab
    go_wp2_with (go_at_call 26;refine(Y.out _ _ _ (d.out.1.gr ((Gr.refl _).alloc _)) (sl_new _)).mono ?_;rintro e W3 ⟨rfl,D⟩;have B:=((Gr.refl _).alloc _).trans D)
    go_ret2
    exact⟨fun _=>⟨t,p3,n3,HE.out.2.2,HE.out.2.1,rfl,d.out.2.2.1.gr B⟩,fun h=>absurd HE.out.1 h,d.out.2.2.2.2.trans B⟩
   ·have Y:Hid _:=fun w' k' p' g h=>H1.out w' r 1 n1 k' p1 p' l g h (by unfold cmpZ;split <;> (try split) <;> omega)
    have HE:Hid (¬Nat.gcd m a=1):=by rw[←l1];exact hr1
    clear H1 HQ Q S P HK HI hr1 l1 l2 l3 l W ab
    go_wp2_with (go_at_call 26;refine(Y.out _ _ _ (d.out.1.gr ((Gr.refl _).alloc _)) (sl_new _)).mono ?_;rintro e W3 ⟨rfl,D⟩;have B:=((Gr.refl _).alloc _).trans D)
    go_ret2
    exact⟨fun h=>absurd h HE.out,fun _=>rfl,d.out.2.2.2.2.trans B⟩
  ·have s0:0<s:=by omega
   have ak:(0:Int)<((dl s:Nat):Int):=by
    have:dl s≠0:=fun e=>hs (dl_eq_zero s e)
    omega
   have ar:=decide_eq_true ak;obtain⟨b,hb⟩:=exl (r/s);obtain⟨v,hv⟩:=exl (r%s);obtain⟨y,hy⟩:=exl (b%m);obtain⟨c,G⟩:=exl (y*u%m);obtain⟨x,hx⟩:=exl (subM t c m);have Z:=HI.out
   have af:0<m:=by have:=(HK.out ()).2;omega
   have HN:=Z.step s0 b v c x hb hv (by rw[hy];exact G) hx
   have au:b≤r:=by rw[←hb];exact Nat.div_le_self _ _
   have i:Hid (b%m=y∧y*u%m=c∧subM t c m=x∧dl b≤400∧y<m∧u<m∧t<m∧c<m∧dl v≤400∧RI a m s v u x∧v<s):=⟨hy,G,hx,P.out b (by have:=Z.rm;omega),by rw[←hy];exact Nat.mod_lt _ af,Z.um,Z.tm,by rw[←G];exact Nat.mod_lt _ af,P.out v (by have:=Z.sm;have:=HN.2;omega),HN.1,HN.2⟩
   have HD:Hu (Calls prog 46 #[.slice p1 (dl r) n1,.slice p2 (dl s) n2] wr (Nm2 b v wr)):=fun _=>by
    have h:=rdiv_any r s n1 n2 p1 p2 wr d.out.1 d.out.2.1 (by have:=P.out r Z.rm;omega) (by have:=P.out s Z.sm;omega) s0;rw[hb,hv]at h;exact h
   go_wp2_with (first
    | (go_at_call 46;refine(HD.out ()).mono ?_;rintro e W3 ⟨pb,nb,pv,nv,rfl,Sb,Sv,D⟩;have ag:=d.out.2.2.2.2.trans D)
    | (go_at_call 29;refine(HQ.out _ nb pb b y ag Sb i.out.2.2.2.1 i.out.1).mono ?_;rintro e W4 ⟨py,ny,rfl,Sy,G4⟩;have ah:=ag.trans G4)
    | (go_at_call 27;refine(Q.out _ ny n4 py p4 y u c ah Sy (d.out.2.2.2.1.gr (D.trans G4)) i.out.2.2.2.2.1 i.out.2.2.2.2.2.1 i.out.2.1).mono ?_;rintro e W5 ⟨pc,nc,rfl,Sc,G5⟩;have ai:=ah.trans G5)
    | (go_at_call 69;refine(S.out _ n3 nc p3 pc t c x ai (d.out.2.2.1.gr ((D.trans G4).trans G5)) Sc i.out.2.2.2.2.2.2.1 i.out.2.2.2.2.2.2.2.1 i.out.2.2.1).mono ?_;rintro e W6 ⟨px,nx,rfl,Sx,G6⟩;have ao:=(ai.trans G6).alloc (.cells #[] 55);have GG:=(((G4.trans G5).trans G6).alloc (.cells #[] 55));obtain⟨ap,cw,Wa,C,SV,GA⟩:=append_digits _ W6.heap.size nv v pv (Sv.gr GG) (Nat.le_trans i.out.2.2.2.2.2.2.2.2.1 (by decide))))
   go_roundw
   case rel=>
    have GT:=(D.trans GG).trans GA;exact⟨s,v,u,x,n2,cw,n4,nx,p2,ap,p4,px,rfl,rfl,rfl,rfl,i.out.2.2.2.2.2.2.2.2.2.1,⟨d.out.2.1.gr GT,SV,d.out.2.2.2.1.gr GT,Sx.gr (((Gr.refl _).alloc _).trans GA),ao.trans GA⟩⟩
   case measure=>
    rw[mS_is SV,mS_is d.out.2.1];exact i.out.2.2.2.2.2.2.2.2.2.2
end
end
section
section
variable {a b m c n n' n'':Nat} {p q r:Option Addr} {w:World}
theorem mm_any(sa:Sl w p a)(sb:Sl w q b)(sm:Sl w r m)(ha:a<m)(hb:b<m)(hm:dl m≤400)(hc:a*b%m=c):
 Calls prog 27 #[.slice p (dl a) n,.slice q (dl b) n',.slice r (dl m) n''] w (Rt (.n c) w):=
 Rt.n (hc▸rmulmod_any a b m n n' n'' p q r w sa sb sm (dl_low a m 400 (by omega) hm) (dl_low b m 400 (by omega) hm) hm (by omega))
theorem am_any(sa:Sl w p a)(sb:Sl w q b)(sm:Sl w r m)(ha:a<m)(hb:b<m)(hm:dl m≤400)(hc:(a+b)%m=c):
 Calls prog 28 #[.slice p (dl a) n,.slice q (dl b) n',.slice r (dl m) n''] w (Rt (.n c) w):=
 Rt.n (hc▸raddmod_any a b m n n' n'' p q r w sa sb sm hm ha hb)
theorem sm_any(sa:Sl w p a)(sb:Sl w q b)(sm:Sl w r m)(ha:a<m)(hb:b<m)(hm:dl m≤400)(hc:subM a b m=c):
 Calls prog 69 #[.slice p (dl a) n,.slice q (dl b) n',.slice r (dl m) n''] w (Rt (.n c) w):=
 Rt.n (hc▸rsubmod_any a b m n n' n'' p q r w sa sb sm hm ha hb)
theorem iv_any(sa:Sl w p a)(sm:Sl w r m)(ha:a<m)(hm:dl m≤400)(h1:1<m)(hc:c<m)(hac:a*c%m=1):
 Calls prog 70 #[.slice p (dl a) n,.slice r (dl m) n'] w (Rt (.nb c true) w):=by
 have i:Nat.gcd m a=1:=by
  have h1:=Nat.gcd_dvd_left m a;have j:=Nat.dvd_trans (Nat.gcd_dvd_right m a) (Nat.dvd_mul_right a c);have f:=(Nat.dvd_mod_iff h1).2 j;rw[hac]at f;exact Nat.dvd_one.1 f
 refine(rinv_any a m n n' p r w sa sm (dl_low a m 400 (by omega) hm) hm h1).mono fun e A h=>?_;obtain⟨t,B,k,l,d,q,x⟩:=h.1 i;obtain rfl:=inv_one a m t c l hc d hac;exact⟨_,q,⟨_,_,rfl,x⟩,h.2.2⟩
theorem cz_any{z:Int}(sa:Sl w p a)(sb:Sl w q b)(ha:dl a≤400)(hb:dl b≤400)(hz:cmpZ a b=z):
 Calls prog 26 #[.slice p (dl a) n,.slice q (dl b) n'] w (Rt (.c (.int .i64 z)) w):=
 Rt.c (hz▸rcmp_any a b n n' p q w sa sb (by omega) (by omega))
theorem sb_any(sa:Sl w p a)(sb:Sl w q b)(ha:dl a≤400)(h:b≤a)(hc:a-b=c):
 Calls prog 21 #[.slice p (dl a) n,.slice q (dl b) n'] w (Rt (.n c) w):=
 Rt.n (hc▸rsub_any a b n n' p q w sa sb (by omega) h)
theorem nt_any(sa:Sl w p a):Calls prog 39 #[.slice p (dl a) n] w (Rt (.c (.agg (nw 9 a))) w):=Rt.c (rnat_any a n p w sa)
theorem fm_any(ha:a<M):Calls prog 20 #[.agg (nw 9 a)] w (Rt (.n a) w):=Rt.n (from_any a ha w)
theorem bt_any(sa:Sl w p a)(ha:dl a≤400)(hc:bl a=c):Calls prog 33 #[.slice p (dl a) n] w (Rt (.c (.int .i64 c)) w):=Rt.same (hc▸rbits_any a n p w sa (by omega))
end
theorem wrap_id{x:Int}(h1 : -9223372036854775808≤x)(h2:x≤9223372036854775807):IntKind.i64.wrap x=x:=wiA
theorem tdiv8{x z:Int}(h0:0≤x)(h1:x≤100000)(hz:x/8=z):IntKind.i64.wrap (x.tdiv 8)=z:=by
 rw[Int.tdiv_eq_ediv_of_nonneg h0,hz];exact wrap_id (by omega) (by omega)
theorem subM_lt{a b m:Nat}(ha:a<m)(hb:b<m):subM a b m<m:=by unfold subM;split <;> omega
end
section
section
variable (p:Option Addr) (x n:Nat) (q:Option Addr) (y m:Nat) (f:Bool)
theorem ptA_size:(ptA p x n q y m f).size=3:=rfl
theorem ptA_one:(ptA p x n q y m f).all (·.oneCell')=true:=by simp[ptA,Value.oneCell']
theorem loadPt_is:LdI 49:=fun _=>rfl
theorem storePt_is:StI 49:=fun _ _=>rfl
theorem loadPt:LdS 49 3:=ldS
theorem storePt:StS 49 3 (ptA p x n q y m f):=stS (ptA_size p x n q y m f) (ptA_one p x n q y m f)
theorem zvPt_is:zeroValue 49=zvS 49:=rfl
theorem zvPt(w:World):(zvS 49).run prog w=.ok (.agg (ptA none 0 0 none 0 0 false)) w:=by kernel_rfl
theorem buildPt_is(p:Array (Nat×Value)):Instr.build 49 p=buildF 49 p:=rfl
theorem buildPt3(w:World):(buildF 49 #[(0,.slice p (dl x) n),(1,.slice q (dl y) m),(2,.bool f)]).run prog w=.ok (.agg (ptA p x n q y m f)) w:=by kernel_rfl
theorem buildPt2(w:World):(buildF 49 #[(0,.slice p (dl x) n),(1,.slice q (dl y) m)]).run prog w=.ok (.agg (ptA p x n q y m false)) w:=by kernel_rfl
theorem buildPtI(w:World):(buildF 49 #[(2,.bool f)]).run prog w=.ok (.agg (ptA none 0 0 none 0 0 f)) w:=by kernel_rfl
theorem rd_pt:RdC 49 (ptA p x n q y m f):=rdC 3 (ptA_size p x n q y m f)
theorem ptA_no(i:Nat)(z:Int):(ptA p x n q y m f)[i]? ≠ some (Value.int .u32 z):=by
 intro h
 match i,h with
 | 0,h=>simp[ptA]at h
 | 1,h=>simp[ptA]at h
 | 2,h=>simp[ptA]at h
 | k+3,h=>simp[ptA]at h
end
abbrev uz8:=And.intro @loadPt_is<|And.intro @storePt_is<|And.intro @zvPt_is<|And.intro @buildPt_is<|And.intro @loadC_is<|And.intro @loadPn_is<|And.intro @loadCu_is<|And.intro @storePn_is<|And.intro @zvPn_is<|And.intro @buildPn_is<|And.intro @storeCu_is<|And.intro @zvCu_is @buildCu_is
abbrev uz9:=And.intro @loadPt<|And.intro @storePt<|And.intro @zvPt<|And.intro @buildPt3<|And.intro @buildPt2<|And.intro @buildPtI<|And.intro @ptA_size<|And.intro @crA_size<|And.intro @loadC<|And.intro @loadPn<|And.intro @loadPX<|And.intro @loadPY<|And.intro @pnt_size<|And.intro @pnt_X<|And.intro @pnt_Y<|And.intro @storePn<|And.intro @zvPn<|And.intro @buildPn2<|And.intro @buildPn3<|And.intro @storeCu<|And.intro @zvCu<|And.intro @buildCu9<|And.intro @cu_size @loadCu
abbrev uz10:=And.intro @bsl_is<|And.intro @loadC_is<|And.intro @storeC_is<|And.intro @loadPt_is<|And.intro @storePt_is<|And.intro @zvPt_is<|And.intro @buildPt_is<|And.intro @loadPn_is<|And.intro @storePn_is<|And.intro @zvPn_is<|And.intro @loadCu_is<|And.intro @storeCu_is<|And.intro @zvCu_is<|And.intro @buildCu_is @buildPn_is
abbrev uz11:=And.intro @loadC<|And.intro @storeC0<|And.intro @storeCr<|And.intro @crA_size<|And.intro @loadPt<|And.intro @storePt<|And.intro @zvPt<|And.intro @ptA_size<|And.intro @loadPn<|And.intro @storePn<|And.intro @zvPn<|And.intro @pnt_size<|And.intro @loadCu<|And.intro @storeCu<|And.intro @zvCu<|And.intro @cu_size<|And.intro @buildCu0<|And.intro @buildPnI<|And.intro @buildPn2<|And.intro @loadCP<|And.intro @loadCA<|And.intro @loadCB<|And.intro @loadCN<|And.intro @loadCG<|And.intro @loadCX<|And.intro @loadCY<|And.intro @cu_P<|And.intro @cu_A<|And.intro @cu_B<|And.intro @cu_N<|And.intro @cu_G<|And.intro @cu_X<|And.intro @cu_Y<|And.intro @frz_setBlk<|And.intro @blk_setBlk<|And.intro @setBlk_setBlk @blk_other
end
section
attribute [local go_sem ↓] uz1
attribute [local go_sem] uz2
section
attribute [local go_sem ↓] uz8 Go.wp_at_zero Go.wp_at_succ
attribute [local go_sem] uz9
theorem dl_nought(x:Nat):((dl x:Int)==0)=decide (x=0):=by
 by_cases h:x=0
 ·subst h;rfl
 grind [dl,dl_eq_zero]
theorem cmpZ_nought(a b:Nat):(cmpZ a b==0)=decide (a=b):=by
 grind [cmpZ]
theorem rsize_any(id:Int)(P A B N X Y:Nat)(qc:Nat→Option Addr×Nat)(z:Nat)(hd:dl P≤18)(hz:(bl P+7)/8=z)(w:World)(HQ:∀k,Sl w (qc k).1 (six P A B N X Y k)):
 Cg 24 #[.agg (crA id (six P A B N X Y) qc)] w (.int .i64 z):=by
 obtain⟨t,i⟩:=exl (bl P)
 have D:(t:Int)≤576:=by
  have:(bl P+31)/32≤18:=hd
  omega
 have j:IntKind.i64.wrap ((t:Int)+7)=(t:Int)+7:=wrap_id (by omega) (by omega);have l:IntKind.i64.wrap (((t:Int)+7).tdiv 8)=(z:Int):=tdiv8 (by omega) (by omega) (by omega)
 replace hd:dl P≤400:=by omega
 go_enter func24,ntmps24
 go_upto_region 1 with fail
 refine gen_w (fun v=>Gr w v∧Vr v (w.heap.size) (crA id (six P A B N X Y) qc)) ⟨grA,vrA⟩ ?_;rintro H ⟨G,f⟩;replace HQ:=fun k=>(HQ k).gr G;refine wp_wS [.c (pv (w.heap.size) 1),.c (.slice (qc 0).1 (dl (P)) (qc 0).2),.c (.int .i64 t),.c (.int .i64 ((t:Int)+7)),.c (.int .i64 z),.c (.int .i64 z)] [1,2,3,4] ⟨.o 34 1 f rfl rfl,.k (fun q =>#[.slice (qc 0).1 (dl (P)) (qc 0).2]) fun q h d I=>RtW.of_c (bt_any ((HQ 0).gr d) hd i),.s (.binOp .add 3 (.const (.int .i64 t)) (.const (.int .i64 7)) 3) rfl fun h d=>by simp[go_sem,exI,j],.s (.binOp .quo 3 (.const (.int .i64 ((t:Int)+7))) (.const (.int .i64 8)) 3) rfl fun h d=>by simp[go_sem,exI,l],⟨⟩⟩ fun x J d C=>?_;simp only[fzw];clear C;replace G:=G.trans d;replace f:=f.gr d;replace HQ:=fun k=>(HQ k).gr d;clear d
 go_wp2_with fail
 go_ret
 exact⟨rfl,G⟩
theorem rin_any(x y:Nat)(f:Bool)(hx:x<M)(hy:y<M)(w:World):
 Calls prog 18 #[.agg (pnt x y f)] w (Rt (.pt x y f) w):=by
 go_enter func18,ntmps18
 go_upto_region 1 with fail
 refine gen_w (fun v=>Gr w v∧Vr v (w.heap.size) (pnt x y f)∧Vr v (w.heap.size+1) (ptA none 0 0 none 0 0 false)) ⟨grA,vrA,vrA⟩ ?_;rintro P ⟨G,q,C⟩;refine wp_wT 9 [.c (pv (w.heap.size) 0),.N x,.n (x),.c (pv (w.heap.size) 9),.N y,.n (y),.c (pv (w.heap.size) 18),.c (.bool f),.pt (x) (y) f] [1,2,4,5,7,8] ⟨.g 25 0 q rfl,.k _ fun j J l D=>RtW.of_n (fm_any hx),.g 25 9 q rfl,.k _ fun j J l D=>RtW.of_n (fm_any hy),.o 4 18 q rfl (by exact pnt_18 _ _ _),.p (fun j i=>match i with|0=>j 2 0|_=>j 5 0) fun j J l D=>⟨D 2 rfl,D 5 rfl⟩,⟨⟩⟩ (.s 49 (fun j=>pv (w.heap.size+1) 0) (fun j=>.agg (ptA (j 8 0).1 (x) (j 8 0).2 (j 8 1).1 (y) (j 8 1).2 f)) fun d I l K=>?_);have H:=(C.gr l).h;have L:=(C.gr l).f;refine⟨setBlk I (w.heap.size+1) (ptA (d 8 0).1 (x) (d 8 0).2 (d 8 1).1 (y) (d 8 1).2 f),by simp[go_sem,exI,H,L],?_⟩;simp only[fzw];obtain⟨A,B⟩:Sl I (d 8 0).1 (x)∧Sl I (d 8 1).1 (y):=K 8;clear K;replace G:=G.trans l;replace q:=q.gr l;replace C:=C.gr l;clear l
 go_wp2_with fail
 exact bo1 results18 (rd_pt _ _ _ _ _ _ _ (by rfl) (blk_setBlk _ _ _ (by rw[H];decide))) ⟨_,rfl,⟨_,_,_,_,rfl,Sl.set A (by rw[H];exact ptA_no _ _ _ _ _ _ _),Sl.set B (by rw[H];exact ptA_no _ _ _ _ _ _ _)⟩,gr_setNew G (by omega)⟩
theorem rout_any(x y:Nat)(f:Bool)(p q:Option Addr)(n m:Nat)(w:World)(Sx:Sl w p x)(Sy:Sl w q y):
 Cg 22 #[.agg (ptA p x n q y m f)] w (.agg (pnt x y f)):=by
 go_enter func22,ntmps22
 go_upto_region 1 with fail
 refine gen_w (fun v=>Gr w v∧Vr v (w.heap.size) (ptA p x n q y m f)∧Vr v (w.heap.size+1) (pnt 0 0 false)) ⟨grA,vrA,vrA⟩ ?_;rintro J ⟨G,j,l⟩;replace Sx:=Sx.gr G;replace Sy:=Sy.gr G;refine wp_wT 9 [.c (pv (w.heap.size) 0),.c (.slice p (dl (x)) n),.N x,.c (pv (w.heap.size) 1),.c (.slice q (dl (y)) m),.N y,.c (pv (w.heap.size) 2),.c (.bool f),.c (.agg (pnt x y f))] [1,2,4,5,7] ⟨.o 34 0 j rfl rfl,.k (fun i =>#[.slice p (dl (x)) n]) fun i B d C=>RtW.of_c (nt_any (Sx.gr d)),.o 34 1 j rfl rfl,.k (fun i =>#[.slice q (dl (y)) m]) fun i B d C=>RtW.of_c (nt_any (Sy.gr d)),.o 4 2 j rfl rfl,⟨⟩⟩ (.s 27 (fun i=>pv (w.heap.size+1) 0) (fun i=>.agg (pnt x y f)) fun D H d K=>?_);have A:=(l.gr d).h;have I:=(l.gr d).f;refine⟨setBlk H (w.heap.size+1) (pnt x y f),by simp[go_sem,exI,A,I],?_⟩;simp only[fzw];replace G:=G.trans d
 go_wp2_with fail
 exact bo1 results22 (rd_pn (by rfl) (blk_setBlk _ _ _ (by rw[A,pnt_size];decide))) ⟨rfl,gr_setNew G (by omega)⟩
theorem rleg_any(id:Int)(w:World):Cg 40 #[.int .i64 id] w (.bool (id==1 || id==7)):=by
 by_cases h1:(id==1)=true
 ·go_enter func40,ntmps40
  go_wp2
  go_ret
  exact⟨by simp[h1],grA⟩
 ·replace h1:(id==1)=false:=by simpa using h1
  go_enter func40,ntmps40
  go_wp2
  go_ret
  exact⟨by simp[h1],grA⟩
theorem rapi_any(id:Int)(P A B N X Y:Nat)(qc:Nat→Option Addr×Nat)(t z:Nat)(l:Bool)(hd:dl P≤18)(hn:dl N≤400)(ht:bl N=t)(hz:(bl P+7)/8=z)(hl:(id==1 || id==7)=l)(w:World)(HQ:∀k,Sl w (qc k).1 (six P A B N X Y k)):
 Cg 15 #[.agg (crA id (six P A B N X Y) qc)] w (.agg (cu id P A B N X Y t z l)):=by
 have H:Hid (∀w,Cg 40 #[.int .i64 id] w (.bool l)):=fun w=>hl▸rleg_any id w
 go_enter func15,ntmps15
 go_upto_region 1 with fail
 refine gen_w (fun v=>Gr w v∧Vr v (w.heap.size) (crA id (six P A B N X Y) qc)∧Vr v (w.heap.size+1) (cu 0 0 0 0 0 0 0 0 0 false)) ⟨grA,vrA,vrA⟩ ?_;rintro Q ⟨G,j,C⟩;replace HQ:=fun k=>(HQ k).gr G;refine wp_wT 30 [.c (pv (w.heap.size) 0),.c (.int .i64 id),.c (pv (w.heap.size) 1),.c (.slice (qc 0).1 (dl (P)) (qc 0).2),.N P,.c (pv (w.heap.size) 2),.c (.slice (qc 1).1 (dl (A)) (qc 1).2),.N A,.c (pv (w.heap.size) 3),.c (.slice (qc 2).1 (dl (B)) (qc 2).2),.N B,.c (pv (w.heap.size) 4),.c (.slice (qc 3).1 (dl (N)) (qc 3).2),.N N,.c (pv (w.heap.size) 5),.c (.slice (qc 4).1 (dl (X)) (qc 4).2),.N X,.c (pv (w.heap.size) 6),.c (.slice (qc 5).1 (dl (Y)) (qc 5).2),.N Y,.c (.agg (pnt X Y false)),.c (pv (w.heap.size) 4),.c (.slice (qc 3).1 (dl (N)) (qc 3).2),.c (.int .i64 t),.c (.agg (crA id (six P A B N X Y) qc)),.c (.int .i64 z),.c (pv (w.heap.size) 0),.c (.int .i64 id),.c (.bool l),.c (.agg (cu id P A B N X Y t z l))] [1,3,4,6,7,9,10,12,13,15,16,18,19,22,23,24,25,27,28] ⟨.o 3 0 j rfl rfl,.o 34 1 j rfl rfl,.k (fun i =>#[.slice (qc 0).1 (dl (P)) (qc 0).2]) fun i q d x=>RtW.of_c (nt_any ((HQ 0).gr d)),.o 34 2 j rfl rfl,.k (fun i =>#[.slice (qc 1).1 (dl (A)) (qc 1).2]) fun i q d x=>RtW.of_c (nt_any ((HQ 1).gr d)),.o 34 3 j rfl rfl,.k (fun i =>#[.slice (qc 2).1 (dl (B)) (qc 2).2]) fun i q d x=>RtW.of_c (nt_any ((HQ 2).gr d)),.o 34 4 j rfl rfl,.k (fun i =>#[.slice (qc 3).1 (dl (N)) (qc 3).2]) fun i q d x=>RtW.of_c (nt_any ((HQ 3).gr d)),.o 34 5 j rfl rfl,.k (fun i =>#[.slice (qc 4).1 (dl (X)) (qc 4).2]) fun i q d x=>RtW.of_c (nt_any ((HQ 4).gr d)),.o 34 6 j rfl rfl,.k (fun i =>#[.slice (qc 5).1 (dl (Y)) (qc 5).2]) fun i q d x=>RtW.of_c (nt_any ((HQ 5).gr d)),.o 34 4 j rfl rfl,.k (fun i =>#[.slice (qc 3).1 (dl (N)) (qc 3).2]) fun i q d x=>RtW.of_c (bt_any ((HQ 3).gr d) hn ht),.g 36 0 j rfl,.k _ fun i q d x=>RtW.of_c (Rt.c (rsize_any id P A B N X Y qc z hd hz _ (fun k=>(HQ k).gr d))),.o 3 0 j rfl rfl,.z H.out,⟨⟩⟩ (.s 29 (fun i=>pv (w.heap.size+1) 0) (fun i=>.agg (cu id P A B N X Y t z l)) fun I J d K=>?_);have D:=(C.gr d).h;have L:=(C.gr d).f;refine⟨setBlk J (w.heap.size+1) (cu id P A B N X Y t z l),by simp[go_sem,exI,D,L],?_⟩;simp only[fzw];clear K;replace G:=G.trans d;replace j:=j.gr d;replace C:=C.gr d;replace HQ:=fun k=>(HQ k).gr d;clear d
 go_wp2_with fail
 exact bo1 results15 (rd_cu (by rfl) (blk_setBlk _ _ _ (by rw[D,cu_size];decide))) ⟨rfl,gr_setNew G (by omega)⟩
theorem rright_any(id:Int)(P A B N X Y:Nat)(qc:Nat→Option Addr×Nat)(a n:Nat)(p:Option Addr)(la:a<P)(lA:A<P)(lB:B<P)(hd:dl P≤400)(w:World)(HQ:∀k,Sl w (qc k).1 (six P A B N X Y k))(Sa:Sl w p a):
 Calls prog 42 #[.agg (crA id (six P A B N X Y) qc),.slice p (dl a) n] w (Nm (((a*a%P+A)%P*a%P+B)%P) w):=by
 have S:0<P:=by omega
 obtain⟨x,C⟩:=exl (a*a%P);have W:x<P:=C▸Nat.mod_lt _ S;obtain⟨U,D⟩:=exl ((x+A)%P);have Z:U<P:=D▸Nat.mod_lt _ S;obtain⟨H,I⟩:=exl (U*a%P);have aa:H<P:=I▸Nat.mod_lt _ S;obtain⟨L,J⟩:=exl ((H+B)%P);have ab:L<P:=J▸Nat.mod_lt _ S;rw[show ((a*a%P+A)%P*a%P+B)%P=L by rw[C,D,I,J]]
 go_enter func42,ntmps42
 go_upto_region 1 with fail
 refine gen_w (fun v=>Gr w v∧Vr v (w.heap.size) (crA id (six P A B N X Y) qc)) ⟨grA,vrA⟩ ?_;rintro v0 ⟨G,i⟩;replace HQ:=fun k=>(HQ k).gr G;replace Sa:=Sa.gr G;refine wp_wS [.c (.slice p (dl (a)) n),.c (.slice p (dl (a)) n),.c (pv (w.heap.size) 1),.c (.slice (qc 0).1 (dl (P)) (qc 0).2),.n (x),.n (x)] [3,4,5] ⟨.o 34 1 i rfl rfl,.k (fun q =>#[.slice p (dl (a)) n,.slice p (dl (a)) n,.slice (qc 0).1 (dl (P)) (qc 0).2]) fun q vv d V=>RtW.of_n (mm_any (Sa.gr d) (Sa.gr d) ((HQ 0).gr d) la la hd C),.m 4,⟨⟩⟩ fun j v1 d h1=>?_;simp only[fzw];have f:Sl v1 (j 5 0).1 (x):=h1 5;clear h1;replace G:=G.trans d;replace i:=i.gr d;replace HQ:=fun k=>(HQ k).gr d;replace Sa:=Sa.gr d;clear d
 go_upto_region 2 with fail
 refine wp_w [.c (.slice (j 5 0).1 (dl (x)) (j 5 0).2),.c (pv (w.heap.size) 2),.c (.slice (qc 1).1 (dl (A)) (qc 1).2),.c (pv (w.heap.size) 1),.c (.slice (qc 0).1 (dl (P)) (qc 0).2),.n (U),.c (.slice p (dl (a)) n),.c (pv (w.heap.size) 1),.c (.slice (qc 0).1 (dl (P)) (qc 0).2),.n (H),.n (H)] [2,4,5,8,9,10] ⟨.o 34 2 i rfl rfl,.o 34 1 i rfl rfl,.k (fun q =>#[.slice (j 5 0).1 (dl (x)) (j 5 0).2,.slice (qc 1).1 (dl (A)) (qc 1).2,.slice (qc 0).1 (dl (P)) (qc 0).2]) fun q vv d V=>RtW.of_n (am_any (f.gr d) ((HQ 1).gr d) ((HQ 0).gr d) W lA hd D),.o 34 1 i rfl rfl,.k (fun q =>#[.slice (q 5 0).1 (dl (U)) (q 5 0).2,.slice p (dl (a)) n,.slice (qc 0).1 (dl (P)) (qc 0).2]) fun q vv d V=>RtW.of_n (mm_any (V 5 rfl) (Sa.gr d) ((HQ 0).gr d) Z la hd I),.m 9,⟨⟩⟩ fun l v2 d h2=>?_;simp only[fzw];have h:Sl v2 (l 10 0).1 (H):=h2 10;clear h2;replace G:=G.trans d;replace i:=i.gr d;replace HQ:=fun k=>(HQ k).gr d;replace Sa:=Sa.gr d;replace f:=f.gr d;clear d
 go_upto_region 3 with fail
 refine wp_wS [.c (.slice (l 10 0).1 (dl (H)) (l 10 0).2),.c (pv (w.heap.size) 3),.c (.slice (qc 2).1 (dl (B)) (qc 2).2),.c (pv (w.heap.size) 1),.c (.slice (qc 0).1 (dl (P)) (qc 0).2),.n (L),.n (L)] [2,4,5,6] ⟨.o 34 3 i rfl rfl,.o 34 1 i rfl rfl,.k (fun q =>#[.slice (l 10 0).1 (dl (H)) (l 10 0).2,.slice (qc 2).1 (dl (B)) (qc 2).2,.slice (qc 0).1 (dl (P)) (qc 0).2]) fun q vv d V=>RtW.of_n (am_any (h.gr d) ((HQ 2).gr d) ((HQ 0).gr d) aa lB hd J),.m 5,⟨⟩⟩ fun K v3 d h3=>?_;simp only[fzw];have Q:Sl v3 (K 6 0).1 (L):=h3 6;clear h3;replace G:=G.trans d;replace i:=i.gr d;replace HQ:=fun k=>(HQ k).gr d;replace Sa:=Sa.gr d;replace f:=f.gr d;replace h:=h.gr d;clear d
 go_wp2_with fail
 go_ret
 exact⟨(K 6 0).1,(K 6 0).2,rfl,Q,G⟩
end
section
attribute [local go_sem ↓] uz8 Go.wp_at_zero Go.wp_at_succ
attribute [local go_sem] uz9
theorem ron_inf(id:Int)(P A B N X Y:Nat)(qc:Nat→Option Addr×Nat)(x y:Nat)(p q:Option Addr)(n m:Nat)(w:World)(HQ:∀k,Sl w (qc k).1 (six P A B N X Y k))(Sx:Sl w p x)(Sy:Sl w q y):
 Cg 17 #[.agg (crA id (six P A B N X Y) qc),.agg (ptA p x n q y m true)] w (.bool (decide (x=0)&&decide (y=0))):=by
 go_enter func17,ntmps17
 go_upto_region 1 with fail
 refine gen_w (fun v=>Gr w v∧Vr v (w.heap.size) (crA id (six P A B N X Y) qc)∧Vr v (w.heap.size+1) (ptA p x n q y m true)) ⟨grA,vrA,vrA⟩ ?_;rintro J ⟨G,j,f⟩;replace HQ:=fun k=>(HQ k).gr G;replace Sx:=Sx.gr G;replace Sy:=Sy.gr G;refine wp_wS [.c (pv (w.heap.size+1) 2),.T] [1] ⟨.o 4 2 f rfl rfl,⟨⟩⟩ fun C l d D=>?_;simp only[fzw];clear D;replace G:=G.trans d;replace j:=j.gr d;replace f:=f.gr d;replace HQ:=fun k=>(HQ k).gr d;replace Sx:=Sx.gr d;replace Sy:=Sy.gr d;clear d
 have H:l.cell? ⟨w.heap.size+1,0,none⟩=some (.slice p (dl x) n):=by rw[cell_blk,f.h];rfl
 have I:l.cell? ⟨w.heap.size+1,1,none⟩=some (.slice q (dl y) m):=by rw[cell_blk,f.h];rfl
 by_cases hx:x=0
 ·have i:=dl_nought x;rw[decide_eq_true hx]at i;have K:=dl_nought y
  go_wp2_with fail
  go_ret
  exact⟨by simp[hx],G⟩
 ·have i:=dl_nought x;rw[decide_eq_false hx]at i
  go_wp2_with fail
  go_ret
  exact⟨by simp[hx],G⟩
theorem ron_x(id:Int)(P A B N X Y:Nat)(qc:Nat→Option Addr×Nat)(x y:Nat)(p q:Option Addr)(n m:Nat)(hx4:dl x≤400)(hd:dl P≤400)(hx:P≤x)(w:World)(HQ:∀k,Sl w (qc k).1 (six P A B N X Y k))(Sx:Sl w p x)(Sy:Sl w q y):
 Cg 17 #[.agg (crA id (six P A B N X Y) qc),.agg (ptA p x n q y m false)] w (.bool false):=by
 obtain⟨i,ex⟩:=exl (cmpZ x P)
 have j:decide (0≤i)=true:=by rw[←ex];unfold cmpZ;rw[if_neg (by omega)];split <;> decide
 go_enter func17,ntmps17
 go_upto_region 1 with fail
 refine gen_w (fun v=>Gr w v∧Vr v (w.heap.size) (crA id (six P A B N X Y) qc)∧Vr v (w.heap.size+1) (ptA p x n q y m false)) ⟨grA,vrA,vrA⟩ ?_;rintro K ⟨G,h,f⟩;replace HQ:=fun k=>(HQ k).gr G;replace Sx:=Sx.gr G;replace Sy:=Sy.gr G;refine wp_wS [.c (pv (w.heap.size+1) 2),.F] [1] ⟨.o 4 2 f rfl rfl,⟨⟩⟩ fun l L d C=>?_;simp only[fzw];clear C;replace G:=G.trans d;replace h:=h.gr d;replace f:=f.gr d;replace HQ:=fun k=>(HQ k).gr d;replace Sx:=Sx.gr d;replace Sy:=Sy.gr d;clear d
 go_upto_region 3 with fail
 refine wp_wS [.c (pv (w.heap.size+1) 0),.c (.slice p (dl (x)) n),.c (pv (w.heap.size) 1),.c (.slice (qc 0).1 (dl (P)) (qc 0).2),.c (.int .i64 i),.T,.T,.u,.u,.u,.u,.u,.u,.T] [1,3,4,5] ⟨.o 34 0 f rfl rfl,.o 34 1 h rfl rfl,.k (fun D =>#[.slice p (dl (x)) n,.slice (qc 0).1 (dl (P)) (qc 0).2]) fun D H d Q=>RtW.of_c (cz_any (Sx.gr d) ((HQ 0).gr d) hx4 hd ex),.s (.binOp .geq 3 (.const (.int .i64 i)) (.const (.int .i64 0)) 3) rfl fun H d=>by simp[go_sem,exI,j],⟨⟩⟩ fun I S d J=>?_;simp only[fzw];clear J;replace G:=G.trans d;replace h:=h.gr d;replace f:=f.gr d;replace HQ:=fun k=>(HQ k).gr d;replace Sx:=Sx.gr d;replace Sy:=Sy.gr d;clear d
 go_wp2_with fail
 go_ret
 exact⟨rfl,G⟩
theorem ron_y(id:Int)(P A B N X Y:Nat)(qc:Nat→Option Addr×Nat)(x y:Nat)(p q:Option Addr)(n m:Nat)(hx4:dl x≤400)(hy4:dl y≤400)(hd:dl P≤400)(hx:x<P)(hy:P≤y)(w:World)(HQ:∀k,Sl w (qc k).1 (six P A B N X Y k))(Sx:Sl w p x)(Sy:Sl w q y):
 Cg 17 #[.agg (crA id (six P A B N X Y) qc),.agg (ptA p x n q y m false)] w (.bool false):=by
 obtain⟨i,ex⟩:=exl (cmpZ x P)
 have H:decide (0≤i)=false:=by rw[←ex];unfold cmpZ;rw[if_pos hx];decide
 obtain⟨j,ey⟩:=exl (cmpZ y P)
 have l:decide (0≤j)=true:=by rw[←ey];unfold cmpZ;rw[if_neg (by omega)];split <;> decide
 go_enter func17,ntmps17
 go_upto_region 1 with fail
 refine gen_w (fun v=>Gr w v∧Vr v (w.heap.size) (crA id (six P A B N X Y) qc)∧Vr v (w.heap.size+1) (ptA p x n q y m false)) ⟨grA,vrA,vrA⟩ ?_;rintro S ⟨G,h,f⟩;replace HQ:=fun k=>(HQ k).gr G;replace Sx:=Sx.gr G;replace Sy:=Sy.gr G;refine wp_wS [.c (pv (w.heap.size+1) 2),.F] [1] ⟨.o 4 2 f rfl rfl,⟨⟩⟩ fun I U d J=>?_;simp only[fzw];clear J;replace G:=G.trans d;replace h:=h.gr d;replace f:=f.gr d;replace HQ:=fun k=>(HQ k).gr d;replace Sx:=Sx.gr d;replace Sy:=Sy.gr d;clear d
 go_upto_region 3 with fail
 refine wp_wS [.c (pv (w.heap.size+1) 0),.c (.slice p (dl (x)) n),.c (pv (w.heap.size) 1),.c (.slice (qc 0).1 (dl (P)) (qc 0).2),.c (.int .i64 i),.F,.F,.c (pv (w.heap.size+1) 1),.c (.slice q (dl (y)) m),.c (pv (w.heap.size) 1),.c (.slice (qc 0).1 (dl (P)) (qc 0).2),.c (.int .i64 j),.T,.T] [1,3,4,5,8,10,11,12] ⟨.o 34 0 f rfl rfl,.o 34 1 h rfl rfl,.k (fun C =>#[.slice p (dl (x)) n,.slice (qc 0).1 (dl (P)) (qc 0).2]) fun C D d K=>RtW.of_c (cz_any (Sx.gr d) ((HQ 0).gr d) hx4 hd ex),.s (.binOp .geq 3 (.const (.int .i64 i)) (.const (.int .i64 0)) 3) rfl fun D d=>by simp[go_sem,exI,H],.o 34 1 f rfl rfl,.o 34 1 h rfl rfl,.k (fun C =>#[.slice q (dl (y)) m,.slice (qc 0).1 (dl (P)) (qc 0).2]) fun C D d K=>RtW.of_c (cz_any (Sy.gr d) ((HQ 0).gr d) hy4 hd ey),.s (.binOp .geq 3 (.const (.int .i64 j)) (.const (.int .i64 0)) 3) rfl fun D d=>by simp[go_sem,exI,l],⟨⟩⟩ fun L V d Q=>?_;simp only[fzw];clear Q;replace G:=G.trans d;replace h:=h.gr d;replace f:=f.gr d;replace HQ:=fun k=>(HQ k).gr d;replace Sx:=Sx.gr d;replace Sy:=Sy.gr d;clear d
 go_wp2_with fail
 go_ret
 exact⟨rfl,G⟩
theorem ron_ok(id:Int)(P A B N X Y:Nat)(qc:Nat→Option Addr×Nat)(x y:Nat)(p q:Option Addr)(n m:Nat)(hx4:dl x≤400)(hy4:dl y≤400)(hd:dl P≤400)(lx:x<P)(ly:y<P)(lA:A<P)(lB:B<P)(w:World)(HQ:∀k,Sl w (qc k).1 (six P A B N X Y k))(Sx:Sl w p x)(Sy:Sl w q y):
 Cg 17 #[.agg (crA id (six P A B N X Y) qc),.agg (ptA p x n q y m false)] w (.bool (decide (y*y%P=((x*x%P+A)%P*x%P+B)%P))):=by
 have Q:0<P:=by omega
 obtain⟨I,ex⟩:=exl (cmpZ x P)
 have V:decide (0≤I)=false:=by rw[←ex];unfold cmpZ;rw[if_pos lx];decide
 obtain⟨J,ey⟩:=exl (cmpZ y P)
 have K:decide (0≤J)=false:=by rw[←ey];unfold cmpZ;rw[if_pos ly];decide
 obtain⟨H,j⟩:=exl (y*y%P);have W:H<P:=j▸Nat.mod_lt _ Q;obtain⟨R,l⟩:=exl (((x*x%P+A)%P*x%P+B)%P);have lR:R<P:=l▸Nat.mod_lt _ Q;rw[l,j];obtain⟨L,S⟩:=exl (cmpZ H R);obtain⟨r,U⟩:=exl (decide (H=R))
 have Z:(L==0)=r:=by rw[←S,←U];exact cmpZ_nought _ _
 rw[U]
 go_enter func17,ntmps17
 go_upto_region 1 with fail
 refine gen_w (fun v=>Gr w v∧Vr v (w.heap.size) (crA id (six P A B N X Y) qc)∧Vr v (w.heap.size+1) (ptA p x n q y m false)) ⟨grA,vrA,vrA⟩ ?_;rintro v0 ⟨G,i,h⟩;replace HQ:=fun k=>(HQ k).gr G;replace Sx:=Sx.gr G;replace Sy:=Sy.gr G;refine wp_wS [.c (pv (w.heap.size+1) 2),.F] [1] ⟨.o 4 2 h rfl rfl,⟨⟩⟩ fun aa v1 d h1=>?_;simp only[fzw];clear h1;replace G:=G.trans d;replace i:=i.gr d;replace h:=h.gr d;replace HQ:=fun k=>(HQ k).gr d;replace Sx:=Sx.gr d;replace Sy:=Sy.gr d;clear d
 go_upto_region 3 with fail
 refine wp_wS [.c (pv (w.heap.size+1) 0),.c (.slice p (dl (x)) n),.c (pv (w.heap.size) 1),.c (.slice (qc 0).1 (dl (P)) (qc 0).2),.c (.int .i64 I),.F,.F,.c (pv (w.heap.size+1) 1),.c (.slice q (dl (y)) m),.c (pv (w.heap.size) 1),.c (.slice (qc 0).1 (dl (P)) (qc 0).2),.c (.int .i64 J),.F,.F] [1,3,4,5,8,10,11,12] ⟨.o 34 0 h rfl rfl,.o 34 1 i rfl rfl,.k (fun f =>#[.slice p (dl (x)) n,.slice (qc 0).1 (dl (P)) (qc 0).2]) fun f C d D=>RtW.of_c (cz_any (Sx.gr d) ((HQ 0).gr d) hx4 hd ex),.s (.binOp .geq 3 (.const (.int .i64 I)) (.const (.int .i64 0)) 3) rfl fun C d=>by simp[go_sem,exI,V],.o 34 1 h rfl rfl,.o 34 1 i rfl rfl,.k (fun f =>#[.slice q (dl (y)) m,.slice (qc 0).1 (dl (P)) (qc 0).2]) fun f C d D=>RtW.of_c (cz_any (Sy.gr d) ((HQ 0).gr d) hy4 hd ey),.s (.binOp .geq 3 (.const (.int .i64 J)) (.const (.int .i64 0)) 3) rfl fun C d=>by simp[go_sem,exI,K],⟨⟩⟩ fun ab v2 d h3=>?_;simp only[fzw];clear h3;replace G:=G.trans d;replace i:=i.gr d;replace h:=h.gr d;replace HQ:=fun k=>(HQ k).gr d;replace Sx:=Sx.gr d;replace Sy:=Sy.gr d;clear d
 go_upto_region 5 with fail
 refine wp_w [.c (pv (w.heap.size+1) 1),.c (.slice q (dl (y)) m),.c (pv (w.heap.size+1) 1),.c (.slice q (dl (y)) m),.c (pv (w.heap.size) 1),.c (.slice (qc 0).1 (dl (P)) (qc 0).2),.n (H),.c (.agg (crA id (six P A B N X Y) qc)),.c (pv (w.heap.size+1) 0),.c (.slice p (dl (x)) n),.n (R),.c (.int .i64 L),.c (.bool r),.c (.bool r)] [1,3,5,6,7,9,10,11,12] ⟨.o 34 1 h rfl rfl,.o 34 1 h rfl rfl,.o 34 1 i rfl rfl,.k (fun f =>#[.slice q (dl (y)) m,.slice q (dl (y)) m,.slice (qc 0).1 (dl (P)) (qc 0).2]) fun f C d D=>RtW.of_n (mm_any (Sy.gr d) (Sy.gr d) ((HQ 0).gr d) ly ly hd j),.g 36 0 i rfl,.o 34 0 h rfl rfl,.k (fun f =>#[.agg (crA id (six P A B N X Y) qc),.slice p (dl (x)) n]) fun f C d D=>RtW.of_n (Rt.n (l▸rright_any id P A B N X Y qc x _ _ lx lA lB hd _ (fun k=>(HQ k).gr d) (Sx.gr d))),.k (fun f =>#[.slice (f 6 0).1 (dl (H)) (f 6 0).2,.slice (f 10 0).1 (dl (R)) (f 10 0).2]) fun f C d D=>RtW.of_c (cz_any (D 6 rfl) (D 10 rfl) (dl_low _ P 400 (by omega) hd) (dl_low _ P 400 (by omega) hd) S),.s (.binOp .eql 3 (.const (.int .i64 L)) (.const (.int .i64 0)) 3) rfl fun C d=>by simp[go_sem,exI,Z],⟨⟩⟩ fun ac v3 d h5=>?_;simp only[fzw];clear h5;replace G:=G.trans d;replace i:=i.gr d;replace h:=h.gr d;replace HQ:=fun k=>(HQ k).gr d;replace Sx:=Sx.gr d;replace Sy:=Sy.gr d;clear d
 go_wp2_with fail
 go_ret
 exact⟨rfl,G⟩
end
section
attribute [local go_sem ↓] uz8 Go.wp_at_zero Go.wp_at_succ
attribute [local go_sem] uz9
theorem rneg_ok(id:Int)(P A B N X Y:Nat)(qc:Nat→Option Addr×Nat)(x y:Nat)(p q:Option Addr)(n m:Nat)(z:Nat)(hd:dl P≤400)(h0:y≠0)(hy:y<P)(hz:P-y=z)(w:World)(HQ:∀k,Sl w (qc k).1 (six P A B N X Y k))(Sx:Sl w p x)(Sy:Sl w q y):
 Calls prog 23 #[.agg (crA id (six P A B N X Y) qc),.agg (ptA p x n q y m false)] w (Rt (.pt x z false) w):=by
 have V:((dl y:Int)==0)=false:=by rw[dl_nought,decide_eq_false h0]
 go_enter func23,ntmps23
 go_upto_region 1 with fail
 refine gen_w (fun v=>Gr w v∧Vr v (w.heap.size) (crA id (six P A B N X Y) qc)∧Vr v (w.heap.size+1) (ptA p x n q y m false)∧Vr v (w.heap.size+1+1) (ptA none 0 0 none 0 0 false)) ⟨grA,vrA,vrA,vrA⟩ ?_;rintro v0 ⟨G,H,C,D⟩;replace HQ:=fun k=>(HQ k).gr G;replace Sx:=Sx.gr G;replace Sy:=Sy.gr G;refine wp_wS [.c (pv (w.heap.size+1) 2),.F,.F,.c (pv (w.heap.size+1) 1),.c (.slice q (dl (y)) m),.c (.int .i64 (dl (y))),.F,.F] [1,4,6] ⟨.o 4 2 C rfl rfl,.o 34 1 C rfl rfl,.s (.binOp .eql 3 (.const (.int .i64 (dl (y)))) (.const (.int .i64 0)) 3) rfl fun Q d=>by simp[go_sem,exI,V],⟨⟩⟩ fun W v1 d Z=>?_;simp only[fzw];clear Z;replace G:=G.trans d;replace H:=H.gr d;replace C:=C.gr d;replace D:=D.gr d;replace HQ:=fun k=>(HQ k).gr d;replace Sx:=Sx.gr d;replace Sy:=Sy.gr d;clear d
 go_upto_region 3 with fail
 refine wp_wT 8 [.c (pv (w.heap.size+1) 0),.c (.slice p (dl (x)) n),.c (pv (w.heap.size) 1),.c (.slice (qc 0).1 (dl (P)) (qc 0).2),.c (pv (w.heap.size+1) 1),.c (.slice q (dl (y)) m),.n (z),.pt (x) (z) false] [1,3,5,6,7] ⟨.o 34 0 C rfl rfl,.o 34 1 H rfl rfl,.o 34 1 C rfl rfl,.k (fun l =>#[.slice (qc 0).1 (dl (P)) (qc 0).2,.slice q (dl (y)) m]) fun l Q d S=>RtW.of_n (sb_any ((HQ 0).gr d) (Sy.gr d) hd (by omega) hz),.p (fun l i=>match i with|0=>(p,n)|_=>l 6 0) fun l Q d S=>⟨(Sx.gr d),S 6 rfl⟩,⟨⟩⟩ (.s 49 (fun l=>pv (w.heap.size+1+1) 0) (fun l=>.agg (ptA (l 7 0).1 (x) (l 7 0).2 (l 7 1).1 (z) (l 7 1).2 false)) fun j L d U=>?_);have K:=(D.gr d).h;have FT:=(D.gr d).f;refine⟨setBlk L (w.heap.size+1+1) (ptA (j 7 0).1 (x) (j 7 0).2 (j 7 1).1 (z) (j 7 1).2 false),by simp[go_sem,exI,K,FT],?_⟩;simp only[fzw];obtain⟨I,J⟩:Sl L (j 7 0).1 (x)∧Sl L (j 7 1).1 (z):=U 7;clear U;replace G:=G.trans d;replace H:=H.gr d;replace C:=C.gr d;replace D:=D.gr d;replace HQ:=fun k=>(HQ k).gr d;replace Sx:=Sx.gr d;replace Sy:=Sy.gr d;clear d
 go_wp2_with fail
 exact bo1 results23 (rd_pt _ _ _ _ _ _ _ (by rfl) (blk_setBlk _ _ _ (by rw[K];decide))) ⟨_,rfl,⟨_,_,_,_,rfl,Sl.set I (by rw[K];exact ptA_no _ _ _ _ _ _ _),Sl.set J (by rw[K];exact ptA_no _ _ _ _ _ _ _)⟩,gr_setNew G (by omega)⟩
end
end
end Go.Proofs.Ytffhepbppiocbaa