import Derived.Deep.AppendSrc
import Derived.Test.YtffhepbppiocbaaGreatXARAddM
import Derived.Test.YtffhepbppiocbaaGreatXAIX
namespace Go.Proofs.YtffhepbppiocbaaGreat
open Go.RowKit Go.Proofs.Tryz
set_option maxRecDepth 100000
set_option maxHeartbeats 8000000
section
attribute [local go_sem ↓] uz1
attribute [local go_sem] uz2
section
attribute [local go_sem ↓] bsl_is
def appS(ty:TypeId)(xs:Array Value):Sem Value:=Builtin.append_ #[29,29] ty xs
theorem app_is(ty:TypeId)(xs:Array Value):Builtin.append_ #[29,29] ty xs=appS ty xs:=rfl
theorem infoU:(prog.info? 65).map (fun i=>(i.zero,i.size,i.bytes))=some (some (.int .u32 0),1,4):=by kernel_rfl
theorem append_digits(w:World)(b n x:Nat)(p:Option Addr)(h:Sl w p x)(hx:dl x≤1000):
 ∃p' c w',(∀ty,(appS ty #[.slice (some ⟨b,0,none⟩) 0 0,.slice p (dl x) n]).run prog w=.ok (.slice p' (dl x) c) w')∧Sl w' p' x∧Gr w w':=by
 obtain⟨i,D,H,I,J⟩:∃i,prog.info? 65=some i∧i.zero=some (.int .u32 0)∧i.size=1∧i.bytes=4:=by
  have l:=infoU
  cases hc:prog.info? 65 with
  | none=>rw[hc]at l;cases l
  | some i=>
   rw[hc]at l;simp only[Option.map_some,Option.some.injEq,Prod.mk.injEq]at l;exact⟨i,rfl,l.1,l.2.1,l.2.2⟩
 by_cases l:dl x=0
 ·have K:=dl_eq_zero x l;subst K
  have f:Src prog i.size 29 (.slice p 0 n) 0 [] w:=by
   cases p with
   | none=>exact Src.ofNil w underlying29 n
   | some a=>exact Src.ofSlice w underlying29 a 0 n [] (by simp) (fun j u d=>by simp at d) (fun u B=>by cases B)
  refine⟨some ⟨b,0,none⟩,0,w,fun ty=>?_,Sl.zero _ _,Gr.refl _⟩;have A:=run_append_room_src w 29 29 ty 65 i underlying29 D b 0 0 0 (.slice p 0 n) 0 [] f (by omega) (fun j d=>by simp at d) (fun j d=>by simp at d);rw[dl_zero];exact A
 ·obtain⟨c,rfl,hc,L⟩:=h.some (by omega)
  have C:(nd (dl x) x).toList.length=dl x*i.size:=by rw[I,Array.length_toList,nd_size,Nat.mul_one]
  have f:Src prog i.size 29 (.slice (some ⟨c,0,none⟩) (dl x) n) (dl x) (nd (dl x) x).toList w:=by
   refine Src.ofSlice w underlying29 ⟨c,0,none⟩ (dl x) n _ C (fun j u d=>?_) (fun u B=>?_)
   ·rw[Array.getElem?_toList]at d
    have q:j<dl x:=by
     by_cases hl:j<dl x
     ·exact hl
     ·rw[Array.getElem?_eq_none (by rw[nd_size];omega)]at d;cases d
    rw[nd_get _ _ _ q]at d
    have e:(⟨c,0,none⟩:Addr).add j=⟨c,j,none⟩:=by rw[Addr.add_lit,Nat.zero_add]
    rw[e,cell_blk,L j q,d]
   ·obtain⟨j,d⟩:=List.mem_iff_getElem?.1 B;rw[Array.getElem?_toList]at d
    have q:j<dl x:=by
     by_cases hl:j<dl x
     ·exact hl
     ·rw[Array.getElem?_eq_none (by rw[nd_size];omega)]at d;cases d
    rw[nd_get _ _ _ q]at d
    cases d
    rfl
  have A:=fun ty=>run_append_grow_src w 29 29 ty 65 i _ underlying29 D H (some ⟨b,0,none⟩) 0 0 [] (run_firstCells_some w.drew i.size 0 ⟨b,0,none⟩ 0 0 [] (by simp) (fun j u d=>by simp at d)) (.slice (some ⟨c,0,none⟩) (dl x) n) (dl x) (nd (dl x) x).toList f (by omega) (by omega) (by rw[J,Nat.zero_add];simp only[Builtin.nextslicecap];rw[if_pos (by omega)];omega);simp only[Nat.zero_add,List.nil_append]at A
  refine⟨_,_,_,A,?_,?_⟩
  ·intro k G
   refine⟨w.heap.size,rfl,?_,?_⟩
   ·simp[go_sem]
   ·have e:w.heap.size=w.drew.heap.size:=by simp[go_sem]
    rw[blk_alloc_at _ _ _ _ _ e,Array.getElem?_append_left (by simp[nd_size,G])];simp[nd_get _ _ _ G]
  ·exact grA
def rdD(w:World)(b i:Nat):Nat:=match (blk w b)[i]? with|some (.int _ z)=>z.toNat|_=>0
def numD(f:Nat→Nat):Nat→Nat
 | 0=>0
 | n+1=>numD f n+f n*pq n
def mS(w:World):Value→Nat
 | .slice (some ⟨b,_,_⟩) n _=>numD (rdD w b) n
 | _=>0
theorem numD_is(f:Nat→Nat)(x:Nat):∀n,(∀i,i<n→f i=dg x i)→numD f n=x%pq n
 | 0,_=>by rw[pq_zero,Nat.mod_one];rfl
 | n+1,h=>by
  show numD f n+f n*pq n=_
  rw[numD_is f x n (fun i hi=>h i (by omega)),h n (by omega),dmod_succ]
theorem mS_is{w:World}{p:Option Addr}{x n:Nat}(h:Sl w p x):mS w (.slice p (dl x) n)=x:=by
 by_cases h0:dl x=0
 ·have e:=dl_eq_zero x h0;subst e
  cases p <;> rfl
 ·obtain⟨b,rfl,j,d⟩:=h.some (by omega)
  show numD (rdD w b) (dl x)=x
  rw[numD_is (rdD w b) x (dl x) (fun i f=>by unfold rdD;rw[d i f];rfl),Nat.mod_eq_of_lt (dl_lt x)]
theorem subM_is(t c m:Nat)(ht:t<m)(hc:c<m):subM t c m<m∧∃k:Int,(subM t c m:Int)=t-c+k*m:=by
 unfold subM
 split
 ·exact⟨by omega,0,by omega⟩
 ·exact⟨by omega,1,by omega⟩
structure RI(a m r s t u:Nat):Prop where
 rm:r≤m
 sm:s≤m
 tm:t<m
 um:u<m
 d1:(m:Int)∣(a:Int)*t-r
 d2:(m:Int)∣(a:Int)*u-s
 g:Nat.gcd r s=Nat.gcd m a
theorem RI.start(a m:Nat)(h:1<m):RI a m m (a%m) 0 1:=by
 refine⟨Nat.le_refl _,Nat.le_of_lt (Nat.mod_lt _ (by omega)),by omega,h,⟨-1,by simp⟩,⟨((a/m:Nat):Int),?_⟩,?_⟩
 ·have d:=Nat.div_add_mod a m;obtain⟨q,f⟩:=exl (a/m);obtain⟨v,i⟩:=exl (a%m);rw[f,i]at d ⊢
  have j:(m:Int)*q+v=a:=by exact_mod_cast d
  rw[←j]
  grind
 ·rw[Nat.gcd_comm,←Nat.gcd_rec]
theorem RI.step{a m r s t u:Nat}(h:RI a m r s t u)(h0:0<s)(q v c x:Nat)(hq:r/s=q)(hv:r%s=v)(hc:q%m*u%m=c)(hx:subM t c m=x):RI a m s v u x∧v<s:=by
 have C:0<m:=by have:=h.tm;omega
 have f:v<s:=by rw[←hv];exact Nat.mod_lt _ h0
 have i:c<m:=by rw[←hc];exact Nat.mod_lt _ C
 obtain⟨l,k,A⟩:=subM_is t c m h.tm i;rw[hx]at l A
 refine⟨⟨h.sm,by have:=h.sm;omega,h.um,l,h.d2,?_,?_⟩,f⟩
 ·obtain⟨D,I⟩:=h.d1;obtain⟨G,J⟩:=h.d2;have B:=Nat.div_add_mod r s;rw[hq,hv]at B
  have K:(s:Int)*q+v=r:=by exact_mod_cast B
  rw[pow_mul]at hc;have j:=Nat.div_add_mod (q*u) m;rw[hc]at j;obtain⟨d,H⟩:∃d,q*u/m=d:=⟨_,rfl⟩;rw[H]at j
  have L:(m:Int)*d+c=q*u:=by exact_mod_cast j
  refine⟨D-q*G+a*d+a*k,?_⟩;rw[A]
  grind
 ·rw[←h.g,←hv,Nat.gcd_comm,←Nat.gcd_rec,Nat.gcd_comm]
theorem RI.last{a m r t u:Nat}(h:RI a m r 0 t u)(h1:1<m):r=Nat.gcd m a∧0<r∧(r=1→a*t%m=1):=by
 have d:=h.g;rw[Nat.gcd_zero_right]at d;have j:0<Nat.gcd m a:=Nat.gcd_pos_of_pos_left _ (by omega);refine⟨d,by omega,fun e=>?_⟩;obtain⟨c,f⟩:=h.d1;rw[e]at f;obtain⟨k,i⟩:=inv_pos (a*t) m c h1 (by rw[←f];simp);rw[i,Nat.add_mul_mod_self_left,Nat.mod_eq_of_lt h1]
def InvR(a m:Nat)(w:World)(e:Ending)(w':World):Prop:=
 (Nat.gcd m a=1→∃t p n,t<m∧a*t%m=1∧e=.returned (.tuple #[.slice p (dl t) n,.bool true])∧Sl w' p t)∧(Nat.gcd m a≠1→e=.returned (.tuple #[.slice none 0 0,.bool false]))∧Gr w w'
attribute [local go_sem ↓] app_is
theorem rinv_any(a m n n':Nat)(p q:Option Addr)(w:World)(hp:Sl w p a)(hq:Sl w q m)(ha:dl a≤400)(hm:dl m≤400)(h1:1<m):
 Calls prog 40 #[.slice p (dl a) n,.slice q (dl m) n'] w (InvR a m w):=by
 have H1:Hid (∀w' r z k k' p1 p',dl r≤400→Sl w' p1 r→Sl w' p' 1→cmpZ r 1=z→Calls prog 35 #[.slice p1 (dl r) k,.slice p' 1 k'] w' fun e aj=>e=.returned (.int .i64 z)∧Gr w' aj):=fun w' r z k k' p1 p' h2 h3 h4 e=>e▸rcmp_any r 1 k k' p1 p' w' h3 h4 (by omega) (by decide)
 have aa:cmpZ m 1=1:=by unfold cmpZ;split <;> (try split) <;> omega
 have G:=fun w' k' p' (g:Gr w w') (h:Sl w' p' 1)=>H1.out w' m 1 n' k' q p' hm (hq.gr g) h aa;have f:=fun w' (g:Gr w w')=>rmod_any a m n n' p q w' (hp.gr g) (hq.gr g) (by omega) (by omega) (by omega);have H:=fun w' k p' x y (g:Gr w w') (h:Sl w' p' x) (hx:dl x≤400) (e:x%m=y)=>(e▸rmod_any x m k n' p' q w' h (hq.gr g) (by omega) (by omega) (by omega):Calls prog 53 #[.slice p' (dl x) k,.slice q (dl m) n'] w' (Nm y w'));have I:=fun w' k k' p1 p2 x y z (g:Gr w w') (s1:Sl w' p1 x) (s2:Sl w' p2 y) (l1:x<m) (l2:y<m) (e:x*y%m=z)=>(e▸rmulmod_any x y m k k' n' p1 p2 q w' s1 s2 (hq.gr g) (dl_low x m 400 (by omega) hm) (dl_low y m 400 (by omega) hm) hm (by omega):Calls prog 36 #[.slice p1 (dl x) k,.slice p2 (dl y) k',.slice q (dl m) n'] w' (Nm z w'));have J:=fun w' k k' p1 p2 x y z (g:Gr w w') (s1:Sl w' p1 x) (s2:Sl w' p2 y) (l1:x<m) (l2:y<m) (e:subM x y m=z)=>(e▸rsubmod_any x y m k k' n' p1 p2 q w' s1 s2 (hq.gr g) hm l1 l2:Calls prog 39 #[.slice p1 (dl x) k,.slice p2 (dl y) k',.slice q (dl m) n'] w' (Nm z w'));have L:=fun w' b (g:Gr w w')=>append_digits w' b n' m q (hq.gr g) (by omega);have P:Hid _:=fun x hx=>dl_low x m 400 hx hm;have HS:Hid _:=RI.start a m h1;obtain⟨X,eX⟩:=exl (a%m);obtain⟨A,eA⟩:=exl (dl a);obtain⟨K,eK⟩:=exl (dl m);simp only[eX,eA,eK]at G f H I J L HS ⊢;have HC:Hid _:=G;have HM:Hid _:=f;have HQ:Hid _:=H;have Q:Hid _:=I;have S:Hid _:=J;have HA:Hid _:=L;have HK:Hu (dl m=K∧1<m):=fun _=>⟨eK,h1⟩;have aq:∀w,(bslS 29 1 #[(0,.int .u32 1)]).run prog w=.ok (.slice (some ⟨w.heap.size,0,none⟩) 1 1) (w.alloc (.cells (nd 1 1) 65)):=fun w=>build1 1 (by decide) w
 have ab:∀w,(bslS 29 0 #[]).run prog w=.ok (.slice (some ⟨w.heap.size,0,none⟩) 0 0) (w.alloc (.cells #[] 65)):=fun w=>by kernel_rfl
 clear G f H I J L hp hq ha hm h1 aa eX eA eK
 go_enter func40,ntmps40
 go_upto_region 6 with (first
  | (go_at_call 35;refine(HC.out _ _ _ ((Gr.refl _).alloc _) (sl_new w)).mono ?_;rintro e W1 ⟨rfl,G1⟩;have U:=(((Gr.refl w).alloc _).trans G1).alloc (.cells #[] 65);obtain⟨pr,cr,Wa,C,SR,GA⟩:=HA.out _ W1.heap.size U;have V:=U.trans GA)
  | (go_at_call 53;refine(HM.out _ V).mono ?_;rintro e W2 ⟨ps,ns,rfl,SS,G2⟩;have ac:=V.trans G2;have ae:=SR.gr G2))
 have j:Hid (Sl W2 pr m∧Sl W2 ps X∧Gr w W2):=⟨ae,SS,ac⟩;clear C HC HM HA SR GA V SS G2 ac ae G1 U
 go_loopw [6,7,8,9] (fun ra sa ta ua wr=>∃(r s t u n1 n2 n3 n4:Nat) (p1 p2 p3 p4:Option Addr),ra=.slice p1 (dl r) n1∧sa=.slice p2 (dl s) n2∧ta=.slice p3 (dl t) n3∧ua=.slice p4 (dl u) n4∧Hid (RI a m r s t u)∧Hid (Sl wr p1 r∧Sl wr p2 s∧Sl wr p3 t∧Sl wr p4 u∧Gr w wr)) (fun _ sa _ _ wr=>mS wr sa)
 case atStart=>
  refine⟨m,X,0,1,cr,ns,0,1,pr,ps,none,some ⟨W2.heap.size,0,none⟩,by rw[(HK.out ()).1],rfl,rfl,rfl,HS,⟨j.out.1.gr ((Gr.refl _).alloc _),j.out.2.1.gr ((Gr.refl _).alloc _),Sl.zero _ _,sl_new W2,j.out.2.2.alloc _⟩⟩
 case round=>
  obtain⟨r,s,t,u,n1,n2,n3,n4,p1,p2,p3,p4,rfl,rfl,rfl,rfl,HI,d⟩:=hrel;clear HS j
  by_cases hs:s=0
  ·subst hs;obtain⟨l1,l2,l3⟩:=HI.out.last (HK.out ()).2;have l:=P.out r HI.out.rm;have W:=HI.out.tm;rw[dl_zero]
   by_cases hr1:r=1
   ·have Y:Hid _:=fun w' k' p' g h=>H1.out w' r 0 n1 k' p1 p' l g h (by rw[hr1];rfl);have HE:Hid (Nat.gcd m a=1∧a*t%m=1∧t<m):=⟨by rw[←l1];exact hr1,l3 hr1,W⟩;clear H1 HQ Q S P HK HI hr1 l1 l2 l3 l W ab
    go_wp2_with (go_at_call 35;refine(Y.out _ _ _ (d.out.1.gr ((Gr.refl _).alloc _)) (sl_new _)).mono ?_;rintro e W3 ⟨rfl,D⟩;have B:=((Gr.refl _).alloc _).trans D)
    go_ret2
    exact⟨fun _=>⟨t,p3,n3,HE.out.2.2,HE.out.2.1,rfl,d.out.2.2.1.gr B⟩,fun h=>absurd HE.out.1 h,d.out.2.2.2.2.trans B⟩
   ·have Y:Hid _:=fun w' k' p' g h=>H1.out w' r 1 n1 k' p1 p' l g h (by unfold cmpZ;split <;> (try split) <;> omega)
    have HE:Hid (¬Nat.gcd m a=1):=by rw[←l1];exact hr1
    clear H1 HQ Q S P HK HI hr1 l1 l2 l3 l W ab
    go_wp2_with (go_at_call 35;refine(Y.out _ _ _ (d.out.1.gr ((Gr.refl _).alloc _)) (sl_new _)).mono ?_;rintro e W3 ⟨rfl,D⟩;have B:=((Gr.refl _).alloc _).trans D)
    go_ret2
    exact⟨fun h=>absurd h HE.out,fun _=>rfl,d.out.2.2.2.2.trans B⟩
  ·have s0:0<s:=by omega
   have ak:(0:Int)<((dl s:Nat):Int):=by
    have:dl s≠0:=fun e=>hs (dl_eq_zero s e)
    omega
   have ar:=decide_eq_true ak;obtain⟨b,hb⟩:=exl (r/s);obtain⟨v,hv⟩:=exl (r%s);obtain⟨y,hy⟩:=exl (b%m);obtain⟨c,G⟩:=exl (y*u%m);obtain⟨x,hx⟩:=exl (subM t c m);have Z:=HI.out
   have af:0<m:=by have:=(HK.out ()).2;omega
   have HN:=Z.step s0 b v c x hb hv (by rw[hy];exact G) hx
   have au:b≤r:=by rw[←hb];exact Nat.div_le_self _ _
   have i:Hid (b%m=y∧y*u%m=c∧subM t c m=x∧dl b≤400∧y<m∧u<m∧t<m∧c<m∧dl v≤400∧RI a m s v u x∧v<s):=⟨hy,G,hx,P.out b (by have:=Z.rm;omega),by rw[←hy];exact Nat.mod_lt _ af,Z.um,Z.tm,by rw[←G];exact Nat.mod_lt _ af,P.out v (by have:=Z.sm;have:=HN.2;omega),HN.1,HN.2⟩
   have HD:Hu (Calls prog 55 #[.slice p1 (dl r) n1,.slice p2 (dl s) n2] wr (Nm2 b v wr)):=fun _=>by
    have h:=rdiv_any r s n1 n2 p1 p2 wr d.out.1 d.out.2.1 (by have:=P.out r Z.rm;omega) (by have:=P.out s Z.sm;omega) s0;rw[hb,hv]at h;exact h
   go_wp2_with (first
    | (go_at_call 55;refine(HD.out ()).mono ?_;rintro e W3 ⟨pb,nb,pv,nv,rfl,Sb,Sv,D⟩;have ag:=d.out.2.2.2.2.trans D)
    | (go_at_call 53;refine(HQ.out _ nb pb b y ag Sb i.out.2.2.2.1 i.out.1).mono ?_;rintro e W4 ⟨py,ny,rfl,Sy,G4⟩;have ah:=ag.trans G4)
    | (go_at_call 36;refine(Q.out _ ny n4 py p4 y u c ah Sy (d.out.2.2.2.1.gr (D.trans G4)) i.out.2.2.2.2.1 i.out.2.2.2.2.2.1 i.out.2.1).mono ?_;rintro e W5 ⟨pc,nc,rfl,Sc,G5⟩;have ai:=ah.trans G5)
    | (go_at_call 39;refine(S.out _ n3 nc p3 pc t c x ai (d.out.2.2.1.gr ((D.trans G4).trans G5)) Sc i.out.2.2.2.2.2.2.1 i.out.2.2.2.2.2.2.2.1 i.out.2.2.1).mono ?_;rintro e W6 ⟨px,nx,rfl,Sx,G6⟩;have ao:=(ai.trans G6).alloc (.cells #[] 65);have GG:=(((G4.trans G5).trans G6).alloc (.cells #[] 65));obtain⟨ap,cw,Wa,C,SV,GA⟩:=append_digits _ W6.heap.size nv v pv (Sv.gr GG) (Nat.le_trans i.out.2.2.2.2.2.2.2.2.1 (by decide))))
   go_roundw
   case rel=>
    have GT:=(D.trans GG).trans GA;exact⟨s,v,u,x,n2,cw,n4,nx,p2,ap,p4,px,rfl,rfl,rfl,rfl,i.out.2.2.2.2.2.2.2.2.2.1,⟨d.out.2.1.gr GT,SV,d.out.2.2.2.1.gr GT,Sx.gr (((Gr.refl _).alloc _).trans GA),ao.trans GA⟩⟩
   case measure=>
    rw[mS_is SV,mS_is d.out.2.1];exact i.out.2.2.2.2.2.2.2.2.2.2
end
end
section
section
variable {a b m c n n' n'':Nat} {p q r:Option Addr} {w:World}
theorem mm_any(sa:Sl w p a)(sb:Sl w q b)(sm:Sl w r m)(ha:a<m)(hb:b<m)(hm:dl m≤400)(hc:a*b%m=c):
 Calls prog 36 #[.slice p (dl a) n,.slice q (dl b) n',.slice r (dl m) n''] w (Rt (.n c) w):=
 Rt.n (hc▸rmulmod_any a b m n n' n'' p q r w sa sb sm (dl_low a m 400 (by omega) hm) (dl_low b m 400 (by omega) hm) hm (by omega))
theorem am_any(sa:Sl w p a)(sb:Sl w q b)(sm:Sl w r m)(ha:a<m)(hb:b<m)(hm:dl m≤400)(hc:(a+b)%m=c):
 Calls prog 38 #[.slice p (dl a) n,.slice q (dl b) n',.slice r (dl m) n''] w (Rt (.n c) w):=
 Rt.n (hc▸raddmod_any a b m n n' n'' p q r w sa sb sm hm ha hb)
theorem sm_any(sa:Sl w p a)(sb:Sl w q b)(sm:Sl w r m)(ha:a<m)(hb:b<m)(hm:dl m≤400)(hc:subM a b m=c):
 Calls prog 39 #[.slice p (dl a) n,.slice q (dl b) n',.slice r (dl m) n''] w (Rt (.n c) w):=
 Rt.n (hc▸rsubmod_any a b m n n' n'' p q r w sa sb sm hm ha hb)
theorem iv_any(sa:Sl w p a)(sm:Sl w r m)(ha:a<m)(hm:dl m≤400)(h1:1<m)(hc:c<m)(hac:a*c%m=1):
 Calls prog 40 #[.slice p (dl a) n,.slice r (dl m) n'] w (Rt (.nb c true) w):=by
 have i:Nat.gcd m a=1:=by
  have h1:=Nat.gcd_dvd_left m a;have j:=Nat.dvd_trans (Nat.gcd_dvd_right m a) (Nat.dvd_mul_right a c);have f:=(Nat.dvd_mod_iff h1).2 j;rw[hac]at f;exact Nat.dvd_one.1 f
 refine(rinv_any a m n n' p r w sa sm (dl_low a m 400 (by omega) hm) hm h1).mono fun e A h=>?_;obtain⟨t,B,k,l,d,q,x⟩:=h.1 i;obtain rfl:=inv_one a m t c l hc d hac;exact⟨_,q,⟨_,_,rfl,x⟩,h.2.2⟩
theorem cz_any{z:Int}(sa:Sl w p a)(sb:Sl w q b)(ha:dl a≤400)(hb:dl b≤400)(hz:cmpZ a b=z):
 Calls prog 35 #[.slice p (dl a) n,.slice q (dl b) n'] w (Rt (.c (.int .i64 z)) w):=
 Rt.c (hz▸rcmp_any a b n n' p q w sa sb (by omega) (by omega))
theorem sb_any(sa:Sl w p a)(sb:Sl w q b)(ha:dl a≤400)(h:b≤a)(hc:a-b=c):
 Calls prog 30 #[.slice p (dl a) n,.slice q (dl b) n'] w (Rt (.n c) w):=
 Rt.n (hc▸rsub_any a b n n' p q w sa sb (by omega) h)
theorem nt_any(sa:Sl w p a):Calls prog 26 #[.slice p (dl a) n] w (Rt (.c (.agg (nw 9 a))) w):=Rt.c (rnat_any a n p w sa)
theorem fm_any(ha:a<M):Calls prog 21 #[.agg (nw 9 a)] w (Rt (.n a) w):=Rt.n (from_any a ha w)
end
theorem subM_lt{a b m:Nat}(ha:a<m)(hb:b<m):subM a b m<m:=by unfold subM;split <;> omega
end
section
section
variable (p:Option Addr) (x n:Nat) (q:Option Addr) (y m:Nat) (f:Bool)
theorem ptA_size:(ptA p x n q y m f).size=3:=rfl
theorem ptA_one:(ptA p x n q y m f).all (·.oneCell')=true:=by simp[ptA,Value.oneCell']
theorem loadPt_is:LdI 41:=fun _=>rfl
theorem storePt_is:StI 41:=fun _ _=>rfl
theorem loadPt:LdS 41 3:=ldS
theorem storePt:StS 41 3 (ptA p x n q y m f):=stS (ptA_size p x n q y m f) (ptA_one p x n q y m f)
theorem zvPt_is:zeroValue 41=zvS 41:=rfl
theorem zvPt(w:World):(zvS 41).run prog w=.ok (.agg (ptA none 0 0 none 0 0 false)) w:=by kernel_rfl
theorem buildPt_is(p:Array (Nat×Value)):Instr.build 41 p=buildF 41 p:=rfl
theorem buildPt3(w:World):(buildF 41 #[(0,.slice p (dl x) n),(1,.slice q (dl y) m),(2,.bool f)]).run prog w=.ok (.agg (ptA p x n q y m f)) w:=by kernel_rfl
theorem buildPt2(w:World):(buildF 41 #[(0,.slice p (dl x) n),(1,.slice q (dl y) m)]).run prog w=.ok (.agg (ptA p x n q y m false)) w:=by kernel_rfl
theorem buildPtI(w:World):(buildF 41 #[(2,.bool f)]).run prog w=.ok (.agg (ptA none 0 0 none 0 0 f)) w:=by kernel_rfl
theorem rd_pt:RdC 41 (ptA p x n q y m f):=rdC 3 (ptA_size p x n q y m f)
theorem ptA_no(i:Nat)(z:Int):(ptA p x n q y m f)[i]? ≠ some (Value.int .u32 z):=by
 intro h
 match i,h with
 | 0,h=>simp[ptA]at h
 | 1,h=>simp[ptA]at h
 | 2,h=>simp[ptA]at h
 | k+3,h=>simp[ptA]at h
end
abbrev uz8:=And.intro @loadPt_is<|And.intro @storePt_is<|And.intro @zvPt_is<|And.intro @buildPt_is<|And.intro @loadC_is<|And.intro @loadPn_is<|And.intro @loadCu_is<|And.intro @storePn_is<|And.intro @zvPn_is<|And.intro @buildPn_is<|And.intro @storeCu_is<|And.intro @zvCu_is @buildCu_is
abbrev uz9:=And.intro @loadPt<|And.intro @storePt<|And.intro @zvPt<|And.intro @buildPt3<|And.intro @buildPt2<|And.intro @buildPtI<|And.intro @ptA_size<|And.intro @crA_size<|And.intro @loadC<|And.intro @loadPn<|And.intro @loadPX<|And.intro @loadPY<|And.intro @pnt_size<|And.intro @pnt_X<|And.intro @pnt_Y<|And.intro @storePn<|And.intro @zvPn<|And.intro @buildPn2<|And.intro @buildPn3<|And.intro @storeCu<|And.intro @zvCu<|And.intro @buildCu9<|And.intro @cu_size @loadCu
abbrev uz12:=And.intro @bsl_is<|And.intro @loadC_is<|And.intro @storeC_is<|And.intro @loadPt_is<|And.intro @storePt_is<|And.intro @zvPt_is<|And.intro @buildPt_is<|And.intro @loadPn_is<|And.intro @storePn_is<|And.intro @zvPn_is<|And.intro @loadCu_is<|And.intro @storeCu_is<|And.intro @zvCu_is<|And.intro @buildCu_is @buildPn_is
abbrev uz13:=And.intro @loadC<|And.intro @storeC0<|And.intro @storeCr<|And.intro @crA_size<|And.intro @loadPt<|And.intro @storePt<|And.intro @zvPt<|And.intro @ptA_size<|And.intro @loadPn<|And.intro @storePn<|And.intro @zvPn<|And.intro @pnt_size<|And.intro @loadCu<|And.intro @storeCu<|And.intro @zvCu<|And.intro @cu_size<|And.intro @buildCu0<|And.intro @buildPnI<|And.intro @buildPn2<|And.intro @loadCP<|And.intro @loadCA<|And.intro @loadCB<|And.intro @loadCN<|And.intro @loadCG<|And.intro @loadCX<|And.intro @loadCY<|And.intro @cu_P<|And.intro @cu_A<|And.intro @cu_B<|And.intro @cu_N<|And.intro @cu_G<|And.intro @cu_X<|And.intro @cu_Y<|And.intro @frz_setBlk<|And.intro @blk_setBlk<|And.intro @setBlk_setBlk @blk_other
end
section
attribute [local go_sem ↓] uz1
attribute [local go_sem] uz2
section
attribute [local go_sem ↓] uz8 Go.wp_at_zero Go.wp_at_succ
attribute [local go_sem] uz9
theorem dl_nought(x:Nat):((dl x:Int)==0)=decide (x=0):=by
 by_cases h:x=0
 ·subst h;rfl
 grind [dl,dl_eq_zero]
theorem cmpZ_nought(a b:Nat):(cmpZ a b==0)=decide (a=b):=by
 grind [cmpZ]
theorem rin_any(x y:Nat)(f:Bool)(hx:x<M)(hy:y<M)(w:World):
 Calls prog 14 #[.agg (pnt x y f)] w (Rt (.pt x y f) w):=by
 go_enter func14,ntmps14
 go_upto_region 1 with fail
 refine gen_w (fun v=>Gr w v∧Vr v (w.heap.size) (pnt x y f)∧Vr v (w.heap.size+1) (ptA none 0 0 none 0 0 false)) ⟨grA,vrA,vrA⟩ ?_;rintro P ⟨G,q,C⟩;refine wp_wT 9 [.c (pv (w.heap.size) 0),.N x,.n (x),.c (pv (w.heap.size) 9),.N y,.n (y),.c (pv (w.heap.size) 18),.c (.bool f),.pt (x) (y) f] [1,2,4,5,7,8] ⟨.g 25 0 q rfl,.k _ fun j J l D=>RtW.of_n (fm_any hx),.g 25 9 q rfl,.k _ fun j J l D=>RtW.of_n (fm_any hy),.o 4 18 q rfl (by exact pnt_18 _ _ _),.p (fun j i=>match i with|0=>j 2 0|_=>j 5 0) fun j J l D=>⟨D 2 rfl,D 5 rfl⟩,⟨⟩⟩ (.s 41 (fun j=>pv (w.heap.size+1) 0) (fun j=>.agg (ptA (j 8 0).1 (x) (j 8 0).2 (j 8 1).1 (y) (j 8 1).2 f)) fun d I l K=>?_);have H:=(C.gr l).h;have L:=(C.gr l).f;refine⟨setBlk I (w.heap.size+1) (ptA (d 8 0).1 (x) (d 8 0).2 (d 8 1).1 (y) (d 8 1).2 f),by simp[go_sem,exI,H,L],?_⟩;simp only[fzw];obtain⟨A,B⟩:Sl I (d 8 0).1 (x)∧Sl I (d 8 1).1 (y):=K 8;clear K;replace G:=G.trans l;replace q:=q.gr l;replace C:=C.gr l;clear l
 go_wp2_with fail
 exact bo1 results14 (rd_pt _ _ _ _ _ _ _ (by rfl) (blk_setBlk _ _ _ (by rw[H];decide))) ⟨_,rfl,⟨_,_,_,_,rfl,Sl.set A (by rw[H];exact ptA_no _ _ _ _ _ _ _),Sl.set B (by rw[H];exact ptA_no _ _ _ _ _ _ _)⟩,gr_setNew G (by omega)⟩
theorem rout_any(x y:Nat)(f:Bool)(p q:Option Addr)(n m:Nat)(w:World)(Sx:Sl w p x)(Sy:Sl w q y):
 Cg 16 #[.agg (ptA p x n q y m f)] w (.agg (pnt x y f)):=by
 go_enter func16,ntmps16
 go_upto_region 1 with fail
 refine gen_w (fun v=>Gr w v∧Vr v (w.heap.size) (ptA p x n q y m f)∧Vr v (w.heap.size+1) (pnt 0 0 false)) ⟨grA,vrA,vrA⟩ ?_;rintro J ⟨G,j,l⟩;replace Sx:=Sx.gr G;replace Sy:=Sy.gr G;refine wp_wT 9 [.c (pv (w.heap.size) 0),.c (.slice p (dl (x)) n),.N x,.c (pv (w.heap.size) 1),.c (.slice q (dl (y)) m),.N y,.c (pv (w.heap.size) 2),.c (.bool f),.c (.agg (pnt x y f))] [1,2,4,5,7] ⟨.o 29 0 j rfl rfl,.k (fun i =>#[.slice p (dl (x)) n]) fun i B d C=>RtW.of_c (nt_any (Sx.gr d)),.o 29 1 j rfl rfl,.k (fun i =>#[.slice q (dl (y)) m]) fun i B d C=>RtW.of_c (nt_any (Sy.gr d)),.o 4 2 j rfl rfl,⟨⟩⟩ (.s 27 (fun i=>pv (w.heap.size+1) 0) (fun i=>.agg (pnt x y f)) fun D H d K=>?_);have A:=(l.gr d).h;have I:=(l.gr d).f;refine⟨setBlk H (w.heap.size+1) (pnt x y f),by simp[go_sem,exI,A,I],?_⟩;simp only[fzw];replace G:=G.trans d
 go_wp2_with fail
 exact bo1 results16 (rd_pn (by rfl) (blk_setBlk _ _ _ (by rw[A,pnt_size];decide))) ⟨rfl,gr_setNew G (by omega)⟩
theorem rright_any(id:Int)(P A B N X Y:Nat)(qc:Nat→Option Addr×Nat)(a n:Nat)(p:Option Addr)(la:a<P)(lA:A<P)(lB:B<P)(hd:dl P≤400)(w:World)(HQ:∀k,Sl w (qc k).1 (six P A B N X Y k))(Sa:Sl w p a):
 Calls prog 37 #[.agg (crA id (six P A B N X Y) qc),.slice p (dl a) n] w (Nm (((a*a%P+A)%P*a%P+B)%P) w):=by
 have S:0<P:=by omega
 obtain⟨x,C⟩:=exl (a*a%P);have W:x<P:=C▸Nat.mod_lt _ S;obtain⟨U,D⟩:=exl ((x+A)%P);have Z:U<P:=D▸Nat.mod_lt _ S;obtain⟨H,I⟩:=exl (U*a%P);have aa:H<P:=I▸Nat.mod_lt _ S;obtain⟨L,J⟩:=exl ((H+B)%P);have ab:L<P:=J▸Nat.mod_lt _ S;rw[show ((a*a%P+A)%P*a%P+B)%P=L by rw[C,D,I,J]]
 go_enter func37,ntmps37
 go_upto_region 1 with fail
 refine gen_w (fun v=>Gr w v∧Vr v (w.heap.size) (crA id (six P A B N X Y) qc)) ⟨grA,vrA⟩ ?_;rintro v0 ⟨G,i⟩;replace HQ:=fun k=>(HQ k).gr G;replace Sa:=Sa.gr G;refine wp_wS [.c (.slice p (dl (a)) n),.c (.slice p (dl (a)) n),.c (pv (w.heap.size) 1),.c (.slice (qc 0).1 (dl (P)) (qc 0).2),.n (x),.n (x)] [3,4,5] ⟨.o 29 1 i rfl rfl,.k (fun q =>#[.slice p (dl (a)) n,.slice p (dl (a)) n,.slice (qc 0).1 (dl (P)) (qc 0).2]) fun q vv d V=>RtW.of_n (mm_any (Sa.gr d) (Sa.gr d) ((HQ 0).gr d) la la hd C),.m 4,⟨⟩⟩ fun j v1 d h1=>?_;simp only[fzw];have f:Sl v1 (j 5 0).1 (x):=h1 5;clear h1;replace G:=G.trans d;replace i:=i.gr d;replace HQ:=fun k=>(HQ k).gr d;replace Sa:=Sa.gr d;clear d
 go_upto_region 2 with fail
 refine wp_w [.c (.slice (j 5 0).1 (dl (x)) (j 5 0).2),.c (pv (w.heap.size) 2),.c (.slice (qc 1).1 (dl (A)) (qc 1).2),.c (pv (w.heap.size) 1),.c (.slice (qc 0).1 (dl (P)) (qc 0).2),.n (U),.c (.slice p (dl (a)) n),.c (pv (w.heap.size) 1),.c (.slice (qc 0).1 (dl (P)) (qc 0).2),.n (H),.n (H)] [2,4,5,8,9,10] ⟨.o 29 2 i rfl rfl,.o 29 1 i rfl rfl,.k (fun q =>#[.slice (j 5 0).1 (dl (x)) (j 5 0).2,.slice (qc 1).1 (dl (A)) (qc 1).2,.slice (qc 0).1 (dl (P)) (qc 0).2]) fun q vv d V=>RtW.of_n (am_any (f.gr d) ((HQ 1).gr d) ((HQ 0).gr d) W lA hd D),.o 29 1 i rfl rfl,.k (fun q =>#[.slice (q 5 0).1 (dl (U)) (q 5 0).2,.slice p (dl (a)) n,.slice (qc 0).1 (dl (P)) (qc 0).2]) fun q vv d V=>RtW.of_n (mm_any (V 5 rfl) (Sa.gr d) ((HQ 0).gr d) Z la hd I),.m 9,⟨⟩⟩ fun l v2 d h2=>?_;simp only[fzw];have h:Sl v2 (l 10 0).1 (H):=h2 10;clear h2;replace G:=G.trans d;replace i:=i.gr d;replace HQ:=fun k=>(HQ k).gr d;replace Sa:=Sa.gr d;replace f:=f.gr d;clear d
 go_upto_region 3 with fail
 refine wp_wS [.c (.slice (l 10 0).1 (dl (H)) (l 10 0).2),.c (pv (w.heap.size) 3),.c (.slice (qc 2).1 (dl (B)) (qc 2).2),.c (pv (w.heap.size) 1),.c (.slice (qc 0).1 (dl (P)) (qc 0).2),.n (L),.n (L)] [2,4,5,6] ⟨.o 29 3 i rfl rfl,.o 29 1 i rfl rfl,.k (fun q =>#[.slice (l 10 0).1 (dl (H)) (l 10 0).2,.slice (qc 2).1 (dl (B)) (qc 2).2,.slice (qc 0).1 (dl (P)) (qc 0).2]) fun q vv d V=>RtW.of_n (am_any (h.gr d) ((HQ 2).gr d) ((HQ 0).gr d) aa lB hd J),.m 5,⟨⟩⟩ fun K v3 d h3=>?_;simp only[fzw];have Q:Sl v3 (K 6 0).1 (L):=h3 6;clear h3;replace G:=G.trans d;replace i:=i.gr d;replace HQ:=fun k=>(HQ k).gr d;replace Sa:=Sa.gr d;replace f:=f.gr d;replace h:=h.gr d;clear d
 go_wp2_with fail
 go_ret
 exact⟨(K 6 0).1,(K 6 0).2,rfl,Q,G⟩
end
section
attribute [local go_sem ↓] uz8 Go.wp_at_zero Go.wp_at_succ
attribute [local go_sem] uz9
theorem rneg_inf(id:Int)(P A B N X Y:Nat)(qc:Nat→Option Addr×Nat)(x y:Nat)(p q:Option Addr)(n m:Nat)(w:World)(HQ:∀k,Sl w (qc k).1 (six P A B N X Y k))(Sx:Sl w p x)(Sy:Sl w q y):
 Calls prog 17 #[.agg (crA id (six P A B N X Y) qc),.agg (ptA p x n q y m true)] w (Rt (.pt x y true) w):=by
 go_enter func17,ntmps17
 go_upto_region 1 with fail
 refine gen_w (fun v=>Gr w v∧Vr v (w.heap.size) (crA id (six P A B N X Y) qc)∧Vr v (w.heap.size+1) (ptA p x n q y m true)∧Vr v (w.heap.size+1+1) (ptA none 0 0 none 0 0 false)) ⟨grA,vrA,vrA,vrA⟩ ?_;rintro S ⟨G,l,i,j⟩;replace HQ:=fun k=>(HQ k).gr G;replace Sx:=Sx.gr G;replace Sy:=Sy.gr G;refine wp_wS [.c (pv (w.heap.size+1) 2),.T,.T,.u,.u,.u,.u,.T] [1] ⟨.o 4 2 i rfl rfl,⟨⟩⟩ fun D U d H=>?_;simp only[fzw];clear H;replace G:=G.trans d;replace l:=l.gr d;replace i:=i.gr d;replace j:=j.gr d;replace HQ:=fun k=>(HQ k).gr d;replace Sx:=Sx.gr d;replace Sy:=Sy.gr d;clear d
 go_upto_region 2 with fail
 refine wp_wTS 1 [.c (.agg (ptA p (x) n q (y) m true))] [0] ⟨.g 41 0 i rfl,⟨⟩⟩ (.s 41 (fun I=>pv (w.heap.size+1+1) 0) (fun I=>.agg (ptA p (x) n q (y) m true)) fun J K d L=>?_);have C:=(j.gr d).h;have Q:=(j.gr d).f;refine⟨setBlk K (w.heap.size+1+1) (ptA p (x) n q (y) m true),by simp[go_sem,exI,C,Q],?_⟩;simp only[fzw];clear L;replace G:=G.trans d;replace l:=l.gr d;replace i:=i.gr d;replace j:=j.gr d;replace HQ:=fun k=>(HQ k).gr d;replace Sx:=Sx.gr d;replace Sy:=Sy.gr d;clear d
 go_wp2_with fail
 exact bo1 results17 (rd_pt _ _ _ _ _ _ _ (by rfl) (blk_setBlk _ _ _ (by rw[C];decide))) ⟨_,rfl,⟨_,_,_,_,rfl,Sl.set Sx (by rw[C];exact ptA_no _ _ _ _ _ _ _),Sl.set Sy (by rw[C];exact ptA_no _ _ _ _ _ _ _)⟩,gr_setNew G (by omega)⟩
theorem rneg_nought(id:Int)(P A B N X Y:Nat)(qc:Nat→Option Addr×Nat)(x:Nat)(p q:Option Addr)(n m:Nat)(w:World)(HQ:∀k,Sl w (qc k).1 (six P A B N X Y k))(Sx:Sl w p x)(Sy:Sl w q 0):
 Calls prog 17 #[.agg (crA id (six P A B N X Y) qc),.agg (ptA p x n q 0 m false)] w (Rt (.pt x 0 false) w):=by
 go_enter func17,ntmps17
 go_upto_region 1 with fail
 refine gen_w (fun v=>Gr w v∧Vr v (w.heap.size) (crA id (six P A B N X Y) qc)∧Vr v (w.heap.size+1) (ptA p x n q 0 m false)∧Vr v (w.heap.size+1+1) (ptA none 0 0 none 0 0 false)) ⟨grA,vrA,vrA,vrA⟩ ?_;rintro S ⟨G,l,i,j⟩;replace HQ:=fun k=>(HQ k).gr G;replace Sx:=Sx.gr G;replace Sy:=Sy.gr G;refine wp_wS [.c (pv (w.heap.size+1) 2),.F,.F,.c (pv (w.heap.size+1) 1),.c (.slice q (dl (0)) m),.c (.int .i64 (dl (0))),.T,.T] [1,4,6] ⟨.o 4 2 i rfl rfl,.o 29 1 i rfl rfl,.s (.binOp .eql 3 (.const (.int .i64 (dl (0)))) (.const (.int .i64 0)) 3) rfl fun U d=>by simp[go_sem,exI,dl_zero],⟨⟩⟩ fun D V d H=>?_;simp only[fzw];clear H;replace G:=G.trans d;replace l:=l.gr d;replace i:=i.gr d;replace j:=j.gr d;replace HQ:=fun k=>(HQ k).gr d;replace Sx:=Sx.gr d;replace Sy:=Sy.gr d;clear d
 go_upto_region 2 with fail
 refine wp_wTS 1 [.c (.agg (ptA p (x) n q (0) m false))] [0] ⟨.g 41 0 i rfl,⟨⟩⟩ (.s 41 (fun I=>pv (w.heap.size+1+1) 0) (fun I=>.agg (ptA p (x) n q (0) m false)) fun J K d L=>?_);have C:=(j.gr d).h;have Q:=(j.gr d).f;refine⟨setBlk K (w.heap.size+1+1) (ptA p (x) n q (0) m false),by simp[go_sem,exI,C,Q],?_⟩;simp only[fzw];clear L;replace G:=G.trans d;replace l:=l.gr d;replace i:=i.gr d;replace j:=j.gr d;replace HQ:=fun k=>(HQ k).gr d;replace Sx:=Sx.gr d;replace Sy:=Sy.gr d;clear d
 go_wp2_with fail
 exact bo1 results17 (rd_pt _ _ _ _ _ _ _ (by rfl) (blk_setBlk _ _ _ (by rw[C];decide))) ⟨_,rfl,⟨_,_,_,_,rfl,Sl.set Sx (by rw[C];exact ptA_no _ _ _ _ _ _ _),Sl.set Sy (by rw[C];exact ptA_no _ _ _ _ _ _ _)⟩,gr_setNew G (by omega)⟩
theorem rneg_ok(id:Int)(P A B N X Y:Nat)(qc:Nat→Option Addr×Nat)(x y:Nat)(p q:Option Addr)(n m:Nat)(z:Nat)(hd:dl P≤400)(h0:y≠0)(hy:y<P)(hz:P-y=z)(w:World)(HQ:∀k,Sl w (qc k).1 (six P A B N X Y k))(Sx:Sl w p x)(Sy:Sl w q y):
 Calls prog 17 #[.agg (crA id (six P A B N X Y) qc),.agg (ptA p x n q y m false)] w (Rt (.pt x z false) w):=by
 have V:((dl y:Int)==0)=false:=by rw[dl_nought,decide_eq_false h0]
 go_enter func17,ntmps17
 go_upto_region 1 with fail
 refine gen_w (fun v=>Gr w v∧Vr v (w.heap.size) (crA id (six P A B N X Y) qc)∧Vr v (w.heap.size+1) (ptA p x n q y m false)∧Vr v (w.heap.size+1+1) (ptA none 0 0 none 0 0 false)) ⟨grA,vrA,vrA,vrA⟩ ?_;rintro v0 ⟨G,H,C,D⟩;replace HQ:=fun k=>(HQ k).gr G;replace Sx:=Sx.gr G;replace Sy:=Sy.gr G;refine wp_wS [.c (pv (w.heap.size+1) 2),.F,.F,.c (pv (w.heap.size+1) 1),.c (.slice q (dl (y)) m),.c (.int .i64 (dl (y))),.F,.F] [1,4,6] ⟨.o 4 2 C rfl rfl,.o 29 1 C rfl rfl,.s (.binOp .eql 3 (.const (.int .i64 (dl (y)))) (.const (.int .i64 0)) 3) rfl fun Q d=>by simp[go_sem,exI,V],⟨⟩⟩ fun W v1 d Z=>?_;simp only[fzw];clear Z;replace G:=G.trans d;replace H:=H.gr d;replace C:=C.gr d;replace D:=D.gr d;replace HQ:=fun k=>(HQ k).gr d;replace Sx:=Sx.gr d;replace Sy:=Sy.gr d;clear d
 go_upto_region 3 with fail
 refine wp_wT 8 [.c (pv (w.heap.size+1) 0),.c (.slice p (dl (x)) n),.c (pv (w.heap.size) 1),.c (.slice (qc 0).1 (dl (P)) (qc 0).2),.c (pv (w.heap.size+1) 1),.c (.slice q (dl (y)) m),.n (z),.pt (x) (z) false] [1,3,5,6,7] ⟨.o 29 0 C rfl rfl,.o 29 1 H rfl rfl,.o 29 1 C rfl rfl,.k (fun l =>#[.slice (qc 0).1 (dl (P)) (qc 0).2,.slice q (dl (y)) m]) fun l Q d S=>RtW.of_n (sb_any ((HQ 0).gr d) (Sy.gr d) hd (by omega) hz),.p (fun l i=>match i with|0=>(p,n)|_=>l 6 0) fun l Q d S=>⟨(Sx.gr d),S 6 rfl⟩,⟨⟩⟩ (.s 41 (fun l=>pv (w.heap.size+1+1) 0) (fun l=>.agg (ptA (l 7 0).1 (x) (l 7 0).2 (l 7 1).1 (z) (l 7 1).2 false)) fun j L d U=>?_);have K:=(D.gr d).h;have FT:=(D.gr d).f;refine⟨setBlk L (w.heap.size+1+1) (ptA (j 7 0).1 (x) (j 7 0).2 (j 7 1).1 (z) (j 7 1).2 false),by simp[go_sem,exI,K,FT],?_⟩;simp only[fzw];obtain⟨I,J⟩:Sl L (j 7 0).1 (x)∧Sl L (j 7 1).1 (z):=U 7;clear U;replace G:=G.trans d;replace H:=H.gr d;replace C:=C.gr d;replace D:=D.gr d;replace HQ:=fun k=>(HQ k).gr d;replace Sx:=Sx.gr d;replace Sy:=Sy.gr d;clear d
 go_wp2_with fail
 exact bo1 results17 (rd_pt _ _ _ _ _ _ _ (by rfl) (blk_setBlk _ _ _ (by rw[K];decide))) ⟨_,rfl,⟨_,_,_,_,rfl,Sl.set I (by rw[K];exact ptA_no _ _ _ _ _ _ _),Sl.set J (by rw[K];exact ptA_no _ _ _ _ _ _ _)⟩,gr_setNew G (by omega)⟩
end
section
attribute [local go_sem ↓] uz8 Go.wp_at_zero Go.wp_at_succ
attribute [local go_sem] uz9
theorem rplus_inf1(id:Int)(P A B N X Y:Nat)(qc:Nat→Option Addr×Nat)(x1 y1 x2 y2:Nat)(f:Bool)(p1 q1:Option Addr)(n1 m1:Nat)(p2 q2:Option Addr)(n2 m2:Nat)(w:World)(HQ:∀k,Sl w (qc k).1 (six P A B N X Y k))(Sx1:Sl w p1 x1)(Sy1:Sl w q1 y1)(Sx2:Sl w p2 x2)(Sy2:Sl w q2 y2):
 Calls prog 18 #[.agg (crA id (six P A B N X Y) qc),.agg (ptA p1 (x1) n1 q1 (y1) m1 true),.agg (ptA p2 (x2) n2 q2 (y2) m2 f)] w (Rt (.pt x2 y2 f) w):=by
 go_enter func18,ntmps18
 go_upto_region 1 with fail
 refine gen_w (fun v=>Gr w v∧Vr v (w.heap.size) (crA id (six P A B N X Y) qc)∧Vr v (w.heap.size+1) (ptA p1 (x1) n1 q1 (y1) m1 true)∧Vr v (w.heap.size+1+1) (ptA p2 (x2) n2 q2 (y2) m2 f)∧Vr v (w.heap.size+1+1+1) (ptA none 0 0 none 0 0 false)) ⟨grA,vrA,vrA,vrA,vrA⟩ ?_;rintro Q ⟨G,S,q,x,l⟩;replace HQ:=fun k=>(HQ k).gr G;replace Sx1:=Sx1.gr G;replace Sy1:=Sy1.gr G;replace Sx2:=Sx2.gr G;replace Sy2:=Sy2.gr G;refine wp_wS [.c (pv (w.heap.size+1) 2),.T] [1] ⟨.o 4 2 q rfl rfl,⟨⟩⟩ fun C U i D=>?_;simp only[fzw];clear D;have d:=i;clear i
 go_upto_region 2 with fail
 refine wp_wTS 1 [.c (.agg (ptA p2 (x2) n2 q2 (y2) m2 f))] [0] ⟨.g 41 0 (x.gr d) rfl,⟨⟩⟩ (.s 41 (fun H=>pv (w.heap.size+1+1+1) 0) (fun H=>.agg (ptA p2 (x2) n2 q2 (y2) m2 f)) fun I J i K=>?_);have j:=((l.gr d).gr i).h;have L:=((l.gr d).gr i).f;refine⟨setBlk J (w.heap.size+1+1+1) (ptA p2 (x2) n2 q2 (y2) m2 f),by simp[go_sem,exI,j,L],?_⟩;simp only[fzw];clear K;replace d:=d.trans i;replace G:=G.trans d;replace Sx2:=Sx2.gr d;replace Sy2:=Sy2.gr d
 go_wp2_with fail
 exact bo1 results18 (rd_pt _ _ _ _ _ _ _ (by rfl) (blk_setBlk _ _ _ (by rw[j];decide))) ⟨_,rfl,⟨_,_,_,_,rfl,Sl.set Sx2 (by rw[j];exact ptA_no _ _ _ _ _ _ _),Sl.set Sy2 (by rw[j];exact ptA_no _ _ _ _ _ _ _)⟩,gr_setNew G (by omega)⟩
theorem rplus_inf2(id:Int)(P A B N X Y:Nat)(qc:Nat→Option Addr×Nat)(x1 y1 x2 y2:Nat)(p1 q1:Option Addr)(n1 m1:Nat)(p2 q2:Option Addr)(n2 m2:Nat)(w:World)(HQ:∀k,Sl w (qc k).1 (six P A B N X Y k))(Sx1:Sl w p1 x1)(Sy1:Sl w q1 y1)(Sx2:Sl w p2 x2)(Sy2:Sl w q2 y2):
 Calls prog 18 #[.agg (crA id (six P A B N X Y) qc),.agg (ptA p1 (x1) n1 q1 (y1) m1 false),.agg (ptA p2 (x2) n2 q2 (y2) m2 true)] w (Rt (.pt x1 y1 false) w):=by
 go_enter func18,ntmps18
 go_upto_region 1 with fail
 refine gen_w (fun v=>Gr w v∧Vr v (w.heap.size) (crA id (six P A B N X Y) qc)∧Vr v (w.heap.size+1) (ptA p1 (x1) n1 q1 (y1) m1 false)∧Vr v (w.heap.size+1+1) (ptA p2 (x2) n2 q2 (y2) m2 true)∧Vr v (w.heap.size+1+1+1) (ptA none 0 0 none 0 0 false)) ⟨grA,vrA,vrA,vrA,vrA⟩ ?_;rintro V ⟨G,l,q,C,x⟩;replace HQ:=fun k=>(HQ k).gr G;replace Sx1:=Sx1.gr G;replace Sy1:=Sy1.gr G;replace Sx2:=Sx2.gr G;replace Sy2:=Sy2.gr G;refine wp_wS [.c (pv (w.heap.size+1) 2),.F] [1] ⟨.o 4 2 q rfl rfl,⟨⟩⟩ fun D W i H=>?_;simp only[fzw];clear H;have d:=i;clear i
 go_upto_region 3 with fail
 refine wp_wS [.c (pv (w.heap.size+1+1) 2),.T] [1] ⟨.o 4 2 (C.gr d) rfl rfl,⟨⟩⟩ fun I Z i J=>?_;simp only[fzw];clear J;replace d:=d.trans i;clear i
 go_upto_region 4 with fail
 refine wp_wTS 1 [.c (.agg (ptA p1 (x1) n1 q1 (y1) m1 false))] [0] ⟨.g 41 0 (q.gr d) rfl,⟨⟩⟩ (.s 41 (fun K=>pv (w.heap.size+1+1+1) 0) (fun K=>.agg (ptA p1 (x1) n1 q1 (y1) m1 false)) fun L Q i S=>?_);have j:=((x.gr d).gr i).h;have U:=((x.gr d).gr i).f;refine⟨setBlk Q (w.heap.size+1+1+1) (ptA p1 (x1) n1 q1 (y1) m1 false),by simp[go_sem,exI,j,U],?_⟩;simp only[fzw];clear S;replace d:=d.trans i;clear i;replace G:=G.trans d;replace l:=l.gr d;replace Sx1:=Sx1.gr d;replace Sy1:=Sy1.gr d
 go_wp2_with fail
 exact bo1 results18 (rd_pt _ _ _ _ _ _ _ (by rfl) (blk_setBlk _ _ _ (by rw[j];decide))) ⟨_,rfl,⟨_,_,_,_,rfl,Sl.set Sx1 (by rw[j];exact ptA_no _ _ _ _ _ _ _),Sl.set Sy1 (by rw[j];exact ptA_no _ _ _ _ _ _ _)⟩,gr_setNew G (by omega)⟩
theorem rplus_op(id:Int)(P A B N X Y:Nat)(qc:Nat→Option Addr×Nat)(x y1 y2:Nat)(hd:dl P≤400)(lx:x<P)(ly1:y1<P)(ly2:y2<P)(hy:y1≠y2)(p1 q1:Option Addr)(n1 m1:Nat)(p2 q2:Option Addr)(n2 m2:Nat)(w:World)(HQ:∀k,Sl w (qc k).1 (six P A B N X Y k))(Sx1:Sl w p1 x)(Sy1:Sl w q1 y1)(Sx2:Sl w p2 x)(Sy2:Sl w q2 y2):
 Calls prog 18 #[.agg (crA id (six P A B N X Y) qc),.agg (ptA p1 (x) n1 q1 (y1) m1 false),.agg (ptA p2 (x) n2 q2 (y2) m2 false)] w (Rt (.pt 0 0 true) w):=by
 obtain⟨I,Q⟩:=exl (cmpZ y1 y2)
 have V:(I != 0)=true:=by rw[bne,←Q,cmpZ_nought,decide_eq_false hy];rfl
 go_enter func18,ntmps18
 go_upto_region 1 with fail
 refine gen_w (fun v=>Gr w v∧Vr v (w.heap.size) (crA id (six P A B N X Y) qc)∧Vr v (w.heap.size+1) (ptA p1 (x) n1 q1 (y1) m1 false)∧Vr v (w.heap.size+1+1) (ptA p2 (x) n2 q2 (y2) m2 false)∧Vr v (w.heap.size+1+1+1) (ptA none 0 0 none 0 0 false)) ⟨grA,vrA,vrA,vrA,vrA⟩ ?_;rintro v0 ⟨G,c1,J,K,S⟩;replace HQ:=fun k=>(HQ k).gr G;replace Sx1:=Sx1.gr G;replace Sy1:=Sy1.gr G;replace Sx2:=Sx2.gr G;replace Sy2:=Sy2.gr G;refine wp_wS [.c (pv (w.heap.size+1) 2),.F] [1] ⟨.o 4 2 J rfl rfl,⟨⟩⟩ fun W v1 d Z=>?_;simp only[fzw];clear Z;have j:=d;clear d
 go_upto_region 3 with fail
 refine wp_wS [.c (pv (w.heap.size+1+1) 2),.F] [1] ⟨.o 4 2 (K.gr j) rfl rfl,⟨⟩⟩ fun aa v2 d h3=>?_;simp only[fzw];clear h3;replace j:=j.trans d;clear d
 go_upto_region 5 with fail
 refine wp_wS [.c (.slice none 0 0),.c (.slice none 0 0)] [] ⟨⟩ fun ab v3 d h5=>?_;simp only[fzw];clear h5;replace j:=j.trans d;clear d
 go_upto_region 6 with fail
 refine wp_wS [.c (pv (w.heap.size+1) 0),.c (.slice p1 (dl (x)) n1),.c (pv (w.heap.size+1+1) 0),.c (.slice p2 (dl (x)) n2),.O,.T] [1,3,4] ⟨.o 29 0 (J.gr j) rfl rfl,.o 29 0 (K.gr j) rfl rfl,.k (fun l =>#[.slice p1 (dl (x)) n1,.slice p2 (dl (x)) n2]) fun l L d U=>RtW.of_c (cz_any (Sx1.gr (j.trans d)) (Sx2.gr (j.trans d)) (dl_low _ P 400 (by omega) hd) (dl_low _ P 400 (by omega) hd) (by unfold cmpZ;simp)),⟨⟩⟩ fun ac v4 d h6=>?_;simp only[fzw];clear h6;replace j:=j.trans d;clear d
 go_upto_region 7 with fail
 refine wp_wS [.c (pv (w.heap.size+1) 1),.c (.slice q1 (dl (y1)) m1),.c (pv (w.heap.size+1+1) 1),.c (.slice q2 (dl (y2)) m2),.c (.int .i64 I),.T,.T,.u,.u,.u,.u,.T] [1,3,4,5] ⟨.o 29 1 (J.gr j) rfl rfl,.o 29 1 (K.gr j) rfl rfl,.k (fun l =>#[.slice q1 (dl (y1)) m1,.slice q2 (dl (y2)) m2]) fun l L d U=>RtW.of_c (cz_any (Sy1.gr (j.trans d)) (Sy2.gr (j.trans d)) (dl_low _ P 400 (by omega) hd) (dl_low _ P 400 (by omega) hd) Q),.s (.binOp .neq 3 (.const (.int .i64 I)) (.const (.int .i64 0)) 3) rfl fun L d=>by simp[go_sem,exI,V],⟨⟩⟩ fun ae v5 d h7=>?_;simp only[fzw];clear h7;replace j:=j.trans d;clear d
 go_upto_region 8 with fail
 refine wp_wTS 1 [.pt (0) (0) true] [0] ⟨.p (fun l i=>match i with|0=>(none,0)|_=>(none,0)) fun l L d U=>⟨Sl.zero _ _,Sl.zero _ _⟩,⟨⟩⟩ (.s 41 (fun l=>pv (w.heap.size+1+1+1) 0) (fun l=>.agg (ptA (l 0 0).1 (0) (l 0 0).2 (l 0 1).1 (0) (l 0 1).2 true)) fun q v6 d h8=>?_);have H:=((S.gr j).gr d).h;have FT:=((S.gr j).gr d).f;refine⟨setBlk v6 (w.heap.size+1+1+1) (ptA (q 0 0).1 (0) (q 0 0).2 (q 0 1).1 (0) (q 0 1).2 true),by simp[go_sem,exI,H,FT],?_⟩;simp only[fzw];obtain⟨C,D⟩:=h8 0;replace j:=j.trans d;replace G:=G.trans j
 go_wp2_with fail
 exact bo1 results18 (rd_pt _ _ _ _ _ _ _ (by rfl) (blk_setBlk _ _ _ (by rw[H];decide))) ⟨_,rfl,⟨_,_,_,_,rfl,Sl.set C (by rw[H];exact ptA_no _ _ _ _ _ _ _),Sl.set D (by rw[H];exact ptA_no _ _ _ _ _ _ _)⟩,gr_setNew G (by omega)⟩
theorem rplus_flat(id:Int)(P A B N X Y:Nat)(qc:Nat→Option Addr×Nat)(x:Nat)(hd:dl P≤400)(lx:x<P)(p1 q1:Option Addr)(n1 m1:Nat)(p2 q2:Option Addr)(n2 m2:Nat)(w:World)(HQ:∀k,Sl w (qc k).1 (six P A B N X Y k))(Sx1:Sl w p1 x)(Sy1:Sl w q1 0)(Sx2:Sl w p2 x)(Sy2:Sl w q2 0):
 Calls prog 18 #[.agg (crA id (six P A B N X Y) qc),.agg (ptA p1 (x) n1 q1 (0) m1 false),.agg (ptA p2 (x) n2 q2 (0) m2 false)] w (Rt (.pt 0 0 true) w):=by
 go_enter func18,ntmps18
 go_upto_region 1 with fail
 refine gen_w (fun v=>Gr w v∧Vr v (w.heap.size) (crA id (six P A B N X Y) qc)∧Vr v (w.heap.size+1) (ptA p1 (x) n1 q1 (0) m1 false)∧Vr v (w.heap.size+1+1) (ptA p2 (x) n2 q2 (0) m2 false)∧Vr v (w.heap.size+1+1+1) (ptA none 0 0 none 0 0 false)) ⟨grA,vrA,vrA,vrA,vrA⟩ ?_;rintro v0 ⟨G,c1,H,J,L⟩;replace HQ:=fun k=>(HQ k).gr G;replace Sx1:=Sx1.gr G;replace Sy1:=Sy1.gr G;replace Sx2:=Sx2.gr G;replace Sy2:=Sy2.gr G;refine wp_wS [.c (pv (w.heap.size+1) 2),.F] [1] ⟨.o 4 2 H rfl rfl,⟨⟩⟩ fun S v1 d U=>?_;simp only[fzw];clear U;have j:=d;clear d
 go_upto_region 3 with fail
 refine wp_wS [.c (pv (w.heap.size+1+1) 2),.F] [1] ⟨.o 4 2 (J.gr j) rfl rfl,⟨⟩⟩ fun V v2 d W=>?_;simp only[fzw];clear W;replace j:=j.trans d;clear d
 go_upto_region 5 with fail
 refine wp_wS [.c (.slice none 0 0),.c (.slice none 0 0)] [] ⟨⟩ fun Z v3 d h5=>?_;simp only[fzw];clear h5;replace j:=j.trans d;clear d
 go_upto_region 6 with fail
 refine wp_wS [.c (pv (w.heap.size+1) 0),.c (.slice p1 (dl (x)) n1),.c (pv (w.heap.size+1+1) 0),.c (.slice p2 (dl (x)) n2),.O,.T] [1,3,4] ⟨.o 29 0 (H.gr j) rfl rfl,.o 29 0 (J.gr j) rfl rfl,.k (fun l =>#[.slice p1 (dl (x)) n1,.slice p2 (dl (x)) n2]) fun l K d Q=>RtW.of_c (cz_any (Sx1.gr (j.trans d)) (Sx2.gr (j.trans d)) (dl_low _ P 400 (by omega) hd) (dl_low _ P 400 (by omega) hd) (by unfold cmpZ;simp)),⟨⟩⟩ fun aa v4 d h6=>?_;simp only[fzw];clear h6;replace j:=j.trans d;clear d
 go_upto_region 7 with fail
 refine wp_wS [.c (pv (w.heap.size+1) 1),.c (.slice q1 (dl (0)) m1),.c (pv (w.heap.size+1+1) 1),.c (.slice q2 (dl (0)) m2),.O,.F,.F,.c (pv (w.heap.size+1) 1),.c (.slice q1 (dl (0)) m1),.c (.int .i64 (dl (0))),.T,.T] [1,3,4,8,10] ⟨.o 29 1 (H.gr j) rfl rfl,.o 29 1 (J.gr j) rfl rfl,.k (fun l =>#[.slice q1 (dl (0)) m1,.slice q2 (dl (0)) m2]) fun l K d Q=>RtW.of_c (cz_any (Sy1.gr (j.trans d)) (Sy2.gr (j.trans d)) (dl_low _ P 400 (by omega) hd) (dl_low _ P 400 (by omega) hd) (by unfold cmpZ;simp)),.o 29 1 (H.gr j) rfl rfl,.s (.binOp .eql 3 (.const (.int .i64 (dl (0)))) (.const (.int .i64 0)) 3) rfl fun K d=>by simp[go_sem,exI,dl_zero],⟨⟩⟩ fun ab v5 d h7=>?_;simp only[fzw];clear h7;replace j:=j.trans d;clear d
 go_upto_region 8 with fail
 refine wp_wTS 1 [.pt (0) (0) true] [0] ⟨.p (fun l i=>match i with|0=>(none,0)|_=>(none,0)) fun l K d Q=>⟨Sl.zero _ _,Sl.zero _ _⟩,⟨⟩⟩ (.s 41 (fun l=>pv (w.heap.size+1+1+1) 0) (fun l=>.agg (ptA (l 0 0).1 (0) (l 0 0).2 (l 0 1).1 (0) (l 0 1).2 true)) fun q v6 d h8=>?_);have I:=((L.gr j).gr d).h;have FT:=((L.gr j).gr d).f;refine⟨setBlk v6 (w.heap.size+1+1+1) (ptA (q 0 0).1 (0) (q 0 0).2 (q 0 1).1 (0) (q 0 1).2 true),by simp[go_sem,exI,I,FT],?_⟩;simp only[fzw];obtain⟨C,D⟩:=h8 0;replace j:=j.trans d;replace G:=G.trans j
 go_wp2_with fail
 exact bo1 results18 (rd_pt _ _ _ _ _ _ _ (by rfl) (blk_setBlk _ _ _ (by rw[I];decide))) ⟨_,rfl,⟨_,_,_,_,rfl,Sl.set C (by rw[I];exact ptA_no _ _ _ _ _ _ _),Sl.set D (by rw[I];exact ptA_no _ _ _ _ _ _ _)⟩,gr_setNew G (by omega)⟩
end
section
attribute [local go_sem ↓] uz8 Go.wp_at_zero Go.wp_at_succ
attribute [local go_sem] uz9
theorem rplus_dbl(id:Int)(P A B N X Y:Nat)(qc:Nat→Option Addr×Nat)(x y:Nat)(hd:dl P≤400)(lx:x<P)(ly:y<P)(lA:A<P)(h0:y≠0)(h1P:1<P)(p1 q1:Option Addr)(n1 m1:Nat)(p2 q2:Option Addr)(n2 m2:Nat)(iv:Nat)(t1:Nat)(ht1:x*x%P=t1)(t2:Nat)(ht2:(t1+t1)%P=t2)(t3:Nat)(ht3:(t1+t2)%P=t3)(t4:Nat)(ht4:(t3+A)%P=t4)(t5:Nat)(ht5:(y+y)%P=t5)(t6:Nat)(ht6:t4*iv%P=t6)(t7:Nat)(ht7:t6*t6%P=t7)(t8:Nat)(ht8:subM t7 x P=t8)(t9:Nat)(ht9:subM t8 x P=t9)(t10:Nat)(ht10:subM x t9 P=t10)(t11:Nat)(ht11:t6*t10%P=t11)(t12:Nat)(ht12:subM t11 y P=t12)(liv:iv<P)(hiv:t5*iv%P=1)(w:World)(HQ:∀k,Sl w (qc k).1 (six P A B N X Y k))(Sx1:Sl w p1 x)(Sy1:Sl w q1 y)(Sx2:Sl w p2 x)(Sy2:Sl w q2 y):
 Calls prog 18 #[.agg (crA id (six P A B N X Y) qc),.agg (ptA p1 (x) n1 q1 (y) m1 false),.agg (ptA p2 (x) n2 q2 (y) m2 false)] w (Rt (.pt t9 t12 false) w):=by
 have hP:0<P:=by omega
 have zy:((dl y:Int)==0)=false:=by rw[dl_nought,decide_eq_false h0]
 have ai:=ht1▸Nat.mod_lt _ hP;have aG:=ht2▸Nat.mod_lt _ hP;have aH:=ht3▸Nat.mod_lt _ hP;have aI:=ht4▸Nat.mod_lt _ hP;have aJ:=ht5▸Nat.mod_lt _ hP;have aj:=ht6▸Nat.mod_lt _ hP;have au:=ht7▸Nat.mod_lt _ hP;have av:=ht8▸subM_lt au lx;have aw:=ht9▸subM_lt av lx;have ax:=ht10▸subM_lt lx aw;have ah:=ht11▸Nat.mod_lt _ hP;have aM:=ht12▸subM_lt ah ly
 go_enter func18,ntmps18
 go_upto_region 1 with fail
 refine gen_w (fun v=>Gr w v∧Vr v (w.heap.size) (crA id (six P A B N X Y) qc)∧Vr v (w.heap.size+1) (ptA p1 (x) n1 q1 (y) m1 false)∧Vr v (w.heap.size+1+1) (ptA p2 (x) n2 q2 (y) m2 false)∧Vr v (w.heap.size+1+1+1) (ptA none 0 0 none 0 0 false)) ⟨grA,vrA,vrA,vrA,vrA⟩ ?_;rintro v0 ⟨G,Q,c2,c3,c4⟩;replace HQ:=fun k=>(HQ k).gr G;replace Sx1:=Sx1.gr G;replace Sy1:=Sy1.gr G;replace Sx2:=Sx2.gr G;replace Sy2:=Sy2.gr G;refine wp_wS [.c (pv (w.heap.size+1) 2),.F] [1] ⟨.o 4 2 c2 rfl rfl,⟨⟩⟩ fun aO v1 d h1=>?_;simp only[fzw];clear h1;have j:=d;clear d
 go_upto_region 3 with fail
 refine wp_wS [.c (pv (w.heap.size+1+1) 2),.F] [1] ⟨.o 4 2 (c3.gr j) rfl rfl,⟨⟩⟩ fun aP v2 d h3=>?_;simp only[fzw];clear h3;replace j:=j.trans d;clear d
 go_upto_region 5 with fail
 refine wp_wS [.c (.slice none 0 0),.c (.slice none 0 0)] [] ⟨⟩ fun aQ v3 d h5=>?_;simp only[fzw];clear h5;replace j:=j.trans d;clear d
 go_upto_region 6 with fail
 refine wp_wS [.c (pv (w.heap.size+1) 0),.c (.slice p1 (dl (x)) n1),.c (pv (w.heap.size+1+1) 0),.c (.slice p2 (dl (x)) n2),.O,.T] [1,3,4] ⟨.o 29 0 (c2.gr j) rfl rfl,.o 29 0 (c3.gr j) rfl rfl,.k (fun l =>#[.slice p1 (dl (x)) n1,.slice p2 (dl (x)) n2]) fun l K d H=>RtW.of_c (cz_any (Sx1.gr (j.trans d)) (Sx2.gr (j.trans d)) (dl_low _ P 400 (by omega) hd) (dl_low _ P 400 (by omega) hd) (by unfold cmpZ;simp)),⟨⟩⟩ fun aR v4 d h6=>?_;simp only[fzw];clear h6;replace j:=j.trans d;clear d
 go_upto_region 7 with fail
 refine wp_wS [.c (pv (w.heap.size+1) 1),.c (.slice q1 (dl (y)) m1),.c (pv (w.heap.size+1+1) 1),.c (.slice q2 (dl (y)) m2),.O,.F,.F,.c (pv (w.heap.size+1) 1),.c (.slice q1 (dl (y)) m1),.c (.int .i64 (dl (y))),.F,.F] [1,3,4,8,10] ⟨.o 29 1 (c2.gr j) rfl rfl,.o 29 1 (c3.gr j) rfl rfl,.k (fun l =>#[.slice q1 (dl (y)) m1,.slice q2 (dl (y)) m2]) fun l K d H=>RtW.of_c (cz_any (Sy1.gr (j.trans d)) (Sy2.gr (j.trans d)) (dl_low _ P 400 (by omega) hd) (dl_low _ P 400 (by omega) hd) (by unfold cmpZ;simp)),.o 29 1 (c2.gr j) rfl rfl,.s (.binOp .eql 3 (.const (.int .i64 (dl (y)))) (.const (.int .i64 0)) 3) rfl fun K d=>by simp[go_sem,exI,zy],⟨⟩⟩ fun aS v5 d h7=>?_;simp only[fzw];clear h7;replace j:=j.trans d;clear d
 go_upto_region 9 with fail
 refine wp_wS [.c (pv (w.heap.size+1) 0),.c (.slice p1 (dl (x)) n1),.c (pv (w.heap.size+1) 0),.c (.slice p1 (dl (x)) n1),.c (pv (w.heap.size) 1),.c (.slice (qc 0).1 (dl (P)) (qc 0).2),.n (t1),.n (t1)] [1,3,5,6,7] ⟨.o 29 0 (c2.gr j) rfl rfl,.o 29 0 (c2.gr j) rfl rfl,.o 29 1 (Q.gr j) rfl rfl,.k (fun l =>#[.slice p1 (dl (x)) n1,.slice p1 (dl (x)) n1,.slice (qc 0).1 (dl (P)) (qc 0).2]) fun l K d H=>RtW.of_n (mm_any (Sx1.gr (j.trans d)) (Sx1.gr (j.trans d)) ((HQ 0).gr (j.trans d)) lx lx hd ht1),.m 6,⟨⟩⟩ fun D v6 d h9=>?_;simp only[fzw];have ac:=h9 7;clear h9;replace j:=j.trans d;clear d
 go_upto_region 10 with fail
 refine wp_w [.c (.slice (D 7 0).1 (dl (t1)) (D 7 0).2),.c (.slice (D 7 0).1 (dl (t1)) (D 7 0).2),.c (.slice (D 7 0).1 (dl (t1)) (D 7 0).2),.c (pv (w.heap.size) 1),.c (.slice (qc 0).1 (dl (P)) (qc 0).2),.n (t2),.c (pv (w.heap.size) 1),.c (.slice (qc 0).1 (dl (P)) (qc 0).2),.n (t3),.c (pv (w.heap.size) 2),.c (.slice (qc 1).1 (dl (A)) (qc 1).2),.c (pv (w.heap.size) 1),.c (.slice (qc 0).1 (dl (P)) (qc 0).2),.n (t4),.n (t4)] [4,5,7,8,10,12,13,14] ⟨.o 29 1 (Q.gr j) rfl rfl,.k (fun l =>#[.slice (D 7 0).1 (dl (t1)) (D 7 0).2,.slice (D 7 0).1 (dl (t1)) (D 7 0).2,.slice (qc 0).1 (dl (P)) (qc 0).2]) fun l K d H=>RtW.of_n (am_any (ac.gr d) (ac.gr d) ((HQ 0).gr (j.trans d)) ai ai hd ht2),.o 29 1 (Q.gr j) rfl rfl,.k (fun l =>#[.slice (D 7 0).1 (dl (t1)) (D 7 0).2,.slice (l 5 0).1 (dl (t2)) (l 5 0).2,.slice (qc 0).1 (dl (P)) (qc 0).2]) fun l K d H=>RtW.of_n (am_any (ac.gr d) (H 5 rfl) ((HQ 0).gr (j.trans d)) ai aG hd ht3),.o 29 2 (Q.gr j) rfl rfl,.o 29 1 (Q.gr j) rfl rfl,.k (fun l =>#[.slice (l 8 0).1 (dl (t3)) (l 8 0).2,.slice (qc 1).1 (dl (A)) (qc 1).2,.slice (qc 0).1 (dl (P)) (qc 0).2]) fun l K d H=>RtW.of_n (am_any (H 8 rfl) ((HQ 1).gr (j.trans d)) ((HQ 0).gr (j.trans d)) aH lA hd ht4),.m 13,⟨⟩⟩ fun S v7 d ay=>?_;simp only[fzw];have ae:=ay 14;clear ay;replace j:=j.trans d;have I:=d;clear d
 go_upto_region 11 with fail
 refine wp_wS [.c (pv (w.heap.size+1) 1),.c (.slice q1 (dl (y)) m1),.c (pv (w.heap.size+1) 1),.c (.slice q1 (dl (y)) m1),.c (pv (w.heap.size) 1),.c (.slice (qc 0).1 (dl (P)) (qc 0).2),.n (t5),.n (t5)] [1,3,5,6,7] ⟨.o 29 1 (c2.gr j) rfl rfl,.o 29 1 (c2.gr j) rfl rfl,.o 29 1 (Q.gr j) rfl rfl,.k (fun l =>#[.slice q1 (dl (y)) m1,.slice q1 (dl (y)) m1,.slice (qc 0).1 (dl (P)) (qc 0).2]) fun l K d H=>RtW.of_n (am_any (Sy1.gr (j.trans d)) (Sy1.gr (j.trans d)) ((HQ 0).gr (j.trans d)) ly ly hd ht5),.m 6,⟨⟩⟩ fun U v8 d az=>?_;simp only[fzw];have ak:=az 7;clear az;replace j:=j.trans d;replace I:=I.trans d;have J:=d;clear d
 go_upto_region 14 with fail
 refine wp_wS [.c (.slice (U 7 0).1 (dl (t5)) (U 7 0).2),.c (pv (w.heap.size) 1),.c (.slice (qc 0).1 (dl (P)) (qc 0).2),.nb (iv) true,.nb (iv) true,.n (iv),.T,.n (iv),.T] [2,3,4,5,6,7] ⟨.o 29 1 (Q.gr j) rfl rfl,.k (fun l =>#[.slice (U 7 0).1 (dl (t5)) (U 7 0).2,.slice (qc 0).1 (dl (P)) (qc 0).2]) fun l K d H=>RtW.of_nb (iv_any (ak.gr d) ((HQ 0).gr (j.trans d)) aJ hd h1P liv hiv),.m 3,.m 4,.m 4,.m 5,⟨⟩⟩ fun V v9 d aA=>?_;simp only[fzw];have ao:=aA 7;clear aA;replace j:=j.trans d;replace I:=I.trans d;replace J:=J.trans d;have ab:=d;clear d
 go_upto_region 15 with fail
 refine wp_wS [.c (.slice (S 14 0).1 (dl (t4)) (S 14 0).2),.c (.slice (V 7 0).1 (dl (iv)) (V 7 0).2),.c (pv (w.heap.size) 1),.c (.slice (qc 0).1 (dl (P)) (qc 0).2),.n (t6),.n (t6)] [3,4,5] ⟨.o 29 1 (Q.gr j) rfl rfl,.k (fun l =>#[.slice (S 14 0).1 (dl (t4)) (S 14 0).2,.slice (V 7 0).1 (dl (iv)) (V 7 0).2,.slice (qc 0).1 (dl (P)) (qc 0).2]) fun l K d H=>RtW.of_n (mm_any (ae.gr (J.trans d)) (ao.gr d) ((HQ 0).gr (j.trans d)) aI liv hd ht6),.m 4,⟨⟩⟩ fun q aT d aB=>?_;simp only[fzw];have L:=aB 5;clear aB;replace j:=j.trans d;replace I:=I.trans d;replace J:=J.trans d;replace ab:=ab.trans d;have af:=d;clear d
 go_upto_region 16 with fail
 refine wp_w [.c (.slice (q 5 0).1 (dl (t6)) (q 5 0).2),.c (.slice (q 5 0).1 (dl (t6)) (q 5 0).2),.c (pv (w.heap.size) 1),.c (.slice (qc 0).1 (dl (P)) (qc 0).2),.n (t7),.c (pv (w.heap.size+1) 0),.c (.slice p1 (dl (x)) n1),.c (pv (w.heap.size) 1),.c (.slice (qc 0).1 (dl (P)) (qc 0).2),.n (t8),.c (pv (w.heap.size+1+1) 0),.c (.slice p2 (dl (x)) n2),.c (pv (w.heap.size) 1),.c (.slice (qc 0).1 (dl (P)) (qc 0).2),.n (t9),.n (t9)] [3,4,6,8,9,11,13,14,15] ⟨.o 29 1 (Q.gr j) rfl rfl,.k (fun l =>#[.slice (q 5 0).1 (dl (t6)) (q 5 0).2,.slice (q 5 0).1 (dl (t6)) (q 5 0).2,.slice (qc 0).1 (dl (P)) (qc 0).2]) fun l K d H=>RtW.of_n (mm_any (L.gr d) (L.gr d) ((HQ 0).gr (j.trans d)) aj aj hd ht7),.o 29 0 (c2.gr j) rfl rfl,.o 29 1 (Q.gr j) rfl rfl,.k (fun l =>#[.slice (l 4 0).1 (dl (t7)) (l 4 0).2,.slice p1 (dl (x)) n1,.slice (qc 0).1 (dl (P)) (qc 0).2]) fun l K d H=>RtW.of_n (sm_any (H 4 rfl) (Sx1.gr (j.trans d)) ((HQ 0).gr (j.trans d)) au lx hd ht8),.o 29 0 (c3.gr j) rfl rfl,.o 29 1 (Q.gr j) rfl rfl,.k (fun l =>#[.slice (l 9 0).1 (dl (t8)) (l 9 0).2,.slice p2 (dl (x)) n2,.slice (qc 0).1 (dl (P)) (qc 0).2]) fun l K d H=>RtW.of_n (sm_any (H 9 rfl) (Sx2.gr (j.trans d)) ((HQ 0).gr (j.trans d)) av lx hd ht9),.m 14,⟨⟩⟩ fun C aU d aC=>?_;simp only[fzw];have W:=aC 15;clear aC;replace j:=j.trans d;replace I:=I.trans d;replace J:=J.trans d;replace ab:=ab.trans d;replace af:=af.trans d;have ap:=d;clear d
 go_upto_region 17 with fail
 refine wp_w [.c (.slice (q 5 0).1 (dl (t6)) (q 5 0).2),.c (pv (w.heap.size+1) 0),.c (.slice p1 (dl (x)) n1),.c (.slice (C 15 0).1 (dl (t9)) (C 15 0).2),.c (pv (w.heap.size) 1),.c (.slice (qc 0).1 (dl (P)) (qc 0).2),.n (t10),.c (pv (w.heap.size) 1),.c (.slice (qc 0).1 (dl (P)) (qc 0).2),.n (t11),.c (pv (w.heap.size+1) 1),.c (.slice q1 (dl (y)) m1),.c (pv (w.heap.size) 1),.c (.slice (qc 0).1 (dl (P)) (qc 0).2),.n (t12),.n (t12)] [2,5,6,8,9,11,13,14,15] ⟨.o 29 0 (c2.gr j) rfl rfl,.o 29 1 (Q.gr j) rfl rfl,.k (fun l =>#[.slice p1 (dl (x)) n1,.slice (C 15 0).1 (dl (t9)) (C 15 0).2,.slice (qc 0).1 (dl (P)) (qc 0).2]) fun l K d H=>RtW.of_n (sm_any (Sx1.gr (j.trans d)) (W.gr d) ((HQ 0).gr (j.trans d)) lx aw hd ht10),.o 29 1 (Q.gr j) rfl rfl,.k (fun l =>#[.slice (q 5 0).1 (dl (t6)) (q 5 0).2,.slice (l 6 0).1 (dl (t10)) (l 6 0).2,.slice (qc 0).1 (dl (P)) (qc 0).2]) fun l K d H=>RtW.of_n (mm_any (L.gr (ap.trans d)) (H 6 rfl) ((HQ 0).gr (j.trans d)) aj ax hd ht11),.o 29 1 (c2.gr j) rfl rfl,.o 29 1 (Q.gr j) rfl rfl,.k (fun l =>#[.slice (l 9 0).1 (dl (t11)) (l 9 0).2,.slice q1 (dl (y)) m1,.slice (qc 0).1 (dl (P)) (qc 0).2]) fun l K d H=>RtW.of_n (sm_any (H 9 rfl) (Sy1.gr (j.trans d)) ((HQ 0).gr (j.trans d)) ah ly hd ht12),.m 14,⟨⟩⟩ fun Z aV d aD=>?_;simp only[fzw];have ag:=aD 15;clear aD;replace j:=j.trans d;replace I:=I.trans d;replace J:=J.trans d;replace ab:=ab.trans d;replace af:=af.trans d;replace ap:=ap.trans d;have aK:=d;clear d
 go_upto_region 18 with fail
 refine wp_wTS 3 [.c (.slice (C 15 0).1 (dl (t9)) (C 15 0).2),.c (.slice (Z 15 0).1 (dl (t12)) (Z 15 0).2),.pt (t9) (t12) false] [2] ⟨.p (fun l i=>match i with|0=>((C 15 0).1,(C 15 0).2)|_=>((Z 15 0).1,(Z 15 0).2)) fun l K d H=>⟨(W.gr (aK.trans d)),(ag.gr d)⟩,⟨⟩⟩ (.s 41 (fun l=>pv (w.heap.size+1+1+1) 0) (fun l=>.agg (ptA (l 2 0).1 (t9) (l 2 0).2 (l 2 1).1 (t12) (l 2 1).2 false)) fun aa aL d aE=>?_);have HT:=((c4.gr j).gr d).h;have FT:=((c4.gr j).gr d).f;refine⟨setBlk aL (w.heap.size+1+1+1) (ptA (aa 2 0).1 (t9) (aa 2 0).2 (aa 2 1).1 (t12) (aa 2 1).2 false),by simp[go_sem,exI,HT,FT],?_⟩;simp only[fzw];obtain⟨aq,ar⟩:=aE 2;clear aE;replace j:=j.trans d;replace G:=G.trans j
 go_wp2_with fail
 exact bo1 results18 (rd_pt _ _ _ _ _ _ _ (by rfl) (blk_setBlk _ _ _ (by rw[HT];decide))) ⟨_,rfl,⟨_,_,_,_,rfl,Sl.set aq (by rw[HT];exact ptA_no _ _ _ _ _ _ _),Sl.set ar (by rw[HT];exact ptA_no _ _ _ _ _ _ _)⟩,gr_setNew G (by omega)⟩
end
section
attribute [local go_sem ↓] uz8 Go.wp_at_zero Go.wp_at_succ
attribute [local go_sem] uz9
theorem rplus_add(id:Int)(P A B N X Y:Nat)(qc:Nat→Option Addr×Nat)(x1 y1 x2 y2:Nat)(hd:dl P≤400)(lx1:x1<P)(ly1:y1<P)(lx2:x2<P)(ly2:y2<P)(hx:x1≠x2)(h1P:1<P)(p1 q1:Option Addr)(n1 m1:Nat)(p2 q2:Option Addr)(n2 m2:Nat)(iv:Nat)(t1:Nat)(ht1:subM y2 y1 P=t1)(t2:Nat)(ht2:subM x2 x1 P=t2)(t3:Nat)(ht3:t1*iv%P=t3)(t4:Nat)(ht4:t3*t3%P=t4)(t5:Nat)(ht5:subM t4 x1 P=t5)(t6:Nat)(ht6:subM t5 x2 P=t6)(t7:Nat)(ht7:subM x1 t6 P=t7)(t8:Nat)(ht8:t3*t7%P=t8)(t9:Nat)(ht9:subM t8 y1 P=t9)(liv:iv<P)(hiv:t2*iv%P=1)(w:World)(HQ:∀k,Sl w (qc k).1 (six P A B N X Y k))(Sx1:Sl w p1 x1)(Sy1:Sl w q1 y1)(Sx2:Sl w p2 x2)(Sy2:Sl w q2 y2):
 Calls prog 18 #[.agg (crA id (six P A B N X Y) qc),.agg (ptA p1 (x1) n1 q1 (y1) m1 false),.agg (ptA p2 (x2) n2 q2 (y2) m2 false)] w (Rt (.pt t6 t9 false) w):=by
 have hP:0<P:=by omega
 obtain⟨zz,ez⟩:=exl (cmpZ x1 x2)
 have bz:(zz==0)=false:=by rw[←ez,cmpZ_nought,decide_eq_false hx]
 have az:=ht1▸subM_lt ly2 ly1;have aA:=ht2▸subM_lt lx2 lx1;have ab:=ht3▸Nat.mod_lt _ hP;have aj:=ht4▸Nat.mod_lt _ hP;have ak:=ht5▸subM_lt aj lx1;have ao:=ht6▸subM_lt ak lx2;have aB:=ht7▸subM_lt lx1 ao;have ap:=ht8▸Nat.mod_lt _ hP;have aE:=ht9▸subM_lt ap ly1
 go_enter func18,ntmps18
 go_upto_region 1 with fail
 refine gen_w (fun v=>Gr w v∧Vr v (w.heap.size) (crA id (six P A B N X Y) qc)∧Vr v (w.heap.size+1) (ptA p1 (x1) n1 q1 (y1) m1 false)∧Vr v (w.heap.size+1+1) (ptA p2 (x2) n2 q2 (y2) m2 false)∧Vr v (w.heap.size+1+1+1) (ptA none 0 0 none 0 0 false)) ⟨grA,vrA,vrA,vrA,vrA⟩ ?_;rintro v0 ⟨G,W,c2,c3,c4⟩;replace HQ:=fun k=>(HQ k).gr G;replace Sx1:=Sx1.gr G;replace Sy1:=Sy1.gr G;replace Sx2:=Sx2.gr G;replace Sy2:=Sy2.gr G;refine wp_wS [.c (pv (w.heap.size+1) 2),.F] [1] ⟨.o 4 2 c2 rfl rfl,⟨⟩⟩ fun aG v1 d h1=>?_;simp only[fzw];clear h1;have j:=d;clear d
 go_upto_region 3 with fail
 refine wp_wS [.c (pv (w.heap.size+1+1) 2),.F] [1] ⟨.o 4 2 (c3.gr j) rfl rfl,⟨⟩⟩ fun aH v2 d h3=>?_;simp only[fzw];clear h3;replace j:=j.trans d;clear d
 go_upto_region 5 with fail
 refine wp_wS [.c (.slice none 0 0),.c (.slice none 0 0)] [] ⟨⟩ fun aI v3 d h5=>?_;simp only[fzw];clear h5;replace j:=j.trans d;clear d
 go_upto_region 6 with fail
 refine wp_wS [.c (pv (w.heap.size+1) 0),.c (.slice p1 (dl (x1)) n1),.c (pv (w.heap.size+1+1) 0),.c (.slice p2 (dl (x2)) n2),.c (.int .i64 zz),.F] [1,3,4,5] ⟨.o 29 0 (c2.gr j) rfl rfl,.o 29 0 (c3.gr j) rfl rfl,.k (fun q =>#[.slice p1 (dl (x1)) n1,.slice p2 (dl (x2)) n2]) fun q V d D=>RtW.of_c (cz_any (Sx1.gr (j.trans d)) (Sx2.gr (j.trans d)) (dl_low _ P 400 (by omega) hd) (dl_low _ P 400 (by omega) hd) ez),.s (.binOp .eql 3 (.const (.int .i64 zz)) (.const (.int .i64 0)) 3) rfl fun V d=>by simp[go_sem,exI,bz],⟨⟩⟩ fun aJ v4 d h6=>?_;simp only[fzw];clear h6;replace j:=j.trans d;clear d
 go_upto_region 12 with fail
 refine wp_wS [.c (pv (w.heap.size+1+1) 1),.c (.slice q2 (dl (y2)) m2),.c (pv (w.heap.size+1) 1),.c (.slice q1 (dl (y1)) m1),.c (pv (w.heap.size) 1),.c (.slice (qc 0).1 (dl (P)) (qc 0).2),.n (t1),.n (t1)] [1,3,5,6,7] ⟨.o 29 1 (c3.gr j) rfl rfl,.o 29 1 (c2.gr j) rfl rfl,.o 29 1 (W.gr j) rfl rfl,.k (fun q =>#[.slice q2 (dl (y2)) m2,.slice q1 (dl (y1)) m1,.slice (qc 0).1 (dl (P)) (qc 0).2]) fun q V d D=>RtW.of_n (sm_any (Sy2.gr (j.trans d)) (Sy1.gr (j.trans d)) ((HQ 0).gr (j.trans d)) ly2 ly1 hd ht1),.m 6,⟨⟩⟩ fun I v5 d aq=>?_;simp only[fzw];have ac:=aq 7;clear aq;replace j:=j.trans d;clear d
 go_upto_region 13 with fail
 refine wp_wS [.c (pv (w.heap.size+1+1) 0),.c (.slice p2 (dl (x2)) n2),.c (pv (w.heap.size+1) 0),.c (.slice p1 (dl (x1)) n1),.c (pv (w.heap.size) 1),.c (.slice (qc 0).1 (dl (P)) (qc 0).2),.n (t2),.n (t2)] [1,3,5,6,7] ⟨.o 29 0 (c3.gr j) rfl rfl,.o 29 0 (c2.gr j) rfl rfl,.o 29 1 (W.gr j) rfl rfl,.k (fun q =>#[.slice p2 (dl (x2)) n2,.slice p1 (dl (x1)) n1,.slice (qc 0).1 (dl (P)) (qc 0).2]) fun q V d D=>RtW.of_n (sm_any (Sx2.gr (j.trans d)) (Sx1.gr (j.trans d)) ((HQ 0).gr (j.trans d)) lx2 lx1 hd ht2),.m 6,⟨⟩⟩ fun J v6 d ar=>?_;simp only[fzw];have ae:=ar 7;clear ar;replace j:=j.trans d;have C:=d;clear d
 go_upto_region 14 with fail
 refine wp_wS [.c (.slice (J 7 0).1 (dl (t2)) (J 7 0).2),.c (pv (w.heap.size) 1),.c (.slice (qc 0).1 (dl (P)) (qc 0).2),.nb (iv) true,.nb (iv) true,.n (iv),.T,.n (iv),.T] [2,3,4,5,6,7] ⟨.o 29 1 (W.gr j) rfl rfl,.k (fun q =>#[.slice (J 7 0).1 (dl (t2)) (J 7 0).2,.slice (qc 0).1 (dl (P)) (qc 0).2]) fun q V d D=>RtW.of_nb (iv_any (ae.gr d) ((HQ 0).gr (j.trans d)) aA hd h1P liv hiv),.m 3,.m 4,.m 4,.m 5,⟨⟩⟩ fun K v7 d au=>?_;simp only[fzw];have af:=au 7;clear au;replace j:=j.trans d;replace C:=C.trans d;have U:=d;clear d
 go_upto_region 15 with fail
 refine wp_wS [.c (.slice (I 7 0).1 (dl (t1)) (I 7 0).2),.c (.slice (K 7 0).1 (dl (iv)) (K 7 0).2),.c (pv (w.heap.size) 1),.c (.slice (qc 0).1 (dl (P)) (qc 0).2),.n (t3),.n (t3)] [3,4,5] ⟨.o 29 1 (W.gr j) rfl rfl,.k (fun q =>#[.slice (I 7 0).1 (dl (t1)) (I 7 0).2,.slice (K 7 0).1 (dl (iv)) (K 7 0).2,.slice (qc 0).1 (dl (P)) (qc 0).2]) fun q V d D=>RtW.of_n (mm_any (ac.gr (C.trans d)) (af.gr d) ((HQ 0).gr (j.trans d)) az liv hd ht3),.m 4,⟨⟩⟩ fun l v8 d av=>?_;simp only[fzw];have H:=av 5;clear av;replace j:=j.trans d;replace C:=C.trans d;replace U:=U.trans d;have Z:=d;clear d
 go_upto_region 16 with fail
 refine wp_w [.c (.slice (l 5 0).1 (dl (t3)) (l 5 0).2),.c (.slice (l 5 0).1 (dl (t3)) (l 5 0).2),.c (pv (w.heap.size) 1),.c (.slice (qc 0).1 (dl (P)) (qc 0).2),.n (t4),.c (pv (w.heap.size+1) 0),.c (.slice p1 (dl (x1)) n1),.c (pv (w.heap.size) 1),.c (.slice (qc 0).1 (dl (P)) (qc 0).2),.n (t5),.c (pv (w.heap.size+1+1) 0),.c (.slice p2 (dl (x2)) n2),.c (pv (w.heap.size) 1),.c (.slice (qc 0).1 (dl (P)) (qc 0).2),.n (t6),.n (t6)] [3,4,6,8,9,11,13,14,15] ⟨.o 29 1 (W.gr j) rfl rfl,.k (fun q =>#[.slice (l 5 0).1 (dl (t3)) (l 5 0).2,.slice (l 5 0).1 (dl (t3)) (l 5 0).2,.slice (qc 0).1 (dl (P)) (qc 0).2]) fun q V d D=>RtW.of_n (mm_any (H.gr d) (H.gr d) ((HQ 0).gr (j.trans d)) ab ab hd ht4),.o 29 0 (c2.gr j) rfl rfl,.o 29 1 (W.gr j) rfl rfl,.k (fun q =>#[.slice (q 4 0).1 (dl (t4)) (q 4 0).2,.slice p1 (dl (x1)) n1,.slice (qc 0).1 (dl (P)) (qc 0).2]) fun q V d D=>RtW.of_n (sm_any (D 4 rfl) (Sx1.gr (j.trans d)) ((HQ 0).gr (j.trans d)) aj lx1 hd ht5),.o 29 0 (c3.gr j) rfl rfl,.o 29 1 (W.gr j) rfl rfl,.k (fun q =>#[.slice (q 9 0).1 (dl (t5)) (q 9 0).2,.slice p2 (dl (x2)) n2,.slice (qc 0).1 (dl (P)) (qc 0).2]) fun q V d D=>RtW.of_n (sm_any (D 9 rfl) (Sx2.gr (j.trans d)) ((HQ 0).gr (j.trans d)) ak lx2 hd ht6),.m 14,⟨⟩⟩ fun x v9 d aw=>?_;simp only[fzw];have L:=aw 15;clear aw;replace j:=j.trans d;replace C:=C.trans d;replace U:=U.trans d;replace Z:=Z.trans d;have ag:=d;clear d
 go_upto_region 17 with fail
 refine wp_w [.c (.slice (l 5 0).1 (dl (t3)) (l 5 0).2),.c (pv (w.heap.size+1) 0),.c (.slice p1 (dl (x1)) n1),.c (.slice (x 15 0).1 (dl (t6)) (x 15 0).2),.c (pv (w.heap.size) 1),.c (.slice (qc 0).1 (dl (P)) (qc 0).2),.n (t7),.c (pv (w.heap.size) 1),.c (.slice (qc 0).1 (dl (P)) (qc 0).2),.n (t8),.c (pv (w.heap.size+1) 1),.c (.slice q1 (dl (y1)) m1),.c (pv (w.heap.size) 1),.c (.slice (qc 0).1 (dl (P)) (qc 0).2),.n (t9),.n (t9)] [2,5,6,8,9,11,13,14,15] ⟨.o 29 0 (c2.gr j) rfl rfl,.o 29 1 (W.gr j) rfl rfl,.k (fun q =>#[.slice p1 (dl (x1)) n1,.slice (x 15 0).1 (dl (t6)) (x 15 0).2,.slice (qc 0).1 (dl (P)) (qc 0).2]) fun q V d D=>RtW.of_n (sm_any (Sx1.gr (j.trans d)) (L.gr d) ((HQ 0).gr (j.trans d)) lx1 ao hd ht7),.o 29 1 (W.gr j) rfl rfl,.k (fun q =>#[.slice (l 5 0).1 (dl (t3)) (l 5 0).2,.slice (q 6 0).1 (dl (t7)) (q 6 0).2,.slice (qc 0).1 (dl (P)) (qc 0).2]) fun q V d D=>RtW.of_n (mm_any (H.gr (ag.trans d)) (D 6 rfl) ((HQ 0).gr (j.trans d)) ab aB hd ht8),.o 29 1 (c2.gr j) rfl rfl,.o 29 1 (W.gr j) rfl rfl,.k (fun q =>#[.slice (q 9 0).1 (dl (t8)) (q 9 0).2,.slice q1 (dl (y1)) m1,.slice (qc 0).1 (dl (P)) (qc 0).2]) fun q V d D=>RtW.of_n (sm_any (D 9 rfl) (Sy1.gr (j.trans d)) ((HQ 0).gr (j.trans d)) ap ly1 hd ht9),.m 14,⟨⟩⟩ fun Q aK d ax=>?_;simp only[fzw];have aa:=ax 15;clear ax;replace j:=j.trans d;replace C:=C.trans d;replace U:=U.trans d;replace Z:=Z.trans d;replace ag:=ag.trans d;have aC:=d;clear d
 go_upto_region 18 with fail
 refine wp_wTS 3 [.c (.slice (x 15 0).1 (dl (t6)) (x 15 0).2),.c (.slice (Q 15 0).1 (dl (t9)) (Q 15 0).2),.pt (t6) (t9) false] [2] ⟨.p (fun q i=>match i with|0=>((x 15 0).1,(x 15 0).2)|_=>((Q 15 0).1,(Q 15 0).2)) fun q V d D=>⟨(L.gr (aC.trans d)),(aa.gr d)⟩,⟨⟩⟩ (.s 41 (fun q=>pv (w.heap.size+1+1+1) 0) (fun q=>.agg (ptA (q 2 0).1 (t6) (q 2 0).2 (q 2 1).1 (t9) (q 2 1).2 false)) fun S aD d ay=>?_);have HT:=((c4.gr j).gr d).h;have FT:=((c4.gr j).gr d).f;refine⟨setBlk aD (w.heap.size+1+1+1) (ptA (S 2 0).1 (t6) (S 2 0).2 (S 2 1).1 (t9) (S 2 1).2 false),by simp[go_sem,exI,HT,FT],?_⟩;simp only[fzw];obtain⟨ah,ai⟩:=ay 2;clear ay;replace j:=j.trans d;replace G:=G.trans j
 go_wp2_with fail
 exact bo1 results18 (rd_pt _ _ _ _ _ _ _ (by rfl) (blk_setBlk _ _ _ (by rw[HT];decide))) ⟨_,rfl,⟨_,_,_,_,rfl,Sl.set ah (by rw[HT];exact ptA_no _ _ _ _ _ _ _),Sl.set ai (by rw[HT];exact ptA_no _ _ _ _ _ _ _)⟩,gr_setNew G (by omega)⟩
end
end
section
def ex{p:Nat}:Option (Fin p×Fin p)→Nat
 | none=>0
 | some q=>q.1.val
def ey{p:Nat}:Option (Fin p×Fin p)→Nat
 | none=>0
 | some q=>q.2.val
def ef{p:Nat}:Option (Fin p×Fin p)→Bool
 | none=>true
 | some _=>false
theorem subM_val{p:Nat}(a b:Fin p):subM a.val b.val p=(a-b).val:=by
 have h:(a-b).val=(p-b.val+a.val)%p:=Fin.sub_def a b▸rfl;rw[h];unfold subM
 split
 ·rw[show p-b.val+a.val=a.val-b.val+p by omega,Nat.add_mod_right,Nat.mod_eq_of_lt (by omega)]
 ·rw[Nat.mod_eq_of_lt (by omega)];omega
theorem one_val{p:Nat}[NeZero p](h:1<p):(1:Fin p).val=1:=by
 exact Nat.mod_eq_of_lt h
theorem inv_val{p:Nat}[NeZero p](h:1<p){a b:Fin p}(e:b*a=1):a.val*b.val%p=1:=by
 rw[Nat.mul_comm,←Fin.val_mul,e,one_val h]
section
variable {P:Nat} [NeZero P] {i:Fin P→Fin P} {A B:Fin P}
theorem rplus_any(C:EC.Cur i A B)(hd:dl P≤400)(id:Int)(N X Y:Nat)(qc:Nat→Option Addr×Nat)(Q1 Q2:Option (Fin P×Fin P))(p1 q1:Option Addr)(n1 m1:Nat)(p2 q2:Option Addr)(n2 m2:Nat)(w:World)(HQ:∀k,Sl w (qc k).1 (six P A.val B.val N X Y k))(Sx1:Sl w p1 (ex Q1))(Sy1:Sl w q1 (ey Q1))(Sx2:Sl w p2 (ex Q2))(Sy2:Sl w q2 (ey Q2)):
 Calls prog 18 #[.agg (crA id (six P A.val B.val N X Y) qc),.agg (ptA p1 (ex Q1) n1 q1 (ey Q1) m1 (ef Q1)),.agg (ptA p2 (ex Q2) n2 q2 (ey Q2) m2 (ef Q2))] w
  (Rt (.pt (ex (EC.pl i A Q1 Q2)) (ey (EC.pl i A Q1 Q2)) (ef (EC.pl i A Q1 Q2))) w):=by
 have d:=C.pr.1
 match Q1,Q2,Sx1,Sy1,Sx2,Sy2 with
 | none,Q2,Sx1,Sy1,Sx2,Sy2=>exact rplus_inf1 id P A.val B.val N X Y qc 0 0 (ex Q2) (ey Q2) (ef Q2) p1 q1 n1 m1 p2 q2 n2 m2 w HQ Sx1 Sy1 Sx2 Sy2
 | some (x1,y1),none,Sx1,Sy1,Sx2,Sy2=>exact rplus_inf2 id P A.val B.val N X Y qc x1.val y1.val 0 0 p1 q1 n1 m1 p2 q2 n2 m2 w HQ Sx1 Sy1 Sx2 Sy2
 | some (x1,y1),some (x2,y2),Sx1,Sy1,Sx2,Sy2=>
  by_cases hx:x1=x2
  ·subst hx
   by_cases hy:y1=y2
   ·subst hy
    by_cases h0:y1=0
    ·subst h0
     have e:EC.pl i A (some (x1,0)) (some (x1,0))=none:=by simp[EC.pl]
     rw[e];have f:=Fin.val_zero P;have:=rplus_flat id P A.val B.val N X Y qc x1.val hd x1.isLt p1 q1 n1 m1 p2 q2 n2 m2 w HQ Sx1 (by have:=Sy1;simp only[ey,f]at this;exact this) Sx2 (by have:=Sy2;simp only[ey,f]at this;exact this);simp only[ex,ey,ef,f];exact this
    ·have j:y1+y1≠0:=fun h=>h0 (C.dbl h)
     have e:EC.pl i A (some (x1,y1)) (some (x1,y1))=some (EC.sx ((x1*x1+(x1*x1+x1*x1)+A)*i (y1+y1)) x1 x1,EC.sy ((x1*x1+(x1*x1+x1*x1)+A)*i (y1+y1)) x1 y1 (EC.sx ((x1*x1+(x1*x1+x1*x1)+A)*i (y1+y1)) x1 x1)):=by simp[EC.pl,h0]
     rw[e]
     exact rplus_dbl id P A.val B.val N X Y qc x1.val y1.val hd x1.isLt y1.isLt A.isLt (fun h=>h0 (Fin.ext (h.trans (Fin.val_zero P).symm))) d p1 q1 n1 m1 p2 q2 n2 m2 (i (y1+y1)).val _ (Fin.val_mul x1 x1).symm _ (Fin.val_add _ _).symm _ (Fin.val_add _ _).symm _ (Fin.val_add _ _).symm _ (Fin.val_add y1 y1).symm
      _ (Fin.val_mul _ _).symm _ (Fin.val_mul _ _).symm _ (subM_val _ _) _ (subM_val _ _) _ (subM_val _ _) _ (Fin.val_mul _ _).symm _ (subM_val _ _) (i (y1+y1)).isLt (inv_val d (C.inv _ j)) w HQ Sx1 Sy1 Sx2 Sy2
   ·have e:EC.pl i A (some (x1,y1)) (some (x1,y2))=none:=by simp[EC.pl,hy]
    rw[e];exact rplus_op id P A.val B.val N X Y qc x1.val y1.val y2.val hd x1.isLt y1.isLt y2.isLt (fun h=>hy (Fin.ext h)) p1 q1 n1 m1 p2 q2 n2 m2 w HQ Sx1 Sy1 Sx2 Sy2
  ·have j:x2-x1≠0:=fun h=>hx (EC.sub_zero_of h).symm
   have e:EC.pl i A (some (x1,y1)) (some (x2,y2))=some (EC.sx ((y2-y1)*i (x2-x1)) x1 x2,EC.sy ((y2-y1)*i (x2-x1)) x1 y1 (EC.sx ((y2-y1)*i (x2-x1)) x1 x2)):=by simp[EC.pl,hx]
   rw[e]
   exact rplus_add id P A.val B.val N X Y qc x1.val y1.val x2.val y2.val hd x1.isLt y1.isLt x2.isLt y2.isLt (fun h=>hx (Fin.ext h)) d p1 q1 n1 m1 p2 q2 n2 m2 (i (x2-x1)).val _ (subM_val y2 y1) _ (subM_val x2 x1) _ (Fin.val_mul _ _).symm _ (Fin.val_mul _ _).symm _ (subM_val _ _) _ (subM_val _ _) _ (subM_val _ _) _ (Fin.val_mul _ _).symm _ (subM_val _ _)
    (i (x2-x1)).isLt (inv_val d (C.inv _ j)) w HQ Sx1 Sy1 Sx2 Sy2
theorem neg_val{p:Nat}[NeZero p](y:Fin p)(h:y≠0):p-y.val=(-y).val:=by
 grind
theorem rneg_any(hd:dl P≤400)(id:Int)(A B N X Y:Nat)(qc:Nat→Option Addr×Nat)(Q:Option (Fin P×Fin P))(p q:Option Addr)(n m:Nat)(w:World)(HQ:∀k,Sl w (qc k).1 (six P A B N X Y k))(Sx:Sl w p (ex Q))(Sy:Sl w q (ey Q)):
 Calls prog 17 #[.agg (crA id (six P A B N X Y) qc),.agg (ptA p (ex Q) n q (ey Q) m (ef Q))] w (Rt (.pt (ex (EC.ng Q)) (ey (EC.ng Q)) (ef (EC.ng Q))) w):=by
 match Q,Sx,Sy with
 | none,Sx,Sy=>exact rneg_inf id P A B N X Y qc 0 0 p q n m w HQ Sx Sy
 | some (x,y),Sx,Sy=>
  by_cases h0:y=0
  ·subst h0;have d:(0:Fin P).val=0:=Fin.val_zero P
   have f : -(0:Fin P)=0:=by grobner
   simp only[EC.ng,f,ex,ey,ef,d]at Sy ⊢;exact rneg_nought id P A B N X Y qc x.val p q n m w HQ Sx Sy
  ·exact rneg_ok id P A B N X Y qc x.val y.val p q n m _ hd (fun h=>h0 (Fin.ext (h.trans (Fin.val_zero P).symm))) y.isLt (neg_val y h0) w HQ Sx Sy
end
end
section
abbrev Q3:=Nat×Nat×Bool
def inf:Q3:=(0,0,true)
abbrev pnQ(Q:Q3):Array Value:=pnt Q.1 Q.2.1 Q.2.2
def OnQ(k:Nat)(Q:Q3):Prop:=onB k Q.1 Q.2.1 Q.2.2=true
def encQ{p:Nat}(Q:Option (Fin p×Fin p)):Q3:=(ex Q,ey Q,ef Q)
def decQ(p:Nat)[NeZero p](Q:Q3):Option (Fin p×Fin p):=cond Q.2.2 none (some (Fin.ofNat p Q.1,Fin.ofNat p Q.2.1))
theorem dec_enc{p:Nat}[NeZero p](Q:Option (Fin p×Fin p)):decQ p (encQ Q)=Q:=by
 cases Q with
 | none=>rfl
 | some q=>
  obtain⟨x,y⟩:=q
  show some (Fin.ofNat p x.val,Fin.ofNat p y.val)=some (x,y)
  rw[show Fin.ofNat p x.val=x from Fin.ext (Nat.mod_eq_of_lt x.isLt),show Fin.ofNat p y.val=y from Fin.ext (Nat.mod_eq_of_lt y.isLt)]
theorem OnQ.cases{k:Nat}{Q:Q3}(h:OnQ k Q):Q=inf∨∃x y,Q=(x,y,false)∧x<pN k∧y<pN k∧y*y%pN k=rhN k x:=by
 obtain⟨x,y,f⟩:=Q
 cases f with
 | true=>
  simp only[OnQ,onB,if_true,Bool.and_eq_true,decide_eq_true_eq]at h;exact .inl (by rw[h.1,h.2];rfl)
 | false=>
  simp only[OnQ,onB,Bool.false_eq_true,if_false,Bool.and_eq_true,decide_eq_true_eq]at h;exact .inr ⟨x,y,rfl,h⟩
theorem enc_dec{k:Nat}[NeZero (pN k)]{Q:Q3}(h:OnQ k Q):encQ (decQ (pN k) Q)=Q:=by
 rcases h.cases with rfl|⟨x,y,rfl,hx,hy,-⟩
 ·rfl
 ·show (x%pN k,y%pN k,false)=(x,y,false)
  rw[Nat.mod_eq_of_lt hx,Nat.mod_eq_of_lt hy]
theorem dec3{k:Nat}[NeZero (pN k)]{P:Q3}(h:OnQ k P):ex (decQ (pN k) P)=P.1∧ey (decQ (pN k) P)=P.2.1∧ef (decQ (pN k) P)=P.2.2:=by
 have e:=enc_dec h;exact⟨congrArg (·.1) e,congrArg (·.2.1) e,congrArg (·.2.2) e⟩
theorem OnQ.lt{k:Nat}{Q:Q3}(h:OnQ k Q):Q.1<M∧Q.2.1<M:=by
 have d:=pN_M k
 rcases h.cases with rfl|⟨x,y,rfl,hx,hy,-⟩
 ·exact⟨M_pos,M_pos⟩
 ·exact⟨Nat.lt_trans hx d,Nat.lt_trans hy d⟩
theorem inf_on(k:Nat):OnQ k inf:=rfl
section
variable {k:Nat} (h1:1≤k) (h2:k≤15) [NeZero (pN k)]
theorem on_iff(x y:Fin (pN k)):EC.OnC (EC.aF k h1 h2) (EC.bF k h1 h2) x y↔y.val*y.val%pN k=rhN k x.val:=by
 have e:x*x*x+EC.aF k h1 h2*x+EC.bF k h1 h2=(x*x+EC.aF k h1 h2)*x+EC.bF k h1 h2:=by grobner
 unfold EC.OnC;rw[e]
 constructor
 ·intro h;exact congrArg Fin.val h
 ·intro h;exact Fin.ext h
theorem on_dec{Q:Q3}(h:OnQ k Q):EC.On (EC.aF k h1 h2) (EC.bF k h1 h2) (decQ (pN k) Q):=by
 rcases h.cases with rfl|⟨x,y,rfl,hx,hy,e⟩
 ·trivial
 ·show EC.OnC _ _ (Fin.ofNat (pN k) x) (Fin.ofNat (pN k) y)
  rw[on_iff]
  show (y%pN k)*(y%pN k)%pN k=rhN k (x%pN k)
  rw[Nat.mod_eq_of_lt hx,Nat.mod_eq_of_lt hy,e]
theorem on_enc{R:Option (Fin (pN k)×Fin (pN k))}(h:EC.On (EC.aF k h1 h2) (EC.bF k h1 h2) R):OnQ k (encQ R):=by
 cases R with
 | none=>rfl
 | some q=>
  obtain⟨x,y⟩:=q;have d:=(on_iff h1 h2 x y).1 h
  show onB k x.val y.val false=true
  simp only[onB,Bool.false_eq_true,if_false,Bool.and_eq_true,decide_eq_true_eq];exact⟨x.isLt,y.isLt,d⟩
end
def plQ(k:Nat)(P Q:Q3):Q3:=if h:1≤k∧k≤15 then(haveI:=EC.nzP k h.1 h.2;encQ (EC.pl (EC.iP (pN k)) (EC.aF k h.1 h.2) (decQ (pN k) P) (decQ (pN k) Q))) else inf
def ngQ(k:Nat)(P:Q3):Q3:=if h:1≤k∧k≤15 then(haveI:=EC.nzP k h.1 h.2;encQ (EC.ng (decQ (pN k) P))) else inf
def mlQ(k n:Nat)(P:Q3):Q3:=if h:1≤k∧k≤15 then(haveI:=EC.nzP k h.1 h.2;encQ (EC.ml (EC.iP (pN k)) (EC.aF k h.1 h.2) n (decQ (pN k) P))) else inf
def gQ(k:Nat):Q3:=(xN k,yN k,false)
theorem plQ_is{k:Nat}(h1:1≤k)(h2:k≤15)[NeZero (pN k)](P Q:Q3):plQ k P Q=encQ (EC.pl (EC.iP (pN k)) (EC.aF k h1 h2) (decQ (pN k) P) (decQ (pN k) Q)):=dif_pos ⟨h1,h2⟩
theorem ngQ_is{k:Nat}(h1:1≤k)(h2:k≤15)[NeZero (pN k)](P:Q3):ngQ k P=encQ (EC.ng (decQ (pN k) P)):=dif_pos ⟨h1,h2⟩
theorem mlQ_is{k:Nat}(h1:1≤k)(h2:k≤15)[NeZero (pN k)](n:Nat)(P:Q3):mlQ k n P=encQ (EC.ml (EC.iP (pN k)) (EC.aF k h1 h2) n (decQ (pN k) P)):=dif_pos ⟨h1,h2⟩
theorem gQ_on{k:Nat}(h1:1≤k)(h2:k≤15):OnQ k (gQ k):=gN_on k h1 h2
theorem plQ_on{k:Nat}(h1:1≤k)(h2:k≤15){P Q:Q3}(hP:OnQ k P)(hQ:OnQ k Q):OnQ k (plQ k P Q):=by
 haveI:=EC.nzP k h1 h2
 rw[plQ_is h1 h2];exact on_enc h1 h2 (EC.pl_on (EC.curN k h1 h2) (on_dec h1 h2 hP) (on_dec h1 h2 hQ))
theorem ngQ_on{k:Nat}(h1:1≤k)(h2:k≤15){P:Q3}(hP:OnQ k P):OnQ k (ngQ k P):=by
 haveI:=EC.nzP k h1 h2
 rw[ngQ_is h1 h2];exact on_enc h1 h2 (EC.ng_on (on_dec h1 h2 hP))
theorem mlQ_on{k:Nat}(h1:1≤k)(h2:k≤15)(n:Nat){P:Q3}(hP:OnQ k P):OnQ k (mlQ k n P):=by
 haveI:=EC.nzP k h1 h2
 rw[mlQ_is h1 h2];exact on_enc h1 h2 (EC.ml_on (EC.curN k h1 h2) (on_dec h1 h2 hP) n)
theorem plQ_comm{k:Nat}(h1:1≤k)(h2:k≤15){P Q:Q3}(hP:OnQ k P)(hQ:OnQ k Q):plQ k P Q=plQ k Q P:=by
 haveI:=EC.nzP k h1 h2
 rw[plQ_is h1 h2,plQ_is h1 h2,EC.pl_comm (EC.curN k h1 h2) (on_dec h1 h2 hP) (on_dec h1 h2 hQ)]
theorem plQ_assoc{k:Nat}(h1:1≤k)(h2:k≤15){P Q R:Q3}(hP:OnQ k P)(hQ:OnQ k Q)(hR:OnQ k R):plQ k (plQ k P Q) R=plQ k P (plQ k Q R):=by
 haveI:=EC.nzP k h1 h2
 rw[plQ_is h1 h2 P Q,plQ_is h1 h2 Q R,plQ_is h1 h2,plQ_is h1 h2,dec_enc,dec_enc,EC.pl_assoc (EC.curN k h1 h2) (on_dec h1 h2 hP) (on_dec h1 h2 hQ) (on_dec h1 h2 hR)]
theorem plQ_inf{k:Nat}(h1:1≤k)(h2:k≤15){P:Q3}(hP:OnQ k P):plQ k P inf=P:=by
 haveI:=EC.nzP k h1 h2
 rw[plQ_is h1 h2,show decQ (pN k) inf=none from rfl,EC.pl_none,enc_dec hP]
theorem inf_plQ{k:Nat}(h1:1≤k)(h2:k≤15){P:Q3}(hP:OnQ k P):plQ k inf P=P:=by
 haveI:=EC.nzP k h1 h2
 rw[plQ_is h1 h2,show decQ (pN k) inf=none from rfl];exact enc_dec hP
theorem plQ_ng{k:Nat}(h1:1≤k)(h2:k≤15)(P:Q3):plQ k P (ngQ k P)=inf:=by
 haveI:=EC.nzP k h1 h2
 rw[ngQ_is h1 h2,plQ_is h1 h2,dec_enc,EC.pl_ng (EC.curN k h1 h2)]
 rfl
theorem mlQ_zero{k:Nat}(h1:1≤k)(h2:k≤15)(P:Q3):mlQ k 0 P=inf:=by
 haveI:=EC.nzP k h1 h2
 rw[mlQ_is h1 h2];rfl
theorem mlQ_one{k:Nat}(h1:1≤k)(h2:k≤15){P:Q3}(hP:OnQ k P):mlQ k 1 P=P:=by
 haveI:=EC.nzP k h1 h2
 rw[mlQ_is h1 h2,EC.ml_one,enc_dec hP]
theorem mlQ_add{k:Nat}(h1:1≤k)(h2:k≤15)(m n:Nat){P:Q3}(hP:OnQ k P):mlQ k (m+n) P=plQ k (mlQ k m P) (mlQ k n P):=by
 haveI:=EC.nzP k h1 h2
 rw[mlQ_is h1 h2,mlQ_is h1 h2 m,mlQ_is h1 h2 n,plQ_is h1 h2,dec_enc,dec_enc,EC.ml_add (EC.curN k h1 h2) (on_dec h1 h2 hP)]
theorem mlQ_mul{k:Nat}(h1:1≤k)(h2:k≤15)(m n:Nat){P:Q3}(hP:OnQ k P):mlQ k (n*m) P=mlQ k n (mlQ k m P):=by
 haveI:=EC.nzP k h1 h2
 rw[mlQ_is h1 h2,mlQ_is h1 h2 m,mlQ_is h1 h2 n,dec_enc,EC.ml_mul (EC.curN k h1 h2) (on_dec h1 h2 hP)]
theorem mlQ_inf{k:Nat}(h1:1≤k)(h2:k≤15)(n:Nat):mlQ k n inf=inf:=by
 haveI:=EC.nzP k h1 h2
 rw[mlQ_is h1 h2,show decQ (pN k) inf=none from rfl,EC.ml_none]
 rfl
theorem dec_g{k:Nat}(h1:1≤k)(h2:k≤15)[NeZero (pN k)]:decQ (pN k) (gQ k)=some (EC.xF k h1 h2,EC.yF k h1 h2):=by
 show some (Fin.ofNat (pN k) (xN k),Fin.ofNat (pN k) (yN k))=_
 rw[show Fin.ofNat (pN k) (xN k)=EC.xF k h1 h2 from Fin.ext (Nat.mod_eq_of_lt (xN_lt k h1 h2)),show Fin.ofNat (pN k) (yN k)=EC.yF k h1 h2 from Fin.ext (Nat.mod_eq_of_lt (yN_lt k h1 h2).1)]
theorem mlQ_N{k:Nat}(h1:1≤k)(h2:k≤15):mlQ k (oN k) (gQ k)=inf:=by
 haveI:=EC.nzP k h1 h2
 rw[mlQ_is h1 h2,dec_g h1 h2,EC.ml_G k h1 h2]
 rfl
end
section
theorem fsubF{k:Nat}(h1:1≤k)(h2:k≤15)(a b:Fin (pN k))(w:World):Cg 69 #[.int .i64 k,.agg (nw 9 a.val),.agg (nw 9 b.val)] w (.tuple #[.agg (nw 9 (a-b).val),.int .i64 0]):=by
 have h:=fSub_ok k a.val b.val h1 h2 a.isLt b.isLt w;rw[show (a.val+pN k-b.val)%pN k=(a-b).val by rw[Fin.sub_def];show _=(pN k-b.val+a.val)%pN k;rw[show a.val+pN k-b.val=pN k-b.val+a.val by omega]]at h;exact h
theorem faddF{k:Nat}(h1:1≤k)(h2:k≤15)(a b:Fin (pN k))(w:World):Cg 93 #[.int .i64 k,.agg (nw 9 a.val),.agg (nw 9 b.val)] w (.tuple #[.agg (nw 9 (a+b).val),.int .i64 0]):=by
 have h:=fAdd_ok k a.val b.val h1 h2 a.isLt b.isLt w;rw[←Fin.val_add]at h;exact h
theorem fmulF{k:Nat}(h1:1≤k)(h2:k≤15)(a b:Fin (pN k))(w:World):Cg 92 #[.int .i64 k,.agg (nw 9 a.val),.agg (nw 9 b.val)] w (.tuple #[.agg (nw 9 (a*b).val),.int .i64 0]):=by
 have h:=fMul_ok k a.val b.val h1 h2 a.isLt b.isLt w;rw[←Fin.val_mul]at h;exact h
theorem finvF{k:Nat}(h1:1≤k)(h2:k≤15)[NeZero (pN k)](b:Fin (pN k))(hb:b≠0)(w:World):Cg 102 #[.int .i64 k,.agg (nw 9 b.val)] w (.tuple #[.agg (nw 9 (EC.iP (pN k) b).val),.int .i64 0]):=by
 have f:=prm_pN k h1 h2;have i:=Nat.pos_of_ne_zero fun e=>hb (Fin.ext (e.trans (Fin.val_zero (pN k)).symm))
 have l:=f.cop fun d=>by
  have:=Nat.le_of_dvd i d
  omega
 obtain⟨x,q,h,j⟩:=fInv_ok k b.val h1 h2 i b.isLt l;have e:=inv_one b.val (pN k) x (EC.iP (pN k) b).val q (EC.iP (pN k) b).isLt h (inv_val f.1 (EC.iP_is f b hb));rw[e]at j;exact j w
end
section
attribute [local go_sem ↓] uz1
attribute [local go_sem] uz2
section
attribute [local go_sem] uz7
attribute [local go_sem ↓] uz10 Go.wp_at_zero Go.wp_at_succ
attribute [local go_sem] uz11
theorem gdiff_of(id:Int)(P A B N X Y:Nat)(s z:Int)(l:Bool)(x y q:Nat)(H1':∀w,Cg 69 #[.int .i64 id,.agg (nw 9 x),.agg (nw 9 y)] w (.tuple #[.agg (nw 9 q),.int .i64 0]))(w:World):
 Cg 52 #[.agg (cu id P A B N X Y s z l),.agg (nw 9 x),.agg (nw 9 y)] w (.agg (nw 9 q)):=by
 have C:Hid _:=H1';clear H1'
 go_enter func52,ntmps52
 go_upto_region 1 with fail
 refine gen_w (fun v=>Hid (Gr w v∧Vr v (w.heap.size) (cu id P A B N X Y s z l)∧Vr v (w.heap.size+1) (nw 9 x)∧Vr v (w.heap.size+1+1) (nw 9 y)∧Vr v (w.heap.size+1+1+1) (nw 9 0))) ⟨grA,vrA,vrA,vrA,vrA⟩ ?_;intro D f;obtain⟨G,d,h,i,j⟩:=f.out
 have V:D.cell? ⟨w.heap.size,0,none⟩=some (.int .i64 id):=by rw[d.cell];exact cu_0 id P A B N X Y s z l
 have H:=d.al;have⟨I,J,K⟩:=h;have⟨L,Q,S⟩:=i;have U:=j.al;clear f d h i j
 go_wp2_with (first
  | (go_at_call_of 69 ((#[.int .i64 id,.agg (nw 9 x),.agg (nw 9 y)]:Array Value));refine hkA C fun W=>?_))
 refine bo1 results52 (rd_nat (by rfl) ?_) ⟨rfl,?_⟩
 ·simp[go_sem, *]
 ·exact grB
theorem gprod_of(id:Int)(P A B N X Y:Nat)(s z:Int)(l:Bool)(x y q:Nat)(H1':∀w,Cg 92 #[.int .i64 id,.agg (nw 9 x),.agg (nw 9 y)] w (.tuple #[.agg (nw 9 q),.int .i64 0]))(w:World):
 Cg 96 #[.agg (cu id P A B N X Y s z l),.agg (nw 9 x),.agg (nw 9 y)] w (.agg (nw 9 q)):=by
 have C:Hid _:=H1';clear H1'
 go_enter func96,ntmps96
 go_upto_region 1 with fail
 refine gen_w (fun v=>Hid (Gr w v∧Vr v (w.heap.size) (cu id P A B N X Y s z l)∧Vr v (w.heap.size+1) (nw 9 x)∧Vr v (w.heap.size+1+1) (nw 9 y)∧Vr v (w.heap.size+1+1+1) (nw 9 0))) ⟨grA,vrA,vrA,vrA,vrA⟩ ?_;intro D f;obtain⟨G,d,h,i,j⟩:=f.out
 have V:D.cell? ⟨w.heap.size,0,none⟩=some (.int .i64 id):=by rw[d.cell];exact cu_0 id P A B N X Y s z l
 have H:=d.al;have⟨I,J,K⟩:=h;have⟨L,Q,S⟩:=i;have U:=j.al;clear f d h i j
 go_wp2_with (first
  | (go_at_call_of 92 ((#[.int .i64 id,.agg (nw 9 x),.agg (nw 9 y)]:Array Value));refine hkA C fun W=>?_))
 refine bo1 results96 (rd_nat (by rfl) ?_) ⟨rfl,?_⟩
 ·simp[go_sem, *]
 ·exact grB
theorem gquot_of(id:Int)(P A B N X Y:Nat)(s z:Int)(l:Bool)(x y u q:Nat)(H1':∀w,Cg 102 #[.int .i64 id,.agg (nw 9 y)] w (.tuple #[.agg (nw 9 u),.int .i64 0]))(H2':∀w,Cg 96 #[.agg (cu id P A B N X Y s z l),.agg (nw 9 x),.agg (nw 9 u)] w (.agg (nw 9 q)))(w:World):
 Cg 94 #[.agg (cu id P A B N X Y s z l),.agg (nw 9 x),.agg (nw 9 y)] w (.agg (nw 9 q)):=by
 have C:Hid _:=H1';have D:Hid _:=H2';clear H1' H2'
 go_enter func94,ntmps94
 go_upto_region 1 with fail
 refine gen_w (fun v=>Hid (Gr w v∧Vr v (w.heap.size) (cu id P A B N X Y s z l)∧Vr v (w.heap.size+1) (nw 9 x)∧Vr v (w.heap.size+1+1) (nw 9 y)∧Vr v (w.heap.size+1+1+1) (nw 9 0))) ⟨grA,vrA,vrA,vrA,vrA⟩ ?_;intro H f;obtain⟨G,d,h,i,j⟩:=f.out
 have U:H.cell? ⟨w.heap.size,0,none⟩=some (.int .i64 id):=by rw[d.cell];exact cu_0 id P A B N X Y s z l
 have I:=d.al;have J:=h.al;have⟨K,L,Q⟩:=i;have S:=j.al;clear f d h i j
 go_wp2_with (first
  | (go_at_call_of 102 ((#[.int .i64 id,.agg (nw 9 y)]:Array Value));refine hkA C fun V=>?_)
  | (go_at_call_of 96 ((#[.agg (cu id P A B N X Y s z l),.agg (nw 9 x),.agg (nw 9 u)]:Array Value));refine hkA D fun W=>?_))
 refine bo1 results94 (rd_nat (by rfl) ?_) ⟨rfl,?_⟩
 ·simp[go_sem, *]
 ·exact grB
theorem gleft_any(id:Int)(P A B N X Y:Nat)(s z:Int)(l:Bool)(x1 y1 x2 y2:Nat)(f1 f2:Bool)(w:World):
 Cg 65 #[.agg (cu id P A B N X Y s z l),.agg (pnt x1 y1 f1),.agg (pnt x2 y2 f2)] w (.agg (pnt x1 y1 f1)):=by
 go_enter func65,ntmps65
 go_upto_region 1 with fail
 refine gen_w (fun v=>Hid (Gr w v∧Vr v (w.heap.size) (cu id P A B N X Y s z l)∧Vr v (w.heap.size+1) (pnt x1 y1 f1)∧Vr v (w.heap.size+1+1) (pnt x2 y2 f2)∧Vr v (w.heap.size+1+1+1) (pnt 0 0 false))) ⟨grA,vrA,vrA,vrA,vrA⟩ ?_;intro H d;obtain⟨G,I,f,J,h⟩:=d.out;have⟨i,j,q⟩:=f;have⟨x,C,D⟩:=h
 go_wp2_with fail
 refine bo1 results65 (rd_pn (by rfl) ?_) ⟨rfl,?_⟩
 ·simp[go_sem, *]
 ·exact grB
theorem gright_any(id:Int)(P A B N X Y:Nat)(s z:Int)(l:Bool)(x1 y1 x2 y2:Nat)(f1 f2:Bool)(w:World):
 Cg 64 #[.agg (cu id P A B N X Y s z l),.agg (pnt x1 y1 f1),.agg (pnt x2 y2 f2)] w (.agg (pnt x2 y2 f2)):=by
 go_enter func64,ntmps64
 go_upto_region 1 with fail
 refine gen_w (fun v=>Hid (Gr w v∧Vr v (w.heap.size) (cu id P A B N X Y s z l)∧Vr v (w.heap.size+1) (pnt x1 y1 f1)∧Vr v (w.heap.size+1+1) (pnt x2 y2 f2)∧Vr v (w.heap.size+1+1+1) (pnt 0 0 false))) ⟨grA,vrA,vrA,vrA,vrA⟩ ?_;intro H d;obtain⟨G,I,J,f,h⟩:=d.out;have⟨i,j,q⟩:=f;have⟨x,C,D⟩:=h
 go_wp2_with fail
 refine bo1 results64 (rd_pn (by rfl) ?_) ⟨rfl,?_⟩
 ·simp[go_sem, *]
 ·exact grB
theorem ginf_any(id:Int)(P A B N X Y:Nat)(s z:Int)(l:Bool)(x1 y1 x2 y2:Nat)(f1 f2:Bool)(w:World):
 Cg 68 #[.agg (cu id P A B N X Y s z l),.agg (pnt x1 y1 f1),.agg (pnt x2 y2 f2)] w (.agg (pnt 0 0 true)):=by
 go_enter func68,ntmps68
 go_upto_region 1 with fail
 refine gen_w (fun v=>Hid (Gr w v∧Vr v (w.heap.size) (cu id P A B N X Y s z l)∧Vr v (w.heap.size+1) (pnt x1 y1 f1)∧Vr v (w.heap.size+1+1) (pnt x2 y2 f2)∧Vr v (w.heap.size+1+1+1) (pnt 0 0 false))) ⟨grA,vrA,vrA,vrA,vrA⟩ ?_;intro q d;obtain⟨G,x,C,D,f⟩:=d.out;have⟨h,i,j⟩:=f
 go_wp2_with fail
 refine bo1 results68 (rd_pn (by rfl) ?_) ⟨rfl,?_⟩
 ·simp[go_sem, *]
 ·exact grB
theorem toSum_any(w:World):Cg 50 #[] w (.agg tabA):=by
 go_enter func50,ntmps50
 go_wp2
 refine bo1 results50 (rd_cell 5 underlying96 rfl (by kernel_rfl) (by rfl) ?_ rfl) ⟨rfl,grA⟩;simp[go_sem]
theorem toProduct_any(w:World):Cg 57 #[] w (.agg tabB):=by
 go_enter func57,ntmps57
 go_wp2
 refine bo1 results57 (rd_cell (c:=tabB) 2 underlying103 rfl (by kernel_rfl) (by rfl) ?_ rfl) ⟨rfl,grA⟩;simp[go_sem]
end
section
attribute [local go_sem] uz7
attribute [local go_sem ↓] uz10 Go.wp_at_zero Go.wp_at_succ
attribute [local go_sem] uz11
theorem gsum_of(id:Int)(P A B N X Y:Nat)(s z:Int)(l:Bool)(n:Nat)(hn:n≤4)(f acc:Nat→Nat)(c:Array Value)(h0:acc 0=0)(hrow:∀i,i<n→c.extract (i*9) (i*9+9)=nw 9 (f i))(hsz:n*9≤c.size)(HA':∀i,i<n→∀w,Cg 93 #[.int .i64 id,.agg (nw 9 (acc i)),.agg (nw 9 (f i))] w (.tuple #[.agg (nw 9 (acc (i+1))),.int .i64 0]))(b cap:Nat)(w:World)(hv:Vr w b c):
 Cg 97 #[.agg (cu id P A B N X Y s z l),.slice (some ⟨b,0,none⟩) n cap] w (.agg (nw 9 (acc n))):=by
 have K:Hid _:=HA';have L:Hu (_):=fun _=>hn
 have Q:Hid (∀j,j<n→∀v,Gr w v→(loadS 25 (.pointer (some ⟨b,j*9,none⟩))).run prog v=.ok (.agg (nw 9 (f j))) v):=fun j q v g=>by
  have H:=(hv.gr g).h;rw[loadPart v b (j*9) (by rw[H];omega),H,hrow j q]
 have S:Hu (_):=fun _=>h0;clear hn HA' h0 hrow hsz
 go_enter func97,ntmps97
 go_wp2_with fail
 refine gen_w (fun wr=>Hid (Gr w wr∧Vr wr (w.heap.size) (cu id P A B N X Y s z l)∧Vr wr (w.heap.size+1) (nw 9 0)∧Vr wr (w.heap.size+1+1) (nw 9 (acc 0)))) ⟨grA,vrA,vrA,by rw[S.out ()];exact vrA⟩ ?_;intro v0 d
 go_loopw [10] (fun ia wr=>∃j:Nat,ia=.int .i64 j∧Hu (j≤n)∧Hid (Gr w wr∧Vr wr (w.heap.size) (cu id P A B N X Y s z l)∧Vr wr (w.heap.size+1) (nw 9 0)∧Vr wr (w.heap.size+1+1) (nw 9 (acc j)))) (fun ia _=>((n:Int)-intOf ia).toNat)
 case atStart=>exact⟨0,rfl,fun _=>Nat.zero_le _,d⟩
 case round=>
  clear d;obtain⟨j,rfl,U,d⟩:=hrel;obtain⟨G,C,I,J⟩:=d.out
  have k0:wr.cell? ⟨w.heap.size,0,none⟩=some (.int .i64 id):=by rw[C.cell];exact cu_0 id P A B N X Y s z l
  have V:¬(w.heap.size+1+1=w.heap.size):=by omega
  have j0:(0:Int)≤j:=by omega
  have n4:(n:Int)≤4:=by have:=L.out ();omega
  have⟨h0,f0,p0⟩:=C;have⟨h1,f1,p1⟩:=I;have⟨h2,f2,p2⟩:=J;have⟨W,Z,aa,ab,ac,ae⟩:=C.pp;have⟨af,ag,ah,ai,aj,ak⟩:=I.pp;have⟨ao,ap,aq,ar,au,av⟩:=J.pp
  by_cases hlt:j<n
  ·have j1:(j:Int)<n:=by omega
   have ld:=Q.out j hlt;have D:Hid _:=K.out j hlt
   go_wp2_with (go_at_call 93;refine hkA D fun g=>?_)
   go_roundw
   case rel=>
    refine⟨j+1,by go_num,fun _=>hlt,?_,⟨by simp[go_sem, *],by simp[go_sem, *],by simp[go_sem, *]⟩,⟨by simp[go_sem, *],by simp[go_sem, *],by simp[go_sem, *]⟩,⟨by simp[go_sem, *],by simp[go_sem, *],by simp[go_sem, *]⟩⟩;exact grB
   case measure=>simp[intOf];omega
  ·have j1:¬(j:Int)<n:=by omega
   have q:j=n:=by have:=U.out ();omega
   go_wp2_with fail
   refine bo1 results97 (rd_nat (x:=acc j) (by rfl) ?_) ⟨by rw[q],?_⟩
   ·simp[go_sem, *]
   ·exact grB
end
section
attribute [local go_sem] uz7
attribute [local go_sem ↓] uz10 Go.wp_at_zero Go.wp_at_succ
attribute [local go_sem] uz11
theorem galong_of(id:Int)(P A B N X Y:Nat)(s z:Int)(l:Bool)(m x1 y1 x2 y2 q1 q2 q3 q4 q5 q6:Nat)(H1':∀w,Cg 96 #[.agg (cu id P A B N X Y s z l),.agg (nw 9 m),.agg (nw 9 m)] w (.agg (nw 9 q1)))(H3':∀w,Cg 52 #[.agg (cu id P A B N X Y s z l),.agg (nw 9 q1),.agg (nw 9 q2)] w (.agg (nw 9 q3)))(H4':∀w,Cg 52 #[.agg (cu id P A B N X Y s z l),.agg (nw 9 x1),.agg (nw 9 q3)] w (.agg (nw 9 q4)))(H5':∀w,Cg 96 #[.agg (cu id P A B N X Y s z l),.agg (nw 9 m),.agg (nw 9 q4)] w (.agg (nw 9 q5)))(H6':∀w,Cg 52 #[.agg (cu id P A B N X Y s z l),.agg (nw 9 q5),.agg (nw 9 y1)] w (.agg (nw 9 q6)))(H2':∀w b,Vr w b (nw 9 x1++nw 9 x2)→Cg 97 #[.agg (cu id P A B N X Y s z l),.slice (some ⟨b,0,none⟩) 2 2] w (.agg (nw 9 q2)))(w:World):
 Cg 95 #[.agg (cu id P A B N X Y s z l),.agg (nw 9 m),.agg (pnt x1 y1 false),.agg (pnt x2 y2 false)] w (.agg (pnt q3 q6 false)):=by
 have V:Hid _:=H1';have W:Hid _:=H3';have Z:Hid _:=H4';have H5:Hid _:=H5';have H6:Hid _:=H6';have H2:Hid _:=H2';clear H1' H3' H4' H5' H6' H2'
 go_enter func95,ntmps95
 go_upto_region 1 with fail
 refine gen_w (fun v=>Hid (Gr w v∧Vr v (w.heap.size) (cu id P A B N X Y s z l)∧Vr v (w.heap.size+1) (nw 9 m)∧Vr v (w.heap.size+1+1) (pnt x1 y1 false)∧Vr v (w.heap.size+1+1+1) (pnt x2 y2 false)∧Vr v (w.heap.size+1+1+1+1) (pnt 0 0 false))) ⟨grA,vrA,vrA,vrA,vrA,vrA⟩ ?_;intro v0 S;obtain⟨G,j,q,x,H,D⟩:=S.out;clear S;refine wp_v true [.c (.agg (cu id P A B N X Y s z l)),.c (.agg (cu id P A B N X Y s z l)),.N m,.N m,.N q1,.c (.agg (cu id P A B N X Y s z l)),.c (pv (w.heap.size+1+1) 0),.N x1,.c (pv (w.heap.size+1+1+1) 0),.N x2,.r 2 (nw 9 x1++nw 9 x2),.N q2,.N q3,.a,.u] [0,1,2,3,4,5,7,9,10,11,12] [⟨13,14,25,nw 9 0,fun _=>nw 9 q3⟩] ⟨.g 71 0 j rfl,.g 71 0 j rfl,.g 25 0 q rfl,.g 25 0 q rfl,.z V.out,.g 71 0 j rfl,.g 25 0 x rfl,.g 25 0 H rfl,.r (.buildSlice 127 2 #[(0,.const (.agg (nw 9 x1))),(1,.const (.agg (nw 9 x2)))]) rfl (rowN2 _ _),.k (fun I =>#[.agg (cu id P A B N X Y s z l),.slice (some ⟨(I 10 0).2,0,none⟩) 2 2]) fun I vv d hh=>RtW.of_c (Rt.c (H2.out _ _ (hh 10 rfl))),.z W.out,⟨⟩⟩ ⟨.k zNat ⟨fkc,fkc,fkc,fkc,fkc,fkc,fkc,fkc,fkc,fkc,fkr (by simp[nw_size]),fkc,fkc,fka,fku,trivial⟩,⟨⟩⟩ fun aa v1 d h1 J=>?_;simp only[fzw,Kw.a,Kw.r];obtain⟨⟨K,i⟩,-⟩:=J;clear h1;replace G:=G.trans d;replace j:=j.gr d;replace q:=q.gr d;replace x:=x.gr d;replace H:=H.gr d;replace D:=D.gr d;clear d
 go_upto_region 2 with fail
 refine wp_v true [.c (.agg (cu id P A B N X Y s z l)),.c (.agg (cu id P A B N X Y s z l)),.N m,.c (.agg (cu id P A B N X Y s z l)),.c (pv (w.heap.size+1+1) 0),.N x1,.N q3,.N q4,.N q5,.c (pv (w.heap.size+1+1) 9),.N y1,.N q6,.a,.u] [0,1,2,3,5,6,7,8,10,11] [⟨12,13,25,nw 9 0,fun _=>nw 9 q6⟩] ⟨.g 71 0 j rfl,.g 71 0 j rfl,.g 25 0 q rfl,.g 71 0 j rfl,.g 25 0 x rfl,.g 25 0 i rfl,.z Z.out,.z H5.out,.g 25 9 x rfl,.z H6.out,⟨⟩⟩ ⟨.k zNat (.t rfl),⟨⟩⟩ fun ab v2 d h2 L=>?_;simp only[fzw,Kw.a];obtain⟨⟨Q,C⟩,-⟩:=L;clear h2;replace G:=G.trans d;replace j:=j.gr d;replace q:=q.gr d;replace x:=x.gr d;replace H:=H.gr d;replace D:=D.gr d;replace i:=i.gr d
 go_upto_region 3 with fail
 refine wp_wTS 3 [.N q3,.N q6,.c (.agg (pnt q3 q6 false))] [0,1] ⟨.g 25 0 i rfl,.g 25 0 C rfl,⟨⟩⟩ (.s 27 (fun I=>pv (w.heap.size+1+1+1+1) 0) (fun I=>.agg (pnt q3 q6 false)) fun ac v3 d h3=>?_);have U:=(D.gr d).h;have FT:=(D.gr d).f;refine⟨setBlk v3 (w.heap.size+1+1+1+1) (pnt q3 q6 false),by simp[go_sem,exI,U,FT],?_⟩;simp only[fzw];replace G:=G.trans d
 go_wp2_with fail
 exact bo1 results95 (rd_pn (by rfl) (blk_setBlk _ _ _ (by rw[U];decide +kernel))) ⟨rfl,gr_setNew G (by omega)⟩
theorem gchord_of(id:Int)(P A B N X Y:Nat)(s z:Int)(l:Bool)(x1 y1 x2 y2 q1 q2 q3 r1 r2:Nat)(H1':∀w,Cg 52 #[.agg (cu id P A B N X Y s z l),.agg (nw 9 y2),.agg (nw 9 y1)] w (.agg (nw 9 q1)))(H2':∀w,Cg 52 #[.agg (cu id P A B N X Y s z l),.agg (nw 9 x2),.agg (nw 9 x1)] w (.agg (nw 9 q2)))(H3':∀w,Cg 94 #[.agg (cu id P A B N X Y s z l),.agg (nw 9 q1),.agg (nw 9 q2)] w (.agg (nw 9 q3)))(HAL':∀w,Cg 95 #[.agg (cu id P A B N X Y s z l),.agg (nw 9 q3),.agg (pnt x1 y1 false),.agg (pnt x2 y2 false)] w (.agg (pnt r1 r2 false)))(w:World):
 Cg 66 #[.agg (cu id P A B N X Y s z l),.agg (pnt x1 y1 false),.agg (pnt x2 y2 false)] w (.agg (pnt r1 r2 false)):=by
 have L:Hid _:=H1';have Q:Hid _:=H2';have S:Hid _:=H3';have D:Hid _:=HAL';clear H1' H2' H3' HAL'
 go_enter func66,ntmps66
 go_upto_region 1 with fail
 refine gen_w (fun v=>Hid (Gr w v∧Vr v (w.heap.size) (cu id P A B N X Y s z l)∧Vr v (w.heap.size+1) (pnt x1 y1 false)∧Vr v (w.heap.size+1+1) (pnt x2 y2 false)∧Vr v (w.heap.size+1+1+1) (pnt 0 0 false))) ⟨grA,vrA,vrA,vrA,vrA⟩ ?_;intro v0 J;obtain⟨G,j,q,x,C⟩:=J.out;clear J;refine wp_v true [.c (.agg (cu id P A B N X Y s z l)),.c (.agg (cu id P A B N X Y s z l)),.c (pv (w.heap.size+1+1) 9),.N y2,.c (pv (w.heap.size+1) 9),.N y1,.N q1,.c (.agg (cu id P A B N X Y s z l)),.c (pv (w.heap.size+1+1) 0),.N x2,.c (pv (w.heap.size+1) 0),.N x1,.N q2,.N q3,.a,.u] [0,1,3,5,6,7,9,11,12,13] [⟨14,15,25,nw 9 0,fun _=>nw 9 q3⟩] ⟨.g 71 0 j rfl,.g 71 0 j rfl,.g 25 9 x rfl,.g 25 9 q rfl,.z L.out,.g 71 0 j rfl,.g 25 0 x rfl,.g 25 0 q rfl,.z Q.out,.z S.out,⟨⟩⟩ ⟨.k zNat (.t rfl),⟨⟩⟩ fun U v1 d V H=>?_;simp only[fzw,Kw.a];obtain⟨⟨I,i⟩,-⟩:=H;clear V;replace G:=G.trans d;replace j:=j.gr d;replace q:=q.gr d;replace x:=x.gr d;replace C:=C.gr d
 go_upto_region 2 with fail
 refine wp_wTS 5 [.c (.agg (cu id P A B N X Y s z l)),.N q3,.c (.agg (pnt x1 y1 false)),.c (.agg (pnt x2 y2 false)),.c (.agg (pnt r1 r2 false))] [0,1,2,3,4] ⟨.g 71 0 j rfl,.g 25 0 i rfl,.g 27 0 q rfl,.g 27 0 x rfl,.z D.out,⟨⟩⟩ (.s 27 (fun W=>pv (w.heap.size+1+1+1) 0) (fun W=>.agg (pnt r1 r2 false)) fun Z v2 d h2=>?_);have K:=(C.gr d).h;have FT:=(C.gr d).f;refine⟨setBlk v2 (w.heap.size+1+1+1) (pnt r1 r2 false),by simp[go_sem,exI,K,FT],?_⟩;simp only[fzw];replace G:=G.trans d
 go_wp2_with fail
 exact bo1 results66 (rd_pn (by rfl) (blk_setBlk _ _ _ (by rw[K];decide +kernel))) ⟨rfl,gr_setNew G (by omega)⟩
theorem gtang_of(id:Int)(P A B N X Y:Nat)(s z:Int)(l:Bool)(x1 y1 x2 y2 q1 q2 q3 q4 r1 r2:Nat)(H1':∀w,Cg 96 #[.agg (cu id P A B N X Y s z l),.agg (nw 9 x1),.agg (nw 9 x1)] w (.agg (nw 9 q1)))(H4':∀w,Cg 94 #[.agg (cu id P A B N X Y s z l),.agg (nw 9 q2),.agg (nw 9 q3)] w (.agg (nw 9 q4)))(H2':∀w b,Vr w b (nw 9 q1++nw 9 q1++nw 9 q1++nw 9 A)→Cg 97 #[.agg (cu id P A B N X Y s z l),.slice (some ⟨b,0,none⟩) 4 4] w (.agg (nw 9 q2)))(H3':∀w b,Vr w b (nw 9 y1++nw 9 y1)→Cg 97 #[.agg (cu id P A B N X Y s z l),.slice (some ⟨b,0,none⟩) 2 2] w (.agg (nw 9 q3)))(HAL':∀w,Cg 95 #[.agg (cu id P A B N X Y s z l),.agg (nw 9 q4),.agg (pnt x1 y1 false),.agg (pnt x2 y2 false)] w (.agg (pnt r1 r2 false)))(w:World):
 Cg 67 #[.agg (cu id P A B N X Y s z l),.agg (pnt x1 y1 false),.agg (pnt x2 y2 false)] w (.agg (pnt r1 r2 false)):=by
 have W:Hid _:=H1';have Z:Hid _:=H4';have H2:Hid _:=H2';have H3:Hid _:=H3';have I:Hid _:=HAL';clear H1' H4' H2' H3' HAL'
 go_enter func67,ntmps67
 go_upto_region 1 with fail
 refine gen_w (fun v=>Hid (Gr w v∧Vr v (w.heap.size) (cu id P A B N X Y s z l)∧Vr v (w.heap.size+1) (pnt x1 y1 false)∧Vr v (w.heap.size+1+1) (pnt x2 y2 false)∧Vr v (w.heap.size+1+1+1) (pnt 0 0 false))) ⟨grA,vrA,vrA,vrA,vrA⟩ ?_;intro v0 S;obtain⟨G,j,q,H,D⟩:=S.out;clear S;refine wp_v false [.c (.agg (cu id P A B N X Y s z l)),.c (pv (w.heap.size+1) 0),.N x1,.c (pv (w.heap.size+1) 0),.N x1,.N q1,.a,.u] [0,2,4,5] [⟨6,7,25,nw 9 0,fun _=>nw 9 q1⟩] ⟨.g 71 0 j rfl,.g 25 0 q rfl,.g 25 0 q rfl,.z W.out,⟨⟩⟩ ⟨.k zNat (.t rfl),⟨⟩⟩ fun aa v1 d h1 J=>?_;simp only[fzw,Kw.a];obtain⟨⟨U,i⟩,-⟩:=J;clear h1;replace G:=G.trans d;replace j:=j.gr d;replace q:=q.gr d;replace H:=H.gr d;replace D:=D.gr d;clear d
 go_upto_region 2 with fail
 refine wp_v true [.c (.agg (cu id P A B N X Y s z l)),.c (.agg (cu id P A B N X Y s z l)),.N q1,.N q1,.N q1,.c (pv (w.heap.size) 0),.c (pv (w.heap.size) 10),.N A,.r 4 (nw 9 q1++nw 9 q1++nw 9 q1++nw 9 A),.N q2,.c (.agg (cu id P A B N X Y s z l)),.c (pv (w.heap.size+1) 9),.N y1,.c (pv (w.heap.size+1) 9),.N y1,.r 2 (nw 9 y1++nw 9 y1),.N q3,.N q4,.a,.u] [0,1,2,3,4,7,8,9,10,12,14,15,16,17] [⟨18,19,25,nw 9 0,fun _=>nw 9 q4⟩] ⟨.g 71 0 j rfl,.g 71 0 j rfl,.g 25 0 i rfl,.g 25 0 i rfl,.g 25 0 i rfl,.g 25 10 j rfl,.r (.buildSlice 127 4 #[(0,.const (.agg (nw 9 q1))),(1,.const (.agg (nw 9 q1))),(2,.const (.agg (nw 9 q1))),(3,.const (.agg (nw 9 A)))]) rfl (rowN4 _ _ _ _),.k (fun x =>#[.agg (cu id P A B N X Y s z l),.slice (some ⟨(x 8 0).2,0,none⟩) 4 4]) fun x vv d K=>RtW.of_c (Rt.c (H2.out _ _ (K 8 rfl))),.g 71 0 j rfl,.g 25 9 q rfl,.g 25 9 q rfl,.r (.buildSlice 127 2 #[(0,.const (.agg (nw 9 y1))),(1,.const (.agg (nw 9 y1)))]) rfl (rowN2 _ _),.k (fun x =>#[.agg (cu id P A B N X Y s z l),.slice (some ⟨(x 15 0).2,0,none⟩) 2 2]) fun x vv d K=>RtW.of_c (Rt.c (H3.out _ _ (K 15 rfl))),.z Z.out,⟨⟩⟩ ⟨.k zNat ⟨fkc,fkc,fkc,fkc,fkc,fkc,fkc,fkc,fkr (by simp[nw_size]),fkc,fkc,fkc,fkc,fkc,fkc,fkr (by simp[nw_size]),fkc,fkc,fka,fku,trivial⟩,⟨⟩⟩ fun ab v2 d h2 L=>?_;simp only[fzw,Kw.a,Kw.r];obtain⟨⟨Q,C⟩,-⟩:=L;clear h2;replace G:=G.trans d;replace j:=j.gr d;replace q:=q.gr d;replace H:=H.gr d;replace D:=D.gr d
 go_upto_region 3 with fail
 refine wp_wTS 5 [.c (.agg (cu id P A B N X Y s z l)),.N q4,.c (.agg (pnt x1 y1 false)),.c (.agg (pnt x2 y2 false)),.c (.agg (pnt r1 r2 false))] [0,1,2,3,4] ⟨.g 71 0 j rfl,.g 25 0 C rfl,.g 27 0 q rfl,.g 27 0 H rfl,.z I.out,⟨⟩⟩ (.s 27 (fun x=>pv (w.heap.size+1+1+1) 0) (fun x=>.agg (pnt r1 r2 false)) fun ac v3 d h3=>?_);have V:=(D.gr d).h;have FT:=(D.gr d).f;refine⟨setBlk v3 (w.heap.size+1+1+1) (pnt r1 r2 false),by simp[go_sem,exI,V,FT],?_⟩;simp only[fzw];replace G:=G.trans d
 go_wp2_with fail
 exact bo1 results67 (rd_pn (by rfl) (blk_setBlk _ _ _ (by rw[V];decide +kernel))) ⟨rfl,gr_setNew G (by omega)⟩
end
section
theorem neNat(x y:Nat)(w:World):(binOp .neq 25 (.agg (nw 9 x)) (.agg (nw 9 y))).run prog w=.ok (.bool (!(eqN 9 x y))) w:=by
 rw[run_neq_struct,show (10000:Nat)=9997+3 from rfl,eqNatIn]
 rfl
theorem nePn(x y:Nat)(f:Bool)(x' y':Nat)(f':Bool)(w:World):(binOp .neq 27 (.agg (pnt x y f)) (.agg (pnt x' y' f'))).run prog w=.ok (.bool (!(eqN 9 x x'&&(eqN 9 y y'&&(f==f'))))) w:=by
 rw[run_neq_struct,show (10000:Nat)=9996+4 from rfl,eqPnIn]
 rfl
theorem storePY(w:World)(b q:Nat)(hs:(blk w b).size=19)(hf:frz w b=(0,0)):(storeS 25 (.pointer (some ⟨b,9,none⟩)) (.agg (nw 9 q))).run prog w=.ok () (setBlk w b (setL (blk w b) 9 (nw 9 q).toList)):=by
 have d:w.there b 9 (nw 9 q).size:=fun j f=>by
  rw[nw_size]at f;exact⟨by rw[cell_blk,Array.getElem?_eq_getElem (by omega)];rfl,frz_at w b _ hf⟩
 simp only[storeS,Instr.storeAt,Instr.sureAddr,Sem.run_bind,Sem.run_pure,Result.andThen_ok];rw[run_storeVar_mid w b 9 25 (nw 9 q) d (by kernel_rfl) (nw_one 9 q),setCells_setBlk _ _ _ _ (by omega)]
theorem pnt_setY(x y q:Nat)(f:Bool):setL (pnt x y f) 9 (nw 9 q).toList=pnt x q f:=by kernel_rfl
theorem buildN0(w:World):(buildF 25 #[]).run prog w=.ok (.agg (nw 9 0)) w:=by kernel_rfl
theorem buildN_is(p:Array (Nat×Value)):Instr.build 25 p=buildF 25 p:=rfl
attribute [local go_sem] uz7
attribute [local go_sem ↓] uz10 Go.wp_at_zero Go.wp_at_succ
attribute [local go_sem] uz11
theorem rel_0(x1 y1 x2 y2:Nat)(f2:Bool)(w:World):
 Cg 51 #[.agg (pnt x1 y1 true),.agg (pnt x2 y2 f2)] w (.int .i64 0):=by
 go_enter func51,ntmps51
 go_upto_region 1 with fail
 refine gen_w (fun v=>Hid (Gr w v∧Vr v (w.heap.size) (pnt x1 y1 true)∧Vr v (w.heap.size+1) (pnt x2 y2 f2))) ⟨grA,vrA,vrA⟩ ?_;intro j d;obtain⟨G,f,l⟩:=d.out;refine wp_wS [.c (pv (w.heap.size) 18),.T,.T] [1] ⟨.o 4 18 f rfl (by exact pnt_18 _ _ _),⟨⟩⟩ fun h q i x=>?_;simp only[fzw];replace G:=G.trans i
 go_wp2_with fail
 go_ret
 exact⟨rfl,G⟩
theorem rel_1(x1 y1 x2 y2:Nat)(w:World):
 Cg 51 #[.agg (pnt x1 y1 false),.agg (pnt x2 y2 true)] w (.int .i64 1):=by
 go_enter func51,ntmps51
 go_upto_region 1 with fail
 refine gen_w (fun v=>Hid (Gr w v∧Vr v (w.heap.size) (pnt x1 y1 false)∧Vr v (w.heap.size+1) (pnt x2 y2 true))) ⟨grA,vrA,vrA⟩ ?_;intro x i;obtain⟨G,f,h⟩:=i.out;clear i;refine wp_wS [.c (pv (w.heap.size) 18),.F,.F] [1] ⟨.o 4 18 f rfl (by exact pnt_18 _ _ _),⟨⟩⟩ fun j A d l=>?_;simp only[fzw];clear l;replace G:=G.trans d;replace f:=f.gr d;replace h:=h.gr d
 go_upto_region 3 with fail
 refine wp_wS [.c (pv (w.heap.size+1) 18),.T,.T] [1] ⟨.o 4 18 h rfl (by exact pnt_18 _ _ _),⟨⟩⟩ fun q B d C=>?_;simp only[fzw];replace G:=G.trans d;replace f:=f.gr d
 go_wp2_with fail
 go_ret
 exact⟨rfl,G⟩
theorem rel_2(x1 y1 x2 y2:Nat)(e1:eqN 9 x1 x2=false)(w:World):
 Cg 51 #[.agg (pnt x1 y1 false),.agg (pnt x2 y2 false)] w (.int .i64 2):=by
 go_enter func51,ntmps51
 go_upto_region 1 with fail
 refine gen_w (fun v=>Hid (Gr w v∧Vr v (w.heap.size) (pnt x1 y1 false)∧Vr v (w.heap.size+1) (pnt x2 y2 false))) ⟨grA,vrA,vrA⟩ ?_;intro B i;obtain⟨G,f,h⟩:=i.out;clear i;refine wp_wS [.c (pv (w.heap.size) 18),.F,.F] [1] ⟨.o 4 18 f rfl (by exact pnt_18 _ _ _),⟨⟩⟩ fun j C d l=>?_;simp only[fzw];clear l;replace G:=G.trans d;replace f:=f.gr d;replace h:=h.gr d;clear d
 go_upto_region 3 with fail
 refine wp_wS [.c (pv (w.heap.size+1) 18),.F,.F] [1] ⟨.o 4 18 h rfl (by exact pnt_18 _ _ _),⟨⟩⟩ fun q D d x=>?_;simp only[fzw];clear x;replace G:=G.trans d;replace f:=f.gr d;replace h:=h.gr d
 go_upto_region 5 with fail
 refine wp_wS [.c (pv (w.heap.size) 0),.N x1,.c (pv (w.heap.size+1) 0),.N x2,.T,.T] [1,3,4] ⟨.g 25 0 f rfl,.g 25 0 h rfl,.s (.binOp .neq 25 (.const (.agg (nw 9 x1))) (.const (.agg (nw 9 x2))) 25) rfl fun H d=>by simp[go_sem,exI,neNat,e1],⟨⟩⟩ fun A I d J=>?_;simp only[fzw];replace G:=G.trans d
 go_wp2_with fail
 go_ret
 exact⟨rfl,G⟩
theorem rel_3(x1 y1 x2 y2:Nat)(e1:eqN 9 x1 x2=true)(e2:eqN 9 y1 y2=true)(e3:eqN 9 y1 0=false)(w:World):
 Cg 51 #[.agg (pnt x1 y1 false),.agg (pnt x2 y2 false)] w (.int .i64 3):=by
 go_enter func51,ntmps51
 go_upto_region 1 with fail
 refine gen_w (fun v=>Hid (Gr w v∧Vr v (w.heap.size) (pnt x1 y1 false)∧Vr v (w.heap.size+1) (pnt x2 y2 false))) ⟨grA,vrA,vrA⟩ ?_;intro H i;obtain⟨G,f,h⟩:=i.out;clear i;refine wp_wS [.c (pv (w.heap.size) 18),.F,.F] [1] ⟨.o 4 18 f rfl (by exact pnt_18 _ _ _),⟨⟩⟩ fun l I d q=>?_;simp only[fzw];clear q;replace G:=G.trans d;replace f:=f.gr d;replace h:=h.gr d;clear d
 go_upto_region 3 with fail
 refine wp_wS [.c (pv (w.heap.size+1) 18),.F,.F] [1] ⟨.o 4 18 h rfl (by exact pnt_18 _ _ _),⟨⟩⟩ fun x J d A=>?_;simp only[fzw];clear A;replace G:=G.trans d;replace f:=f.gr d;replace h:=h.gr d;clear d
 go_upto_region 5 with fail
 refine wp_wS [.c (pv (w.heap.size) 0),.N x1,.c (pv (w.heap.size+1) 0),.N x2,.F,.F] [1,3,4] ⟨.g 25 0 f rfl,.g 25 0 h rfl,.s (.binOp .neq 25 (.const (.agg (nw 9 x1))) (.const (.agg (nw 9 x2))) 25) rfl fun j d=>by simp[go_sem,exI,neNat,e1],⟨⟩⟩ fun B K d C=>?_;simp only[fzw];clear C;replace G:=G.trans d;replace f:=f.gr d;replace h:=h.gr d
 go_upto_region 7 with fail
 refine wp_wS [.c (.agg (pnt x1 y1 false)),.c (.agg (pnt x2 y2 false)),.T,.T,.c (pv (w.heap.size) 9),.N y1,.N 0,.T,.T,.T] [0,1,2,5,7] ⟨.g 27 0 f rfl,.g 27 0 h rfl,.s (.binOp .eql 27 (.const (.agg (pnt x1 y1 false))) (.const (.agg (pnt x2 y2 false))) 27) rfl fun j d=>by simp[go_sem,exI,eqPn,e1,e2],.g 25 9 f rfl,.s (.binOp .neq 25 (.const (.agg (nw 9 y1))) (.const (.agg (nw 9 0))) 25) rfl fun j d=>by simp[go_sem,exI,neNat,e3],⟨⟩⟩ fun D L d P=>?_;simp only[fzw];replace G:=G.trans d
 go_wp2_with fail
 go_ret
 exact⟨rfl,G⟩
theorem rel_4(x1 y1 x2 y2:Nat)(e1:eqN 9 x1 x2=true)(e2:eqN 9 y1 y2=false)(w:World):
 Cg 51 #[.agg (pnt x1 y1 false),.agg (pnt x2 y2 false)] w (.int .i64 4):=by
 go_enter func51,ntmps51
 go_upto_region 1 with fail
 refine gen_w (fun v=>Hid (Gr w v∧Vr v (w.heap.size) (pnt x1 y1 false)∧Vr v (w.heap.size+1) (pnt x2 y2 false))) ⟨grA,vrA,vrA⟩ ?_;intro H i;obtain⟨G,f,h⟩:=i.out;clear i;refine wp_wS [.c (pv (w.heap.size) 18),.F,.F] [1] ⟨.o 4 18 f rfl (by exact pnt_18 _ _ _),⟨⟩⟩ fun j I d l=>?_;simp only[fzw];clear l;replace G:=G.trans d;replace f:=f.gr d;replace h:=h.gr d;clear d
 go_upto_region 3 with fail
 refine wp_wS [.c (pv (w.heap.size+1) 18),.F,.F] [1] ⟨.o 4 18 h rfl (by exact pnt_18 _ _ _),⟨⟩⟩ fun q J d x=>?_;simp only[fzw];clear x;replace G:=G.trans d;replace f:=f.gr d;replace h:=h.gr d;clear d
 go_upto_region 5 with fail
 refine wp_wS [.c (pv (w.heap.size) 0),.N x1,.c (pv (w.heap.size+1) 0),.N x2,.F,.F] [1,3,4] ⟨.g 25 0 f rfl,.g 25 0 h rfl,.s (.binOp .neq 25 (.const (.agg (nw 9 x1))) (.const (.agg (nw 9 x2))) 25) rfl fun A d=>by simp[go_sem,exI,neNat,e1],⟨⟩⟩ fun B K d C=>?_;simp only[fzw];clear C;replace G:=G.trans d;replace f:=f.gr d;replace h:=h.gr d
 go_upto_region 7 with fail
 refine wp_wS [.c (.agg (pnt x1 y1 false)),.c (.agg (pnt x2 y2 false)),.F,.F,.u,.u,.u,.u,.F,.F] [0,1,2] ⟨.g 27 0 f rfl,.g 27 0 h rfl,.s (.binOp .eql 27 (.const (.agg (pnt x1 y1 false))) (.const (.agg (pnt x2 y2 false))) 27) rfl fun A d=>by simp[go_sem,exI,eqPn,e1,e2],⟨⟩⟩ fun D L d P=>?_;simp only[fzw];replace G:=G.trans d
 go_wp2_with fail
 go_ret
 exact⟨rfl,G⟩
theorem rel_5(x1 y1 x2 y2:Nat)(e1:eqN 9 x1 x2=true)(e2:eqN 9 y1 y2=true)(e3:eqN 9 y1 0=true)(w:World):
 Cg 51 #[.agg (pnt x1 y1 false),.agg (pnt x2 y2 false)] w (.int .i64 4):=by
 go_enter func51,ntmps51
 go_upto_region 1 with fail
 refine gen_w (fun v=>Hid (Gr w v∧Vr v (w.heap.size) (pnt x1 y1 false)∧Vr v (w.heap.size+1) (pnt x2 y2 false))) ⟨grA,vrA,vrA⟩ ?_;intro H i;obtain⟨G,f,h⟩:=i.out;clear i;refine wp_wS [.c (pv (w.heap.size) 18),.F,.F] [1] ⟨.o 4 18 f rfl (by exact pnt_18 _ _ _),⟨⟩⟩ fun l I d q=>?_;simp only[fzw];clear q;replace G:=G.trans d;replace f:=f.gr d;replace h:=h.gr d;clear d
 go_upto_region 3 with fail
 refine wp_wS [.c (pv (w.heap.size+1) 18),.F,.F] [1] ⟨.o 4 18 h rfl (by exact pnt_18 _ _ _),⟨⟩⟩ fun x J d A=>?_;simp only[fzw];clear A;replace G:=G.trans d;replace f:=f.gr d;replace h:=h.gr d;clear d
 go_upto_region 5 with fail
 refine wp_wS [.c (pv (w.heap.size) 0),.N x1,.c (pv (w.heap.size+1) 0),.N x2,.F,.F] [1,3,4] ⟨.g 25 0 f rfl,.g 25 0 h rfl,.s (.binOp .neq 25 (.const (.agg (nw 9 x1))) (.const (.agg (nw 9 x2))) 25) rfl fun j d=>by simp[go_sem,exI,neNat,e1],⟨⟩⟩ fun B K d C=>?_;simp only[fzw];clear C;replace G:=G.trans d;replace f:=f.gr d;replace h:=h.gr d
 go_upto_region 7 with fail
 refine wp_wS [.c (.agg (pnt x1 y1 false)),.c (.agg (pnt x2 y2 false)),.T,.T,.c (pv (w.heap.size) 9),.N y1,.N 0,.F,.F,.F] [0,1,2,5,7] ⟨.g 27 0 f rfl,.g 27 0 h rfl,.s (.binOp .eql 27 (.const (.agg (pnt x1 y1 false))) (.const (.agg (pnt x2 y2 false))) 27) rfl fun j d=>by simp[go_sem,exI,eqPn,e1,e2],.g 25 9 f rfl,.s (.binOp .neq 25 (.const (.agg (nw 9 y1))) (.const (.agg (nw 9 0))) 25) rfl fun j d=>by simp[go_sem,exI,neNat,e3],⟨⟩⟩ fun D L d P=>?_;simp only[fzw];replace G:=G.trans d
 go_wp2_with fail
 go_ret
 exact⟨rfl,G⟩
theorem gadd_of(id:Int)(P A B N X Y:Nat)(s z:Int)(l:Bool)(x1 y1 x2 y2 x3 y3:Nat)(f1 f2 f3:Bool)(r:Int)(f:Nat)(hid:∀w,(Instr.index 96 (.agg tabA) (.int .i64 r)).run prog w=.ok (.func (.func f) #[] #[]) w)(hcf:∀w,(callFunc f #[.agg (cu id P A B N X Y s z l),.agg (pnt x1 y1 f1),.agg (pnt x2 y2 f2)]).run prog w=.ok (.enter f #[.agg (cu id P A B N X Y s z l),.agg (pnt x1 y1 f1),.agg (pnt x2 y2 f2)]) w)(HR':∀w,Cg 51 #[.agg (pnt x1 y1 f1),.agg (pnt x2 y2 f2)] w (.int .i64 r))(HS':∀w,Calls prog f #[.agg (cu id P A B N X Y s z l),.agg (pnt x1 y1 f1),.agg (pnt x2 y2 f2)] w fun e w'=>e=.returned (.agg (pnt x3 y3 f3))∧Gr w w')(w:World):
 Cg 32 #[.agg (cu id P A B N X Y s z l),.agg (pnt x1 y1 f1),.agg (pnt x2 y2 f2)] w (.agg (pnt x3 y3 f3)):=by
 have H:Hid _:=HR';have I:Hid _:=HS';clear HR' HS'
 go_enter func32,ntmps32
 go_upto_region 1 with fail
 refine gen_w (fun v=>Hid (Gr w v∧Vr v (w.heap.size) (cu id P A B N X Y s z l)∧Vr v (w.heap.size+1) (pnt x1 y1 f1)∧Vr v (w.heap.size+1+1) (pnt x2 y2 f2)∧Vr v (w.heap.size+1+1+1) (pnt 0 0 false))) ⟨grA,vrA,vrA,vrA,vrA⟩ ?_;intro U i;obtain⟨G,J,j,q,x⟩:=i.out;clear i;refine wp_wT 9 [.c (.agg tabA),.c (.agg (pnt x1 y1 f1)),.c (.agg (pnt x2 y2 f2)),.c (.int .i64 r),.c (.func (.func f) #[] #[]),.c (.agg (cu id P A B N X Y s z l)),.c (.agg (pnt x1 y1 f1)),.c (.agg (pnt x2 y2 f2)),.c (.agg (pnt x3 y3 f3))] [0,1,2,3,4,5,6,7,8] ⟨.z toSum_any,.g 27 0 j rfl,.g 27 0 q rfl,.z H.out,.s (.index 96 (.const (.agg tabA)) (.const (.int .i64 r))) rfl fun K d=>by simp[go_sem,exI,hid],.g 71 0 J rfl,.g 27 0 j rfl,.g 27 0 q rfl,.kf (fun _ =>#[.agg (cu id P A B N X Y s z l),.agg (pnt x1 y1 f1),.agg (pnt x2 y2 f2)]) (fun _=>hcf) fun C K d V=>RtW.of_c (Rt.c (I.out _)),⟨⟩⟩ (.s 27 (fun C=>pv (w.heap.size+1+1+1) 0) (fun C=>.agg (pnt x3 y3 f3)) fun L Q d W=>?_);have D:=(x.gr d).h;have S:=(x.gr d).f;refine⟨setBlk Q (w.heap.size+1+1+1) (pnt x3 y3 f3),by simp[go_sem,exI,D,S],?_⟩;simp only[fzw];replace G:=G.trans d
 go_wp2_with fail
 exact bo1 results32 (rd_pn (by rfl) (blk_setBlk _ _ _ (by rw[D];decide +kernel))) ⟨rfl,gr_setNew G (by omega)⟩
theorem gdbladd_of(id:Int)(P A B N X Y:Nat)(s z:Int)(l:Bool)(x1 y1 x2 y2 x3 y3 x4 y4:Nat)(f1 f2 f3 f4:Bool)(H1':∀w,Cg 32 #[.agg (cu id P A B N X Y s z l),.agg (pnt x1 y1 f1),.agg (pnt x1 y1 f1)] w (.agg (pnt x3 y3 f3)))(H2':∀w,Cg 32 #[.agg (cu id P A B N X Y s z l),.agg (pnt x3 y3 f3),.agg (pnt x2 y2 f2)] w (.agg (pnt x4 y4 f4)))(w:World):
 Cg 75 #[.agg (cu id P A B N X Y s z l),.agg (pnt x1 y1 f1),.agg (pnt x2 y2 f2)] w (.agg (pnt x4 y4 f4)):=by
 have H:Hid _:=H1';have I:Hid _:=H2';clear H1' H2'
 go_enter func75,ntmps75
 go_upto_region 1 with fail
 refine gen_w (fun v=>Hid (Gr w v∧Vr v (w.heap.size) (cu id P A B N X Y s z l)∧Vr v (w.heap.size+1) (pnt x1 y1 f1)∧Vr v (w.heap.size+1+1) (pnt x2 y2 f2)∧Vr v (w.heap.size+1+1+1) (pnt 0 0 false))) ⟨grA,vrA,vrA,vrA,vrA⟩ ?_;intro U C;obtain⟨G,i,j,x,q⟩:=C.out;clear C;refine wp_wT 7 [.c (.agg (cu id P A B N X Y s z l)),.c (.agg (cu id P A B N X Y s z l)),.c (.agg (pnt x1 y1 f1)),.c (.agg (pnt x1 y1 f1)),.c (.agg (pnt x3 y3 f3)),.c (.agg (pnt x2 y2 f2)),.c (.agg (pnt x4 y4 f4))] [0,1,2,3,4,5,6] ⟨.g 71 0 i rfl,.g 71 0 i rfl,.g 27 0 j rfl,.g 27 0 j rfl,.z H.out,.g 27 0 x rfl,.z I.out,⟨⟩⟩ (.s 27 (fun J=>pv (w.heap.size+1+1+1) 0) (fun J=>.agg (pnt x4 y4 f4)) fun K L d Q=>?_);have D:=(q.gr d).h;have S:=(q.gr d).f;refine⟨setBlk L (w.heap.size+1+1+1) (pnt x4 y4 f4),by simp[go_sem,exI,D,S],?_⟩;simp only[fzw];clear Q;replace G:=G.trans d;replace i:=i.gr d;replace j:=j.gr d;replace x:=x.gr d;replace q:=q.gr d;clear d
 go_wp2_with fail
 exact bo1 results75 (rd_pn (by rfl) (blk_setBlk _ _ _ (by rw[D];decide +kernel))) ⟨rfl,gr_setNew G (by omega)⟩
theorem gdbl_of(id:Int)(P A B N X Y:Nat)(s z:Int)(l:Bool)(x1 y1 x2 y2 x3 y3:Nat)(f1 f2 f3:Bool)(H1':∀w,Cg 32 #[.agg (cu id P A B N X Y s z l),.agg (pnt x1 y1 f1),.agg (pnt x1 y1 f1)] w (.agg (pnt x3 y3 f3)))(w:World):
 Cg 74 #[.agg (cu id P A B N X Y s z l),.agg (pnt x1 y1 f1),.agg (pnt x2 y2 f2)] w (.agg (pnt x3 y3 f3)):=by
 have q:Hid _:=H1';clear H1'
 go_enter func74,ntmps74
 go_upto_region 1 with fail
 refine gen_w (fun v=>Hid (Gr w v∧Vr v (w.heap.size) (cu id P A B N X Y s z l)∧Vr v (w.heap.size+1) (pnt x1 y1 f1)∧Vr v (w.heap.size+1+1) (pnt x2 y2 f2)∧Vr v (w.heap.size+1+1+1) (pnt 0 0 false))) ⟨grA,vrA,vrA,vrA,vrA⟩ ?_;intro x f;obtain⟨G,d,h,i,j⟩:=f.out
 have J:x.cell? ⟨w.heap.size,0,none⟩=some (.int .i64 id):=by rw[d.cell];exact cu_0 id P A B N X Y s z l
 have C:=d.al;have D:=h.al;have H:=i.al;have I:=j.al;clear f d h i j
 go_wp2_with (first
  | (go_at_call_of 32 ((#[.agg (cu id P A B N X Y s z l),.agg (pnt x1 y1 f1),.agg (pnt x1 y1 f1)]:Array Value));refine hkA q fun K=>?_))
 refine bo1 results74 (rd_pn (by rfl) ?_) ⟨rfl,?_⟩
 ·simp[go_sem, *]
 ·exact grB
attribute [local go_sem ↓] buildN_is
attribute [local go_sem] storePY pnt_setY buildN0
theorem gneg_of(id:Int)(P A B N X Y:Nat)(s z:Int)(l:Bool)(x1 y1 q:Nat)(f1:Bool)(H1':∀w,Cg 52 #[.agg (cu id P A B N X Y s z l),.agg (nw 9 0),.agg (nw 9 y1)] w (.agg (nw 9 q)))(w:World):
 Cg 33 #[.agg (cu id P A B N X Y s z l),.agg (pnt x1 y1 f1)] w (.agg (pnt x1 q f1)):=by
 have f:Hid _:=H1';clear H1'
 go_enter func33,ntmps33
 go_upto_region 1 with fail
 refine gen_w (fun v=>Hid (Gr w v∧Vr v (w.heap.size) (cu id P A B N X Y s z l)∧Vr v (w.heap.size+1) (pnt x1 y1 f1)∧Vr v (w.heap.size+1+1) (pnt 0 0 false))) ⟨grA,vrA,vrA,vrA⟩ ?_;intro h i;obtain⟨G,d,j,x⟩:=i.out
 have U:h.cell? ⟨w.heap.size,0,none⟩=some (.int .i64 id):=by rw[d.cell];exact cu_0 id P A B N X Y s z l
 have⟨C,D,H⟩:=d;have⟨I,J,K⟩:=j;have⟨L,Q,S⟩:=x
 go_wp2_with (first
  | (go_at_call_of 52 ((#[.agg (cu id P A B N X Y s z l),.agg (nw 9 0),.agg (nw 9 y1)]:Array Value));refine hkA f fun V=>?_))
 refine bo1 results33 (rd_pn (by rfl) ?_) ⟨rfl,?_⟩
 ·simp[go_sem, *]
 ·exact grB
end
end
section
theorem gdiffF{k:Nat}(h1:1≤k)(h2:k≤15)(a b:Fin (pN k))(w:World):Cg 52 #[.agg (cuK k),.agg (nw 9 a.val),.agg (nw 9 b.val)] w (.agg (nw 9 (a-b).val)):=gdiff_of _ _ _ _ _ _ _ _ _ _ _ _ _ (fsubF h1 h2 a b) w
theorem gprodF{k:Nat}(h1:1≤k)(h2:k≤15)(a b:Fin (pN k))(w:World):Cg 96 #[.agg (cuK k),.agg (nw 9 a.val),.agg (nw 9 b.val)] w (.agg (nw 9 (a*b).val)):=gprod_of _ _ _ _ _ _ _ _ _ _ _ _ _ (fmulF h1 h2 a b) w
theorem gquotF{k:Nat}(h1:1≤k)(h2:k≤15)[NeZero (pN k)](a b:Fin (pN k))(hb:b≠0)(w:World):Cg 94 #[.agg (cuK k),.agg (nw 9 a.val),.agg (nw 9 b.val)] w (.agg (nw 9 (a*EC.iP (pN k) b).val)):=gquot_of _ _ _ _ _ _ _ _ _ _ _ _ _ _ (finvF h1 h2 b hb) (gprodF h1 h2 a _) w
def accF{p:Nat}[NeZero p](F:Nat→Fin p):Nat→Fin p
 | 0=>0
 | n+1=>accF F n+F n
theorem gsumF{k:Nat}(h1:1≤k)(h2:k≤15)[NeZero (pN k)](F:Nat→Fin (pN k))(n:Nat)(hn:n≤4)(c:Array Value)(hrow:∀i,i<n→c.extract (i*9) (i*9+9)=nw 9 (F i).val)(hsz:n*9≤c.size)(b:Nat)(w:World)(hv:Vr w b c):
 Cg 97 #[.agg (cuK k),.slice (some ⟨b,0,none⟩) n n] w (.agg (nw 9 (accF F n).val)):=
 gsum_of _ _ _ _ _ _ _ _ _ _ n hn (fun i=>(F i).val) (fun i=>(accF F i).val) c (Fin.val_zero _) hrow hsz (fun _ _ w=>faddF h1 h2 _ _ w) b n w hv
theorem gsum2F{k:Nat}(h1:1≤k)(h2:k≤15)[NeZero (pN k)](x y:Fin (pN k))(w:World)(b:Nat)(hv:Vr w b (nw 9 x.val++nw 9 y.val)):
 Cg 97 #[.agg (cuK k),.slice (some ⟨b,0,none⟩) 2 2] w (.agg (nw 9 (x+y).val)):=by
 have h:=gsumF h1 h2 (fun i=>match i with|0=>x|_=>y) 2 (by decide) _ (fun i d=>by
  obtain rfl|rfl:i=0∨i=1:=by omega
  ·kernel_rfl
  ·kernel_rfl) (by simp[nw_size]) b w hv
 rw[show accF (fun i=>match i with|0=>x|_=>y) 2=x+y by show 0+x+y=x+y;grobner]at h;exact h
theorem gsum4F{k:Nat}(h1:1≤k)(h2:k≤15)[NeZero (pN k)](x y z u:Fin (pN k))(w:World)(b:Nat)(hv:Vr w b (nw 9 x.val++nw 9 y.val++nw 9 z.val++nw 9 u.val)):
 Cg 97 #[.agg (cuK k),.slice (some ⟨b,0,none⟩) 4 4] w (.agg (nw 9 (x+y+z+u).val)):=by
 have h:=gsumF h1 h2 (fun i=>match i with|0=>x|1=>y|2=>z|_=>u) 4 (by decide) _ (fun i d=>by
  obtain rfl|rfl|rfl|rfl:i=0∨i=1∨i=2∨i=3:=by omega
  ·kernel_rfl
  ·kernel_rfl
  ·kernel_rfl
  ·kernel_rfl) (by simp[nw_size]) b w hv
 rw[show accF (fun i=>match i with|0=>x|1=>y|2=>z|_=>u) 4=x+y+z+u by show 0+x+y+z+u=x+y+z+u;grobner]at h;exact h
theorem galongF{k:Nat}(h1:1≤k)(h2:k≤15)[NeZero (pN k)](m x1 y1 x2 y2:Fin (pN k))(w:World):
 Cg 95 #[.agg (cuK k),.agg (nw 9 m.val),.agg (pnt x1.val y1.val false),.agg (pnt x2.val y2.val false)] w (.agg (pnt (ex (some (EC.sx m x1 x2,EC.sy m x1 y1 (EC.sx m x1 x2)))) (ey (some (EC.sx m x1 x2,EC.sy m x1 y1 (EC.sx m x1 x2)))) (ef (some (EC.sx m x1 x2,EC.sy m x1 y1 (EC.sx m x1 x2)))))):=by
 have e:m*m-(x1+x2)=EC.sx m x1 x2:=by unfold EC.sx;grobner
 have d:=gdiffF h1 h2 (m*m) (x1+x2);rw[e]at d;exact galong_of _ _ _ _ _ _ _ _ _ _ _ _ _ _ _ _ _ _ _ _ _ (gprodF h1 h2 m m) d (gdiffF h1 h2 x1 _) (gprodF h1 h2 m _) (gdiffF h1 h2 _ y1) (gsum2F h1 h2 x1 x2) w
theorem gadd_any{k:Nat}(h1:1≤k)(h2:k≤15)[NeZero (pN k)](Q1 Q2:Option (Fin (pN k)×Fin (pN k)))(w:World):
 Cg 32 #[.agg (cuK k),.agg (pnt (ex Q1) (ey Q1) (ef Q1)),.agg (pnt (ex Q2) (ey Q2) (ef Q2))] w (.agg (pnt (ex (EC.pl (EC.iP (pN k)) (EC.aF k h1 h2) Q1 Q2)) (ey (EC.pl (EC.iP (pN k)) (EC.aF k h1 h2) Q1 Q2)) (ef (EC.pl (EC.iP (pN k)) (EC.aF k h1 h2) Q1 Q2)))):=by
 have C:=EC.curN k h1 h2;have j:=pN_M k;have z:(0:Fin (pN k)).val=0:=Fin.val_zero _
 have d:∀a b:Fin (pN k),eqN 9 a.val b.val=decide (a=b):=fun a b=>by
  rw[eqN9 _ _ (Nat.lt_trans a.isLt j) (Nat.lt_trans b.isLt j)];exact decide_eq_decide.2 Fin.ext_iff.symm
 match Q1,Q2 with
 | none,Q2=>exact gadd_of _ _ _ _ _ _ _ _ _ _ _ _ _ _ _ _ _ _ _ 0 64 (fun w=>by kernel_rfl) (fun w=>by kernel_rfl) (rel_0 _ _ _ _ _) (gright_any _ _ _ _ _ _ _ _ _ _ _ _ _ _ _ _) w
 | some (x1,y1),none=>exact gadd_of _ _ _ _ _ _ _ _ _ _ _ _ _ _ _ _ _ _ _ 1 65 (fun w=>by kernel_rfl) (fun w=>by kernel_rfl) (rel_1 _ _ _ _) (gleft_any _ _ _ _ _ _ _ _ _ _ _ _ _ _ _ _) w
 | some (x1,y1),some (x2,y2)=>
  by_cases hx:x1=x2
  ·subst hx;have f:eqN 9 x1.val x1.val=true:=eqN_self _ _
   by_cases hy:y1=y2
   ·subst hy;have l:eqN 9 y1.val y1.val=true:=eqN_self _ _
    by_cases h0:y1=0
    ·have e:EC.pl (EC.iP (pN k)) (EC.aF k h1 h2) (some (x1,y1)) (some (x1,y1))=none:=by simp[EC.pl,h0]
     rw[e];exact gadd_of _ _ _ _ _ _ _ _ _ _ _ _ _ _ _ _ _ _ _ 4 68 (fun w=>by kernel_rfl) (fun w=>by kernel_rfl) (rel_5 _ _ _ _ f l (z▸(d y1 0).trans (decide_eq_true h0))) (ginf_any _ _ _ _ _ _ _ _ _ _ _ _ _ _ _ _) w
    ·have i:y1+y1≠0:=fun h=>h0 (C.dbl h)
     have e:EC.pl (EC.iP (pN k)) (EC.aF k h1 h2) (some (x1,y1)) (some (x1,y1))=some (EC.sx ((x1*x1+(x1*x1+x1*x1)+EC.aF k h1 h2)*EC.iP (pN k) (y1+y1)) x1 x1,EC.sy ((x1*x1+(x1*x1+x1*x1)+EC.aF k h1 h2)*EC.iP (pN k) (y1+y1)) x1 y1 (EC.sx ((x1*x1+(x1*x1+x1*x1)+EC.aF k h1 h2)*EC.iP (pN k) (y1+y1)) x1 x1)):=by simp[EC.pl,h0]
     rw[e];have q:=gsum4F h1 h2 (x1*x1) (x1*x1) (x1*x1) (EC.aF k h1 h2);rw[show x1*x1+x1*x1+x1*x1+EC.aF k h1 h2=x1*x1+(x1*x1+x1*x1)+EC.aF k h1 h2 by grobner]at q;exact gadd_of _ _ _ _ _ _ _ _ _ _ _ _ _ _ _ _ _ _ _ 3 67 (fun w=>by kernel_rfl) (fun w=>by kernel_rfl) (rel_3 _ _ _ _ f l (z▸(d y1 0).trans (decide_eq_false h0))) (gtang_of _ _ _ _ _ _ _ _ _ _ _ _ _ _ _ _ _ _ _ _ (gprodF h1 h2 x1 x1) (gquotF h1 h2 _ _ i) q (gsum2F h1 h2 y1 y1) (galongF h1 h2 _ x1 y1 x1 y1)) w
   ·have e:EC.pl (EC.iP (pN k)) (EC.aF k h1 h2) (some (x1,y1)) (some (x1,y2))=none:=by simp[EC.pl,hy]
    rw[e];exact gadd_of _ _ _ _ _ _ _ _ _ _ _ _ _ _ _ _ _ _ _ 4 68 (fun w=>by kernel_rfl) (fun w=>by kernel_rfl) (rel_4 _ _ _ _ f ((d y1 y2).trans (decide_eq_false hy))) (ginf_any _ _ _ _ _ _ _ _ _ _ _ _ _ _ _ _) w
  ·have i:x2-x1≠0:=fun h=>hx (EC.sub_zero_of h).symm
   have e:EC.pl (EC.iP (pN k)) (EC.aF k h1 h2) (some (x1,y1)) (some (x2,y2))=some (EC.sx ((y2-y1)*EC.iP (pN k) (x2-x1)) x1 x2,EC.sy ((y2-y1)*EC.iP (pN k) (x2-x1)) x1 y1 (EC.sx ((y2-y1)*EC.iP (pN k) (x2-x1)) x1 x2)):=by simp[EC.pl,hx]
   rw[e];exact gadd_of _ _ _ _ _ _ _ _ _ _ _ _ _ _ _ _ _ _ _ 2 66 (fun w=>by kernel_rfl) (fun w=>by kernel_rfl) (rel_2 _ _ _ _ ((d x1 x2).trans (decide_eq_false hx))) (gchord_of _ _ _ _ _ _ _ _ _ _ _ _ _ _ _ _ _ _ _ (gdiffF h1 h2 y2 y1) (gdiffF h1 h2 x2 x1) (gquotF h1 h2 _ _ i) (galongF h1 h2 _ x1 y1 x2 y2)) w
theorem gaddQ{k:Nat}(h1:1≤k)(h2:k≤15){P Q R:Q3}(hP:OnQ k P)(hQ:OnQ k Q)(hR:plQ k P Q=R)(w:World):
 Cg 32 #[.agg (cuK k),.agg (pnQ P),.agg (pnQ Q)] w (.agg (pnQ R)):=by
 haveI:=EC.nzP k h1 h2
 obtain⟨d,f,i⟩:=dec3 hP;obtain⟨j,l,q⟩:=dec3 hQ;have h:=gadd_any h1 h2 (decQ (pN k) P) (decQ (pN k) Q) w;rw[d,f,i,j,l,q]at h;rw[←hR,plQ_is h1 h2];exact h
theorem gnegQ{k:Nat}(h1:1≤k)(h2:k≤15){P R:Q3}(hP:OnQ k P)(hR:ngQ k P=R)(w:World):
 Cg 33 #[.agg (cuK k),.agg (pnQ P)] w (.agg (pnQ R)):=by
 haveI:=EC.nzP k h1 h2
 have z:(0:Fin (pN k)).val=0:=Fin.val_zero _;rw[←hR,ngQ_is h1 h2];obtain⟨d,f,i⟩:=dec3 hP;rw[show pnQ P=pnt (ex (decQ (pN k) P)) (ey (decQ (pN k) P)) (ef (decQ (pN k) P)) by rw[d,f,i]]
 match decQ (pN k) P with
 | none=>
  have h:=gdiffF h1 h2 0 0;rw[show (0:Fin (pN k))-0=0 by grobner,z]at h;exact gneg_of _ _ _ _ _ _ _ _ _ _ _ _ _ _ h w
 | some (x,y)=>
  have h:=gdiffF h1 h2 0 y;rw[show (0:Fin (pN k))-y = -y by grobner,z]at h;exact gneg_of _ _ _ _ _ _ _ _ _ _ _ _ _ _ h w
theorem gdblQ{k:Nat}(h1:1≤k)(h2:k≤15){P Q R:Q3}(hP:OnQ k P)(hR:plQ k P P=R)(w:World):
 Cg 74 #[.agg (cuK k),.agg (pnQ P),.agg (pnQ Q)] w (.agg (pnQ R)):=gdbl_of _ _ _ _ _ _ _ _ _ _ _ _ _ _ _ _ _ _ _ (gaddQ h1 h2 hP hP hR) w
theorem gdbladdQ{k:Nat}(h1:1≤k)(h2:k≤15){P Q R T:Q3}(hP:OnQ k P)(hQ:OnQ k Q)(hR:plQ k P P=R)(hT:plQ k R Q=T)(w:World):
 Cg 75 #[.agg (cuK k),.agg (pnQ P),.agg (pnQ Q)] w (.agg (pnQ T)):=gdbladd_of _ _ _ _ _ _ _ _ _ _ _ _ _ _ _ _ _ _ _ _ _ _ (gaddQ h1 h2 hP hP hR) (gaddQ h1 h2 (hR▸plQ_on h1 h2 hP hP) hQ hT) w
end
section
attribute [local go_sem ↓] uz1
attribute [local go_sem] uz2
section
attribute [local go_sem] uz7
attribute [local go_sem ↓] uz10 Go.wp_at_zero Go.wp_at_succ
attribute [local go_sem] uz11
theorem gmulQ{k:Nat}(h1:1≤k)(h2:k≤15){P:Q3}(hP:OnQ k P)(t:Nat)(ht:t<M)(w:World):
 Cg 41 #[.agg (cuK k),.agg (nw 9 t),.agg (pnQ P)] w (.agg (pnQ (mlQ k t P))):=by
 obtain⟨L,hL⟩:=exl (bl t)
 have af:(L:Int)≤576:=by have:=bl_576 t ht;omega
 have ag:(0:Int)≤L:=by omega
 have Y:Hid (∀w,Cg 56 #[.agg (nw 9 t)] w (.int .i64 L)):=fun w=>hL▸bits_any t ht w;have HZ:Hu (t/2^L=0):=fun _=>Nat.div_eq_of_lt (hL▸(bl_le t (bl t)).1 (Nat.le_refl _))
 have ab:Hu (L≤576):=fun _=>by omega
 clear hL ht
 go_enter func41,ntmps41
 go_upto_region 1 with fail
 refine gen_w (fun wr=>Hid (Gr w wr∧Vr wr (w.heap.size) (cuK k)∧Vr wr (w.heap.size+1) (nw 9 t)∧Vr wr (w.heap.size+1+1) (pnQ P)∧Vr wr (w.heap.size+1+1+1) (pnt 0 0 false)∧wr.heap.size=w.heap.size+1+1+1+1)) ⟨grA,vrA,vrA,vrA,vrA,by simp⟩ ?_;intro v0 HV;obtain⟨G,C,D,H,I,ac⟩:=HV.out;have⟨ah,ai,aj⟩:=C;have ak:=D.al;clear HV
 go_upto_region 3 with (go_at_call 56;refine hkA Y fun g=>?_)
 refine gen_w (fun wr=>Hid (Gr w wr∧Vr wr (w.heap.size) (cuK k)∧Vr wr (w.heap.size+1) (nw 9 t)∧Vr wr (w.heap.size+1+1) (pnQ P)∧Vr wr (w.heap.size+1+1+1) (pnt 0 0 false)∧Vr wr (w.heap.size+1+1+1+1) (pnQ inf))) ?_ ?_
 ·have hG:Gr v0 (gro (v0.alloc (.cells (pnt 0 0 true) 27)) g):=grA;have hn:Vr (gro (v0.alloc (.cells (pnt 0 0 true) 27)) g) v0.heap.size (pnt 0 0 true):=(Vr.new v0 _ _).gr grA;rw[ac]at hn;exact⟨G.trans hG,C.gr hG,D.gr hG,H.gr hG,I.gr hG,hn⟩
 intro v1 HV;clear Y
 go_loopw [8] (fun ia wr=>∃j:Nat,ia=.int .i64 ((j:Int)-1)∧Hu (j≤L)∧Hid (Gr w wr∧Vr wr (w.heap.size) (cuK k)∧Vr wr (w.heap.size+1) (nw 9 t)∧Vr wr (w.heap.size+1+1) (pnQ P)∧Vr wr (w.heap.size+1+1+1) (pnt 0 0 false)∧Vr wr (w.heap.size+1+1+1+1) (pnt (mlQ k (t/2^j) P).1 (mlQ k (t/2^j) P).2.1 (mlQ k (t/2^j) P).2.2))) (fun ia _=>(intOf ia+1).toNat)
 case atStart=>
  refine⟨L,rfl,fun _=>Nat.le_refl _,?_⟩;rw[HZ.out (),mlQ_zero h1 h2];exact HV
 case round=>
  clear HV;obtain⟨j,rfl,HJ,U⟩:=hrel
  by_cases hpos:0<j
  ·obtain⟨d,rfl⟩:∃i,j=i+1:=⟨j-1,by omega⟩
   have e1:(((d+1:Nat):Int)-1)=(d:Int):=by omega
   rw[e1]
   have j0:(0:Int)≤d:=by omega
   have j1:(d:Int)<576:=by have:=HJ.out ();have:=ab.out ();omega
   have aa:d≤L:=by have:=HJ.out ();omega
   have V:d<576:=by omega
   obtain⟨R,Z⟩:=exl (mlQ k (t/2^(d+1)) P);obtain⟨R1,W⟩:=exl (plQ k R R);obtain⟨T,hT⟩:=exl (plQ k R1 P);have K:OnQ k R:=Z▸mlQ_on h1 h2 _ hP;rw[Z]at U;obtain⟨G,C,D,H,I,q⟩:=U.out
   have A:∀b,t/2^d%2=b→t/2^d=t/2^(d+1)+t/2^(d+1)+b:=fun b S=>by
    rw[Nat.pow_succ,←Nat.div_div_eq_div_mul];omega
   have J:mlQ k (t/2^(d+1)+t/2^(d+1)) P=R1:=by rw[mlQ_add h1 h2 _ _ hP,Z,W]
   have B:=bit_any t d V;clear U HJ hpos e1
   obtain S|S:t/2^d%2=0∨t/2^d%2=1:=by omega
   ·have X:R1=mlQ k (t/2^d) P:=by rw[A 0 S,Nat.add_zero,J]
    have Y:Hid (∀w,Cg 58 #[.agg (nw 9 t),.int .i64 d] w (.int .i64 0)):=by
     rw[show bitN t d=0 from S]at B;exact B
    have HS:Hid _:=gdblQ h1 h2 (Q:=P) K W;clear S J A B V
    go_upto_region 5 with fail
    refine wp_wT 9 [.c (.agg tabB),.N t,.c (.int .i64 d),.O,.c (.func (.func 74) #[] #[]),.c (.agg (cuK k)),.c (.agg (pnQ R)),.c (.agg (pnQ P)),.c (.agg (pnQ R1))] [0,1,3,5,6,7,8] ⟨.z toProduct_any,.g 25 0 D rfl,.z Y.out,.g 71 0 C rfl,.g 27 0 q rfl,.g 27 0 H rfl,.z HS.out,⟨⟩⟩ (.s 27 (fun yy=>pv (w.heap.size+1+1+1+1) 0) (fun yy=>.agg (pnQ R1)) fun ae v1 l h5=>?_);have HT:=(q.gr l).h;have FT:=(q.gr l).f;refine⟨setBlk v1 (w.heap.size+1+1+1+1) (pnQ R1),by simp[go_sem,exI,HT,FT],?_⟩;simp only[fzw];clear h5;replace G:=G.trans l;replace C:=C.gr l;replace D:=D.gr l;replace H:=H.gr l;replace I:=I.gr l;replace q:=q.gr l;clear l
    go_wp2_with fail
    go_roundw
    case rel=>
     refine⟨d,by simp,fun _=>aa,?_⟩;rw[←X];exact⟨gr_setNew G (by omega),C.other (by omega),D.other (by omega),H.other (by omega),I.other (by omega),q.set (by rw[pnt_size];decide) _⟩
    case measure=>simp[intOf]
   ·have X:T=mlQ k (t/2^d) P:=by rw[A 1 S,mlQ_add h1 h2 _ _ hP,J,mlQ_one h1 h2 hP,hT]
    have Y:Hid (∀w,Cg 58 #[.agg (nw 9 t),.int .i64 d] w (.int .i64 1)):=by
     rw[show bitN t d=1 from S]at B;exact B
    have HS:Hid _:=gdbladdQ h1 h2 K hP W hT;clear S J A B V
    go_upto_region 5 with fail
    refine wp_wT 9 [.c (.agg tabB),.N t,.c (.int .i64 d),.c (.int .i64 1),.c (.func (.func 75) #[] #[]),.c (.agg (cuK k)),.c (.agg (pnQ R)),.c (.agg (pnQ P)),.c (.agg (pnQ T))] [0,1,3,5,6,7,8] ⟨.z toProduct_any,.g 25 0 D rfl,.z Y.out,.g 71 0 C rfl,.g 27 0 q rfl,.g 27 0 H rfl,.z HS.out,⟨⟩⟩ (.s 27 (fun yy=>pv (w.heap.size+1+1+1+1) 0) (fun yy=>.agg (pnQ T)) fun ae v1 l h5=>?_);have HT:=(q.gr l).h;have FT:=(q.gr l).f;refine⟨setBlk v1 (w.heap.size+1+1+1+1) (pnQ T),by simp[go_sem,exI,HT,FT],?_⟩;simp only[fzw];clear h5;replace G:=G.trans l;replace C:=C.gr l;replace D:=D.gr l;replace H:=H.gr l;replace I:=I.gr l;replace q:=q.gr l;clear l
    go_wp2_with fail
    go_roundw
    case rel=>
     refine⟨d,by simp,fun _=>aa,?_⟩;rw[←X];exact⟨gr_setNew G (by omega),C.other (by omega),D.other (by omega),H.other (by omega),I.other (by omega),q.set (by rw[pnt_size];decide) _⟩
    case measure=>simp[intOf]
  ·obtain rfl:j=0:=by omega
   rw[Nat.pow_zero,Nat.div_one]at U;obtain⟨R,Z⟩:=exl (mlQ k t P);rw[Z]at U;obtain⟨G,C,D,H,I,q⟩:=U.out;have⟨h3,f3,p3⟩:=I;have⟨h4,f4,p4⟩:=q;clear U HJ hpos
   go_wp2_with fail
   refine bo1 results41 (rd_pn (x:=R.1) (y:=R.2.1) (f:=R.2.2) (by rfl) ?_) ⟨by rw[Z],gr_setNew G (by omega)⟩;simp[go_sem,h3]
end
end
end Go.Proofs.YtffhepbppiocbaaGreat