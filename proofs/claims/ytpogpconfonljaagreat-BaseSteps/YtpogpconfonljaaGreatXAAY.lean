import Derived.Deep.AppendSrc
import Derived.Test.YtpogpconfonljaaGreatXARAddM
import Derived.Test.YtpogpconfonljaaGreatXAMixX
namespace Go.Proofs.YtpogpconfonljaaGreat
open Go.RowKit
set_option maxRecDepth 100000
set_option maxHeartbeats 8000000
section
attribute [local go_sem ↓] uz1
attribute [local go_sem] uz2
section
attribute [local go_sem ↓] bsl_is
def appS (ty:TypeId) (xs:Array Value):Sem Value:=Builtin.append_ #[27,27] ty xs
theorem app_is (ty:TypeId) (xs:Array Value):Builtin.append_ #[27,27] ty xs=appS ty xs:=rfl
theorem infoU:(Tryz.prog.info? 59).map (fun i=>(i.zero,i.size,i.bytes))=some (some (.int .u32 0),1,4):=by kernel_rfl
theorem append_digits (w:World) (b n x:Nat) (p:Option Addr) (h:Sl w p x) (hx:dl x≤1000):
 ∃ p' c w',(∀ ty,(appS ty #[.slice (some ⟨b,0,none⟩) 0 0,.slice p (dl x) n]).run Tryz.prog w=.ok (.slice p' (dl x) c) w')∧Sl w' p' x∧Gr w w':=by
 obtain ⟨i,hi,hz,hs,hb⟩:∃ i,Tryz.prog.info? 59=some i∧i.zero=some (.int .u32 0)∧i.size=1∧i.bytes=4:=by
  have h0:=infoU
  cases hc:Tryz.prog.info? 59 with
  | none=>rw [hc] at h0; cases h0
  | some i=>
   rw [hc] at h0
   simp only [Option.map_some,Option.some.injEq,Prod.mk.injEq] at h0
   exact ⟨i,rfl,h0.1,h0.2.1,h0.2.2⟩
 by_cases h0:dl x=0
 ·have e0:=dl_eq_zero x h0
  subst e0
  have hsrc:Src Tryz.prog i.size 27 (.slice p 0 n) 0 [] w:=by
   cases p with
   | none=>exact Src.ofNil w Tryz.underlying27 n
   | some a=>exact Src.ofSlice w Tryz.underlying27 a 0 n [] (by simp) (fun j u hj=>by simp at hj) (fun u hu=>by cases hu)
  refine ⟨some ⟨b,0,none⟩,0,w,fun ty=>?_,Sl.zero _ _,Gr.refl _⟩
  have hr:=run_append_room_src (P:=Tryz.prog) w 27 27 ty 59 i Tryz.underlying27 hi b 0 0 0 (.slice p 0 n) 0 [] hsrc (by omega) (fun j hj=>by simp at hj) (fun j hj=>by simp at hj)
  rw [dl_zero]
  exact hr
 ·obtain ⟨c,rfl,hc,hd⟩:=h.some (by omega)
  have hnd:(nd (dl x) x).toList.length=dl x*i.size:=by rw [hs,Array.length_toList,nd_size,Nat.mul_one]
  have hsrc:Src Tryz.prog i.size 27 (.slice (some ⟨c,0,none⟩) (dl x) n) (dl x) (nd (dl x) x).toList w:=by
   refine Src.ofSlice w Tryz.underlying27 ⟨c,0,none⟩ (dl x) n _ hnd (fun j u hj=>?_) (fun u hu=>?_)
   ·rw [Array.getElem?_toList] at hj
    have hjl:j<dl x:=by
     by_cases hl:j<dl x
     ·exact hl
     ·rw [Array.getElem?_eq_none (by rw [nd_size]; omega)] at hj; cases hj
    rw [nd_get _ _ _ hjl] at hj
    have e:(⟨c,0,none⟩:Addr).add j=⟨c,j,none⟩:=by rw [Addr.add_lit,Nat.zero_add]
    rw [e,cell_blk,hd j hjl,hj]
   ·obtain ⟨j,hj⟩:=List.mem_iff_getElem?.1 hu
    rw [Array.getElem?_toList] at hj
    have hjl:j<dl x:=by
     by_cases hl:j<dl x
     ·exact hl
     ·rw [Array.getElem?_eq_none (by rw [nd_size]; omega)] at hj; cases hj
    rw [nd_get _ _ _ hjl] at hj
    cases hj
    rfl
  have hr:=fun ty=>run_append_grow_src (P:=Tryz.prog) w 27 27 ty 59 i _ Tryz.underlying27 hi hz (some ⟨b,0,none⟩) 0 0 [] (run_firstCells_some w.drew i.size 0 ⟨b,0,none⟩ 0 0 [] (by simp) (fun j u hj=>by simp at hj)) (.slice (some ⟨c,0,none⟩) (dl x) n) (dl x) (nd (dl x) x).toList hsrc (by omega) (by omega) (by rw [hb,Nat.zero_add]; simp only [Builtin.nextslicecap]; rw [if_pos (by omega)]; omega)
  simp only [Nat.zero_add,List.nil_append] at hr
  refine ⟨_,_,_,hr,?_,?_⟩
  ·intro k hk
   refine ⟨w.heap.size,rfl,?_,?_⟩
   ·simp [go_sem]
   ·have e:w.heap.size=w.drew.heap.size:=by simp [go_sem]
    rw [blk_alloc_at _ _ _ _ _ e,Array.getElem?_append_left (by simp [nd_size,hk])]
    simp [nd_get _ _ _ hk]
  ·exact grA
def rdD (w:World) (b i:Nat):Nat:=match (blk w b)[i]? with | some (.int _ z)=>z.toNat | _=>0
def numD (f:Nat→Nat):Nat→Nat
 | 0=>0
 | n+1=>numD f n+f n*pq n
def mS (w:World):Value→Nat
 | .slice (some ⟨b,_,_⟩) n _=>numD (rdD w b) n
 | _=>0
theorem numD_is (f:Nat→Nat) (x:Nat):∀ n,(∀ i,i<n→f i=dg x i)→numD f n=x%pq n
 | 0,_=>by rw [pq_zero,Nat.mod_one]; rfl
 | n+1,h=>by
  show numD f n+f n*pq n=_
  rw [numD_is f x n (fun i hi=>h i (by omega)),h n (by omega),dmod_succ]
theorem mS_is {w:World} {p:Option Addr} {x n:Nat} (h:Sl w p x):mS w (.slice p (dl x) n)=x:=by
 by_cases h0:dl x=0
 ·have e:=dl_eq_zero x h0
  subst e
  cases p <;> rfl
 ·obtain ⟨b,rfl,hb,hc⟩:=h.some (by omega)
  show numD (rdD w b) (dl x)=x
  rw [numD_is (rdD w b) x (dl x) (fun i hi=>by unfold rdD; rw [hc i hi]; rfl),Nat.mod_eq_of_lt (dl_lt x)]
theorem subM_is (t c m:Nat) (ht:t<m) (hc:c<m):subM t c m<m∧∃ k:Int,(subM t c m:Int)=t-c+k*m:=by
 unfold subM
 split
 ·exact ⟨by omega,0,by omega⟩
 ·exact ⟨by omega,1,by omega⟩
structure RI (a m r s t u:Nat):Prop where
 rm:r≤m
 sm:s≤m
 tm:t<m
 um:u<m
 d1:(m:Int)∣(a:Int)*t-r
 d2:(m:Int)∣(a:Int)*u-s
 g:Nat.gcd r s=Nat.gcd m a
theorem RI.start (a m:Nat) (h:1<m):RI a m m (a%m) 0 1:=by
 refine ⟨Nat.le_refl _,Nat.le_of_lt (Nat.mod_lt _ (by omega)),by omega,h,⟨-1,by simp⟩,⟨((a/m:Nat):Int),?_⟩,?_⟩
 ·have h1:=Nat.div_add_mod a m
  obtain ⟨q,hq⟩:=exl (a/m)
  obtain ⟨v,hv⟩:=exl (a%m)
  rw [hq,hv] at h1 ⊢
  have h2:(m:Int)*q+v=a:=by exact_mod_cast h1
  rw [← h2]
  grind
 ·rw [Nat.gcd_comm,← Nat.gcd_rec]
theorem RI.step {a m r s t u:Nat} (h:RI a m r s t u) (h0:0<s) (q v c x:Nat) (hq:r/s=q) (hv:r%s=v) (hc:q%m*u%m=c) (hx:subM t c m=x):RI a m s v u x∧v<s:=by
 have hm:0<m:=by have:=h.tm; omega
 have hvs:v<s:=by rw [← hv]; exact Nat.mod_lt _ h0
 have hcm:c<m:=by rw [← hc]; exact Nat.mod_lt _ hm
 obtain ⟨h1,k,h2⟩:=subM_is t c m h.tm hcm
 rw [hx] at h1 h2
 refine ⟨⟨h.sm,by have:=h.sm; omega,h.um,h1,h.d2,?_,?_⟩,hvs⟩
 ·obtain ⟨c1,e1⟩:=h.d1
  obtain ⟨c2,e2⟩:=h.d2
  have h3:=Nat.div_add_mod r s
  rw [hq,hv] at h3
  have h4:(s:Int)*q+v=r:=by exact_mod_cast h3
  rw [pow_mul] at hc
  have h5:=Nat.div_add_mod (q*u) m
  rw [hc] at h5
  obtain ⟨k',hk⟩:∃ k',q*u/m=k':=⟨_,rfl⟩
  rw [hk] at h5
  have h6:(m:Int)*k'+c=q*u:=by exact_mod_cast h5
  refine ⟨c1-q*c2+a*k'+a*k,?_⟩
  rw [h2]
  grind
 ·rw [← h.g,← hv,Nat.gcd_comm,← Nat.gcd_rec,Nat.gcd_comm]
theorem RI.last {a m r t u:Nat} (h:RI a m r 0 t u) (h1:1<m):r=Nat.gcd m a∧0<r∧(r=1→a*t%m=1):=by
 have hg:=h.g
 rw [Nat.gcd_zero_right] at hg
 have hp:0<Nat.gcd m a:=Nat.gcd_pos_of_pos_left _ (by omega)
 refine ⟨hg,by omega,fun e=>?_⟩
 obtain ⟨c,hc⟩:=h.d1
 rw [e] at hc
 obtain ⟨k,hk⟩:=inv_pos (a*t) m c h1 (by rw [← hc]; simp)
 rw [hk,Nat.add_mul_mod_self_left,Nat.mod_eq_of_lt h1]
def InvR (a m:Nat) (w:World) (e:Ending) (w':World):Prop:=
 (Nat.gcd m a=1→∃ t p n,t<m∧a*t%m=1∧e=.returned (.tuple #[.slice p (dl t) n,.bool true])∧Sl w' p t)∧(Nat.gcd m a≠1→e=.returned (.tuple #[.slice none 0 0,.bool false]))∧Gr w w'
attribute [local go_sem ↓] app_is
theorem rinv_any (a m n n':Nat) (p q:Option Addr) (w:World) (hp:Sl w p a) (hq:Sl w q m) (ha:dl a≤400) (hm:dl m≤400) (h1:1<m):
 Calls Tryz.prog 52 #[.slice p (dl a) n,.slice q (dl m) n'] w (InvR a m w):=by
 have H1:Hid (∀ w' r z k k' p1 p',dl r≤400→Sl w' p1 r→Sl w' p' 1→cmpZ r 1=z→Calls Tryz.prog 14 #[.slice p1 (dl r) k,.slice p' 1 k'] w' fun e w''=>e=.returned (.int .i64 z)∧Gr w' w''):=fun w' r z k k' p1 p' h2 h3 h4 e=>e ▸ rcmp_any r 1 k k' p1 p' w' h3 h4 (by omega) (by decide)
 have hcm:cmpZ m 1=1:=by unfold cmpZ; split <;> (try split) <;> omega
 have hc:=fun w' k' p' (g:Gr w w') (h:Sl w' p' 1)=>H1.out w' m 1 n' k' q p' hm (hq.gr g) h hcm
 have hmod:=fun w' (g:Gr w w')=>rmod_any a m n n' p q w' (hp.gr g) (hq.gr g) (by omega) (by omega) (by omega)
 have hqm:=fun w' k p' x y (g:Gr w w') (h:Sl w' p' x) (hx:dl x≤400) (e:x%m=y)=>(e ▸ rmod_any x m k n' p' q w' h (hq.gr g) (by omega) (by omega) (by omega):Calls Tryz.prog 20 #[.slice p' (dl x) k,.slice q (dl m) n'] w' (Nm y w'))
 have hmm:=fun w' k k' p1 p2 x y z (g:Gr w w') (s1:Sl w' p1 x) (s2:Sl w' p2 y) (l1:x<m) (l2:y<m) (e:x*y%m=z)=>(e ▸ rmulmod_any x y m k k' n' p1 p2 q w' s1 s2 (hq.gr g) (dl_low x m 400 (by omega) hm) (dl_low y m 400 (by omega) hm) hm (by omega):Calls Tryz.prog 49 #[.slice p1 (dl x) k,.slice p2 (dl y) k',.slice q (dl m) n'] w' (Nm z w'))
 have hsm:=fun w' k k' p1 p2 x y z (g:Gr w w') (s1:Sl w' p1 x) (s2:Sl w' p2 y) (l1:x<m) (l2:y<m) (e:subM x y m=z)=>(e ▸ rsubmod_any x y m k k' n' p1 p2 q w' s1 s2 (hq.gr g) hm l1 l2:Calls Tryz.prog 51 #[.slice p1 (dl x) k,.slice p2 (dl y) k',.slice q (dl m) n'] w' (Nm z w'))
 have hap:=fun w' b (g:Gr w w')=>append_digits w' b n' m q (hq.gr g) (by omega)
 have HB:Hid (∀ x,x≤m→dl x≤400):=fun x hx=>dl_low x m 400 hx hm
 have HS:Hid _:=RI.start a m h1
 obtain ⟨X,eX⟩:=exl (a%m)
 obtain ⟨A,eA⟩:=exl (dl a)
 obtain ⟨K,eK⟩:=exl (dl m)
 simp only [eX,eA,eK] at hc hmod hqm hmm hsm hap HS ⊢
 have HC:Hid _:=hc
 have HM:Hid _:=hmod
 have HQ:Hid _:=hqm
 have HMM:Hid _:=hmm
 have HSM:Hid _:=hsm
 have HA:Hid _:=hap
 have HK:Hid (Unit→dl m=K∧1<m):=fun _=>⟨eK,h1⟩
 have hb1:∀ w,(bslS 27 1 #[(0,.int .u32 1)]).run Tryz.prog w=.ok (.slice (some ⟨w.heap.size,0,none⟩) 1 1) (w.alloc (.cells (nd 1 1) 59)):=fun w=>build1 1 (by decide) w
 have hb0:∀ w,(bslS 27 0 #[]).run Tryz.prog w=.ok (.slice (some ⟨w.heap.size,0,none⟩) 0 0) (w.alloc (.cells #[] 59)):=fun w=>by kernel_rfl
 clear hc hmod hqm hmm hsm hap hp hq ha hm h1 hcm eX eA eK
 go_enter Tryz.func52,Tryz.ntmps52
 go_upto_region 6 with (first
  | (go_at_call 14; refine (HC.out _ _ _ ((Gr.refl _).alloc _) (sl_new w)).mono ?_; rintro e W1 ⟨rfl,G1⟩; have GW1:=(((Gr.refl w).alloc _).trans G1).alloc (.cells #[] 59); obtain ⟨pr,cr,Wa,hrun,SR,GA⟩:=HA.out _ W1.heap.size GW1; have GWa:=GW1.trans GA)
  | (go_at_call 20; refine (HM.out _ GWa).mono ?_; rintro e W2 ⟨ps,ns,rfl,SS,G2⟩; have GW2:=GWa.trans G2; have SR2:=SR.gr G2))
 have HS0:Hid (Sl W2 pr m∧Sl W2 ps X∧Gr w W2):=⟨SR2,SS,GW2⟩
 clear hrun HC HM HA SR GA GWa SS G2 GW2 SR2 G1 GW1
 go_loopw [6,7,8,9] (fun ra sa ta ua wr=>∃ (r s t u n1 n2 n3 n4:Nat) (p1 p2 p3 p4:Option Addr),ra=.slice p1 (dl r) n1∧sa=.slice p2 (dl s) n2∧ta=.slice p3 (dl t) n3∧ua=.slice p4 (dl u) n4∧Hid (RI a m r s t u)∧Hid (Sl wr p1 r∧Sl wr p2 s∧Sl wr p3 t∧Sl wr p4 u∧Gr w wr)) (fun _ sa _ _ wr=>mS wr sa)
 case atStart=>
  refine ⟨m,X,0,1,cr,ns,0,1,pr,ps,none,some ⟨W2.heap.size,0,none⟩,by rw [(HK.out ()).1],rfl,rfl,rfl,HS,⟨HS0.out.1.gr ((Gr.refl _).alloc _),HS0.out.2.1.gr ((Gr.refl _).alloc _),Sl.zero _ _,sl_new W2,HS0.out.2.2.alloc _⟩⟩
 case round=>
  obtain ⟨r,s,t,u,n1,n2,n3,n4,p1,p2,p3,p4,rfl,rfl,rfl,rfl,HI,HL⟩:=hrel
  clear HS HS0
  by_cases hs:s=0
  ·subst hs
   obtain ⟨l1,l2,l3⟩:=HI.out.last (HK.out ()).2
   have hr4:dl r≤400:=HB.out r HI.out.rm
   have htm:=HI.out.tm
   rw [dl_zero]
   by_cases hr1:r=1
   ·have HC1:Hid (∀ w' k' p',Sl w' p1 r→Sl w' p' 1→Calls Tryz.prog 14 #[.slice p1 (dl r) n1,.slice p' 1 k'] w' fun e w''=>e=.returned (.int .i64 0)∧Gr w' w''):=fun w' k' p' g h=>H1.out w' r 0 n1 k' p1 p' hr4 g h (by rw [hr1]; rfl)
    have HE:Hid (Nat.gcd m a=1∧a*t%m=1∧t<m):=⟨by rw [← l1]; exact hr1,l3 hr1,htm⟩
    clear H1 HQ HMM HSM HB HK HI hr1 l1 l2 l3 hr4 htm hb0
    go_wp2_with (go_at_call 14; refine (HC1.out _ _ _ (HL.out.1.gr ((Gr.refl _).alloc _)) (sl_new _)).mono ?_; rintro e W3 ⟨rfl,G3⟩; have G3':=((Gr.refl _).alloc _).trans G3)
    go_ret2
    exact ⟨fun _=>⟨t,p3,n3,HE.out.2.2,HE.out.2.1,rfl,HL.out.2.2.1.gr G3'⟩,fun h=>absurd HE.out.1 h,HL.out.2.2.2.2.trans G3'⟩
   ·have HC1:Hid (∀ w' k' p',Sl w' p1 r→Sl w' p' 1→Calls Tryz.prog 14 #[.slice p1 (dl r) n1,.slice p' 1 k'] w' fun e w''=>e=.returned (.int .i64 1)∧Gr w' w''):=fun w' k' p' g h=>H1.out w' r 1 n1 k' p1 p' hr4 g h (by unfold cmpZ; split <;> (try split) <;> omega)
    have HE:Hid (¬ Nat.gcd m a=1):=by rw [← l1]; exact hr1
    clear H1 HQ HMM HSM HB HK HI hr1 l1 l2 l3 hr4 htm hb0
    go_wp2_with (go_at_call 14; refine (HC1.out _ _ _ (HL.out.1.gr ((Gr.refl _).alloc _)) (sl_new _)).mono ?_; rintro e W3 ⟨rfl,G3⟩; have G3':=((Gr.refl _).alloc _).trans G3)
    go_ret2
    exact ⟨fun h=>absurd h HE.out,fun _=>rfl,HL.out.2.2.2.2.trans G3'⟩
  ·have s0:0<s:=by omega
   have hl0:(0:Int)<((dl s:Nat):Int):=by
    have:dl s≠0:=fun e=>hs (dl_eq_zero s e)
    omega
   have hl1:decide ((0:Int)<((dl s:Nat):Int))=true:=decide_eq_true hl0
   obtain ⟨b,hb⟩:=exl (r/s)
   obtain ⟨v,hv⟩:=exl (r%s)
   obtain ⟨y,hy⟩:=exl (b%m)
   obtain ⟨c,hc⟩:=exl (y*u%m)
   obtain ⟨x,hx⟩:=exl (subM t c m)
   have hi:=HI.out
   have hm0:0<m:=by have:=(HK.out ()).2; omega
   have HN:=hi.step s0 b v c x hb hv (by rw [hy]; exact hc) hx
   have hbr:b≤r:=by rw [← hb]; exact Nat.div_le_self _ _
   have HF:Hid (b%m=y∧y*u%m=c∧subM t c m=x∧dl b≤400∧y<m∧u<m∧t<m∧c<m∧dl v≤400∧RI a m s v u x∧v<s):=⟨hy,hc,hx,HB.out b (by have:=hi.rm; omega),by rw [← hy]; exact Nat.mod_lt _ hm0,hi.um,hi.tm,by rw [← hc]; exact Nat.mod_lt _ hm0,HB.out v (by have:=hi.sm; have:=HN.2; omega),HN.1,HN.2⟩
   have HD:Hid (Unit→Calls Tryz.prog 37 #[.slice p1 (dl r) n1,.slice p2 (dl s) n2] wr (Nm2 b v wr)):=fun _=>by
    have h:=rdiv_any r s n1 n2 p1 p2 wr HL.out.1 HL.out.2.1 (by have:=HB.out r hi.rm; omega) (by have:=HB.out s hi.sm; omega) s0
    rw [hb,hv] at h
    exact h
   clear hb hv hy hc hx hi hm0 HN hbr hs s0 HI H1 HB HK hb1
   go_wp2_with (first
    | (go_at_call 37; refine (HD.out ()).mono ?_; rintro e W3 ⟨pb,nb,pv,nv,rfl,Sb,Sv,G3⟩; have GW3:=HL.out.2.2.2.2.trans G3)
    | (go_at_call 20; refine (HQ.out _ nb pb b y GW3 Sb HF.out.2.2.2.1 HF.out.1).mono ?_; rintro e W4 ⟨py,ny,rfl,Sy,G4⟩; have GW4:=GW3.trans G4)
    | (go_at_call 49; refine (HMM.out _ ny n4 py p4 y u c GW4 Sy (HL.out.2.2.2.1.gr (G3.trans G4)) HF.out.2.2.2.2.1 HF.out.2.2.2.2.2.1 HF.out.2.1).mono ?_; rintro e W5 ⟨pc,nc,rfl,Sc,G5⟩; have GW5:=GW4.trans G5)
    | (go_at_call 51; refine (HSM.out _ n3 nc p3 pc t c x GW5 (HL.out.2.2.1.gr ((G3.trans G4).trans G5)) Sc HF.out.2.2.2.2.2.2.1 HF.out.2.2.2.2.2.2.2.1 HF.out.2.2.1).mono ?_; rintro e W6 ⟨px,nx,rfl,Sx,G6⟩; have GW6:=(GW5.trans G6).alloc (.cells #[] 59); have GG:=(((G4.trans G5).trans G6).alloc (.cells #[] 59)); obtain ⟨pw',cw,Wa,hrun,SV,GA⟩:=append_digits _ W6.heap.size nv v pv (Sv.gr GG) (Nat.le_trans HF.out.2.2.2.2.2.2.2.2.1 (by decide))))
   go_roundw
   case rel=>
    have GT:=(G3.trans GG).trans GA
    exact ⟨s,v,u,x,n2,cw,n4,nx,p2,pw',p4,px,rfl,rfl,rfl,rfl,HF.out.2.2.2.2.2.2.2.2.2.1,⟨HL.out.2.1.gr GT,SV,HL.out.2.2.2.1.gr GT,Sx.gr (((Gr.refl _).alloc _).trans GA),GW6.trans GA⟩⟩
   case measure=>
    rw [mS_is SV,mS_is HL.out.2.1]
    exact HF.out.2.2.2.2.2.2.2.2.2.2
end
end
section
section
variable {a b m c n n' n'':Nat} {p q r:Option Addr} {w:World}
theorem mm_any (sa:Sl w p a) (sb:Sl w q b) (sm:Sl w r m) (ha:a<m) (hb:b<m) (hm:dl m≤400) (hc:a*b%m=c):
 Calls Tryz.prog 49 #[.slice p (dl a) n,.slice q (dl b) n',.slice r (dl m) n''] w (Rt (.n c) w):=
 Rt.n (hc ▸ rmulmod_any a b m n n' n'' p q r w sa sb sm (dl_low a m 400 (by omega) hm) (dl_low b m 400 (by omega) hm) hm (by omega))
theorem am_any (sa:Sl w p a) (sb:Sl w q b) (sm:Sl w r m) (ha:a<m) (hb:b<m) (hm:dl m≤400) (hc:(a+b)%m=c):
 Calls Tryz.prog 50 #[.slice p (dl a) n,.slice q (dl b) n',.slice r (dl m) n''] w (Rt (.n c) w):=
 Rt.n (hc ▸ raddmod_any a b m n n' n'' p q r w sa sb sm hm ha hb)
theorem sm_any (sa:Sl w p a) (sb:Sl w q b) (sm:Sl w r m) (ha:a<m) (hb:b<m) (hm:dl m≤400) (hc:subM a b m=c):
 Calls Tryz.prog 51 #[.slice p (dl a) n,.slice q (dl b) n',.slice r (dl m) n''] w (Rt (.n c) w):=
 Rt.n (hc ▸ rsubmod_any a b m n n' n'' p q r w sa sb sm hm ha hb)
theorem iv_any (sa:Sl w p a) (sm:Sl w r m) (ha:a<m) (hm:dl m≤400) (h1:1<m) (hc:c<m) (hac:a*c%m=1):
 Calls Tryz.prog 52 #[.slice p (dl a) n,.slice r (dl m) n'] w (Rt (.nb c true) w):=by
 have hg:Nat.gcd m a=1:=by
  have h1:Nat.gcd m a∣m:=Nat.gcd_dvd_left m a
  have h2:Nat.gcd m a∣a*c:=Nat.dvd_trans (Nat.gcd_dvd_right m a) (Nat.dvd_mul_right a c)
  have h3:Nat.gcd m a∣a*c%m:=(Nat.dvd_mod_iff h1).2 h2
  rw [hac] at h3
  exact Nat.dvd_one.1 h3
 refine (rinv_any a m n n' p r w sa sm (dl_low a m 400 (by omega) hm) hm h1).mono fun e w' h=>?_
 obtain ⟨t,p',k,ht,hat,he,hS⟩:=h.1 hg
 obtain rfl:=inv_one a m t c ht hc hat hac
 exact ⟨_,he,⟨_,_,rfl,hS⟩,h.2.2⟩
theorem cz_any {z:Int} (sa:Sl w p a) (sb:Sl w q b) (ha:dl a≤400) (hb:dl b≤400) (hz:cmpZ a b=z):
 Calls Tryz.prog 14 #[.slice p (dl a) n,.slice q (dl b) n'] w (Rt (.c (.int .i64 z)) w):=
 Rt.c (hz ▸ rcmp_any a b n n' p q w sa sb (by omega) (by omega))
theorem sb_any (sa:Sl w p a) (sb:Sl w q b) (ha:dl a≤400) (h:b≤a) (hc:a-b=c):
 Calls Tryz.prog 25 #[.slice p (dl a) n,.slice q (dl b) n'] w (Rt (.n c) w):=
 Rt.n (hc ▸ rsub_any a b n n' p q w sa sb (by omega) h)
theorem nt_any (sa:Sl w p a):Calls Tryz.prog 19 #[.slice p (dl a) n] w (Rt (.c (.agg (nw 9 a))) w):=Rt.c (rnat_any a n p w sa)
theorem fm_any (ha:a<M):Calls Tryz.prog 15 #[.agg (nw 9 a)] w (Rt (.n a) w):=Rt.n (from_any a ha w)
end
theorem subM_lt {a b m:Nat} (ha:a<m) (hb:b<m):subM a b m<m:=by unfold subM; split <;> omega
end
section
section
variable (p:Option Addr) (x n:Nat) (q:Option Addr) (y m:Nat) (f:Bool)
theorem ptA_size:(ptA p x n q y m f).size=3:=rfl
theorem ptA_one:(ptA p x n q y m f).all (·.oneCell')=true:=by simp [ptA,Value.oneCell']
theorem loadPt_is (v:Value):Instr.loadAt 46 v=loadS 46 v:=rfl
theorem storePt_is (p v:Value):Instr.storeAt 46 p v=storeS 46 p v:=rfl
theorem loadPt (w:World) (b:Nat) (hs:(blk w b).size=3):(loadS 46 (.pointer (some ⟨b,0,none⟩))).run Tryz.prog w=.ok (.agg (blk w b)) w:=
 loadS_run 3 Tryz.underlying46 rfl (by kernel_rfl) w b hs
theorem storePt (w:World) (b:Nat) (hs:(blk w b).size=3) (hf:frz w b=(0,0)):(storeS 46 (.pointer (some ⟨b,0,none⟩)) (.agg (ptA p x n q y m f))).run Tryz.prog w=.ok () (setBlk w b (ptA p x n q y m f)):=
 storeS_run 3 (by decide) (by kernel_rfl) w b _ (ptA_size p x n q y m f) (ptA_one p x n q y m f) hs hf
theorem zvPt_is:zeroValue 46=zvS 46:=rfl
theorem zvPt (w:World):(zvS 46).run Tryz.prog w=.ok (.agg (ptA none 0 0 none 0 0 false)) w:=by kernel_rfl
theorem buildPt_is (p:Array (Nat×Value)):Instr.build 46 p=buildF 46 p:=rfl
theorem buildPt3 (w:World):(buildF 46 #[(0,.slice p (dl x) n),(1,.slice q (dl y) m),(2,.bool f)]).run Tryz.prog w=.ok (.agg (ptA p x n q y m f)) w:=by kernel_rfl
theorem buildPt2 (w:World):(buildF 46 #[(0,.slice p (dl x) n),(1,.slice q (dl y) m)]).run Tryz.prog w=.ok (.agg (ptA p x n q y m false)) w:=by kernel_rfl
theorem buildPtI (w:World):(buildF 46 #[(2,.bool f)]).run Tryz.prog w=.ok (.agg (ptA none 0 0 none 0 0 f)) w:=by kernel_rfl
theorem rd_pt {tmps:Array Value} {t:Tmp} {w:World} {b:Nat} (h:tmps.getD t undef=.pointer (some ⟨b,0,none⟩)) (hc:blk w b=ptA p x n q y m f):(readR tmps (.cell t 46)).run Tryz.prog w=.ok (.agg (ptA p x n q y m f)) w:=
 rd_cell 3 Tryz.underlying46 rfl (by kernel_rfl) h hc (ptA_size p x n q y m f)
theorem ptA_no (i:Nat) (z:Int):(ptA p x n q y m f)[i]? ≠ some (Value.int .u32 z):=by
 intro h
 match i,h with
 | 0,h=>simp [ptA] at h
 | 1,h=>simp [ptA] at h
 | 2,h=>simp [ptA] at h
 | k+3,h=>simp [ptA] at h
end
abbrev uz9:=And.intro @loadPt_is<|And.intro @storePt_is<|And.intro @zvPt_is<|And.intro @buildPt_is<|And.intro @loadC_is<|And.intro @loadPn_is<|And.intro @loadCu_is<|And.intro @storePn_is<|And.intro @zvPn_is<|And.intro @buildPn_is<|And.intro @storeCu_is<|And.intro @zvCu_is @buildCu_is
abbrev uz10:=And.intro @loadPt<|And.intro @storePt<|And.intro @zvPt<|And.intro @buildPt3<|And.intro @buildPt2<|And.intro @buildPtI<|And.intro @ptA_size<|And.intro @crA_size<|And.intro @loadC<|And.intro @loadPn<|And.intro @loadPX<|And.intro @loadPY<|And.intro @pnt_size<|And.intro @pnt_X<|And.intro @pnt_Y<|And.intro @storePn<|And.intro @zvPn<|And.intro @buildPn2<|And.intro @buildPn3<|And.intro @storeCu<|And.intro @zvCu<|And.intro @buildCu9<|And.intro @cu_size @loadCu
abbrev uz17:=And.intro @bsl_is<|And.intro @loadC_is<|And.intro @storeC_is<|And.intro @loadPt_is<|And.intro @storePt_is<|And.intro @zvPt_is<|And.intro @buildPt_is<|And.intro @loadPn_is<|And.intro @storePn_is<|And.intro @zvPn_is<|And.intro @loadCu_is<|And.intro @storeCu_is<|And.intro @zvCu_is<|And.intro @buildCu_is @buildPn_is
abbrev uz18:=And.intro @loadC<|And.intro @storeC0<|And.intro @storeCr<|And.intro @crA_size<|And.intro @loadPt<|And.intro @storePt<|And.intro @zvPt<|And.intro @ptA_size<|And.intro @loadPn<|And.intro @storePn<|And.intro @zvPn<|And.intro @pnt_size<|And.intro @loadCu<|And.intro @storeCu<|And.intro @zvCu<|And.intro @cu_size<|And.intro @buildCu0<|And.intro @buildPnI<|And.intro @buildPn2<|And.intro @loadCP<|And.intro @loadCA<|And.intro @loadCB<|And.intro @loadCN<|And.intro @loadCG<|And.intro @loadCX<|And.intro @loadCY<|And.intro @cu_P<|And.intro @cu_A<|And.intro @cu_B<|And.intro @cu_N<|And.intro @cu_G<|And.intro @cu_X<|And.intro @cu_Y<|And.intro @frz_setBlk<|And.intro @blk_setBlk<|And.intro @setBlk_setBlk @blk_other
end
section
attribute [local go_sem ↓] uz1
attribute [local go_sem] uz2
section
attribute [local go_sem ↓] uz9 Go.wp_at_zero Go.wp_at_succ
attribute [local go_sem] uz10
theorem dl_nought (x:Nat):((dl x:Int) == 0)=decide (x=0):=by
 by_cases h:x=0
 ·subst h; rfl
 ·have:dl x≠0:=fun e=>h (dl_eq_zero x e)
  rw [decide_eq_false h,beq_eq_false_iff_ne]
  omega
theorem cmpZ_nought (a b:Nat):(cmpZ a b == 0)=decide (a=b):=by
 unfold cmpZ
 by_cases h:a<b
 ·rw [if_pos h,decide_eq_false (by omega)]; rfl
 ·by_cases h2:b<a
  ·rw [if_neg h,if_pos h2,decide_eq_false (by omega)]; rfl
  ·rw [if_neg h,if_neg h2,decide_eq_true (by omega)]; rfl
theorem rout_any (x y:Nat) (f:Bool) (p q:Option Addr) (n m:Nat) (w:World) (Sx:Sl w p x) (Sy:Sl w q y):
 Cg 16 #[.agg (ptA p x n q y m f)] w (.agg (pnt x y f)):=by
 go_enter Tryz.func16,Tryz.ntmps16
 go_upto_region 1 with fail
 refine gen_w (fun v=>Gr w v∧Vr v (w.heap.size) (ptA p x n q y m f)∧Vr v (w.heap.size+1) (pnt 0 0 false)) ⟨grA,vrA,vrA⟩ ?_
 rintro v0 ⟨G,c1,c2⟩
 replace Sx:=Sx.gr G
 replace Sy:=Sy.gr G
 refine wp_wT 9 [.c (pv (w.heap.size) 0),.c (.slice p (dl (x)) n),.N x,.c (pv (w.heap.size) 1),.c (.slice q (dl (y)) m),.N y,.c (pv (w.heap.size) 2),.c (.bool f),.c (.agg (pnt x y f))] [1,2,4,5,7] ?hs3 ?hf3
 case hs3=>
  exact .cons (.o 27 0 c1 rfl rfl)<|.cons (.k (fun yy => #[.slice p (dl (x)) n]) fun yy vv hg hh=>RtW.of_c (nt_any (Sx.gr hg)))<|.cons (.o 27 1 c1 rfl rfl)<|.cons (.k (fun yy => #[.slice q (dl (y)) m]) fun yy vv hg hh=>RtW.of_c (nt_any (Sy.gr hg)))<|.cons (.o 4 2 c1 rfl rfl) .nil
 refine .s 35 (fun yy=>.pointer (some ⟨w.heap.size+1,0,none⟩)) (fun yy=>.agg (pnt x y f)) fun yw1 v1 hg h1=>?_
 have HT:=(c2.gr hg).h
 have FT:=(c2.gr hg).f
 refine ⟨setBlk v1 (w.heap.size+1) (pnt x y f),by simp [go_sem,exI,HT,FT],?_⟩
 simp only [fzw]
 clear h1
 replace G:=G.trans hg
 replace c1:=c1.gr hg
 replace c2:=c2.gr hg
 replace Sx:=Sx.gr hg
 replace Sy:=Sy.gr hg
 clear hg
 go_wp2_with fail
 exact bodyPost_ret (res_one Tryz.results16 (rd_pn (by rfl) (blk_setBlk _ _ _ (by rw [HT,pnt_size]; decide)))) rfl ⟨rfl,gr_setNew G (by omega)⟩
end
section
attribute [local go_sem ↓] uz9 Go.wp_at_zero Go.wp_at_succ
attribute [local go_sem] uz10
theorem rplus_inf1 (id:Int) (P A B N X Y:Nat) (qc:Nat→Option Addr×Nat) (x1 y1 x2 y2:Nat) (f:Bool) (p1 q1:Option Addr) (n1 m1:Nat) (p2 q2:Option Addr) (n2 m2:Nat)  (w:World) (HQ:∀ k,Sl w (qc k).1 (six P A B N X Y k)) (Sx1:Sl w p1 x1) (Sy1:Sl w q1 y1) (Sx2:Sl w p2 x2) (Sy2:Sl w q2 y2):
 Calls Tryz.prog 33 #[.agg (crA id (six P A B N X Y) qc),.agg (ptA p1 (x1) n1 q1 (y1) m1 true),.agg (ptA p2 (x2) n2 q2 (y2) m2 f)] w (Rt (.pt x2 y2 f) w):=by
 go_enter Tryz.func33,Tryz.ntmps33
 go_upto_region 1 with fail
 refine gen_w (fun v=>Gr w v∧Vr v (w.heap.size) (crA id (six P A B N X Y) qc)∧Vr v (w.heap.size+1) (ptA p1 (x1) n1 q1 (y1) m1 true)∧Vr v (w.heap.size+1+1) (ptA p2 (x2) n2 q2 (y2) m2 f)∧Vr v (w.heap.size+1+1+1) (ptA none 0 0 none 0 0 false)) ⟨grA,vrA,vrA,vrA,vrA⟩ ?_
 rintro v0 ⟨G,c1,c2,c3,c4⟩
 replace HQ:=fun k=>(HQ k).gr G
 replace Sx1:=Sx1.gr G
 replace Sy1:=Sy1.gr G
 replace Sx2:=Sx2.gr G
 replace Sy2:=Sy2.gr G
 refine wp_wS [.c (pv (w.heap.size+1) 2),.T] [1] ?hs1 ?hf1
 case hs1=>
  refine .cons (.o 4 2 c2 rfl rfl) .nil
 intro yw1 v1 hg h1
 simp only [fzw]
 clear h1
 have g1:=hg
 clear hg
 go_upto_region 2 with fail
 refine wp_wTS 1 [.c (.agg (ptA p2 (x2) n2 q2 (y2) m2 f))] [0] ?hs2 ?hf2
 case hs2=>
  refine .cons (.g 46 0 (c3.gr g1) rfl) .nil
 refine .s 46 (fun yy=>.pointer (some ⟨w.heap.size+1+1+1,0,none⟩)) (fun yy=>.agg (ptA p2 (x2) n2 q2 (y2) m2 f)) fun yw2 v2 hg h2=>?_
 have HT:=((c4.gr g1).gr hg).h
 have FT:=((c4.gr g1).gr hg).f
 refine ⟨setBlk v2 (w.heap.size+1+1+1) (ptA p2 (x2) n2 q2 (y2) m2 f),by simp [go_sem,exI,HT,FT],?_⟩
 simp only [fzw]
 clear h2
 replace g1:=g1.trans hg
 clear hg
 replace G:=G.trans g1
 replace c1:=c1.gr g1
 replace c2:=c2.gr g1
 replace c3:=c3.gr g1
 replace c4:=c4.gr g1
 replace HQ:=fun k=>(HQ k).gr g1
 replace Sx1:=Sx1.gr g1
 replace Sy1:=Sy1.gr g1
 replace Sx2:=Sx2.gr g1
 replace Sy2:=Sy2.gr g1
 clear g1
 go_wp2_with fail
 exact bodyPost_ret (res_one Tryz.results33 (rd_pt _ _ _ _ _ _ _ (by rfl) (blk_setBlk _ _ _ (by rw [HT]; decide)))) rfl ⟨_,rfl,⟨_,_,_,_,rfl,Sl.set Sx2 (by rw [HT]; exact ptA_no _ _ _ _ _ _ _),Sl.set Sy2 (by rw [HT]; exact ptA_no _ _ _ _ _ _ _)⟩,gr_setNew G (by omega)⟩
theorem rplus_inf2 (id:Int) (P A B N X Y:Nat) (qc:Nat→Option Addr×Nat) (x1 y1 x2 y2:Nat) (p1 q1:Option Addr) (n1 m1:Nat) (p2 q2:Option Addr) (n2 m2:Nat)  (w:World) (HQ:∀ k,Sl w (qc k).1 (six P A B N X Y k)) (Sx1:Sl w p1 x1) (Sy1:Sl w q1 y1) (Sx2:Sl w p2 x2) (Sy2:Sl w q2 y2):
 Calls Tryz.prog 33 #[.agg (crA id (six P A B N X Y) qc),.agg (ptA p1 (x1) n1 q1 (y1) m1 false),.agg (ptA p2 (x2) n2 q2 (y2) m2 true)] w (Rt (.pt x1 y1 false) w):=by
 go_enter Tryz.func33,Tryz.ntmps33
 go_upto_region 1 with fail
 refine gen_w (fun v=>Gr w v∧Vr v (w.heap.size) (crA id (six P A B N X Y) qc)∧Vr v (w.heap.size+1) (ptA p1 (x1) n1 q1 (y1) m1 false)∧Vr v (w.heap.size+1+1) (ptA p2 (x2) n2 q2 (y2) m2 true)∧Vr v (w.heap.size+1+1+1) (ptA none 0 0 none 0 0 false)) ⟨grA,vrA,vrA,vrA,vrA⟩ ?_
 rintro v0 ⟨G,c1,c2,c3,c4⟩
 replace HQ:=fun k=>(HQ k).gr G
 replace Sx1:=Sx1.gr G
 replace Sy1:=Sy1.gr G
 replace Sx2:=Sx2.gr G
 replace Sy2:=Sy2.gr G
 refine wp_wS [.c (pv (w.heap.size+1) 2),.F] [1] ?hs3 ?hf3
 case hs3=>
  refine .cons (.o 4 2 c2 rfl rfl) .nil
 intro yw1 v1 hg h1
 simp only [fzw]
 clear h1
 have g1:=hg
 clear hg
 go_upto_region 3 with fail
 refine wp_wS [.c (pv (w.heap.size+1+1) 2),.T] [1] ?hs4 ?hf4
 case hs4=>
  refine .cons (.o 4 2 (c3.gr g1) rfl rfl) .nil
 intro yw3 v2 hg h3
 simp only [fzw]
 clear h3
 replace g1:=g1.trans hg
 clear hg
 go_upto_region 4 with fail
 refine wp_wTS 1 [.c (.agg (ptA p1 (x1) n1 q1 (y1) m1 false))] [0] ?hs5 ?hf5
 case hs5=>
  refine .cons (.g 46 0 (c2.gr g1) rfl) .nil
 refine .s 46 (fun yy=>.pointer (some ⟨w.heap.size+1+1+1,0,none⟩)) (fun yy=>.agg (ptA p1 (x1) n1 q1 (y1) m1 false)) fun yw4 v3 hg h4=>?_
 have HT:=((c4.gr g1).gr hg).h
 have FT:=((c4.gr g1).gr hg).f
 refine ⟨setBlk v3 (w.heap.size+1+1+1) (ptA p1 (x1) n1 q1 (y1) m1 false),by simp [go_sem,exI,HT,FT],?_⟩
 simp only [fzw]
 clear h4
 replace g1:=g1.trans hg
 clear hg
 replace G:=G.trans g1
 replace c1:=c1.gr g1
 replace c2:=c2.gr g1
 replace c3:=c3.gr g1
 replace c4:=c4.gr g1
 replace HQ:=fun k=>(HQ k).gr g1
 replace Sx1:=Sx1.gr g1
 replace Sy1:=Sy1.gr g1
 replace Sx2:=Sx2.gr g1
 replace Sy2:=Sy2.gr g1
 clear g1
 go_wp2_with fail
 exact bodyPost_ret (res_one Tryz.results33 (rd_pt _ _ _ _ _ _ _ (by rfl) (blk_setBlk _ _ _ (by rw [HT]; decide)))) rfl ⟨_,rfl,⟨_,_,_,_,rfl,Sl.set Sx1 (by rw [HT]; exact ptA_no _ _ _ _ _ _ _),Sl.set Sy1 (by rw [HT]; exact ptA_no _ _ _ _ _ _ _)⟩,gr_setNew G (by omega)⟩
theorem rplus_op (id:Int) (P A B N X Y:Nat) (qc:Nat→Option Addr×Nat) (x y1 y2:Nat) (hd:dl P≤400) (lx:x<P) (ly1:y1<P) (ly2:y2<P) (hy:y1≠y2) (p1 q1:Option Addr) (n1 m1:Nat) (p2 q2:Option Addr) (n2 m2:Nat)  (w:World) (HQ:∀ k,Sl w (qc k).1 (six P A B N X Y k)) (Sx1:Sl w p1 x) (Sy1:Sl w q1 y1) (Sx2:Sl w p2 x) (Sy2:Sl w q2 y2):
 Calls Tryz.prog 33 #[.agg (crA id (six P A B N X Y) qc),.agg (ptA p1 (x) n1 q1 (y1) m1 false),.agg (ptA p2 (x) n2 q2 (y2) m2 false)] w (Rt (.pt 0 0 true) w):=by
 obtain ⟨zz,ez⟩:=exl (cmpZ y1 y2)
 have bz:(zz != 0)=true:=by rw [bne,← ez,cmpZ_nought,decide_eq_false hy]; rfl
 go_enter Tryz.func33,Tryz.ntmps33
 go_upto_region 1 with fail
 refine gen_w (fun v=>Gr w v∧Vr v (w.heap.size) (crA id (six P A B N X Y) qc)∧Vr v (w.heap.size+1) (ptA p1 (x) n1 q1 (y1) m1 false)∧Vr v (w.heap.size+1+1) (ptA p2 (x) n2 q2 (y2) m2 false)∧Vr v (w.heap.size+1+1+1) (ptA none 0 0 none 0 0 false)) ⟨grA,vrA,vrA,vrA,vrA⟩ ?_
 rintro v0 ⟨G,c1,c2,c3,c4⟩
 replace HQ:=fun k=>(HQ k).gr G
 replace Sx1:=Sx1.gr G
 replace Sy1:=Sy1.gr G
 replace Sx2:=Sx2.gr G
 replace Sy2:=Sy2.gr G
 refine wp_wS [.c (pv (w.heap.size+1) 2),.F] [1] ?hs6 ?hf6
 case hs6=>
  refine .cons (.o 4 2 c2 rfl rfl) .nil
 intro yw1 v1 hg h1
 simp only [fzw]
 clear h1
 have g1:=hg
 clear hg
 go_upto_region 3 with fail
 refine wp_wS [.c (pv (w.heap.size+1+1) 2),.F] [1] ?hs7 ?hf7
 case hs7=>
  refine .cons (.o 4 2 (c3.gr g1) rfl rfl) .nil
 intro yw3 v2 hg h3
 simp only [fzw]
 clear h3
 replace g1:=g1.trans hg
 clear hg
 go_upto_region 5 with fail
 refine wp_wS [.c (.slice none 0 0),.c (.slice none 0 0)] [] ?hs8 ?hf8
 case hs8=>exact .nil
 intro yw5 v3 hg h5
 simp only [fzw]
 clear h5
 replace g1:=g1.trans hg
 clear hg
 go_upto_region 6 with fail
 refine wp_wS [.c (pv (w.heap.size+1) 0),.c (.slice p1 (dl (x)) n1),.c (pv (w.heap.size+1+1) 0),.c (.slice p2 (dl (x)) n2),.O,.T] [1,3,4] ?hs9 ?hf9
 case hs9=>
  exact .cons (.o 27 0 (c2.gr g1) rfl rfl)<|.cons (.o 27 0 (c3.gr g1) rfl rfl)<|.cons (.k (fun yy => #[.slice p1 (dl (x)) n1,.slice p2 (dl (x)) n2]) fun yy vv hg hh=>RtW.of_c (cz_any (Sx1.gr (g1.trans hg)) (Sx2.gr (g1.trans hg)) (dl_low _ P 400 (by omega) hd) (dl_low _ P 400 (by omega) hd) (by unfold cmpZ; simp))) .nil
 intro yw6 v4 hg h6
 simp only [fzw]
 clear h6
 replace g1:=g1.trans hg
 clear hg
 go_upto_region 7 with fail
 refine wp_wS [.c (pv (w.heap.size+1) 1),.c (.slice q1 (dl (y1)) m1),.c (pv (w.heap.size+1+1) 1),.c (.slice q2 (dl (y2)) m2),.c (.int .i64 zz),.T,.T,.u,.u,.u,.u,.T] [1,3,4,5] ?hs10 ?hf10
 case hs10=>
  exact .cons (.o 27 1 (c2.gr g1) rfl rfl)<|.cons (.o 27 1 (c3.gr g1) rfl rfl)<|.cons (.k (fun yy => #[.slice q1 (dl (y1)) m1,.slice q2 (dl (y2)) m2]) fun yy vv hg hh=>RtW.of_c (cz_any (Sy1.gr (g1.trans hg)) (Sy2.gr (g1.trans hg)) (dl_low _ P 400 (by omega) hd) (dl_low _ P 400 (by omega) hd) ez))<|.cons (.s (.binOp .neq 3 (.const (.int .i64 zz)) (.const (.int .i64 0)) 3) rfl fun vv hg=>by simp [go_sem,exI,bz]) .nil
 intro yw7 v5 hg h7
 simp only [fzw]
 clear h7
 replace g1:=g1.trans hg
 clear hg
 go_upto_region 8 with fail
 refine wp_wTS 1 [.pt (0) (0) true] [0] ?hs11 ?hf11
 case hs11=>
  refine .cons (.p (fun yy i=>match i with | 0=>(none,0) | _=>(none,0)) fun yy vv hg hh=>⟨Sl.zero _ _,Sl.zero _ _⟩) .nil
 refine .s 46 (fun yy=>.pointer (some ⟨w.heap.size+1+1+1,0,none⟩)) (fun yy=>.agg (ptA (yy 0 0).1 (0) (yy 0 0).2 (yy 0 1).1 (0) (yy 0 1).2 true)) fun yw8 v6 hg h8=>?_
 have HT:=((c4.gr g1).gr hg).h
 have FT:=((c4.gr g1).gr hg).f
 refine ⟨setBlk v6 (w.heap.size+1+1+1) (ptA (yw8 0 0).1 (0) (yw8 0 0).2 (yw8 0 1).1 (0) (yw8 0 1).2 true),by simp [go_sem,exI,HT,FT],?_⟩
 simp only [fzw]
 obtain ⟨S8_0,T8_0⟩:Sl v6 (yw8 0 0).1 (0)∧Sl v6 (yw8 0 1).1 (0):=h8 0
 clear h8
 replace g1:=g1.trans hg
 clear hg
 replace G:=G.trans g1
 replace c1:=c1.gr g1
 replace c2:=c2.gr g1
 replace c3:=c3.gr g1
 replace c4:=c4.gr g1
 replace HQ:=fun k=>(HQ k).gr g1
 replace Sx1:=Sx1.gr g1
 replace Sy1:=Sy1.gr g1
 replace Sx2:=Sx2.gr g1
 replace Sy2:=Sy2.gr g1
 clear g1
 go_wp2_with fail
 exact bodyPost_ret (res_one Tryz.results33 (rd_pt _ _ _ _ _ _ _ (by rfl) (blk_setBlk _ _ _ (by rw [HT]; decide)))) rfl ⟨_,rfl,⟨_,_,_,_,rfl,Sl.set S8_0 (by rw [HT]; exact ptA_no _ _ _ _ _ _ _),Sl.set T8_0 (by rw [HT]; exact ptA_no _ _ _ _ _ _ _)⟩,gr_setNew G (by omega)⟩
theorem rplus_flat (id:Int) (P A B N X Y:Nat) (qc:Nat→Option Addr×Nat) (x:Nat) (hd:dl P≤400) (lx:x<P) (p1 q1:Option Addr) (n1 m1:Nat) (p2 q2:Option Addr) (n2 m2:Nat)  (w:World) (HQ:∀ k,Sl w (qc k).1 (six P A B N X Y k)) (Sx1:Sl w p1 x) (Sy1:Sl w q1 0) (Sx2:Sl w p2 x) (Sy2:Sl w q2 0):
 Calls Tryz.prog 33 #[.agg (crA id (six P A B N X Y) qc),.agg (ptA p1 (x) n1 q1 (0) m1 false),.agg (ptA p2 (x) n2 q2 (0) m2 false)] w (Rt (.pt 0 0 true) w):=by
 go_enter Tryz.func33,Tryz.ntmps33
 go_upto_region 1 with fail
 refine gen_w (fun v=>Gr w v∧Vr v (w.heap.size) (crA id (six P A B N X Y) qc)∧Vr v (w.heap.size+1) (ptA p1 (x) n1 q1 (0) m1 false)∧Vr v (w.heap.size+1+1) (ptA p2 (x) n2 q2 (0) m2 false)∧Vr v (w.heap.size+1+1+1) (ptA none 0 0 none 0 0 false)) ⟨grA,vrA,vrA,vrA,vrA⟩ ?_
 rintro v0 ⟨G,c1,c2,c3,c4⟩
 replace HQ:=fun k=>(HQ k).gr G
 replace Sx1:=Sx1.gr G
 replace Sy1:=Sy1.gr G
 replace Sx2:=Sx2.gr G
 replace Sy2:=Sy2.gr G
 refine wp_wS [.c (pv (w.heap.size+1) 2),.F] [1] ?hs12 ?hf12
 case hs12=>
  refine .cons (.o 4 2 c2 rfl rfl) .nil
 intro yw1 v1 hg h1
 simp only [fzw]
 clear h1
 have g1:=hg
 clear hg
 go_upto_region 3 with fail
 refine wp_wS [.c (pv (w.heap.size+1+1) 2),.F] [1] ?hs13 ?hf13
 case hs13=>
  refine .cons (.o 4 2 (c3.gr g1) rfl rfl) .nil
 intro yw3 v2 hg h3
 simp only [fzw]
 clear h3
 replace g1:=g1.trans hg
 clear hg
 go_upto_region 5 with fail
 refine wp_wS [.c (.slice none 0 0),.c (.slice none 0 0)] [] ?hs14 ?hf14
 case hs14=>exact .nil
 intro yw5 v3 hg h5
 simp only [fzw]
 clear h5
 replace g1:=g1.trans hg
 clear hg
 go_upto_region 6 with fail
 refine wp_wS [.c (pv (w.heap.size+1) 0),.c (.slice p1 (dl (x)) n1),.c (pv (w.heap.size+1+1) 0),.c (.slice p2 (dl (x)) n2),.O,.T] [1,3,4] ?hs15 ?hf15
 case hs15=>
  exact .cons (.o 27 0 (c2.gr g1) rfl rfl)<|.cons (.o 27 0 (c3.gr g1) rfl rfl)<|.cons (.k (fun yy => #[.slice p1 (dl (x)) n1,.slice p2 (dl (x)) n2]) fun yy vv hg hh=>RtW.of_c (cz_any (Sx1.gr (g1.trans hg)) (Sx2.gr (g1.trans hg)) (dl_low _ P 400 (by omega) hd) (dl_low _ P 400 (by omega) hd) (by unfold cmpZ; simp))) .nil
 intro yw6 v4 hg h6
 simp only [fzw]
 clear h6
 replace g1:=g1.trans hg
 clear hg
 go_upto_region 7 with fail
 refine wp_wS [.c (pv (w.heap.size+1) 1),.c (.slice q1 (dl (0)) m1),.c (pv (w.heap.size+1+1) 1),.c (.slice q2 (dl (0)) m2),.O,.F,.F,.c (pv (w.heap.size+1) 1),.c (.slice q1 (dl (0)) m1),.c (.int .i64 (dl (0))),.T,.T] [1,3,4,8,10] ?hs16 ?hf16
 case hs16=>
  exact .cons (.o 27 1 (c2.gr g1) rfl rfl)<|.cons (.o 27 1 (c3.gr g1) rfl rfl)<|.cons (.k (fun yy => #[.slice q1 (dl (0)) m1,.slice q2 (dl (0)) m2]) fun yy vv hg hh=>RtW.of_c (cz_any (Sy1.gr (g1.trans hg)) (Sy2.gr (g1.trans hg)) (dl_low _ P 400 (by omega) hd) (dl_low _ P 400 (by omega) hd) (by unfold cmpZ; simp)))<|.cons (.o 27 1 (c2.gr g1) rfl rfl)<|.cons (.s (.binOp .eql 3 (.const (.int .i64 (dl (0)))) (.const (.int .i64 0)) 3) rfl fun vv hg=>by simp [go_sem,exI,dl_zero]) .nil
 intro yw7 v5 hg h7
 simp only [fzw]
 clear h7
 replace g1:=g1.trans hg
 clear hg
 go_upto_region 8 with fail
 refine wp_wTS 1 [.pt (0) (0) true] [0] ?hs17 ?hf17
 case hs17=>
  refine .cons (.p (fun yy i=>match i with | 0=>(none,0) | _=>(none,0)) fun yy vv hg hh=>⟨Sl.zero _ _,Sl.zero _ _⟩) .nil
 refine .s 46 (fun yy=>.pointer (some ⟨w.heap.size+1+1+1,0,none⟩)) (fun yy=>.agg (ptA (yy 0 0).1 (0) (yy 0 0).2 (yy 0 1).1 (0) (yy 0 1).2 true)) fun yw8 v6 hg h8=>?_
 have HT:=((c4.gr g1).gr hg).h
 have FT:=((c4.gr g1).gr hg).f
 refine ⟨setBlk v6 (w.heap.size+1+1+1) (ptA (yw8 0 0).1 (0) (yw8 0 0).2 (yw8 0 1).1 (0) (yw8 0 1).2 true),by simp [go_sem,exI,HT,FT],?_⟩
 simp only [fzw]
 obtain ⟨S8_0,T8_0⟩:Sl v6 (yw8 0 0).1 (0)∧Sl v6 (yw8 0 1).1 (0):=h8 0
 clear h8
 replace g1:=g1.trans hg
 clear hg
 replace G:=G.trans g1
 replace c1:=c1.gr g1
 replace c2:=c2.gr g1
 replace c3:=c3.gr g1
 replace c4:=c4.gr g1
 replace HQ:=fun k=>(HQ k).gr g1
 replace Sx1:=Sx1.gr g1
 replace Sy1:=Sy1.gr g1
 replace Sx2:=Sx2.gr g1
 replace Sy2:=Sy2.gr g1
 clear g1
 go_wp2_with fail
 exact bodyPost_ret (res_one Tryz.results33 (rd_pt _ _ _ _ _ _ _ (by rfl) (blk_setBlk _ _ _ (by rw [HT]; decide)))) rfl ⟨_,rfl,⟨_,_,_,_,rfl,Sl.set S8_0 (by rw [HT]; exact ptA_no _ _ _ _ _ _ _),Sl.set T8_0 (by rw [HT]; exact ptA_no _ _ _ _ _ _ _)⟩,gr_setNew G (by omega)⟩
end
section
attribute [local go_sem ↓] uz9 Go.wp_at_zero Go.wp_at_succ
attribute [local go_sem] uz10
theorem rplus_dbl (id:Int) (P A B N X Y:Nat) (qc:Nat→Option Addr×Nat) (x y:Nat) (hd:dl P≤400) (lx:x<P) (ly:y<P) (lA:A<P) (h0:y≠0) (h1P:1<P) (p1 q1:Option Addr) (n1 m1:Nat) (p2 q2:Option Addr) (n2 m2:Nat) (iv:Nat) (t1:Nat) (ht1:x*x%P=t1) (t2:Nat) (ht2:(t1+t1)%P=t2) (t3:Nat) (ht3:(t1+t2)%P=t3) (t4:Nat) (ht4:(t3+A)%P=t4) (t5:Nat) (ht5:(y+y)%P=t5) (t6:Nat) (ht6:t4*iv%P=t6) (t7:Nat) (ht7:t6*t6%P=t7) (t8:Nat) (ht8:subM t7 x P=t8) (t9:Nat) (ht9:subM t8 x P=t9) (t10:Nat) (ht10:subM x t9 P=t10) (t11:Nat) (ht11:t6*t10%P=t11) (t12:Nat) (ht12:subM t11 y P=t12) (liv:iv<P) (hiv:t5*iv%P=1) (w:World) (HQ:∀ k,Sl w (qc k).1 (six P A B N X Y k)) (Sx1:Sl w p1 x) (Sy1:Sl w q1 y) (Sx2:Sl w p2 x) (Sy2:Sl w q2 y):
 Calls Tryz.prog 33 #[.agg (crA id (six P A B N X Y) qc),.agg (ptA p1 (x) n1 q1 (y) m1 false),.agg (ptA p2 (x) n2 q2 (y) m2 false)] w (Rt (.pt t9 t12 false) w):=by
 have hP:0<P:=by omega
 have zy:((dl y:Int) == 0)=false:=by rw [dl_nought,decide_eq_false h0]
 have lt1:t1<P:=ht1 ▸ Nat.mod_lt _ hP
 have lt2:t2<P:=ht2 ▸ Nat.mod_lt _ hP
 have lt3:t3<P:=ht3 ▸ Nat.mod_lt _ hP
 have lt4:t4<P:=ht4 ▸ Nat.mod_lt _ hP
 have lt5:t5<P:=ht5 ▸ Nat.mod_lt _ hP
 have lt6:t6<P:=ht6 ▸ Nat.mod_lt _ hP
 have lt7:t7<P:=ht7 ▸ Nat.mod_lt _ hP
 have lt8:t8<P:=ht8 ▸ subM_lt lt7 lx
 have lt9:t9<P:=ht9 ▸ subM_lt lt8 lx
 have lt10:t10<P:=ht10 ▸ subM_lt lx lt9
 have lt11:t11<P:=ht11 ▸ Nat.mod_lt _ hP
 have lt12:t12<P:=ht12 ▸ subM_lt lt11 ly
 go_enter Tryz.func33,Tryz.ntmps33
 go_upto_region 1 with fail
 refine gen_w (fun v=>Gr w v∧Vr v (w.heap.size) (crA id (six P A B N X Y) qc)∧Vr v (w.heap.size+1) (ptA p1 (x) n1 q1 (y) m1 false)∧Vr v (w.heap.size+1+1) (ptA p2 (x) n2 q2 (y) m2 false)∧Vr v (w.heap.size+1+1+1) (ptA none 0 0 none 0 0 false)) ⟨grA,vrA,vrA,vrA,vrA⟩ ?_
 rintro v0 ⟨G,c1,c2,c3,c4⟩
 replace HQ:=fun k=>(HQ k).gr G
 replace Sx1:=Sx1.gr G
 replace Sy1:=Sy1.gr G
 replace Sx2:=Sx2.gr G
 replace Sy2:=Sy2.gr G
 refine wp_wS [.c (pv (w.heap.size+1) 2),.F] [1] ?hs18 ?hf18
 case hs18=>
  refine .cons (.o 4 2 c2 rfl rfl) .nil
 intro yw1 v1 hg h1
 simp only [fzw]
 clear h1
 have g1:=hg
 clear hg
 go_upto_region 3 with fail
 refine wp_wS [.c (pv (w.heap.size+1+1) 2),.F] [1] ?hs19 ?hf19
 case hs19=>
  refine .cons (.o 4 2 (c3.gr g1) rfl rfl) .nil
 intro yw3 v2 hg h3
 simp only [fzw]
 clear h3
 replace g1:=g1.trans hg
 clear hg
 go_upto_region 5 with fail
 refine wp_wS [.c (.slice none 0 0),.c (.slice none 0 0)] [] ?hs20 ?hf20
 case hs20=>exact .nil
 intro yw5 v3 hg h5
 simp only [fzw]
 clear h5
 replace g1:=g1.trans hg
 clear hg
 go_upto_region 6 with fail
 refine wp_wS [.c (pv (w.heap.size+1) 0),.c (.slice p1 (dl (x)) n1),.c (pv (w.heap.size+1+1) 0),.c (.slice p2 (dl (x)) n2),.O,.T] [1,3,4] ?hs21 ?hf21
 case hs21=>
  exact .cons (.o 27 0 (c2.gr g1) rfl rfl)<|.cons (.o 27 0 (c3.gr g1) rfl rfl)<|.cons (.k (fun yy => #[.slice p1 (dl (x)) n1,.slice p2 (dl (x)) n2]) fun yy vv hg hh=>RtW.of_c (cz_any (Sx1.gr (g1.trans hg)) (Sx2.gr (g1.trans hg)) (dl_low _ P 400 (by omega) hd) (dl_low _ P 400 (by omega) hd) (by unfold cmpZ; simp))) .nil
 intro yw6 v4 hg h6
 simp only [fzw]
 clear h6
 replace g1:=g1.trans hg
 clear hg
 go_upto_region 7 with fail
 refine wp_wS [.c (pv (w.heap.size+1) 1),.c (.slice q1 (dl (y)) m1),.c (pv (w.heap.size+1+1) 1),.c (.slice q2 (dl (y)) m2),.O,.F,.F,.c (pv (w.heap.size+1) 1),.c (.slice q1 (dl (y)) m1),.c (.int .i64 (dl (y))),.F,.F] [1,3,4,8,10] ?hs22 ?hf22
 case hs22=>
  exact .cons (.o 27 1 (c2.gr g1) rfl rfl)<|.cons (.o 27 1 (c3.gr g1) rfl rfl)<|.cons (.k (fun yy => #[.slice q1 (dl (y)) m1,.slice q2 (dl (y)) m2]) fun yy vv hg hh=>RtW.of_c (cz_any (Sy1.gr (g1.trans hg)) (Sy2.gr (g1.trans hg)) (dl_low _ P 400 (by omega) hd) (dl_low _ P 400 (by omega) hd) (by unfold cmpZ; simp)))<|.cons (.o 27 1 (c2.gr g1) rfl rfl)<|.cons (.s (.binOp .eql 3 (.const (.int .i64 (dl (y)))) (.const (.int .i64 0)) 3) rfl fun vv hg=>by simp [go_sem,exI,zy]) .nil
 intro yw7 v5 hg h7
 simp only [fzw]
 clear h7
 replace g1:=g1.trans hg
 clear hg
 go_upto_region 9 with fail
 refine wp_wS [.c (pv (w.heap.size+1) 0),.c (.slice p1 (dl (x)) n1),.c (pv (w.heap.size+1) 0),.c (.slice p1 (dl (x)) n1),.c (pv (w.heap.size) 1),.c (.slice (qc 0).1 (dl (P)) (qc 0).2),.n (t1),.n (t1)] [1,3,5,6,7] ?hs23 ?hf23
 case hs23=>
  exact .cons (.o 27 0 (c2.gr g1) rfl rfl)<|.cons (.o 27 0 (c2.gr g1) rfl rfl)<|.cons (.o 27 1 (c1.gr g1) rfl rfl)<|.cons (.k (fun yy => #[.slice p1 (dl (x)) n1,.slice p1 (dl (x)) n1,.slice (qc 0).1 (dl (P)) (qc 0).2]) fun yy vv hg hh=>RtW.of_n (mm_any (Sx1.gr (g1.trans hg)) (Sx1.gr (g1.trans hg)) ((HQ 0).gr (g1.trans hg)) lx lx hd ht1))<|.cons (.m 6) .nil
 intro yw9 v6 hg h9
 simp only [fzw]
 have S9_7:Sl v6 (yw9 7 0).1 (t1):=h9 7
 clear h9
 replace g1:=g1.trans hg
 clear hg
 go_upto_region 10 with fail
 refine wp_w [.c (.slice (yw9 7 0).1 (dl (t1)) (yw9 7 0).2),.c (.slice (yw9 7 0).1 (dl (t1)) (yw9 7 0).2),.c (.slice (yw9 7 0).1 (dl (t1)) (yw9 7 0).2),.c (pv (w.heap.size) 1),.c (.slice (qc 0).1 (dl (P)) (qc 0).2),.n (t2),.c (pv (w.heap.size) 1),.c (.slice (qc 0).1 (dl (P)) (qc 0).2),.n (t3),.c (pv (w.heap.size) 2),.c (.slice (qc 1).1 (dl (A)) (qc 1).2),.c (pv (w.heap.size) 1),.c (.slice (qc 0).1 (dl (P)) (qc 0).2),.n (t4),.n (t4)] [4,5,7,8,10,12,13,14] ?hs24 ?hf24
 case hs24=>
  exact .cons (.o 27 1 (c1.gr g1) rfl rfl)<|.cons (.k (fun yy => #[.slice (yw9 7 0).1 (dl (t1)) (yw9 7 0).2,.slice (yw9 7 0).1 (dl (t1)) (yw9 7 0).2,.slice (qc 0).1 (dl (P)) (qc 0).2]) fun yy vv hg hh=>RtW.of_n (am_any (S9_7.gr hg) (S9_7.gr hg) ((HQ 0).gr (g1.trans hg)) lt1 lt1 hd ht2))<|.cons (.o 27 1 (c1.gr g1) rfl rfl)<|.cons (.k (fun yy => #[.slice (yw9 7 0).1 (dl (t1)) (yw9 7 0).2,.slice (yy 5 0).1 (dl (t2)) (yy 5 0).2,.slice (qc 0).1 (dl (P)) (qc 0).2]) fun yy vv hg hh=>RtW.of_n (am_any (S9_7.gr hg) (hh 5 rfl) ((HQ 0).gr (g1.trans hg)) lt1 lt2 hd ht3))<|.cons (.o 27 2 (c1.gr g1) rfl rfl)<|.cons (.o 27 1 (c1.gr g1) rfl rfl)<|.cons (.k (fun yy => #[.slice (yy 8 0).1 (dl (t3)) (yy 8 0).2,.slice (qc 1).1 (dl (A)) (qc 1).2,.slice (qc 0).1 (dl (P)) (qc 0).2]) fun yy vv hg hh=>RtW.of_n (am_any (hh 8 rfl) ((HQ 1).gr (g1.trans hg)) ((HQ 0).gr (g1.trans hg)) lt3 lA hd ht4))<|.cons (.m 13) .nil
 intro yw10 v7 hg h10
 simp only [fzw]
 have S10_14:Sl v7 (yw10 14 0).1 (t4):=h10 14
 clear h10
 replace g1:=g1.trans hg
 have g10:=hg
 clear hg
 go_upto_region 11 with fail
 refine wp_wS [.c (pv (w.heap.size+1) 1),.c (.slice q1 (dl (y)) m1),.c (pv (w.heap.size+1) 1),.c (.slice q1 (dl (y)) m1),.c (pv (w.heap.size) 1),.c (.slice (qc 0).1 (dl (P)) (qc 0).2),.n (t5),.n (t5)] [1,3,5,6,7] ?hs25 ?hf25
 case hs25=>
  exact .cons (.o 27 1 (c2.gr g1) rfl rfl)<|.cons (.o 27 1 (c2.gr g1) rfl rfl)<|.cons (.o 27 1 (c1.gr g1) rfl rfl)<|.cons (.k (fun yy => #[.slice q1 (dl (y)) m1,.slice q1 (dl (y)) m1,.slice (qc 0).1 (dl (P)) (qc 0).2]) fun yy vv hg hh=>RtW.of_n (am_any (Sy1.gr (g1.trans hg)) (Sy1.gr (g1.trans hg)) ((HQ 0).gr (g1.trans hg)) ly ly hd ht5))<|.cons (.m 6) .nil
 intro yw11 v8 hg h11
 simp only [fzw]
 have S11_7:Sl v8 (yw11 7 0).1 (t5):=h11 7
 clear h11
 replace g1:=g1.trans hg
 replace g10:=g10.trans hg
 have g11:=hg
 clear hg
 go_upto_region 14 with fail
 refine wp_wS [.c (.slice (yw11 7 0).1 (dl (t5)) (yw11 7 0).2),.c (pv (w.heap.size) 1),.c (.slice (qc 0).1 (dl (P)) (qc 0).2),.nb (iv) true,.nb (iv) true,.n (iv),.T,.n (iv),.T] [2,3,4,5,6,7] ?hs26 ?hf26
 case hs26=>
  exact .cons (.o 27 1 (c1.gr g1) rfl rfl)<|.cons (.k (fun yy => #[.slice (yw11 7 0).1 (dl (t5)) (yw11 7 0).2,.slice (qc 0).1 (dl (P)) (qc 0).2]) fun yy vv hg hh=>RtW.of_nb (iv_any (S11_7.gr hg) ((HQ 0).gr (g1.trans hg)) lt5 hd h1P liv hiv))<|.cons (.m 3)<|.cons (.m 4)<|.cons (.m 4)<|.cons (.m 5) .nil
 intro yw14 v9 hg h14
 simp only [fzw]
 have S14_7:Sl v9 (yw14 7 0).1 (iv):=h14 7
 clear h14
 replace g1:=g1.trans hg
 replace g10:=g10.trans hg
 replace g11:=g11.trans hg
 have g14:=hg
 clear hg
 go_upto_region 15 with fail
 refine wp_wS [.c (.slice (yw10 14 0).1 (dl (t4)) (yw10 14 0).2),.c (.slice (yw14 7 0).1 (dl (iv)) (yw14 7 0).2),.c (pv (w.heap.size) 1),.c (.slice (qc 0).1 (dl (P)) (qc 0).2),.n (t6),.n (t6)] [3,4,5] ?hs27 ?hf27
 case hs27=>
  exact .cons (.o 27 1 (c1.gr g1) rfl rfl)<|.cons (.k (fun yy => #[.slice (yw10 14 0).1 (dl (t4)) (yw10 14 0).2,.slice (yw14 7 0).1 (dl (iv)) (yw14 7 0).2,.slice (qc 0).1 (dl (P)) (qc 0).2]) fun yy vv hg hh=>RtW.of_n (mm_any (S10_14.gr (g11.trans hg)) (S14_7.gr hg) ((HQ 0).gr (g1.trans hg)) lt4 liv hd ht6))<|.cons (.m 4) .nil
 intro yw15 v10 hg h15
 simp only [fzw]
 have S15_5:Sl v10 (yw15 5 0).1 (t6):=h15 5
 clear h15
 replace g1:=g1.trans hg
 replace g10:=g10.trans hg
 replace g11:=g11.trans hg
 replace g14:=g14.trans hg
 have g15:=hg
 clear hg
 go_upto_region 16 with fail
 refine wp_w [.c (.slice (yw15 5 0).1 (dl (t6)) (yw15 5 0).2),.c (.slice (yw15 5 0).1 (dl (t6)) (yw15 5 0).2),.c (pv (w.heap.size) 1),.c (.slice (qc 0).1 (dl (P)) (qc 0).2),.n (t7),.c (pv (w.heap.size+1) 0),.c (.slice p1 (dl (x)) n1),.c (pv (w.heap.size) 1),.c (.slice (qc 0).1 (dl (P)) (qc 0).2),.n (t8),.c (pv (w.heap.size+1+1) 0),.c (.slice p2 (dl (x)) n2),.c (pv (w.heap.size) 1),.c (.slice (qc 0).1 (dl (P)) (qc 0).2),.n (t9),.n (t9)] [3,4,6,8,9,11,13,14,15] ?hs28 ?hf28
 case hs28=>
  exact .cons (.o 27 1 (c1.gr g1) rfl rfl)<|.cons (.k (fun yy => #[.slice (yw15 5 0).1 (dl (t6)) (yw15 5 0).2,.slice (yw15 5 0).1 (dl (t6)) (yw15 5 0).2,.slice (qc 0).1 (dl (P)) (qc 0).2]) fun yy vv hg hh=>RtW.of_n (mm_any (S15_5.gr hg) (S15_5.gr hg) ((HQ 0).gr (g1.trans hg)) lt6 lt6 hd ht7))<|.cons (.o 27 0 (c2.gr g1) rfl rfl)<|.cons (.o 27 1 (c1.gr g1) rfl rfl)<|.cons (.k (fun yy => #[.slice (yy 4 0).1 (dl (t7)) (yy 4 0).2,.slice p1 (dl (x)) n1,.slice (qc 0).1 (dl (P)) (qc 0).2]) fun yy vv hg hh=>RtW.of_n (sm_any (hh 4 rfl) (Sx1.gr (g1.trans hg)) ((HQ 0).gr (g1.trans hg)) lt7 lx hd ht8))<|.cons (.o 27 0 (c3.gr g1) rfl rfl)<|.cons (.o 27 1 (c1.gr g1) rfl rfl)<|.cons (.k (fun yy => #[.slice (yy 9 0).1 (dl (t8)) (yy 9 0).2,.slice p2 (dl (x)) n2,.slice (qc 0).1 (dl (P)) (qc 0).2]) fun yy vv hg hh=>RtW.of_n (sm_any (hh 9 rfl) (Sx2.gr (g1.trans hg)) ((HQ 0).gr (g1.trans hg)) lt8 lx hd ht9))<|.cons (.m 14) .nil
 intro yw16 v11 hg h16
 simp only [fzw]
 have S16_15:Sl v11 (yw16 15 0).1 (t9):=h16 15
 clear h16
 replace g1:=g1.trans hg
 replace g10:=g10.trans hg
 replace g11:=g11.trans hg
 replace g14:=g14.trans hg
 replace g15:=g15.trans hg
 have g16:=hg
 clear hg
 go_upto_region 17 with fail
 refine wp_w [.c (.slice (yw15 5 0).1 (dl (t6)) (yw15 5 0).2),.c (pv (w.heap.size+1) 0),.c (.slice p1 (dl (x)) n1),.c (.slice (yw16 15 0).1 (dl (t9)) (yw16 15 0).2),.c (pv (w.heap.size) 1),.c (.slice (qc 0).1 (dl (P)) (qc 0).2),.n (t10),.c (pv (w.heap.size) 1),.c (.slice (qc 0).1 (dl (P)) (qc 0).2),.n (t11),.c (pv (w.heap.size+1) 1),.c (.slice q1 (dl (y)) m1),.c (pv (w.heap.size) 1),.c (.slice (qc 0).1 (dl (P)) (qc 0).2),.n (t12),.n (t12)] [2,5,6,8,9,11,13,14,15] ?hs29 ?hf29
 case hs29=>
  exact .cons (.o 27 0 (c2.gr g1) rfl rfl)<|.cons (.o 27 1 (c1.gr g1) rfl rfl)<|.cons (.k (fun yy => #[.slice p1 (dl (x)) n1,.slice (yw16 15 0).1 (dl (t9)) (yw16 15 0).2,.slice (qc 0).1 (dl (P)) (qc 0).2]) fun yy vv hg hh=>RtW.of_n (sm_any (Sx1.gr (g1.trans hg)) (S16_15.gr hg) ((HQ 0).gr (g1.trans hg)) lx lt9 hd ht10))<|.cons (.o 27 1 (c1.gr g1) rfl rfl)<|.cons (.k (fun yy => #[.slice (yw15 5 0).1 (dl (t6)) (yw15 5 0).2,.slice (yy 6 0).1 (dl (t10)) (yy 6 0).2,.slice (qc 0).1 (dl (P)) (qc 0).2]) fun yy vv hg hh=>RtW.of_n (mm_any (S15_5.gr (g16.trans hg)) (hh 6 rfl) ((HQ 0).gr (g1.trans hg)) lt6 lt10 hd ht11))<|.cons (.o 27 1 (c2.gr g1) rfl rfl)<|.cons (.o 27 1 (c1.gr g1) rfl rfl)<|.cons (.k (fun yy => #[.slice (yy 9 0).1 (dl (t11)) (yy 9 0).2,.slice q1 (dl (y)) m1,.slice (qc 0).1 (dl (P)) (qc 0).2]) fun yy vv hg hh=>RtW.of_n (sm_any (hh 9 rfl) (Sy1.gr (g1.trans hg)) ((HQ 0).gr (g1.trans hg)) lt11 ly hd ht12))<|.cons (.m 14) .nil
 intro yw17 v12 hg h17
 simp only [fzw]
 have S17_15:Sl v12 (yw17 15 0).1 (t12):=h17 15
 clear h17
 replace g1:=g1.trans hg
 replace g10:=g10.trans hg
 replace g11:=g11.trans hg
 replace g14:=g14.trans hg
 replace g15:=g15.trans hg
 replace g16:=g16.trans hg
 have g17:=hg
 clear hg
 go_upto_region 18 with fail
 refine wp_wTS 3 [.c (.slice (yw16 15 0).1 (dl (t9)) (yw16 15 0).2),.c (.slice (yw17 15 0).1 (dl (t12)) (yw17 15 0).2),.pt (t9) (t12) false] [2] ?hs30 ?hf30
 case hs30=>
  refine .cons (.p (fun yy i=>match i with | 0=>((yw16 15 0).1,(yw16 15 0).2) | _=>((yw17 15 0).1,(yw17 15 0).2)) fun yy vv hg hh=>⟨(S16_15.gr (g17.trans hg)),(S17_15.gr hg)⟩) .nil
 refine .s 46 (fun yy=>.pointer (some ⟨w.heap.size+1+1+1,0,none⟩)) (fun yy=>.agg (ptA (yy 2 0).1 (t9) (yy 2 0).2 (yy 2 1).1 (t12) (yy 2 1).2 false)) fun yw18 v13 hg h18=>?_
 have HT:=((c4.gr g1).gr hg).h
 have FT:=((c4.gr g1).gr hg).f
 refine ⟨setBlk v13 (w.heap.size+1+1+1) (ptA (yw18 2 0).1 (t9) (yw18 2 0).2 (yw18 2 1).1 (t12) (yw18 2 1).2 false),by simp [go_sem,exI,HT,FT],?_⟩
 simp only [fzw]
 obtain ⟨S18_2,T18_2⟩:Sl v13 (yw18 2 0).1 (t9)∧Sl v13 (yw18 2 1).1 (t12):=h18 2
 clear h18
 replace g1:=g1.trans hg
 replace g10:=g10.trans hg
 replace g11:=g11.trans hg
 replace g14:=g14.trans hg
 replace g15:=g15.trans hg
 replace g16:=g16.trans hg
 replace g17:=g17.trans hg
 have g18:=hg
 clear hg
 replace G:=G.trans g1
 replace c1:=c1.gr g1
 replace c2:=c2.gr g1
 replace c3:=c3.gr g1
 replace c4:=c4.gr g1
 replace HQ:=fun k=>(HQ k).gr g1
 replace Sx1:=Sx1.gr g1
 replace Sy1:=Sy1.gr g1
 replace Sx2:=Sx2.gr g1
 replace Sy2:=Sy2.gr g1
 replace S9_7:=S9_7.gr g10
 replace S10_14:=S10_14.gr g11
 replace S11_7:=S11_7.gr g14
 replace S14_7:=S14_7.gr g15
 replace S15_5:=S15_5.gr g16
 replace S16_15:=S16_15.gr g17
 replace S17_15:=S17_15.gr g18
 clear g1 g10 g11 g14 g15 g16 g17 g18
 go_wp2_with fail
 exact bodyPost_ret (res_one Tryz.results33 (rd_pt _ _ _ _ _ _ _ (by rfl) (blk_setBlk _ _ _ (by rw [HT]; decide)))) rfl ⟨_,rfl,⟨_,_,_,_,rfl,Sl.set S18_2 (by rw [HT]; exact ptA_no _ _ _ _ _ _ _),Sl.set T18_2 (by rw [HT]; exact ptA_no _ _ _ _ _ _ _)⟩,gr_setNew G (by omega)⟩
end
section
attribute [local go_sem ↓] uz9 Go.wp_at_zero Go.wp_at_succ
attribute [local go_sem] uz10
theorem rplus_add (id:Int) (P A B N X Y:Nat) (qc:Nat→Option Addr×Nat) (x1 y1 x2 y2:Nat) (hd:dl P≤400) (lx1:x1<P) (ly1:y1<P) (lx2:x2<P) (ly2:y2<P) (hx:x1≠x2) (h1P:1<P) (p1 q1:Option Addr) (n1 m1:Nat) (p2 q2:Option Addr) (n2 m2:Nat) (iv:Nat) (t1:Nat) (ht1:subM y2 y1 P=t1) (t2:Nat) (ht2:subM x2 x1 P=t2) (t3:Nat) (ht3:t1*iv%P=t3) (t4:Nat) (ht4:t3*t3%P=t4) (t5:Nat) (ht5:subM t4 x1 P=t5) (t6:Nat) (ht6:subM t5 x2 P=t6) (t7:Nat) (ht7:subM x1 t6 P=t7) (t8:Nat) (ht8:t3*t7%P=t8) (t9:Nat) (ht9:subM t8 y1 P=t9) (liv:iv<P) (hiv:t2*iv%P=1) (w:World) (HQ:∀ k,Sl w (qc k).1 (six P A B N X Y k)) (Sx1:Sl w p1 x1) (Sy1:Sl w q1 y1) (Sx2:Sl w p2 x2) (Sy2:Sl w q2 y2):
 Calls Tryz.prog 33 #[.agg (crA id (six P A B N X Y) qc),.agg (ptA p1 (x1) n1 q1 (y1) m1 false),.agg (ptA p2 (x2) n2 q2 (y2) m2 false)] w (Rt (.pt t6 t9 false) w):=by
 have hP:0<P:=by omega
 obtain ⟨zz,ez⟩:=exl (cmpZ x1 x2)
 have bz:(zz == 0)=false:=by rw [← ez,cmpZ_nought,decide_eq_false hx]
 have lt1:t1<P:=ht1 ▸ subM_lt ly2 ly1
 have lt2:t2<P:=ht2 ▸ subM_lt lx2 lx1
 have lt3:t3<P:=ht3 ▸ Nat.mod_lt _ hP
 have lt4:t4<P:=ht4 ▸ Nat.mod_lt _ hP
 have lt5:t5<P:=ht5 ▸ subM_lt lt4 lx1
 have lt6:t6<P:=ht6 ▸ subM_lt lt5 lx2
 have lt7:t7<P:=ht7 ▸ subM_lt lx1 lt6
 have lt8:t8<P:=ht8 ▸ Nat.mod_lt _ hP
 have lt9:t9<P:=ht9 ▸ subM_lt lt8 ly1
 go_enter Tryz.func33,Tryz.ntmps33
 go_upto_region 1 with fail
 refine gen_w (fun v=>Gr w v∧Vr v (w.heap.size) (crA id (six P A B N X Y) qc)∧Vr v (w.heap.size+1) (ptA p1 (x1) n1 q1 (y1) m1 false)∧Vr v (w.heap.size+1+1) (ptA p2 (x2) n2 q2 (y2) m2 false)∧Vr v (w.heap.size+1+1+1) (ptA none 0 0 none 0 0 false)) ⟨grA,vrA,vrA,vrA,vrA⟩ ?_
 rintro v0 ⟨G,c1,c2,c3,c4⟩
 replace HQ:=fun k=>(HQ k).gr G
 replace Sx1:=Sx1.gr G
 replace Sy1:=Sy1.gr G
 replace Sx2:=Sx2.gr G
 replace Sy2:=Sy2.gr G
 refine wp_wS [.c (pv (w.heap.size+1) 2),.F] [1] ?hs31 ?hf31
 case hs31=>
  refine .cons (.o 4 2 c2 rfl rfl) .nil
 intro yw1 v1 hg h1
 simp only [fzw]
 clear h1
 have g1:=hg
 clear hg
 go_upto_region 3 with fail
 refine wp_wS [.c (pv (w.heap.size+1+1) 2),.F] [1] ?hs32 ?hf32
 case hs32=>
  refine .cons (.o 4 2 (c3.gr g1) rfl rfl) .nil
 intro yw3 v2 hg h3
 simp only [fzw]
 clear h3
 replace g1:=g1.trans hg
 clear hg
 go_upto_region 5 with fail
 refine wp_wS [.c (.slice none 0 0),.c (.slice none 0 0)] [] ?hs33 ?hf33
 case hs33=>exact .nil
 intro yw5 v3 hg h5
 simp only [fzw]
 clear h5
 replace g1:=g1.trans hg
 clear hg
 go_upto_region 6 with fail
 refine wp_wS [.c (pv (w.heap.size+1) 0),.c (.slice p1 (dl (x1)) n1),.c (pv (w.heap.size+1+1) 0),.c (.slice p2 (dl (x2)) n2),.c (.int .i64 zz),.F] [1,3,4,5] ?hs34 ?hf34
 case hs34=>
  exact .cons (.o 27 0 (c2.gr g1) rfl rfl)<|.cons (.o 27 0 (c3.gr g1) rfl rfl)<|.cons (.k (fun yy => #[.slice p1 (dl (x1)) n1,.slice p2 (dl (x2)) n2]) fun yy vv hg hh=>RtW.of_c (cz_any (Sx1.gr (g1.trans hg)) (Sx2.gr (g1.trans hg)) (dl_low _ P 400 (by omega) hd) (dl_low _ P 400 (by omega) hd) ez))<|.cons (.s (.binOp .eql 3 (.const (.int .i64 zz)) (.const (.int .i64 0)) 3) rfl fun vv hg=>by simp [go_sem,exI,bz]) .nil
 intro yw6 v4 hg h6
 simp only [fzw]
 clear h6
 replace g1:=g1.trans hg
 clear hg
 go_upto_region 12 with fail
 refine wp_wS [.c (pv (w.heap.size+1+1) 1),.c (.slice q2 (dl (y2)) m2),.c (pv (w.heap.size+1) 1),.c (.slice q1 (dl (y1)) m1),.c (pv (w.heap.size) 1),.c (.slice (qc 0).1 (dl (P)) (qc 0).2),.n (t1),.n (t1)] [1,3,5,6,7] ?hs35 ?hf35
 case hs35=>
  exact .cons (.o 27 1 (c3.gr g1) rfl rfl)<|.cons (.o 27 1 (c2.gr g1) rfl rfl)<|.cons (.o 27 1 (c1.gr g1) rfl rfl)<|.cons (.k (fun yy => #[.slice q2 (dl (y2)) m2,.slice q1 (dl (y1)) m1,.slice (qc 0).1 (dl (P)) (qc 0).2]) fun yy vv hg hh=>RtW.of_n (sm_any (Sy2.gr (g1.trans hg)) (Sy1.gr (g1.trans hg)) ((HQ 0).gr (g1.trans hg)) ly2 ly1 hd ht1))<|.cons (.m 6) .nil
 intro yw12 v5 hg h12
 simp only [fzw]
 have S12_7:Sl v5 (yw12 7 0).1 (t1):=h12 7
 clear h12
 replace g1:=g1.trans hg
 clear hg
 go_upto_region 13 with fail
 refine wp_wS [.c (pv (w.heap.size+1+1) 0),.c (.slice p2 (dl (x2)) n2),.c (pv (w.heap.size+1) 0),.c (.slice p1 (dl (x1)) n1),.c (pv (w.heap.size) 1),.c (.slice (qc 0).1 (dl (P)) (qc 0).2),.n (t2),.n (t2)] [1,3,5,6,7] ?hs36 ?hf36
 case hs36=>
  exact .cons (.o 27 0 (c3.gr g1) rfl rfl)<|.cons (.o 27 0 (c2.gr g1) rfl rfl)<|.cons (.o 27 1 (c1.gr g1) rfl rfl)<|.cons (.k (fun yy => #[.slice p2 (dl (x2)) n2,.slice p1 (dl (x1)) n1,.slice (qc 0).1 (dl (P)) (qc 0).2]) fun yy vv hg hh=>RtW.of_n (sm_any (Sx2.gr (g1.trans hg)) (Sx1.gr (g1.trans hg)) ((HQ 0).gr (g1.trans hg)) lx2 lx1 hd ht2))<|.cons (.m 6) .nil
 intro yw13 v6 hg h13
 simp only [fzw]
 have S13_7:Sl v6 (yw13 7 0).1 (t2):=h13 7
 clear h13
 replace g1:=g1.trans hg
 have g13:=hg
 clear hg
 go_upto_region 14 with fail
 refine wp_wS [.c (.slice (yw13 7 0).1 (dl (t2)) (yw13 7 0).2),.c (pv (w.heap.size) 1),.c (.slice (qc 0).1 (dl (P)) (qc 0).2),.nb (iv) true,.nb (iv) true,.n (iv),.T,.n (iv),.T] [2,3,4,5,6,7] ?hs37 ?hf37
 case hs37=>
  exact .cons (.o 27 1 (c1.gr g1) rfl rfl)<|.cons (.k (fun yy => #[.slice (yw13 7 0).1 (dl (t2)) (yw13 7 0).2,.slice (qc 0).1 (dl (P)) (qc 0).2]) fun yy vv hg hh=>RtW.of_nb (iv_any (S13_7.gr hg) ((HQ 0).gr (g1.trans hg)) lt2 hd h1P liv hiv))<|.cons (.m 3)<|.cons (.m 4)<|.cons (.m 4)<|.cons (.m 5) .nil
 intro yw14 v7 hg h14
 simp only [fzw]
 have S14_7:Sl v7 (yw14 7 0).1 (iv):=h14 7
 clear h14
 replace g1:=g1.trans hg
 replace g13:=g13.trans hg
 have g14:=hg
 clear hg
 go_upto_region 15 with fail
 refine wp_wS [.c (.slice (yw12 7 0).1 (dl (t1)) (yw12 7 0).2),.c (.slice (yw14 7 0).1 (dl (iv)) (yw14 7 0).2),.c (pv (w.heap.size) 1),.c (.slice (qc 0).1 (dl (P)) (qc 0).2),.n (t3),.n (t3)] [3,4,5] ?hs38 ?hf38
 case hs38=>
  exact .cons (.o 27 1 (c1.gr g1) rfl rfl)<|.cons (.k (fun yy => #[.slice (yw12 7 0).1 (dl (t1)) (yw12 7 0).2,.slice (yw14 7 0).1 (dl (iv)) (yw14 7 0).2,.slice (qc 0).1 (dl (P)) (qc 0).2]) fun yy vv hg hh=>RtW.of_n (mm_any (S12_7.gr (g13.trans hg)) (S14_7.gr hg) ((HQ 0).gr (g1.trans hg)) lt1 liv hd ht3))<|.cons (.m 4) .nil
 intro yw15 v8 hg h15
 simp only [fzw]
 have S15_5:Sl v8 (yw15 5 0).1 (t3):=h15 5
 clear h15
 replace g1:=g1.trans hg
 replace g13:=g13.trans hg
 replace g14:=g14.trans hg
 have g15:=hg
 clear hg
 go_upto_region 16 with fail
 refine wp_w [.c (.slice (yw15 5 0).1 (dl (t3)) (yw15 5 0).2),.c (.slice (yw15 5 0).1 (dl (t3)) (yw15 5 0).2),.c (pv (w.heap.size) 1),.c (.slice (qc 0).1 (dl (P)) (qc 0).2),.n (t4),.c (pv (w.heap.size+1) 0),.c (.slice p1 (dl (x1)) n1),.c (pv (w.heap.size) 1),.c (.slice (qc 0).1 (dl (P)) (qc 0).2),.n (t5),.c (pv (w.heap.size+1+1) 0),.c (.slice p2 (dl (x2)) n2),.c (pv (w.heap.size) 1),.c (.slice (qc 0).1 (dl (P)) (qc 0).2),.n (t6),.n (t6)] [3,4,6,8,9,11,13,14,15] ?hs39 ?hf39
 case hs39=>
  exact .cons (.o 27 1 (c1.gr g1) rfl rfl)<|.cons (.k (fun yy => #[.slice (yw15 5 0).1 (dl (t3)) (yw15 5 0).2,.slice (yw15 5 0).1 (dl (t3)) (yw15 5 0).2,.slice (qc 0).1 (dl (P)) (qc 0).2]) fun yy vv hg hh=>RtW.of_n (mm_any (S15_5.gr hg) (S15_5.gr hg) ((HQ 0).gr (g1.trans hg)) lt3 lt3 hd ht4))<|.cons (.o 27 0 (c2.gr g1) rfl rfl)<|.cons (.o 27 1 (c1.gr g1) rfl rfl)<|.cons (.k (fun yy => #[.slice (yy 4 0).1 (dl (t4)) (yy 4 0).2,.slice p1 (dl (x1)) n1,.slice (qc 0).1 (dl (P)) (qc 0).2]) fun yy vv hg hh=>RtW.of_n (sm_any (hh 4 rfl) (Sx1.gr (g1.trans hg)) ((HQ 0).gr (g1.trans hg)) lt4 lx1 hd ht5))<|.cons (.o 27 0 (c3.gr g1) rfl rfl)<|.cons (.o 27 1 (c1.gr g1) rfl rfl)<|.cons (.k (fun yy => #[.slice (yy 9 0).1 (dl (t5)) (yy 9 0).2,.slice p2 (dl (x2)) n2,.slice (qc 0).1 (dl (P)) (qc 0).2]) fun yy vv hg hh=>RtW.of_n (sm_any (hh 9 rfl) (Sx2.gr (g1.trans hg)) ((HQ 0).gr (g1.trans hg)) lt5 lx2 hd ht6))<|.cons (.m 14) .nil
 intro yw16 v9 hg h16
 simp only [fzw]
 have S16_15:Sl v9 (yw16 15 0).1 (t6):=h16 15
 clear h16
 replace g1:=g1.trans hg
 replace g13:=g13.trans hg
 replace g14:=g14.trans hg
 replace g15:=g15.trans hg
 have g16:=hg
 clear hg
 go_upto_region 17 with fail
 refine wp_w [.c (.slice (yw15 5 0).1 (dl (t3)) (yw15 5 0).2),.c (pv (w.heap.size+1) 0),.c (.slice p1 (dl (x1)) n1),.c (.slice (yw16 15 0).1 (dl (t6)) (yw16 15 0).2),.c (pv (w.heap.size) 1),.c (.slice (qc 0).1 (dl (P)) (qc 0).2),.n (t7),.c (pv (w.heap.size) 1),.c (.slice (qc 0).1 (dl (P)) (qc 0).2),.n (t8),.c (pv (w.heap.size+1) 1),.c (.slice q1 (dl (y1)) m1),.c (pv (w.heap.size) 1),.c (.slice (qc 0).1 (dl (P)) (qc 0).2),.n (t9),.n (t9)] [2,5,6,8,9,11,13,14,15] ?hs40 ?hf40
 case hs40=>
  exact .cons (.o 27 0 (c2.gr g1) rfl rfl)<|.cons (.o 27 1 (c1.gr g1) rfl rfl)<|.cons (.k (fun yy => #[.slice p1 (dl (x1)) n1,.slice (yw16 15 0).1 (dl (t6)) (yw16 15 0).2,.slice (qc 0).1 (dl (P)) (qc 0).2]) fun yy vv hg hh=>RtW.of_n (sm_any (Sx1.gr (g1.trans hg)) (S16_15.gr hg) ((HQ 0).gr (g1.trans hg)) lx1 lt6 hd ht7))<|.cons (.o 27 1 (c1.gr g1) rfl rfl)<|.cons (.k (fun yy => #[.slice (yw15 5 0).1 (dl (t3)) (yw15 5 0).2,.slice (yy 6 0).1 (dl (t7)) (yy 6 0).2,.slice (qc 0).1 (dl (P)) (qc 0).2]) fun yy vv hg hh=>RtW.of_n (mm_any (S15_5.gr (g16.trans hg)) (hh 6 rfl) ((HQ 0).gr (g1.trans hg)) lt3 lt7 hd ht8))<|.cons (.o 27 1 (c2.gr g1) rfl rfl)<|.cons (.o 27 1 (c1.gr g1) rfl rfl)<|.cons (.k (fun yy => #[.slice (yy 9 0).1 (dl (t8)) (yy 9 0).2,.slice q1 (dl (y1)) m1,.slice (qc 0).1 (dl (P)) (qc 0).2]) fun yy vv hg hh=>RtW.of_n (sm_any (hh 9 rfl) (Sy1.gr (g1.trans hg)) ((HQ 0).gr (g1.trans hg)) lt8 ly1 hd ht9))<|.cons (.m 14) .nil
 intro yw17 v10 hg h17
 simp only [fzw]
 have S17_15:Sl v10 (yw17 15 0).1 (t9):=h17 15
 clear h17
 replace g1:=g1.trans hg
 replace g13:=g13.trans hg
 replace g14:=g14.trans hg
 replace g15:=g15.trans hg
 replace g16:=g16.trans hg
 have g17:=hg
 clear hg
 go_upto_region 18 with fail
 refine wp_wTS 3 [.c (.slice (yw16 15 0).1 (dl (t6)) (yw16 15 0).2),.c (.slice (yw17 15 0).1 (dl (t9)) (yw17 15 0).2),.pt (t6) (t9) false] [2] ?hs41 ?hf41
 case hs41=>
  refine .cons (.p (fun yy i=>match i with | 0=>((yw16 15 0).1,(yw16 15 0).2) | _=>((yw17 15 0).1,(yw17 15 0).2)) fun yy vv hg hh=>⟨(S16_15.gr (g17.trans hg)),(S17_15.gr hg)⟩) .nil
 refine .s 46 (fun yy=>.pointer (some ⟨w.heap.size+1+1+1,0,none⟩)) (fun yy=>.agg (ptA (yy 2 0).1 (t6) (yy 2 0).2 (yy 2 1).1 (t9) (yy 2 1).2 false)) fun yw18 v11 hg h18=>?_
 have HT:=((c4.gr g1).gr hg).h
 have FT:=((c4.gr g1).gr hg).f
 refine ⟨setBlk v11 (w.heap.size+1+1+1) (ptA (yw18 2 0).1 (t6) (yw18 2 0).2 (yw18 2 1).1 (t9) (yw18 2 1).2 false),by simp [go_sem,exI,HT,FT],?_⟩
 simp only [fzw]
 obtain ⟨S18_2,T18_2⟩:Sl v11 (yw18 2 0).1 (t6)∧Sl v11 (yw18 2 1).1 (t9):=h18 2
 clear h18
 replace g1:=g1.trans hg
 replace g13:=g13.trans hg
 replace g14:=g14.trans hg
 replace g15:=g15.trans hg
 replace g16:=g16.trans hg
 replace g17:=g17.trans hg
 have g18:=hg
 clear hg
 replace G:=G.trans g1
 replace c1:=c1.gr g1
 replace c2:=c2.gr g1
 replace c3:=c3.gr g1
 replace c4:=c4.gr g1
 replace HQ:=fun k=>(HQ k).gr g1
 replace Sx1:=Sx1.gr g1
 replace Sy1:=Sy1.gr g1
 replace Sx2:=Sx2.gr g1
 replace Sy2:=Sy2.gr g1
 replace S12_7:=S12_7.gr g13
 replace S13_7:=S13_7.gr g14
 replace S14_7:=S14_7.gr g15
 replace S15_5:=S15_5.gr g16
 replace S16_15:=S16_15.gr g17
 replace S17_15:=S17_15.gr g18
 clear g1 g13 g14 g15 g16 g17 g18
 go_wp2_with fail
 exact bodyPost_ret (res_one Tryz.results33 (rd_pt _ _ _ _ _ _ _ (by rfl) (blk_setBlk _ _ _ (by rw [HT]; decide)))) rfl ⟨_,rfl,⟨_,_,_,_,rfl,Sl.set S18_2 (by rw [HT]; exact ptA_no _ _ _ _ _ _ _),Sl.set T18_2 (by rw [HT]; exact ptA_no _ _ _ _ _ _ _)⟩,gr_setNew G (by omega)⟩
end
end
section
def ex {p:Nat}:Option (Fin p×Fin p)→Nat
 | none=>0
 | some q=>q.1.val
def ey {p:Nat}:Option (Fin p×Fin p)→Nat
 | none=>0
 | some q=>q.2.val
def ef {p:Nat}:Option (Fin p×Fin p)→Bool
 | none=>true
 | some _=>false
theorem subM_val {p:Nat} (a b:Fin p):subM a.val b.val p=(a-b).val:=by
 have h:(a-b).val=(p-b.val+a.val)%p:=Fin.sub_def a b ▸ rfl
 rw [h]
 unfold subM
 have:=a.isLt
 have:=b.isLt
 split
 ·rw [show p-b.val+a.val=a.val-b.val+p by omega,Nat.add_mod_right,Nat.mod_eq_of_lt (by omega)]
 ·rw [Nat.mod_eq_of_lt (by omega)]; omega
theorem one_val {p:Nat} [NeZero p] (h:1<p):(1:Fin p).val=1:=by
 show 1%p=1
 exact Nat.mod_eq_of_lt h
theorem inv_val {p:Nat} [NeZero p] (h:1<p) {a b:Fin p} (e:b*a=1):a.val*b.val%p=1:=by
 rw [Nat.mul_comm,← Fin.val_mul,e,one_val h]
section
variable {P:Nat} [NeZero P] {i:Fin P→Fin P} {A B:Fin P}
theorem rplus_any (C:EC.Cur i A B) (hd:dl P≤400) (id:Int) (N X Y:Nat) (qc:Nat→Option Addr×Nat) (Q1 Q2:Option (Fin P×Fin P)) (p1 q1:Option Addr) (n1 m1:Nat) (p2 q2:Option Addr) (n2 m2:Nat) (w:World)
 (HQ:∀ k,Sl w (qc k).1 (six P A.val B.val N X Y k)) (Sx1:Sl w p1 (ex Q1)) (Sy1:Sl w q1 (ey Q1)) (Sx2:Sl w p2 (ex Q2)) (Sy2:Sl w q2 (ey Q2)):
 Calls Tryz.prog 33 #[.agg (crA id (six P A.val B.val N X Y) qc),.agg (ptA p1 (ex Q1) n1 q1 (ey Q1) m1 (ef Q1)),.agg (ptA p2 (ex Q2) n2 q2 (ey Q2) m2 (ef Q2))] w
  (Rt (.pt (ex (EC.pl i A Q1 Q2)) (ey (EC.pl i A Q1 Q2)) (ef (EC.pl i A Q1 Q2))) w):=by
 have h1P:1<P:=C.pr.1
 match Q1,Q2,Sx1,Sy1,Sx2,Sy2 with
 | none,Q2,Sx1,Sy1,Sx2,Sy2=>exact rplus_inf1 id P A.val B.val N X Y qc 0 0 (ex Q2) (ey Q2) (ef Q2) p1 q1 n1 m1 p2 q2 n2 m2 w HQ Sx1 Sy1 Sx2 Sy2
 | some (x1,y1),none,Sx1,Sy1,Sx2,Sy2=>exact rplus_inf2 id P A.val B.val N X Y qc x1.val y1.val 0 0 p1 q1 n1 m1 p2 q2 n2 m2 w HQ Sx1 Sy1 Sx2 Sy2
 | some (x1,y1),some (x2,y2),Sx1,Sy1,Sx2,Sy2=>
  by_cases hx:x1=x2
  ·subst hx
   by_cases hy:y1=y2
   ·subst hy
    by_cases h0:y1=0
    ·subst h0
     have e:EC.pl i A (some (x1,0)) (some (x1,0))=none:=by simp [EC.pl]
     rw [e]
     have ez:(0:Fin P).val=0:=Fin.val_zero P
     have:=rplus_flat id P A.val B.val N X Y qc x1.val hd x1.isLt p1 q1 n1 m1 p2 q2 n2 m2 w HQ Sx1 (by have:=Sy1; simp only [ey,ez] at this; exact this) Sx2 (by have:=Sy2; simp only [ey,ez] at this; exact this)
     simp only [ex,ey,ef,ez]
     exact this
    ·have hs:y1+y1≠0:=fun h=>h0 (C.dbl h)
     have e:EC.pl i A (some (x1,y1)) (some (x1,y1))=some (EC.sx ((x1*x1+(x1*x1+x1*x1)+A)*i (y1+y1)) x1 x1,EC.sy ((x1*x1+(x1*x1+x1*x1)+A)*i (y1+y1)) x1 y1 (EC.sx ((x1*x1+(x1*x1+x1*x1)+A)*i (y1+y1)) x1 x1)):=by simp [EC.pl,h0]
     rw [e]
     exact rplus_dbl id P A.val B.val N X Y qc x1.val y1.val hd x1.isLt y1.isLt A.isLt (fun h=>h0 (Fin.ext (h.trans (Fin.val_zero P).symm))) h1P p1 q1 n1 m1 p2 q2 n2 m2 (i (y1+y1)).val _ (Fin.val_mul x1 x1).symm _ (Fin.val_add _ _).symm _ (Fin.val_add _ _).symm _ (Fin.val_add _ _).symm _ (Fin.val_add y1 y1).symm
      _ (Fin.val_mul _ _).symm _ (Fin.val_mul _ _).symm _ (subM_val _ _) _ (subM_val _ _) _ (subM_val _ _) _ (Fin.val_mul _ _).symm _ (subM_val _ _) (i (y1+y1)).isLt (inv_val h1P (C.inv _ hs)) w HQ Sx1 Sy1 Sx2 Sy2
   ·have e:EC.pl i A (some (x1,y1)) (some (x1,y2))=none:=by simp [EC.pl,hy]
    rw [e]
    exact rplus_op id P A.val B.val N X Y qc x1.val y1.val y2.val hd x1.isLt y1.isLt y2.isLt (fun h=>hy (Fin.ext h)) p1 q1 n1 m1 p2 q2 n2 m2 w HQ Sx1 Sy1 Sx2 Sy2
  ·have hs:x2-x1≠0:=fun h=>hx (EC.sub_zero_of h).symm
   have e:EC.pl i A (some (x1,y1)) (some (x2,y2))=some (EC.sx ((y2-y1)*i (x2-x1)) x1 x2,EC.sy ((y2-y1)*i (x2-x1)) x1 y1 (EC.sx ((y2-y1)*i (x2-x1)) x1 x2)):=by simp [EC.pl,hx]
   rw [e]
   exact rplus_add id P A.val B.val N X Y qc x1.val y1.val x2.val y2.val hd x1.isLt y1.isLt x2.isLt y2.isLt (fun h=>hx (Fin.ext h)) h1P p1 q1 n1 m1 p2 q2 n2 m2 (i (x2-x1)).val _ (subM_val y2 y1) _ (subM_val x2 x1) _ (Fin.val_mul _ _).symm _ (Fin.val_mul _ _).symm _ (subM_val _ _) _ (subM_val _ _) _ (subM_val _ _) _ (Fin.val_mul _ _).symm _ (subM_val _ _)
    (i (x2-x1)).isLt (inv_val h1P (C.inv _ hs)) w HQ Sx1 Sy1 Sx2 Sy2
end
end
section
abbrev Q3:=Nat×Nat×Bool
def inf:Q3:=(0,0,true)
abbrev pnQ (Q:Q3):Array Value:=pnt Q.1 Q.2.1 Q.2.2
def OnQ (k:Nat) (Q:Q3):Prop:=onB k Q.1 Q.2.1 Q.2.2=true
def encQ {p:Nat} (Q:Option (Fin p×Fin p)):Q3:=(ex Q,ey Q,ef Q)
def decQ (p:Nat) [NeZero p] (Q:Q3):Option (Fin p×Fin p):=cond Q.2.2 none (some (Fin.ofNat p Q.1,Fin.ofNat p Q.2.1))
theorem dec_enc {p:Nat} [NeZero p] (Q:Option (Fin p×Fin p)):decQ p (encQ Q)=Q:=by
 cases Q with
 | none=>rfl
 | some q=>
  obtain ⟨x,y⟩:=q
  show some (Fin.ofNat p x.val,Fin.ofNat p y.val)=some (x,y)
  rw [show Fin.ofNat p x.val=x from Fin.ext (Nat.mod_eq_of_lt x.isLt),show Fin.ofNat p y.val=y from Fin.ext (Nat.mod_eq_of_lt y.isLt)]
theorem OnQ.cases {k:Nat} {Q:Q3} (h:OnQ k Q):Q=inf∨∃ x y,Q=(x,y,false)∧x<pN k∧y<pN k∧y*y%pN k=rhN k x:=by
 obtain ⟨x,y,f⟩:=Q
 cases f with
 | true=>
  simp only [OnQ,onB,if_true,Bool.and_eq_true,decide_eq_true_eq] at h
  exact .inl (by rw [h.1,h.2]; rfl)
 | false=>
  simp only [OnQ,onB,Bool.false_eq_true,if_false,Bool.and_eq_true,decide_eq_true_eq] at h
  exact .inr ⟨x,y,rfl,h⟩
theorem enc_dec {k:Nat} [NeZero (pN k)] {Q:Q3} (h:OnQ k Q):encQ (decQ (pN k) Q)=Q:=by
 rcases h.cases with rfl | ⟨x,y,rfl,hx,hy, -⟩
 ·rfl
 ·show (x%pN k,y%pN k,false)=(x,y,false)
  rw [Nat.mod_eq_of_lt hx,Nat.mod_eq_of_lt hy]
theorem dec3 {k:Nat} [NeZero (pN k)] {P:Q3} (h:OnQ k P):ex (decQ (pN k) P)=P.1∧ey (decQ (pN k) P)=P.2.1∧ef (decQ (pN k) P)=P.2.2:=by
 have e:=enc_dec h
 exact ⟨congrArg (·.1) e,congrArg (·.2.1) e,congrArg (·.2.2) e⟩
theorem OnQ.lt {k:Nat} {Q:Q3} (h:OnQ k Q):Q.1<M∧Q.2.1<M:=by
 have hp:=pN_M k
 rcases h.cases with rfl | ⟨x,y,rfl,hx,hy, -⟩
 ·exact ⟨M_pos,M_pos⟩
 ·exact ⟨Nat.lt_trans hx hp,Nat.lt_trans hy hp⟩
theorem inf_on (k:Nat):OnQ k inf:=rfl
section
variable {k:Nat} (h1:1≤k) (h2:k≤15) [NeZero (pN k)]
theorem on_iff (x y:Fin (pN k)):EC.OnC (EC.aF k h1 h2) (EC.bF k h1 h2) x y↔y.val*y.val%pN k=rhN k x.val:=by
 have e:x*x*x+EC.aF k h1 h2*x+EC.bF k h1 h2=(x*x+EC.aF k h1 h2)*x+EC.bF k h1 h2:=by grobner
 unfold EC.OnC
 rw [e]
 constructor
 ·intro h
  exact congrArg Fin.val h
 ·intro h
  exact Fin.ext h
theorem on_dec {Q:Q3} (h:OnQ k Q):EC.On (EC.aF k h1 h2) (EC.bF k h1 h2) (decQ (pN k) Q):=by
 rcases h.cases with rfl | ⟨x,y,rfl,hx,hy,e⟩
 ·trivial
 ·show EC.OnC _ _ (Fin.ofNat (pN k) x) (Fin.ofNat (pN k) y)
  rw [on_iff]
  show (y%pN k)*(y%pN k)%pN k=rhN k (x%pN k)
  rw [Nat.mod_eq_of_lt hx,Nat.mod_eq_of_lt hy,e]
theorem on_enc {R:Option (Fin (pN k)×Fin (pN k))} (h:EC.On (EC.aF k h1 h2) (EC.bF k h1 h2) R):OnQ k (encQ R):=by
 cases R with
 | none=>rfl
 | some q=>
  obtain ⟨x,y⟩:=q
  have h':=(on_iff h1 h2 x y).1 h
  show onB k x.val y.val false=true
  simp only [onB,Bool.false_eq_true,if_false,Bool.and_eq_true,decide_eq_true_eq]
  exact ⟨x.isLt,y.isLt,h'⟩
end
def plQ (k:Nat) (P Q:Q3):Q3:=if h:1≤k∧k≤15 then (haveI:=EC.nzP k h.1 h.2; encQ (EC.pl (EC.iP (pN k)) (EC.aF k h.1 h.2) (decQ (pN k) P) (decQ (pN k) Q))) else inf
def ngQ (k:Nat) (P:Q3):Q3:=if h:1≤k∧k≤15 then (haveI:=EC.nzP k h.1 h.2; encQ (EC.ng (decQ (pN k) P))) else inf
def mlQ (k n:Nat) (P:Q3):Q3:=if h:1≤k∧k≤15 then (haveI:=EC.nzP k h.1 h.2; encQ (EC.ml (EC.iP (pN k)) (EC.aF k h.1 h.2) n (decQ (pN k) P))) else inf
def gQ (k:Nat):Q3:=(xN k,yN k,false)
theorem plQ_is {k:Nat} (h1:1≤k) (h2:k≤15) [NeZero (pN k)] (P Q:Q3):plQ k P Q=encQ (EC.pl (EC.iP (pN k)) (EC.aF k h1 h2) (decQ (pN k) P) (decQ (pN k) Q)):=dif_pos ⟨h1,h2⟩
theorem ngQ_is {k:Nat} (h1:1≤k) (h2:k≤15) [NeZero (pN k)] (P:Q3):ngQ k P=encQ (EC.ng (decQ (pN k) P)):=dif_pos ⟨h1,h2⟩
theorem mlQ_is {k:Nat} (h1:1≤k) (h2:k≤15) [NeZero (pN k)] (n:Nat) (P:Q3):mlQ k n P=encQ (EC.ml (EC.iP (pN k)) (EC.aF k h1 h2) n (decQ (pN k) P)):=dif_pos ⟨h1,h2⟩
theorem gQ_on {k:Nat} (h1:1≤k) (h2:k≤15):OnQ k (gQ k):=gN_on k h1 h2
theorem plQ_on {k:Nat} (h1:1≤k) (h2:k≤15) {P Q:Q3} (hP:OnQ k P) (hQ:OnQ k Q):OnQ k (plQ k P Q):=by
 haveI:=EC.nzP k h1 h2
 rw [plQ_is h1 h2]
 exact on_enc h1 h2 (EC.pl_on (EC.curN k h1 h2) (on_dec h1 h2 hP) (on_dec h1 h2 hQ))
theorem ngQ_on {k:Nat} (h1:1≤k) (h2:k≤15) {P:Q3} (hP:OnQ k P):OnQ k (ngQ k P):=by
 haveI:=EC.nzP k h1 h2
 rw [ngQ_is h1 h2]
 exact on_enc h1 h2 (EC.ng_on (on_dec h1 h2 hP))
theorem mlQ_on {k:Nat} (h1:1≤k) (h2:k≤15) (n:Nat) {P:Q3} (hP:OnQ k P):OnQ k (mlQ k n P):=by
 haveI:=EC.nzP k h1 h2
 rw [mlQ_is h1 h2]
 exact on_enc h1 h2 (EC.ml_on (EC.curN k h1 h2) (on_dec h1 h2 hP) n)
theorem plQ_comm {k:Nat} (h1:1≤k) (h2:k≤15) {P Q:Q3} (hP:OnQ k P) (hQ:OnQ k Q):plQ k P Q=plQ k Q P:=by
 haveI:=EC.nzP k h1 h2
 rw [plQ_is h1 h2,plQ_is h1 h2,EC.pl_comm (EC.curN k h1 h2) (on_dec h1 h2 hP) (on_dec h1 h2 hQ)]
theorem plQ_assoc {k:Nat} (h1:1≤k) (h2:k≤15) {P Q R:Q3} (hP:OnQ k P) (hQ:OnQ k Q) (hR:OnQ k R):plQ k (plQ k P Q) R=plQ k P (plQ k Q R):=by
 haveI:=EC.nzP k h1 h2
 rw [plQ_is h1 h2 P Q,plQ_is h1 h2 Q R,plQ_is h1 h2,plQ_is h1 h2,dec_enc,dec_enc,EC.pl_assoc (EC.curN k h1 h2) (on_dec h1 h2 hP) (on_dec h1 h2 hQ) (on_dec h1 h2 hR)]
theorem plQ_inf {k:Nat} (h1:1≤k) (h2:k≤15) {P:Q3} (hP:OnQ k P):plQ k P inf=P:=by
 haveI:=EC.nzP k h1 h2
 rw [plQ_is h1 h2,show decQ (pN k) inf=none from rfl,EC.pl_none,enc_dec hP]
theorem inf_plQ {k:Nat} (h1:1≤k) (h2:k≤15) {P:Q3} (hP:OnQ k P):plQ k inf P=P:=by
 haveI:=EC.nzP k h1 h2
 rw [plQ_is h1 h2,show decQ (pN k) inf=none from rfl]
 exact enc_dec hP
theorem plQ_ng {k:Nat} (h1:1≤k) (h2:k≤15) (P:Q3):plQ k P (ngQ k P)=inf:=by
 haveI:=EC.nzP k h1 h2
 rw [ngQ_is h1 h2,plQ_is h1 h2,dec_enc,EC.pl_ng (EC.curN k h1 h2)]
 rfl
theorem mlQ_zero {k:Nat} (h1:1≤k) (h2:k≤15) (P:Q3):mlQ k 0 P=inf:=by
 haveI:=EC.nzP k h1 h2
 rw [mlQ_is h1 h2]; rfl
theorem mlQ_one {k:Nat} (h1:1≤k) (h2:k≤15) {P:Q3} (hP:OnQ k P):mlQ k 1 P=P:=by
 haveI:=EC.nzP k h1 h2
 rw [mlQ_is h1 h2,EC.ml_one,enc_dec hP]
theorem mlQ_add {k:Nat} (h1:1≤k) (h2:k≤15) (m n:Nat) {P:Q3} (hP:OnQ k P):mlQ k (m+n) P=plQ k (mlQ k m P) (mlQ k n P):=by
 haveI:=EC.nzP k h1 h2
 rw [mlQ_is h1 h2,mlQ_is h1 h2 m,mlQ_is h1 h2 n,plQ_is h1 h2,dec_enc,dec_enc,EC.ml_add (EC.curN k h1 h2) (on_dec h1 h2 hP)]
theorem dec_g {k:Nat} (h1:1≤k) (h2:k≤15) [NeZero (pN k)]:decQ (pN k) (gQ k)=some (EC.xF k h1 h2,EC.yF k h1 h2):=by
 show some (Fin.ofNat (pN k) (xN k),Fin.ofNat (pN k) (yN k))=_
 rw [show Fin.ofNat (pN k) (xN k)=EC.xF k h1 h2 from Fin.ext (Nat.mod_eq_of_lt (xN_lt k h1 h2)),show Fin.ofNat (pN k) (yN k)=EC.yF k h1 h2 from Fin.ext (Nat.mod_eq_of_lt (yN_lt k h1 h2).1)]
theorem mlQ_N {k:Nat} (h1:1≤k) (h2:k≤15):mlQ k (oN k) (gQ k)=inf:=by
 haveI:=EC.nzP k h1 h2
 rw [mlQ_is h1 h2,dec_g h1 h2,EC.ml_G k h1 h2]
 rfl
end
section
theorem fsubF {k:Nat} (h1:1≤k) (h2:k≤15) (a b:Fin (pN k)) (w:World):Cg 96 #[.int .i64 (k:Int),.agg (nw 9 a.val),.agg (nw 9 b.val)] w (.tuple #[.agg (nw 9 (a-b).val),.int .i64 0]):=by
 have h:=fSub_ok k a.val b.val h1 h2 a.isLt b.isLt w
 have hb:=b.isLt
 rw [show (a.val+pN k-b.val)%pN k=(a-b).val by rw [Fin.sub_def]; show _=(pN k-b.val+a.val)%pN k; rw [show a.val+pN k-b.val=pN k-b.val+a.val by omega]] at h
 exact h
theorem faddF {k:Nat} (h1:1≤k) (h2:k≤15) (a b:Fin (pN k)) (w:World):Cg 115 #[.int .i64 (k:Int),.agg (nw 9 a.val),.agg (nw 9 b.val)] w (.tuple #[.agg (nw 9 (a+b).val),.int .i64 0]):=by
 have h:=fAdd_ok k a.val b.val h1 h2 a.isLt b.isLt w
 rw [← Fin.val_add] at h
 exact h
theorem fmulF {k:Nat} (h1:1≤k) (h2:k≤15) (a b:Fin (pN k)) (w:World):Cg 114 #[.int .i64 (k:Int),.agg (nw 9 a.val),.agg (nw 9 b.val)] w (.tuple #[.agg (nw 9 (a*b).val),.int .i64 0]):=by
 have h:=fMul_ok k a.val b.val h1 h2 a.isLt b.isLt w
 rw [← Fin.val_mul] at h
 exact h
theorem finvF {k:Nat} (h1:1≤k) (h2:k≤15) [NeZero (pN k)] (b:Fin (pN k)) (hb:b≠0) (w:World):Cg 124 #[.int .i64 (k:Int),.agg (nw 9 b.val)] w (.tuple #[.agg (nw 9 (EC.iP (pN k) b).val),.int .i64 0]):=by
 have hp:=prm_pN k h1 h2
 have h0:0<b.val:=Nat.pos_of_ne_zero fun e=>hb (Fin.ext (e.trans (Fin.val_zero (pN k)).symm))
 have hg:Nat.gcd (pN k) b.val=1:=hp.cop fun d=>by
  have:=Nat.le_of_dvd h0 d
  have:=b.isLt
  omega
 obtain ⟨x,hx,hax,hc⟩:=fInv_ok k b.val h1 h2 h0 b.isLt hg
 have e:=inv_one b.val (pN k) x (EC.iP (pN k) b).val hx (EC.iP (pN k) b).isLt hax (inv_val hp.1 (EC.iP_is hp b hb))
 rw [e] at hc
 exact hc w
end
section
attribute [local go_sem ↓] uz1
attribute [local go_sem] uz2
section
attribute [local go_sem] uz8
attribute [local go_sem ↓] uz11 Go.wp_at_zero Go.wp_at_succ
attribute [local go_sem] uz12
theorem jprod_of (id:Int) (P A B N X Y:Nat) (s z:Int) (l:Bool) (n:Nat) (hn:n≤3) (f acc:Nat→Nat) (c:Array Value) (hrow:∀ i,i<n→c.extract (i*9) (i*9+9)=nw 9 (f i)) (hsz:n*9≤c.size)
 (HA':∀ i,i<n→∀ w,Cg 114 #[.int .i64 id,.agg (nw 9 (acc i)),.agg (nw 9 (f i))] w (.tuple #[.agg (nw 9 (acc (i+1))),.int .i64 0])) (b cap:Nat) (w:World) (hv:Vr w b c):
 Cg 122 #[.agg (cu id P A B N X Y s z l),.agg (nw 9 (acc 0)),.slice (some ⟨b,0,none⟩) n cap] w (.agg (nw 9 (acc n))):=by
 have HA:Hid _:=HA'
 have HN:Hid (Unit→n≤3):=fun _=>hn
 have HL:Hid (∀ j,j<n→∀ v,Gr w v→(loadS 25 (.pointer (some ⟨b,j*9,none⟩))).run Tryz.prog v=.ok (.agg (nw 9 (f j))) v):=fun j hj v g=>by
  have hb:=(hv.gr g).h
  rw [loadPart v b (j*9) (by rw [hb]; omega),hb,hrow j hj]
 clear hn HA' hrow hsz
 go_enter Tryz.func122,Tryz.ntmps122
 go_wp2_with fail
 refine gen_w (fun wr=>Hid (Gr w wr∧Vr wr (w.heap.size) (cu id P A B N X Y s z l)∧Vr wr (w.heap.size+1+1) (nw 9 0)∧Vr wr (w.heap.size+1+1+1) (nw 9 (acc 0)))) ⟨grA,vrA,vrA,vrA⟩ ?_
 intro v0 HV
 go_loopw [13] (fun ia wr=>∃ j:Nat,ia=.int .i64 (j:Int)∧Hid (Unit→j≤n)∧Hid (Gr w wr∧Vr wr (w.heap.size) (cu id P A B N X Y s z l)∧Vr wr (w.heap.size+1+1) (nw 9 0)∧Vr wr (w.heap.size+1+1+1) (nw 9 (acc j)))) (fun ia _=>((n:Int)-intOf ia).toNat)
 case atStart=>exact ⟨0,rfl,fun _=>Nat.zero_le _,HV⟩
 case round=>
  clear HV
  obtain ⟨j,rfl,HJ,HV⟩:=hrel
  obtain ⟨G,c0,c1,c2⟩:=HV.out
  have k0:wr.cell? ⟨w.heap.size,0,none⟩=some (.int .i64 id):=by rw [c0.cell]; exact cu_0 id P A B N X Y s z l
  have nea:¬ (w.heap.size+1+1+1=w.heap.size):=by omega
  have j0:(0:Int)≤(j:Int):=by omega
  have n4:(n:Int)≤3:=by have:=HN.out (); omega
  have ⟨h0,f0,p0⟩:=c0
  have ⟨h1,f1,p1⟩:=c1
  have ⟨h2,f2,p2⟩:=c2
  have ⟨p01,p02,p03,p04,p05,p06⟩:=c0.pp
  have ⟨p11,p12,p13,p14,p15,p16⟩:=c1.pp
  have ⟨p21,p22,p23,p24,p25,p26⟩:=c2.pp
  by_cases hlt:j<n
  ·have j1:(j:Int)<(n:Int):=by omega
   have ld0:=HL.out j hlt wr G
   have HA2:Hid (∀ w,Cg 114 #[.int .i64 id,.agg (nw 9 (acc j)),.agg (nw 9 (f j))] w (.tuple #[.agg (nw 9 (acc (j+1))),.int .i64 0])):=HA.out j hlt
   clear HV c0 c1 c2
   go_wp2_with (go_at_call 114; refine (HA2.out _).mono ?_; rintro e w' ⟨rfl,g,rfl⟩)
   go_roundw
   case rel=>
    refine ⟨j+1,by go_num,fun _=>hlt,?_,⟨by simp [go_sem, *],by simp [go_sem, *],by simp [go_sem, *]⟩,⟨by simp [go_sem, *],by simp [go_sem, *],by simp [go_sem, *]⟩,⟨by simp [go_sem, *],by simp [go_sem, *],by simp [go_sem, *]⟩⟩
    exact grB
   case measure=>simp [intOf]; omega
  ·have j1:¬ (j:Int)<(n:Int):=by omega
   have hj:j=n:=by have:=HJ.out (); omega
   clear HV c0 c1 c2 hlt
   go_wp2_with fail
   refine bodyPost_ret (res_one Tryz.results122 (rd_nat (x:=acc j) (by rfl) ?_)) rfl ⟨by rw [hj],?_⟩
   ·simp [go_sem, *]
   ·exact grB
theorem jsum_of (id:Int) (P A B N X Y:Nat) (s z:Int) (l:Bool) (n:Nat) (hn:n≤3) (f acc:Nat→Nat) (c:Array Value) (hrow:∀ i,i<n→c.extract (i*9) (i*9+9)=nw 9 (f i)) (hsz:n*9≤c.size)
 (HA':∀ i,i<n→∀ w,Cg 115 #[.int .i64 id,.agg (nw 9 (acc i)),.agg (nw 9 (f i))] w (.tuple #[.agg (nw 9 (acc (i+1))),.int .i64 0])) (b cap:Nat) (w:World) (hv:Vr w b c):
 Cg 121 #[.agg (cu id P A B N X Y s z l),.agg (nw 9 (acc 0)),.slice (some ⟨b,0,none⟩) n cap] w (.agg (nw 9 (acc n))):=by
 have HA:Hid _:=HA'
 have HN:Hid (Unit→n≤3):=fun _=>hn
 have HL:Hid (∀ j,j<n→∀ v,Gr w v→(loadS 25 (.pointer (some ⟨b,j*9,none⟩))).run Tryz.prog v=.ok (.agg (nw 9 (f j))) v):=fun j hj v g=>by
  have hb:=(hv.gr g).h
  rw [loadPart v b (j*9) (by rw [hb]; omega),hb,hrow j hj]
 clear hn HA' hrow hsz
 go_enter Tryz.func121,Tryz.ntmps121
 go_wp2_with fail
 refine gen_w (fun wr=>Hid (Gr w wr∧Vr wr (w.heap.size) (cu id P A B N X Y s z l)∧Vr wr (w.heap.size+1+1) (nw 9 0)∧Vr wr (w.heap.size+1+1+1) (nw 9 (acc 0)))) ⟨grA,vrA,vrA,vrA⟩ ?_
 intro v0 HV
 go_loopw [13] (fun ia wr=>∃ j:Nat,ia=.int .i64 (j:Int)∧Hid (Unit→j≤n)∧Hid (Gr w wr∧Vr wr (w.heap.size) (cu id P A B N X Y s z l)∧Vr wr (w.heap.size+1+1) (nw 9 0)∧Vr wr (w.heap.size+1+1+1) (nw 9 (acc j)))) (fun ia _=>((n:Int)-intOf ia).toNat)
 case atStart=>exact ⟨0,rfl,fun _=>Nat.zero_le _,HV⟩
 case round=>
  clear HV
  obtain ⟨j,rfl,HJ,HV⟩:=hrel
  obtain ⟨G,c0,c1,c2⟩:=HV.out
  have k0:wr.cell? ⟨w.heap.size,0,none⟩=some (.int .i64 id):=by rw [c0.cell]; exact cu_0 id P A B N X Y s z l
  have nea:¬ (w.heap.size+1+1+1=w.heap.size):=by omega
  have j0:(0:Int)≤(j:Int):=by omega
  have n4:(n:Int)≤3:=by have:=HN.out (); omega
  have ⟨h0,f0,p0⟩:=c0
  have ⟨h1,f1,p1⟩:=c1
  have ⟨h2,f2,p2⟩:=c2
  have ⟨p01,p02,p03,p04,p05,p06⟩:=c0.pp
  have ⟨p11,p12,p13,p14,p15,p16⟩:=c1.pp
  have ⟨p21,p22,p23,p24,p25,p26⟩:=c2.pp
  by_cases hlt:j<n
  ·have j1:(j:Int)<(n:Int):=by omega
   have ld0:=HL.out j hlt wr G
   have HA2:Hid (∀ w,Cg 115 #[.int .i64 id,.agg (nw 9 (acc j)),.agg (nw 9 (f j))] w (.tuple #[.agg (nw 9 (acc (j+1))),.int .i64 0])):=HA.out j hlt
   clear HV c0 c1 c2
   go_wp2_with (go_at_call 115; refine (HA2.out _).mono ?_; rintro e w' ⟨rfl,g,rfl⟩)
   go_roundw
   case rel=>
    refine ⟨j+1,by go_num,fun _=>hlt,?_,⟨by simp [go_sem, *],by simp [go_sem, *],by simp [go_sem, *]⟩,⟨by simp [go_sem, *],by simp [go_sem, *],by simp [go_sem, *]⟩,⟨by simp [go_sem, *],by simp [go_sem, *],by simp [go_sem, *]⟩⟩
    exact grB
   case measure=>simp [intOf]; omega
  ·have j1:¬ (j:Int)<(n:Int):=by omega
   have hj:j=n:=by have:=HJ.out (); omega
   clear HV c0 c1 c2 hlt
   go_wp2_with fail
   refine bodyPost_ret (res_one Tryz.results121 (rd_nat (x:=acc j) (by rfl) ?_)) rfl ⟨by rw [hj],?_⟩
   ·simp [go_sem, *]
   ·exact grB
theorem jdiff_of (id:Int) (P A B N X Y:Nat) (s z:Int) (l:Bool) (x y q:Nat)
 (H1':∀ w,Cg 96 #[.int .i64 id,.agg (nw 9 x),.agg (nw 9 y)] w (.tuple #[.agg (nw 9 q),.int .i64 0])) (w:World):
 Cg 123 #[.agg (cu id P A B N X Y s z l),.agg (nw 9 x),.agg (nw 9 y)] w (.agg (nw 9 q)):=by
 have H1:Hid _:=H1'
 clear H1'
 go_enter Tryz.func123,Tryz.ntmps123
 go_upto_region 1 with fail
 refine gen_w (fun v=>Hid (Gr w v∧Vr v (w.heap.size) (cu id P A B N X Y s z l)∧Vr v (w.heap.size+1) (nw 9 x)∧Vr v (w.heap.size+1+1) (nw 9 y)∧Vr v (w.heap.size+1+1+1) (nw 9 0))) ⟨grA,vrA,vrA,vrA,vrA⟩ ?_
 intro v0 HV
 obtain ⟨G,c0,c1,c2,c3⟩:=HV.out
 have k0:v0.cell? ⟨w.heap.size,0,none⟩=some (.int .i64 id):=by rw [c0.cell]; exact cu_0 id P A B N X Y s z l
 have hh0:=c0.al
 have hh1:=c1.al
 have hh2:=c2.al
 have hh3:=c3.al
 clear HV c0 c1 c2 c3
 go_wp2_with (first
  | (go_at_call_of 96 ((#[.int .i64 id,.agg (nw 9 x),.agg (nw 9 y)]:Array Value)); refine (H1.out _).mono ?_; rintro e w' ⟨rfl,g0,rfl⟩))
 refine bodyPost_ret (res_one Tryz.results123 (rd_nat (x:=q) (by rfl) ?_)) rfl ⟨rfl,?_⟩
 ·simp [go_sem, *]
 ·exact grB
theorem jbelow_yes (id:Int) (P A B N X Y:Nat) (s z:Int) (l:Bool) (hP:P<M) (n:Nat) (hn:n≤3) (f:Nat→Nat) (hF:∀ i,i<n→f i<M) (c:Array Value) (hrow:∀ i,i<n→c.extract (i*9) (i*9+9)=nw 9 (f i)) (hsz:n*9≤c.size) (hon:∀ i,i<n→f i<P) (b cap:Nat) (w:World) (hv:Vr w b c):
 Cg 140 #[.agg (cu id P A B N X Y s z l),.slice (some ⟨b,0,none⟩) n cap] w (.bool true):=by
 have HN:Hid (Unit→n≤3):=fun _=>hn
 have HP:Hid (Unit→P<M):=fun _=>hP
 have HB:Hid (∀ i,i<n→f i<M):=hF
 have HO:Hid (∀ i,i<n→f i<P):=hon
 have HL:Hid (∀ j,j<n→∀ v,Gr w v→(loadS 25 (.pointer (some ⟨b,j*9,none⟩))).run Tryz.prog v=.ok (.agg (nw 9 (f j))) v):=fun j hj v g=>by
  have hb:=(hv.gr g).h
  rw [loadPart v b (j*9) (by rw [hb]; omega),hb,hrow j hj]
 clear hn hP hF hrow hsz hon
 go_enter Tryz.func140,Tryz.ntmps140
 go_wp2_with fail
 refine gen_w (fun wr=>Hid (Gr w wr∧Vr wr (w.heap.size) (cu id P A B N X Y s z l))) ⟨grA,vrA⟩ ?_
 intro v0 HV
 go_loopw [9] (fun ia wr=>∃ j:Nat,ia=.int .i64 (j:Int)∧Hid (Unit→j≤n)∧Hid (Gr w wr∧Vr wr (w.heap.size) (cu id P A B N X Y s z l))) (fun ia _=>((n:Int)-intOf ia).toNat)
 case atStart=>exact ⟨0,rfl,fun _=>Nat.zero_le _,HV⟩
 case round=>
  clear HV
  obtain ⟨j,rfl,HJ,HV⟩:=hrel
  obtain ⟨G,c0⟩:=HV.out
  have j0:(0:Int)≤(j:Int):=by omega
  have n4:(n:Int)≤3:=by have:=HN.out (); omega
  have h0:=c0.al
  by_cases hlt:j<n
  ·have hjn:j<n:=by exact hlt
   have j1:(j:Int)<(n:Int):=by omega
   have ld0:=HL.out j hjn wr G
   have HO2:Hid (∀ w,Cg 113 #[.agg (nw 9 (f j)),.agg (nw 9 P)] w (.int .i64 (-1))):=fun w=>by
    have h:=cmp_any (f j) P (HB.out j hjn) (HP.out ()) w
    rw [show cmpZ (f j) P = -1 by have:=HO.out j hlt; unfold cmpZ; rw [if_pos this]] at h
    exact h
   clear HV c0 hjn
   go_wp2_with (go_at_call 113; refine (HO2.out _).mono ?_; rintro e w' ⟨rfl,g,rfl⟩)
   go_roundw
   case rel=>
    refine ⟨j+1,by go_num,fun _=>hlt,?_,⟨by simp [go_sem, *],by simp [go_sem, *],by simp [go_sem, *]⟩⟩
    exact grB
   case measure=>simp [intOf]; omega
  ·skip
   have j1:¬ (j:Int)<(n:Int):=by omega
   clear HV c0 hlt
   go_wp2_with fail
   go_ret
   exact ⟨rfl,G⟩
end
section
attribute [local go_sem] uz8
attribute [local go_sem ↓] uz11 Go.wp_at_zero Go.wp_at_succ
attribute [local go_sem] uz12
def accM {p:Nat} (x:Fin p) (F:Nat→Fin p):Nat→Fin p
 | 0=>x
 | n+1=>accM x F n*F n
def accA {p:Nat} (x:Fin p) (F:Nat→Fin p):Nat→Fin p
 | 0=>x
 | n+1=>accA x F n+F n
theorem jpF {k:Nat} (h1:1≤k) (h2:k≤15) {P A B N X Y:Nat} {s z:Int} {l:Bool} (x:Fin (pN k)) (F:Nat→Fin (pN k)) (n:Nat) (hn:n≤3) (c:Array Value) (hrow:∀ i,i<n→c.extract (i*9) (i*9+9)=nw 9 (F i).val) (hsz:n*9≤c.size) {w:World} {q:Nat} (hv:Vr w q c):
 Cg 122 #[.agg (cu (k:Int) P A B N X Y s z l),.agg (nw 9 x.val),.slice (some ⟨q,0,none⟩) n n] w (.agg (nw 9 (accM x F n).val)):=
 jprod_of (k:Int) P A B N X Y s z l n hn (fun i=>(F i).val) (fun i=>(accM x F i).val) c hrow hsz (fun i _ w=>fmulF h1 h2 (accM x F i) (F i) w) q n w hv
theorem jp1 {k:Nat} (h1:1≤k) (h2:k≤15) {P A B N X Y:Nat} {s z:Int} {l:Bool} {a b r:Fin (pN k)} (e:a*b=r) {w:World} {q:Nat} (hv:Vr w q (nw 9 b.val)):
 Cg 122 #[.agg (cu (k:Int) P A B N X Y s z l),.agg (nw 9 a.val),.slice (some ⟨q,0,none⟩) 1 1] w (.agg (nw 9 r.val)):=by
 subst e
 exact jpF h1 h2 a (fun _=>b) 1 (by decide) _ (fun i hi=>by
  obtain rfl:i=0:=by omega
  ·kernel_rfl) (by simp [nw_size]) hv
theorem jp2 {k:Nat} (h1:1≤k) (h2:k≤15) {P A B N X Y:Nat} {s z:Int} {l:Bool} {a b c r:Fin (pN k)} (e:a*b*c=r) {w:World} {q:Nat} (hv:Vr w q (nw 9 b.val++nw 9 c.val)):
 Cg 122 #[.agg (cu (k:Int) P A B N X Y s z l),.agg (nw 9 a.val),.slice (some ⟨q,0,none⟩) 2 2] w (.agg (nw 9 r.val)):=by
 subst e
 exact jpF h1 h2 a (fun i=>match i with | 0=>b | _=>c) 2 (by decide) _ (fun i hi=>by
  obtain rfl | rfl:i=0∨i=1:=by omega
  ·kernel_rfl
  ·kernel_rfl) (by simp [nw_size]) hv
theorem jp3 {k:Nat} (h1:1≤k) (h2:k≤15) {P A B N X Y:Nat} {s z:Int} {l:Bool} {a b c d r:Fin (pN k)} (e:a*b*c*d=r) {w:World} {q:Nat} (hv:Vr w q (nw 9 b.val++nw 9 c.val++nw 9 d.val)):
 Cg 122 #[.agg (cu (k:Int) P A B N X Y s z l),.agg (nw 9 a.val),.slice (some ⟨q,0,none⟩) 3 3] w (.agg (nw 9 r.val)):=by
 subst e
 exact jpF h1 h2 a (fun i=>match i with | 0=>b | 1=>c | _=>d) 3 (by decide) _ (fun i hi=>by
  obtain rfl | rfl | rfl:i=0∨i=1∨i=2:=by omega
  ·kernel_rfl
  ·kernel_rfl
  ·kernel_rfl) (by simp [nw_size]) hv
theorem jsF {k:Nat} (h1:1≤k) (h2:k≤15) {P A B N X Y:Nat} {s z:Int} {l:Bool} (x:Fin (pN k)) (F:Nat→Fin (pN k)) (n:Nat) (hn:n≤3) (c:Array Value) (hrow:∀ i,i<n→c.extract (i*9) (i*9+9)=nw 9 (F i).val) (hsz:n*9≤c.size) {w:World} {q:Nat} (hv:Vr w q c):
 Cg 121 #[.agg (cu (k:Int) P A B N X Y s z l),.agg (nw 9 x.val),.slice (some ⟨q,0,none⟩) n n] w (.agg (nw 9 (accA x F n).val)):=
 jsum_of (k:Int) P A B N X Y s z l n hn (fun i=>(F i).val) (fun i=>(accA x F i).val) c hrow hsz (fun i _ w=>faddF h1 h2 (accA x F i) (F i) w) q n w hv
theorem js1 {k:Nat} (h1:1≤k) (h2:k≤15) {P A B N X Y:Nat} {s z:Int} {l:Bool} {a b r:Fin (pN k)} (e:a+b=r) {w:World} {q:Nat} (hv:Vr w q (nw 9 b.val)):
 Cg 121 #[.agg (cu (k:Int) P A B N X Y s z l),.agg (nw 9 a.val),.slice (some ⟨q,0,none⟩) 1 1] w (.agg (nw 9 r.val)):=by
 subst e
 exact jsF h1 h2 a (fun _=>b) 1 (by decide) _ (fun i hi=>by
  obtain rfl:i=0:=by omega
  ·kernel_rfl) (by simp [nw_size]) hv
theorem js2 {k:Nat} (h1:1≤k) (h2:k≤15) {P A B N X Y:Nat} {s z:Int} {l:Bool} {a b c r:Fin (pN k)} (e:a+b+c=r) {w:World} {q:Nat} (hv:Vr w q (nw 9 b.val++nw 9 c.val)):
 Cg 121 #[.agg (cu (k:Int) P A B N X Y s z l),.agg (nw 9 a.val),.slice (some ⟨q,0,none⟩) 2 2] w (.agg (nw 9 r.val)):=by
 subst e
 exact jsF h1 h2 a (fun i=>match i with | 0=>b | _=>c) 2 (by decide) _ (fun i hi=>by
  obtain rfl | rfl:i=0∨i=1:=by omega
  ·kernel_rfl
  ·kernel_rfl) (by simp [nw_size]) hv
theorem js3 {k:Nat} (h1:1≤k) (h2:k≤15) {P A B N X Y:Nat} {s z:Int} {l:Bool} {a b c d r:Fin (pN k)} (e:a+b+c+d=r) {w:World} {q:Nat} (hv:Vr w q (nw 9 b.val++nw 9 c.val++nw 9 d.val)):
 Cg 121 #[.agg (cu (k:Int) P A B N X Y s z l),.agg (nw 9 a.val),.slice (some ⟨q,0,none⟩) 3 3] w (.agg (nw 9 r.val)):=by
 subst e
 exact jsF h1 h2 a (fun i=>match i with | 0=>b | 1=>c | _=>d) 3 (by decide) _ (fun i hi=>by
  obtain rfl | rfl | rfl:i=0∨i=1∨i=2:=by omega
  ·kernel_rfl
  ·kernel_rfl
  ·kernel_rfl) (by simp [nw_size]) hv
theorem jd {k:Nat} (h1:1≤k) (h2:k≤15) {P A B N X Y:Nat} {s z:Int} {l:Bool} {a b r:Fin (pN k)} (e:a-b=r) (w:World):
 Cg 123 #[.agg (cu (k:Int) P A B N X Y s z l),.agg (nw 9 a.val),.agg (nw 9 b.val)] w (.agg (nw 9 r.val)):=by
 subst e
 exact jdiff_of (k:Int) P A B N X Y s z l _ _ _ (fsubF h1 h2 a b) w
theorem jleft {k:Nat} (h1:1≤k) (h2:k≤15) {N X Y:Nat} {s z:Int} {l:Bool} {A B:Fin (pN k)} {X1 Y1 Z1:Fin (pN k)} {r:Fin (pN k)} (er:Y1*Y1*Z1=r) (w:World):
 Cg 141 #[.agg (cu (k:Int) (pN k) A.val B.val N X Y s z l),.agg (prj X1.val Y1.val Z1.val)] w (.agg (nw 9 r.val)):=by
 have Jp2:=@jp2 k h1 h2 (pN k) A.val B.val N X Y s z l
 go_enter Tryz.func141,Tryz.ntmps141
 go_upto_region 1 with fail
 refine gen_w (fun v=>Hid (Gr w v∧Vr v (w.heap.size) (cu (k:Int) (pN k) A.val B.val N X Y s z l)∧Vr v (w.heap.size+1) (prj X1.val Y1.val Z1.val)∧Vr v (w.heap.size+1+1) (nw 9 0))) ⟨grA,vrA,vrA,vrA⟩ ?_
 intro v0 HV
 obtain ⟨G,c0,c1,c2⟩:=HV.out
 clear HV
 refine wp_wTS 9 [.c (.agg (cu (k:Int) (pN k) A.val B.val N X Y s z l)),.c (pv (w.heap.size+1) 9),.N Y1.val,.c (pv (w.heap.size+1) 9),.N Y1.val,.c (pv (w.heap.size+1) 18),.N Z1.val,.r 2 (nw 9 Y1.val++nw 9 Z1.val),.N r.val] [0,2,4,6,7,8] ?hs1 ?hf1
 case hs1=>
  exact .cons (.g 144 0 c0 rfl)<|.cons (.g 25 9 c1 rfl)<|.cons (.g 25 9 c1 rfl)<|.cons (.g 25 18 c1 rfl)<|.cons (.r (.buildSlice 183 2 #[(0,.const (.agg (nw 9 Y1.val))),(1,.const (.agg (nw 9 Z1.val)))]) rfl (rowN2 _ _))<|.cons (.k _ fun yy vv hg hh=>RtW.of_c (Rt.c (Jp2 er (hh 7 rfl)))) .nil
 refine .s 25 (fun yy=>.pointer (some ⟨w.heap.size+1+1,0,none⟩)) (fun yy=>.agg (nw 9 r.val)) fun yw1 v1 hg h1=>?_
 have HT:=(c2.gr hg).h
 have FT:=(c2.gr hg).f
 refine ⟨setBlk v1 (w.heap.size+1+1) (nw 9 r.val),by simp [go_sem,exI,HT,FT],?_⟩
 simp only [fzw,Kw.r]
 clear h1
 replace G:=G.trans hg
 replace c0:=c0.gr hg
 replace c1:=c1.gr hg
 replace c2:=c2.gr hg
 clear hg
 go_wp2_with fail
 exact bodyPost_ret (res_one Tryz.results141 (rd_nat (x:=r.val) (by rfl) (blk_setBlk _ _ _ (by rw [HT]; decide +kernel)))) rfl ⟨rfl,gr_setNew G (by omega)⟩
theorem jright {k:Nat} (h1:1≤k) (h2:k≤15) {N X Y:Nat} {s z:Int} {l:Bool} {A B:Fin (pN k)} {X1 Y1 Z1:Fin (pN k)} {q1 q2 q3 r:Fin (pN k)} (eq1:X1*X1*X1=q1) (eq2:A*X1*Z1*Z1=q2) (eq3:B*Z1*Z1*Z1=q3) (er:q1+q2+q3=r) (w:World):
 Cg 142 #[.agg (cu (k:Int) (pN k) A.val B.val N X Y s z l),.agg (prj X1.val Y1.val Z1.val)] w (.agg (nw 9 r.val)):=by
 have Jp2:=@jp2 k h1 h2 (pN k) A.val B.val N X Y s z l
 have Jp3:=@jp3 k h1 h2 (pN k) A.val B.val N X Y s z l
 have Js2:=@js2 k h1 h2 (pN k) A.val B.val N X Y s z l
 go_enter Tryz.func142,Tryz.ntmps142
 go_upto_region 1 with fail
 refine gen_w (fun v=>Hid (Gr w v∧Vr v (w.heap.size) (cu (k:Int) (pN k) A.val B.val N X Y s z l)∧Vr v (w.heap.size+1) (prj X1.val Y1.val Z1.val)∧Vr v (w.heap.size+1+1) (nw 9 0))) ⟨grA,vrA,vrA,vrA⟩ ?_
 intro v0 HV
 obtain ⟨G,c0,c1,c2⟩:=HV.out
 clear HV
 refine wp_wT 36 [.c (.agg (cu (k:Int) (pN k) A.val B.val N X Y s z l)),.c (.agg (cu (k:Int) (pN k) A.val B.val N X Y s z l)),.c (pv (w.heap.size+1) 0),.N X1.val,.c (pv (w.heap.size+1) 0),.N X1.val,.c (pv (w.heap.size+1) 0),.N X1.val,.r 2 (nw 9 X1.val++nw 9 X1.val),.N q1.val,.c (.agg (cu (k:Int) (pN k) A.val B.val N X Y s z l)),.c (pv (w.heap.size) 0),.c (pv (w.heap.size) 10),.N A.val,.c (pv (w.heap.size+1) 0),.N X1.val,.c (pv (w.heap.size+1) 18),.N Z1.val,.c (pv (w.heap.size+1) 18),.N Z1.val,.r 3 (nw 9 X1.val++nw 9 Z1.val++nw 9 Z1.val),.N q2.val,.c (.agg (cu (k:Int) (pN k) A.val B.val N X Y s z l)),.c (pv (w.heap.size) 0),.c (pv (w.heap.size) 19),.N B.val,.c (pv (w.heap.size+1) 18),.N Z1.val,.c (pv (w.heap.size+1) 18),.N Z1.val,.c (pv (w.heap.size+1) 18),.N Z1.val,.r 3 (nw 9 Z1.val++nw 9 Z1.val++nw 9 Z1.val),.N q3.val,.r 2 (nw 9 q2.val++nw 9 q3.val),.N r.val] [0,1,3,5,7,8,9,10,13,15,17,19,20,21,22,25,27,29,31,32,33,34,35] ?hs2 ?hf2
 case hs2=>
  exact .cons (.g 144 0 c0 rfl)<|.cons (.g 144 0 c0 rfl)<|.cons (.g 25 0 c1 rfl)<|.cons (.g 25 0 c1 rfl)<|.cons (.g 25 0 c1 rfl)<|.cons (.r (.buildSlice 183 2 #[(0,.const (.agg (nw 9 X1.val))),(1,.const (.agg (nw 9 X1.val)))]) rfl (rowN2 _ _))<|.cons (.k _ fun yy vv hg hh=>RtW.of_c (Rt.c (Jp2 eq1 (hh 8 rfl))))<|.cons (.g 144 0 c0 rfl)<|.cons (.g 25 10 c0 rfl)<|.cons (.g 25 0 c1 rfl)<|.cons (.g 25 18 c1 rfl)<|.cons (.g 25 18 c1 rfl)<|.cons (.r (.buildSlice 183 3 #[(0,.const (.agg (nw 9 X1.val))),(1,.const (.agg (nw 9 Z1.val))),(2,.const (.agg (nw 9 Z1.val)))]) rfl (rowN3 _ _ _))<|.cons (.k _ fun yy vv hg hh=>RtW.of_c (Rt.c (Jp3 eq2 (hh 20 rfl))))<|.cons (.g 144 0 c0 rfl)<|.cons (.g 25 19 c0 rfl)<|.cons (.g 25 18 c1 rfl)<|.cons (.g 25 18 c1 rfl)<|.cons (.g 25 18 c1 rfl)<|.cons (.r (.buildSlice 183 3 #[(0,.const (.agg (nw 9 Z1.val))),(1,.const (.agg (nw 9 Z1.val))),(2,.const (.agg (nw 9 Z1.val)))]) rfl (rowN3 _ _ _))<|.cons (.k _ fun yy vv hg hh=>RtW.of_c (Rt.c (Jp3 eq3 (hh 32 rfl))))<|.cons (.r (.buildSlice 183 2 #[(0,.const (.agg (nw 9 q2.val))),(1,.const (.agg (nw 9 q3.val)))]) rfl (rowN2 _ _))<|.cons (.k _ fun yy vv hg hh=>RtW.of_c (Rt.c (Js2 er (hh 34 rfl)))) .nil
 refine .s 25 (fun yy=>.pointer (some ⟨w.heap.size+1+1,0,none⟩)) (fun yy=>.agg (nw 9 r.val)) fun yw1 v1 hg h1=>?_
 have HT:=(c2.gr hg).h
 have FT:=(c2.gr hg).f
 refine ⟨setBlk v1 (w.heap.size+1+1) (nw 9 r.val),by simp [go_sem,exI,HT,FT],?_⟩
 simp only [fzw,Kw.r]
 clear h1
 replace G:=G.trans hg
 replace c0:=c0.gr hg
 replace c1:=c1.gr hg
 replace c2:=c2.gr hg
 clear hg
 go_wp2_with fail
 exact bodyPost_ret (res_one Tryz.results142 (rd_nat (x:=r.val) (by rfl) (blk_setBlk _ _ _ (by rw [HT]; decide +kernel)))) rfl ⟨rfl,gr_setNew G (by omega)⟩
theorem jpt_inf {k:Nat} {N X Y:Nat} {s z:Int} {l:Bool} {A B:Fin (pN k)} (x y:Nat) (w:World):
 Cg 85 #[.agg (cu (k:Int) (pN k) A.val B.val N X Y s z l),.agg (prj x y 0)] w (.agg (pnt 0 0 true)):=by
 go_enter Tryz.func85,Tryz.ntmps85
 go_upto_region 1 with fail
 refine gen_w (fun v=>Hid (Gr w v∧Vr v (w.heap.size) (cu (k:Int) (pN k) A.val B.val N X Y s z l)∧Vr v (w.heap.size+1) (prj x y 0)∧Vr v (w.heap.size+1+1) (pnt 0 0 false))) ⟨grA,vrA,vrA,vrA⟩ ?_
 intro v0 HV
 obtain ⟨G,c0,c1,c2⟩:=HV.out
 clear HV
 refine wp_wS [.c (pv (w.heap.size+1) 18),.N 0,.N 0,.T] [1,3] ?hs9 ?hf9
 case hs9=>
  exact .cons (.g 25 18 c1 rfl)<|.cons (.s (.binOp .eql 25 (.const (.agg (nw 9 0))) (.const (.agg (nw 9 0))) 25) rfl fun vv hg=>by simp [go_sem,exI,eqNat,eqN_self]) .nil
 intro yw1 v1 hg h1
 simp only [fzw]
 clear h1
 replace G:=G.trans hg
 replace c0:=c0.gr hg
 replace c1:=c1.gr hg
 replace c2:=c2.gr hg
 clear hg
 go_upto_region 2 with fail
 refine wp_wTS 1 [.c (.agg (pnt 0 0 true))] [] ?hs10 ?hf10
 case hs10=>exact .nil
 refine .s 35 (fun yy=>.pointer (some ⟨w.heap.size+1+1,0,none⟩)) (fun yy=>.agg (pnt 0 0 true)) fun yw2 v2 hg h2=>?_
 have HT:=(c2.gr hg).h
 have FT:=(c2.gr hg).f
 refine ⟨setBlk v2 (w.heap.size+1+1) (pnt 0 0 true),by simp [go_sem,exI,HT,FT],?_⟩
 simp only [fzw]
 clear h2
 replace G:=G.trans hg
 replace c0:=c0.gr hg
 replace c1:=c1.gr hg
 replace c2:=c2.gr hg
 clear hg
 go_wp2_with fail
 exact bodyPost_ret (res_one Tryz.results85 (rd_pn (by rfl) (blk_setBlk _ _ _ (by rw [HT]; decide +kernel)))) rfl ⟨rfl,gr_setNew G (by omega)⟩
theorem jpt_fin {k:Nat} (h1:1≤k) (h2:k≤15) {N X Y:Nat} {s z:Int} {l:Bool} {A B:Fin (pN k)} {X1 Y1 Z1 i1:Fin (pN k)} (hz:eqN 9 Z1.val 0=false) (HI':∀ w,Cg 124 #[.int .i64 (k:Int),.agg (nw 9 Z1.val)] w (.tuple #[.agg (nw 9 i1.val),.int .i64 0])) {p1 p2:Fin (pN k)} (ep1:X1*i1=p1) (ep2:Y1*i1=p2) (w:World):
 Cg 85 #[.agg (cu (k:Int) (pN k) A.val B.val N X Y s z l),.agg (prj X1.val Y1.val Z1.val)] w (.agg (pnt p1.val p2.val false)):=by
 have HI:Hid _:=HI'
 clear HI'
 have Jp1:=@jp1 k h1 h2 (pN k) A.val B.val N X Y s z l
 go_enter Tryz.func85,Tryz.ntmps85
 go_upto_region 1 with fail
 refine gen_w (fun v=>Hid (Gr w v∧Vr v (w.heap.size) (cu (k:Int) (pN k) A.val B.val N X Y s z l)∧Vr v (w.heap.size+1) (prj X1.val Y1.val Z1.val)∧Vr v (w.heap.size+1+1) (pnt 0 0 false))) ⟨grA,vrA,vrA,vrA⟩ ?_
 intro v0 HV
 obtain ⟨G,c0,c1,c2⟩:=HV.out
 clear HV
 refine wp_wS [.c (pv (w.heap.size+1) 18),.N Z1.val,.N 0,.F] [1,3] ?hs11 ?hf11
 case hs11=>
  exact .cons (.g 25 18 c1 rfl)<|.cons (.s (.binOp .eql 25 (.const (.agg (nw 9 Z1.val))) (.const (.agg (nw 9 0))) 25) rfl fun vv hg=>by simp [go_sem,exI,eqNat,hz]) .nil
 intro yw1 v1 hg h1
 simp only [fzw]
 clear h1
 replace G:=G.trans hg
 replace c0:=c0.gr hg
 replace c1:=c1.gr hg
 replace c2:=c2.gr hg
 clear hg
 go_upto_region 3 with fail
 refine wp_v false [.c (pv (w.heap.size) 0),.c (pv (w.heap.size) 0),.c (.int .i64 (k:Int)),.c (pv (w.heap.size+1) 18),.N Z1.val,.c (.tuple #[.agg (nw 9 i1.val),.int .i64 0]),.c (.tuple #[.agg (nw 9 i1.val),.int .i64 0]),.N i1.val,.O,.a,.u,.O] [2,4,5] [⟨9,10,25,nw 9 0,fun _=>nw 9 i1.val⟩] ?hs12 ?hv12 ?hf12
 case hs12=>
  exact .cons (.o 3 0 c0 rfl (by exact cu_0 _ _ _ _ _ _ _ _ _ _))<|.cons (.g 25 18 c1 rfl)<|.cons (.k _ fun yy vv hg hh=>RtW.of_c (Rt.c (HI.out _))) .nil
 case hv12=>
  refine .cons (.mk (fun _ _ _=>rfl) (fun _ v b H F=>by dsimp only at H ⊢; simp [go_sem,exI,H,F]) zNat ⟨fkc,fkc,fkc,fkc,fkc,fkc,fkc,fkc,fkc,fka,fku,fkc,trivial⟩) .nil
 intro yw3 v2 hg h3 hV3
 simp only [fzw,Kw.a]
 obtain ⟨⟨N3_9,V3_9⟩, -⟩:(v1.heap.size≤(yw3 9 0).2∧Vr v2 (yw3 9 0).2 (nw 9 i1.val))∧True:=hV3
 clear h3
 replace G:=G.trans hg
 replace c0:=c0.gr hg
 replace c1:=c1.gr hg
 replace c2:=c2.gr hg
 clear hg
 go_upto_region 4 with fail
 refine wp_wT 13 [.c (.agg (cu (k:Int) (pN k) A.val B.val N X Y s z l)),.c (pv (w.heap.size+1) 0),.N X1.val,.N i1.val,.r 1 (nw 9 i1.val),.N p1.val,.c (.agg (cu (k:Int) (pN k) A.val B.val N X Y s z l)),.c (pv (w.heap.size+1) 9),.N Y1.val,.N i1.val,.r 1 (nw 9 i1.val),.N p2.val,.c (.agg (pnt p1.val p2.val false))] [0,2,3,4,5,6,8,9,10,11] ?hs13 ?hf13
 case hs13=>
  exact .cons (.g 144 0 c0 rfl)<|.cons (.g 25 0 c1 rfl)<|.cons (.g 25 0 V3_9 rfl)<|.cons (.r (.buildSlice 183 1 #[(0,.const (.agg (nw 9 i1.val)))]) rfl (rowN1 _))<|.cons (.k _ fun yy vv hg hh=>RtW.of_c (Rt.c (Jp1 ep1 (hh 4 rfl))))<|.cons (.g 144 0 c0 rfl)<|.cons (.g 25 9 c1 rfl)<|.cons (.g 25 0 V3_9 rfl)<|.cons (.r (.buildSlice 183 1 #[(0,.const (.agg (nw 9 i1.val)))]) rfl (rowN1 _))<|.cons (.k _ fun yy vv hg hh=>RtW.of_c (Rt.c (Jp1 ep2 (hh 10 rfl)))) .nil
 refine .s 35 (fun yy=>.pointer (some ⟨w.heap.size+1+1,0,none⟩)) (fun yy=>.agg (pnt p1.val p2.val false)) fun yw4 v3 hg h4=>?_
 have HT:=(c2.gr hg).h
 have FT:=(c2.gr hg).f
 refine ⟨setBlk v3 (w.heap.size+1+1) (pnt p1.val p2.val false),by simp [go_sem,exI,HT,FT],?_⟩
 simp only [fzw,Kw.r]
 clear h4
 replace G:=G.trans hg
 replace c0:=c0.gr hg
 replace c1:=c1.gr hg
 replace c2:=c2.gr hg
 replace V3_9:=V3_9.gr hg
 clear hg
 go_wp2_with fail
 exact bodyPost_ret (res_one Tryz.results85 (rd_pn (by rfl) (blk_setBlk _ _ _ (by rw [HT]; decide +kernel)))) rfl ⟨rfl,gr_setNew G (by omega)⟩
theorem jholds_2 {k:Nat} {N X Y:Nat} {s z:Int} {l:Bool} {A B:Fin (pN k)} {X1 Y1 Z1:Fin (pN k)} (L R:Nat) (r:Bool) (hne:(eqN 9 X1.val 0&&(eqN 9 Y1.val 0&&eqN 9 Z1.val 0))=false) (HB':∀ w q,Vr w q (nw 9 X1.val++nw 9 Y1.val++nw 9 Z1.val)→Cg 140 #[.agg (cu (k:Int) (pN k) A.val B.val N X Y s z l),.slice (some ⟨q,0,none⟩) 3 3] w (.bool true)) (HL':∀ w,Cg 141 #[.agg (cu (k:Int) (pN k) A.val B.val N X Y s z l),.agg (prj X1.val Y1.val Z1.val)] w (.agg (nw 9 L))) (HR':∀ w,Cg 142 #[.agg (cu (k:Int) (pN k) A.val B.val N X Y s z l),.agg (prj X1.val Y1.val Z1.val)] w (.agg (nw 9 R))) (hr:eqN 9 L R=r) (w:World):
 Cg 120 #[.agg (cu (k:Int) (pN k) A.val B.val N X Y s z l),.agg (prj X1.val Y1.val Z1.val)] w (.bool r):=by
 have HB:Hid _:=HB'
 clear HB'
 have HL:Hid _:=HL'
 have HR:Hid _:=HR'
 clear HL' HR'
 go_enter Tryz.func120,Tryz.ntmps120
 go_upto_region 1 with fail
 refine gen_w (fun v=>Hid (Gr w v∧Vr v (w.heap.size) (cu (k:Int) (pN k) A.val B.val N X Y s z l)∧Vr v (w.heap.size+1) (prj X1.val Y1.val Z1.val))) ⟨grA,vrA,vrA⟩ ?_
 intro v0 HV
 obtain ⟨G,c0,c1⟩:=HV.out
 clear HV
 refine wp_w [.c (.agg (prj X1.val Y1.val Z1.val)),.c (.agg (prj 0 0 0)),.T,.T,.c (.agg (cu (k:Int) (pN k) A.val B.val N X Y s z l)),.c (pv (w.heap.size+1) 0),.N X1.val,.c (pv (w.heap.size+1) 9),.N Y1.val,.c (pv (w.heap.size+1) 18),.N Z1.val,.r 3 (nw 9 X1.val++nw 9 Y1.val++nw 9 Z1.val),.T,.T,.T,.c (.agg (cu (k:Int) (pN k) A.val B.val N X Y s z l)),.c (.agg (prj X1.val Y1.val Z1.val)),.N L,.c (.agg (cu (k:Int) (pN k) A.val B.val N X Y s z l)),.c (.agg (prj X1.val Y1.val Z1.val)),.N R,.c (.bool r),.c (.bool r),.c (.bool r)] [0,2,4,6,8,10,11,12,15,16,17,18,19,20,21] ?hs16 ?hf16
 case hs16=>
  exact .cons (.g 111 0 c1 rfl)<|.cons (.s (.binOp .neq 111 (.const (.agg (prj X1.val Y1.val Z1.val))) (.const (.agg (prj 0 0 0))) 111) rfl fun vv hg=>by simp [go_sem,exI,nePj,hne])<|.cons (.g 144 0 c0 rfl)<|.cons (.g 25 0 c1 rfl)<|.cons (.g 25 9 c1 rfl)<|.cons (.g 25 18 c1 rfl)<|.cons (.r (.buildSlice 183 3 #[(0,.const (.agg (nw 9 X1.val))),(1,.const (.agg (nw 9 Y1.val))),(2,.const (.agg (nw 9 Z1.val)))]) rfl (rowN3 _ _ _))<|.cons (.k _ fun yy vv hg hh=>RtW.of_c (Rt.c (HB.out _ _ (hh 11 rfl))))<|.cons (.g 144 0 c0 rfl)<|.cons (.g 111 0 c1 rfl)<|.cons (.k _ fun yy vv hg hh=>RtW.of_c (Rt.c (HL.out _)))<|.cons (.g 144 0 c0 rfl)<|.cons (.g 111 0 c1 rfl)<|.cons (.k _ fun yy vv hg hh=>RtW.of_c (Rt.c (HR.out _)))<|.cons (.s (.binOp .eql 25 (.const (.agg (nw 9 L))) (.const (.agg (nw 9 R))) 25) rfl fun vv hg=>by simp [go_sem,exI,eqNat,hr]) .nil
 intro yw1 v1 hg h1
 simp only [fzw,Kw.r]
 clear h1
 replace G:=G.trans hg
 replace c0:=c0.gr hg
 replace c1:=c1.gr hg
 clear hg
 go_wp2_with fail
 go_ret
 exact ⟨rfl,G⟩
end
end
section
abbrev T3:=Nat×Nat×Nat
def TrQ (k:Nat) (T:T3) (Q:Q3):Prop:=OnQ k Q∧∃ (X Y Z:Fin (pN k)),T=(X.val,Y.val,Z.val)∧∀ [NeZero (pN k)],EC.Std X Y Z (decQ (pN k) Q)
theorem std_one {p:Nat} [NeZero p] (hp:Prm p) {X Y Z:Fin p} {P Q:Option (Fin p×Fin p)} (h1:EC.Std X Y Z P) (h2:EC.Std X Y Z Q):P=Q:=by
 match P,Q,h1,h2 with
 | none,none,_,_=>rfl
 | none,some (x,y),⟨_,_,c⟩,⟨d,_,_⟩=>exact absurd c d
 | some (x,y),none,⟨d,_,_⟩,⟨_,_,c⟩=>exact absurd c d
 | some (x,y),some (u,v),⟨a,b,c⟩,⟨_,d,e⟩=>
  have hx:x=u:=by
   have h:(x-u)*Z=0:=by
    have:(x-u)*Z=x*Z-u*Z:=by clear b c d e; grobner
    rw [this,← b,← d]; clear this b c d e; grobner
   rcases EC.nzd hp _ _ h with h | h
   ·exact EC.sub_zero_of h
   ·exact absurd h a
  have hy:y=v:=by
   have h:(y-v)*Z=0:=by
    have:(y-v)*Z=y*Z-v*Z:=by clear b c d e; grobner
    rw [this,← c,← e]; clear this b c d e; grobner
   rcases EC.nzd hp _ _ h with h | h
   ·exact EC.sub_zero_of h
   ·exact absurd h a
  rw [hx,hy]
theorem TrQ.one {k:Nat} (h1:1≤k) (h2:k≤15) {T:T3} {P Q:Q3} (hP:TrQ k T P) (hQ:TrQ k T Q):P=Q:=by
 haveI:=EC.nzP k h1 h2
 obtain ⟨o1,X,Y,Z,rfl,s1⟩:=hP
 obtain ⟨o2,X',Y',Z',e,s2⟩:=hQ
 simp only [Prod.mk.injEq] at e
 obtain ⟨e1,e2,e3⟩:=e
 have s2':=s2
 rw [← Fin.ext e1,← Fin.ext e2,← Fin.ext e3] at s2'
 rw [← enc_dec o1,← enc_dec o2,std_one (prm_pN k h1 h2) s1 s2']
def addT (k:Nat) (S T:T3):T3:=
 if h:1≤k∧k≤15 then (haveI:=EC.nzP k h.1 h.2
  ((EC.pX (EC.aF k h.1 h.2) (EC.bF k h.1 h.2) (Fin.ofNat (pN k) S.1) (Fin.ofNat (pN k) S.2.1) (Fin.ofNat (pN k) S.2.2) (Fin.ofNat (pN k) T.1) (Fin.ofNat (pN k) T.2.1) (Fin.ofNat (pN k) T.2.2)).val,
   (EC.pY (EC.aF k h.1 h.2) (EC.bF k h.1 h.2) (Fin.ofNat (pN k) S.1) (Fin.ofNat (pN k) S.2.1) (Fin.ofNat (pN k) S.2.2) (Fin.ofNat (pN k) T.1) (Fin.ofNat (pN k) T.2.1) (Fin.ofNat (pN k) T.2.2)).val,
   (EC.pZ (EC.aF k h.1 h.2) (EC.bF k h.1 h.2) (Fin.ofNat (pN k) S.1) (Fin.ofNat (pN k) S.2.1) (Fin.ofNat (pN k) S.2.2) (Fin.ofNat (pN k) T.1) (Fin.ofNat (pN k) T.2.1) (Fin.ofNat (pN k) T.2.2)).val))
 else (0,0,0)
theorem ofV {p:Nat} [NeZero p] (a:Fin p):Fin.ofNat p a.val=a:=Fin.ext (Nat.mod_eq_of_lt a.isLt)
theorem addT_is {k:Nat} (h1:1≤k) (h2:k≤15) [NeZero (pN k)] (X1 Y1 Z1 X2 Y2 Z2:Fin (pN k)):addT k (X1.val,Y1.val,Z1.val) (X2.val,Y2.val,Z2.val) =
 ((EC.pX (EC.aF k h1 h2) (EC.bF k h1 h2) X1 Y1 Z1 X2 Y2 Z2).val,(EC.pY (EC.aF k h1 h2) (EC.bF k h1 h2) X1 Y1 Z1 X2 Y2 Z2).val,(EC.pZ (EC.aF k h1 h2) (EC.bF k h1 h2) X1 Y1 Z1 X2 Y2 Z2).val):=by
 unfold addT
 rw [dif_pos ⟨h1,h2⟩]
 simp only [ofV]
theorem addT_tr {k:Nat} (h1:1≤k) (h2:k≤15) {S T:T3} {P Q:Q3} (hS:TrQ k S P) (hT:TrQ k T Q):TrQ k (addT k S T) (plQ k P Q):=by
 haveI:=EC.nzP k h1 h2
 obtain ⟨o1,X1,Y1,Z1,rfl,s1⟩:=hS
 obtain ⟨o2,X2,Y2,Z2,rfl,s2⟩:=hT
 refine ⟨plQ_on h1 h2 o1 o2,_,_,_,addT_is h1 h2 X1 Y1 Z1 X2 Y2 Z2,fun {_}=>?_⟩
 rw [plQ_is h1 h2,dec_enc]
 exact EC.std_add (EC.curN k h1 h2) (EC.no_two k h1 h2) (on_dec h1 h2 o1) (on_dec h1 h2 o2) s1 s2
theorem inf_tr {k:Nat} (h1:1≤k) (h2:k≤15) {y:Nat} (hy:y<pN k) (h0:0<y):TrQ k (0,y,0) inf:=by
 haveI:=EC.nzP k h1 h2
 refine ⟨inf_on k,0,⟨y,hy⟩,0,by rw [Fin.val_zero],fun {_}=>⟨rfl,fun e=>?_,rfl⟩⟩
 have:=congrArg Fin.val e
 rw [Fin.val_zero] at this
 have e2:y=0:=this
 omega
theorem one_tr {k:Nat} (h1:1≤k) (h2:k≤15) {x y:Nat} (h:OnQ k (x,y,false)):TrQ k (x,y,1) (x,y,false):=by
 haveI:=EC.nzP k h1 h2
 have hp:=(prm_pN k h1 h2).1
 rcases h.cases with e | ⟨a,b,e,ha,hb, -⟩
 ·cases e
 ·cases e
  refine ⟨h,⟨x,ha⟩,⟨y,hb⟩,1,by rw [one_val (by omega)],fun {_}=>?_⟩
  show EC.Std _ _ _ (some (Fin.ofNat (pN k) x,Fin.ofNat (pN k) y))
  refine ⟨fun e=>?_,?_,?_⟩
  ·have:=congrArg Fin.val e
   rw [one_val (by omega),Fin.val_zero] at this
   cases this
  ·rw [show Fin.ofNat (pN k) x=⟨x,ha⟩ from Fin.ext (Nat.mod_eq_of_lt ha)]; grobner
  ·rw [show Fin.ofNat (pN k) y=⟨y,hb⟩ from Fin.ext (Nat.mod_eq_of_lt hb)]; grobner
end
section
attribute [local go_sem ↓] uz1
attribute [local go_sem] uz2
section
attribute [local go_sem ↓] uz9 Go.wp_at_zero Go.wp_at_succ
attribute [local go_sem] uz10
attribute [local go_sem] frz_setBlk blk_setBlk setBlk_setBlk
section
variable {P:Nat} [NeZero P] {i:Fin P→Fin P} {A B:Fin P}
theorem rtimes_any (C:EC.Cur i A B) (hd:dl P≤400) (id:Int) (N X Y:Nat) (qc:Nat→Option Addr×Nat) (k nk:Nat) (pk:Option Addr) (hk:dl k≤400) (Q:Option (Fin P×Fin P)) (hQ:EC.On A B Q) (p q:Option Addr) (n m:Nat) (w:World)
 (HQ:∀ k,Sl w (qc k).1 (six P A.val B.val N X Y k)) (Sk:Sl w pk k) (Sx:Sl w p (ex Q)) (Sy:Sl w q (ey Q)):
 Calls Tryz.prog 17 #[.agg (crA id (six P A.val B.val N X Y) qc),.slice pk (dl k) nk,.agg (ptA p (ex Q) n q (ey Q) m (ef Q))] w (Rt (.pt (ex (EC.ml i A k Q)) (ey (EC.ml i A k Q)) (ef (EC.ml i A k Q))) w):=by
 obtain ⟨L,hL⟩:=exl (bl k)
 have hL1:(L:Int)≤12800:=by
  have:(bl k+31)/32≤400:=hk
  omega
 have hL0:(0:Int)≤(L:Int):=by omega
 have HB:Hid (∀ w',Gr w w'→Calls Tryz.prog 24 #[.slice pk (dl k) nk] w' fun e w''=>e=.returned (.int .i64 (L:Int))∧w''=w'):=fun w' g=>hL ▸ rbits_any k nk pk w' (Sk.gr g) (by omega)
 have HZ:Hid (Unit→k/2 ^ L=0):=fun _=>Nat.div_eq_of_lt (hL ▸ (bl_le k (bl k)).1 (Nat.le_refl _))
 have HLk:Hid (Unit→L≤12800):=fun _=>by omega
 clear hL
 go_enter Tryz.func17,Tryz.ntmps17
 go_upto_region 3 with (go_at_call 24; refine (HB.out _ grA).mono ?_; rintro e w' ⟨rfl,rfl⟩)
 obtain ⟨b7,hb7⟩:=exl (w.heap.size+1+1+1)
 simp only [hb7]
 refine gen_w (fun v=>Hid (Gr w v∧Vr v (w.heap.size) (crA id (six P A.val B.val N X Y) qc)∧Vr v (w.heap.size+1) (ptA p (ex Q) n q (ey Q) m (ef Q))∧Vr v (w.heap.size+1+1) (ptA none 0 0 none 0 0 false)∧Vr v b7 (ptA none 0 0 none 0 0 true))) ?_ ?_
 ·subst hb7
  exact ⟨grA,⟨by simp [go_sem],by simp [go_sem],by simp [go_sem]⟩,⟨by simp [go_sem],by simp [go_sem],by simp [go_sem]⟩,⟨by simp [go_sem],by simp [go_sem],by simp [go_sem]⟩,⟨by simp [go_sem],by simp [go_sem],by simp [go_sem]⟩⟩
 intro v0 HV
 have ne0:b7≠w.heap.size:=by omega
 have ne1:b7≠w.heap.size+1:=by omega
 have ne2:b7≠w.heap.size+1+1:=by omega
 have nb7:w.heap.size≤b7:=by omega
 have HN:Hid (Unit→b7≠w.heap.size∧b7≠w.heap.size+1∧b7≠w.heap.size+1+1∧w.heap.size≤b7):=fun _=>⟨ne0,ne1,ne2,nb7⟩
 clear hb7 ne0 ne1 ne2 nb7 HB
 go_loopw [8] (fun ia wr=>∃ (j:Nat) (po:Option Addr) (no:Nat) (qo:Option Addr) (mo:Nat),ia=.int .i64 ((j:Int)-1)∧Hid (Unit→j≤L)∧Hid (Gr w wr∧Vr wr (w.heap.size) (crA id (six P A.val B.val N X Y) qc)∧Vr wr (w.heap.size+1) (ptA p (ex Q) n q (ey Q) m (ef Q))∧Vr wr (w.heap.size+1+1) (ptA none 0 0 none 0 0 false)∧Vr wr b7 (ptA po (ex (EC.ml i A (k/2 ^ j) Q)) no qo (ey (EC.ml i A (k/2 ^ j) Q)) mo (ef (EC.ml i A (k/2 ^ j) Q)))∧Sl wr po (ex (EC.ml i A (k/2 ^ j) Q))∧Sl wr qo (ey (EC.ml i A (k/2 ^ j) Q)))) (fun ia _=>(intOf ia+1).toNat)
 case atStart=>
  refine ⟨L,none,0,none,0,rfl,fun _=>Nat.le_refl _,?_⟩
  rw [HZ.out ()]
  obtain ⟨h1,h2,h3,h4,h5⟩:=HV.out
  exact ⟨h1,h2,h3,h4,h5,Sl.zero _ _,Sl.zero _ _⟩
 case round=>
  obtain ⟨j,po,no,qo,mo,rfl,HJ,HR⟩:=hrel
  by_cases hpos:0<j
  ·obtain ⟨i0,rfl⟩:∃ i,j=i+1:=⟨j-1,by omega⟩
   have e1:(((i0+1:Nat):Int)-1)=(i0:Int):=by omega
   rw [e1]
   have j0:(0:Int)≤(i0:Int):=by omega
   have j1:(i0:Int)<12800:=by have:=HJ.out (); have:=HLk.out (); omega
   have HJ2:i0≤L:=by have:=HJ.out (); omega
   obtain ⟨R,hR⟩:=exl (EC.ml i A (k/2 ^ (i0+1)) Q)
   obtain ⟨R1,hR1⟩:=exl (EC.pl i A R R)
   obtain ⟨R2,hR2⟩:=exl (EC.pl i A R1 Q)
   rw [hR] at HR
   obtain ⟨G,c1,c2,c3,c7,So,To⟩:=HR.out
   obtain ⟨ne0,ne1,ne2,nb7⟩:=HN.out ()
   replace HQ:=fun k=>(HQ k).gr G
   replace Sk:=Sk.gr G
   replace Sx:=Sx.gr G
   replace Sy:=Sy.gr G
   have hdiv:∀ b,k/2 ^ i0%2=b→k/2 ^ i0=k/2 ^ (i0+1)+k/2 ^ (i0+1)+b:=fun b hb=>by
    rw [Nat.pow_succ,← Nat.div_div_eq_div_mul]; omega
   have h12:EC.ml i A (k/2 ^ (i0+1)+k/2 ^ (i0+1)) Q=R1:=by rw [EC.ml_add C hQ,hR,hR1]
   have hbt:=fun w' (s:Sl w' pk k)=>rbit_any k nk i0 pk w' s (by omega)
   clear HV HR HJ hpos e1
   obtain hb | hb:k/2 ^ i0%2=0∨k/2 ^ i0%2=1:=by omega
   ·have hR3:R1=EC.ml i A (k/2 ^ i0) Q:=by rw [hdiv 0 hb,Nat.add_zero,h12]
    have hbit:∀ w',Sl w' pk k→Calls Tryz.prog 35 #[.slice pk (dl k) nk,.int .i64 (i0:Int)] w' fun e w''=>e=.returned (.int .i64 0)∧w''=w':=fun w' s=>by
     have:=hbt w' s
     rw [show bitN k i0=0 from hb] at this
     exact this
    clear hb h12 hdiv hbt
    go_upto_region 5 with fail
    refine wp_wTS 4 [.c (.agg (crA id (six P A.val B.val N X Y) qc)),.c (.agg (ptA po (ex R) no qo (ey R) mo (ef R))),.c (.agg (ptA po (ex R) no qo (ey R) mo (ef R))),.pt (ex R1) (ey R1) (ef R1)] [0,1,2,3] ?hs1 ?hf1
    case hs1=>
     exact .cons (.g 29 0 c1 rfl)<|.cons (.g 46 0 c7 rfl)<|.cons (.g 46 0 c7 rfl)<|.cons (.k (fun yy => #[.agg (crA id (six P A.val B.val N X Y) qc),.agg (ptA po (ex R) no qo (ey R) mo (ef R)),.agg (ptA po (ex R) no qo (ey R) mo (ef R))]) fun yy vv hg hh=>RtW.of_pt (hR1 ▸ rplus_any C hd id N X Y qc R R po qo no mo po qo no mo _ (fun k=>(HQ k).gr hg) (So.gr hg) (To.gr hg) (So.gr hg) (To.gr hg))) .nil
    refine .s 46 (fun yy=>.pointer (some ⟨b7,0,none⟩)) (fun yy=>.agg (ptA (yy 3 0).1 (ex R1) (yy 3 0).2 (yy 3 1).1 (ey R1) (yy 3 1).2 (ef R1))) fun yw5 v1 hg h5=>?_
    have HT:=(c7.gr hg).h
    have FT:=(c7.gr hg).f
    refine ⟨setBlk v1 (b7) (ptA (yw5 3 0).1 (ex R1) (yw5 3 0).2 (yw5 3 1).1 (ey R1) (yw5 3 1).2 (ef R1)),by simp [go_sem,exI,HT,FT],?_⟩
    simp only [fzw]
    obtain ⟨S5_3,T5_3⟩:Sl v1 (yw5 3 0).1 (ex R1)∧Sl v1 (yw5 3 1).1 (ey R1):=h5 3
    clear h5
    replace G:=G.trans hg
    replace c1:=c1.gr hg
    replace c2:=c2.gr hg
    replace c3:=c3.gr hg
    replace c7:=c7.gr hg
    replace HQ:=fun k=>(HQ k).gr hg
    replace Sk:=Sk.gr hg
    replace Sx:=Sx.gr hg
    replace Sy:=Sy.gr hg
    replace So:=So.gr hg
    replace To:=To.gr hg
    clear hg
    go_upto_region 6 with fail
    refine gen_w (fun u=>Gr w u∧Vr u (w.heap.size) (crA id (six P A.val B.val N X Y) qc)∧Vr u (w.heap.size+1) (ptA p (ex Q) n q (ey Q) m (ef Q))∧Vr u (w.heap.size+1+1) (ptA none 0 0 none 0 0 false)∧Vr u (b7) (ptA (yw5 3 0).1 (ex R1) (yw5 3 0).2 (yw5 3 1).1 (ey R1) (yw5 3 1).2 (ef R1))∧(∀ k,Sl u (qc k).1 (six P A.val B.val N X Y k))∧Sl u pk (k)∧Sl u p (ex Q)∧Sl u q (ey Q)∧Sl u (yw5 3 0).1 (ex R1)∧Sl u (yw5 3 1).1 (ey R1)) ⟨gr_setNew G (by omega),c1.other (ne0),c2.other (ne1),c3.other (ne2),c7.set (by rw [ptA_size]; decide) _,fun k=>Sl.set (HQ k) (by rw [HT]; exact ptA_no _ _ _ _ _ _ _),Sl.set Sk (by rw [HT]; exact ptA_no _ _ _ _ _ _ _),Sl.set Sx (by rw [HT]; exact ptA_no _ _ _ _ _ _ _),Sl.set Sy (by rw [HT]; exact ptA_no _ _ _ _ _ _ _),Sl.set S5_3 (by rw [HT]; exact ptA_no _ _ _ _ _ _ _),Sl.set T5_3 (by rw [HT]; exact ptA_no _ _ _ _ _ _ _)⟩ ?_
    clear HT FT
    rintro u5 ⟨G,c1,c2,c3,c7,HQ,Sk,Sx,Sy,S5_3,T5_3⟩
    refine wp_wS [.c (.slice pk (dl (k)) nk),.c (.int .i64 (i0:Int)),.O,.F] [2] ?hs2 ?hf2
    case hs2=>
     refine .cons (.k (fun yy => #[.slice pk (dl (k)) nk,.int .i64 (i0:Int)]) fun yy vv hg hh=>RtW.of_c (Rt.same (hbit _ (Sk.gr hg)))) .nil
    intro yw6 v2 hg h6
    simp only [fzw]
    clear h6
    replace G:=G.trans hg
    replace c1:=c1.gr hg
    replace c2:=c2.gr hg
    replace c3:=c3.gr hg
    replace c7:=c7.gr hg
    replace HQ:=fun k=>(HQ k).gr hg
    replace Sk:=Sk.gr hg
    replace Sx:=Sx.gr hg
    replace Sy:=Sy.gr hg
    replace S5_3:=S5_3.gr hg
    replace T5_3:=T5_3.gr hg
    clear hg
    go_wp2_with fail
    go_roundw
    case rel=>
     refine ⟨i0,(yw5 3 0).1,(yw5 3 0).2,(yw5 3 1).1,(yw5 3 1).2,by simp,fun _=>HJ2,?_⟩
     rw [← hR3]
     exact ⟨G,c1,c2,c3,c7,S5_3,T5_3⟩
    case measure=>simp [intOf]
   ·have hR3:R2=EC.ml i A (k/2 ^ i0) Q:=by
     rw [hdiv 1 hb]
     show R2=EC.pl i A (EC.ml i A (k/2 ^ (i0+1)+k/2 ^ (i0+1)) Q) Q
     rw [h12,hR2]
    have hbit:∀ w',Sl w' pk k→Calls Tryz.prog 35 #[.slice pk (dl k) nk,.int .i64 (i0:Int)] w' fun e w''=>e=.returned (.int .i64 1)∧w''=w':=fun w' s=>by
     have:=hbt w' s
     rw [show bitN k i0=1 from hb] at this
     exact this
    clear hb h12 hdiv hbt
    go_upto_region 5 with fail
    refine wp_wTS 4 [.c (.agg (crA id (six P A.val B.val N X Y) qc)),.c (.agg (ptA po (ex R) no qo (ey R) mo (ef R))),.c (.agg (ptA po (ex R) no qo (ey R) mo (ef R))),.pt (ex R1) (ey R1) (ef R1)] [0,1,2,3] ?hs3 ?hf3
    case hs3=>
     exact .cons (.g 29 0 c1 rfl)<|.cons (.g 46 0 c7 rfl)<|.cons (.g 46 0 c7 rfl)<|.cons (.k (fun yy => #[.agg (crA id (six P A.val B.val N X Y) qc),.agg (ptA po (ex R) no qo (ey R) mo (ef R)),.agg (ptA po (ex R) no qo (ey R) mo (ef R))]) fun yy vv hg hh=>RtW.of_pt (hR1 ▸ rplus_any C hd id N X Y qc R R po qo no mo po qo no mo _ (fun k=>(HQ k).gr hg) (So.gr hg) (To.gr hg) (So.gr hg) (To.gr hg))) .nil
    refine .s 46 (fun yy=>.pointer (some ⟨b7,0,none⟩)) (fun yy=>.agg (ptA (yy 3 0).1 (ex R1) (yy 3 0).2 (yy 3 1).1 (ey R1) (yy 3 1).2 (ef R1))) fun yw5 v1 hg h5=>?_
    have HT:=(c7.gr hg).h
    have FT:=(c7.gr hg).f
    refine ⟨setBlk v1 (b7) (ptA (yw5 3 0).1 (ex R1) (yw5 3 0).2 (yw5 3 1).1 (ey R1) (yw5 3 1).2 (ef R1)),by simp [go_sem,exI,HT,FT],?_⟩
    simp only [fzw]
    obtain ⟨S5_3,T5_3⟩:Sl v1 (yw5 3 0).1 (ex R1)∧Sl v1 (yw5 3 1).1 (ey R1):=h5 3
    clear h5
    replace G:=G.trans hg
    replace c1:=c1.gr hg
    replace c2:=c2.gr hg
    replace c3:=c3.gr hg
    replace c7:=c7.gr hg
    replace HQ:=fun k=>(HQ k).gr hg
    replace Sk:=Sk.gr hg
    replace Sx:=Sx.gr hg
    replace Sy:=Sy.gr hg
    replace So:=So.gr hg
    replace To:=To.gr hg
    clear hg
    go_upto_region 6 with fail
    refine gen_w (fun u=>Gr w u∧Vr u (w.heap.size) (crA id (six P A.val B.val N X Y) qc)∧Vr u (w.heap.size+1) (ptA p (ex Q) n q (ey Q) m (ef Q))∧Vr u (w.heap.size+1+1) (ptA none 0 0 none 0 0 false)∧Vr u (b7) (ptA (yw5 3 0).1 (ex R1) (yw5 3 0).2 (yw5 3 1).1 (ey R1) (yw5 3 1).2 (ef R1))∧(∀ k,Sl u (qc k).1 (six P A.val B.val N X Y k))∧Sl u pk (k)∧Sl u p (ex Q)∧Sl u q (ey Q)∧Sl u (yw5 3 0).1 (ex R1)∧Sl u (yw5 3 1).1 (ey R1)) ⟨gr_setNew G (by omega),c1.other (ne0),c2.other (ne1),c3.other (ne2),c7.set (by rw [ptA_size]; decide) _,fun k=>Sl.set (HQ k) (by rw [HT]; exact ptA_no _ _ _ _ _ _ _),Sl.set Sk (by rw [HT]; exact ptA_no _ _ _ _ _ _ _),Sl.set Sx (by rw [HT]; exact ptA_no _ _ _ _ _ _ _),Sl.set Sy (by rw [HT]; exact ptA_no _ _ _ _ _ _ _),Sl.set S5_3 (by rw [HT]; exact ptA_no _ _ _ _ _ _ _),Sl.set T5_3 (by rw [HT]; exact ptA_no _ _ _ _ _ _ _)⟩ ?_
    clear HT FT
    rintro u5 ⟨G,c1,c2,c3,c7,HQ,Sk,Sx,Sy,S5_3,T5_3⟩
    refine wp_wS [.c (.slice pk (dl (k)) nk),.c (.int .i64 (i0:Int)),.c (.int .i64 1),.T] [2] ?hs4 ?hf4
    case hs4=>
     refine .cons (.k (fun yy => #[.slice pk (dl (k)) nk,.int .i64 (i0:Int)]) fun yy vv hg hh=>RtW.of_c (Rt.same (hbit _ (Sk.gr hg)))) .nil
    intro yw6 v2 hg h6
    simp only [fzw]
    clear h6
    replace G:=G.trans hg
    replace c1:=c1.gr hg
    replace c2:=c2.gr hg
    replace c3:=c3.gr hg
    replace c7:=c7.gr hg
    replace HQ:=fun k=>(HQ k).gr hg
    replace Sk:=Sk.gr hg
    replace Sx:=Sx.gr hg
    replace Sy:=Sy.gr hg
    replace S5_3:=S5_3.gr hg
    replace T5_3:=T5_3.gr hg
    clear hg
    go_upto_region 7 with fail
    refine wp_wTS 4 [.c (.agg (crA id (six P A.val B.val N X Y) qc)),.c (.agg (ptA (yw5 3 0).1 (ex R1) (yw5 3 0).2 (yw5 3 1).1 (ey R1) (yw5 3 1).2 (ef R1))),.c (.agg (ptA p (ex Q) n q (ey Q) m (ef Q))),.pt (ex R2) (ey R2) (ef R2)] [0,1,2,3] ?hs5 ?hf5
    case hs5=>
     exact .cons (.g 29 0 c1 rfl)<|.cons (.g 46 0 c7 rfl)<|.cons (.g 46 0 c2 rfl)<|.cons (.k (fun yy => #[.agg (crA id (six P A.val B.val N X Y) qc),.agg (ptA (yw5 3 0).1 (ex R1) (yw5 3 0).2 (yw5 3 1).1 (ey R1) (yw5 3 1).2 (ef R1)),.agg (ptA p (ex Q) n q (ey Q) m (ef Q))]) fun yy vv hg hh=>RtW.of_pt (hR2 ▸ rplus_any C hd id N X Y qc R1 Q (yw5 3 0).1 (yw5 3 1).1 (yw5 3 0).2 (yw5 3 1).2 p q n m _ (fun k=>(HQ k).gr hg) (S5_3.gr hg) (T5_3.gr hg) (Sx.gr hg) (Sy.gr hg))) .nil
    refine .s 46 (fun yy=>.pointer (some ⟨b7,0,none⟩)) (fun yy=>.agg (ptA (yy 3 0).1 (ex R2) (yy 3 0).2 (yy 3 1).1 (ey R2) (yy 3 1).2 (ef R2))) fun yw7 v3 hg h7=>?_
    have HT:=(c7.gr hg).h
    have FT:=(c7.gr hg).f
    refine ⟨setBlk v3 (b7) (ptA (yw7 3 0).1 (ex R2) (yw7 3 0).2 (yw7 3 1).1 (ey R2) (yw7 3 1).2 (ef R2)),by simp [go_sem,exI,HT,FT],?_⟩
    simp only [fzw]
    obtain ⟨S7_3,T7_3⟩:Sl v3 (yw7 3 0).1 (ex R2)∧Sl v3 (yw7 3 1).1 (ey R2):=h7 3
    clear h7
    replace G:=G.trans hg
    replace c1:=c1.gr hg
    replace c2:=c2.gr hg
    replace c3:=c3.gr hg
    replace c7:=c7.gr hg
    replace HQ:=fun k=>(HQ k).gr hg
    replace Sk:=Sk.gr hg
    replace Sx:=Sx.gr hg
    replace Sy:=Sy.gr hg
    replace S5_3:=S5_3.gr hg
    replace T5_3:=T5_3.gr hg
    clear hg
    go_wp2_with fail
    go_roundw
    case rel=>
     refine ⟨i0,(yw7 3 0).1,(yw7 3 0).2,(yw7 3 1).1,(yw7 3 1).2,by simp,fun _=>HJ2,?_⟩
     rw [← hR3]
     exact ⟨gr_setNew G (by omega),c1.other ne0,c2.other ne1,c3.other ne2,c7.set (by rw [ptA_size]; decide) _,Sl.set S7_3 (by rw [HT]; exact ptA_no _ _ _ _ _ _ _),Sl.set T7_3 (by rw [HT]; exact ptA_no _ _ _ _ _ _ _)⟩
    case measure=>simp [intOf]
  ·obtain rfl:j=0:=by omega
   rw [Nat.pow_zero,Nat.div_one] at HR
   obtain ⟨R,hR⟩:=exl (EC.ml i A k Q)
   rw [hR] at HR
   obtain ⟨G,c1,c2,c3,c7,So,To⟩:=HR.out
   obtain ⟨ne0,ne1,ne2,nb7⟩:=HN.out ()
   have ⟨h3,f3,p3⟩:=c3
   have ⟨h7,f7,p7⟩:=c7
   have n2:¬ w.heap.size+1+1=b7:=fun h=>ne2 h.symm
   clear HV HR HJ hpos
   go_wp2_with fail
   refine bodyPost_ret (res_one Tryz.results17 (rd_pt po (ex R) no qo (ey R) mo (ef R) (by rfl) ?_)) rfl ⟨_,rfl,?_,gr_setNew G (by omega)⟩
   ·simp [go_sem,h3]
   ·rw [hR]
    exact ⟨_,_,_,_,rfl,Sl.set So (by rw [h3]; exact ptA_no _ _ _ _ _ _ _),Sl.set To (by rw [h3]; exact ptA_no _ _ _ _ _ _ _)⟩
end
end
section
attribute [local go_sem] uz8
attribute [local go_sem ↓] uz11 Go.wp_at_zero Go.wp_at_succ
attribute [local go_sem] uz12
def cTl:Code→Code
 | .seq _ b=>b
 | c=>c
def cHd:Code→Code
 | .seq a _=>a
 | c=>c
theorem jadd_end {k:Nat} (h1:1≤k) (h2:k≤15) {N X Y:Nat} {s z:Int} {l:Bool} {A B:Fin (pN k)} {xy yz mi pl st fl r1 r2 X3 r3 r4 Y3 r5 r6 Z3:Fin (pN k)} (er1:xy*mi=r1) (er2:yz*fl=r2) (eX3:r1-r2=X3) (er3:pl*mi=r3) (er4:st*fl=r4) (eY3:r3+r4=Y3) (er5:yz*pl=r5) (er6:xy*st=r6) (eZ3:r5+r6=Z3) {b0 b1 b2 b3 b4 b5 b6 b7:Nat} {t0 t1 t2 t4 t5 t7 t8 t9 t10 t12 t14 t15 t20 t21 t22 t23 t24 t25 t26 t27 t28 t29 t30 t31 t32 t33 t34 t35 t36 t37 t38 t39 t40 t41 t42 t43 t44 t45 t46 t47 t48 t49 t50 t51 t52 t53 t54 t55 t56 t57 t58 t59 t60 t61 t62 t63 t64 t65 t66 t67 t68 t69 t70 t71 t72 t73 t74 t75 t76 t77 t78 t79 t80 t81 t82 t83 t84 t85 t86 t87 t88 t89 t90 t91 t92 t93 t94 t95 t96 t97 t98 t99 t100 t101 t102 t103 t104 t105 t106 t107 t108 t109 t110 t111 t112 t113 t114 t115 t116 t117 t118 t119 t120 t121 t122 t123 t124 t125 t126 t127 t128 t129 t130 t131 t132 t133 t134 t135 t136 t137 t138 t139 t140 t141 t142 t143 t144 t145 t146 t147 t148 t149 t150 t151 t152 t153 t154 t155 t156 t157 t158 t159 t160 t161 t162 t163 t164 t165 t166 t167 t168 t169 t170 t171 t172 t173 t174 t175 t176 t177 t178 t179 t180 t181 t182 t183 t184 t185 t186 t187 t188 t189 t190 t191 t192 t193 t194 t195 t196 t197 t198:Value} {v:World} {Q:Exit→Act→World→Prop}
 (c0:Vr v b0 (cu (k:Int) (pN k) A.val B.val N X Y s z l)) (c6:Vr v b6 (prj 0 0 0)) (Vb1:Vr v b1 (nw 9 xy.val)) (Vb2:Vr v b2 (nw 9 yz.val)) (Vb3:Vr v b3 (nw 9 mi.val)) (Vb4:Vr v b4 (nw 9 pl.val)) (Vb5:Vr v b5 (nw 9 st.val)) (Vb7:Vr v b7 (nw 9 fl.val))
 (hQ:∀ (a:Act) (v':World),a.tmps.getD 6 undef=.pointer (some ⟨b6,0,none⟩)→a.defers=[]→Gr v v'→blk v' b6=prj 0 0 0→Q .normal a (setBlk v' b6 (prj X3.val Y3.val Z3.val))):
 Code.wp Tryz.prog (cHd (cTl (cTl (cTl (cTl (cTl (cTl (cTl (cTl (cTl (cTl (cTl (Tryz.f84.body.getD .ret))))))))))))) Q ⟨#[t0,t1,t2,.pointer (some ⟨b0,0,none⟩),t4,t5,.pointer (some ⟨b6,0,none⟩),t7,t8,t9,t10,.pointer (some ⟨b1,0,none⟩),t12,.pointer (some ⟨b2,0,none⟩),t14,t15,.pointer (some ⟨b3,0,none⟩),.pointer (some ⟨b4,0,none⟩),.pointer (some ⟨b5,0,none⟩),.pointer (some ⟨b7,0,none⟩),t20,t21,t22,t23,t24,t25,t26,t27,t28,t29,t30,t31,t32,t33,t34,t35,t36,t37,t38,t39,t40,t41,t42,t43,t44,t45,t46,t47,t48,t49,t50,t51,t52,t53,t54,t55,t56,t57,t58,t59,t60,t61,t62,t63,t64,t65,t66,t67,t68,t69,t70,t71,t72,t73,t74,t75,t76,t77,t78,t79,t80,t81,t82,t83,t84,t85,t86,t87,t88,t89,t90,t91,t92,t93,t94,t95,t96,t97,t98,t99,t100,t101,t102,t103,t104,t105,t106,t107,t108,t109,t110,t111,t112,t113,t114,t115,t116,t117,t118,t119,t120,t121,t122,t123,t124,t125,t126,t127,t128,t129,t130,t131,t132,t133,t134,t135,t136,t137,t138,t139,t140,t141,t142,t143,t144,t145,t146,t147,t148,t149,t150,t151,t152,t153,t154,t155,t156,t157,t158,t159,t160,t161,t162,t163,t164,t165,t166,t167,t168,t169,t170,t171,t172,t173,t174,t175,t176,t177,t178,t179,t180,t181,t182,t183,t184,t185,t186,t187,t188,t189,t190,t191,t192,t193,t194,t195,t196,t197,t198],[]⟩ v:=by
 have Jd:=@jd k h1 h2 (pN k) A.val B.val N X Y s z l
 have Jp1:=@jp1 k h1 h2 (pN k) A.val B.val N X Y s z l
 have Js1:=@js1 k h1 h2 (pN k) A.val B.val N X Y s z l
 conv=>arg 2; whnf
 have G:=Gr.refl v
 refine wp_wT 39 [.c (.agg (cu (k:Int) (pN k) A.val B.val N X Y s z l)),.c (.agg (cu (k:Int) (pN k) A.val B.val N X Y s z l)),.N xy.val,.N mi.val,.r 1 (nw 9 mi.val),.N r1.val,.c (.agg (cu (k:Int) (pN k) A.val B.val N X Y s z l)),.N yz.val,.N fl.val,.r 1 (nw 9 fl.val),.N r2.val,.N X3.val,.c (.agg (cu (k:Int) (pN k) A.val B.val N X Y s z l)),.c (.agg (cu (k:Int) (pN k) A.val B.val N X Y s z l)),.N pl.val,.N mi.val,.r 1 (nw 9 mi.val),.N r3.val,.c (.agg (cu (k:Int) (pN k) A.val B.val N X Y s z l)),.N st.val,.N fl.val,.r 1 (nw 9 fl.val),.N r4.val,.r 1 (nw 9 r4.val),.N Y3.val,.c (.agg (cu (k:Int) (pN k) A.val B.val N X Y s z l)),.c (.agg (cu (k:Int) (pN k) A.val B.val N X Y s z l)),.N yz.val,.N pl.val,.r 1 (nw 9 pl.val),.N r5.val,.c (.agg (cu (k:Int) (pN k) A.val B.val N X Y s z l)),.N xy.val,.N st.val,.r 1 (nw 9 st.val),.N r6.val,.r 1 (nw 9 r6.val),.N Z3.val,.c (.agg (prj X3.val Y3.val Z3.val))] [0,1,2,3,4,5,6,7,8,9,10,11,12,13,14,15,16,17,18,19,20,21,22,23,24,25,26,27,28,29,30,31,32,33,34,35,36,37] ?hs27 ?hf27
 case hs27=>
  exact .cons (.g 144 0 c0 rfl)<|.cons (.g 144 0 c0 rfl)<|.cons (.g 25 0 Vb1 rfl)<|.cons (.g 25 0 Vb3 rfl)<|.cons (.r (.buildSlice 183 1 #[(0,.const (.agg (nw 9 mi.val)))]) rfl (rowN1 _))<|.cons (.k _ fun yy vv hg hh=>RtW.of_c (Rt.c (Jp1 er1 (hh 4 rfl))))<|.cons (.g 144 0 c0 rfl)<|.cons (.g 25 0 Vb2 rfl)<|.cons (.g 25 0 Vb7 rfl)<|.cons (.r (.buildSlice 183 1 #[(0,.const (.agg (nw 9 fl.val)))]) rfl (rowN1 _))<|.cons (.k _ fun yy vv hg hh=>RtW.of_c (Rt.c (Jp1 er2 (hh 9 rfl))))<|.cons (.k _ fun yy vv hg hh=>RtW.of_c (Rt.c (Jd eX3 _)))<|.cons (.g 144 0 c0 rfl)<|.cons (.g 144 0 c0 rfl)<|.cons (.g 25 0 Vb4 rfl)<|.cons (.g 25 0 Vb3 rfl)<|.cons (.r (.buildSlice 183 1 #[(0,.const (.agg (nw 9 mi.val)))]) rfl (rowN1 _))<|.cons (.k _ fun yy vv hg hh=>RtW.of_c (Rt.c (Jp1 er3 (hh 16 rfl))))<|.cons (.g 144 0 c0 rfl)<|.cons (.g 25 0 Vb5 rfl)<|.cons (.g 25 0 Vb7 rfl)<|.cons (.r (.buildSlice 183 1 #[(0,.const (.agg (nw 9 fl.val)))]) rfl (rowN1 _))<|.cons (.k _ fun yy vv hg hh=>RtW.of_c (Rt.c (Jp1 er4 (hh 21 rfl))))<|.cons (.r (.buildSlice 183 1 #[(0,.const (.agg (nw 9 r4.val)))]) rfl (rowN1 _))<|.cons (.k _ fun yy vv hg hh=>RtW.of_c (Rt.c (Js1 eY3 (hh 23 rfl))))<|.cons (.g 144 0 c0 rfl)<|.cons (.g 144 0 c0 rfl)<|.cons (.g 25 0 Vb2 rfl)<|.cons (.g 25 0 Vb4 rfl)<|.cons (.r (.buildSlice 183 1 #[(0,.const (.agg (nw 9 pl.val)))]) rfl (rowN1 _))<|.cons (.k _ fun yy vv hg hh=>RtW.of_c (Rt.c (Jp1 er5 (hh 29 rfl))))<|.cons (.g 144 0 c0 rfl)<|.cons (.g 25 0 Vb1 rfl)<|.cons (.g 25 0 Vb5 rfl)<|.cons (.r (.buildSlice 183 1 #[(0,.const (.agg (nw 9 st.val)))]) rfl (rowN1 _))<|.cons (.k _ fun yy vv hg hh=>RtW.of_c (Rt.c (Jp1 er6 (hh 34 rfl))))<|.cons (.r (.buildSlice 183 1 #[(0,.const (.agg (nw 9 r6.val)))]) rfl (rowN1 _))<|.cons (.k _ fun yy vv hg hh=>RtW.of_c (Rt.c (Js1 eZ3 (hh 36 rfl)))) .nil
 refine .s 111 (fun yy=>.pointer (some ⟨b6,0,none⟩)) (fun yy=>.agg (prj X3.val Y3.val Z3.val)) fun yw11 v1 hg h11=>?_
 have HT:=(c6.gr hg).h
 have FT:=(c6.gr hg).f
 refine ⟨setBlk v1 (b6) (prj X3.val Y3.val Z3.val),by simp [go_sem,exI,HT,FT],?_⟩
 simp only [fzw,Kw.r]
 clear h11
 replace G:=G.trans hg
 replace c0:=c0.gr hg
 replace c6:=c6.gr hg
 replace Vb1:=Vb1.gr hg
 replace Vb2:=Vb2.gr hg
 replace Vb3:=Vb3.gr hg
 replace Vb4:=Vb4.gr hg
 replace Vb5:=Vb5.gr hg
 replace Vb7:=Vb7.gr hg
 clear hg
 exact hQ _ _ rfl rfl G HT
theorem jadd_of {k:Nat} (h1:1≤k) (h2:k≤15) {N X Y:Nat} {s z:Int} {l:Bool} {A B:Fin (pN k)} {X1 Y1 Z1 X2 Y2 Z2:Fin (pN k)} {b3 xx yv zz p1 p2 xy p3 p4 xz p5 p6 yz az p7 p8 pa mi pl st d1 p9 pt fl r1 r2 X3 r3 r4 Y3 r5 r6 Z3:Fin (pN k)} (eb3:B+B+B=b3) (exx:X1*X2=xx) (eyv:Y1*Y2=yv) (ezz:Z1*Z2=zz) (ep1:X1*Y2=p1) (ep2:X2*Y1=p2) (exy:p1+p2=xy) (ep3:X1*Z2=p3) (ep4:X2*Z1=p4) (exz:p3+p4=xz) (ep5:Y1*Z2=p5) (ep6:Y2*Z1=p6) (eyz:p5+p6=yz) (eaz:A*zz=az) (ep7:A*xz=p7) (ep8:b3*zz=p8) (epa:p7+p8=pa) (emi:yv-pa=mi) (epl:yv+pa=pl) (est:xx+xx+xx+az=st) (ed1:xx-az=d1) (ep9:A*d1=p9) (ept:b3*xz=pt) (efl:p9+pt=fl) (er1:xy*mi=r1) (er2:yz*fl=r2) (eX3:r1-r2=X3) (er3:pl*mi=r3) (er4:st*fl=r4) (eY3:r3+r4=Y3) (er5:yz*pl=r5) (er6:xy*st=r6) (eZ3:r5+r6=Z3) (w:World):
 Cg 84 #[.agg (cu (k:Int) (pN k) A.val B.val N X Y s z l),.agg (prj X1.val Y1.val Z1.val),.agg (prj X2.val Y2.val Z2.val)] w (.agg (prj X3.val Y3.val Z3.val)):=by
 have Jd:=@jd k h1 h2 (pN k) A.val B.val N X Y s z l
 have Jp1:=@jp1 k h1 h2 (pN k) A.val B.val N X Y s z l
 have Js1:=@js1 k h1 h2 (pN k) A.val B.val N X Y s z l
 have Js2:=@js2 k h1 h2 (pN k) A.val B.val N X Y s z l
 have Js3:=@js3 k h1 h2 (pN k) A.val B.val N X Y s z l
 go_enter Tryz.func84,Tryz.ntmps84
 go_upto_region 1 with fail
 refine gen_w (fun v=>Hid (Gr w v∧Vr v (w.heap.size) (cu (k:Int) (pN k) A.val B.val N X Y s z l)∧Vr v (w.heap.size+1) (prj X1.val Y1.val Z1.val)∧Vr v (w.heap.size+1+1) (prj X2.val Y2.val Z2.val)∧Vr v (w.heap.size+1+1+1) (prj 0 0 0))) ⟨grA,vrA,vrA,vrA,vrA⟩ ?_
 intro v0 HV
 obtain ⟨G,c0,c1,c2,c3⟩:=HV.out
 clear HV
 refine wp_v false [.c (.agg (cu (k:Int) (pN k) A.val B.val N X Y s z l)),.c (pv (w.heap.size) 0),.c (pv (w.heap.size) 19),.N B.val,.c (pv (w.heap.size) 0),.c (pv (w.heap.size) 19),.N B.val,.c (pv (w.heap.size) 0),.c (pv (w.heap.size) 19),.N B.val,.r 2 (nw 9 B.val++nw 9 B.val),.N b3.val,.a,.u] [0,3,6,9,10,11] [⟨12,13,25,nw 9 0,fun _=>nw 9 b3.val⟩] ?hs17 ?hv17 ?hf17
 case hs17=>
  exact .cons (.g 144 0 c0 rfl)<|.cons (.g 25 19 c0 rfl)<|.cons (.g 25 19 c0 rfl)<|.cons (.g 25 19 c0 rfl)<|.cons (.r (.buildSlice 183 2 #[(0,.const (.agg (nw 9 B.val))),(1,.const (.agg (nw 9 B.val)))]) rfl (rowN2 _ _))<|.cons (.k _ fun yy vv hg hh=>RtW.of_c (Rt.c (Js2 eb3 (hh 10 rfl)))) .nil
 case hv17=>
  refine .cons (.mk (fun _ _ _=>rfl) (fun _ v b H F=>by dsimp only at H ⊢; simp [go_sem,exI,H,F]) zNat ⟨fkc,fkc,fkc,fkc,fkc,fkc,fkc,fkc,fkc,fkc,fkr (by simp [nw_size]),fkc,fka,fku,trivial⟩) .nil
 intro yw1 v1 hg h1 hV1
 simp only [fzw,Kw.a,Kw.r]
 obtain ⟨⟨N1_12,V1_12⟩, -⟩:(v0.heap.size≤(yw1 12 0).2∧Vr v1 (yw1 12 0).2 (nw 9 b3.val))∧True:=hV1
 clear h1
 have g1:=hg
 clear hg
 go_upto_region 2 with fail
 refine wp_y true [.c (.agg (cu (k:Int) (pN k) A.val B.val N X Y s z l)),.c (pv (w.heap.size+1) 0),.N X1.val,.c (pv (w.heap.size+1+1) 0),.N X2.val,.r 1 (nw 9 X2.val),.N xx.val,.c (.agg (cu (k:Int) (pN k) A.val B.val N X Y s z l)),.c (pv (w.heap.size+1) 9),.N Y1.val,.c (pv (w.heap.size+1+1) 9),.N Y2.val,.r 1 (nw 9 Y2.val),.N yv.val,.c (.agg (cu (k:Int) (pN k) A.val B.val N X Y s z l)),.c (pv (w.heap.size+1) 18),.N Z1.val,.c (pv (w.heap.size+1+1) 18),.N Z2.val,.r 1 (nw 9 Z2.val),.N zz.val,.a,.a,.a,.u,.u,.u] [0,2,4,6,7,9,11,13,14,16,18,20] [5,12,19] [⟨21,24,25,nw 9 0,fun _=>nw 9 xx.val⟩,⟨22,25,25,nw 9 0,fun _=>nw 9 yv.val⟩,⟨23,26,25,nw 9 0,fun _=>nw 9 zz.val⟩] ?hs18 ?hr18 ?hv18 ?hf18
 case hs18=>
  exact .cons (.g 144 0 (c0.gr g1) rfl)<|.cons (.g 25 0 (c1.gr g1) rfl)<|.cons (.g 25 0 (c2.gr g1) rfl)<|.cons (.k _ fun yy vv hg hh=>RtW.of_c (Rt.c (Jp1 exx (hh 5 rfl))))<|.cons (.g 144 0 (c0.gr g1) rfl)<|.cons (.g 25 9 (c1.gr g1) rfl)<|.cons (.g 25 9 (c2.gr g1) rfl)<|.cons (.k _ fun yy vv hg hh=>RtW.of_c (Rt.c (Jp1 eyv (hh 12 rfl))))<|.cons (.g 144 0 (c0.gr g1) rfl)<|.cons (.g 25 18 (c1.gr g1) rfl)<|.cons (.g 25 18 (c2.gr g1) rfl)<|.cons (.k _ fun yy vv hg hh=>RtW.of_c (Rt.c (Jp1 ezz (hh 19 rfl)))) .nil
 case hr18=>
  exact .cons (.r (.buildSlice 183 1 #[(0,.const (.agg (nw 9 X2.val)))]) rfl (rowN1 _))<|.cons (.r (.buildSlice 183 1 #[(0,.const (.agg (nw 9 Y2.val)))]) rfl (rowN1 _))<|.cons (.r (.buildSlice 183 1 #[(0,.const (.agg (nw 9 Z2.val)))]) rfl (rowN1 _)) .nil
 case hv18=>
  exact .cons (.mk (fun _ _ _=>rfl) (fun _ v b H F=>by dsimp only at H ⊢; simp [go_sem,exI,H,F]) zNat)<|.cons (.mk (fun _ _ _=>rfl) (fun _ v b H F=>by dsimp only at H ⊢; simp [go_sem,exI,H,F]) zNat)<|.cons (.mk (fun _ _ _=>rfl) (fun _ v b H F=>by dsimp only at H ⊢; simp [go_sem,exI,H,F]) zNat) .nil
 intro yw2 v2 hg h2 hV2
 simp only [fzw,Kw.a,Kw.r]
 obtain ⟨⟨N2_21,V2_21⟩,⟨N2_22,V2_22⟩,⟨N2_23,V2_23⟩, -⟩:(v1.heap.size≤(yw2 21 0).2∧Vr v2 (yw2 21 0).2 (nw 9 xx.val))∧(v1.heap.size≤(yw2 22 0).2∧Vr v2 (yw2 22 0).2 (nw 9 yv.val))∧(v1.heap.size≤(yw2 23 0).2∧Vr v2 (yw2 23 0).2 (nw 9 zz.val))∧True:=hV2
 clear h2
 replace g1:=g1.trans hg
 have g2:=hg
 clear hg
 go_upto_region 3 with fail
 refine wp_y true [.c (.agg (cu (k:Int) (pN k) A.val B.val N X Y s z l)),.c (.agg (cu (k:Int) (pN k) A.val B.val N X Y s z l)),.c (pv (w.heap.size+1) 0),.N X1.val,.c (pv (w.heap.size+1+1) 9),.N Y2.val,.r 1 (nw 9 Y2.val),.N p1.val,.c (.agg (cu (k:Int) (pN k) A.val B.val N X Y s z l)),.c (pv (w.heap.size+1+1) 0),.N X2.val,.c (pv (w.heap.size+1) 9),.N Y1.val,.r 1 (nw 9 Y1.val),.N p2.val,.r 1 (nw 9 p2.val),.N xy.val,.a,.u] [0,1,3,5,7,8,10,12,14,16] [6,13,15] [⟨17,18,25,nw 9 0,fun _=>nw 9 xy.val⟩] ?hs19 ?hr19 ?hv19 ?hf19
 case hs19=>
  exact .cons (.g 144 0 (c0.gr g1) rfl)<|.cons (.g 144 0 (c0.gr g1) rfl)<|.cons (.g 25 0 (c1.gr g1) rfl)<|.cons (.g 25 9 (c2.gr g1) rfl)<|.cons (.k _ fun yy vv hg hh=>RtW.of_c (Rt.c (Jp1 ep1 (hh 6 rfl))))<|.cons (.g 144 0 (c0.gr g1) rfl)<|.cons (.g 25 0 (c2.gr g1) rfl)<|.cons (.g 25 9 (c1.gr g1) rfl)<|.cons (.k _ fun yy vv hg hh=>RtW.of_c (Rt.c (Jp1 ep2 (hh 13 rfl))))<|.cons (.k _ fun yy vv hg hh=>RtW.of_c (Rt.c (Js1 exy (hh 15 rfl)))) .nil
 case hr19=>
  exact .cons (.r (.buildSlice 183 1 #[(0,.const (.agg (nw 9 Y2.val)))]) rfl (rowN1 _))<|.cons (.r (.buildSlice 183 1 #[(0,.const (.agg (nw 9 Y1.val)))]) rfl (rowN1 _))<|.cons (.r (.buildSlice 183 1 #[(0,.const (.agg (nw 9 p2.val)))]) rfl (rowN1 _)) .nil
 case hv19=>
  refine .cons (.mk (fun _ _ _=>rfl) (fun _ v b H F=>by dsimp only at H ⊢; simp [go_sem,exI,H,F]) zNat) .nil
 intro yw3 v3 hg h3 hV3
 simp only [fzw,Kw.a,Kw.r]
 obtain ⟨⟨N3_17,V3_17⟩, -⟩:(v2.heap.size≤(yw3 17 0).2∧Vr v3 (yw3 17 0).2 (nw 9 xy.val))∧True:=hV3
 clear h3
 replace g1:=g1.trans hg
 replace g2:=g2.trans hg
 have g3:=hg
 clear hg
 go_upto_region 4 with fail
 refine wp_y true [.c (.agg (cu (k:Int) (pN k) A.val B.val N X Y s z l)),.c (.agg (cu (k:Int) (pN k) A.val B.val N X Y s z l)),.c (pv (w.heap.size+1) 0),.N X1.val,.c (pv (w.heap.size+1+1) 18),.N Z2.val,.r 1 (nw 9 Z2.val),.N p3.val,.c (.agg (cu (k:Int) (pN k) A.val B.val N X Y s z l)),.c (pv (w.heap.size+1+1) 0),.N X2.val,.c (pv (w.heap.size+1) 18),.N Z1.val,.r 1 (nw 9 Z1.val),.N p4.val,.r 1 (nw 9 p4.val),.N xz.val,.a,.u] [0,1,3,5,7,8,10,12,14,16] [6,13,15] [⟨17,18,25,nw 9 0,fun _=>nw 9 xz.val⟩] ?hs20 ?hr20 ?hv20 ?hf20
 case hs20=>
  exact .cons (.g 144 0 (c0.gr g1) rfl)<|.cons (.g 144 0 (c0.gr g1) rfl)<|.cons (.g 25 0 (c1.gr g1) rfl)<|.cons (.g 25 18 (c2.gr g1) rfl)<|.cons (.k _ fun yy vv hg hh=>RtW.of_c (Rt.c (Jp1 ep3 (hh 6 rfl))))<|.cons (.g 144 0 (c0.gr g1) rfl)<|.cons (.g 25 0 (c2.gr g1) rfl)<|.cons (.g 25 18 (c1.gr g1) rfl)<|.cons (.k _ fun yy vv hg hh=>RtW.of_c (Rt.c (Jp1 ep4 (hh 13 rfl))))<|.cons (.k _ fun yy vv hg hh=>RtW.of_c (Rt.c (Js1 exz (hh 15 rfl)))) .nil
 case hr20=>
  exact .cons (.r (.buildSlice 183 1 #[(0,.const (.agg (nw 9 Z2.val)))]) rfl (rowN1 _))<|.cons (.r (.buildSlice 183 1 #[(0,.const (.agg (nw 9 Z1.val)))]) rfl (rowN1 _))<|.cons (.r (.buildSlice 183 1 #[(0,.const (.agg (nw 9 p4.val)))]) rfl (rowN1 _)) .nil
 case hv20=>
  refine .cons (.mk (fun _ _ _=>rfl) (fun _ v b H F=>by dsimp only at H ⊢; simp [go_sem,exI,H,F]) zNat) .nil
 intro yw4 v4 hg h4 hV4
 simp only [fzw,Kw.a,Kw.r]
 obtain ⟨⟨N4_17,V4_17⟩, -⟩:(v3.heap.size≤(yw4 17 0).2∧Vr v4 (yw4 17 0).2 (nw 9 xz.val))∧True:=hV4
 clear h4
 replace g1:=g1.trans hg
 replace g2:=g2.trans hg
 replace g3:=g3.trans hg
 have g4:=hg
 clear hg
 go_upto_region 5 with fail
 refine wp_y true [.c (.agg (cu (k:Int) (pN k) A.val B.val N X Y s z l)),.c (.agg (cu (k:Int) (pN k) A.val B.val N X Y s z l)),.c (pv (w.heap.size+1) 9),.N Y1.val,.c (pv (w.heap.size+1+1) 18),.N Z2.val,.r 1 (nw 9 Z2.val),.N p5.val,.c (.agg (cu (k:Int) (pN k) A.val B.val N X Y s z l)),.c (pv (w.heap.size+1+1) 9),.N Y2.val,.c (pv (w.heap.size+1) 18),.N Z1.val,.r 1 (nw 9 Z1.val),.N p6.val,.r 1 (nw 9 p6.val),.N yz.val,.a,.u] [0,1,3,5,7,8,10,12,14,16] [6,13,15] [⟨17,18,25,nw 9 0,fun _=>nw 9 yz.val⟩] ?hs21 ?hr21 ?hv21 ?hf21
 case hs21=>
  exact .cons (.g 144 0 (c0.gr g1) rfl)<|.cons (.g 144 0 (c0.gr g1) rfl)<|.cons (.g 25 9 (c1.gr g1) rfl)<|.cons (.g 25 18 (c2.gr g1) rfl)<|.cons (.k _ fun yy vv hg hh=>RtW.of_c (Rt.c (Jp1 ep5 (hh 6 rfl))))<|.cons (.g 144 0 (c0.gr g1) rfl)<|.cons (.g 25 9 (c2.gr g1) rfl)<|.cons (.g 25 18 (c1.gr g1) rfl)<|.cons (.k _ fun yy vv hg hh=>RtW.of_c (Rt.c (Jp1 ep6 (hh 13 rfl))))<|.cons (.k _ fun yy vv hg hh=>RtW.of_c (Rt.c (Js1 eyz (hh 15 rfl)))) .nil
 case hr21=>
  exact .cons (.r (.buildSlice 183 1 #[(0,.const (.agg (nw 9 Z2.val)))]) rfl (rowN1 _))<|.cons (.r (.buildSlice 183 1 #[(0,.const (.agg (nw 9 Z1.val)))]) rfl (rowN1 _))<|.cons (.r (.buildSlice 183 1 #[(0,.const (.agg (nw 9 p6.val)))]) rfl (rowN1 _)) .nil
 case hv21=>
  refine .cons (.mk (fun _ _ _=>rfl) (fun _ v b H F=>by dsimp only at H ⊢; simp [go_sem,exI,H,F]) zNat) .nil
 intro yw5 v5 hg h5 hV5
 simp only [fzw,Kw.a,Kw.r]
 obtain ⟨⟨N5_17,V5_17⟩, -⟩:(v4.heap.size≤(yw5 17 0).2∧Vr v5 (yw5 17 0).2 (nw 9 yz.val))∧True:=hV5
 clear h5
 replace g1:=g1.trans hg
 replace g2:=g2.trans hg
 replace g3:=g3.trans hg
 replace g4:=g4.trans hg
 have g5:=hg
 clear hg
 go_upto_region 6 with fail
 refine wp_y false [.c (.agg (cu (k:Int) (pN k) A.val B.val N X Y s z l)),.c (pv (w.heap.size) 0),.c (pv (w.heap.size) 10),.N A.val,.N zz.val,.r 1 (nw 9 zz.val),.N az.val,.a,.u] [0,3,4,6] [5] [⟨7,8,25,nw 9 0,fun _=>nw 9 az.val⟩] ?hs22 ?hr22 ?hv22 ?hf22
 case hs22=>
  exact .cons (.g 144 0 (c0.gr g1) rfl)<|.cons (.g 25 10 (c0.gr g1) rfl)<|.cons (.g 25 0 (V2_23.gr g3) rfl)<|.cons (.k _ fun yy vv hg hh=>RtW.of_c (Rt.c (Jp1 eaz (hh 5 rfl)))) .nil
 case hr22=>
  refine .cons (.r (.buildSlice 183 1 #[(0,.const (.agg (nw 9 zz.val)))]) rfl (rowN1 _)) .nil
 case hv22=>
  refine .cons (.mk (fun _ _ _=>rfl) (fun _ v b H F=>by dsimp only at H ⊢; simp [go_sem,exI,H,F]) zNat) .nil
 intro yw6 v6 hg h6 hV6
 simp only [fzw,Kw.a,Kw.r]
 obtain ⟨⟨N6_7,V6_7⟩, -⟩:(v5.heap.size≤(yw6 7 0).2∧Vr v6 (yw6 7 0).2 (nw 9 az.val))∧True:=hV6
 clear h6
 replace g1:=g1.trans hg
 replace g2:=g2.trans hg
 replace g3:=g3.trans hg
 replace g4:=g4.trans hg
 replace g5:=g5.trans hg
 have g6:=hg
 clear hg
 go_upto_region 7 with fail
 refine wp_y true [.c (.agg (cu (k:Int) (pN k) A.val B.val N X Y s z l)),.c (.agg (cu (k:Int) (pN k) A.val B.val N X Y s z l)),.c (pv (w.heap.size) 0),.c (pv (w.heap.size) 10),.N A.val,.N xz.val,.r 1 (nw 9 xz.val),.N p7.val,.c (.agg (cu (k:Int) (pN k) A.val B.val N X Y s z l)),.N b3.val,.N zz.val,.r 1 (nw 9 zz.val),.N p8.val,.r 1 (nw 9 p8.val),.N pa.val,.a,.u] [0,1,4,5,7,8,9,10,12,14] [6,11,13] [⟨15,16,25,nw 9 0,fun _=>nw 9 pa.val⟩] ?hs23 ?hr23 ?hv23 ?hf23
 case hs23=>
  exact .cons (.g 144 0 (c0.gr g1) rfl)<|.cons (.g 144 0 (c0.gr g1) rfl)<|.cons (.g 25 10 (c0.gr g1) rfl)<|.cons (.g 25 0 (V4_17.gr g5) rfl)<|.cons (.k _ fun yy vv hg hh=>RtW.of_c (Rt.c (Jp1 ep7 (hh 6 rfl))))<|.cons (.g 144 0 (c0.gr g1) rfl)<|.cons (.g 25 0 (V1_12.gr g2) rfl)<|.cons (.g 25 0 (V2_23.gr g3) rfl)<|.cons (.k _ fun yy vv hg hh=>RtW.of_c (Rt.c (Jp1 ep8 (hh 11 rfl))))<|.cons (.k _ fun yy vv hg hh=>RtW.of_c (Rt.c (Js1 epa (hh 13 rfl)))) .nil
 case hr23=>
  exact .cons (.r (.buildSlice 183 1 #[(0,.const (.agg (nw 9 xz.val)))]) rfl (rowN1 _))<|.cons (.r (.buildSlice 183 1 #[(0,.const (.agg (nw 9 zz.val)))]) rfl (rowN1 _))<|.cons (.r (.buildSlice 183 1 #[(0,.const (.agg (nw 9 p8.val)))]) rfl (rowN1 _)) .nil
 case hv23=>
  refine .cons (.mk (fun _ _ _=>rfl) (fun _ v b H F=>by dsimp only at H ⊢; simp [go_sem,exI,H,F]) zNat) .nil
 intro yw7 v7 hg h7 hV7
 simp only [fzw,Kw.a,Kw.r]
 obtain ⟨⟨N7_15,V7_15⟩, -⟩:(v6.heap.size≤(yw7 15 0).2∧Vr v7 (yw7 15 0).2 (nw 9 pa.val))∧True:=hV7
 clear h7
 replace g1:=g1.trans hg
 replace g2:=g2.trans hg
 replace g3:=g3.trans hg
 replace g4:=g4.trans hg
 replace g5:=g5.trans hg
 replace g6:=g6.trans hg
 have g7:=hg
 clear hg
 go_upto_region 8 with fail
 refine wp_y true [.c (.agg (cu (k:Int) (pN k) A.val B.val N X Y s z l)),.N yv.val,.N pa.val,.N mi.val,.c (.agg (cu (k:Int) (pN k) A.val B.val N X Y s z l)),.N yv.val,.N pa.val,.r 1 (nw 9 pa.val),.N pl.val,.a,.a,.u,.u] [0,1,2,3,4,5,6,8] [7] [⟨9,11,25,nw 9 0,fun _=>nw 9 mi.val⟩,⟨10,12,25,nw 9 0,fun _=>nw 9 pl.val⟩] ?hs24 ?hr24 ?hv24 ?hf24
 case hs24=>
  exact .cons (.g 144 0 (c0.gr g1) rfl)<|.cons (.g 25 0 (V2_22.gr g3) rfl)<|.cons (.g 25 0 V7_15 rfl)<|.cons (.k _ fun yy vv hg hh=>RtW.of_c (Rt.c (Jd emi _)))<|.cons (.g 144 0 (c0.gr g1) rfl)<|.cons (.g 25 0 (V2_22.gr g3) rfl)<|.cons (.g 25 0 V7_15 rfl)<|.cons (.k _ fun yy vv hg hh=>RtW.of_c (Rt.c (Js1 epl (hh 7 rfl)))) .nil
 case hr24=>
  refine .cons (.r (.buildSlice 183 1 #[(0,.const (.agg (nw 9 pa.val)))]) rfl (rowN1 _)) .nil
 case hv24=>
  exact .cons (.mk (fun _ _ _=>rfl) (fun _ v b H F=>by dsimp only at H ⊢; simp [go_sem,exI,H,F]) zNat)<|.cons (.mk (fun _ _ _=>rfl) (fun _ v b H F=>by dsimp only at H ⊢; simp [go_sem,exI,H,F]) zNat) .nil
 intro yw8 v8 hg h8 hV8
 simp only [fzw,Kw.a,Kw.r]
 obtain ⟨⟨N8_9,V8_9⟩,⟨N8_10,V8_10⟩, -⟩:(v7.heap.size≤(yw8 9 0).2∧Vr v8 (yw8 9 0).2 (nw 9 mi.val))∧(v7.heap.size≤(yw8 10 0).2∧Vr v8 (yw8 10 0).2 (nw 9 pl.val))∧True:=hV8
 clear h8
 replace g1:=g1.trans hg
 replace g2:=g2.trans hg
 replace g3:=g3.trans hg
 replace g4:=g4.trans hg
 replace g5:=g5.trans hg
 replace g6:=g6.trans hg
 replace g7:=g7.trans hg
 have g8:=hg
 clear hg
 go_upto_region 9 with fail
 refine wp_v false [.c (.agg (cu (k:Int) (pN k) A.val B.val N X Y s z l)),.N xx.val,.N xx.val,.N xx.val,.N az.val,.r 3 (nw 9 xx.val++nw 9 xx.val++nw 9 az.val),.N st.val,.a,.u] [0,1,2,3,4,5,6] [⟨7,8,25,nw 9 0,fun _=>nw 9 st.val⟩] ?hs25 ?hv25 ?hf25
 case hs25=>
  exact .cons (.g 144 0 (c0.gr g1) rfl)<|.cons (.g 25 0 (V2_21.gr g3) rfl)<|.cons (.g 25 0 (V2_21.gr g3) rfl)<|.cons (.g 25 0 (V2_21.gr g3) rfl)<|.cons (.g 25 0 (V6_7.gr g7) rfl)<|.cons (.r (.buildSlice 183 3 #[(0,.const (.agg (nw 9 xx.val))),(1,.const (.agg (nw 9 xx.val))),(2,.const (.agg (nw 9 az.val)))]) rfl (rowN3 _ _ _))<|.cons (.k _ fun yy vv hg hh=>RtW.of_c (Rt.c (Js3 est (hh 5 rfl)))) .nil
 case hv25=>
  refine .cons (.mk (fun _ _ _=>rfl) (fun _ v b H F=>by dsimp only at H ⊢; simp [go_sem,exI,H,F]) zNat ⟨fkc,fkc,fkc,fkc,fkc,fkr (by simp [nw_size]),fkc,fka,fku,trivial⟩) .nil
 intro yw9 v9 hg h9 hV9
 simp only [fzw,Kw.a,Kw.r]
 obtain ⟨⟨N9_7,V9_7⟩, -⟩:(v8.heap.size≤(yw9 7 0).2∧Vr v9 (yw9 7 0).2 (nw 9 st.val))∧True:=hV9
 clear h9
 replace g1:=g1.trans hg
 replace g2:=g2.trans hg
 replace g3:=g3.trans hg
 replace g4:=g4.trans hg
 replace g5:=g5.trans hg
 replace g6:=g6.trans hg
 replace g7:=g7.trans hg
 replace g8:=g8.trans hg
 have g9:=hg
 clear hg
 go_upto_region 10 with fail
 refine wp_y true [.c (.agg (cu (k:Int) (pN k) A.val B.val N X Y s z l)),.c (.agg (cu (k:Int) (pN k) A.val B.val N X Y s z l)),.c (pv (w.heap.size) 0),.c (pv (w.heap.size) 10),.N A.val,.c (.agg (cu (k:Int) (pN k) A.val B.val N X Y s z l)),.N xx.val,.N az.val,.N d1.val,.r 1 (nw 9 d1.val),.N p9.val,.c (.agg (cu (k:Int) (pN k) A.val B.val N X Y s z l)),.N b3.val,.N xz.val,.r 1 (nw 9 xz.val),.N pt.val,.r 1 (nw 9 pt.val),.N fl.val,.a,.u] [0,1,4,5,6,7,8,10,11,12,13,15,17] [9,14,16] [⟨18,19,25,nw 9 0,fun _=>nw 9 fl.val⟩] ?hs26 ?hr26 ?hv26 ?hf26
 case hs26=>
  exact .cons (.g 144 0 (c0.gr g1) rfl)<|.cons (.g 144 0 (c0.gr g1) rfl)<|.cons (.g 25 10 (c0.gr g1) rfl)<|.cons (.g 144 0 (c0.gr g1) rfl)<|.cons (.g 25 0 (V2_21.gr g3) rfl)<|.cons (.g 25 0 (V6_7.gr g7) rfl)<|.cons (.k _ fun yy vv hg hh=>RtW.of_c (Rt.c (Jd ed1 _)))<|.cons (.k _ fun yy vv hg hh=>RtW.of_c (Rt.c (Jp1 ep9 (hh 9 rfl))))<|.cons (.g 144 0 (c0.gr g1) rfl)<|.cons (.g 25 0 (V1_12.gr g2) rfl)<|.cons (.g 25 0 (V4_17.gr g5) rfl)<|.cons (.k _ fun yy vv hg hh=>RtW.of_c (Rt.c (Jp1 ept (hh 14 rfl))))<|.cons (.k _ fun yy vv hg hh=>RtW.of_c (Rt.c (Js1 efl (hh 16 rfl)))) .nil
 case hr26=>
  exact .cons (.r (.buildSlice 183 1 #[(0,.const (.agg (nw 9 d1.val)))]) rfl (rowN1 _))<|.cons (.r (.buildSlice 183 1 #[(0,.const (.agg (nw 9 xz.val)))]) rfl (rowN1 _))<|.cons (.r (.buildSlice 183 1 #[(0,.const (.agg (nw 9 pt.val)))]) rfl (rowN1 _)) .nil
 case hv26=>
  refine .cons (.mk (fun _ _ _=>rfl) (fun _ v b H F=>by dsimp only at H ⊢; simp [go_sem,exI,H,F]) zNat) .nil
 intro yw10 v10 hg h10 hV10
 simp only [fzw,Kw.a,Kw.r]
 obtain ⟨⟨N10_18,V10_18⟩, -⟩:(v9.heap.size≤(yw10 18 0).2∧Vr v10 (yw10 18 0).2 (nw 9 fl.val))∧True:=hV10
 clear h10
 replace g1:=g1.trans hg
 replace g2:=g2.trans hg
 replace g3:=g3.trans hg
 replace g4:=g4.trans hg
 replace g5:=g5.trans hg
 replace g6:=g6.trans hg
 replace g7:=g7.trans hg
 replace g8:=g8.trans hg
 replace g9:=g9.trans hg
 have g10:=hg
 clear hg
 replace G:=G.trans g1
 replace c0:=c0.gr g1
 replace c1:=c1.gr g1
 replace c2:=c2.gr g1
 replace c3:=c3.gr g1
 replace V1_12:=V1_12.gr g2
 replace V2_21:=V2_21.gr g3
 replace V2_22:=V2_22.gr g3
 replace V2_23:=V2_23.gr g3
 replace V3_17:=V3_17.gr g4
 replace V4_17:=V4_17.gr g5
 replace V5_17:=V5_17.gr g6
 replace V6_7:=V6_7.gr g7
 replace V7_15:=V7_15.gr g8
 replace V8_9:=V8_9.gr g9
 replace V8_10:=V8_10.gr g9
 replace V9_7:=V9_7.gr g10
 clear g1 g10 g2 g3 g4 g5 g6 g7 g8 g9
 go_upto_region 11 with fail
 refine jadd_end h1 h2 er1 er2 eX3 er3 er4 eY3 er5 er6 eZ3 c0 c3 V3_17 V5_17 V8_9 V8_10 V9_7 V10_18 ?_
 intro a v' h6 hd hg hb
 go_wp2_with fail
 exact bodyPost_ret (res_one Tryz.results84 (rd_pj h6 (blk_setBlk _ _ _ (by rw [hb]; decide +kernel)))) hd ⟨rfl,gr_setNew (G.trans hg) (by omega)⟩
end
end
section
namespace EC
section
variable {p:Nat} [NeZero p] {i:Fin p→Fin p} {A B:Fin p}
def Tri (A B X Y Z:Fin p):Prop:=¬ (X=0∧Y=0∧Z=0)∧Y*Y*Z=X*X*X+A*X*(Z*Z)+B*(Z*Z*Z)
theorem std_tri {X Y Z:Fin p} {Q:Option (Fin p×Fin p)} (hQ:On A B Q) (s:Std X Y Z Q):Tri A B X Y Z:=by
 match Q,hQ,s with
 | none,_,⟨a,b,c⟩=>
  subst a c
  exact ⟨fun h=>b h.2.1,by clear b hQ s; grobner⟩
 | some (x,y),hQ,⟨a,b,c⟩=>
  subst b c
  refine ⟨fun h=>a h.2.2,?_⟩
  have e:y*Z*(y*Z)*Z=y*y*(Z*Z*Z):=by clear hQ s a; grobner
  rw [e,show y*y=_ from hQ]
  clear e hQ s a
  grobner
theorem tri_std (C:Cur i A B) {X Y Z:Fin p} (h:Tri A B X Y Z):On A B (if Z=0 then none else some (X*i Z,Y*i Z))∧Std X Y Z (if Z=0 then none else some (X*i Z,Y*i Z)):=by
 obtain ⟨h1,h2⟩:=h
 by_cases hz:Z=0
 ·subst hz
  rw [if_pos rfl]
  have hx:X*X*X=0:=by
   have e:X*X*X=X*X*X+A*X*(0*0)+B*(0*0*0):=by clear h2; grobner
   rw [e,← h2]; clear e h2; grobner
  have hx0:X=0:=by
   rcases nzd C.pr _ _ hx with h | h
   ·rcases nzd C.pr _ _ h with h | h <;> exact h
   ·exact h
  exact ⟨trivial,hx0,fun hy=>h1 ⟨hx0,hy,rfl⟩,rfl⟩
 ·rw [if_neg hz]
  have hi:=C.inv Z hz
  refine ⟨?_,hz,?_,?_⟩
  ·show Y*i Z*(Y*i Z)=X*i Z*(X*i Z)*(X*i Z)+A*(X*i Z)+B
   generalize i Z=j at *
   have e1:Y*j*(Y*j)=Y*Y*Z*(j*j*j)+Y*Y*(j*j)*(1-j*Z):=by clear h1 h2 hi; grobner
   have e2:X*j*(X*j)*(X*j)+A*(X*j)+B=(X*X*X+A*X*(Z*Z)+B*(Z*Z*Z))*(j*j*j)+A*X*j*(1-j*Z*(j*Z))+B*(1-j*Z*(j*Z)*(j*Z)):=by clear h1 h2 hi e1; grobner
   rw [e1,e2,hi,h2]
   clear e1 e2 hi h1 h2
   grobner
  ·have e:X*i Z*Z=X*(i Z*Z):=by clear h1 h2 hi; grobner
   rw [e,hi]; clear e hi h1 h2; grobner
  ·have e:Y*i Z*Z=Y*(i Z*Z):=by clear h1 h2 hi; grobner
   rw [e,hi]; clear e hi h1 h2; grobner
end
end EC
def ivN (k z:Nat):Nat:=z ^ (pN k-2)%pN k
def ptT (k:Nat) (T:T3):Q3:=if T.2.2=0 then inf else (T.1*ivN k T.2.2%pN k,T.2.1*ivN k T.2.2%pN k,false)
section
variable {k:Nat} (h1:1≤k) (h2:k≤15) [NeZero (pN k)]
theorem ptT_is (X Y Z:Fin (pN k)):ptT k (X.val,Y.val,Z.val)=encQ (if Z=0 then none else some (X*EC.iP (pN k) Z,Y*EC.iP (pN k) Z)):=by
 unfold ptT
 by_cases hz:Z=0
 ·subst hz
  rw [if_pos (Fin.val_zero _),if_pos rfl]
  rfl
 ·have hz':¬ Z.val=0:=fun e=>hz (Fin.ext (e.trans (Fin.val_zero _).symm))
  rw [if_neg hz',if_neg hz]
  show (_,_,_)=(_,_,_)
  rw [Prod.mk.injEq,Prod.mk.injEq]
  exact ⟨(Fin.val_mul X (EC.iP (pN k) Z)).symm,(Fin.val_mul Y (EC.iP (pN k) Z)).symm,rfl⟩
theorem tr_tri {X Y Z:Fin (pN k)} {Q:Q3} (h:TrQ k (X.val,Y.val,Z.val) Q):EC.Tri (EC.aF k h1 h2) (EC.bF k h1 h2) X Y Z:=by
 obtain ⟨o,X',Y',Z',e,s⟩:=h
 simp only [Prod.mk.injEq] at e
 obtain ⟨e1,e2,e3⟩:=e
 rw [Fin.ext e1,Fin.ext e2,Fin.ext e3]
 exact EC.std_tri (on_dec h1 h2 o) s
theorem tri_tr {X Y Z:Fin (pN k)} (h:EC.Tri (EC.aF k h1 h2) (EC.bF k h1 h2) X Y Z):TrQ k (X.val,Y.val,Z.val) (ptT k (X.val,Y.val,Z.val)):=by
 obtain ⟨o,s⟩:=EC.tri_std (EC.curN k h1 h2) h
 rw [ptT_is]
 refine ⟨on_enc h1 h2 o,X,Y,Z,rfl,fun {_}=>?_⟩
 rw [dec_enc]
 exact s
end
theorem TrQ.pt {k:Nat} (h1:1≤k) (h2:k≤15) {T:T3} {Q:Q3} (h:TrQ k T Q):ptT k T=Q:=by
 haveI:=EC.nzP k h1 h2
 have h':=h
 obtain ⟨-,X,Y,Z,rfl, -⟩:=h'
 exact TrQ.one h1 h2 (tri_tr h1 h2 (tr_tri h1 h2 h)) h
end
end Go.Proofs.YtpogpconfonljaaGreat