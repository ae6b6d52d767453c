import Derived.Test.YtiigakdbabijhaaGreatXARDiv
import Derived.Test.YtiigakdbabijhaaGreatXARBit
import Derived.Test.YtiigakdbabijhaaGreatXAFB
namespace Go.Proofs.YtiigakdbabijhaaGreat
open Go.RowKit Go.Proofs.Tryz
set_option maxRecDepth 100000
set_option maxHeartbeats 8000000
section
attribute [local go_sem ↓] uz1
attribute [local go_sem] uz2
section
attribute [local go_sem ↓] bsl_is
theorem dl_mul(a b k l:Nat)(ha:dl a≤k)(hb:dl b≤l):dl (a*b)≤k+l:=by
 have d:=(dl_le a k).1 ha;have f:=(dl_le b l).1 hb;rw[dl_le,pq_add];exact Nat.mul_lt_mul'' d f
theorem dl_low(a m k:Nat)(h:a≤m)(hm:dl m≤k):dl a≤k:=(dl_le _ k).2 (Nat.lt_of_le_of_lt h ((dl_le m k).1 hm))
theorem dl_add(a b k:Nat)(ha:dl a≤k)(hb:dl b≤k):dl (a+b)≤k+1:=by
 have d:=(dl_le a k).1 ha;have f:=(dl_le b k).1 hb;rw[dl_le,pq_succ]
 omega
theorem sl_new(w:World):Sl (w.alloc (.cells (nd 1 1) 58)) (some ⟨w.heap.size,0,none⟩) 1:=Sl.of_blk (n:=1) (by simp[go_sem]) (by simp[go_sem]) (by decide)
theorem rmulmod_any(a b m n n' n'':Nat)(p q r:Option Addr)(w:World)(hp:Sl w p a)(hq:Sl w q b)(hr:Sl w r m)(ha:dl a≤400)(hb:dl b≤400)(hm:dl m≤400)(h0:0<m):
 Calls prog 59 #[.slice p (dl a) n,.slice q (dl b) n',.slice r (dl m) n''] w (Nm (a*b%m) w):=by
 have f:=rmul_any a b n n' p q w hp hq (by omega) (by omega);have S:=dl_mul a b 400 400 ha hb;have d:=fun w' k p' (g:Gr w w') (h:Sl w' p' (a*b))=>rmod_any (a*b) m k n'' p' r w' h (hr.gr g) (by omega) (by omega) h0;obtain⟨P,x⟩:=exl (a*b);simp only[x]at f d ⊢;obtain⟨R,C⟩:=exl (P%m);simp only[C]at d ⊢;obtain⟨A,i⟩:=exl (dl a);obtain⟨B,j⟩:=exl (dl b);obtain⟨K,l⟩:=exl (dl m);rw[i,j]at f;simp only[l]at d;rw[i,j,l];have D:Hu (_):=fun _=>f;have G:Hid _:=d
 go_enter func59,ntmps59
 go_wp2_with (first
  | (go_at_call 74;refine(D.out ()).mono ?_;rintro e U ⟨V,W,rfl,H,v⟩)
  | (go_at_call 73;refine(G.out _ _ _ v H).mono ?_;rintro e X ⟨I,J,rfl,L,Q⟩))
 go_ret
 exact⟨I,J,rfl,L,v.trans Q⟩
def subM(a b m:Nat):Nat:=if b≤a then a-b else a+m-b
theorem rsubmod_any(a b m n n' n'':Nat)(p q r:Option Addr)(w:World)(hp:Sl w p a)(hq:Sl w q b)(hr:Sl w r m)(hm:dl m≤400)(ha:a<m)(hb:b<m):
 Calls prog 62 #[.slice p (dl a) n,.slice q (dl b) n',.slice r (dl m) n''] w (Nm (subM a b m) w):=by
 have X:=dl_low a m 400 (by omega) hm;have lb:=dl_low b m 400 (by omega) hm;have ls:=dl_add a m 400 X hm;have l:=rcmp_any a b n n' p q w hp hq (by omega) (by omega);have L:Hid (∀w',Gr w w'→Sl w' p a):=fun w' g=>hp.gr g;have Q:Hid (∀w',Gr w w'→Sl w' q b):=fun w' g=>hq.gr g;have Y:Hid (∀w',Gr w w'→Sl w' r m):=fun w' g=>hr.gr g
 by_cases h:b≤a
 ·have f:=fun w' (g:Gr w w')=>rsub_any a b n n' p q w' (L.out w' g) (Q.out w' g) (by omega) h
  have S:(0:Int)≤cmpZ a b:=by unfold cmpZ;rw[if_neg (by omega)];split <;> decide
  obtain⟨z,C⟩:∃z,cmpZ a b=z:=⟨_,rfl⟩;rw[C]at l S;have z2:=decide_eq_true S;rw[show subM a b m=a-b by unfold subM;rw[if_pos h]];obtain⟨R,D⟩:=exl (a-b);simp only[D]at f ⊢;obtain⟨A,i⟩:=exl (dl a);obtain⟨B,j⟩:=exl (dl b);obtain⟨K,x⟩:=exl (dl m);rw[i,j]at l;simp only[i,j]at f;rw[i,j,x];have G:Hu (_):=fun _=>l;have H:Hid _:=f
  go_enter func62,ntmps62
  go_wp2_with (first
   | (go_at_call 41;refine(G.out ()).mono ?_;rintro e Z ⟨rfl,v⟩)
   | (go_at_call 31;refine(H.out _ v).mono ?_;rintro e W2 ⟨U,V,rfl,I,J⟩))
  go_ret
  exact⟨U,V,rfl,I,v.trans J⟩
 ·have d:=fun w' (g:Gr w w')=>radd_any a m n n'' p r w' (L.out w' g) (Y.out w' g) (by omega) (by omega);have f:=fun w' k p' (g:Gr w w') (h:Sl w' p' (a+m))=>rsub_any (a+m) b k n' p' q w' h (Q.out w' g) (by omega) (by omega);rw[show cmpZ a b = -1 by unfold cmpZ;rw[if_pos (by omega)]]at l;rw[show subM a b m=a+m-b by unfold subM;rw[if_neg h]];obtain⟨P,hP⟩:=exl (a+m);simp only[hP]at d f ⊢;obtain⟨R,D⟩:=exl (P-b);simp only[D]at f ⊢;obtain⟨A,i⟩:=exl (dl a);obtain⟨B,j⟩:=exl (dl b);obtain⟨K,x⟩:=exl (dl m);rw[i,j]at l;simp only[i,j,x]at f d;rw[i,j,x];have G:Hu (_):=fun _=>l;have HA:Hid _:=d;have H:Hid _:=f
  go_enter func62,ntmps62
  go_wp2_with (first
   | (go_at_call 41;refine(G.out ()).mono ?_;rintro e Z ⟨rfl,v⟩)
   | (go_at_call 25;refine(HA.out _ v).mono ?_;rintro e W2 ⟨U,V,rfl,I,J⟩;have W:=v.trans J)
   | (go_at_call 31;refine(H.out _ _ _ W I).mono ?_;rintro e W3 ⟨p3,n3,rfl,S3,G3⟩))
  go_ret
  exact⟨p3,n3,rfl,S3,W.trans G3⟩
theorem rpow_any(a f m n n' n'':Nat)(p q r:Option Addr)(w:World)(hp:Sl w p a)(hq:Sl w q f)(hr:Sl w r m)(ha:dl a≤400)(hf:dl f≤400)(hm:dl m≤400)(h0:0<m):
 Calls prog 60 #[.slice p (dl a) n,.slice q (dl f) n',.slice r (dl m) n''] w (Nm (a^f%m) w):=by
 have h1:=fun d k p' (g:Gr w d) (h:Sl d p' 1)=>rmod_any 1 m k n'' p' r d h (hr.gr g) (by decide) (by omega) h0;have h2:=fun d (g:Gr w d)=>rmod_any a m n n'' p r d (hp.gr g) (hr.gr g) (by omega) (by omega) h0;have h3:=fun d (g:Gr w d)=>rbits_any f n' q d (hq.gr g) (by omega);have h4:=fun d (i:Nat) (g:Gr w d) (hi:i≤100000)=>rbit_any f n' i q d (hq.gr g) (by omega);have h5:=fun d O O' P k k' p1 p2 (g:Gr w d) (s1:Sl d p1 O) (s2:Sl d p2 O') (l1:O<m) (l2:O'<m) (e:O*O'%m=P)=>(e▸rmulmod_any O O' m k k' n'' p1 p2 r d s1 s2 (hr.gr g) (dl_low O m 400 (by omega) hm) (dl_low O' m 400 (by omega) hm) hm h0:Calls prog 59 #[.slice p1 (dl O) k,.slice p2 (dl O') k',.slice r (dl m) n''] d (Nm P d))
 have J:bl f≤12800:=by have:(bl f+31)/32≤400:=hf;omega
 have x:f/2^bl f=0:=Nat.div_eq_of_lt ((bl_le f (bl f)).1 (Nat.le_refl _));have hX:a%m<m:=Nat.mod_lt _ h0;have D:(a%m)^f%m=a^f%m:=(Nat.pow_mod a f m).symm;obtain⟨X,eX⟩:=exl (a%m);obtain⟨R,eR⟩:=exl (a^f%m);obtain⟨O1,eO⟩:=exl (1%m);obtain⟨B,eB⟩:=exl (bl f);obtain⟨A,eA⟩:=exl (dl a);obtain⟨E,eE⟩:=exl (dl f);obtain⟨K,eK⟩:=exl (dl m);simp only[eX,eR,eO,eB,eA,eE,eK]at h1 h2 h3 h4 h5 J x hX D ⊢;have H1:Hid _:=h1;have H2:Hid _:=h2;have H3:Hid _:=h3;have H4:Hid _:=h4;have H5:Hid _:=h5;have L:Hu (B≤12800∧f/2^B=0∧X<m∧X^f%m=R∧1%m=O1∧0<m):=fun _=>⟨J,x,hX,D,eO,h0⟩;have ab:∀w,(bslS 29 1 #[(0,.int .u32 1)]).run prog w=.ok (.slice (some ⟨w.heap.size,0,none⟩) 1 1) (w.alloc (.cells (nd 1 1) 58)):=fun w=>build1 1 (by decide) w
 have B1:(B:Int)≤12800:=by omega
 clear h1 h2 h3 h4 h5 J x hX D hp hq hr ha hf hm h0 eX eR eO eB eA eE eK
 go_enter func60,ntmps60
 go_upto_region 4 with (first
  | (go_at_call_of 73 (Value.slice p A n);refine(H2.out _ GW1).mono ?_;rintro e W ⟨px,nx,rfl,SX,G2⟩;have S:=GW1.trans G2;have Y:=SO.gr G2)
  | (go_at_call 73;refine(H1.out _ _ _ ((Gr.refl _).alloc _) (sl_new w)).mono ?_;rintro e W1 ⟨po,no,rfl,SO,G1⟩;have GW1:=((Gr.refl w).alloc _).trans G1)
  | (go_at_call 44;refine(H3.out _ S).mono ?_;rintro e W ⟨rfl,rfl⟩))
 have v:Hid (Sl W po O1∧Sl W px X∧Gr w W):=⟨Y,SX,S⟩;clear H1 H2 H3 ab SO G1 GW1 SX G2 S Y
 go_loopw [7,9] (fun oa ia wr=>∃(j O:Nat) (p1:Option Addr) (n1:Nat),oa=.slice p1 (dl O) n1∧ia=.int .i64 ((j:Int)-1)∧Hu (j≤B∧X^(f/2^j)%m=O)∧Hid (Sl wr p1 O∧Gr W wr)) (fun _ ia _=>(intOf ia+1).toNat)
 case atStart=>exact⟨B,O1,po,no,rfl,rfl,fun _=>⟨Nat.le_refl _,by rw[(L.out ()).2.1,Nat.pow_zero];exact(L.out ()).2.2.2.2.1⟩,⟨v.out.1,Gr.refl _⟩⟩
 case round=>
  obtain⟨j,O,p1,n1,rfl,rfl,I,l⟩:=hrel
  by_cases hpos:0<j
  ·obtain⟨i,rfl⟩:∃i,j=i+1:=⟨j-1,by omega⟩
   have e1:(((i+1:Nat):Int)-1)=(i:Int):=by omega
   rw[e1]
   have i0:(0:Int)≤i:=by omega
   have i1:(i:Int)<12800:=by have:=I.out ();omega
   have hO:O<m:=by rw[←(I.out ()).2];exact Nat.mod_lt _ (L.out ()).2.2.2.2.2
   obtain⟨P,hP⟩:=exl (O*O%m)
   have Z:P<m:=by rw[←hP];exact Nat.mod_lt _ (L.out ()).2.2.2.2.2
   obtain⟨Q,hQ⟩:=exl (P*X%m);have aa:=pow_half X f i;obtain⟨β,hβ⟩:=exl (bitN f i)
   have ac:β=0∨β=1:=by rw[←hβ];unfold bitN;omega
   have H:Hid (∀d,Gr w d→Calls prog 39 #[.slice q E n',.int .i64 i] d fun e G=>e=.returned (.int .i64 β)∧G=d):=fun d g=>by
    have h:=H4.out d i g (by omega);rw[hβ]at h;exact h
   have C:Hu (O<m∧O*O%m=P∧P<m∧P*X%m=Q∧X^(f/2^i)=X^(f/2^(i+1))*X^(f/2^(i+1))*X^β):=fun _=>⟨hO,hP,Z,hQ,by rw[←hβ];exact aa⟩;clear e1 hpos hO hP Z hQ aa hβ
   rcases ac with rfl|rfl
   ·have U:Hid (∀d,Gr w d→Calls prog 39 #[.slice q E n',.int .i64 i] d fun e G=>e=.returned (.int .i64 0)∧G=d):=H;clear H
    go_wp2_with (first
     | (go_at_call 59;refine(H5.out _ O O P n1 n1 p1 p1 (v.out.2.2.trans l.out.2) l.out.1 l.out.1 (C.out ()).1 (C.out ()).1 (C.out ()).2.1).mono ?_;rintro e W3 ⟨p3,n3,rfl,S3,V⟩)
     | (go_at_call 39;refine(U.out _ ((v.out.2.2.trans l.out.2).trans V)).mono ?_;rintro e d ⟨rfl,rfl⟩))
    go_roundw
    case rel=>
     refine⟨i,P,p3,n3,rfl,rfl,fun _=>⟨by have:=I.out ();omega,?_⟩,⟨S3,l.out.2.trans V⟩⟩;rw[(C.out ()).2.2.2.2,Nat.pow_zero,Nat.mul_one,←pow_sq,(I.out ()).2];exact(C.out ()).2.1
    case measure=>simp[intOf]
   ·have U:Hid (∀d,Gr w d→Calls prog 39 #[.slice q E n',.int .i64 i] d fun e G=>e=.returned (.int .i64 1)∧G=d):=H;clear H
    go_wp2_with (first
     | (go_at_call_of 59 (Value.slice p1 (dl O) n1);refine(H5.out _ O O P n1 n1 p1 p1 (v.out.2.2.trans l.out.2) l.out.1 l.out.1 (C.out ()).1 (C.out ()).1 (C.out ()).2.1).mono ?_;rintro e W3 ⟨p3,n3,rfl,S3,V⟩)
     | (go_at_call 39;refine(U.out _ ((v.out.2.2.trans l.out.2).trans V)).mono ?_;rintro e d ⟨rfl,rfl⟩)
     | (go_at_call 59;refine(H5.out _ P X Q n3 nx p3 px ((v.out.2.2.trans l.out.2).trans V) S3 (v.out.2.1.gr (l.out.2.trans V)) (C.out ()).2.2.1 (L.out ()).2.2.1 (C.out ()).2.2.2.1).mono ?_;rintro e W4 ⟨p4,n4,rfl,S4,G4⟩))
    go_roundw
    case rel=>
     refine⟨i,Q,p4,n4,rfl,rfl,fun _=>⟨by have:=I.out ();omega,?_⟩,⟨S4,(l.out.2.trans V).trans G4⟩⟩;rw[(C.out ()).2.2.2.2,Nat.pow_one,←pow_mul,←pow_sq,(I.out ()).2,(C.out ()).2.1];exact(C.out ()).2.2.2.1
    case measure=>simp[intOf]
  ·obtain rfl:j=0:=by omega
   have hE:O=R:=by rw[←(I.out ()).2,Nat.pow_zero,Nat.div_one];exact(L.out ()).2.2.2.1
   subst hE;clear I H4 H5 L hpos
   go_wp2
   go_ret
   exact⟨p1,n1,rfl,l.out.1,v.out.2.2.trans l.out.2⟩
end
section
theorem pq_twice(n:Nat):pq n*2≤pq (n+1):=by
 unfold pq;rw[show 32*(n+1)=32*n+32 by omega,Nat.pow_add];exact Nat.mul_le_mul_left _ (by decide)
theorem raddmod_any(a b m n n' n'':Nat)(p q r:Option Addr)(w:World)(hp:Sl w p a)(hq:Sl w q b)(hr:Sl w r m)(hm:dl m≤400)(ha:a<m)(hb:b<m):
 Calls prog 61 #[.slice p (dl a) n,.slice q (dl b) n',.slice r (dl m) n''] w (Nm ((a+b)%m) w):=by
 have Y:=dl_low a m 400 (by omega) hm;have Z:=dl_low b m 400 (by omega) hm;obtain⟨S,hS⟩:=exl (a+b)
 have ls:dl S≤401:=by
  refine(dl_le _ 401).2 ?_;have H:=(dl_le a 400).1 Y;have h2:=(dl_le b 400).1 Z;have h3:pq 400*2≤pq 401:=pq_twice 400
  omega
 have H:=radd_any a b n n' p q w hp hq (by omega) (by omega);rw[hS]at H ⊢;obtain⟨A,R⟩:=exl (dl a);obtain⟨B,U⟩:=exl (dl b);obtain⟨L,I⟩:=exl (dl m);obtain⟨z,J⟩:=exl (cmpZ S m);have H1:Hu (Calls prog 25 #[.slice p A n,.slice q B n'] w (Nm S w)):=fun _=>R▸U▸H;have K:Hid _:=fun d j k g h=>J▸I▸rcmp_any S m k n'' j r d h (hr.gr g) (by omega) (by omega);have V:Hid _:=fun d j k l g h=>I▸rsub_any S m k n'' j r d h (hr.gr g) (by omega) l;rw[R,U,I];obtain⟨D,P⟩:=exl (dl S);rw[P]at K V;have v:Hu (Calls prog 25 #[.slice p A n,.slice q B n'] w fun e d=>∃p n,e=.returned (.slice p D n)∧Sl d p S∧Gr w d):=fun _=>P▸H1.out ()
 by_cases l:S<m
 ·have x:z = -1:=by rw[←J];unfold cmpZ;rw[if_pos l]
  subst x;rw[Nat.mod_eq_of_lt l]
  go_enter func61,ntmps61
  go_wp2_with (first
   | (go_at_call 25;refine(v.out ()).mono ?_;rintro e W1 ⟨W,X,rfl,C,f⟩)
   | (go_at_call 41;refine(K.out _ _ _ ?_ ?_).mono ?_;exact f;exact C;rintro e W2 ⟨rfl,i⟩))
  go_ret
  exact⟨W,X,by rw[P];rfl,C.gr i,f.trans i⟩
 ·have x:0≤z:=by rw[←J];unfold cmpZ;rw[if_neg l];split <;> omega
  have G:m≤S:=by omega
  rw[show S%m=S-m by rw[Nat.mod_eq_sub_mod G];exact Nat.mod_eq_of_lt (by omega)];have Q:Hid _:=fun d j k g h=>V.out d j k G g h
  go_enter func61,ntmps61
  go_wp2_with (first
   | (go_at_call 25;refine(v.out ()).mono ?_;rintro e W1 ⟨W,X,rfl,C,f⟩)
   | (go_at_call 41;refine(K.out _ _ _ ?_ ?_).mono ?_;exact f;exact C;rintro e W2 ⟨rfl,i⟩)
   | (go_at_call 31;refine(Q.out _ _ _ ?_ ?_).mono ?_;exact f.trans i;exact C.gr i;rintro e W3 ⟨p3,n3,rfl,S3,G3⟩))
  go_ret
  exact⟨p3,n3,rfl,S3,(f.trans i).trans G3⟩
end
end
end Go.Proofs.YtiigakdbabijhaaGreat