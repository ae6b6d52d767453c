import Derived.Test.YtffhepbppiocbacGreatXBRDiv
import Derived.Test.YtffhepbppiocbacGreatXBRBit
import Derived.Test.YtffhepbppiocbacGreatXBFB
namespace Go.Proofs.YtffhepbppiocbacGreat
open Go.RowKit Go.Proofs.Tryz
set_option maxRecDepth 100000
set_option maxHeartbeats 8000000
section
attribute [local go_sem ↓] uz1
attribute [local go_sem] uz2
section
attribute [local go_sem ↓] bsl_is
theorem dl_mul(a b k l:Nat)(ha:dl a≤k)(hb:dl b≤l):dl (a*b)≤k+l:=by
 have d:=(dl_le a k).1 ha;have f:=(dl_le b l).1 hb;rw[dl_le,pq_add];exact Nat.mul_lt_mul'' d f
theorem dl_low(a m k:Nat)(h:a≤m)(hm:dl m≤k):dl a≤k:=(dl_le _ k).2 (Nat.lt_of_le_of_lt h ((dl_le m k).1 hm))
theorem dl_add(a b k:Nat)(ha:dl a≤k)(hb:dl b≤k):dl (a+b)≤k+1:=by
 have d:=(dl_le a k).1 ha;have f:=(dl_le b k).1 hb;rw[dl_le,pq_succ]
 omega
theorem sl_new(w:World):Sl (w.alloc (.cells (nd 1 1) 71)) (some ⟨w.heap.size,0,none⟩) 1:=Sl.of_blk (n:=1) (by simp[go_sem]) (by simp[go_sem]) (by decide)
theorem rmulmod_any(a b m n n' n'':Nat)(p q r:Option Addr)(w:World)(hp:Sl w p a)(hq:Sl w q b)(hr:Sl w r m)(ha:dl a≤400)(hb:dl b≤400)(hm:dl m≤400)(h0:0<m):
 Calls prog 44 #[.slice p (dl a) n,.slice q (dl b) n',.slice r (dl m) n''] w (Nm (a*b%m) w):=by
 have f:=rmul_any a b n n' p q w hp hq (by omega) (by omega);have V:=dl_mul a b 400 400 ha hb;have d:=fun w' k p' (g:Gr w w') (h:Sl w' p' (a*b))=>rmod_any (a*b) m k n'' p' r w' h (hr.gr g) (by omega) (by omega) h0;obtain⟨P,D⟩:=exl (a*b);simp only[D]at f d ⊢;obtain⟨R,G⟩:=exl (P%m);simp only[G]at d ⊢;obtain⟨A,i⟩:=exl (dl a);obtain⟨B,j⟩:=exl (dl b);obtain⟨K,x⟩:=exl (dl m);rw[i,j]at f;simp only[x]at d;rw[i,j,x];have H:Hu (_):=fun _=>f;have I:Hid _:=d
 go_enter func44,ntmps44
 go_wp2_with (first
  | (go_at_call 69;refine(H.out ()).mono ?_;rintro e W ⟨X,Y,rfl,J,C⟩)
  | (go_at_call 36;refine(I.out _ _ _ C J).mono ?_;rintro e Z ⟨L,Q,rfl,S,U⟩))
 go_ret
 exact⟨L,Q,rfl,S,C.trans U⟩
def subM(a b m:Nat):Nat:=if b≤a then a-b else a+m-b
theorem rsubmod_any(a b m n n' n'':Nat)(p q r:Option Addr)(w:World)(hp:Sl w p a)(hq:Sl w q b)(hr:Sl w r m)(hm:dl m≤400)(ha:a<m)(hb:b<m):
 Calls prog 70 #[.slice p (dl a) n,.slice q (dl b) n',.slice r (dl m) n''] w (Nm (subM a b m) w):=by
 have Z:=dl_low a m 400 (by omega) hm;have lb:=dl_low b m 400 (by omega) hm;have ls:=dl_add a m 400 Z hm;have x:=rcmp_any a b n n' p q w hp hq (by omega) (by omega);have S:Hid (∀w',Gr w w'→Sl w' p a):=fun w' g=>hp.gr g;have U:Hid (∀w',Gr w w'→Sl w' q b):=fun w' g=>hq.gr g;have HR:Hid (∀w',Gr w w'→Sl w' r m):=fun w' g=>hr.gr g
 by_cases h:b≤a
 ·have f:=fun w' (g:Gr w w')=>rsub_any a b n n' p q w' (S.out w' g) (U.out w' g) (by omega) h
  have V:(0:Int)≤cmpZ a b:=by unfold cmpZ;rw[if_neg (by omega)];split <;> decide
  obtain⟨z,G⟩:∃z,cmpZ a b=z:=⟨_,rfl⟩;rw[G]at x V;have z2:=decide_eq_true V;rw[show subM a b m=a-b by unfold subM;rw[if_pos h]];obtain⟨R,H⟩:=exl (a-b);simp only[H]at f ⊢;obtain⟨A,i⟩:=exl (dl a);obtain⟨B,j⟩:=exl (dl b);obtain⟨K,D⟩:=exl (dl m);rw[i,j]at x;simp only[i,j]at f;rw[i,j,D];have I:Hu (_):=fun _=>x;have J:Hid _:=f
  go_enter func70,ntmps70
  go_wp2_with (first
   | (go_at_call 33;refine(I.out ()).mono ?_;rintro e W1 ⟨rfl,C⟩)
   | (go_at_call 40;refine(J.out _ C).mono ?_;rintro e W2 ⟨W,X,rfl,L,Q⟩))
  go_ret
  exact⟨W,X,rfl,L,C.trans Q⟩
 ·have d:=fun w' (g:Gr w w')=>radd_any a m n n'' p r w' (S.out w' g) (HR.out w' g) (by omega) (by omega);have f:=fun w' k p' (g:Gr w w') (h:Sl w' p' (a+m))=>rsub_any (a+m) b k n' p' q w' h (U.out w' g) (by omega) (by omega);rw[show cmpZ a b = -1 by unfold cmpZ;rw[if_pos (by omega)]]at x;rw[show subM a b m=a+m-b by unfold subM;rw[if_neg h]];obtain⟨P,hP⟩:=exl (a+m);simp only[hP]at d f ⊢;obtain⟨R,H⟩:=exl (P-b);simp only[H]at f ⊢;obtain⟨A,i⟩:=exl (dl a);obtain⟨B,j⟩:=exl (dl b);obtain⟨K,D⟩:=exl (dl m);rw[i,j]at x;simp only[i,j,D]at f d;rw[i,j,D];have I:Hu (_):=fun _=>x;have HA:Hid _:=d;have J:Hid _:=f
  go_enter func70,ntmps70
  go_wp2_with (first
   | (go_at_call 33;refine(I.out ()).mono ?_;rintro e W1 ⟨rfl,C⟩)
   | (go_at_call 48;refine(HA.out _ C).mono ?_;rintro e W2 ⟨W,X,rfl,L,Q⟩;have Y:=C.trans Q)
   | (go_at_call 40;refine(J.out _ _ _ Y L).mono ?_;rintro e W3 ⟨p3,n3,rfl,S3,G3⟩))
  go_ret
  exact⟨p3,n3,rfl,S3,Y.trans G3⟩
end
section
theorem pq_twice(n:Nat):pq n*2≤pq (n+1):=by
 unfold pq;rw[show 32*(n+1)=32*n+32 by omega,Nat.pow_add];exact Nat.mul_le_mul_left _ (by decide)
theorem raddmod_any(a b m n n' n'':Nat)(p q r:Option Addr)(w:World)(hp:Sl w p a)(hq:Sl w q b)(hr:Sl w r m)(hm:dl m≤400)(ha:a<m)(hb:b<m):
 Calls prog 43 #[.slice p (dl a) n,.slice q (dl b) n',.slice r (dl m) n''] w (Nm ((a+b)%m) w):=by
 have la:=dl_low a m 400 (by omega) hm;have lb:=dl_low b m 400 (by omega) hm;obtain⟨S,hS⟩:=exl (a+b)
 have ls:dl S≤401:=by
  refine(dl_le _ 401).2 ?_;have J:=(dl_le a 400).1 la;have h2:=(dl_le b 400).1 lb;have h3:pq 400*2≤pq 401:=pq_twice 400
  omega
 have J:=radd_any a b n n' p q w hp hq (by omega) (by omega);rw[hS]at J ⊢;obtain⟨A,W⟩:=exl (dl a);obtain⟨B,X⟩:=exl (dl b);obtain⟨L,K⟩:=exl (dl m);obtain⟨z,P⟩:=exl (cmpZ S m);have H1:Hu (Calls prog 48 #[.slice p A n,.slice q B n'] w (Nm S w)):=fun _=>W▸X▸J;have Q:Hid _:=fun d j k g h=>P▸K▸rcmp_any S m k n'' j r d h (hr.gr g) (by omega) (by omega);have Y:Hid _:=fun d j k x g h=>K▸rsub_any S m k n'' j r d h (hr.gr g) (by omega) x;rw[W,X,K];obtain⟨D,U⟩:=exl (dl S);rw[U]at Q Y;have C:Hu (Calls prog 48 #[.slice p A n,.slice q B n'] w fun e d=>∃p n,e=.returned (.slice p D n)∧Sl d p S∧Gr w d):=fun _=>U▸H1.out ()
 by_cases x:S<m
 ·have G:z = -1:=by rw[←P];unfold cmpZ;rw[if_pos x]
  subst G;rw[Nat.mod_eq_of_lt x]
  go_enter func43,ntmps43
  go_wp2_with (first
   | (go_at_call 48;refine(C.out ()).mono ?_;rintro e W1 ⟨Z,n1,rfl,H,f⟩)
   | (go_at_call 33;refine(Q.out _ _ _ ?_ ?_).mono ?_;exact f;exact H;rintro e W2 ⟨rfl,i⟩))
  go_ret
  exact⟨Z,n1,by rw[U];rfl,H.gr i,f.trans i⟩
 ·have G:0≤z:=by rw[←P];unfold cmpZ;rw[if_neg x];split <;> omega
  have I:m≤S:=by omega
  rw[show S%m=S-m by rw[Nat.mod_eq_sub_mod I];exact Nat.mod_eq_of_lt (by omega)];have V:Hid _:=fun d j k g h=>Y.out d j k I g h
  go_enter func43,ntmps43
  go_wp2_with (first
   | (go_at_call 48;refine(C.out ()).mono ?_;rintro e W1 ⟨Z,n1,rfl,H,f⟩)
   | (go_at_call 33;refine(Q.out _ _ _ ?_ ?_).mono ?_;exact f;exact H;rintro e W2 ⟨rfl,i⟩)
   | (go_at_call 40;refine(V.out _ _ _ ?_ ?_).mono ?_;exact f.trans i;exact H.gr i;rintro e W3 ⟨p3,n3,rfl,S3,G3⟩))
  go_ret
  exact⟨p3,n3,rfl,S3,(f.trans i).trans G3⟩
end
end
end Go.Proofs.YtffhepbppiocbacGreat