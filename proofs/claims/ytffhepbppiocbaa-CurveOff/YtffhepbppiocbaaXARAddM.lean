import Derived.Test.YtffhepbppiocbaaXARDiv
import Derived.Test.YtffhepbppiocbaaXARBit
import Derived.Test.YtffhepbppiocbaaXAFB
namespace Go.Proofs.Ytffhepbppiocbaa
open Go.RowKit Go.Proofs.Try
set_option maxRecDepth 100000
set_option maxHeartbeats 8000000
section
attribute [local go_sem ↓] uz1
attribute [local go_sem] uz2
section
attribute [local go_sem ↓] bsl_is
theorem dl_mul(a b k l:Nat)(ha:dl a≤k)(hb:dl b≤l):dl (a*b)≤k+l:=by
 have d:=(dl_le a k).1 ha;have f:=(dl_le b l).1 hb;rw[dl_le,pq_add];exact Nat.mul_lt_mul'' d f
theorem dl_low(a m k:Nat)(h:a≤m)(hm:dl m≤k):dl a≤k:=(dl_le _ k).2 (Nat.lt_of_le_of_lt h ((dl_le m k).1 hm))
theorem dl_add(a b k:Nat)(ha:dl a≤k)(hb:dl b≤k):dl (a+b)≤k+1:=by
 have d:=(dl_le a k).1 ha;have f:=(dl_le b k).1 hb;rw[dl_le,pq_succ]
 omega
theorem sl_new(w:World):Sl (w.alloc (.cells (nd 1 1) 55)) (some ⟨w.heap.size,0,none⟩) 1:=Sl.of_blk (n:=1) (by simp[go_sem]) (by simp[go_sem]) (by decide)
theorem rmulmod_any(a b m n n' n'':Nat)(p q r:Option Addr)(w:World)(hp:Sl w p a)(hq:Sl w q b)(hr:Sl w r m)(ha:dl a≤400)(hb:dl b≤400)(hm:dl m≤400)(h0:0<m):
 Calls prog 27 #[.slice p (dl a) n,.slice q (dl b) n',.slice r (dl m) n''] w (Nm (a*b%m) w):=by
 have f:=rmul_any a b n n' p q w hp hq (by omega) (by omega);have U:=dl_mul a b 400 400 ha hb;have d:=fun w' k p' (g:Gr w w') (h:Sl w' p' (a*b))=>rmod_any (a*b) m k n'' p' r w' h (hr.gr g) (by omega) (by omega) h0;obtain⟨P,C⟩:=exl (a*b);simp only[C]at f d ⊢;obtain⟨R,D⟩:=exl (P%m);simp only[D]at d ⊢;obtain⟨A,i⟩:=exl (dl a);obtain⟨B,j⟩:=exl (dl b);obtain⟨K,l⟩:=exl (dl m);rw[i,j]at f;simp only[l]at d;rw[i,j,l];have G:Hu (_):=fun _=>f;have H:Hid _:=d
 go_enter func27,ntmps27
 go_wp2_with (first
  | (go_at_call 31;refine(G.out ()).mono ?_;rintro e V ⟨W,X,rfl,I,x⟩)
  | (go_at_call 29;refine(H.out _ _ _ x I).mono ?_;rintro e Y ⟨J,L,rfl,Q,S⟩))
 go_ret
 exact⟨J,L,rfl,Q,x.trans S⟩
def subM(a b m:Nat):Nat:=if b≤a then a-b else a+m-b
theorem rsubmod_any(a b m n n' n'':Nat)(p q r:Option Addr)(w:World)(hp:Sl w p a)(hq:Sl w q b)(hr:Sl w r m)(hm:dl m≤400)(ha:a<m)(hb:b<m):
 Calls prog 69 #[.slice p (dl a) n,.slice q (dl b) n',.slice r (dl m) n''] w (Nm (subM a b m) w):=by
 have Y:=dl_low a m 400 (by omega) hm;have lb:=dl_low b m 400 (by omega) hm;have ls:=dl_add a m 400 Y hm;have l:=rcmp_any a b n n' p q w hp hq (by omega) (by omega);have Q:Hid (∀w',Gr w w'→Sl w' p a):=fun w' g=>hp.gr g;have S:Hid (∀w',Gr w w'→Sl w' q b):=fun w' g=>hq.gr g;have Z:Hid (∀w',Gr w w'→Sl w' r m):=fun w' g=>hr.gr g
 by_cases h:b≤a
 ·have f:=fun w' (g:Gr w w')=>rsub_any a b n n' p q w' (Q.out w' g) (S.out w' g) (by omega) h
  have U:(0:Int)≤cmpZ a b:=by unfold cmpZ;rw[if_neg (by omega)];split <;> decide
  obtain⟨z,D⟩:∃z,cmpZ a b=z:=⟨_,rfl⟩;rw[D]at l U;have z2:=decide_eq_true U;rw[show subM a b m=a-b by unfold subM;rw[if_pos h]];obtain⟨R,G⟩:=exl (a-b);simp only[G]at f ⊢;obtain⟨A,i⟩:=exl (dl a);obtain⟨B,j⟩:=exl (dl b);obtain⟨K,C⟩:=exl (dl m);rw[i,j]at l;simp only[i,j]at f;rw[i,j,C];have H:Hu (_):=fun _=>l;have I:Hid _:=f
  go_enter func69,ntmps69
  go_wp2_with (first
   | (go_at_call 26;refine(H.out ()).mono ?_;rintro e W1 ⟨rfl,x⟩)
   | (go_at_call 21;refine(I.out _ x).mono ?_;rintro e W2 ⟨V,W,rfl,J,L⟩))
  go_ret
  exact⟨V,W,rfl,J,x.trans L⟩
 ·have d:=fun w' (g:Gr w w')=>radd_any a m n n'' p r w' (Q.out w' g) (Z.out w' g) (by omega) (by omega);have f:=fun w' k p' (g:Gr w w') (h:Sl w' p' (a+m))=>rsub_any (a+m) b k n' p' q w' h (S.out w' g) (by omega) (by omega);rw[show cmpZ a b = -1 by unfold cmpZ;rw[if_pos (by omega)]]at l;rw[show subM a b m=a+m-b by unfold subM;rw[if_neg h]];obtain⟨P,hP⟩:=exl (a+m);simp only[hP]at d f ⊢;obtain⟨R,G⟩:=exl (P-b);simp only[G]at f ⊢;obtain⟨A,i⟩:=exl (dl a);obtain⟨B,j⟩:=exl (dl b);obtain⟨K,C⟩:=exl (dl m);rw[i,j]at l;simp only[i,j,C]at f d;rw[i,j,C];have H:Hu (_):=fun _=>l;have HA:Hid _:=d;have I:Hid _:=f
  go_enter func69,ntmps69
  go_wp2_with (first
   | (go_at_call 26;refine(H.out ()).mono ?_;rintro e W1 ⟨rfl,x⟩)
   | (go_at_call 30;refine(HA.out _ x).mono ?_;rintro e W2 ⟨V,W,rfl,J,L⟩;have X:=x.trans L)
   | (go_at_call 21;refine(I.out _ _ _ X J).mono ?_;rintro e W3 ⟨p3,n3,rfl,S3,G3⟩))
  go_ret
  exact⟨p3,n3,rfl,S3,X.trans G3⟩
end
section
theorem pq_twice(n:Nat):pq n*2≤pq (n+1):=by
 unfold pq;rw[show 32*(n+1)=32*n+32 by omega,Nat.pow_add];exact Nat.mul_le_mul_left _ (by decide)
theorem raddmod_any(a b m n n' n'':Nat)(p q r:Option Addr)(w:World)(hp:Sl w p a)(hq:Sl w q b)(hr:Sl w r m)(hm:dl m≤400)(ha:a<m)(hb:b<m):
 Calls prog 28 #[.slice p (dl a) n,.slice q (dl b) n',.slice r (dl m) n''] w (Nm ((a+b)%m) w):=by
 have la:=dl_low a m 400 (by omega) hm;have lb:=dl_low b m 400 (by omega) hm;obtain⟨S,hS⟩:=exl (a+b)
 have ls:dl S≤401:=by
  refine(dl_le _ 401).2 ?_;have I:=(dl_le a 400).1 la;have h2:=(dl_le b 400).1 lb;have h3:pq 400*2≤pq 401:=pq_twice 400
  omega
 have I:=radd_any a b n n' p q w hp hq (by omega) (by omega);rw[hS]at I ⊢;obtain⟨A,V⟩:=exl (dl a);obtain⟨B,W⟩:=exl (dl b);obtain⟨L,J⟩:=exl (dl m);obtain⟨z,K⟩:=exl (cmpZ S m);have H1:Hu (Calls prog 30 #[.slice p A n,.slice q B n'] w (Nm S w)):=fun _=>V▸W▸I;have P:Hid _:=fun d j k g h=>K▸J▸rcmp_any S m k n'' j r d h (hr.gr g) (by omega) (by omega);have X:Hid _:=fun d j k l g h=>J▸rsub_any S m k n'' j r d h (hr.gr g) (by omega) l;rw[V,W,J];obtain⟨D,Q⟩:=exl (dl S);rw[Q]at P X;have x:Hu (Calls prog 30 #[.slice p A n,.slice q B n'] w fun e d=>∃p n,e=.returned (.slice p D n)∧Sl d p S∧Gr w d):=fun _=>Q▸H1.out ()
 by_cases l:S<m
 ·have C:z = -1:=by rw[←K];unfold cmpZ;rw[if_pos l]
  subst C;rw[Nat.mod_eq_of_lt l]
  go_enter func28,ntmps28
  go_wp2_with (first
   | (go_at_call 30;refine(x.out ()).mono ?_;rintro e W1 ⟨Y,Z,rfl,G,f⟩)
   | (go_at_call 26;refine(P.out _ _ _ ?_ ?_).mono ?_;exact f;exact G;rintro e W2 ⟨rfl,i⟩))
  go_ret
  exact⟨Y,Z,by rw[Q];rfl,G.gr i,f.trans i⟩
 ·have C:0≤z:=by rw[←K];unfold cmpZ;rw[if_neg l];split <;> omega
  have H:m≤S:=by omega
  rw[show S%m=S-m by rw[Nat.mod_eq_sub_mod H];exact Nat.mod_eq_of_lt (by omega)];have U:Hid _:=fun d j k g h=>X.out d j k H g h
  go_enter func28,ntmps28
  go_wp2_with (first
   | (go_at_call 30;refine(x.out ()).mono ?_;rintro e W1 ⟨Y,Z,rfl,G,f⟩)
   | (go_at_call 26;refine(P.out _ _ _ ?_ ?_).mono ?_;exact f;exact G;rintro e W2 ⟨rfl,i⟩)
   | (go_at_call 21;refine(U.out _ _ _ ?_ ?_).mono ?_;exact f.trans i;exact G.gr i;rintro e W3 ⟨p3,n3,rfl,S3,G3⟩))
  go_ret
  exact⟨p3,n3,rfl,S3,(f.trans i).trans G3⟩
end
end
end Go.Proofs.Ytffhepbppiocbaa