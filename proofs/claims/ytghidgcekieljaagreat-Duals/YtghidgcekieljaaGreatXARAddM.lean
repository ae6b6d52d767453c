import Derived.Test.YtghidgcekieljaaGreatXARDiv
import Derived.Test.YtghidgcekieljaaGreatXARBit
import Derived.Test.YtghidgcekieljaaGreatXAFB
namespace Go.Proofs.YtghidgcekieljaaGreat
open Go.RowKit Go.Proofs.Tryz
set_option maxRecDepth 100000
set_option maxHeartbeats 8000000
section
attribute [local go_sem ↓] uz1
attribute [local go_sem] uz2
section
attribute [local go_sem ↓] bsl_is
theorem dl_mul(a b k l:Nat)(ha:dl a≤k)(hb:dl b≤l):dl (a*b)≤k+l:=by
 have h1:=(dl_le a k).1 ha;have h2:=(dl_le b l).1 hb;rw[dl_le,pq_add];exact Nat.mul_lt_mul'' h1 h2
theorem dl_low(a m k:Nat)(h:a≤m)(hm:dl m≤k):dl a≤k:=(dl_le _ k).2 (Nat.lt_of_le_of_lt h ((dl_le m k).1 hm))
theorem dl_add(a b k:Nat)(ha:dl a≤k)(hb:dl b≤k):dl (a+b)≤k+1:=by
 have h1:=(dl_le a k).1 ha;have h2:=(dl_le b k).1 hb;rw[dl_le,pq_succ]
 omega
theorem sl_new(w:World):Sl (w.alloc (.cells (nd 1 1) 61)) (some ⟨w.heap.size,0,none⟩) 1:=Sl.of_blk (n:=1) (by simp[go_sem]) (by simp[go_sem]) (by decide)
theorem rmulmod_any(a b m n n' n'':Nat)(p q r:Option Addr)(w:World)(hp:Sl w p a)(hq:Sl w q b)(hr:Sl w r m)(ha:dl a≤400)(hb:dl b≤400)(hm:dl m≤400)(h0:0<m):
 Calls prog 36 #[.slice p (dl a) n,.slice q (dl b) n',.slice r (dl m) n''] w (Nm (a*b%m) w):=by
 have hc:=rmul_any a b n n' p q w hp hq (by omega) (by omega);have hl:=dl_mul a b 400 400 ha hb;have hd:=fun w' k p' (g:Gr w w') (h:Sl w' p' (a*b))=>rmod_any (a*b) m k n'' p' r w' h (hr.gr g) (by omega) (by omega) h0;obtain⟨P,hP⟩:=exl (a*b);simp only[hP]at hc hd ⊢;obtain⟨R,hR⟩:=exl (P%m);simp only[hR]at hd ⊢;obtain⟨A,hA⟩:=exl (dl a);obtain⟨B,hB⟩:=exl (dl b);obtain⟨K,hK⟩:=exl (dl m);rw[hA,hB]at hc;simp only[hK]at hd;rw[hA,hB,hK];have HC:Hu (_):=fun _=>hc;have HD:Hid _:=hd
 go_enter func36,ntmps36
 go_wp2_with (first
  | (go_at_call 60;refine(HC.out ()).mono ?_;rintro e W1 ⟨p1,n1,rfl,S1,G1⟩)
  | (go_at_call 20;refine(HD.out _ _ _ G1 S1).mono ?_;rintro e W2 ⟨p2,n2,rfl,S2,G2⟩))
 go_ret
 exact⟨p2,n2,rfl,S2,G1.trans G2⟩
def subM(a b m:Nat):Nat:=if b≤a then a-b else a+m-b
theorem rsubmod_any(a b m n n' n'':Nat)(p q r:Option Addr)(w:World)(hp:Sl w p a)(hq:Sl w q b)(hr:Sl w r m)(hm:dl m≤400)(ha:a<m)(hb:b<m):
 Calls prog 38 #[.slice p (dl a) n,.slice q (dl b) n',.slice r (dl m) n''] w (Nm (subM a b m) w):=by
 have la:=dl_low a m 400 (by omega) hm;have lb:=dl_low b m 400 (by omega) hm;have ls:=dl_add a m 400 la hm;have hc:=rcmp_any a b n n' p q w hp hq (by omega) (by omega);have HP:Hid (∀w',Gr w w'→Sl w' p a):=fun w' g=>hp.gr g;have HQ:Hid (∀w',Gr w w'→Sl w' q b):=fun w' g=>hq.gr g;have HR:Hid (∀w',Gr w w'→Sl w' r m):=fun w' g=>hr.gr g
 by_cases h:b≤a
 ·have hs:=fun w' (g:Gr w w')=>rsub_any a b n n' p q w' (HP.out w' g) (HQ.out w' g) (by omega) h
  have hz:(0:Int)≤cmpZ a b:=by unfold cmpZ;rw[if_neg (by omega)];split <;> decide
  obtain⟨z,hz'⟩:∃z,cmpZ a b=z:=⟨_,rfl⟩;rw[hz']at hc hz;have z2:=decide_eq_true hz;rw[show subM a b m=a-b by unfold subM;rw[if_pos h]];obtain⟨R,hR⟩:=exl (a-b);simp only[hR]at hs ⊢;obtain⟨A,hA⟩:=exl (dl a);obtain⟨B,hB⟩:=exl (dl b);obtain⟨K,hK⟩:=exl (dl m);rw[hA,hB]at hc;simp only[hA,hB]at hs;rw[hA,hB,hK];have HC:Hu (_):=fun _=>hc;have HS:Hid _:=hs
  go_enter func38,ntmps38
  go_wp2_with (first
   | (go_at_call 14;refine(HC.out ()).mono ?_;rintro e W1 ⟨rfl,G1⟩)
   | (go_at_call 29;refine(HS.out _ G1).mono ?_;rintro e W2 ⟨p2,n2,rfl,S2,G2⟩))
  go_ret
  exact⟨p2,n2,rfl,S2,G1.trans G2⟩
 ·have hadd:=fun w' (g:Gr w w')=>radd_any a m n n'' p r w' (HP.out w' g) (HR.out w' g) (by omega) (by omega);have hs:=fun w' k p' (g:Gr w w') (h:Sl w' p' (a+m))=>rsub_any (a+m) b k n' p' q w' h (HQ.out w' g) (by omega) (by omega);rw[show cmpZ a b = -1 by unfold cmpZ;rw[if_pos (by omega)]]at hc;rw[show subM a b m=a+m-b by unfold subM;rw[if_neg h]];obtain⟨P,hP⟩:=exl (a+m);simp only[hP]at hadd hs ⊢;obtain⟨R,hR⟩:=exl (P-b);simp only[hR]at hs ⊢;obtain⟨A,hA⟩:=exl (dl a);obtain⟨B,hB⟩:=exl (dl b);obtain⟨K,hK⟩:=exl (dl m);rw[hA,hB]at hc;simp only[hA,hB,hK]at hs hadd;rw[hA,hB,hK];have HC:Hu (_):=fun _=>hc;have HA:Hid _:=hadd;have HS:Hid _:=hs
  go_enter func38,ntmps38
  go_wp2_with (first
   | (go_at_call 14;refine(HC.out ()).mono ?_;rintro e W1 ⟨rfl,G1⟩)
   | (go_at_call 50;refine(HA.out _ G1).mono ?_;rintro e W2 ⟨p2,n2,rfl,S2,G2⟩;have GG:=G1.trans G2)
   | (go_at_call 29;refine(HS.out _ _ _ GG S2).mono ?_;rintro e W3 ⟨p3,n3,rfl,S3,G3⟩))
  go_ret
  exact⟨p3,n3,rfl,S3,GG.trans G3⟩
end
section
theorem pq_twice(n:Nat):pq n*2≤pq (n+1):=by
 unfold pq;rw[show 32*(n+1)=32*n+32 by omega,Nat.pow_add];exact Nat.mul_le_mul_left _ (by decide)
theorem raddmod_any(a b m n n' n'':Nat)(p q r:Option Addr)(w:World)(hp:Sl w p a)(hq:Sl w q b)(hr:Sl w r m)(hm:dl m≤400)(ha:a<m)(hb:b<m):
 Calls prog 26 #[.slice p (dl a) n,.slice q (dl b) n',.slice r (dl m) n''] w (Nm ((a+b)%m) w):=by
 have la:=dl_low a m 400 (by omega) hm;have lb:=dl_low b m 400 (by omega) hm;obtain⟨S,hS⟩:=exl (a+b)
 have ls:dl S≤401:=by
  refine(dl_le _ 401).2 ?_;have h1:=(dl_le a 400).1 la;have h2:=(dl_le b 400).1 lb;have h3:pq 400*2≤pq 401:=pq_twice 400
  omega
 have h1:=radd_any a b n n' p q w hp hq (by omega) (by omega);rw[hS]at h1 ⊢;obtain⟨A,hA⟩:=exl (dl a);obtain⟨B,hB⟩:=exl (dl b);obtain⟨L,hL⟩:=exl (dl m);obtain⟨z,hz⟩:=exl (cmpZ S m);have H1:Hu (Calls prog 50 #[.slice p A n,.slice q B n'] w (Nm S w)):=fun _=>hA▸hB▸h1;have H2:Hid _:=fun w' p' k g h=>hz▸hL▸rcmp_any S m k n'' p' r w' h (hr.gr g) (by omega) (by omega);have H3:Hid _:=fun w' p' k hl g h=>hL▸rsub_any S m k n'' p' r w' h (hr.gr g) (by omega) hl;rw[hA,hB,hL];obtain⟨D,hD⟩:=exl (dl S);rw[hD]at H2 H3;have H1':Hu (Calls prog 50 #[.slice p A n,.slice q B n'] w fun e w'=>∃p n,e=.returned (.slice p D n)∧Sl w' p S∧Gr w w'):=fun _=>hD▸H1.out ()
 by_cases hl:S<m
 ·have hz1:z = -1:=by rw[←hz];unfold cmpZ;rw[if_pos hl]
  subst hz1;rw[Nat.mod_eq_of_lt hl]
  go_enter func26,ntmps26
  go_wp2_with (first
   | (go_at_call 50;refine(H1'.out ()).mono ?_;rintro e W1 ⟨p1,n1,rfl,S1,G1⟩)
   | (go_at_call 14;refine(H2.out _ _ _ ?_ ?_).mono ?_;exact G1;exact S1;rintro e W2 ⟨rfl,G2⟩))
  go_ret
  exact⟨p1,n1,by rw[hD];rfl,S1.gr G2,G1.trans G2⟩
 ·have hz1:0≤z:=by rw[←hz];unfold cmpZ;rw[if_neg hl];split <;> omega
  have hml:m≤S:=by omega
  rw[show S%m=S-m by rw[Nat.mod_eq_sub_mod hml];exact Nat.mod_eq_of_lt (by omega)];have H3':Hid _:=fun w' p' k g h=>H3.out w' p' k hml g h
  go_enter func26,ntmps26
  go_wp2_with (first
   | (go_at_call 50;refine(H1'.out ()).mono ?_;rintro e W1 ⟨p1,n1,rfl,S1,G1⟩)
   | (go_at_call 14;refine(H2.out _ _ _ ?_ ?_).mono ?_;exact G1;exact S1;rintro e W2 ⟨rfl,G2⟩)
   | (go_at_call 29;refine(H3'.out _ _ _ ?_ ?_).mono ?_;exact G1.trans G2;exact S1.gr G2;rintro e W3 ⟨p3,n3,rfl,S3,G3⟩))
  go_ret
  exact⟨p3,n3,rfl,S3,(G1.trans G2).trans G3⟩
end
end
end Go.Proofs.YtghidgcekieljaaGreat