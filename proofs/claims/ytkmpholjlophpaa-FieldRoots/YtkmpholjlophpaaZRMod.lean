/-
  The documents' numbers: MulMod, SubMod and PowMod.
-/
import Derived.Test.YtkmpholjlophpaaZRDiv
import Derived.Test.YtkmpholjlophpaaZRMul
import Derived.Test.YtkmpholjlophpaaZRAdd
import Derived.Test.YtkmpholjlophpaaZRSub
import Derived.Test.YtkmpholjlophpaaZRBit
import Derived.Test.YtkmpholjlophpaaZDP
namespace Go.Proofs.Ytkmpholjlophpaa
open Go.RowKit
attribute [local go_sem ↓] loadNat_is loadArr_is loadWide_is loadArrW_is storeNat_is storeWide_is
attribute [local go_sem] loadNat loadArr loadWide loadArrW storeNat storeWide idxArr fold9 fold18 nw_size nw_elem pre_self pre_1 pre_2 pre_3 pre_4 pre_5 pre_6 pre_7 pre_8 pre_9 pre_10 pre_11 pre_12 pre_13 pre_14 pre_15 pre_16 pre_17 pre_18 pre_19 pre_20 pre_21 pre_22 pre_23 pre_24 pre_25 pre_26 pre_27 pre_28 pre_29 pre_30 pre_31 pre_32 pre_33 pre_34 pre_35 pre_36 pre_37 pre_38 pre_39 pre_40 gro_size gro_drew gro_drewN drew_gro drewN_gro gro_gro blk_gro frz_gro blk_drew frz_drew blk_drewN frz_drewN blk_alloc_at frz_alloc_at blk_alloc frz_alloc cell_gro frozen_gro cell_alloc_pre frozen_alloc_pre setCell_drewN alloc_drewN setBlk_drew setBlk_drewN setBlk_alloc_at setBlk_alloc setBlk_gro setCell_gro setCell_alloc_pre size_setBlk size_setCell
attribute [local go_sem ↓] bsl_is
theorem dl_mul (a b k l : Nat) (ha : dl a ≤ k) (hb : dl b ≤ l) : dl (a * b) ≤ k + l := by
  have h1 := (dl_le a k).1 ha
  have h2 := (dl_le b l).1 hb
  rw [dl_le, pq_add]
  exact Nat.mul_lt_mul'' h1 h2
theorem dl_low (a m k : Nat) (h : a ≤ m) (hm : dl m ≤ k) : dl a ≤ k := (dl_le _ k).2 (Nat.lt_of_le_of_lt h ((dl_le m k).1 hm))
theorem dl_add (a b k : Nat) (ha : dl a ≤ k) (hb : dl b ≤ k) : dl (a + b) ≤ k + 1 := by
  have h1 := (dl_le a k).1 ha
  have h2 := (dl_le b k).1 hb
  rw [dl_le, pq_succ]
  omega
theorem sl_new (w : World) : Sl (w.alloc (.cells (nd 1 1) 63)) (some ⟨w.heap.size, 0, none⟩) 1 := Sl.of_blk (n := 1) (by simp [go_sem]) (by simp [go_sem]) (by decide)
set_option maxRecDepth 100000 in
set_option maxHeartbeats 400000 in
theorem rmulmod_any (a b m n n' n'' : Nat) (p q r : Option Addr) (w : World) (hp : Sl w p a) (hq : Sl w q b) (hr : Sl w r m) (ha : dl a ≤ 400) (hb : dl b ≤ 400) (hm : dl m ≤ 400) (h0 : 0 < m) :
    Calls Try.prog 27 #[.slice p (dl a) n, .slice q (dl b) n', .slice r (dl m) n''] w (Nm (a * b % m) w) := by
  have hc := rmul_any a b n n' p q w hp hq (by omega) (by omega)
  have hl := dl_mul a b 400 400 ha hb
  have hd := fun w' k p' (g : Gr w w') (h : Sl w' p' (a * b)) => rmod_any (a * b) m k n'' p' r w' h (hr.gr g) (by omega) (by omega) h0
  obtain ⟨P, hP⟩ : ∃ P, a * b = P := ⟨_, rfl⟩
  simp only [hP] at hc hd ⊢
  obtain ⟨R, hR⟩ : ∃ R, P % m = R := ⟨_, rfl⟩
  simp only [hR] at hd ⊢
  obtain ⟨A, hA⟩ : ∃ L, dl a = L := ⟨_, rfl⟩
  obtain ⟨B, hB⟩ : ∃ L, dl b = L := ⟨_, rfl⟩
  obtain ⟨K, hK⟩ : ∃ L, dl m = L := ⟨_, rfl⟩
  rw [hA, hB] at hc
  simp only [hK] at hd
  rw [hA, hB, hK]
  have HC : Hid (Unit → Calls Try.prog 48 #[.slice p A n, .slice q B n'] w (Nm P w)) := fun _ => hc
  have HD : Hid (∀ w' k p', Gr w w' → Sl w' p' P → Calls Try.prog 21 #[.slice p' (dl P) k, .slice r K n''] w' (Nm R w')) := hd
  clear hc hl hd hp hq hr ha hb hm h0 hP hR hA hB hK
  go_enter Try.func27, Try.ntmps27
  go_wp2_with (first
    | (go_at_call 48; refine (HC.out ()).mono ?_; rintro e W1 ⟨p1, n1, rfl, S1, G1⟩)
    | (go_at_call 21; refine (HD.out _ _ _ G1 S1).mono ?_; rintro e W2 ⟨p2, n2, rfl, S2, G2⟩))
  go_ret
  exact ⟨p2, n2, rfl, S2, G1.trans G2⟩
def subM (a b m : Nat) : Nat := if b ≤ a then a - b else a + m - b
set_option maxRecDepth 100000 in
set_option maxHeartbeats 400000 in
theorem rsubmod_any (a b m n n' n'' : Nat) (p q r : Option Addr) (w : World) (hp : Sl w p a) (hq : Sl w q b) (hr : Sl w r m) (hm : dl m ≤ 400) (ha : a < m) (hb : b < m) :
    Calls Try.prog 26 #[.slice p (dl a) n, .slice q (dl b) n', .slice r (dl m) n''] w (Nm (subM a b m) w) := by
  have la := dl_low a m 400 (by omega) hm
  have lb := dl_low b m 400 (by omega) hm
  have ls := dl_add a m 400 la hm
  have hc := rcmp_any a b n n' p q w hp hq (by omega) (by omega)
  have HP : Hid (∀ w', Gr w w' → Sl w' p a) := fun w' g => hp.gr g
  have HQ : Hid (∀ w', Gr w w' → Sl w' q b) := fun w' g => hq.gr g
  have HR : Hid (∀ w', Gr w w' → Sl w' r m) := fun w' g => hr.gr g
  by_cases h : b ≤ a
  · have hs := fun w' (g : Gr w w') => rsub_any a b n n' p q w' (HP.out w' g) (HQ.out w' g) (by omega) h
    have hz : (0 : Int) ≤ cmpZ a b := by unfold cmpZ; rw [if_neg (by omega)]; split <;> decide
    obtain ⟨z, hz'⟩ : ∃ z, cmpZ a b = z := ⟨_, rfl⟩
    rw [hz'] at hc hz
    have z2 : decide (0 ≤ z) = true := decide_eq_true hz
    rw [show subM a b m = a - b by unfold subM; rw [if_pos h]]
    obtain ⟨R, hR⟩ : ∃ R, a - b = R := ⟨_, rfl⟩
    simp only [hR] at hs ⊢
    obtain ⟨A, hA⟩ : ∃ L, dl a = L := ⟨_, rfl⟩
    obtain ⟨B, hB⟩ : ∃ L, dl b = L := ⟨_, rfl⟩
    obtain ⟨K, hK⟩ : ∃ L, dl m = L := ⟨_, rfl⟩
    rw [hA, hB] at hc
    simp only [hA, hB] at hs
    rw [hA, hB, hK]
    have HC : Hid (Unit → Calls Try.prog 24 #[.slice p A n, .slice q B n'] w fun e w' => e = .returned (.int .i64 z) ∧ Gr w w') := fun _ => hc
    have HS : Hid (∀ w', Gr w w' → Calls Try.prog 40 #[.slice p A n, .slice q B n'] w' (Nm R w')) := hs
    clear hc hs hp hq hr hm ha hb la lb ls h hz' hR hA hB hK HP HQ HR
    go_enter Try.func26, Try.ntmps26
    go_wp2_with (first
      | (go_at_call 24; refine (HC.out ()).mono ?_; rintro e W1 ⟨rfl, G1⟩)
      | (go_at_call 40; refine (HS.out _ G1).mono ?_; rintro e W2 ⟨p2, n2, rfl, S2, G2⟩))
    go_ret
    exact ⟨p2, n2, rfl, S2, G1.trans G2⟩
  · have hadd := fun w' (g : Gr w w') => radd_any a m n n'' p r w' (HP.out w' g) (HR.out w' g) (by omega) (by omega)
    have hs := fun w' k p' (g : Gr w w') (h : Sl w' p' (a + m)) => rsub_any (a + m) b k n' p' q w' h (HQ.out w' g) (by omega) (by omega)
    rw [show cmpZ a b = -1 by unfold cmpZ; rw [if_pos (by omega)]] at hc
    rw [show subM a b m = a + m - b by unfold subM; rw [if_neg h]]
    obtain ⟨P, hP⟩ : ∃ P, a + m = P := ⟨_, rfl⟩
    simp only [hP] at hadd hs ⊢
    obtain ⟨R, hR⟩ : ∃ R, P - b = R := ⟨_, rfl⟩
    simp only [hR] at hs ⊢
    obtain ⟨A, hA⟩ : ∃ L, dl a = L := ⟨_, rfl⟩
    obtain ⟨B, hB⟩ : ∃ L, dl b = L := ⟨_, rfl⟩
    obtain ⟨K, hK⟩ : ∃ L, dl m = L := ⟨_, rfl⟩
    rw [hA, hB] at hc
    simp only [hA, hB, hK] at hs hadd
    rw [hA, hB, hK]
    have HC : Hid (Unit → Calls Try.prog 24 #[.slice p A n, .slice q B n'] w fun e w' => e = .returned (.int .i64 (-1)) ∧ Gr w w') := fun _ => hc
    have HA : Hid (∀ w', Gr w w' → Calls Try.prog 47 #[.slice p A n, .slice r K n''] w' (Nm P w')) := hadd
    have HS : Hid (∀ w' k p', Gr w w' → Sl w' p' P → Calls Try.prog 40 #[.slice p' (dl P) k, .slice q B n'] w' (Nm R w')) := hs
    clear hc hs hadd hp hq hr hm ha hb la lb ls h hP hR hA hB hK HP HQ HR
    go_enter Try.func26, Try.ntmps26
    go_wp2_with (first
      | (go_at_call 24; refine (HC.out ()).mono ?_; rintro e W1 ⟨rfl, G1⟩)
      | (go_at_call 47; refine (HA.out _ G1).mono ?_; rintro e W2 ⟨p2, n2, rfl, S2, G2⟩; have GG := G1.trans G2)
      | (go_at_call 40; refine (HS.out _ _ _ GG S2).mono ?_; rintro e W3 ⟨p3, n3, rfl, S3, G3⟩))
    go_ret
    exact ⟨p3, n3, rfl, S3, GG.trans G3⟩
set_option maxRecDepth 100000 in
set_option maxHeartbeats 1600000 in
theorem rpow_any (a f m n n' n'' : Nat) (p q r : Option Addr) (w : World) (hp : Sl w p a) (hq : Sl w q f) (hr : Sl w r m) (ha : dl a ≤ 400) (hf : dl f ≤ 400) (hm : dl m ≤ 400) (h0 : 0 < m) :
    Calls Try.prog 51 #[.slice p (dl a) n, .slice q (dl f) n', .slice r (dl m) n''] w (Nm (a ^ f % m) w) := by
  have h1 := fun w' k p' (g : Gr w w') (h : Sl w' p' 1) => rmod_any 1 m k n'' p' r w' h (hr.gr g) (by decide) (by omega) h0
  have h2 := fun w' (g : Gr w w') => rmod_any a m n n'' p r w' (hp.gr g) (hr.gr g) (by omega) (by omega) h0
  have h3 := fun w' (g : Gr w w') => rbits_any f n' q w' (hq.gr g) (by omega)
  have h4 := fun w' (i : Nat) (g : Gr w w') (hi : i ≤ 100000) => rbit_any f n' i q w' (hq.gr g) (by omega)
  have h5 := fun w' O O' P k k' p1 p2 (g : Gr w w') (s1 : Sl w' p1 O) (s2 : Sl w' p2 O') (l1 : O < m) (l2 : O' < m) (e : O * O' % m = P) => (e ▸ rmulmod_any O O' m k k' n'' p1 p2 r w' s1 s2 (hr.gr g) (dl_low O m 400 (by omega) hm) (dl_low O' m 400 (by omega) hm) hm h0 : Calls Try.prog 27 #[.slice p1 (dl O) k, .slice p2 (dl O') k', .slice r (dl m) n''] w' (Nm P w'))
  have hbl : bl f ≤ 12800 := by have : (bl f + 31) / 32 ≤ 400 := hf; omega
  have hlast : f / 2 ^ bl f = 0 := Nat.div_eq_of_lt ((bl_le f (bl f)).1 (Nat.le_refl _))
  have hX : a % m < m := Nat.mod_lt _ h0
  have hend : (a % m) ^ f % m = a ^ f % m := (Nat.pow_mod a f m).symm
  obtain ⟨X, eX⟩ : ∃ X, a % m = X := ⟨_, rfl⟩
  obtain ⟨R, eR⟩ : ∃ R, a ^ f % m = R := ⟨_, rfl⟩
  obtain ⟨O1, eO⟩ : ∃ R, 1 % m = R := ⟨_, rfl⟩
  obtain ⟨B, eB⟩ : ∃ R, bl f = R := ⟨_, rfl⟩
  obtain ⟨A, eA⟩ : ∃ L, dl a = L := ⟨_, rfl⟩
  obtain ⟨E, eE⟩ : ∃ L, dl f = L := ⟨_, rfl⟩
  obtain ⟨K, eK⟩ : ∃ L, dl m = L := ⟨_, rfl⟩
  simp only [eX, eR, eO, eB, eA, eE, eK] at h1 h2 h3 h4 h5 hbl hlast hX hend ⊢
  have H1 : Hid (∀ w' k p', Gr w w' → Sl w' p' 1 → Calls Try.prog 21 #[.slice p' 1 k, .slice r K n''] w' (Nm O1 w')) := h1
  have H2 : Hid (∀ w', Gr w w' → Calls Try.prog 21 #[.slice p A n, .slice r K n''] w' (Nm X w')) := h2
  have H3 : Hid (∀ w', Gr w w' → Calls Try.prog 67 #[.slice q E n'] w' fun e w'' => e = .returned (.int .i64 (B : Int)) ∧ w'' = w') := h3
  have H4 : Hid (∀ w' (i : Nat), Gr w w' → i ≤ 100000 → Calls Try.prog 52 #[.slice q E n', .int .i64 (i : Int)] w' fun e w'' => e = .returned (.int .i64 (bitN f i)) ∧ w'' = w') := h4
  have H5 : Hid (∀ w' O O' P k k' p1 p2, Gr w w' → Sl w' p1 O → Sl w' p2 O' → O < m → O' < m → O * O' % m = P → Calls Try.prog 27 #[.slice p1 (dl O) k, .slice p2 (dl O') k', .slice r K n''] w' (Nm P w')) := h5
  have HF : Hid (Unit → B ≤ 12800 ∧ f / 2 ^ B = 0 ∧ X < m ∧ X ^ f % m = R ∧ 1 % m = O1 ∧ 0 < m) := fun _ => ⟨hbl, hlast, hX, hend, eO, h0⟩
  have hb1 : ∀ w, (bslS 30 1 #[(0, .int .u32 1)]).run Try.prog w = .ok (.slice (some ⟨w.heap.size, 0, none⟩) 1 1) (w.alloc (.cells (nd 1 1) 63)) := fun w => build1 1 (by decide) w
  have B1 : (B : Int) ≤ 12800 := by omega
  clear h1 h2 h3 h4 h5 hbl hlast hX hend hp hq hr ha hf hm h0 eX eR eO eB eA eE eK
  go_enter Try.func51, Try.ntmps51
  go_upto_region 4 with (first
    | (go_at_call_of 21 (Value.slice p A n); refine (H2.out _ GW1).mono ?_; rintro e W2 ⟨px, nx, rfl, SX, G2⟩; have GW2 := GW1.trans G2; have SO2 := SO.gr G2)
    | (go_at_call 21; refine (H1.out _ _ _ ((Gr.refl _).alloc _) (sl_new w)).mono ?_; rintro e W1 ⟨po, no, rfl, SO, G1⟩; have GW1 := ((Gr.refl w).alloc _).trans G1)
    | (go_at_call 67; refine (H3.out _ GW2).mono ?_; rintro e W2 ⟨rfl, rfl⟩))
  have HS0 : Hid (Sl W2 po O1 ∧ Sl W2 px X ∧ Gr w W2) := ⟨SO2, SX, GW2⟩
  clear H1 H2 H3 hb1 SO G1 GW1 SX G2 GW2 SO2
  go_loopw [7, 9] (fun oa ia wr => ∃ (j O : Nat) (p1 : Option Addr) (n1 : Nat), oa = .slice p1 (dl O) n1 ∧ ia = .int .i64 ((j : Int) - 1) ∧ Hid (Unit → j ≤ B ∧ X ^ (f / 2 ^ j) % m = O) ∧ Hid (Sl wr p1 O ∧ Gr W2 wr)) (fun _ ia _ => (intOf ia + 1).toNat)
  case atStart => exact ⟨B, O1, po, no, rfl, rfl, fun _ => ⟨Nat.le_refl _, by rw [(HF.out ()).2.1, Nat.pow_zero]; exact (HF.out ()).2.2.2.2.1⟩, ⟨HS0.out.1, Gr.refl _⟩⟩
  case round =>
    obtain ⟨j, O, p1, n1, rfl, rfl, HI, HSO⟩ := hrel
    by_cases hpos : 0 < j
    · obtain ⟨i, rfl⟩ : ∃ i, j = i + 1 := ⟨j - 1, by omega⟩
      have e1 : (((i + 1 : Nat) : Int) - 1) = (i : Int) := by omega
      rw [e1]
      have i0 : (0 : Int) ≤ (i : Int) := by omega
      have i1 : (i : Int) < 12800 := by have := HI.out (); omega
      have hO : O < m := by rw [← (HI.out ()).2]; exact Nat.mod_lt _ (HF.out ()).2.2.2.2.2
      obtain ⟨P, hP⟩ : ∃ P, O * O % m = P := ⟨_, rfl⟩
      have hPm : P < m := by rw [← hP]; exact Nat.mod_lt _ (HF.out ()).2.2.2.2.2
      obtain ⟨Q, hQ⟩ : ∃ Q, P * X % m = Q := ⟨_, rfl⟩
      have hpw := pow_half X f i
      obtain ⟨β, hβ⟩ : ∃ β, bitN f i = β := ⟨_, rfl⟩
      have hb2 : β = 0 ∨ β = 1 := by rw [← hβ]; unfold bitN; omega
      have HBi : Hid (∀ w', Gr w w' → Calls Try.prog 52 #[.slice q E n', .int .i64 (i : Int)] w' fun e w'' => e = .returned (.int .i64 (β : Int)) ∧ w'' = w') := fun w' g => by
        have h := H4.out w' i g (by omega)
        rw [hβ] at h
        exact h
      have HP : Hid (Unit → O < m ∧ O * O % m = P ∧ P < m ∧ P * X % m = Q ∧ X ^ (f / 2 ^ i) = X ^ (f / 2 ^ (i + 1)) * X ^ (f / 2 ^ (i + 1)) * X ^ β) := fun _ => ⟨hO, hP, hPm, hQ, by rw [← hβ]; exact hpw⟩
      clear e1 hpos hO hP hPm hQ hpw hβ
      rcases hb2 with rfl | rfl
      · have HB0 : Hid (∀ w', Gr w w' → Calls Try.prog 52 #[.slice q E n', .int .i64 (i : Int)] w' fun e w'' => e = .returned (.int .i64 0) ∧ w'' = w') := HBi
        clear HBi
        go_wp2_with (first
          | (go_at_call 27; refine (H5.out _ O O P n1 n1 p1 p1 (HS0.out.2.2.trans HSO.out.2) HSO.out.1 HSO.out.1 (HP.out ()).1 (HP.out ()).1 (HP.out ()).2.1).mono ?_; rintro e W3 ⟨p3, n3, rfl, S3, G3⟩)
          | (go_at_call 52; refine (HB0.out _ ((HS0.out.2.2.trans HSO.out.2).trans G3)).mono ?_; rintro e w' ⟨rfl, rfl⟩))
        go_roundw
        case rel =>
          refine ⟨i, P, p3, n3, rfl, rfl, fun _ => ⟨by have := HI.out (); omega, ?_⟩, ⟨S3, HSO.out.2.trans G3⟩⟩
          rw [(HP.out ()).2.2.2.2, Nat.pow_zero, Nat.mul_one, ← pow_sq, (HI.out ()).2]
          exact (HP.out ()).2.1
        case measure => simp [intOf]
      · have HB0 : Hid (∀ w', Gr w w' → Calls Try.prog 52 #[.slice q E n', .int .i64 (i : Int)] w' fun e w'' => e = .returned (.int .i64 1) ∧ w'' = w') := HBi
        clear HBi
        go_wp2_with (first
          | (go_at_call_of 27 (Value.slice p1 (dl O) n1); refine (H5.out _ O O P n1 n1 p1 p1 (HS0.out.2.2.trans HSO.out.2) HSO.out.1 HSO.out.1 (HP.out ()).1 (HP.out ()).1 (HP.out ()).2.1).mono ?_; rintro e W3 ⟨p3, n3, rfl, S3, G3⟩)
          | (go_at_call 52; refine (HB0.out _ ((HS0.out.2.2.trans HSO.out.2).trans G3)).mono ?_; rintro e w' ⟨rfl, rfl⟩)
          | (go_at_call 27; refine (H5.out _ P X Q n3 nx p3 px ((HS0.out.2.2.trans HSO.out.2).trans G3) S3 (HS0.out.2.1.gr (HSO.out.2.trans G3)) (HP.out ()).2.2.1 (HF.out ()).2.2.1 (HP.out ()).2.2.2.1).mono ?_; rintro e W4 ⟨p4, n4, rfl, S4, G4⟩))
        go_roundw
        case rel =>
          refine ⟨i, Q, p4, n4, rfl, rfl, fun _ => ⟨by have := HI.out (); omega, ?_⟩, ⟨S4, (HSO.out.2.trans G3).trans G4⟩⟩
          rw [(HP.out ()).2.2.2.2, Nat.pow_one, ← pow_mul, ← pow_sq, (HI.out ()).2, (HP.out ()).2.1]
          exact (HP.out ()).2.2.2.1
        case measure => simp [intOf]
    · obtain rfl : j = 0 := by omega
      have hE : O = R := by rw [← (HI.out ()).2, Nat.pow_zero, Nat.div_one]; exact (HF.out ()).2.2.2.1
      subst hE
      clear HI H4 H5 HF hpos
      go_wp2
      go_ret
      exact ⟨p1, n1, rfl, HSO.out.1, HS0.out.2.2.trans HSO.out.2⟩

end Go.Proofs.Ytkmpholjlophpaa
