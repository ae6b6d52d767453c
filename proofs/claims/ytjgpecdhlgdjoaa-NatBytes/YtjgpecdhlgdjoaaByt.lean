/-
  nat.Bytes: what it hands back, for every number and size.
-/
import Derived.Test.YtjgpecdhlgdjoaaSmC
import Derived.Test.YtjgpecdhlgdjoaaNumY
namespace Go.Proofs.Ytjgpecdhlgdjoaa
open Go.RowKit
attribute [local go_sem ↓] loadNat_is loadArr_is loadWide_is loadArrW_is storeNat_is storeWide_is
attribute [local go_sem] loadNat loadArr loadWide loadArrW storeNat storeWide idxArr fold9 fold18 nw_size nw_elem pre_self pre_1 pre_2 pre_3 pre_4 pre_5 pre_6 pre_7 pre_8 pre_9 pre_10 pre_11 pre_12 pre_13 pre_14 pre_15 pre_16 pre_17 pre_18 pre_19 pre_20 pre_21 pre_22 pre_23 pre_24 pre_25 pre_26 pre_27 pre_28 pre_29 pre_30 pre_31 pre_32 pre_33 pre_34 pre_35 pre_36 pre_37 pre_38 pre_39 pre_40 gro_size gro_drew gro_drewN drew_gro drewN_gro gro_gro blk_gro frz_gro blk_drew frz_drew blk_drewN frz_drewN blk_alloc_at frz_alloc_at blk_alloc frz_alloc cell_gro frozen_gro cell_alloc_pre frozen_alloc_pre setCell_drewN alloc_drewN setBlk_drew setBlk_drewN setBlk_alloc_at setBlk_alloc setBlk_gro setCell_gro setCell_alloc_pre size_setBlk size_setCell
set_option maxRecDepth 100000 in
set_option maxHeartbeats 800000 in
theorem bytes_any (a n : Nat) (ha : a < M) (hn : n ≤ 72) (hb : bl a ≤ 8 * n) (w : World) :
    Calls Try.prog 38 #[.agg (nw 9 a), .int .i64 (n : Int)] w fun e w' => e = .returned (.tuple #[.string ⟨(bs n a).toArray⟩, .int .i64 0]) ∧ Gr w w' := by
  have n0 : (0 : Int) ≤ (n : Int) := by omega
  have n1 : (n : Int) ≤ 72 := by omega
  obtain ⟨B, hB⟩ : ∃ B : Nat, bl a = B := ⟨_, rfl⟩
  have cb := fun w => bits_any a ha w
  rw [hB] at cb
  have CB : Hid (∀ w, Calls Try.prog 31 #[.agg (nw 9 a)] w fun e w' => e = .returned (.int .i64 (B : Int)) ∧ Gr w w') := cb
  have b1 : (B : Int) ≤ 8 * (n : Int) := by omega
  have hmk := fun w => make_bytes n a hn w
  clear cb hB ha hb hn
  go_enter Try.func38, Try.ntmps38
  go_wp2_with (go_at_call 31; refine (CB.out _).mono ?_; rintro e w' ⟨rfl, g, rfl⟩)
  clear hmk CB
  go_loopw [26] (fun i wr => ∃ k : Nat, k ≤ n ∧ i = .int .i64 (k : Int) ∧ wr = (gro (w.alloc (.cells (nw 9 a) 25)) g).alloc (.cells (bx n a k) 5)) (fun i _ => n - (intOf i).toNat)
  case atStart => exact ⟨0, by omega, rfl, rfl⟩
  case round =>
    obtain ⟨k, hk, rfl, rfl⟩ := hrel
    by_cases hlt : k < n
    · obtain ⟨P, hP⟩ : ∃ P, n = k + (P + 1) := ⟨n - k - 1, by omega⟩
      obtain ⟨q, r, hq, hr⟩ : ∃ q r, P = 8 * q + r ∧ r < 8 := ⟨P / 8, P % 8, by omega, by omega⟩
      obtain ⟨t, ht⟩ : ∃ t, t = 8 * r := ⟨_, rfl⟩
      have e1 : (n : Int) - 1 - (k : Int) = (P : Int) := by omega
      have e2 : (P : Int) / 8 = (q : Int) := by omega
      have e3 : (P : Int) % 8 = (r : Int) := by omega
      have e4 : 8 * (r : Int) = (t : Int) := by omega
      have t0 : (0 : Int) ≤ (t : Int) := by omega
      have t1 : (t : Int) < 64 := by omega
      have q0 : (0 : Int) ≤ (q : Int) := by omega
      have q1 : (q : Int) < 9 := by omega
      have q9 : q < 9 := by omega
      have p0 : (0 : Int) ≤ (P : Int) := by omega
      have k0 : (0 : Int) ≤ (k : Int) := by omega
      have k1 : (k : Int) < (n : Int) := by omega
      have ga := nw_get 9 a q q9
      have gx := bx_get n a k hlt
      have HT : Hid (Unit → t = 8 * r) := fun _ => ht
      have HR : Hid (Unit → r < 8) := fun _ => hr
      have HP : Hid (Unit → n - 1 - k = 8 * q + r) := fun _ => by omega
      clear ht hq hr hk hP
      go_wp2
      go_roundw
      case rel =>
        refine ⟨k + 1, by omega, by go_num, ?_⟩
        rw [HT.out (), byt_wd a q r (HR.out ()), ← HP.out (), bx_set]
      case measure => simp [intOf]; omega
    · have hkn : Hid (Unit → k = n) := fun _ => by omega
      have hki : ¬ (k : Int) < (n : Int) := by omega
      have hcv : ∀ (v : World) (b : Nat), blk v b = bx n a k → (convert 69 9 (.slice (some ⟨b, 0, none⟩) n n)).run Try.prog v = .ok (.string ⟨(bs n a).toArray⟩) v := fun v b h => conv_bytes n a v b (by rw [h, hkn.out ()])
      clear hlt hk
      go_wp2
      go_ret2
      exact ⟨rfl, (by repeat (first | exact Gr.refl _ | apply Gr.drewN | apply Gr.drew | apply Gr.alloc | apply Gr.gro))⟩

set_option maxRecDepth 100000 in
set_option maxHeartbeats 800000 in
theorem bytes_no (a : Nat) (n : Int) (ha : a < M) (hn : n < 0 ∨ 72 < n ∨ 8 * n < bl a) (w : World) :
    Calls Try.prog 38 #[.agg (nw 9 a), .int .i64 n] w fun e w' => e = .returned (.tuple #[.string ⟨#[]⟩, .int .i64 101]) ∧ Gr w w' := by
  by_cases h0 : n < 0
  · clear hn ha
    go_enter Try.func38, Try.ntmps38
    go_wp2
    go_ret2
    exact ⟨rfl, (by repeat (first | exact Gr.refl _ | apply Gr.drewN | apply Gr.drew | apply Gr.alloc | apply Gr.gro))⟩
  · by_cases h1 : 72 < n
    · clear hn ha
      go_enter Try.func38, Try.ntmps38
      go_wp2
      go_ret2
      exact ⟨rfl, (by repeat (first | exact Gr.refl _ | apply Gr.drewN | apply Gr.drew | apply Gr.alloc | apply Gr.gro))⟩
    · obtain ⟨B, hB⟩ : ∃ B : Nat, bl a = B := ⟨_, rfl⟩
      have cb := fun w => bits_any a ha w
      rw [hB] at cb hn
      have CB : Hid (∀ w, Calls Try.prog 31 #[.agg (nw 9 a)] w fun e w' => e = .returned (.int .i64 (B : Int)) ∧ Gr w w') := cb
      have b1 : 8 * n < (B : Int) := by omega
      have n0 : 0 ≤ n := by omega
      have n1 : n ≤ 72 := by omega
      clear cb hB ha hn
      go_enter Try.func38, Try.ntmps38
      go_wp2_with (go_at_call 31; refine (CB.out _).mono ?_; rintro e w' ⟨rfl, g, rfl⟩)
      go_ret2
      exact ⟨rfl, (by repeat (first | exact Gr.refl _ | apply Gr.drewN | apply Gr.drew | apply Gr.alloc | apply Gr.gro))⟩

end Go.Proofs.Ytjgpecdhlgdjoaa
