/-
  nat.Of: what it hands back, for every text.
-/
import Derived.Test.YtjgpecdhlgdjoaaInst
import Derived.Test.YtjgpecdhlgdjoaaNumO
import Derived.BigRegion
namespace Go.Proofs.Ytjgpecdhlgdjoaa
open Go.RowKit
attribute [local go_sem ↓] loadNat_is loadArr_is loadWide_is loadArrW_is storeNat_is storeWide_is
attribute [local go_sem] loadNat loadArr loadWide loadArrW storeNat storeWide idxArr fold9 fold18 nw_size nw_elem pre_self pre_1 pre_2 pre_3 pre_4 pre_5 pre_6 pre_7 pre_8 pre_9 pre_10 pre_11 pre_12 pre_13 pre_14 pre_15 pre_16 pre_17 pre_18 pre_19 pre_20 pre_21 pre_22 pre_23 pre_24 pre_25 pre_26 pre_27 pre_28 pre_29 pre_30 pre_31 pre_32 pre_33 pre_34 pre_35 pre_36 pre_37 pre_38 pre_39 pre_40 gro_size gro_drew gro_drewN drew_gro drewN_gro gro_gro blk_gro frz_gro blk_drew frz_drew blk_drewN frz_drewN blk_alloc_at frz_alloc_at blk_alloc frz_alloc cell_gro frozen_gro cell_alloc_pre frozen_alloc_pre setCell_drewN alloc_drewN setBlk_drew setBlk_drewN setBlk_alloc_at setBlk_alloc setBlk_gro setCell_gro setCell_alloc_pre size_setBlk size_setCell
set_option maxRecDepth 100000 in
set_option maxHeartbeats 400000 in
theorem of_long (s : ByteArray) (hs : 72 < s.size) (w : World) :
    Calls Try.prog 37 #[.string s] w fun e w' => e = .returned (.tuple #[.agg (nw 9 0), .int .i64 100]) ∧ Gr w w' := by
  have h : (72 : Int) < (s.size : Int) := by omega
  clear hs
  go_enter Try.func37, Try.ntmps37
  go_wp2
  exact bodyPost_ret (v := .tuple #[.agg (nw 9 0), .int .i64 100]) (by simp [results, Try.results37, go_sem, nw9_lit]) rfl ⟨rfl, (by repeat (first | exact Gr.refl _ | apply Gr.drewN | apply Gr.drew | apply Gr.alloc | apply Gr.gro))⟩

set_option maxRecDepth 100000 in
set_option maxHeartbeats 800000 in
theorem of_any (s : ByteArray) (hs : s.size ≤ 72) (w : World) :
    Calls Try.prog 37 #[.string s] w fun e w' => e = .returned (.tuple #[.agg (nw 9 (bn s.data.toList)), .int .i64 0]) ∧ Gr w w' := by
  have h : (s.size : Int) ≤ 72 := by omega
  go_enter Try.func37, Try.ntmps37
  go_wp2
  go_loopw [13] (fun i wr => ∃ k X : Nat, k ≤ s.size ∧ i = .int .i64 (k : Int) ∧ bn (s.data.toList.take k) = X ∧ ∃ q, wr = ((w.alloc (.cells (nw 9 0) 25)).alloc (.cells (nw 9 (X * 2 ^ (8 * (s.size - k)))) 25)).drewN q) (fun i _ => s.size - (intOf i).toNat)
  case atStart => exact ⟨0, 0, by omega, rfl, rfl, 0, by rw [Nat.zero_mul]; rfl⟩
  case round =>
    obtain ⟨k, X, hk, rfl, hX, n, rfl⟩ := hrel
    have HX : Hid (Unit → bn (s.data.toList.take k) = X) := fun _ => hX
    clear hX
    by_cases hlt : k < s.size
    · obtain ⟨P, hP⟩ : ∃ P, s.size = k + (P + 1) := ⟨s.size - k - 1, by omega⟩
      obtain ⟨q, r, hq, hr⟩ : ∃ q r, P = 8 * q + r ∧ r < 8 := ⟨P / 8, P % 8, by omega, by omega⟩
      obtain ⟨t, ht⟩ : ∃ t, t = 8 * r := ⟨_, rfl⟩
      have e1 : (s.size : Int) - 1 - (k : Int) = (P : Int) := by omega
      have e2 : (P : Int) / 8 = (q : Int) := by omega
      have e3 : (P : Int) % 8 = (r : Int) := by omega
      have e4 : 8 * (r : Int) = (t : Int) := by omega
      have d2 : (P : Int).tdiv 8 = (q : Int) := by rw [Int.tdiv_eq_ediv_of_nonneg (by omega)]; exact e2
      have d3 : (P : Int).tmod 8 = (r : Int) := by rw [Int.tmod_eq_emod_of_nonneg (by omega)]; exact e3
      have w2 : IntKind.i64.wrap (q : Int) = (q : Int) := by rw [IntKind.wrap_i64]; omega
      have w3 : IntKind.i64.wrap (r : Int) = (r : Int) := by rw [IntKind.wrap_i64]; omega
      have w4 : IntKind.i64.wrap (t : Int) = (t : Int) := by rw [IntKind.wrap_i64]; omega
      have t0 : (0 : Int) ≤ (t : Int) := by omega
      have t1 : (t : Int) < 64 := by omega
      have q0 : (0 : Int) ≤ (q : Int) := by omega
      have q1 : (q : Int) < 9 := by omega
      have q9 : q < 9 := by omega
      have p0 : (0 : Int) ≤ (P : Int) := by omega
      have k0 : (0 : Int) ≤ (k : Int) := by omega
      have k1 : (k : Int) < (s.size : Int) := by omega
      have eV : s.size - k = 8 * q + r + 1 := by omega
      obtain ⟨V, hV⟩ : ∃ V, V = X * 2 ^ (8 * (s.size - k)) := ⟨_, rfl⟩
      rw [← hV]
      have gV := nw_get 9 V q q9
      have HV : Hid (Unit → V = X * 2 ^ (8 * (8 * q + r + 1))) := fun _ => by rw [hV, eV]
      have HT : Hid (Unit → t = 8 * r) := fun _ => ht
      have HR : Hid (Unit → r < 8) := fun _ => hr
      have HP : Hid (Unit → s.size = k + (8 * q + r + 1)) := fun _ => by omega
      clear hV ht eV hq hr hs hk hP
      go_wp2
      go_big_region
      go_wp2
      go_roundw
      case rel =>
        have hb : s[k].toNat < 256 := s[k].toNat_lt
        have hp := HP.out ()
        have hw : IntKind.u64.wrap ((s[k].toNat : Nat) : Int) = ((s[k].toNat : Nat) : Int) := by rw [IntKind.wrap_u64]; omega
        refine ⟨k + 1, X * 256 + s[k].toNat, by omega, by go_num, ?_, n + 1, ?_⟩
        · rw [take_snoc s k hlt, bn_snoc, HX.out ()]
        · have e5 : s.size - (k + 1) = 8 * q + r := by omega
          rw [hw, e5, HT.out (), HV.out (), byte_or X q r _ (HR.out ()) hb, byte_set X q r _ (HR.out ()) hb]
      case measure => simp [intOf]; omega
    · have hks : Hid (Unit → k = s.size) := fun _ => by omega
      obtain ⟨V, hV⟩ : ∃ V, V = X * 2 ^ (8 * (s.size - k)) := ⟨_, rfl⟩
      rw [← hV]
      have HF : Hid (Unit → bn s.data.toList = V) := fun _ => by
        rw [hV, hks.out (), Nat.sub_self, Nat.mul_zero, Nat.pow_zero, Nat.mul_one, ← HX.out (), hks.out (), List.take_of_length_le (by simp)]
      have hki : ¬ (k : Int) < (s.size : Int) := by omega
      clear hV hlt hk hs
      go_wp2
      exact bodyPost_ret (v := .tuple #[.agg (nw 9 V), .int .i64 0]) (by simp [results, Try.results37, go_sem, nw9_lit]) rfl ⟨by rw [HF.out ()], (by repeat (first | exact Gr.refl _ | apply Gr.drewN | apply Gr.drew | apply Gr.alloc | apply Gr.gro))⟩

end Go.Proofs.Ytjgpecdhlgdjoaa
