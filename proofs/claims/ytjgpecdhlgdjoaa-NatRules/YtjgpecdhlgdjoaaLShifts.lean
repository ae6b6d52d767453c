/-
  The statement NatShifts, walked: it answers true for every number and every two ints.
-/
import Derived.Test.YtjgpecdhlgdjoaaAwake
import Derived.Test.YtjgpecdhlgdjoaaEq
import Derived.Test.YtjgpecdhlgdjoaaLawA
import Derived.Test.YtjgpecdhlgdjoaaShr
namespace Go.Proofs.Ytjgpecdhlgdjoaa
open Go.RowKit
attribute [local go_sem ↓] loadNat_is loadArr_is loadWide_is loadArrW_is storeNat_is storeWide_is
attribute [local go_sem] loadNat loadArr loadWide loadArrW storeNat storeWide idxArr fold9 fold18 nw_size nw_elem pre_self pre_1 pre_2 pre_3 pre_4 pre_5 pre_6 pre_7 pre_8 pre_9 pre_10 pre_11 pre_12 pre_13 pre_14 pre_15 pre_16 pre_17 pre_18 pre_19 pre_20 pre_21 pre_22 pre_23 pre_24 pre_25 pre_26 pre_27 pre_28 pre_29 pre_30 pre_31 pre_32 pre_33 pre_34 pre_35 pre_36 pre_37 pre_38 pre_39 pre_40 gro_size gro_drew gro_drewN drew_gro drewN_gro gro_gro blk_gro frz_gro blk_drew frz_drew blk_drewN frz_drewN blk_alloc_at frz_alloc_at blk_alloc frz_alloc cell_gro frozen_gro cell_alloc_pre frozen_alloc_pre setCell_drewN alloc_drewN setBlk_drew setBlk_drewN setBlk_alloc_at setBlk_alloc setBlk_gro setCell_gro setCell_alloc_pre size_setBlk size_setCell
attribute [local go_sem] nw_ext9 nw_ext18 eqArr9 eqArr18

theorem tmod_u64 (i M' : Int) (m : Nat) (h0 : 0 < m) (h1 : M' = (m : Int)) : ∃ p : Nat, (IntKind.u64.wrap i).tmod M' = (p : Int) ∧ p < m := by
  subst h1
  have h : 0 ≤ IntKind.u64.wrap i := by rw [IntKind.wrap_u64]; omega
  refine ⟨(IntKind.u64.wrap i % (m : Int)).toNat, ?_, ?_⟩
  · rw [Int.tmod_eq_emod_of_nonneg h]
    have := Int.emod_nonneg (IntKind.u64.wrap i) (show (m : Int) ≠ 0 by omega)
    omega
  · have h2 := Int.emod_lt_of_pos (IntKind.u64.wrap i) (show (0 : Int) < (m : Int) by omega)
    omega
theorem pow_M (p : Nat) (hp : p ≤ 576) : 2 ^ (576 - p) * 2 ^ p = M := by
  rw [← Nat.pow_add, show 576 - p + p = 64 * 9 from by omega]
  exact (show ∀ n, 2 ^ (64 * n) = pw n from fun _ => rfl) 9
theorem shl_cut (a p : Nat) (hp : p ≤ 576) : (a % 2 ^ (576 - p)) * 2 ^ p < M := by
  rw [← pow_M p hp]
  exact Nat.mul_lt_mul_of_pos_right (Nat.mod_lt _ (Nat.two_pow_pos _)) (Nat.two_pow_pos _)
set_option maxRecDepth 100000 in
set_option maxHeartbeats 600000 in
theorem shifts_any (a : Nat) (i k : Int) (ha : a < M) (w : World) :
    Calls Try.prog 8 #[.agg (nw 9 a), .int .i64 i, .int .i64 k] w fun e w' => e = .returned (.bool true) ∧ Gr w w' := by
  obtain ⟨p, hp, p200⟩ := tmod_u64 i 200 200 (by decide) rfl
  obtain ⟨q, hq, q200⟩ := tmod_u64 k 200 200 (by decide) rfl
  obtain ⟨x, hx⟩ : ∃ x, a * 2 ^ p % M = x := ⟨_, rfl⟩
  obtain ⟨z, hz⟩ : ∃ z, a * 2 ^ (p + q) % M = z := ⟨_, rfl⟩
  obtain ⟨u, hu⟩ : ∃ u, a / 2 ^ p = u := ⟨_, rfl⟩
  obtain ⟨v, hv⟩ : ∃ v, a / 2 ^ (p + q) = v := ⟨_, rfl⟩
  obtain ⟨b, hb⟩ : ∃ b, a % 2 ^ (576 - p) = b := ⟨_, rfl⟩
  obtain ⟨c, hc⟩ : ∃ c, b * 2 ^ p % M = c := ⟨_, rfl⟩
  have e1 : x * 2 ^ q % M = z := by rw [← hx, ← hz, Nat.mod_mul_mod, Nat.pow_add, Nat.mul_assoc]
  have e2 : u / 2 ^ q = v := by rw [← hu, ← hv, Nat.div_div_eq_div_mul, ← Nat.pow_add]
  have e3 : b * 2 ^ p < M := by rw [← hb]; exact shl_cut a p (by omega)
  have e4 : c / 2 ^ p = b := by rw [← hc, Nat.mod_eq_of_lt e3, Nat.mul_div_cancel _ (Nat.two_pow_pos p)]
  have hcM : c < M := by rw [← hc]; exact Nat.mod_lt _ M_pos
  have huM : u < M := by rw [← hu]; exact Nat.lt_of_le_of_lt (Nat.div_le_self _ _) ha
  have c1 := fun w => shl_any a p (by omega) w
  have c2 := fun w => shl_any x q (by omega) w
  have c3 := fun w => shl_any a (p + q) (by omega) w
  have c4 := fun w => shr_any a p ha (by omega) w
  have c5 := fun w => shr_any u q huM (by omega) w
  have c6 := fun w => shr_any a (p + q) ha (by omega) w
  have c7 := fun w => natcut_any a (576 - p) (by omega) w
  have c8 := fun w => shl_any b p (by omega) w
  have c9 := fun w => shr_any c p hcM (by omega) w
  rw [hx] at c1
  rw [e1] at c2
  rw [hz, Int.natCast_add] at c3
  rw [hu] at c4
  rw [e2] at c5
  rw [hv, Int.natCast_add] at c6
  rw [hb, show ((576 - p : Nat) : Int) = 576 - (p : Int) from by omega] at c7
  rw [hc] at c8
  rw [e4] at c9
  have C1 : Hid (∀ w, Calls Try.prog 28 #[.agg (nw 9 a), .int .i64 (p : Int)] w fun e w' => e = .returned (.tuple #[.agg (nw 9 x), .int .i64 0]) ∧ Gr w w') := c1
  have C2 : Hid (∀ w, Calls Try.prog 28 #[.agg (nw 9 x), .int .i64 (q : Int)] w fun e w' => e = .returned (.tuple #[.agg (nw 9 z), .int .i64 0]) ∧ Gr w w') := c2
  have C3 : Hid (∀ w, Calls Try.prog 28 #[.agg (nw 9 a), .int .i64 ((p : Int) + (q : Int))] w fun e w' => e = .returned (.tuple #[.agg (nw 9 z), .int .i64 0]) ∧ Gr w w') := c3
  have C4 : Hid (∀ w, Calls Try.prog 29 #[.agg (nw 9 a), .int .i64 (p : Int)] w fun e w' => e = .returned (.tuple #[.agg (nw 9 u), .int .i64 0]) ∧ Gr w w') := c4
  have C5 : Hid (∀ w, Calls Try.prog 29 #[.agg (nw 9 u), .int .i64 (q : Int)] w fun e w' => e = .returned (.tuple #[.agg (nw 9 v), .int .i64 0]) ∧ Gr w w') := c5
  have C6 : Hid (∀ w, Calls Try.prog 29 #[.agg (nw 9 a), .int .i64 ((p : Int) + (q : Int))] w fun e w' => e = .returned (.tuple #[.agg (nw 9 v), .int .i64 0]) ∧ Gr w w') := c6
  have C7 : Hid (∀ w, Calls Try.prog 41 #[.agg (nw 9 a), .int .i64 (576 - (p : Int))] w fun e w' => e = .returned (.agg (nw 9 b)) ∧ Gr w w') := c7
  have C8 : Hid (∀ w, Calls Try.prog 28 #[.agg (nw 9 b), .int .i64 (p : Int)] w fun e w' => e = .returned (.tuple #[.agg (nw 9 c), .int .i64 0]) ∧ Gr w w') := c8
  have C9 : Hid (∀ w, Calls Try.prog 29 #[.agg (nw 9 c), .int .i64 (p : Int)] w fun e w' => e = .returned (.tuple #[.agg (nw 9 b), .int .i64 0]) ∧ Gr w w') := c9
  have q1 := eqN_self 9 z
  have q2 := eqN_self 9 v
  have q3 := eqN_self 9 b
  have p0 : (0 : Int) ≤ (p : Int) := by omega
  have p1 : (p : Int) < 200 := by omega
  have qq0 : (0 : Int) ≤ (q : Int) := by omega
  have qq1 : (q : Int) < 200 := by omega
  clear c1 c2 c3 c4 c5 c6 c7 c8 c9 e1 e2 e3 e4 hcM huM hx hz hu hv hb hc ha p200 q200
  go_enter Try.func8, Try.ntmps8
  go_wp2_with (first
    | (go_at_call 27; refine (awake_any _).mono ?_; rintro e w' ⟨rfl, g, rfl⟩)
    | (go_at_call_of 28 (Value.agg (nw 9 x)); refine (C2.out _).mono ?_; rintro e w' ⟨rfl, g, rfl⟩)
    | (go_at_call_of 28 (Value.agg (nw 9 b)); refine (C8.out _).mono ?_; rintro e w' ⟨rfl, g, rfl⟩)
    | (go_at_call_of 28 (Value.int .i64 (p : Int)); refine (C1.out _).mono ?_; rintro e w' ⟨rfl, g, rfl⟩)
    | (go_at_call 28; refine (C3.out _).mono ?_; rintro e w' ⟨rfl, g, rfl⟩)
    | (go_at_call_of 29 (Value.agg (nw 9 u)); refine (C5.out _).mono ?_; rintro e w' ⟨rfl, g, rfl⟩)
    | (go_at_call_of 29 (Value.agg (nw 9 c)); refine (C9.out _).mono ?_; rintro e w' ⟨rfl, g, rfl⟩)
    | (go_at_call_of 29 (Value.int .i64 (p : Int)); refine (C4.out _).mono ?_; rintro e w' ⟨rfl, g, rfl⟩)
    | (go_at_call 29; refine (C6.out _).mono ?_; rintro e w' ⟨rfl, g, rfl⟩)
    | (go_at_call 41; refine (C7.out _).mono ?_; rintro e w' ⟨rfl, g, rfl⟩)
    | (go_at_call 35; refine (num_any _ _).mono ?_; rintro e w' ⟨rfl, rfl⟩))
  go_ret
  exact ⟨rfl, (by repeat (first | exact Gr.refl _ | apply Gr.drewN | apply Gr.drew | apply Gr.alloc | apply Gr.gro))⟩

end Go.Proofs.Ytjgpecdhlgdjoaa
