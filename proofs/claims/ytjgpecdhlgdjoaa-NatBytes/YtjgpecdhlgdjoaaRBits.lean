/-
  The documents' numbers: Bits.
-/
import Derived.Test.YtjgpecdhlgdjoaaRNat
namespace Go.Proofs.Ytjgpecdhlgdjoaa
open Go.RowKit
attribute [local go_sem ↓] loadNat_is loadArr_is loadWide_is loadArrW_is storeNat_is storeWide_is
attribute [local go_sem] loadNat loadArr loadWide loadArrW storeNat storeWide idxArr fold9 fold18 nw_size nw_elem pre_self pre_1 pre_2 pre_3 pre_4 pre_5 pre_6 pre_7 pre_8 pre_9 pre_10 pre_11 pre_12 pre_13 pre_14 pre_15 pre_16 pre_17 pre_18 pre_19 pre_20 pre_21 pre_22 pre_23 pre_24 pre_25 pre_26 pre_27 pre_28 pre_29 pre_30 pre_31 pre_32 pre_33 pre_34 pre_35 pre_36 pre_37 pre_38 pre_39 pre_40 gro_size gro_drew gro_drewN drew_gro drewN_gro gro_gro blk_gro frz_gro blk_drew frz_drew blk_drewN frz_drewN blk_alloc_at frz_alloc_at blk_alloc frz_alloc cell_gro frozen_gro cell_alloc_pre frozen_alloc_pre setCell_drewN alloc_drewN setBlk_drew setBlk_drewN setBlk_alloc_at setBlk_alloc setBlk_gro setCell_gro setCell_alloc_pre size_setBlk size_setCell
theorem dbl_top (x j : Nat) (hx : x < pq (j + 1)) (h : dg x j ≠ 0) : bl x = 32 * j + bl (dg x j) := by
  have e : x / 2 ^ (32 * j) = dg x j := by
    unfold dg
    show x / pq j = _
    rw [Nat.mod_eq_of_lt]
    rw [pq_succ] at hx
    rw [Nat.div_lt_iff_lt_mul (pq_pos j), Nat.mul_comm]
    exact hx
  rw [← e]
  refine bl_shift x (32 * j) ?_
  by_cases hl : 2 ^ (32 * j) ≤ x
  · exact hl
  · exfalso
    apply h
    rw [← e, Nat.div_eq_of_lt (by omega)]
set_option maxRecDepth 100000 in
set_option maxHeartbeats 800000 in
theorem rbits_any (x n : Nat) (p : Option Addr) (w : World) (hp : Sl w p x) (hx : dl x ≤ 50000) :
    Calls Try.prog 22 #[.slice p (dl x) n] w fun e w' => e = .returned (.int .i64 ((bl x : Nat) : Int)) ∧ w' = w := by
  obtain hz | ⟨j, hj⟩ : dl x = 0 ∨ ∃ j, dl x = j + 1 := by
    cases dl x with
    | zero => exact Or.inl rfl
    | succ j => exact Or.inr ⟨j, rfl⟩
  · have hx0 := dl_eq_zero x hz
    subst hx0
    rw [hz]
    clear hp
    go_enter Try.func22, Try.ntmps22
    go_wp2
    go_ret
    exact ⟨rfl, rfl⟩
  · obtain ⟨b, rfl, hb, hc⟩ := hp j (by omega)
    have hlx := dl_lt x
    rw [hj] at hx hlx ⊢
    have hne : dg x j ≠ 0 := fun h0 => by
      have := (dl_le x j).2 (dl_top_zero x j hlx h0)
      omega
    have hB := dbl_top x j hlx hne
    have hl := dg_lt x j
    have hb32 : bl (dg x j) ≤ 32 := (bl_le _ 32).2 hl
    have hg : w.cell? ⟨b, j, none⟩ = some (.int .u32 ((dg x j : Nat) : Int)) := by rw [cell_blk]; exact hc
    have j0 : (0 : Int) ≤ (j : Int) := by omega
    have j1 : (j : Int) < 50000 := by omega
    obtain ⟨L, hL⟩ : ∃ L, j + 1 = L := ⟨_, rfl⟩
    rw [hL]
    have e1 : (L : Int) - 1 = (j : Int) := by omega
    have e3 : ((L : Int) == 0) = false := by rw [beq_eq_false_iff_ne]; omega
    have e4 : (j : Int) < (L : Int) := by omega
    obtain ⟨D, hD⟩ : ∃ D, dg x j = D := ⟨_, rfl⟩
    obtain ⟨B, hBx⟩ : ∃ B, bl x = B := ⟨_, rfl⟩
    rw [hD] at hB hl hg hb32
    rw [hBx] at hB ⊢
    have HB : Hid (Unit → B = 32 * j + bl D) := fun _ => hB
    have HL : Hid (Unit → bl D ≤ 32) := fun _ => hb32
    have HX : Hid (Unit → j < 50000) := fun _ => by omega
    clear hB hBx hD hc hne hlx hj hb32 hp hx hL
    go_enter Try.func22, Try.ntmps22
    go_wp2
    go_loopw [3, 4] (fun k v wr => ∃ K V : Nat, k = .int .i64 (K : Int) ∧ v = .int .u32 (V : Int) ∧ (V : Int) < 4294967296 ∧ (K : Int) ≤ 1700000 ∧ Hid (Unit → K + bl V = B) ∧ wr = w) (fun _ v _ => (intOf v).toNat)
    case atStart => exact ⟨32 * j, D, by go_num, rfl, by omega, by have := HX.out (); omega, fun _ => (HB.out ()).symm, rfl⟩
    case round =>
      obtain ⟨K, V, rfl, rfl, hV, hK, HE, rfl⟩ := hrel
      by_cases h0 : V = 0
      · subst h0
        have HK : Hid (Unit → K = B) := fun _ => by have := HE.out (); rw [bl_zero] at this; omega
        clear HE HB HL
        go_wp2
        go_ret
        exact ⟨by rw [HK.out ()]; rfl, rfl⟩
      · have v0 : (0 : Int) < (V : Int) := by omega
        have HN : Hid (Unit → K + 1 + bl (V / 2) = B) := fun _ => by have := HE.out (); rw [bl_half V h0] at this; omega
        have HW : Hid (Unit → V < 4294967296) := fun _ => by omega
        clear hV HE h0 e1 e3 e4 j0 j1 hl hb hg
        go_wp2
        go_roundw
        case rel => exact ⟨K + 1, V / 2, by go_num, by go_num, by have := HW.out (); omega, by have := HN.out (); have := HB.out (); have := HL.out (); have := HX.out (); omega, HN, trivial⟩
        case measure => simp [intOf]; omega

end Go.Proofs.Ytjgpecdhlgdjoaa
