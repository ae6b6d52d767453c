import Derived.Shelf.Bits.Mul64
import Derived.Test.YtgmaalokfgdpaaaXCSl
import Derived.Test.YtgmaalokfgdpaaaXCEC
import Derived.Test.YtgmaalokfgdpaaaXCKr
namespace Go.Proofs.Ytgmaalokfgdpaaa
open Go.RowKit
attribute [local go_sem ↓] loadNat_is loadArr_is loadWide_is loadArrW_is storeNat_is storeWide_is
attribute [local go_sem] loadNat loadArr loadWide loadArrW storeNat storeWide idxArr fold9 fold18 nw_size nw_elem pre_self pre_1 pre_2 pre_3 pre_4 pre_5 pre_6 pre_7 pre_8 pre_9 pre_10 pre_11 pre_12 pre_13 pre_14 pre_15 pre_16 pre_17 pre_18 pre_19 pre_20 pre_21 pre_22 pre_23 pre_24 pre_25 pre_26 pre_27 pre_28 pre_29 pre_30 pre_31 pre_32 pre_33 pre_34 pre_35 pre_36 pre_37 pre_38 pre_39 pre_40 gro_size gro_drew gro_drewN drew_gro drewN_gro gro_gro blk_gro frz_gro blk_drew frz_drew blk_drewN frz_drewN blk_alloc_at frz_alloc_at blk_alloc frz_alloc cell_gro frozen_gro cell_alloc_pre frozen_alloc_pre setCell_drewN alloc_drewN setBlk_drew setBlk_drewN setBlk_alloc_at setBlk_alloc setBlk_gro setCell_gro setCell_alloc_pre size_setBlk size_setCell
theorem digits_in (w : World) (p : Option Addr) (x n : Nat) (h : Sl w p x) : ∀ (i : Int) (j : Nat) (v : World), i = (j : Int) → Gr w v → Calls Try.prog 45 #[.slice p (dl x) n, .int .i64 i] v fun e w' => e = .returned (.int .u64 ((dg x j : Nat) : Int)) ∧ w' = v := fun i j v e g => by
  subst e
  exact digit_any v p x n j (h.gr g)
theorem wd_mod (x n k : Nat) (h : k < n) : wd (x % pw n) k = wd x k := by
  obtain ⟨d, rfl⟩ : ∃ d, n = k + 1 + d := ⟨n - (k + 1), by omega⟩
  unfold wd
  rw [pw_add, pow_succ64, Nat.mul_assoc, Nat.mod_mul_right_div_self, Nat.mod_mul_right_mod]
theorem nw_mod (x n : Nat) : nw n (x % pw n) = nw n x := by
  apply Array.ext_getElem?
  intro j
  by_cases hj : j < n
  · rw [nw_get _ _ _ hj, nw_get _ _ _ hj, wd_mod x n j hj]
  · rw [Array.getElem?_eq_none (by rw [nw_size]; omega), Array.getElem?_eq_none (by rw [nw_size]; omega)]
theorem or_word (x k : Nat) : bits BinOp.or IntKind.u64 ((dg x (2 * k) : Nat) : Int) (IntKind.u64.wrap (((dg x (2 * k + 1) : Nat) : Int) * 4294967296)) = ((wd x k : Nat) : Int) := by
  have h0 := dg_lt x (2 * k)
  have h1 := dg_lt x (2 * k + 1)
  rw [wd_two]
  generalize dg x (2 * k) = d at *
  generalize dg x (2 * k + 1) = e at *
  have e1 : IntKind.u64.wrap ((e : Int) * 4294967296) = ((e * 4294967296 : Nat) : Int) := by rw [IntKind.wrap_u64]; omega
  rw [e1, bits_or_u64_nat d (e * 4294967296) (by omega) (by omega)]
  have e2 := Nat.two_pow_add_eq_or_of_lt (i := 32) (b := d) h0 e
  rw [Nat.or_comm, show e * 4294967296 = 2 ^ 32 * e from Nat.mul_comm _ _, ← e2, Nat.add_comm]
set_option maxRecDepth 100000 in
set_option maxHeartbeats 800000 in
theorem rnat_any (x n : Nat) (p : Option Addr) (w : World) (h : Sl w p x) : Calls Try.prog 39 #[.slice p (dl x) n] w fun e w' => e = .returned (.agg (nw 9 x)) ∧ Gr w w' := by
  have cd := digits_in w p x n h
  obtain ⟨L, hL⟩ : ∃ L, dl x = L := ⟨_, rfl⟩
  rw [hL] at cd ⊢
  have CD : Hid (∀ (i : Int) (j : Nat) (v : World), i = (j : Int) → Gr w v → Calls Try.prog 45 #[.slice p L n, .int .i64 i] v fun e w' => e = .returned (.int .u64 ((dg x j : Nat) : Int)) ∧ w' = v) := cd
  clear cd h hL
  go_enter Try.func39, Try.ntmps39
  go_wp2
  go_loopw [4] (fun i wr => ∃ k : Nat, k ≤ 9 ∧ i = .int .i64 (k : Int) ∧ wr = (w.alloc (.cells (nw 9 0) 25)).alloc (.cells (nw 9 (x % pw k)) 25)) (fun i _ => 9 - (intOf i).toNat)
  case atStart => exact ⟨0, by omega, rfl, by rw [pw_zero, Nat.mod_one]⟩
  case round =>
    obtain ⟨k, hk, rfl, rfl⟩ := hrel
    by_cases hlt : k < 9
    · have k0 : (0 : Int) ≤ (k : Int) := by omega
      have k1 : (k : Int) < 9 := by omega
      obtain ⟨V, hV⟩ : ∃ V, x % pw k = V := ⟨_, rfl⟩
      rw [hV]
      have gV := nw_get 9 V k (by omega)
      have HV : Hid (Unit → x % pw k = V) := fun _ => hV
      clear hV
      go_wp2_with (first
        | (go_at_call 45; refine (CD.out _ (2 * k) _ ?_ ?_).mono ?_; omega; exact (by repeat (first | exact Gr.refl _ | apply Gr.drewN | apply Gr.drew | apply Gr.alloc | apply Gr.gro)); rintro e w' ⟨rfl, rfl⟩)
        | (go_at_call 45; refine (CD.out _ (2 * k + 1) _ ?_ ?_).mono ?_; omega; exact (by repeat (first | exact Gr.refl _ | apply Gr.drewN | apply Gr.drew | apply Gr.alloc | apply Gr.gro)); rintro e w' ⟨rfl, rfl⟩))
      go_roundw
      case rel =>
        refine ⟨k + 1, by omega, by go_num, ?_⟩
        rw [or_word, nw_set_top 9 V k _ (wd_lt x k) (by rw [← HV.out ()]; exact Nat.mod_lt _ (pw_pos k)), mod_succ, HV.out ()]
      case measure => simp [intOf]; omega
    · have hk9 : Hid (Unit → k = 9) := fun _ => by omega
      obtain ⟨V, hV⟩ : ∃ V, x % pw k = V := ⟨_, rfl⟩
      have HV : Hid (Unit → nw 9 V = nw 9 x) := fun _ => by rw [← hV, hk9.out (), nw_mod]
      have ki : ¬ (k : Int) < 9 := by omega
      rw [hV]
      clear hV hlt hk
      go_wp2
      exact bodyPost_ret (v := .agg (nw 9 V)) (by simp [results, Try.results39, go_sem, nw9_lit]) rfl ⟨by rw [HV.out ()], (by repeat (first | exact Gr.refl _ | apply Gr.drewN | apply Gr.drew | apply Gr.alloc | apply Gr.gro))⟩

end Go.Proofs.Ytgmaalokfgdpaaa
namespace Go.Proofs.Ytgmaalokfgdpaaa
open Go.RowKit
attribute [local go_sem ↓] loadNat_is loadArr_is loadWide_is loadArrW_is storeNat_is storeWide_is
attribute [local go_sem] loadNat loadArr loadWide loadArrW storeNat storeWide idxArr fold9 fold18 nw_size nw_elem pre_self pre_1 pre_2 pre_3 pre_4 pre_5 pre_6 pre_7 pre_8 pre_9 pre_10 pre_11 pre_12 pre_13 pre_14 pre_15 pre_16 pre_17 pre_18 pre_19 pre_20 pre_21 pre_22 pre_23 pre_24 pre_25 pre_26 pre_27 pre_28 pre_29 pre_30 pre_31 pre_32 pre_33 pre_34 pre_35 pre_36 pre_37 pre_38 pre_39 pre_40 gro_size gro_drew gro_drewN drew_gro drewN_gro gro_gro blk_gro frz_gro blk_drew frz_drew blk_drewN frz_drewN blk_alloc_at frz_alloc_at blk_alloc frz_alloc cell_gro frozen_gro cell_alloc_pre frozen_alloc_pre setCell_drewN alloc_drewN setBlk_drew setBlk_drewN setBlk_alloc_at setBlk_alloc setBlk_gro setCell_gro setCell_alloc_pre size_setBlk size_setCell
theorem pq_M : pq 18 = M := pq_two 9
end Go.Proofs.Ytgmaalokfgdpaaa
namespace Go.Proofs.Ytgmaalokfgdpaaa
open Go.RowKit
attribute [local go_sem ↓] loadNat_is loadArr_is loadWide_is loadArrW_is storeNat_is storeWide_is
attribute [local go_sem] loadNat loadArr loadWide loadArrW storeNat storeWide idxArr fold9 fold18 nw_size nw_elem pre_self pre_1 pre_2 pre_3 pre_4 pre_5 pre_6 pre_7 pre_8 pre_9 pre_10 pre_11 pre_12 pre_13 pre_14 pre_15 pre_16 pre_17 pre_18 pre_19 pre_20 pre_21 pre_22 pre_23 pre_24 pre_25 pre_26 pre_27 pre_28 pre_29 pre_30 pre_31 pre_32 pre_33 pre_34 pre_35 pre_36 pre_37 pre_38 pre_39 pre_40 gro_size gro_drew gro_drewN drew_gro drewN_gro gro_gro blk_gro frz_gro blk_drew frz_drew blk_drewN frz_drewN blk_alloc_at frz_alloc_at blk_alloc frz_alloc cell_gro frozen_gro cell_alloc_pre frozen_alloc_pre setCell_drewN alloc_drewN setBlk_drew setBlk_drewN setBlk_alloc_at setBlk_alloc setBlk_gro setCell_gro setCell_alloc_pre size_setBlk size_setCell
theorem bits_or32 (a b : Nat) (ha : a < 4294967296) (hb : b < 4294967296) : bits .or .u32 (a : Int) (b : Int) = ((a ||| b : Nat) : Int) := by
  have hx : a ||| b < 2 ^ 32 := Nat.or_lt_two_pow (by omega) (by omega)
  have h1 : (BitVec.ofInt 32 (a : Int)).toNat = a := by
    rw [BitVec.ofInt_natCast, BitVec.toNat_ofNat]; exact Nat.mod_eq_of_lt (by omega)
  have h2 : (BitVec.ofInt 32 (b : Int)).toNat = b := by
    rw [BitVec.ofInt_natCast, BitVec.toNat_ofNat]; exact Nat.mod_eq_of_lt (by omega)
  show IntKind.u32.wrap ((BitVec.ofInt 32 (a : Int) ||| BitVec.ofInt 32 (b : Int)).toNat : Int) = _
  rw [BitVec.toNat_or, h1, h2, IntKind.wrap_u32]
  omega
end Go.Proofs.Ytgmaalokfgdpaaa
namespace Go.Proofs.Ytgmaalokfgdpaaa
open Go.RowKit
attribute [local go_sem ↓] loadNat_is loadArr_is loadWide_is loadArrW_is storeNat_is storeWide_is
attribute [local go_sem] loadNat loadArr loadWide loadArrW storeNat storeWide idxArr fold9 fold18 nw_size nw_elem pre_self pre_1 pre_2 pre_3 pre_4 pre_5 pre_6 pre_7 pre_8 pre_9 pre_10 pre_11 pre_12 pre_13 pre_14 pre_15 pre_16 pre_17 pre_18 pre_19 pre_20 pre_21 pre_22 pre_23 pre_24 pre_25 pre_26 pre_27 pre_28 pre_29 pre_30 pre_31 pre_32 pre_33 pre_34 pre_35 pre_36 pre_37 pre_38 pre_39 pre_40 gro_size gro_drew gro_drewN drew_gro drewN_gro gro_gro blk_gro frz_gro blk_drew frz_drew blk_drewN frz_drewN blk_alloc_at frz_alloc_at blk_alloc frz_alloc cell_gro frozen_gro cell_alloc_pre frozen_alloc_pre setCell_drewN alloc_drewN setBlk_drew setBlk_drewN setBlk_alloc_at setBlk_alloc setBlk_gro setCell_gro setCell_alloc_pre size_setBlk size_setCell
theorem nd_one (x : Nat) (hx : x < 4294967296) : #[Value.int .u32 (x : Int)] = nd 1 x := by
  have e : dg x 0 = x := by unfold dg; rw [pq_zero, Nat.div_one, Nat.mod_eq_of_lt hx]
  show _ = #[Value.int .u32 ((dg x 0 : Nat) : Int)]
  rw [e]
/-- A slice of one digit that is made. -/
def bslS (t : TypeId) (n : Nat) (p : Array (Nat × Value)) : Sem Value := Instr.buildSlice t n p
theorem bsl_is (n : Nat) (p : Array (Nat × Value)) : Instr.buildSlice 34 n p = bslS 34 n p := rfl
theorem build1' (x : Nat) (w : World) : (bslS 34 1 #[(0, .int .u32 (x : Int))]).run Try.prog w = .ok (.slice (some ⟨w.heap.size, 0, none⟩) 1 1) (w.alloc (.cells #[.int .u32 (x : Int)] 55)) := by
  kernel_rfl
theorem build1 (x : Nat) (hx : x < 4294967296) (w : World) : (bslS 34 1 #[(0, .int .u32 (x : Int))]).run Try.prog w = .ok (.slice (some ⟨w.heap.size, 0, none⟩) 1 1) (w.alloc (.cells (nd 1 x) 55)) := by
  rw [build1' x w, nd_one x hx]
end Go.Proofs.Ytgmaalokfgdpaaa
namespace Go.Proofs.Ytgmaalokfgdpaaa
open Go.RowKit
attribute [local go_sem ↓] loadNat_is loadArr_is loadWide_is loadArrW_is storeNat_is storeWide_is
attribute [local go_sem] loadNat loadArr loadWide loadArrW storeNat storeWide idxArr fold9 fold18 nw_size nw_elem pre_self pre_1 pre_2 pre_3 pre_4 pre_5 pre_6 pre_7 pre_8 pre_9 pre_10 pre_11 pre_12 pre_13 pre_14 pre_15 pre_16 pre_17 pre_18 pre_19 pre_20 pre_21 pre_22 pre_23 pre_24 pre_25 pre_26 pre_27 pre_28 pre_29 pre_30 pre_31 pre_32 pre_33 pre_34 pre_35 pre_36 pre_37 pre_38 pre_39 pre_40 gro_size gro_drew gro_drewN drew_gro drewN_gro gro_gro blk_gro frz_gro blk_drew frz_drew blk_drewN frz_drewN blk_alloc_at frz_alloc_at blk_alloc frz_alloc cell_gro frozen_gro cell_alloc_pre frozen_alloc_pre setCell_drewN alloc_drewN setBlk_drew setBlk_drewN setBlk_alloc_at setBlk_alloc setBlk_gro setCell_gro setCell_alloc_pre size_setBlk size_setCell
theorem dbl_top (x j : Nat) (hx : x < pq (j + 1)) (h : dg x j ≠ 0) : bl x = 32 * j + bl (dg x j) := by
  have e : x / 2 ^ (32 * j) = dg x j := by
    unfold dg
    show x / pq j = _
    rw [Nat.mod_eq_of_lt]
    rw [pq_succ] at hx
    rw [Nat.div_lt_iff_lt_mul (pq_pos j), Nat.mul_comm]
    exact hx
  rw [← e]
  refine bl_shift x (32 * j) ?_
  by_cases hl : 2 ^ (32 * j) ≤ x
  · exact hl
  · exfalso
    apply h
    rw [← e, Nat.div_eq_of_lt (by omega)]
set_option maxRecDepth 100000 in
set_option maxHeartbeats 800000 in
theorem rbits_any (x n : Nat) (p : Option Addr) (w : World) (hp : Sl w p x) (hx : dl x ≤ 50000) :
    Calls Try.prog 33 #[.slice p (dl x) n] w fun e w' => e = .returned (.int .i64 ((bl x : Nat) : Int)) ∧ w' = w := by
  obtain hz | ⟨j, hj⟩ : dl x = 0 ∨ ∃ j, dl x = j + 1 := by
    cases dl x with
    | zero => exact Or.inl rfl
    | succ j => exact Or.inr ⟨j, rfl⟩
  · have hx0 := dl_eq_zero x hz
    subst hx0
    rw [hz]
    clear hp
    go_enter Try.func33, Try.ntmps33
    go_wp2
    go_ret
    exact ⟨rfl, rfl⟩
  · obtain ⟨b, rfl, hb, hc⟩ := hp j (by omega)
    have hlx := dl_lt x
    rw [hj] at hx hlx ⊢
    have hne : dg x j ≠ 0 := fun h0 => by
      have := (dl_le x j).2 (dl_top_zero x j hlx h0)
      omega
    have hB := dbl_top x j hlx hne
    have hl := dg_lt x j
    have hb32 : bl (dg x j) ≤ 32 := (bl_le _ 32).2 hl
    have hg : w.cell? ⟨b, j, none⟩ = some (.int .u32 ((dg x j : Nat) : Int)) := by rw [cell_blk]; exact hc
    have j0 : (0 : Int) ≤ (j : Int) := by omega
    have j1 : (j : Int) < 50000 := by omega
    obtain ⟨L, hL⟩ : ∃ L, j + 1 = L := ⟨_, rfl⟩
    rw [hL]
    have e1 : (L : Int) - 1 = (j : Int) := by omega
    have e3 : ((L : Int) == 0) = false := by rw [beq_eq_false_iff_ne]; omega
    have e4 : (j : Int) < (L : Int) := by omega
    obtain ⟨D, hD⟩ : ∃ D, dg x j = D := ⟨_, rfl⟩
    obtain ⟨B, hBx⟩ : ∃ B, bl x = B := ⟨_, rfl⟩
    rw [hD] at hB hl hg hb32
    rw [hBx] at hB ⊢
    have HB : Hid (Unit → B = 32 * j + bl D) := fun _ => hB
    have HL : Hid (Unit → bl D ≤ 32) := fun _ => hb32
    have HX : Hid (Unit → j < 50000) := fun _ => by omega
    clear hB hBx hD hc hne hlx hj hb32 hp hx hL
    go_enter Try.func33, Try.ntmps33
    go_wp2
    go_loopw [3, 4] (fun k v wr => ∃ K V : Nat, k = .int .i64 (K : Int) ∧ v = .int .u32 (V : Int) ∧ (V : Int) < 4294967296 ∧ (K : Int) ≤ 1700000 ∧ Hid (Unit → K + bl V = B) ∧ wr = w) (fun _ v _ => (intOf v).toNat)
    case atStart => exact ⟨32 * j, D, by go_num, rfl, by omega, by have := HX.out (); omega, fun _ => (HB.out ()).symm, rfl⟩
    case round =>
      obtain ⟨K, V, rfl, rfl, hV, hK, HE, rfl⟩ := hrel
      by_cases h0 : V = 0
      · subst h0
        have HK : Hid (Unit → K = B) := fun _ => by have := HE.out (); rw [bl_zero] at this; omega
        clear HE HB HL
        go_wp2
        go_ret
        exact ⟨by rw [HK.out ()]; rfl, rfl⟩
      · have v0 : (0 : Int) < (V : Int) := by omega
        have HN : Hid (Unit → K + 1 + bl (V / 2) = B) := fun _ => by have := HE.out (); rw [bl_half V h0] at this; omega
        have HW : Hid (Unit → V < 4294967296) := fun _ => by omega
        clear hV HE h0 e1 e3 e4 j0 j1 hl hb hg
        go_wp2
        go_roundw
        case rel => exact ⟨K + 1, V / 2, by go_num, by go_num, by have := HW.out (); omega, by have := HN.out (); have := HB.out (); have := HL.out (); have := HX.out (); omega, HN, trivial⟩
        case measure => simp [intOf]; omega

end Go.Proofs.Ytgmaalokfgdpaaa
namespace Go.Proofs.Ytgmaalokfgdpaaa
open Go.RowKit
attribute [local go_sem ↓] loadNat_is loadArr_is loadWide_is loadArrW_is storeNat_is storeWide_is
attribute [local go_sem] loadNat loadArr loadWide loadArrW storeNat storeWide idxArr fold9 fold18 nw_size nw_elem pre_self pre_1 pre_2 pre_3 pre_4 pre_5 pre_6 pre_7 pre_8 pre_9 pre_10 pre_11 pre_12 pre_13 pre_14 pre_15 pre_16 pre_17 pre_18 pre_19 pre_20 pre_21 pre_22 pre_23 pre_24 pre_25 pre_26 pre_27 pre_28 pre_29 pre_30 pre_31 pre_32 pre_33 pre_34 pre_35 pre_36 pre_37 pre_38 pre_39 pre_40 gro_size gro_drew gro_drewN drew_gro drewN_gro gro_gro blk_gro frz_gro blk_drew frz_drew blk_drewN frz_drewN blk_alloc_at frz_alloc_at blk_alloc frz_alloc cell_gro frozen_gro cell_alloc_pre frozen_alloc_pre setCell_drewN alloc_drewN setBlk_drew setBlk_drewN setBlk_alloc_at setBlk_alloc setBlk_gro setCell_gro setCell_alloc_pre size_setBlk size_setCell
/-- Two digits that lie side by side, of which r bits are dropped. -/
theorem shr_dig (x i q r : Nat) (hr : r < 32) : (dg x (i + q) + dg x (i + q + 1) * 4294967296) / 2 ^ r % 4294967296 = dg (x / 2 ^ (32 * q + r)) i := by
  have e : dg x (i + q) + dg x (i + q + 1) * 4294967296 = x / 2 ^ (32 * (i + q)) % 2 ^ 64 := by
    unfold dg pq
    rw [show 32 * (i + q + 1) = 32 * (i + q) + 32 by omega, Nat.pow_add, ← Nat.div_div_eq_div_mul]
    generalize x / 2 ^ (32 * (i + q)) = y
    omega
  rw [e]
  unfold dg pq
  rw [show (4294967296 : Nat) = 2 ^ 32 from rfl]
  apply Nat.eq_of_testBit_eq
  intro j
  rw [Nat.testBit_mod_two_pow, Nat.testBit_mod_two_pow, ← Nat.shiftRight_eq_div_pow, ← Nat.shiftRight_eq_div_pow, ← Nat.shiftRight_eq_div_pow, ← Nat.shiftRight_eq_div_pow, Nat.testBit_shiftRight, Nat.testBit_mod_two_pow, Nat.testBit_shiftRight, Nat.testBit_shiftRight, Nat.testBit_shiftRight]
  by_cases hj : j < 32
  · rw [decide_eq_true hj, decide_eq_true (show r + j < 64 by omega), Bool.true_and, Bool.true_and, Bool.true_and]
    congr 1
    omega
  · rw [decide_eq_false hj, Bool.false_and, Bool.false_and]
/-- All that one round of Shr reckons. -/
theorem shr_round (x j q r : Nat) (hr : r < 32) : ∃ T S : Nat, bits BinOp.or IntKind.u64 ((dg x (j + q) : Nat) : Int) (IntKind.u64.wrap (((dg x (j + q + 1) : Nat) : Int) * 4294967296)) = (T : Int) ∧
    (T : Int) / 2 ^ r = (S : Int) ∧ bits BinOp.and IntKind.u64 (S : Int) 4294967295 = ((dg (x / 2 ^ (32 * q + r)) j : Nat) : Int) := by
  have h0 := dg_lt x (j + q)
  have h1 := dg_lt x (j + q + 1)
  have h2 := shr_dig x j q r hr
  generalize dg x (j + q) = d at *
  generalize dg x (j + q + 1) = e at *
  have h3 : (d + e * 4294967296) / 2 ^ r ≤ d + e * 4294967296 := Nat.div_le_self _ _
  refine ⟨d + e * 4294967296, (d + e * 4294967296) / 2 ^ r, ?_, ?_, ?_⟩
  · have e1 : IntKind.u64.wrap ((e : Int) * 4294967296) = ((e * 4294967296 : Nat) : Int) := by rw [IntKind.wrap_u64]; omega
    rw [e1, bits_or_u64_nat d (e * 4294967296) (by omega) (by omega)]
    have e2 := Nat.two_pow_add_eq_or_of_lt (i := 32) (b := d) h0 e
    rw [Nat.or_comm, show e * 4294967296 = 2 ^ 32 * e from Nat.mul_comm _ _, ← e2, Nat.add_comm]
  · rw [int_pow, ← Int.natCast_ediv]
  · rw [← h2]
    exact Mul64.maskN _ (by omega)
end Go.Proofs.Ytgmaalokfgdpaaa
namespace Go.Proofs.Ytgmaalokfgdpaaa
open Go.RowKit
attribute [local go_sem ↓] loadNat_is loadArr_is loadWide_is loadArrW_is storeNat_is storeWide_is
attribute [local go_sem] loadNat loadArr loadWide loadArrW storeNat storeWide idxArr fold9 fold18 nw_size nw_elem pre_self pre_1 pre_2 pre_3 pre_4 pre_5 pre_6 pre_7 pre_8 pre_9 pre_10 pre_11 pre_12 pre_13 pre_14 pre_15 pre_16 pre_17 pre_18 pre_19 pre_20 pre_21 pre_22 pre_23 pre_24 pre_25 pre_26 pre_27 pre_28 pre_29 pre_30 pre_31 pre_32 pre_33 pre_34 pre_35 pre_36 pre_37 pre_38 pre_39 pre_40 gro_size gro_drew gro_drewN drew_gro drewN_gro gro_gro blk_gro frz_gro blk_drew frz_drew blk_drewN frz_drewN blk_alloc_at frz_alloc_at blk_alloc frz_alloc cell_gro frozen_gro cell_alloc_pre frozen_alloc_pre setCell_drewN alloc_drewN setBlk_drew setBlk_drewN setBlk_alloc_at setBlk_alloc setBlk_gro setCell_gro setCell_alloc_pre size_setBlk size_setCell
theorem dsub_all (x y k : Nat) (hx : x < pq k) (h : y ≤ x) : dsubS x y k = x - y := by
  unfold dsubS dsubC
  rw [Nat.mod_eq_of_lt hx, Nat.mod_eq_of_lt (show y < pq k by omega), if_neg (by omega), Nat.zero_mul, Nat.add_zero]
theorem dsubC_bit (x y k s : Nat) (h : dg x k + 4294967296 - dg y k - dsubC x y k = s) : (1 : Int) - (s : Int) / 4294967296 = ((dsubC x y (k + 1) : Nat) : Int) := by
  have h1 := dg_lt x k
  have h2 := dg_lt y k
  have h3 := dsubC_le x y k
  rw [dsubC_succ]
  split <;> omega
set_option maxRecDepth 100000 in
set_option maxHeartbeats 800000 in
theorem rsub_any (x y n m : Nat) (p q : Option Addr) (w : World) (hp : Sl w p x) (hq : Sl w q y) (hx : dl x ≤ 50000) (hyx : y ≤ x) :
    Calls Try.prog 21 #[.slice p (dl x) n, .slice q (dl y) m] w (Nm (x - y) w) := by
  have cx := digits_in w p x n hp
  have cy := digits_in w q y m hq
  have lx := dl_lt x
  obtain ⟨X, hX⟩ : ∃ L, dl x = L := ⟨_, rfl⟩
  obtain ⟨Y, hY⟩ : ∃ L, dl y = L := ⟨_, rfl⟩
  rw [hX] at cx lx hx ⊢
  rw [hY] at cy ⊢
  have hmx : ∀ w, (Instr.makeSlice 34 (.int .i64 (X : Int)) (.int .i64 (X : Int))).run Try.prog w = .ok (.slice (some ⟨w.heap.size, 0, none⟩) X X) (w.alloc (.cells (nd X 0) 55)) := fun w => make_digits X (by omega) w
  have x1 : (X : Int) ≤ 50000 := by omega
  have CX : Hid (∀ (i : Int) (j : Nat) (v : World), i = (j : Int) → Gr w v → Calls Try.prog 45 #[.slice p X n, .int .i64 i] v fun e w' => e = .returned (.int .u64 ((dg x j : Nat) : Int)) ∧ w' = v) := cx
  have CY : Hid (∀ (i : Int) (j : Nat) (v : World), i = (j : Int) → Gr w v → Calls Try.prog 45 #[.slice q Y m, .int .i64 i] v fun e w' => e = .returned (.int .u64 ((dg y j : Nat) : Int)) ∧ w' = v) := cy
  have HX : Hid (Unit → x < pq X) := fun _ => lx
  have HYX : Hid (Unit → y ≤ x) := fun _ => hyx
  clear cx cy hp hq hX hY lx hyx
  go_enter Try.func21, Try.ntmps21
  go_wp2
  clear hmx
  go_loopw [6, 7] (fun c i wr => ∃ k : Nat, k ≤ X ∧ i = .int .i64 (k : Int) ∧ c = .int .u64 ((dsubC x y k : Nat) : Int) ∧ wr = w.alloc (.cells (nd X (dsubS x y k)) 55)) (fun _ i _ => X - (intOf i).toNat)
  case atStart => exact ⟨0, by omega, rfl, by rw [dsubC_zero]; rfl, by rw [dsubS_zero]⟩
  case round =>
    obtain ⟨k, hk, rfl, rfl, rfl⟩ := hrel
    by_cases hlt : k < X
    · have k0 : (0 : Int) ≤ (k : Int) := by omega
      have k1 : (k : Int) < (X : Int) := by omega
      obtain ⟨s, hs⟩ : ∃ s, dg x k + 4294967296 - dg y k - dsubC x y k = s := ⟨_, rfl⟩
      have c1 := dsubC_le x y k
      have d1 := dg_lt x k
      have e1 := dg_lt y k
      have hs' : ((dg x k : Nat) : Int) + 4294967296 - ((dg y k : Nat) : Int) - ((dsubC x y k : Nat) : Int) = (s : Int) := by omega
      have s0 : (0 : Int) ≤ (s : Int) := by omega
      have s1 : (s : Int) < 8589934592 := by omega
      have hb := dsubC_bit x y k s hs
      have hm : bits BinOp.and IntKind.u64 (s : Int) 4294967295 = ((s % 4294967296 : Nat) : Int) := Mul64.maskN s (by omega)
      have hm2 : ((s % 4294967296 : Nat) : Int) % 4294967296 = ((s % 4294967296 : Nat) : Int) := by omega
      have gV := nd_get X (dsubS x y k) k (by omega)
      have HS : Hid (Unit → dg x k + 4294967296 - dg y k - dsubC x y k = s) := fun _ => hs
      clear hs
      obtain ⟨t, ht⟩ : ∃ t, s % 4294967296 = t := ⟨_, rfl⟩
      rw [ht] at hm hm2
      have HT : Hid (Unit → s % 4294967296 = t) := fun _ => ht
      clear ht
      go_wp2_with (first
        | (go_at_call_of 45 (Value.slice p X n); refine (CX.out _ k _ ?_ ?_).mono ?_; rfl; exact (by repeat (first | exact Gr.refl _ | apply Gr.drewN | apply Gr.drew | apply Gr.alloc | apply Gr.gro)); rintro e w' ⟨rfl, rfl⟩)
        | (go_at_call 45; refine (CY.out _ k _ ?_ ?_).mono ?_; rfl; exact (by repeat (first | exact Gr.refl _ | apply Gr.drewN | apply Gr.drew | apply Gr.alloc | apply Gr.gro)); rintro e w' ⟨rfl, rfl⟩))
      go_roundw
      case rel =>
        refine ⟨k + 1, by omega, by go_num, rfl, ?_⟩
        rw [nd_set_top _ _ k t (by rw [← HT.out ()]; exact Nat.mod_lt _ (by decide)) (dsubS_lt x y k), dsubS_succ, HS.out (), HT.out ()]
      case measure => simp [intOf]; omega
    · have hkK : k = X := by omega
      have hv := dsub_all x y k (by rw [hkK]; exact HX.out ()) (HYX.out ())
      have ki : ¬ (k : Int) < (X : Int) := by omega
      rw [hv]
      obtain ⟨V, hV⟩ : ∃ V, x - y = V := ⟨_, rfl⟩
      have HQ : Hid (Unit → V < pq X) := fun _ => by rw [← hV]; exact Nat.lt_of_le_of_lt (Nat.sub_le _ _) (HX.out ())
      rw [hV]
      have HV : Hid (Unit → V = x - y) := fun _ => hV.symm
      have kb : X ≤ 100000 := by omega
      clear hv hV hlt hk hkK
      go_wp2_with (go_at_call 44; refine (trim_nd _ _ X V kb (HQ.out ()) (by simp [go_sem])).mono ?_; rintro e w' ⟨rfl, rfl⟩)
      go_ret
      exact Nm.mk (HV.out ()) (HQ.out ()) (by simp [go_sem]) (by simp [go_sem]) (by repeat (first | exact Gr.refl _ | apply Gr.drewN | apply Gr.drew | apply Gr.alloc | apply Gr.gro))

end Go.Proofs.Ytgmaalokfgdpaaa
