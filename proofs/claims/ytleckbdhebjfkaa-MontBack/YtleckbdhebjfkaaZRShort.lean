/-
  The documents' numbers: Of (of a Wide), and by one digit: short.
-/
/-
  The documents' numbers: division by one digit.
-/
import Derived.Test.YtleckbdhebjfkaaZRFrom
import Derived.Test.YtleckbdhebjfkaaZRShl
import Derived.Test.YtleckbdhebjfkaaZSl
import Derived.Test.YtleckbdhebjfkaaZRStep
namespace Go.Proofs.Ytleckbdhebjfkaa
open Go.RowKit
attribute [local go_sem ↓] loadNat_is loadArr_is loadWide_is loadArrW_is storeNat_is storeWide_is
attribute [local go_sem] loadNat loadArr loadWide loadArrW storeNat storeWide idxArr fold9 fold18 nw_size nw_elem pre_self pre_1 pre_2 pre_3 pre_4 pre_5 pre_6 pre_7 pre_8 pre_9 pre_10 pre_11 pre_12 pre_13 pre_14 pre_15 pre_16 pre_17 pre_18 pre_19 pre_20 pre_21 pre_22 pre_23 pre_24 pre_25 pre_26 pre_27 pre_28 pre_29 pre_30 pre_31 pre_32 pre_33 pre_34 pre_35 pre_36 pre_37 pre_38 pre_39 pre_40 gro_size gro_drew gro_drewN drew_gro drewN_gro gro_gro blk_gro frz_gro blk_drew frz_drew blk_drewN frz_drewN blk_alloc_at frz_alloc_at blk_alloc frz_alloc cell_gro frozen_gro cell_alloc_pre frozen_alloc_pre setCell_drewN alloc_drewN setBlk_drew setBlk_drewN setBlk_alloc_at setBlk_alloc setBlk_gro setCell_gro setCell_alloc_pre size_setBlk size_setCell
theorem pq_36 : pq 36 = pw 18 := pq_two 18
theorem nd_one (x : Nat) (hx : x < 4294967296) : #[Value.int .u32 (x : Int)] = nd 1 x := by
  have e : dg x 0 = x := by unfold dg; rw [pq_zero, Nat.div_one, Nat.mod_eq_of_lt hx]
  show _ = #[Value.int .u32 ((dg x 0 : Nat) : Int)]
  rw [e]
/-- A slice of one digit that is made. -/
def bslS (t : TypeId) (n : Nat) (p : Array (Nat × Value)) : Sem Value := Instr.buildSlice t n p
theorem bsl_is (n : Nat) (p : Array (Nat × Value)) : Instr.buildSlice 31 n p = bslS 31 n p := rfl
theorem build1' (x : Nat) (w : World) : (bslS 31 1 #[(0, .int .u32 (x : Int))]).run Try.prog w = .ok (.slice (some ⟨w.heap.size, 0, none⟩) 1 1) (w.alloc (.cells #[.int .u32 (x : Int)] 35)) := by
  kernel_rfl
theorem build1 (x : Nat) (hx : x < 4294967296) (w : World) : (bslS 31 1 #[(0, .int .u32 (x : Int))]).run Try.prog w = .ok (.slice (some ⟨w.heap.size, 0, none⟩) 1 1) (w.alloc (.cells (nd 1 x) 35)) := by
  rw [build1' x w, nd_one x hx]
/-- Two slices that are handed back. -/
def Nm2 (x y : Nat) (w : World) (e : Ending) (w' : World) : Prop := ∃ p n p' n', e = .returned (.tuple #[.slice p (dl x) n, .slice p' (dl y) n']) ∧ Sl w' p x ∧ Sl w' p' y ∧ Gr w w'
end Go.Proofs.Ytleckbdhebjfkaa
namespace Go.Proofs.Ytleckbdhebjfkaa
open Go.RowKit
attribute [local go_sem ↓] loadNat_is loadArr_is loadWide_is loadArrW_is storeNat_is storeWide_is
attribute [local go_sem] loadNat loadArr loadWide loadArrW storeNat storeWide idxArr fold9 fold18 nw_size nw_elem pre_self pre_1 pre_2 pre_3 pre_4 pre_5 pre_6 pre_7 pre_8 pre_9 pre_10 pre_11 pre_12 pre_13 pre_14 pre_15 pre_16 pre_17 pre_18 pre_19 pre_20 pre_21 pre_22 pre_23 pre_24 pre_25 pre_26 pre_27 pre_28 pre_29 pre_30 pre_31 pre_32 pre_33 pre_34 pre_35 pre_36 pre_37 pre_38 pre_39 pre_40 gro_size gro_drew gro_drewN drew_gro drewN_gro gro_gro blk_gro frz_gro blk_drew frz_drew blk_drewN frz_drewN blk_alloc_at frz_alloc_at blk_alloc frz_alloc cell_gro frozen_gro cell_alloc_pre frozen_alloc_pre setCell_drewN alloc_drewN setBlk_drew setBlk_drewN setBlk_alloc_at setBlk_alloc setBlk_gro setCell_gro setCell_alloc_pre size_setBlk size_setCell
theorem nd_set_low (N H m x : Nat) (hx : x < 4294967296) : (nd N (H * pq (m + 1))).setIfInBounds m (Value.int .u32 (x : Int)) = nd N ((H * 4294967296 + x) * pq m) := by
  have e1 : H * pq (m + 1) % pq m = 0 := by rw [pq_succ, ← Nat.mul_assoc, Nat.mul_right_comm, Nat.mul_mod_left]
  have e2 : H * pq (m + 1) / pq (m + 1) = H := Nat.mul_div_cancel _ (pq_pos _)
  rw [nd_set N _ m x hx, e1, e2, Nat.zero_add, Nat.add_comm]
  refine congrArg (nd N) ?_
  rw [pq_succ]
  grind
/-- One digit more of a division by m. -/
theorem short_step (A m dgt : Nat) (hm : 0 < m) : (A * 4294967296 + dgt) / m = A / m * 4294967296 + (A % m * 4294967296 + dgt) / m ∧ (A * 4294967296 + dgt) % m = (A % m * 4294967296 + dgt) % m := by
  have hd := Nat.div_add_mod A m
  have e : A * 4294967296 + dgt = A % m * 4294967296 + dgt + m * (A / m * 4294967296) := by
    have : A * 4294967296 = (m * (A / m) + A % m) * 4294967296 := by rw [hd]
    grind
  refine ⟨?_, ?_⟩
  · rw [e, Nat.add_mul_div_left _ _ hm, Nat.add_comm]
  · rw [e, Nat.add_mul_mod_self_left]
attribute [local go_sem ↓] bsl_is
attribute [local go_sem] build1
set_option maxRecDepth 100000 in
set_option maxHeartbeats 1600000 in
theorem short_any (x m n : Nat) (p : Option Addr) (w : World) (hp : Sl w p x) (hx : dl x ≤ 50000) (hm : 0 < m) (hm2 : m < 4294967296) :
    Calls Try.prog 57 #[.slice p (dl x) n, .int .u64 (m : Int)] w (Nm2 (x / m) (x % m) w) := by
  have lx := dl_lt x
  unfold Sl at hp
  obtain ⟨X, hX⟩ : ∃ L, dl x = L := ⟨_, rfl⟩
  rw [hX] at lx hx hp ⊢
  have hmk : ∀ w, (Instr.makeSlice 31 (.int .i64 (X : Int)) (.int .i64 (X : Int))).run Try.prog w = .ok (.slice (some ⟨w.heap.size, 0, none⟩) X X) (w.alloc (.cells (nd X 0) 35)) := fun w => make_digits X (by omega) w
  have x1 : (X : Int) ≤ 50000 := by omega
  have n1 : ¬ (m : Int) = 0 := by omega
  have n2 : ((m : Int) == 0) = false := by rw [beq_eq_false_iff_ne]; omega
  have HP : Hid (∀ i, i < X → ∃ b, p = some ⟨b, 0, none⟩ ∧ Pre (b + 1) w.heap.size ∧ (blk w b)[i]? = some (.int .u32 ((dg x i : Nat) : Int))) := hp
  have HX : Hid (Unit → x < pq X ∧ X ≤ 50000) := fun _ => ⟨lx, hx⟩
  have HM : Hid (Unit → 0 < m ∧ m < 4294967296) := fun _ => ⟨hm, hm2⟩
  clear lx hX hp hx hm hm2
  go_enter Try.func57, Try.ntmps57
  go_wp2
  clear hmk
  go_loopw [7, 8] (fun ra ia wr => ∃ k H r : Nat, k ≤ X ∧ ia = .int .i64 ((k : Int) - 1) ∧ ra = .int .u64 (r : Int) ∧ Hid (Unit → x / pq k / m = H ∧ x / pq k % m = r) ∧ wr = w.alloc (.cells (nd X (H * pq k)) 35)) (fun _ ia _ => (intOf ia + 1).toNat)
  case atStart => exact ⟨X, 0, 0, by omega, rfl, rfl, fun _ => by rw [Nat.div_eq_of_lt (HX.out ()).1, Nat.zero_div, Nat.zero_mod]; exact ⟨rfl, rfl⟩, by rw [Nat.zero_mul]⟩
  case round =>
    obtain ⟨k, H, r, hk, rfl, rfl, HI, rfl⟩ := hrel
    obtain ⟨hH, hr⟩ := HI.out ()
    obtain ⟨hm, hm2⟩ := HM.out ()
    by_cases hpos : 0 < k
    · obtain ⟨i, rfl⟩ : ∃ i, k = i + 1 := ⟨k - 1, by omega⟩
      have e1 : (((i + 1 : Nat) : Int) - 1) = (i : Int) := by omega
      rw [e1]
      have i0 : (0 : Int) ≤ (i : Int) := by omega
      have i1 : (i : Int) < (X : Int) := by omega
      obtain ⟨b, rfl, hb, gb⟩ := HP.out i (by omega)
      obtain ⟨dd, hdd⟩ : ∃ u, dg x i = u := ⟨_, rfl⟩
      have ld := dg_lt x i
      rw [hdd] at gb ld
      have g1 : w.cell? ⟨b, i, none⟩ = some (.int .u32 (dd : Int)) := by rw [cell_blk]; exact gb
      have gq := nd_get X (H * pq (i + 1)) i (by omega)
      have lr : r < m := by rw [← hr]; exact Nat.mod_lt _ hm
      obtain ⟨s, hs⟩ : ∃ u, r * 4294967296 = u := ⟨_, rfl⟩
      obtain ⟨t, ht⟩ : ∃ u, r * 4294967296 + dd = u := ⟨_, rfl⟩
      obtain ⟨qd, hqd⟩ : ∃ u, t / m = u := ⟨_, rfl⟩
      obtain ⟨r', hr'⟩ : ∃ u, t % m = u := ⟨_, rfl⟩
      have lq : qd < 4294967296 := by
        rw [← hqd, Nat.div_lt_iff_lt_mul hm, ← ht]
        have : (r + 1) * 4294967296 ≤ m * 4294967296 := Nat.mul_le_mul_right _ lr
        omega
      have lr' : r' < m := by rw [← hr']; exact Nat.mod_lt _ hm
      have a1 : (r : Int) * 4294967296 = (s : Int) := by omega
      have a2 : IntKind.u64.wrap (s : Int) = (s : Int) := by rw [IntKind.wrap_u64]; omega
      have a3 : IntKind.u64.wrap (dd : Int) = (dd : Int) := by rw [IntKind.wrap_u64]; omega
      have a4 : bits BinOp.or IntKind.u64 (s : Int) (dd : Int) = (t : Int) := by rw [← ht, ← hs]; exact or_digits r dd (by omega) ld
      have a5 : (t : Int).tdiv (m : Int) = (qd : Int) := by rw [Int.tdiv_eq_ediv_of_nonneg (by omega), ← hqd, Int.natCast_ediv]
      have a6 : (t : Int) / (m : Int) = (qd : Int) := by rw [← hqd, Int.natCast_ediv]
      have a7 : IntKind.u64.wrap (qd : Int) = (qd : Int) := by rw [IntKind.wrap_u64]; omega
      have a8 : (qd : Int) % 4294967296 = (qd : Int) := by omega
      have a9 : (t : Int).tmod (m : Int) = (r' : Int) := by rw [Int.tmod_eq_emod_of_nonneg (by omega), ← hr', Int.natCast_emod]
      have b1 : (t : Int) % (m : Int) = (r' : Int) := by rw [← hr', Int.natCast_emod]
      have b2 : IntKind.u64.wrap (r' : Int) = (r' : Int) := by rw [IntKind.wrap_u64]; omega
      have st := nd_set_low X H i qd lq
      have HN : Hid (Unit → x / pq i / m = H * 4294967296 + qd ∧ x / pq i % m = r') := fun _ => by
        have h1 := short_step (x / pq (i + 1)) m (dg x i) hm
        rw [← ddiv_step2 x i, hH, hr, hdd, ht, hqd, hr'] at h1
        exact h1
      have HK : Hid (Unit → i + 1 ≤ X) := fun _ => hk
      clear hH hr hm hm2 hpos e1 gb ld lr hs ht hqd hr' lq lr' hdd hk
      go_wp2_with fail
      go_roundw
      case rel => exact ⟨i, H * 4294967296 + qd, r', by have := HK.out (); omega, rfl, rfl, HN, by rw [← st]⟩
      case measure => simp [intOf]
    · obtain rfl : k = 0 := by omega
      rw [pq_zero, Nat.div_one] at hH hr
      rw [pq_zero, Nat.mul_one]
      have hHX : H < pq X := by rw [← hH]; exact Nat.lt_of_le_of_lt (Nat.div_le_self _ _) (HX.out ()).1
      have hrl : r < 4294967296 := by
        have : r < m := by rw [← hr]; exact Nat.mod_lt _ hm
        omega
      have c1 : (r : Int) % 4294967296 = (r : Int) := by omega
      have HH : Hid (Unit → H < pq X ∧ r < pq 1 ∧ X ≤ 100000) := fun _ => ⟨hHX, by rw [pq_one]; exact hrl, by have := (HX.out ()).2; omega⟩
      have HE : Hid (Unit → x / m = H ∧ x % m = r) := fun _ => ⟨hH, hr⟩
      clear hH hr hm hm2 hpos hHX HP HI hk
      go_wp2_with (first
        | (go_at_call_of 37 (Value.slice (some ⟨w.heap.size, 0, none⟩) X X); refine (trim_nd _ _ X H (HH.out ()).2.2 (HH.out ()).1 (by simp [go_sem])).mono ?_; rintro e w' ⟨rfl, rfl⟩)
        | (go_at_call 37; refine (trim_nd _ _ 1 r (by decide) (HH.out ()).2.1 (by simp [go_sem])).mono ?_; rintro e w' ⟨rfl, rfl⟩))
      go_ret2
      refine ⟨_, _, _, _, by rw [(HE.out ()).1, (HE.out ()).2]; rfl, ?_, ?_, (by repeat (first | exact Gr.refl _ | apply Gr.drewN | apply Gr.drew | apply Gr.alloc | apply Gr.gro))⟩
      · rw [(HE.out ()).1]
        exact Sl.of_blk (n := X) (by simp [go_sem]) (by simp [go_sem]) (HH.out ()).1
      · rw [(HE.out ()).2]
        exact Sl.of_blk (n := 1) (by simp [go_sem]) (by simp [go_sem]) (HH.out ()).2.1

end Go.Proofs.Ytleckbdhebjfkaa
