import Derived.Test.YtgmaalokfgdpaaaXCRSub
import Derived.Test.YtgmaalokfgdpaaaXCMixP
import Derived.Test.YtgmaalokfgdpaaaXCNN
import Derived.Test.YtgmaalokfgdpaaaXCEC
namespace Go.Proofs.Ytgmaalokfgdpaaa
open Go.RowKit
attribute [local go_sem ↓] loadNat_is loadArr_is loadWide_is loadArrW_is storeNat_is storeWide_is
attribute [local go_sem] loadNat loadArr loadWide loadArrW storeNat storeWide idxArr fold9 fold18 nw_size nw_elem pre_self pre_1 pre_2 pre_3 pre_4 pre_5 pre_6 pre_7 pre_8 pre_9 pre_10 pre_11 pre_12 pre_13 pre_14 pre_15 pre_16 pre_17 pre_18 pre_19 pre_20 pre_21 pre_22 pre_23 pre_24 pre_25 pre_26 pre_27 pre_28 pre_29 pre_30 pre_31 pre_32 pre_33 pre_34 pre_35 pre_36 pre_37 pre_38 pre_39 pre_40 gro_size gro_drew gro_drewN drew_gro drewN_gro gro_gro blk_gro frz_gro blk_drew frz_drew blk_drewN frz_drewN blk_alloc_at frz_alloc_at blk_alloc frz_alloc cell_gro frozen_gro cell_alloc_pre frozen_alloc_pre setCell_drewN alloc_drewN setBlk_drew setBlk_drewN setBlk_alloc_at setBlk_alloc setBlk_gro setCell_gro setCell_alloc_pre size_setBlk size_setCell
/-- A hexadecimal digit's value. -/
def hexD (c : Nat) : Nat := if 97 ≤ c then c - 87 else c - 48
/-- Is it one? -/
def hexOk (c : Nat) : Bool := (decide (48 ≤ c) && decide (c < 58)) || (decide (97 ≤ c) && decide (c < 103))
theorem hexD_lt (c : Nat) (h : hexOk c = true) : hexD c < 16 := by
  unfold hexOk at h
  unfold hexD
  simp at h
  split <;> omega
set_option maxRecDepth 100000 in
set_option maxHeartbeats 400000 in
theorem hexd_any (c : Nat) (h : hexOk c = true) (w : World) : Calls Try.prog 49 #[.int .u8 (c : Int)] w fun e w' => e = .returned (.int .u32 ((hexD c : Nat) : Int)) ∧ w' = w := by
  have h2 : (48 ≤ c ∧ c < 58) ∨ (97 ≤ c ∧ c < 103) := by
    unfold hexOk at h
    simp at h
    exact h
  rcases h2 with h2 | h2
  · have e : hexD c = c - 48 := by unfold hexD; rw [if_neg (by omega)]
    rw [e]
    have h97 : ¬ (97 : Int) ≤ (c : Int) := by omega
    have e2 : ((c : Int) - 48) % 256 = ((c - 48 : Nat) : Int) := by omega
    have e3 : ((c - 48 : Nat) : Int) % 4294967296 = ((c - 48 : Nat) : Int) := by omega
    have w2 : IntKind.u8.wrap ((c : Int) - 48) = ((c - 48 : Nat) : Int) := by rw [IntKind.wrap_u8]; exact e2
    have w3 : IntKind.u32.wrap ((c - 48 : Nat) : Int) = ((c - 48 : Nat) : Int) := by rw [IntKind.wrap_u32]; exact e3
    clear h h2 e
    generalize c - 48 = d at *
    go_enter Try.func49, Try.ntmps49
    go_wp2
    go_ret
    exact ⟨rfl, rfl⟩
  · have e : hexD c = c - 87 := by unfold hexD; rw [if_pos (by omega)]
    rw [e]
    have h97 : (97 : Int) ≤ (c : Int) := by omega
    have e2 : ((c : Int) - 97) % 256 = ((c - 97 : Nat) : Int) := by omega
    have e3 : ((c - 97 : Nat) : Int) % 4294967296 = ((c - 97 : Nat) : Int) := by omega
    have e4 : (((c - 97 : Nat) : Int) + 10) % 4294967296 = ((c - 87 : Nat) : Int) := by omega
    have w2 : IntKind.u8.wrap ((c : Int) - 97) = ((c - 97 : Nat) : Int) := by rw [IntKind.wrap_u8]; exact e2
    have w3 : IntKind.u32.wrap ((c - 97 : Nat) : Int) = ((c - 97 : Nat) : Int) := by rw [IntKind.wrap_u32]; exact e3
    have w4 : IntKind.u32.wrap (((c - 97 : Nat) : Int) + 10) = ((c - 87 : Nat) : Int) := by rw [IntKind.wrap_u32]; exact e4
    clear h h2 e
    generalize c - 87 = f at *
    generalize c - 97 = d at *
    go_enter Try.func49, Try.ntmps49
    go_wp2
    go_ret
    exact ⟨rfl, rfl⟩

end Go.Proofs.Ytgmaalokfgdpaaa
namespace Go.Proofs.Ytgmaalokfgdpaaa
open Go.RowKit
attribute [local go_sem ↓] loadNat_is loadArr_is loadWide_is loadArrW_is storeNat_is storeWide_is
attribute [local go_sem] loadNat loadArr loadWide loadArrW storeNat storeWide idxArr fold9 fold18 nw_size nw_elem pre_self pre_1 pre_2 pre_3 pre_4 pre_5 pre_6 pre_7 pre_8 pre_9 pre_10 pre_11 pre_12 pre_13 pre_14 pre_15 pre_16 pre_17 pre_18 pre_19 pre_20 pre_21 pre_22 pre_23 pre_24 pre_25 pre_26 pre_27 pre_28 pre_29 pre_30 pre_31 pre_32 pre_33 pre_34 pre_35 pre_36 pre_37 pre_38 pre_39 pre_40 gro_size gro_drew gro_drewN drew_gro drewN_gro gro_gro blk_gro frz_gro blk_drew frz_drew blk_drewN frz_drewN blk_alloc_at frz_alloc_at blk_alloc frz_alloc cell_gro frozen_gro cell_alloc_pre frozen_alloc_pre setCell_drewN alloc_drewN setBlk_drew setBlk_drewN setBlk_alloc_at setBlk_alloc setBlk_gro setCell_gro setCell_alloc_pre size_setBlk size_setCell
set_option maxRecDepth 100000 in
set_option maxHeartbeats 400000 in
theorem digit_nd (w : World) (b x N : Nat) (hb : blk w b = nd N x) (hx : x < pq N) (i : Nat) :
    Calls Try.prog 45 #[.slice (some ⟨b, 0, none⟩) N N, .int .i64 (i : Int)] w fun e w' => e = .returned (.int .u64 ((dg x i : Nat) : Int)) ∧ w' = w := by
  by_cases hi : i < N
  · have hi' : (i : Int) < (N : Int) := by omega
    have i0 : (0 : Int) ≤ (i : Int) := by omega
    have hg : w.cell? ⟨b, i, none⟩ = some (.int .u32 ((dg x i : Nat) : Int)) := by rw [cell_blk, hb]; exact nd_get N x i hi
    have hl := dg_lt x i
    clear hb hx
    go_enter Try.func45, Try.ntmps45
    go_wp2
    go_ret
    exact ⟨rfl, rfl⟩
  · have hi' : ¬ (i : Int) < (N : Int) := by omega
    have i0 : (0 : Int) ≤ (i : Int) := by omega
    have hz : dg x i = 0 := by
      unfold dg
      have hlt : x < pq i := Nat.lt_of_lt_of_le hx (show pq N ≤ pq i from Nat.pow_le_pow_right (by decide) (by omega))
      rw [Nat.div_eq_of_lt hlt]
    clear hb hx hi
    go_enter Try.func45, Try.ntmps45
    go_wp2
    go_ret
    exact ⟨rfl, rfl⟩
set_option maxRecDepth 100000 in
set_option maxHeartbeats 800000 in
theorem rshr0_nd (x N b : Nat) (w : World) (hb : blk w b = nd N x) (hp : Pre (b + 1) w.heap.size) (hx : x < pq N) (hN0 : 0 < N) (hN : N ≤ 50000) :
    Calls Try.prog 50 #[.slice (some ⟨b, 0, none⟩) N N, .int .i64 0] w (Nm x w) := by
  have CD : Hid (∀ (i : Int) (j : Nat) (v : World), i = (j : Int) → Gr w v → Calls Try.prog 45 #[.slice (some ⟨b, 0, none⟩) N N, .int .i64 i] v fun e w' => e = .returned (.int .u64 ((dg x j : Nat) : Int)) ∧ w' = v) := fun i j v e g => by
    subst e
    exact digit_nd v b x N (by rw [g.blk b hp]; exact hb) hx j
  have hmk : ∀ w, (Instr.makeSlice 34 (.int .i64 (N : Int)) (.int .i64 (N : Int))).run Try.prog w = .ok (.slice (some ⟨w.heap.size, 0, none⟩) N N) (w.alloc (.cells (nd N 0) 55)) := fun w => make_digits N (by omega) w
  have kb : Hid (Unit → N ≤ 100000) := fun _ => by omega
  have n1 : (N : Int) ≤ 50000 := by omega
  have n2 : ¬ (N : Int) ≤ 0 := by omega
  have HB : Hid (Unit → x < pq N) := fun _ => hx
  clear hb hp hx hN0 hN
  go_enter Try.func50, Try.ntmps50
  go_wp2
  clear hmk
  go_loopw [6] (fun i wr => ∃ j : Nat, j ≤ N ∧ i = .int .i64 (j : Int) ∧ wr = w.alloc (.cells (nd N (x % pq j)) 55)) (fun i _ => N - (intOf i).toNat)
  case atStart => exact ⟨0, by omega, rfl, by rw [pq_zero, Nat.mod_one]⟩
  case round =>
    obtain ⟨j, hj, rfl, rfl⟩ := hrel
    by_cases hlt : j < N
    · have j0 : (0 : Int) ≤ (j : Int) := by omega
      have j1 : (j : Int) < (N : Int) := by omega
      obtain ⟨T, S, f1, f2, f3⟩ := shr_round x j 0 0 (by decide)
      rw [Nat.mul_zero, Nat.add_zero, Nat.pow_zero, Nat.div_one] at f3
      rw [Nat.add_zero] at f1
      rw [Int.pow_zero, Int.ediv_one] at f2
      obtain ⟨V, hV⟩ : ∃ V, x % pq j = V := ⟨_, rfl⟩
      rw [hV]
      have gV := nd_get N V j hlt
      have f4 := dg_lt x j
      have f5 : ((dg x j : Nat) : Int) % 4294967296 = ((dg x j : Nat) : Int) := by omega
      have HS : Hid (Unit → (nd N V).setIfInBounds j (.int .u32 ((dg x j : Nat) : Int)) = nd N (x % pq (j + 1))) := fun _ => by
        rw [nd_set_top N V j _ f4 (by rw [← hV]; exact Nat.mod_lt _ (pq_pos j)), dmod_succ, hV]
      have hST : S = T := by omega
      subst hST
      clear hlt hV f4 f2
      go_wp2_with (first
        | (go_at_call 45; refine (CD.out _ j _ ?_ ?_).mono ?_; omega; exact (by repeat (first | exact Gr.refl _ | apply Gr.drewN | apply Gr.drew | apply Gr.alloc | apply Gr.gro)); rintro e w' ⟨rfl, rfl⟩)
        | (go_at_call 45; refine (CD.out _ (j + 1) _ ?_ ?_).mono ?_; omega; exact (by repeat (first | exact Gr.refl _ | apply Gr.drewN | apply Gr.drew | apply Gr.alloc | apply Gr.gro)); rintro e w' ⟨rfl, rfl⟩))
      go_roundw
      case rel => exact ⟨j + 1, by omega, by go_num, by rw [HS.out ()]⟩
      case measure => simp [intOf]; omega
    · have hjN : j = N := by omega
      have ji : ¬ (j : Int) < (N : Int) := by omega
      obtain ⟨V, hV⟩ : ∃ V, x % pq j = V := ⟨_, rfl⟩
      rw [hV]
      have HV : Hid (Unit → V = x) := fun _ => by rw [← hV, hjN, Nat.mod_eq_of_lt (HB.out ())]
      have HB' : Hid (Unit → V < pq N) := fun _ => by rw [HV.out ()]; exact HB.out ()
      clear hV hjN hlt hj
      go_wp2_with (go_at_call 44; refine (trim_nd _ _ N V (kb.out ()) (HB'.out ()) (by simp [go_sem])).mono ?_; rintro e w' ⟨rfl, rfl⟩)
      go_ret
      exact Nm.mk (HV.out ()) (HB'.out ()) (by simp [go_sem]) (by simp [go_sem]) (by repeat (first | exact Gr.refl _ | apply Gr.drewN | apply Gr.drew | apply Gr.alloc | apply Gr.gro))

end Go.Proofs.Ytgmaalokfgdpaaa
namespace Go.Proofs.Ytgmaalokfgdpaaa
open Go.RowKit
attribute [local go_sem ↓] loadNat_is loadArr_is loadWide_is loadArrW_is storeNat_is storeWide_is
attribute [local go_sem] loadNat loadArr loadWide loadArrW storeNat storeWide idxArr fold9 fold18 nw_size nw_elem pre_self pre_1 pre_2 pre_3 pre_4 pre_5 pre_6 pre_7 pre_8 pre_9 pre_10 pre_11 pre_12 pre_13 pre_14 pre_15 pre_16 pre_17 pre_18 pre_19 pre_20 pre_21 pre_22 pre_23 pre_24 pre_25 pre_26 pre_27 pre_28 pre_29 pre_30 pre_31 pre_32 pre_33 pre_34 pre_35 pre_36 pre_37 pre_38 pre_39 pre_40 gro_size gro_drew gro_drewN drew_gro drewN_gro gro_gro blk_gro frz_gro blk_drew frz_drew blk_drewN frz_drewN blk_alloc_at frz_alloc_at blk_alloc frz_alloc cell_gro frozen_gro cell_alloc_pre frozen_alloc_pre setCell_drewN alloc_drewN setBlk_drew setBlk_drewN setBlk_alloc_at setBlk_alloc setBlk_gro setCell_gro setCell_alloc_pre size_setBlk size_setCell
/-- The number that hexadecimal digits make. -/
def hexN (l : List UInt8) : Nat := l.foldl (fun a c => a * 16 + hexD c.toNat) 0
theorem hexN_snoc (l : List UInt8) (c : UInt8) : hexN (l ++ [c]) = hexN l * 16 + hexD c.toNat := by
  unfold hexN
  rw [List.foldl_append]
  rfl
theorem hexN_lt : ∀ (n : Nat) (l : List UInt8), l.length = n → (∀ c ∈ l, hexOk c.toNat = true) → hexN l < 2 ^ (4 * n)
  | 0, l, h, _ => by rw [List.length_eq_zero_iff.1 h]; exact Nat.one_pos
  | n + 1, l, h, hc => by
    have hne : l ≠ [] := fun e => by rw [e] at h; cases h
    have e := List.dropLast_concat_getLast hne
    have hl : l.dropLast.length = n := by rw [List.length_dropLast]; omega
    have h1 := hexN_lt n l.dropLast hl (fun c hm => hc c (List.dropLast_subset l hm))
    have h2 := hexD_lt _ (hc (l.getLast hne) (List.getLast_mem hne))
    rw [← e, hexN_snoc, show 4 * (n + 1) = 4 * n + 4 by omega, Nat.pow_add]
    have h3 : (2 : Nat) ^ 4 = 16 := rfl
    rw [h3]
    omega
theorem hpow32 (k : Nat) (hk : k ≤ 32) : 2 ^ (32 - k) * 2 ^ k = 4294967296 := by
  rw [← Nat.pow_add, show 32 - k + k = 32 by omega]
theorem hex_step (X P d : Nat) : (X * 16 + d) * 2 ^ (4 * P) = X * 2 ^ (4 * (P + 1)) + d * 2 ^ (4 * P) := by
  rw [Nat.add_mul, Nat.mul_assoc, show 4 * (P + 1) = 4 * P + 4 from by omega, Nat.pow_add 2 (4 * P), Nat.mul_comm (2 ^ (4 * P))]
theorem hex_place (b q r : Nat) : b * 2 ^ (4 * (8 * q + r)) = b * 2 ^ (4 * r) * pq q := by
  unfold pq
  rw [show 4 * (8 * q + r) = 4 * r + 32 * q from by omega, Nat.pow_add, Nat.mul_assoc]
theorem hex_dg (X q r : Nat) (hr : r < 8) : dg (X * 2 ^ (4 * (8 * q + r + 1))) q = (X % 2 ^ (32 - 4 * (r + 1))) * 2 ^ (4 * (r + 1)) := by
  unfold dg pq
  rw [show 4 * (8 * q + r + 1) = 4 * (r + 1) + 32 * q from by omega, Nat.pow_add, ← Nat.mul_assoc, Nat.mul_div_cancel _ (Nat.two_pow_pos _), ← hpow32 (4 * (r + 1)) (by omega), Nat.mul_mod_mul_right]
theorem hexd_lt (b r : Nat) (hb : b < 16) : b * 2 ^ (4 * r) < 2 ^ (4 * (r + 1)) := by
  rw [show 4 * (r + 1) = 4 + 4 * r from by omega, Nat.pow_add]
  exact Nat.mul_lt_mul_of_pos_right hb (Nat.two_pow_pos _)
theorem hex_lt (X q r b : Nat) (hr : r < 8) (hb : b < 16) : dg (X * 2 ^ (4 * (8 * q + r + 1))) q + b * 2 ^ (4 * r) < 4294967296 := by
  have h1 := hexd_lt b r hb
  rw [hex_dg X q r hr, ← hpow32 (4 * (r + 1)) (by omega)]
  have h2 := Nat.mod_lt X (Nat.two_pow_pos (32 - 4 * (r + 1)))
  have h3 : (X % 2 ^ (32 - 4 * (r + 1)) + 1) * 2 ^ (4 * (r + 1)) ≤ 2 ^ (32 - 4 * (r + 1)) * 2 ^ (4 * (r + 1)) := Nat.mul_le_mul_right _ h2
  rw [Nat.add_mul] at h3
  omega
theorem hex_set (N X q r b : Nat) (hr : r < 8) (hb : b < 16) :
    (nd N (X * 2 ^ (4 * (8 * q + r + 1)))).setIfInBounds q (Value.int .u32 ((dg (X * 2 ^ (4 * (8 * q + r + 1))) q + b * 2 ^ (4 * r) : Nat) : Int)) = nd N ((X * 16 + b) * 2 ^ (4 * (8 * q + r))) := by
  rw [nd_dset N _ q _ (hex_lt X q r b hr hb), hex_step, hex_place]
  have hp := dparts (X * 2 ^ (4 * (8 * q + r + 1))) q
  generalize X * 2 ^ (4 * (8 * q + r + 1)) = V at *
  refine congrArg (nd N) ?_
  unfold dset
  rw [Nat.add_mul]
  generalize V / pq (q + 1) * pq (q + 1) = z at *
  generalize b * 2 ^ (4 * r) * pq q = y at *
  generalize dg V q * pq q = t at *
  omega
/-- All that one round of Hex reckons. -/
theorem hex_round (N X q r d t V : Nat) (hr : r < 8) (hb : d < 16) (ht : t = 4 * r) (hV : V = X * 2 ^ (4 * (8 * q + r + 1))) :
    ∃ y o : Nat, IntKind.u32.wrap ((d : Int) * 2 ^ t) = (y : Int) ∧ bits BinOp.or IntKind.u32 ((dg V q : Nat) : Int) (y : Int) = (o : Int) ∧
      (nd N V).setIfInBounds q (Value.int .u32 (o : Int)) = nd N ((X * 16 + d) * 2 ^ (4 * (8 * q + r))) := by
  subst ht hV
  have h1 := hexd_lt d r hb
  have h2 : 2 ^ (4 * (r + 1)) ≤ 4294967296 := by
    rw [← hpow32 (4 * (r + 1)) (by omega)]
    exact Nat.le_mul_of_pos_left _ (Nat.two_pow_pos _)
  refine ⟨d * 2 ^ (4 * r), dg (X * 2 ^ (4 * (8 * q + r + 1))) q + d * 2 ^ (4 * r), ?_, ?_, hex_set N X q r d hr hb⟩
  · rw [IntKind.wrap_u32, int_pow, ← Int.natCast_mul]
    generalize d * 2 ^ (4 * r) = y at *
    omega
  · rw [bits_or32 _ _ (dg_lt _ _) (by omega), hex_dg X q r hr, or_add _ _ _ h1]
set_option maxRecDepth 100000 in
set_option maxHeartbeats 1600000 in
theorem rhex_any (s : ByteArray) (hs : s.size ≤ 1000) (hc : ∀ c ∈ s.data.toList, hexOk c.toNat = true) (w : World) : Calls Try.prog 37 #[.string s] w (Nm (hexN s.data.toList) w) := by
  have h : (s.size : Int) ≤ 1000 := by omega
  obtain ⟨m, hm⟩ : ∃ m, s.size / 8 = m := ⟨_, rfl⟩
  obtain ⟨N, hN⟩ : ∃ N, m + 1 = N := ⟨_, rfl⟩
  have HB : Hid (Unit → hexN s.data.toList < pq N) := fun _ => by
    have hl : s.data.toList.length = s.size := by simp
    refine Nat.lt_of_lt_of_le (hexN_lt _ _ hl hc) ?_
    unfold pq
    exact Nat.pow_le_pow_right (by decide) (by omega)
  have HC : Hid (Unit → ∀ k (h : k < s.size), hexOk s[k].toNat = true) := fun _ k h => hc _ (by
    have : s[k] = s.data.toList[k]'(by simpa using h) := rfl
    rw [this]
    exact List.getElem_mem _)
  have m1 : (s.size : Int) / 8 = (m : Int) := by omega
  have m2 : (m : Int) + 1 = (N : Int) := by omega
  have HM : Hid (Unit → s.size < 8 * N) := fun _ => by omega
  have n0 : (0 : Int) ≤ (s.size : Int) := by omega
  have mb : (m : Int) ≤ 200 := by omega
  have kb : Hid (Unit → 0 < N ∧ N ≤ 50000) := fun _ => by omega
  have hmk : ∀ w, (Instr.makeSlice 34 (.int .i64 (N : Int)) (.int .i64 (N : Int))).run Try.prog w = .ok (.slice (some ⟨w.heap.size, 0, none⟩) N N) (w.alloc (.cells (nd N 0) 55)) := fun w => make_digits N (by omega) w
  clear hm hN hc
  go_enter Try.func37, Try.ntmps37
  go_wp2
  clear hmk
  go_loopw [4, 5] (fun i _ wr => ∃ k X : Nat, k ≤ s.size ∧ i = .int .i64 (k : Int) ∧ Hid (Unit → hexN (s.data.toList.take k) = X) ∧ Hid (Gr w wr ∧ blk wr w.heap.size = nd N (X * 2 ^ (4 * (s.size - k))) ∧ frz wr w.heap.size = (0, 0) ∧ Pre (w.heap.size + 1) wr.heap.size)) (fun i _ _ => s.size - (intOf i).toNat)
  case atStart => exact ⟨0, 0, by omega, rfl, fun _ => rfl, (by repeat (first | exact Gr.refl _ | apply Gr.drewN | apply Gr.drew | apply Gr.alloc | apply Gr.gro)), by simp [go_sem], by simp [go_sem], by simp [go_sem]⟩
  case round =>
    obtain ⟨k, X, hk, rfl, HX, HW⟩ := hrel
    by_cases hlt : k < s.size
    · obtain ⟨P, hP⟩ : ∃ P, s.size = k + (P + 1) := ⟨s.size - k - 1, by omega⟩
      obtain ⟨q, r, hq, hr⟩ : ∃ q r, P = 8 * q + r ∧ r < 8 := ⟨P / 8, P % 8, by omega, by omega⟩
      obtain ⟨t, ht⟩ : ∃ t, t = 4 * r := ⟨_, rfl⟩
      have e1 : (s.size : Int) - 1 - (k : Int) = (P : Int) := by omega
      have e2 : (P : Int) / 8 = (q : Int) := by omega
      have e3 : (P : Int) % 8 = (r : Int) := by omega
      have e4 : (r : Int) * 4 = (t : Int) := by omega
      have d2 : (P : Int).tdiv 8 = (q : Int) := by rw [Int.tdiv_eq_ediv_of_nonneg (by omega)]; exact e2
      have d3 : (P : Int).tmod 8 = (r : Int) := by rw [Int.tmod_eq_emod_of_nonneg (by omega)]; exact e3
      have w2 : IntKind.i64.wrap (q : Int) = (q : Int) := by rw [IntKind.wrap_i64]; omega
      have w3 : IntKind.i64.wrap (r : Int) = (r : Int) := by rw [IntKind.wrap_i64]; omega
      have w4 : IntKind.i64.wrap (t : Int) = (t : Int) := by rw [IntKind.wrap_i64]; omega
      have t0 : (0 : Int) ≤ (t : Int) := by omega
      have t1 : (t : Int) < 32 := by omega
      have q0 : (0 : Int) ≤ (q : Int) := by omega
      have qN : q < N := by have := HM.out (); omega
      have q1 : (q : Int) < (N : Int) := by omega
      have p0 : (0 : Int) ≤ (P : Int) := by omega
      have k0 : (0 : Int) ≤ (k : Int) := by omega
      have k1 : (k : Int) < (s.size : Int) := by omega
      obtain ⟨V, hV⟩ : ∃ V, V = X * 2 ^ (4 * (s.size - k)) := ⟨_, rfl⟩
      rw [← hV] at HW
      have gV := nd_get N V q qN
      have hV2 : V = X * 2 ^ (4 * (8 * q + r + 1)) := by rw [hV, show s.size - k = 8 * q + r + 1 by omega]
      obtain ⟨d, hd0⟩ : ∃ d, hexD s[k].toNat = d := ⟨_, rfl⟩
      have hd16 : d < 16 := by rw [← hd0]; exact hexD_lt _ (HC.out () k hlt)
      have HD : Hid (∀ w, Calls Try.prog 49 #[.int .u8 ((s[k].toNat : Nat) : Int)] w fun e w' => e = .returned (.int .u32 (d : Int)) ∧ w' = w) := fun w => hd0 ▸ hexd_any s[k].toNat (HC.out () k hlt) w
      obtain ⟨y, o, f2, f3, f4⟩ := hex_round N X q r d t V hr hd16 ht hV2
      obtain ⟨V2, hV3⟩ : ∃ V2, (X * 16 + d) * 2 ^ (4 * (s.size - (k + 1))) = V2 := ⟨_, rfl⟩
      have HS : Hid (Unit → (nd N V).setIfInBounds q (Value.int .u32 (o : Int)) = nd N V2) := fun _ => by
        rw [f4, ← hV3, show s.size - (k + 1) = 8 * q + r by omega]
      have HX2 : Hid (Unit → hexN (s.data.toList.take (k + 1)) = X * 16 + d) := fun _ => by rw [take_snoc s k hlt, hexN_snoc, HX.out (), hd0]
      obtain ⟨G, hWb, hWf, hWs⟩ := HW.out
      have hsz : s.data.size = s.size := rfl
      clear hV hV2 ht hq hr hs hk hP f4 hd0 hd16
      go_wp2
      refine wp_region_mix (by kernel_rfl) (by kernel_rfl) (RO2 _ (fun i => match i with | 0 => some (.slice (some ⟨w.heap.size, 0, none⟩) N N) | 1 => some (.int .i64 (P : Int)) | 2 => some (.int .i64 (q : Int)) | 3 => some (.slice (some ⟨w.heap.size, 0, none⟩) N N) | 4 => some (.int .i64 (P : Int)) | 5 => some (.int .i64 (q : Int)) | 6 => some (.pointer (some ⟨w.heap.size, q, none⟩)) | 7 => some (.int .u32 ((dg V q : Nat) : Int)) | 8 => some (.string s) | 9 => some (.int .i64 (k : Int)) | 10 => some (.int .u8 ((s[k].toNat : Nat) : Int)) | 11 => some (.int .u32 (d : Int)) | 12 => some (.int .i64 (P : Int)) | 13 => some (.int .i64 (r : Int)) | 14 => some (.int .i64 (t : Int)) | 15 => some (.int .u32 (y : Int)) | 16 => some (.int .u32 (o : Int)) | 17 => some (.pointer (some ⟨w.heap.size, q, none⟩)) | _ => none) 18 w.heap.size (nd N V2)) (RO2.start _ _ _ _ _ _ _) ?hs ?hf
      case hs =>
        intro listed vals a1 v1 i o2 hz hR hF ho hl hd
        have hi : i < 19 := by simpa using (Array.getElem?_eq_some_iff.1 ho).1
        have hil : i < listed.size := by rw [hz]; simpa using hi
        obtain rfl | rfl | rfl | rfl | rfl | rfl | rfl | rfl | rfl | rfl | rfl | rfl | rfl | rfl | rfl | rfl | rfl | rfl | rfl : i = 0 ∨ i = 1 ∨ i = 2 ∨ i = 3 ∨ i = 4 ∨ i = 5 ∨ i = 6 ∨ i = 7 ∨ i = 8 ∨ i = 9 ∨ i = 10 ∨ i = 11 ∨ i = 12 ∨ i = 13 ∨ i = 14 ∨ i = 15 ∨ i = 16 ∨ i = 17 ∨ i = 18 := by omega
        · obtain rfl := Option.some.inj ho
          have f0 := hF.old (s := 3) (v := .slice (some ⟨w.heap.size, 0, none⟩) N N) (by kernel_rfl) rfl
          exact wp_val (.slice (some ⟨w.heap.size, 0, none⟩) N N) (by simp [go_sem, f0]) ⟨_, rfl, RO2.quiet 0 _ hil rfl (by decide) (Gr.refl _) hR⟩
        · obtain rfl := Option.some.inj ho
          have f0 := hF.old (s := 5) (v := .int .i64 (P : Int)) (by kernel_rfl) rfl
          exact wp_val (.int .i64 (P : Int)) (by simp [go_sem, f0]) ⟨_, rfl, RO2.quiet 1 _ hil rfl (by decide) (Gr.refl _) hR⟩
        · obtain rfl := Option.some.inj ho
          have l0 := hd ⟨1, .data⟩ (by simp) rfl
          have f0 := hF.at (s := 23) (i := 1) (by kernel_rfl) (by simp) l0
          rw [hR.1.1 1 _ l0 rfl] at f0
          exact wp_val (.int .i64 (q : Int)) (by simp [go_sem, *]) ⟨_, rfl, RO2.quiet 2 _ hil rfl (by decide) (Gr.refl _) hR⟩
        · obtain rfl := Option.some.inj ho
          have f0 := hF.old (s := 3) (v := .slice (some ⟨w.heap.size, 0, none⟩) N N) (by kernel_rfl) rfl
          exact wp_val (.slice (some ⟨w.heap.size, 0, none⟩) N N) (by simp [go_sem, f0]) ⟨_, rfl, RO2.quiet 3 _ hil rfl (by decide) (Gr.refl _) hR⟩
        · obtain rfl := Option.some.inj ho
          have f0 := hF.old (s := 5) (v := .int .i64 (P : Int)) (by kernel_rfl) rfl
          exact wp_val (.int .i64 (P : Int)) (by simp [go_sem, f0]) ⟨_, rfl, RO2.quiet 4 _ hil rfl (by decide) (Gr.refl _) hR⟩
        · obtain rfl := Option.some.inj ho
          have l0 := hd ⟨4, .data⟩ (by simp) rfl
          have f0 := hF.at (s := 26) (i := 4) (by kernel_rfl) (by simp) l0
          rw [hR.1.1 4 _ l0 rfl] at f0
          exact wp_val (.int .i64 (q : Int)) (by simp [go_sem, *]) ⟨_, rfl, RO2.quiet 5 _ hil rfl (by decide) (Gr.refl _) hR⟩
        · obtain rfl := Option.some.inj ho
          have l0 := hd ⟨3, .data⟩ (by simp) rfl
          have f0 := hF.at (s := 25) (i := 3) (by kernel_rfl) (by simp) l0
          rw [hR.1.1 3 _ l0 rfl] at f0
          have l1 := hd ⟨5, .data⟩ (by simp) rfl
          have f1 := hF.at (s := 27) (i := 5) (by kernel_rfl) (by simp) l1
          rw [hR.1.1 5 _ l1 rfl] at f1
          exact wp_val (.pointer (some ⟨w.heap.size, q, none⟩)) (by simp [go_sem, *]) ⟨_, rfl, RO2.quiet 6 _ hil rfl (by decide) (Gr.refl _) hR⟩
        · obtain rfl := Option.some.inj ho
          have l0 := hd ⟨6, .data⟩ (by simp) rfl
          have f0 := hF.at (s := 28) (i := 6) (by kernel_rfl) (by simp) l0
          rw [hR.1.1 6 _ l0 rfl] at f0
          have hg := hR.ahead (i := 7) (by decide) hl
          have hc : v1.cell? ⟨w.heap.size, q, none⟩ = some (.int .u32 ((dg V q : Nat) : Int)) := by rw [cell_blk, hg.blk _ hWs, hWb]; exact gV
          exact wp_val (.int .u32 ((dg V q : Nat) : Int)) (by simp [go_sem, f0, hc]) ⟨_, rfl, RO2.quiet 7 _ hil rfl (by decide) (Gr.refl _) hR⟩
        · obtain rfl := Option.some.inj ho
          have f0 := hF.old (s := 0) (v := .string s) (by kernel_rfl) rfl
          exact wp_val (.string s) (by simp [go_sem, f0]) ⟨_, rfl, RO2.quiet 8 _ hil rfl (by decide) (Gr.refl _) hR⟩
        · obtain rfl := Option.some.inj ho
          have f0 := hF.old (s := 4) (v := .int .i64 (k : Int)) (by kernel_rfl) rfl
          exact wp_val (.int .i64 (k : Int)) (by simp [go_sem, f0]) ⟨_, rfl, RO2.quiet 9 _ hil rfl (by decide) (Gr.refl _) hR⟩
        · obtain rfl := Option.some.inj ho
          have l0 := hd ⟨8, .data⟩ (by simp) rfl
          have f0 := hF.at (s := 30) (i := 8) (by kernel_rfl) (by simp) l0
          rw [hR.1.1 8 _ l0 rfl] at f0
          have l1 := hd ⟨9, .data⟩ (by simp) rfl
          have f1 := hF.at (s := 31) (i := 9) (by kernel_rfl) (by simp) l1
          rw [hR.1.1 9 _ l1 rfl] at f1
          exact wp_val (.int .u8 ((s[k].toNat : Nat) : Int)) (by simp [go_sem, *]) ⟨_, rfl, RO2.quiet 10 _ hil rfl (by decide) (Gr.refl _) hR⟩
        · obtain rfl := Option.some.inj ho
          have l0 := hd ⟨10, .data⟩ (by simp) rfl
          have f0 := hF.at (s := 32) (i := 10) (by kernel_rfl) (by simp) l0
          rw [hR.1.1 10 _ l0 rfl] at f0
          exact wp_ret (.int .u32 (d : Int)) (by simp [go_sem, f0]) ((HD.out _).mono fun e w' h => ⟨h.1, h.2 ▸ Gr.refl _⟩) (fun w2 hg => ⟨_, rfl, RO2.quiet 11 _ hil rfl (by decide) hg hR⟩)
        · obtain rfl := Option.some.inj ho
          have f0 := hF.old (s := 5) (v := .int .i64 (P : Int)) (by kernel_rfl) rfl
          exact wp_val (.int .i64 (P : Int)) (by simp [go_sem, f0]) ⟨_, rfl, RO2.quiet 12 _ hil rfl (by decide) (Gr.refl _) hR⟩
        · obtain rfl := Option.some.inj ho
          have l0 := hd ⟨12, .data⟩ (by simp) rfl
          have f0 := hF.at (s := 34) (i := 12) (by kernel_rfl) (by simp) l0
          rw [hR.1.1 12 _ l0 rfl] at f0
          exact wp_val (.int .i64 (r : Int)) (by simp [go_sem, *]) ⟨_, rfl, RO2.quiet 13 _ hil rfl (by decide) (Gr.refl _) hR⟩
        · obtain rfl := Option.some.inj ho
          have l0 := hd ⟨13, .data⟩ (by simp) rfl
          have f0 := hF.at (s := 35) (i := 13) (by kernel_rfl) (by simp) l0
          rw [hR.1.1 13 _ l0 rfl] at f0
          exact wp_val (.int .i64 (t : Int)) (by simp [go_sem, *]) ⟨_, rfl, RO2.quiet 14 _ hil rfl (by decide) (Gr.refl _) hR⟩
        · obtain rfl := Option.some.inj ho
          have l0 := hd ⟨11, .data⟩ (by simp) rfl
          have f0 := hF.at (s := 33) (i := 11) (by kernel_rfl) (by simp) l0
          rw [hR.1.1 11 _ l0 rfl] at f0
          have l1 := hd ⟨14, .data⟩ (by simp) rfl
          have f1 := hF.at (s := 36) (i := 14) (by kernel_rfl) (by simp) l1
          rw [hR.1.1 14 _ l1 rfl] at f1
          exact wp_val (.int .u32 (y : Int)) (by simp [go_sem, *]) ⟨_, rfl, RO2.quiet 15 _ hil rfl (by decide) (Gr.refl _) hR⟩
        · obtain rfl := Option.some.inj ho
          have l0 := hd ⟨7, .data⟩ (by simp) rfl
          have f0 := hF.at (s := 29) (i := 7) (by kernel_rfl) (by simp) l0
          rw [hR.1.1 7 _ l0 rfl] at f0
          have l1 := hd ⟨15, .data⟩ (by simp) rfl
          have f1 := hF.at (s := 37) (i := 15) (by kernel_rfl) (by simp) l1
          rw [hR.1.1 15 _ l1 rfl] at f1
          exact wp_val (.int .u32 (o : Int)) (by simp [go_sem, *]) ⟨_, rfl, RO2.quiet 16 _ hil rfl (by decide) (Gr.refl _) hR⟩
        · obtain rfl := Option.some.inj ho
          have l0 := hd ⟨0, .data⟩ (by simp) rfl
          have f0 := hF.at (s := 22) (i := 0) (by kernel_rfl) (by simp) l0
          rw [hR.1.1 0 _ l0 rfl] at f0
          have l1 := hd ⟨2, .data⟩ (by simp) rfl
          have f1 := hF.at (s := 24) (i := 2) (by kernel_rfl) (by simp) l1
          rw [hR.1.1 2 _ l1 rfl] at f1
          exact wp_val (.pointer (some ⟨w.heap.size, q, none⟩)) (by simp [go_sem, *]) ⟨_, rfl, RO2.quiet 17 _ hil rfl (by decide) (Gr.refl _) hR⟩
        · obtain rfl := Option.some.inj ho
          have l0 := hd ⟨17, .data⟩ (by simp) rfl
          have f0 := hF.at (s := 39) (i := 17) (by kernel_rfl) (by simp) l0
          rw [hR.1.1 17 _ l0 rfl] at f0
          have l1 := hd ⟨16, .data⟩ (by simp) rfl
          have f1 := hF.at (s := 38) (i := 16) (by kernel_rfl) (by simp) l1
          rw [hR.1.1 16 _ l1 rfl] at f1
          have hg := hR.1.2.1 hl
          have hc : v1.cell? ⟨w.heap.size, q, none⟩ = some (.int .u32 ((dg V q : Nat) : Int)) := by rw [cell_blk, hg.blk _ hWs, hWb]; exact gV
          have hz0 : v1.frozen? ⟨w.heap.size, q, none⟩ = false := frozen_frz _ _ _ (by rw [hg.frz _ hWs]; exact hWf)
          exact wp_skip (w' := setBlk v1 w.heap.size (nd N V2)) (by rw [← HS.out (), ← hWb, ← hg.blk _ hWs, ← setCell_setBlk]; simp [go_sem, f0, f1, hc, hz0]) ⟨undef, rfl, RO2.store _ hil hl rfl (fun j hj => by
            obtain rfl | rfl | rfl | rfl | rfl | rfl | rfl | rfl | rfl | rfl | rfl | rfl | rfl | rfl | rfl | rfl | rfl | rfl : j = 0 ∨ j = 1 ∨ j = 2 ∨ j = 3 ∨ j = 4 ∨ j = 5 ∨ j = 6 ∨ j = 7 ∨ j = 8 ∨ j = 9 ∨ j = 10 ∨ j = 11 ∨ j = 12 ∨ j = 13 ∨ j = 14 ∨ j = 15 ∨ j = 16 ∨ j = 17 := by omega
            all_goals exact on_of hd _ (by kernel_rfl)) hR⟩
      case hf =>
        intro listed vals a1 v1 hall hR hF
        obtain ⟨vM, g1, g2⟩ := hR.1.2.2 (hall 18 (by simp))
        have hV := hR.1.1
        have x0 := hV 0 _ (hall 0 (by simp)) rfl
        have x1 := hV 1 _ (hall 1 (by simp)) rfl
        have x2 := hV 2 _ (hall 2 (by simp)) rfl
        have x3 := hV 3 _ (hall 3 (by simp)) rfl
        have x4 := hV 4 _ (hall 4 (by simp)) rfl
        have x5 := hV 5 _ (hall 5 (by simp)) rfl
        have x6 := hV 6 _ (hall 6 (by simp)) rfl
        have x7 := hV 7 _ (hall 7 (by simp)) rfl
        have x8 := hV 8 _ (hall 8 (by simp)) rfl
        have x9 := hV 9 _ (hall 9 (by simp)) rfl
        have x10 := hV 10 _ (hall 10 (by simp)) rfl
        have x11 := hV 11 _ (hall 11 (by simp)) rfl
        have x12 := hV 12 _ (hall 12 (by simp)) rfl
        have x13 := hV 13 _ (hall 13 (by simp)) rfl
        have x14 := hV 14 _ (hall 14 (by simp)) rfl
        have x15 := hV 15 _ (hall 15 (by simp)) rfl
        have x16 := hV 16 _ (hall 16 (by simp)) rfl
        have x17 := hV 17 _ (hall 17 (by simp)) rfl
        rw [hF.final (by kernel_rfl) hall]
        simp only [putFrom, Act.put, List.setIfInBounds_toArray, List.set_cons_zero, List.set_cons_succ, x0, x1, x2, x3, x4, x5, x6, x7, x8, x9, x10, x11, x12, x13, x14, x15, x16, x17]
        clear hV hR hF hall x0 x1 x2 x3 x4 x5 x6 x7 x8 x9 x10 x11 x12 x13 x14 x15 x16 x17
        have c1 : blk v1 w.heap.size = nd N V2 := by
          rw [g2.blk _ (by rw [size_setBlk]; exact Nat.lt_of_lt_of_le hWs g1.below.size), blk_setBlk _ _ _ (by rw [g1.blk _ hWs, hWb, nd_size]; omega)]
        have c2 : frz v1 w.heap.size = (0, 0) := by
          rw [g2.frz _ (by rw [size_setBlk]; exact Nat.lt_of_lt_of_le hWs g1.below.size), frz_setBlk, g1.frz _ hWs]; exact hWf
        have c3 : Pre (w.heap.size + 1) v1.heap.size := Nat.le_trans hWs (Nat.le_trans g1.below.size (by have := g2.below.size; rw [size_setBlk] at this; exact this))
        have G2 : Gr w v1 := (gr_setNew (G.trans g1) (Nat.le_refl _)).trans g2
        clear hWb hWf hWs G g1 g2
        go_wp2
        go_roundw
        case rel => exact ⟨k + 1, X * 16 + d, by omega, by go_num, HX2, G2, by rw [hV3]; exact c1, c2, c3⟩
        case measure => simp [intOf]; omega
    · have hks : Hid (Unit → k = s.size) := fun _ => by omega
      obtain ⟨V, hV⟩ : ∃ V, V = X * 2 ^ (4 * (s.size - k)) := ⟨_, rfl⟩
      rw [← hV] at HW
      have HF : Hid (Unit → V = hexN s.data.toList) := fun _ => by
        rw [hV, hks.out (), Nat.sub_self, Nat.mul_zero, Nat.pow_zero, Nat.mul_one, ← HX.out (), hks.out (), List.take_of_length_le (by simp)]
      have HV : Hid (Unit → V < pq N) := fun _ => by rw [HF.out ()]; exact HB.out ()
      have hki : ¬ (k : Int) < (s.size : Int) := by omega
      obtain ⟨G, hWb, hWf, hWs⟩ := HW.out
      have HR : Hid (Unit → Calls Try.prog 50 #[.slice (some ⟨w.heap.size, 0, none⟩) N N, .int .i64 0] wr (Nm V wr)) := fun _ => rshr0_nd V N w.heap.size wr hWb hWs (HV.out ()) (kb.out ()).1 (kb.out ()).2
      clear hV hlt hk hs
      go_wp2_with (go_at_call 50; refine (HR.out ()).mono ?_; rintro e w' ⟨p1, n1, rfl, S1, G1⟩)
      go_ret
      rw [← HF.out ()]
      exact ⟨p1, n1, rfl, S1, G.trans G1⟩

end Go.Proofs.Ytgmaalokfgdpaaa
namespace Go.Proofs.Ytgmaalokfgdpaaa
open Go.RowKit
def bslQ (t : TypeId) (n : Nat) (p : Array (Nat × Value)) : Sem Value := Instr.buildSlice t n p
theorem bslQ_is (n : Nat) (p : Array (Nat × Value)) : Instr.buildSlice 70 n p = bslQ 70 n p := rfl
theorem bslQ6 (a b c d e f : ByteArray) (w : World) : (bslQ 70 6 #[(0, .string a), (1, .string b), (2, .string c), (3, .string d), (4, .string e), (5, .string f)]).run Try.prog w = .ok (.slice (some ⟨w.heap.size, 0, none⟩) 6 6) (w.alloc (.cells #[.string a, .string b, .string c, .string d, .string e, .string f] 9)) := by kernel_rfl
attribute [local go_sem ↓] loadNat_is loadArr_is loadWide_is loadArrW_is storeNat_is storeWide_is
attribute [local go_sem] loadNat loadArr loadWide loadArrW storeNat storeWide idxArr fold9 fold18 nw_size nw_elem pre_self pre_1 pre_2 pre_3 pre_4 pre_5 pre_6 pre_7 pre_8 pre_9 pre_10 pre_11 pre_12 pre_13 pre_14 pre_15 pre_16 pre_17 pre_18 pre_19 pre_20 pre_21 pre_22 pre_23 pre_24 pre_25 pre_26 pre_27 pre_28 pre_29 pre_30 pre_31 pre_32 pre_33 pre_34 pre_35 pre_36 pre_37 pre_38 pre_39 pre_40 gro_size gro_drew gro_drewN drew_gro drewN_gro gro_gro blk_gro frz_gro blk_drew frz_drew blk_drewN frz_drewN blk_alloc_at frz_alloc_at blk_alloc frz_alloc cell_gro frozen_gro cell_alloc_pre frozen_alloc_pre setCell_drewN alloc_drewN setBlk_drew setBlk_drewN setBlk_alloc_at setBlk_alloc setBlk_gro setCell_gro setCell_alloc_pre size_setBlk size_setCell
attribute [local go_sem ↓] bslQ_is
attribute [local go_sem] bslQ6
def rs1_0 : ByteArray := ⟨#[102, 102, 102, 102, 102, 102, 102, 102, 102, 102, 102, 102, 102, 102, 102, 102, 102, 102, 102, 102, 102, 102, 102, 102, 102, 102, 102, 102, 102, 102, 102, 101, 102, 102, 102, 102, 102, 102, 102, 102, 102, 102, 102, 102, 102, 102, 102, 102]⟩
def rs1_1 : ByteArray := ⟨#[45]⟩
def rs1_2 : ByteArray := ⟨#[54, 52, 50, 49, 48, 53, 49, 57, 101, 53, 57, 99, 56, 48, 101, 55, 48, 102, 97, 55, 101, 57, 97, 98, 55, 50, 50, 52, 51, 48, 52, 57, 102, 101, 98, 56, 100, 101, 101, 99, 99, 49, 52, 54, 98, 57, 98, 49]⟩
def rs1_3 : ByteArray := ⟨#[102, 102, 102, 102, 102, 102, 102, 102, 102, 102, 102, 102, 102, 102, 102, 102, 102, 102, 102, 102, 102, 102, 102, 102, 57, 57, 100, 101, 102, 56, 51, 54, 49, 52, 54, 98, 99, 57, 98, 49, 98, 52, 100, 50, 50, 56, 51, 49]⟩
def rs1_4 : ByteArray := ⟨#[49, 56, 56, 100, 97, 56, 48, 101, 98, 48, 51, 48, 57, 48, 102, 54, 55, 99, 98, 102, 50, 48, 101, 98, 52, 51, 97, 49, 56, 56, 48, 48, 102, 52, 102, 102, 48, 97, 102, 100, 56, 50, 102, 102, 49, 48, 49, 50]⟩
def rs1_5 : ByteArray := ⟨#[48, 55, 49, 57, 50, 98, 57, 53, 102, 102, 99, 56, 100, 97, 55, 56, 54, 51, 49, 48, 49, 49, 101, 100, 54, 98, 50, 52, 99, 100, 100, 53, 55, 51, 102, 57, 55, 55, 97, 49, 49, 101, 55, 57, 52, 56, 49, 49]⟩
def rowA1 : Array Value := #[.string rs1_0, .string rs1_1, .string rs1_2, .string rs1_3, .string rs1_4, .string rs1_5]
def rs2_0 : ByteArray := ⟨#[102, 102, 102, 102, 102, 102, 102, 102, 102, 102, 102, 102, 102, 102, 102, 102, 102, 102, 102, 102, 102, 102, 102, 102, 102, 102, 102, 102, 102, 102, 102, 102, 48, 48, 48, 48, 48, 48, 48, 48, 48, 48, 48, 48, 48, 48, 48, 48, 48, 48, 48, 48, 48, 48, 48, 49]⟩
def rs2_1 : ByteArray := ⟨#[45]⟩
def rs2_2 : ByteArray := ⟨#[98, 52, 48, 53, 48, 97, 56, 53, 48, 99, 48, 52, 98, 51, 97, 98, 102, 53, 52, 49, 51, 50, 53, 54, 53, 48, 52, 52, 98, 48, 98, 55, 100, 55, 98, 102, 100, 56, 98, 97, 50, 55, 48, 98, 51, 57, 52, 51, 50, 51, 53, 53, 102, 102, 98, 52]⟩
def rs2_3 : ByteArray := ⟨#[102, 102, 102, 102, 102, 102, 102, 102, 102, 102, 102, 102, 102, 102, 102, 102, 102, 102, 102, 102, 102, 102, 102, 102, 102, 102, 102, 102, 49, 54, 97, 50, 101, 48, 98, 56, 102, 48, 51, 101, 49, 51, 100, 100, 50, 57, 52, 53, 53, 99, 53, 99, 50, 97, 51, 100]⟩
def rs2_4 : ByteArray := ⟨#[98, 55, 48, 101, 48, 99, 98, 100, 54, 98, 98, 52, 98, 102, 55, 102, 51, 50, 49, 51, 57, 48, 98, 57, 52, 97, 48, 51, 99, 49, 100, 51, 53, 54, 99, 50, 49, 49, 50, 50, 51, 52, 51, 50, 56, 48, 100, 54, 49, 49, 53, 99, 49, 100, 50, 49]⟩
def rs2_5 : ByteArray := ⟨#[98, 100, 51, 55, 54, 51, 56, 56, 98, 53, 102, 55, 50, 51, 102, 98, 52, 99, 50, 50, 100, 102, 101, 54, 99, 100, 52, 51, 55, 53, 97, 48, 53, 97, 48, 55, 52, 55, 54, 52, 52, 52, 100, 53, 56, 49, 57, 57, 56, 53, 48, 48, 55, 101, 51, 52]⟩
def rowA2 : Array Value := #[.string rs2_0, .string rs2_1, .string rs2_2, .string rs2_3, .string rs2_4, .string rs2_5]
def rs3_0 : ByteArray := ⟨#[102, 102, 102, 102, 102, 102, 102, 102, 48, 48, 48, 48, 48, 48, 48, 49, 48, 48, 48, 48, 48, 48, 48, 48, 48, 48, 48, 48, 48, 48, 48, 48, 48, 48, 48, 48, 48, 48, 48, 48, 102, 102, 102, 102, 102, 102, 102, 102, 102, 102, 102, 102, 102, 102, 102, 102, 102, 102, 102, 102, 102, 102, 102, 102]⟩
def rs3_1 : ByteArray := ⟨#[45]⟩
def rs3_2 : ByteArray := ⟨#[53, 97, 99, 54, 51, 53, 100, 56, 97, 97, 51, 97, 57, 51, 101, 55, 98, 51, 101, 98, 98, 100, 53, 53, 55, 54, 57, 56, 56, 54, 98, 99, 54, 53, 49, 100, 48, 54, 98, 48, 99, 99, 53, 51, 98, 48, 102, 54, 51, 98, 99, 101, 51, 99, 51, 101, 50, 55, 100, 50, 54, 48, 52, 98]⟩
def rs3_3 : ByteArray := ⟨#[102, 102, 102, 102, 102, 102, 102, 102, 48, 48, 48, 48, 48, 48, 48, 48, 102, 102, 102, 102, 102, 102, 102, 102, 102, 102, 102, 102, 102, 102, 102, 102, 98, 99, 101, 54, 102, 97, 97, 100, 97, 55, 49, 55, 57, 101, 56, 52, 102, 51, 98, 57, 99, 97, 99, 50, 102, 99, 54, 51, 50, 53, 53, 49]⟩
def rs3_4 : ByteArray := ⟨#[54, 98, 49, 55, 100, 49, 102, 50, 101, 49, 50, 99, 52, 50, 52, 55, 102, 56, 98, 99, 101, 54, 101, 53, 54, 51, 97, 52, 52, 48, 102, 50, 55, 55, 48, 51, 55, 100, 56, 49, 50, 100, 101, 98, 51, 51, 97, 48, 102, 52, 97, 49, 51, 57, 52, 53, 100, 56, 57, 56, 99, 50, 57, 54]⟩
def rs3_5 : ByteArray := ⟨#[52, 102, 101, 51, 52, 50, 101, 50, 102, 101, 49, 97, 55, 102, 57, 98, 56, 101, 101, 55, 101, 98, 52, 97, 55, 99, 48, 102, 57, 101, 49, 54, 50, 98, 99, 101, 51, 51, 53, 55, 54, 98, 51, 49, 53, 101, 99, 101, 99, 98, 98, 54, 52, 48, 54, 56, 51, 55, 98, 102, 53, 49, 102, 53]⟩
def rowA3 : Array Value := #[.string rs3_0, .string rs3_1, .string rs3_2, .string rs3_3, .string rs3_4, .string rs3_5]
def rs4_0 : ByteArray := ⟨#[102, 102, 102, 102, 102, 102, 102, 102, 102, 102, 102, 102, 102, 102, 102, 102, 102, 102, 102, 102, 102, 102, 102, 102, 102, 102, 102, 102, 102, 102, 102, 102, 102, 102, 102, 102, 102, 102, 102, 102, 102, 102, 102, 102, 102, 102, 102, 102, 102, 102, 102, 102, 102, 102, 102, 102, 102, 102, 102, 102, 102, 102, 102, 101, 102, 102, 102, 102, 102, 102, 102, 102, 48, 48, 48, 48, 48, 48, 48, 48, 48, 48, 48, 48, 48, 48, 48, 48, 102, 102, 102, 102, 102, 102, 102, 102]⟩
def rs4_1 : ByteArray := ⟨#[45]⟩
def rs4_2 : ByteArray := ⟨#[98, 51, 51, 49, 50, 102, 97, 55, 101, 50, 51, 101, 101, 55, 101, 52, 57, 56, 56, 101, 48, 53, 54, 98, 101, 51, 102, 56, 50, 100, 49, 57, 49, 56, 49, 100, 57, 99, 54, 101, 102, 101, 56, 49, 52, 49, 49, 50, 48, 51, 49, 52, 48, 56, 56, 102, 53, 48, 49, 51, 56, 55, 53, 97, 99, 54, 53, 54, 51, 57, 56, 100, 56, 97, 50, 101, 100, 49, 57, 100, 50, 97, 56, 53, 99, 56, 101, 100, 100, 51, 101, 99, 50, 97, 101, 102]⟩
def rs4_3 : ByteArray := ⟨#[102, 102, 102, 102, 102, 102, 102, 102, 102, 102, 102, 102, 102, 102, 102, 102, 102, 102, 102, 102, 102, 102, 102, 102, 102, 102, 102, 102, 102, 102, 102, 102, 102, 102, 102, 102, 102, 102, 102, 102, 102, 102, 102, 102, 102, 102, 102, 102, 99, 55, 54, 51, 52, 100, 56, 49, 102, 52, 51, 55, 50, 100, 100, 102, 53, 56, 49, 97, 48, 100, 98, 50, 52, 56, 98, 48, 97, 55, 55, 97, 101, 99, 101, 99, 49, 57, 54, 97, 99, 99, 99, 53, 50, 57, 55, 51]⟩
def rs4_4 : ByteArray := ⟨#[97, 97, 56, 55, 99, 97, 50, 50, 98, 101, 56, 98, 48, 53, 51, 55, 56, 101, 98, 49, 99, 55, 49, 101, 102, 51, 50, 48, 97, 100, 55, 52, 54, 101, 49, 100, 51, 98, 54, 50, 56, 98, 97, 55, 57, 98, 57, 56, 53, 57, 102, 55, 52, 49, 101, 48, 56, 50, 53, 52, 50, 97, 51, 56, 53, 53, 48, 50, 102, 50, 53, 100, 98, 102, 53, 53, 50, 57, 54, 99, 51, 97, 53, 52, 53, 101, 51, 56, 55, 50, 55, 54, 48, 97, 98, 55]⟩
def rs4_5 : ByteArray := ⟨#[51, 54, 49, 55, 100, 101, 52, 97, 57, 54, 50, 54, 50, 99, 54, 102, 53, 100, 57, 101, 57, 56, 98, 102, 57, 50, 57, 50, 100, 99, 50, 57, 102, 56, 102, 52, 49, 100, 98, 100, 50, 56, 57, 97, 49, 52, 55, 99, 101, 57, 100, 97, 51, 49, 49, 51, 98, 53, 102, 48, 98, 56, 99, 48, 48, 97, 54, 48, 98, 49, 99, 101, 49, 100, 55, 101, 56, 49, 57, 100, 55, 97, 52, 51, 49, 100, 55, 99, 57, 48, 101, 97, 48, 101, 53, 102]⟩
def rowA4 : Array Value := #[.string rs4_0, .string rs4_1, .string rs4_2, .string rs4_3, .string rs4_4, .string rs4_5]
def rs5_0 : ByteArray := ⟨#[48, 49, 102, 102, 102, 102, 102, 102, 102, 102, 102, 102, 102, 102, 102, 102, 102, 102, 102, 102, 102, 102, 102, 102, 102, 102, 102, 102, 102, 102, 102, 102, 102, 102, 102, 102, 102, 102, 102, 102, 102, 102, 102, 102, 102, 102, 102, 102, 102, 102, 102, 102, 102, 102, 102, 102, 102, 102, 102, 102, 102, 102, 102, 102, 102, 102, 102, 102, 102, 102, 102, 102, 102, 102, 102, 102, 102, 102, 102, 102, 102, 102, 102, 102, 102, 102, 102, 102, 102, 102, 102, 102, 102, 102, 102, 102, 102, 102, 102, 102, 102, 102, 102, 102, 102, 102, 102, 102, 102, 102, 102, 102, 102, 102, 102, 102, 102, 102, 102, 102, 102, 102, 102, 102, 102, 102, 102, 102, 102, 102, 102, 102]⟩
def rs5_1 : ByteArray := ⟨#[45]⟩
def rs5_2 : ByteArray := ⟨#[48, 48, 53, 49, 57, 53, 51, 101, 98, 57, 54, 49, 56, 101, 49, 99, 57, 97, 49, 102, 57, 50, 57, 97, 50, 49, 97, 48, 98, 54, 56, 53, 52, 48, 101, 101, 97, 50, 100, 97, 55, 50, 53, 98, 57, 57, 98, 51, 49, 53, 102, 51, 98, 56, 98, 52, 56, 57, 57, 49, 56, 101, 102, 49, 48, 57, 101, 49, 53, 54, 49, 57, 51, 57, 53, 49, 101, 99, 55, 101, 57, 51, 55, 98, 49, 54, 53, 50, 99, 48, 98, 100, 51, 98, 98, 49, 98, 102, 48, 55, 51, 53, 55, 51, 100, 102, 56, 56, 51, 100, 50, 99, 51, 52, 102, 49, 101, 102, 52, 53, 49, 102, 100, 52, 54, 98, 53, 48, 51, 102, 48, 48]⟩
def rs5_3 : ByteArray := ⟨#[48, 49, 102, 102, 102, 102, 102, 102, 102, 102, 102, 102, 102, 102, 102, 102, 102, 102, 102, 102, 102, 102, 102, 102, 102, 102, 102, 102, 102, 102, 102, 102, 102, 102, 102, 102, 102, 102, 102, 102, 102, 102, 102, 102, 102, 102, 102, 102, 102, 102, 102, 102, 102, 102, 102, 102, 102, 102, 102, 102, 102, 102, 102, 102, 102, 102, 102, 97, 53, 49, 56, 54, 56, 55, 56, 51, 98, 102, 50, 102, 57, 54, 54, 98, 55, 102, 99, 99, 48, 49, 52, 56, 102, 55, 48, 57, 97, 53, 100, 48, 51, 98, 98, 53, 99, 57, 98, 56, 56, 57, 57, 99, 52, 55, 97, 101, 98, 98, 54, 102, 98, 55, 49, 101, 57, 49, 51, 56, 54, 52, 48, 57]⟩
def rs5_4 : ByteArray := ⟨#[48, 48, 99, 54, 56, 53, 56, 101, 48, 54, 98, 55, 48, 52, 48, 52, 101, 57, 99, 100, 57, 101, 51, 101, 99, 98, 54, 54, 50, 51, 57, 53, 98, 52, 52, 50, 57, 99, 54, 52, 56, 49, 51, 57, 48, 53, 51, 102, 98, 53, 50, 49, 102, 56, 50, 56, 97, 102, 54, 48, 54, 98, 52, 100, 51, 100, 98, 97, 97, 49, 52, 98, 53, 101, 55, 55, 101, 102, 101, 55, 53, 57, 50, 56, 102, 101, 49, 100, 99, 49, 50, 55, 97, 50, 102, 102, 97, 56, 100, 101, 51, 51, 52, 56, 98, 51, 99, 49, 56, 53, 54, 97, 52, 50, 57, 98, 102, 57, 55, 101, 55, 101, 51, 49, 99, 50, 101, 53, 98, 100, 54, 54]⟩
def rs5_5 : ByteArray := ⟨#[48, 49, 49, 56, 51, 57, 50, 57, 54, 97, 55, 56, 57, 97, 51, 98, 99, 48, 48, 52, 53, 99, 56, 97, 53, 102, 98, 52, 50, 99, 55, 100, 49, 98, 100, 57, 57, 56, 102, 53, 52, 52, 52, 57, 53, 55, 57, 98, 52, 52, 54, 56, 49, 55, 97, 102, 98, 100, 49, 55, 50, 55, 51, 101, 54, 54, 50, 99, 57, 55, 101, 101, 55, 50, 57, 57, 53, 101, 102, 52, 50, 54, 52, 48, 99, 53, 53, 48, 98, 57, 48, 49, 51, 102, 97, 100, 48, 55, 54, 49, 51, 53, 51, 99, 55, 48, 56, 54, 97, 50, 55, 50, 99, 50, 52, 48, 56, 56, 98, 101, 57, 52, 55, 54, 57, 102, 100, 49, 54, 54, 53, 48]⟩
def rowA5 : Array Value := #[.string rs5_0, .string rs5_1, .string rs5_2, .string rs5_3, .string rs5_4, .string rs5_5]
def rs6_0 : ByteArray := ⟨#[102, 102, 102, 102, 102, 102, 102, 102, 102, 102, 102, 102, 102, 102, 102, 102, 102, 102, 102, 102, 102, 102, 102, 102, 102, 102, 102, 102, 102, 102, 102, 102, 102, 102, 102, 102, 102, 102, 102, 102, 102, 102, 102, 102, 102, 102, 102, 102, 102, 102, 102, 102, 102, 102, 102, 101, 102, 102, 102, 102, 102, 99, 50, 102]⟩
def rs6_1 : ByteArray := ⟨#[48]⟩
def rs6_2 : ByteArray := ⟨#[55]⟩
def rs6_3 : ByteArray := ⟨#[102, 102, 102, 102, 102, 102, 102, 102, 102, 102, 102, 102, 102, 102, 102, 102, 102, 102, 102, 102, 102, 102, 102, 102, 102, 102, 102, 102, 102, 102, 102, 101, 98, 97, 97, 101, 100, 99, 101, 54, 97, 102, 52, 56, 97, 48, 51, 98, 98, 102, 100, 50, 53, 101, 56, 99, 100, 48, 51, 54, 52, 49, 52, 49]⟩
def rs6_4 : ByteArray := ⟨#[55, 57, 98, 101, 54, 54, 55, 101, 102, 57, 100, 99, 98, 98, 97, 99, 53, 53, 97, 48, 54, 50, 57, 53, 99, 101, 56, 55, 48, 98, 48, 55, 48, 50, 57, 98, 102, 99, 100, 98, 50, 100, 99, 101, 50, 56, 100, 57, 53, 57, 102, 50, 56, 49, 53, 98, 49, 54, 102, 56, 49, 55, 57, 56]⟩
def rs6_5 : ByteArray := ⟨#[52, 56, 51, 97, 100, 97, 55, 55, 50, 54, 97, 51, 99, 52, 54, 53, 53, 100, 97, 52, 102, 98, 102, 99, 48, 101, 49, 49, 48, 56, 97, 56, 102, 100, 49, 55, 98, 52, 52, 56, 97, 54, 56, 53, 53, 52, 49, 57, 57, 99, 52, 55, 100, 48, 56, 102, 102, 98, 49, 48, 100, 52, 98, 56]⟩
def rowA6 : Array Value := #[.string rs6_0, .string rs6_1, .string rs6_2, .string rs6_3, .string rs6_4, .string rs6_5]
def rs7_0 : ByteArray := ⟨#[101, 57, 53, 101, 52, 97, 53, 102, 55, 51, 55, 48, 53, 57, 100, 99, 54, 48, 100, 102, 99, 55, 97, 100, 57, 53, 98, 51, 100, 56, 49, 51, 57, 53, 49, 53, 54, 50, 48, 102]⟩
def rs7_1 : ByteArray := ⟨#[51, 52, 48, 101, 55, 98, 101, 50, 97, 50, 56, 48, 101, 98, 55, 52, 101, 50, 98, 101, 54, 49, 98, 97, 100, 97, 55, 52, 53, 100, 57, 55, 101, 56, 102, 55, 99, 51, 48, 48]⟩
def rs7_2 : ByteArray := ⟨#[49, 101, 53, 56, 57, 97, 56, 53, 57, 53, 52, 50, 51, 52, 49, 50, 49, 51, 52, 102, 97, 97, 50, 100, 98, 100, 101, 99, 57, 53, 99, 56, 100, 56, 54, 55, 53, 101, 53, 56]⟩
def rs7_3 : ByteArray := ⟨#[101, 57, 53, 101, 52, 97, 53, 102, 55, 51, 55, 48, 53, 57, 100, 99, 54, 48, 100, 102, 53, 57, 57, 49, 100, 52, 53, 48, 50, 57, 52, 48, 57, 101, 54, 48, 102, 99, 48, 57]⟩
def rs7_4 : ByteArray := ⟨#[98, 101, 100, 53, 97, 102, 49, 54, 101, 97, 51, 102, 54, 97, 52, 102, 54, 50, 57, 51, 56, 99, 52, 54, 51, 49, 101, 98, 53, 97, 102, 55, 98, 100, 98, 99, 100, 98, 99, 51]⟩
def rs7_5 : ByteArray := ⟨#[49, 54, 54, 55, 99, 98, 52, 55, 55, 97, 49, 97, 56, 101, 99, 51, 51, 56, 102, 57, 52, 55, 52, 49, 54, 54, 57, 99, 57, 55, 54, 51, 49, 54, 100, 97, 54, 51, 50, 49]⟩
def rowA7 : Array Value := #[.string rs7_0, .string rs7_1, .string rs7_2, .string rs7_3, .string rs7_4, .string rs7_5]
def rs8_0 : ByteArray := ⟨#[100, 55, 99, 49, 51, 52, 97, 97, 50, 54, 52, 51, 54, 54, 56, 54, 50, 97, 49, 56, 51, 48, 50, 53, 55, 53, 100, 49, 100, 55, 56, 55, 98, 48, 57, 102, 48, 55, 53, 55, 57, 55, 100, 97, 56, 57, 102, 53, 55, 101, 99, 56, 99, 48, 102, 102]⟩
def rs8_1 : ByteArray := ⟨#[54, 56, 97, 53, 101, 54, 50, 99, 97, 57, 99, 101, 54, 99, 49, 99, 50, 57, 57, 56, 48, 51, 97, 54, 99, 49, 53, 51, 48, 98, 53, 49, 52, 101, 49, 56, 50, 97, 100, 56, 98, 48, 48, 52, 50, 97, 53, 57, 99, 97, 100, 50, 57, 102, 52, 51]⟩
def rs8_2 : ByteArray := ⟨#[50, 53, 56, 48, 102, 54, 51, 99, 99, 102, 101, 52, 52, 49, 51, 56, 56, 55, 48, 55, 49, 51, 98, 49, 97, 57, 50, 51, 54, 57, 101, 51, 51, 101, 50, 49, 51, 53, 100, 50, 54, 54, 100, 98, 98, 51, 55, 50, 51, 56, 54, 99, 52, 48, 48, 98]⟩
def rs8_3 : ByteArray := ⟨#[100, 55, 99, 49, 51, 52, 97, 97, 50, 54, 52, 51, 54, 54, 56, 54, 50, 97, 49, 56, 51, 48, 50, 53, 55, 53, 100, 48, 102, 98, 57, 56, 100, 49, 49, 54, 98, 99, 52, 98, 54, 100, 100, 101, 98, 99, 97, 51, 97, 53, 97, 55, 57, 51, 57, 102]⟩
def rs8_4 : ByteArray := ⟨#[48, 100, 57, 48, 50, 57, 97, 100, 50, 99, 55, 101, 53, 99, 102, 52, 51, 52, 48, 56, 50, 51, 98, 50, 97, 56, 55, 100, 99, 54, 56, 99, 57, 101, 52, 99, 101, 51, 49, 55, 52, 99, 49, 101, 54, 101, 102, 100, 101, 101, 49, 50, 99, 48, 55, 100]⟩
def rs8_5 : ByteArray := ⟨#[53, 56, 97, 97, 53, 54, 102, 55, 55, 50, 99, 48, 55, 50, 54, 102, 50, 52, 99, 54, 98, 56, 57, 101, 52, 101, 99, 100, 97, 99, 50, 52, 51, 53, 52, 98, 57, 101, 57, 57, 99, 97, 97, 51, 102, 54, 100, 51, 55, 54, 49, 52, 48, 50, 99, 100]⟩
def rowA8 : Array Value := #[.string rs8_0, .string rs8_1, .string rs8_2, .string rs8_3, .string rs8_4, .string rs8_5]
def rs9_0 : ByteArray := ⟨#[97, 57, 102, 98, 53, 55, 100, 98, 97, 49, 101, 101, 97, 57, 98, 99, 51, 101, 54, 54, 48, 97, 57, 48, 57, 100, 56, 51, 56, 100, 55, 50, 54, 101, 51, 98, 102, 54, 50, 51, 100, 53, 50, 54, 50, 48, 50, 56, 50, 48, 49, 51, 52, 56, 49, 100, 49, 102, 54, 101, 53, 51, 55, 55]⟩
def rs9_1 : ByteArray := ⟨#[55, 100, 53, 97, 48, 57, 55, 53, 102, 99, 50, 99, 51, 48, 53, 55, 101, 101, 102, 54, 55, 53, 51, 48, 52, 49, 55, 97, 102, 102, 101, 55, 102, 98, 56, 48, 53, 53, 99, 49, 50, 54, 100, 99, 53, 99, 54, 99, 101, 57, 52, 97, 52, 98, 52, 52, 102, 51, 51, 48, 98, 53, 100, 57]⟩
def rs9_2 : ByteArray := ⟨#[50, 54, 100, 99, 53, 99, 54, 99, 101, 57, 52, 97, 52, 98, 52, 52, 102, 51, 51, 48, 98, 53, 100, 57, 98, 98, 100, 55, 55, 99, 98, 102, 57, 53, 56, 52, 49, 54, 50, 57, 53, 99, 102, 55, 101, 49, 99, 101, 54, 98, 99, 99, 100, 99, 49, 56, 102, 102, 56, 99, 48, 55, 98, 54]⟩
def rs9_3 : ByteArray := ⟨#[97, 57, 102, 98, 53, 55, 100, 98, 97, 49, 101, 101, 97, 57, 98, 99, 51, 101, 54, 54, 48, 97, 57, 48, 57, 100, 56, 51, 56, 100, 55, 49, 56, 99, 51, 57, 55, 97, 97, 51, 98, 53, 54, 49, 97, 54, 102, 55, 57, 48, 49, 101, 48, 101, 56, 50, 57, 55, 52, 56, 53, 54, 97, 55]⟩
def rs9_4 : ByteArray := ⟨#[56, 98, 100, 50, 97, 101, 98, 57, 99, 98, 55, 101, 53, 55, 99, 98, 50, 99, 52, 98, 52, 56, 50, 102, 102, 99, 56, 49, 98, 55, 97, 102, 98, 57, 100, 101, 50, 55, 101, 49, 101, 51, 98, 100, 50, 51, 99, 50, 51, 97, 52, 52, 53, 51, 98, 100, 57, 97, 99, 101, 51, 50, 54, 50]⟩
def rs9_5 : ByteArray := ⟨#[53, 52, 55, 101, 102, 56, 51, 53, 99, 51, 100, 97, 99, 52, 102, 100, 57, 55, 102, 56, 52, 54, 49, 97, 49, 52, 54, 49, 49, 100, 99, 57, 99, 50, 55, 55, 52, 53, 49, 51, 50, 100, 101, 100, 56, 101, 53, 52, 53, 99, 49, 100, 53, 52, 99, 55, 50, 102, 48, 52, 54, 57, 57, 55]⟩
def rowA9 : Array Value := #[.string rs9_0, .string rs9_1, .string rs9_2, .string rs9_3, .string rs9_4, .string rs9_5]
def rs10_0 : ByteArray := ⟨#[100, 51, 53, 101, 52, 55, 50, 48, 51, 54, 98, 99, 52, 102, 98, 55, 101, 49, 51, 99, 55, 56, 53, 101, 100, 50, 48, 49, 101, 48, 54, 53, 102, 57, 56, 102, 99, 102, 97, 54, 102, 54, 102, 52, 48, 100, 101, 102, 52, 102, 57, 50, 98, 57, 101, 99, 55, 56, 57, 51, 101, 99, 50, 56, 102, 99, 100, 52, 49, 50, 98, 49, 102, 49, 98, 51, 50, 101, 50, 55]⟩
def rs10_1 : ByteArray := ⟨#[51, 101, 101, 51, 48, 98, 53, 54, 56, 102, 98, 97, 98, 48, 102, 56, 56, 51, 99, 99, 101, 98, 100, 52, 54, 100, 51, 102, 51, 98, 98, 56, 97, 50, 97, 55, 51, 53, 49, 51, 102, 53, 101, 98, 55, 57, 100, 97, 54, 54, 49, 57, 48, 101, 98, 48, 56, 53, 102, 102, 97, 57, 102, 52, 57, 50, 102, 51, 55, 53, 97, 57, 55, 100, 56, 54, 48, 101, 98, 52]⟩
def rs10_2 : ByteArray := ⟨#[53, 50, 48, 56, 56, 51, 57, 52, 57, 100, 102, 100, 98, 99, 52, 50, 100, 51, 97, 100, 49, 57, 56, 54, 52, 48, 54, 56, 56, 97, 54, 102, 101, 49, 51, 102, 52, 49, 51, 52, 57, 53, 53, 52, 98, 52, 57, 97, 99, 99, 51, 49, 100, 99, 99, 100, 56, 56, 52, 53, 51, 57, 56, 49, 54, 102, 53, 101, 98, 52, 97, 99, 56, 102, 98, 49, 102, 49, 97, 54]⟩
def rs10_3 : ByteArray := ⟨#[100, 51, 53, 101, 52, 55, 50, 48, 51, 54, 98, 99, 52, 102, 98, 55, 101, 49, 51, 99, 55, 56, 53, 101, 100, 50, 48, 49, 101, 48, 54, 53, 102, 57, 56, 102, 99, 102, 97, 53, 98, 54, 56, 102, 49, 50, 97, 51, 50, 100, 52, 56, 50, 101, 99, 55, 101, 101, 56, 54, 53, 56, 101, 57, 56, 54, 57, 49, 53, 53, 53, 98, 52, 52, 99, 53, 57, 51, 49, 49]⟩
def rs10_4 : ByteArray := ⟨#[52, 51, 98, 100, 55, 101, 57, 97, 102, 98, 53, 51, 100, 56, 98, 56, 53, 50, 56, 57, 98, 99, 99, 52, 56, 101, 101, 53, 98, 102, 101, 54, 102, 50, 48, 49, 51, 55, 100, 49, 48, 97, 48, 56, 55, 101, 98, 54, 101, 55, 56, 55, 49, 101, 50, 97, 49, 48, 97, 53, 57, 57, 99, 55, 49, 48, 97, 102, 56, 100, 48, 100, 51, 57, 101, 50, 48, 54, 49, 49]⟩
def rs10_5 : ByteArray := ⟨#[49, 52, 102, 100, 100, 48, 53, 53, 52, 53, 101, 99, 49, 99, 99, 56, 97, 98, 52, 48, 57, 51, 50, 52, 55, 102, 55, 55, 50, 55, 53, 101, 48, 55, 52, 51, 102, 102, 101, 100, 49, 49, 55, 49, 56, 50, 101, 97, 97, 57, 99, 55, 55, 56, 55, 55, 97, 97, 97, 99, 54, 97, 99, 55, 100, 51, 53, 50, 52, 53, 100, 49, 54, 57, 50, 101, 56, 101, 101, 49]⟩
def rowA10 : Array Value := #[.string rs10_0, .string rs10_1, .string rs10_2, .string rs10_3, .string rs10_4, .string rs10_5]
def rs11_0 : ByteArray := ⟨#[56, 99, 98, 57, 49, 101, 56, 50, 97, 51, 51, 56, 54, 100, 50, 56, 48, 102, 53, 100, 54, 102, 55, 101, 53, 48, 101, 54, 52, 49, 100, 102, 49, 53, 50, 102, 55, 49, 48, 57, 101, 100, 53, 52, 53, 54, 98, 52, 49, 50, 98, 49, 100, 97, 49, 57, 55, 102, 98, 55, 49, 49, 50, 51, 97, 99, 100, 51, 97, 55, 50, 57, 57, 48, 49, 100, 49, 97, 55, 49, 56, 55, 52, 55, 48, 48, 49, 51, 51, 49, 48, 55, 101, 99, 53, 51]⟩
def rs11_1 : ByteArray := ⟨#[55, 98, 99, 51, 56, 50, 99, 54, 51, 100, 56, 99, 49, 53, 48, 99, 51, 99, 55, 50, 48, 56, 48, 97, 99, 101, 48, 53, 97, 102, 97, 48, 99, 50, 98, 101, 97, 50, 56, 101, 52, 102, 98, 50, 50, 55, 56, 55, 49, 51, 57, 49, 54, 53, 101, 102, 98, 97, 57, 49, 102, 57, 48, 102, 56, 97, 97, 53, 56, 49, 52, 97, 53, 48, 51, 97, 100, 52, 101, 98, 48, 52, 97, 56, 99, 55, 100, 100, 50, 50, 99, 101, 50, 56, 50, 54]⟩
def rs11_2 : ByteArray := ⟨#[48, 52, 97, 56, 99, 55, 100, 100, 50, 50, 99, 101, 50, 56, 50, 54, 56, 98, 51, 57, 98, 53, 53, 52, 49, 54, 102, 48, 52, 52, 55, 99, 50, 102, 98, 55, 55, 100, 101, 49, 48, 55, 100, 99, 100, 50, 97, 54, 50, 101, 56, 56, 48, 101, 97, 53, 51, 101, 101, 98, 54, 50, 100, 53, 55, 99, 98, 52, 51, 57, 48, 50, 57, 53, 100, 98, 99, 57, 57, 52, 51, 97, 98, 55, 56, 54, 57, 54, 102, 97, 53, 48, 52, 99, 49, 49]⟩
def rs11_3 : ByteArray := ⟨#[56, 99, 98, 57, 49, 101, 56, 50, 97, 51, 51, 56, 54, 100, 50, 56, 48, 102, 53, 100, 54, 102, 55, 101, 53, 48, 101, 54, 52, 49, 100, 102, 49, 53, 50, 102, 55, 49, 48, 57, 101, 100, 53, 52, 53, 54, 98, 51, 49, 102, 49, 54, 54, 101, 54, 99, 97, 99, 48, 52, 50, 53, 97, 55, 99, 102, 51, 97, 98, 54, 97, 102, 54, 98, 55, 102, 99, 51, 49, 48, 51, 98, 56, 56, 51, 50, 48, 50, 101, 57, 48, 52, 54, 53, 54, 53]⟩
def rs11_4 : ByteArray := ⟨#[49, 100, 49, 99, 54, 52, 102, 48, 54, 56, 99, 102, 52, 53, 102, 102, 97, 50, 97, 54, 51, 97, 56, 49, 98, 55, 99, 49, 51, 102, 54, 98, 56, 56, 52, 55, 97, 51, 101, 55, 55, 101, 102, 49, 52, 102, 101, 51, 100, 98, 55, 102, 99, 97, 102, 101, 48, 99, 98, 100, 49, 48, 101, 56, 101, 56, 50, 54, 101, 48, 51, 52, 51, 54, 100, 54, 52, 54, 97, 97, 101, 102, 56, 55, 98, 50, 101, 50, 52, 55, 100, 52, 97, 102, 49, 101]⟩
def rs11_5 : ByteArray := ⟨#[56, 97, 98, 101, 49, 100, 55, 53, 50, 48, 102, 57, 99, 50, 97, 52, 53, 99, 98, 49, 101, 98, 56, 101, 57, 53, 99, 102, 100, 53, 53, 50, 54, 50, 98, 55, 48, 98, 50, 57, 102, 101, 101, 99, 53, 56, 54, 52, 101, 49, 57, 99, 48, 53, 52, 102, 102, 57, 57, 49, 50, 57, 50, 56, 48, 101, 52, 54, 52, 54, 50, 49, 55, 55, 57, 49, 56, 49, 49, 49, 52, 50, 56, 50, 48, 51, 52, 49, 50, 54, 51, 99, 53, 51, 49, 53]⟩
def rowA11 : Array Value := #[.string rs11_0, .string rs11_1, .string rs11_2, .string rs11_3, .string rs11_4, .string rs11_5]
def rs12_0 : ByteArray := ⟨#[97, 97, 100, 100, 57, 100, 98, 56, 100, 98, 101, 57, 99, 52, 56, 98, 51, 102, 100, 52, 101, 54, 97, 101, 51, 51, 99, 57, 102, 99, 48, 55, 99, 98, 51, 48, 56, 100, 98, 51, 98, 51, 99, 57, 100, 50, 48, 101, 100, 54, 54, 51, 57, 99, 99, 97, 55, 48, 51, 51, 48, 56, 55, 49, 55, 100, 52, 100, 57, 98, 48, 48, 57, 98, 99, 54, 54, 56, 52, 50, 97, 101, 99, 100, 97, 49, 50, 97, 101, 54, 97, 51, 56, 48, 101, 54, 50, 56, 56, 49, 102, 102, 50, 102, 50, 100, 56, 50, 99, 54, 56, 53, 50, 56, 97, 97, 54, 48, 53, 54, 53, 56, 51, 97, 52, 56, 102, 51]⟩
def rs12_1 : ByteArray := ⟨#[55, 56, 51, 48, 97, 51, 51, 49, 56, 98, 54, 48, 51, 98, 56, 57, 101, 50, 51, 50, 55, 49, 52, 53, 97, 99, 50, 51, 52, 99, 99, 53, 57, 52, 99, 98, 100, 100, 56, 100, 51, 100, 102, 57, 49, 54, 49, 48, 97, 56, 51, 52, 52, 49, 99, 97, 101, 97, 57, 56, 54, 51, 98, 99, 50, 100, 101, 100, 53, 100, 53, 97, 97, 56, 50, 53, 51, 97, 97, 49, 48, 97, 50, 101, 102, 49, 99, 57, 56, 98, 57, 97, 99, 56, 98, 53, 55, 102, 49, 49, 49, 55, 97, 55, 50, 98, 102, 50, 99, 55, 98, 57, 101, 55, 99, 49, 97, 99, 52, 100, 55, 55, 102, 99, 57, 52, 99, 97]⟩
def rs12_2 : ByteArray := ⟨#[51, 100, 102, 57, 49, 54, 49, 48, 97, 56, 51, 52, 52, 49, 99, 97, 101, 97, 57, 56, 54, 51, 98, 99, 50, 100, 101, 100, 53, 100, 53, 97, 97, 56, 50, 53, 51, 97, 97, 49, 48, 97, 50, 101, 102, 49, 99, 57, 56, 98, 57, 97, 99, 56, 98, 53, 55, 102, 49, 49, 49, 55, 97, 55, 50, 98, 102, 50, 99, 55, 98, 57, 101, 55, 99, 49, 97, 99, 52, 100, 55, 55, 102, 99, 57, 52, 99, 97, 100, 99, 48, 56, 51, 101, 54, 55, 57, 56, 52, 48, 53, 48, 98, 55, 53, 101, 98, 97, 101, 53, 100, 100, 50, 56, 48, 57, 98, 100, 54, 51, 56, 48, 49, 54, 102, 55, 50, 51]⟩
def rs12_3 : ByteArray := ⟨#[97, 97, 100, 100, 57, 100, 98, 56, 100, 98, 101, 57, 99, 52, 56, 98, 51, 102, 100, 52, 101, 54, 97, 101, 51, 51, 99, 57, 102, 99, 48, 55, 99, 98, 51, 48, 56, 100, 98, 51, 98, 51, 99, 57, 100, 50, 48, 101, 100, 54, 54, 51, 57, 99, 99, 97, 55, 48, 51, 51, 48, 56, 55, 48, 53, 53, 51, 101, 53, 99, 52, 49, 52, 99, 97, 57, 50, 54, 49, 57, 52, 49, 56, 54, 54, 49, 49, 57, 55, 102, 97, 99, 49, 48, 52, 55, 49, 100, 98, 49, 100, 51, 56, 49, 48, 56, 53, 100, 100, 97, 100, 100, 98, 53, 56, 55, 57, 54, 56, 50, 57, 99, 97, 57, 48, 48, 54, 57]⟩
def rs12_4 : ByteArray := ⟨#[56, 49, 97, 101, 101, 52, 98, 100, 100, 56, 50, 101, 100, 57, 54, 52, 53, 97, 50, 49, 51, 50, 50, 101, 57, 99, 52, 99, 54, 97, 57, 51, 56, 53, 101, 100, 57, 102, 55, 48, 98, 53, 100, 57, 49, 54, 99, 49, 98, 52, 51, 98, 54, 50, 101, 101, 102, 52, 100, 48, 48, 57, 56, 101, 102, 102, 51, 98, 49, 102, 55, 56, 101, 50, 100, 48, 100, 52, 56, 100, 53, 48, 100, 49, 54, 56, 55, 98, 57, 51, 98, 57, 55, 100, 53, 102, 55, 99, 54, 100, 53, 48, 52, 55, 52, 48, 54, 97, 53, 101, 54, 56, 56, 98, 51, 53, 50, 50, 48, 57, 98, 99, 98, 57, 102, 56, 50, 50]⟩
def rs12_5 : ByteArray := ⟨#[55, 100, 100, 101, 51, 56, 53, 100, 53, 54, 54, 51, 51, 50, 101, 99, 99, 48, 101, 97, 98, 102, 97, 57, 99, 102, 55, 56, 50, 50, 102, 100, 102, 50, 48, 57, 102, 55, 48, 48, 50, 52, 97, 53, 55, 98, 49, 97, 97, 48, 48, 48, 99, 53, 53, 98, 56, 56, 49, 102, 56, 49, 49, 49, 98, 50, 100, 99, 100, 101, 52, 57, 52, 97, 53, 102, 52, 56, 53, 101, 53, 98, 99, 97, 52, 98, 100, 56, 56, 97, 50, 55, 54, 51, 97, 101, 100, 49, 99, 97, 50, 98, 50, 102, 97, 56, 102, 48, 53, 52, 48, 54, 55, 56, 99, 100, 49, 101, 48, 102, 51, 97, 100, 56, 48, 56, 57, 50]⟩
def rowA12 : Array Value := #[.string rs12_0, .string rs12_1, .string rs12_2, .string rs12_3, .string rs12_4, .string rs12_5]
def rs13_0 : ByteArray := ⟨#[102, 98]⟩
def rs13_1 : ByteArray := ⟨#[45]⟩
def rs13_2 : ByteArray := ⟨#[49, 97]⟩
def rs13_3 : ByteArray := ⟨#[100, 102]⟩
def rs13_4 : ByteArray := ⟨#[50]⟩
def rs13_5 : ByteArray := ⟨#[53, 52]⟩
def rowA13 : Array Value := #[.string rs13_0, .string rs13_1, .string rs13_2, .string rs13_3, .string rs13_4, .string rs13_5]
def rs14_0 : ByteArray := ⟨#[102, 49]⟩
def rs14_1 : ByteArray := ⟨#[48]⟩
def rs14_2 : ByteArray := ⟨#[100]⟩
def rs14_3 : ByteArray := ⟨#[100, 51]⟩
def rs14_4 : ByteArray := ⟨#[51]⟩
def rs14_5 : ByteArray := ⟨#[50, 102]⟩
def rowA14 : Array Value := #[.string rs14_0, .string rs14_1, .string rs14_2, .string rs14_3, .string rs14_4, .string rs14_5]
def rs15_0 : ByteArray := ⟨#[101, 102]⟩
def rs15_1 : ByteArray := ⟨#[55, 53]⟩
def rs15_2 : ByteArray := ⟨#[56]⟩
def rs15_3 : ByteArray := ⟨#[101, 53]⟩
def rs15_4 : ByteArray := ⟨#[48]⟩
def rs15_5 : ByteArray := ⟨#[50, 57]⟩
def rowA15 : Array Value := #[.string rs15_0, .string rs15_1, .string rs15_2, .string rs15_3, .string rs15_4, .string rs15_5]
set_option maxRecDepth 100000 in
set_option maxHeartbeats 1600000 in
theorem row_1 (w : World) : Calls Try.prog 36 #[.int .i64 1] w fun e w' => ∃ b, e = .returned (.slice (some ⟨b, 0, none⟩) 6 6) ∧ blk w' b = rowA1 ∧ Pre (b + 1) w'.heap.size ∧ Gr w w' := by
  go_enter Try.func36, Try.ntmps36
  go_wp2
  go_ret
  exact ⟨w.heap.size, rfl, by rw [blk_alloc_at _ _ _ _ _ rfl]; kernel_rfl, by simp [go_sem], (by repeat (first | exact Gr.refl _ | apply Gr.drewN | apply Gr.drew | apply Gr.alloc | apply Gr.gro))⟩
set_option maxRecDepth 100000 in
set_option maxHeartbeats 1600000 in
theorem row_2 (w : World) : Calls Try.prog 36 #[.int .i64 2] w fun e w' => ∃ b, e = .returned (.slice (some ⟨b, 0, none⟩) 6 6) ∧ blk w' b = rowA2 ∧ Pre (b + 1) w'.heap.size ∧ Gr w w' := by
  go_enter Try.func36, Try.ntmps36
  go_wp2
  go_ret
  exact ⟨w.heap.size, rfl, by rw [blk_alloc_at _ _ _ _ _ rfl]; kernel_rfl, by simp [go_sem], (by repeat (first | exact Gr.refl _ | apply Gr.drewN | apply Gr.drew | apply Gr.alloc | apply Gr.gro))⟩
set_option maxRecDepth 100000 in
set_option maxHeartbeats 1600000 in
theorem row_3 (w : World) : Calls Try.prog 36 #[.int .i64 3] w fun e w' => ∃ b, e = .returned (.slice (some ⟨b, 0, none⟩) 6 6) ∧ blk w' b = rowA3 ∧ Pre (b + 1) w'.heap.size ∧ Gr w w' := by
  go_enter Try.func36, Try.ntmps36
  go_wp2
  go_ret
  exact ⟨w.heap.size, rfl, by rw [blk_alloc_at _ _ _ _ _ rfl]; kernel_rfl, by simp [go_sem], (by repeat (first | exact Gr.refl _ | apply Gr.drewN | apply Gr.drew | apply Gr.alloc | apply Gr.gro))⟩
set_option maxRecDepth 100000 in
set_option maxHeartbeats 1600000 in
theorem row_4 (w : World) : Calls Try.prog 36 #[.int .i64 4] w fun e w' => ∃ b, e = .returned (.slice (some ⟨b, 0, none⟩) 6 6) ∧ blk w' b = rowA4 ∧ Pre (b + 1) w'.heap.size ∧ Gr w w' := by
  go_enter Try.func36, Try.ntmps36
  go_wp2
  go_ret
  exact ⟨w.heap.size, rfl, by rw [blk_alloc_at _ _ _ _ _ rfl]; kernel_rfl, by simp [go_sem], (by repeat (first | exact Gr.refl _ | apply Gr.drewN | apply Gr.drew | apply Gr.alloc | apply Gr.gro))⟩
set_option maxRecDepth 100000 in
set_option maxHeartbeats 1600000 in
theorem row_5 (w : World) : Calls Try.prog 36 #[.int .i64 5] w fun e w' => ∃ b, e = .returned (.slice (some ⟨b, 0, none⟩) 6 6) ∧ blk w' b = rowA5 ∧ Pre (b + 1) w'.heap.size ∧ Gr w w' := by
  go_enter Try.func36, Try.ntmps36
  go_wp2
  go_ret
  exact ⟨w.heap.size, rfl, by rw [blk_alloc_at _ _ _ _ _ rfl]; kernel_rfl, by simp [go_sem], (by repeat (first | exact Gr.refl _ | apply Gr.drewN | apply Gr.drew | apply Gr.alloc | apply Gr.gro))⟩
set_option maxRecDepth 100000 in
set_option maxHeartbeats 1600000 in
theorem row_6 (w : World) : Calls Try.prog 36 #[.int .i64 6] w fun e w' => ∃ b, e = .returned (.slice (some ⟨b, 0, none⟩) 6 6) ∧ blk w' b = rowA6 ∧ Pre (b + 1) w'.heap.size ∧ Gr w w' := by
  go_enter Try.func36, Try.ntmps36
  go_wp2
  go_ret
  exact ⟨w.heap.size, rfl, by rw [blk_alloc_at _ _ _ _ _ rfl]; kernel_rfl, by simp [go_sem], (by repeat (first | exact Gr.refl _ | apply Gr.drewN | apply Gr.drew | apply Gr.alloc | apply Gr.gro))⟩
set_option maxRecDepth 100000 in
set_option maxHeartbeats 1600000 in
theorem row_7 (w : World) : Calls Try.prog 36 #[.int .i64 7] w fun e w' => ∃ b, e = .returned (.slice (some ⟨b, 0, none⟩) 6 6) ∧ blk w' b = rowA7 ∧ Pre (b + 1) w'.heap.size ∧ Gr w w' := by
  go_enter Try.func36, Try.ntmps36
  go_wp2
  go_ret
  exact ⟨w.heap.size, rfl, by rw [blk_alloc_at _ _ _ _ _ rfl]; kernel_rfl, by simp [go_sem], (by repeat (first | exact Gr.refl _ | apply Gr.drewN | apply Gr.drew | apply Gr.alloc | apply Gr.gro))⟩
set_option maxRecDepth 100000 in
set_option maxHeartbeats 1600000 in
theorem row_8 (w : World) : Calls Try.prog 36 #[.int .i64 8] w fun e w' => ∃ b, e = .returned (.slice (some ⟨b, 0, none⟩) 6 6) ∧ blk w' b = rowA8 ∧ Pre (b + 1) w'.heap.size ∧ Gr w w' := by
  go_enter Try.func36, Try.ntmps36
  go_wp2
  go_ret
  exact ⟨w.heap.size, rfl, by rw [blk_alloc_at _ _ _ _ _ rfl]; kernel_rfl, by simp [go_sem], (by repeat (first | exact Gr.refl _ | apply Gr.drewN | apply Gr.drew | apply Gr.alloc | apply Gr.gro))⟩
set_option maxRecDepth 100000 in
set_option maxHeartbeats 1600000 in
theorem row_9 (w : World) : Calls Try.prog 36 #[.int .i64 9] w fun e w' => ∃ b, e = .returned (.slice (some ⟨b, 0, none⟩) 6 6) ∧ blk w' b = rowA9 ∧ Pre (b + 1) w'.heap.size ∧ Gr w w' := by
  go_enter Try.func36, Try.ntmps36
  go_wp2
  go_ret
  exact ⟨w.heap.size, rfl, by rw [blk_alloc_at _ _ _ _ _ rfl]; kernel_rfl, by simp [go_sem], (by repeat (first | exact Gr.refl _ | apply Gr.drewN | apply Gr.drew | apply Gr.alloc | apply Gr.gro))⟩
set_option maxRecDepth 100000 in
set_option maxHeartbeats 1600000 in
theorem row_10 (w : World) : Calls Try.prog 36 #[.int .i64 10] w fun e w' => ∃ b, e = .returned (.slice (some ⟨b, 0, none⟩) 6 6) ∧ blk w' b = rowA10 ∧ Pre (b + 1) w'.heap.size ∧ Gr w w' := by
  go_enter Try.func36, Try.ntmps36
  go_wp2
  go_ret
  exact ⟨w.heap.size, rfl, by rw [blk_alloc_at _ _ _ _ _ rfl]; kernel_rfl, by simp [go_sem], (by repeat (first | exact Gr.refl _ | apply Gr.drewN | apply Gr.drew | apply Gr.alloc | apply Gr.gro))⟩
set_option maxRecDepth 100000 in
set_option maxHeartbeats 1600000 in
theorem row_11 (w : World) : Calls Try.prog 36 #[.int .i64 11] w fun e w' => ∃ b, e = .returned (.slice (some ⟨b, 0, none⟩) 6 6) ∧ blk w' b = rowA11 ∧ Pre (b + 1) w'.heap.size ∧ Gr w w' := by
  go_enter Try.func36, Try.ntmps36
  go_wp2
  go_ret
  exact ⟨w.heap.size, rfl, by rw [blk_alloc_at _ _ _ _ _ rfl]; kernel_rfl, by simp [go_sem], (by repeat (first | exact Gr.refl _ | apply Gr.drewN | apply Gr.drew | apply Gr.alloc | apply Gr.gro))⟩
set_option maxRecDepth 100000 in
set_option maxHeartbeats 1600000 in
theorem row_12 (w : World) : Calls Try.prog 36 #[.int .i64 12] w fun e w' => ∃ b, e = .returned (.slice (some ⟨b, 0, none⟩) 6 6) ∧ blk w' b = rowA12 ∧ Pre (b + 1) w'.heap.size ∧ Gr w w' := by
  go_enter Try.func36, Try.ntmps36
  go_wp2
  go_ret
  exact ⟨w.heap.size, rfl, by rw [blk_alloc_at _ _ _ _ _ rfl]; kernel_rfl, by simp [go_sem], (by repeat (first | exact Gr.refl _ | apply Gr.drewN | apply Gr.drew | apply Gr.alloc | apply Gr.gro))⟩
set_option maxRecDepth 100000 in
set_option maxHeartbeats 1600000 in
theorem row_13 (w : World) : Calls Try.prog 36 #[.int .i64 13] w fun e w' => ∃ b, e = .returned (.slice (some ⟨b, 0, none⟩) 6 6) ∧ blk w' b = rowA13 ∧ Pre (b + 1) w'.heap.size ∧ Gr w w' := by
  go_enter Try.func36, Try.ntmps36
  go_wp2
  go_ret
  exact ⟨w.heap.size, rfl, by rw [blk_alloc_at _ _ _ _ _ rfl]; kernel_rfl, by simp [go_sem], (by repeat (first | exact Gr.refl _ | apply Gr.drewN | apply Gr.drew | apply Gr.alloc | apply Gr.gro))⟩
set_option maxRecDepth 100000 in
set_option maxHeartbeats 1600000 in
theorem row_14 (w : World) : Calls Try.prog 36 #[.int .i64 14] w fun e w' => ∃ b, e = .returned (.slice (some ⟨b, 0, none⟩) 6 6) ∧ blk w' b = rowA14 ∧ Pre (b + 1) w'.heap.size ∧ Gr w w' := by
  go_enter Try.func36, Try.ntmps36
  go_wp2
  go_ret
  exact ⟨w.heap.size, rfl, by rw [blk_alloc_at _ _ _ _ _ rfl]; kernel_rfl, by simp [go_sem], (by repeat (first | exact Gr.refl _ | apply Gr.drewN | apply Gr.drew | apply Gr.alloc | apply Gr.gro))⟩
set_option maxRecDepth 100000 in
set_option maxHeartbeats 1600000 in
theorem row_15 (w : World) : Calls Try.prog 36 #[.int .i64 15] w fun e w' => ∃ b, e = .returned (.slice (some ⟨b, 0, none⟩) 6 6) ∧ blk w' b = rowA15 ∧ Pre (b + 1) w'.heap.size ∧ Gr w w' := by
  go_enter Try.func36, Try.ntmps36
  go_wp2
  go_ret
  exact ⟨w.heap.size, rfl, by rw [blk_alloc_at _ _ _ _ _ rfl]; kernel_rfl, by simp [go_sem], (by repeat (first | exact Gr.refl _ | apply Gr.drewN | apply Gr.drew | apply Gr.alloc | apply Gr.gro))⟩
set_option maxRecDepth 100000 in
set_option maxHeartbeats 1600000 in
theorem row_no (x : Int) (h : x < 1 ∨ 15 < x) (w : World) : Calls Try.prog 36 #[.int .i64 x] w fun e w' => e = .returned (.slice none 0 0) ∧ Gr w w' := by
  have n1 : ¬ x = 1 := by omega
  have n2 : ¬ x = 2 := by omega
  have n3 : ¬ x = 3 := by omega
  have n4 : ¬ x = 4 := by omega
  have n5 : ¬ x = 5 := by omega
  have n6 : ¬ x = 6 := by omega
  have n7 : ¬ x = 7 := by omega
  have n8 : ¬ x = 8 := by omega
  have n9 : ¬ x = 9 := by omega
  have n10 : ¬ x = 10 := by omega
  have n11 : ¬ x = 11 := by omega
  have n12 : ¬ x = 12 := by omega
  have n13 : ¬ x = 13 := by omega
  have n14 : ¬ x = 14 := by omega
  have n15 : ¬ x = 15 := by omega
  clear h
  go_enter Try.func36, Try.ntmps36
  go_wp2
  go_ret
  exact ⟨rfl, (by repeat (first | exact Gr.refl _ | apply Gr.drewN | apply Gr.drew | apply Gr.alloc | apply Gr.gro))⟩

end Go.Proofs.Ytgmaalokfgdpaaa
