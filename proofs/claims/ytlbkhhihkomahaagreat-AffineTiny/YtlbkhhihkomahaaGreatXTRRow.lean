import Derived.Test.YtlbkhhihkomahaaGreatXTRSub
import Derived.Test.YtlbkhhihkomahaaGreatXTMixP
import Derived.Test.YtlbkhhihkomahaaGreatXTPC
import Derived.Test.YtlbkhhihkomahaaGreatXTNumO
namespace Go.Proofs.YtlbkhhihkomahaaGreat
open Go.RowKit
attribute [local go_sem ↓] loadNat_is loadArr_is loadWide_is loadArrW_is storeNat_is storeWide_is
attribute [local go_sem] loadNat loadArr loadWide loadArrW storeNat storeWide idxArr fold9 fold18 nw_size nw_elem pre_self pre_1 pre_2 pre_3 pre_4 pre_5 pre_6 pre_7 pre_8 pre_9 pre_10 pre_11 pre_12 pre_13 pre_14 pre_15 pre_16 pre_17 pre_18 pre_19 pre_20 pre_21 pre_22 pre_23 pre_24 pre_25 pre_26 pre_27 pre_28 pre_29 pre_30 pre_31 pre_32 pre_33 pre_34 pre_35 pre_36 pre_37 pre_38 pre_39 pre_40 gro_size gro_drew gro_drewN drew_gro drewN_gro gro_gro blk_gro frz_gro blk_drew frz_drew blk_drewN frz_drewN blk_alloc_at frz_alloc_at blk_alloc frz_alloc cell_gro frozen_gro cell_alloc_pre frozen_alloc_pre setCell_drewN alloc_drewN setBlk_drew setBlk_drewN setBlk_alloc_at setBlk_alloc setBlk_gro setCell_gro setCell_alloc_pre size_setBlk size_setCell
/-- A hexadecimal digit's value. -/
def hexD (c : Nat) : Nat := if 97 ≤ c then c - 87 else c - 48
/-- Is it one? -/
def hexOk (c : Nat) : Bool := (decide (48 ≤ c) && decide (c < 58)) || (decide (97 ≤ c) && decide (c < 103))
theorem hexD_lt (c : Nat) (h : hexOk c = true) : hexD c < 16 := by
  unfold hexOk at h
  unfold hexD
  simp at h
  split <;> omega
set_option maxRecDepth 100000 in
set_option maxHeartbeats 400000 in
theorem hexd_any (c : Nat) (h : hexOk c = true) (w : World) : Calls Tryz.prog 53 #[.int .u8 (c : Int)] w fun e w' => e = .returned (.int .u32 ((hexD c : Nat) : Int)) ∧ w' = w := by
  have h2 : (48 ≤ c ∧ c < 58) ∨ (97 ≤ c ∧ c < 103) := by
    unfold hexOk at h
    simp at h
    exact h
  rcases h2 with h2 | h2
  · have e : hexD c = c - 48 := by unfold hexD; rw [if_neg (by omega)]
    rw [e]
    have h97 : ¬ (97 : Int) ≤ (c : Int) := by omega
    have e2 : ((c : Int) - 48) % 256 = ((c - 48 : Nat) : Int) := by omega
    have e3 : ((c - 48 : Nat) : Int) % 4294967296 = ((c - 48 : Nat) : Int) := by omega
    have w2 : IntKind.u8.wrap ((c : Int) - 48) = ((c - 48 : Nat) : Int) := by rw [IntKind.wrap_u8]; exact e2
    have w3 : IntKind.u32.wrap ((c - 48 : Nat) : Int) = ((c - 48 : Nat) : Int) := by rw [IntKind.wrap_u32]; exact e3
    clear h h2 e
    generalize c - 48 = d at *
    go_enter Tryz.func53, Tryz.ntmps53
    go_wp2
    go_ret
    exact ⟨rfl, rfl⟩
  · have e : hexD c = c - 87 := by unfold hexD; rw [if_pos (by omega)]
    rw [e]
    have h97 : (97 : Int) ≤ (c : Int) := by omega
    have e2 : ((c : Int) - 97) % 256 = ((c - 97 : Nat) : Int) := by omega
    have e3 : ((c - 97 : Nat) : Int) % 4294967296 = ((c - 97 : Nat) : Int) := by omega
    have e4 : (((c - 97 : Nat) : Int) + 10) % 4294967296 = ((c - 87 : Nat) : Int) := by omega
    have w2 : IntKind.u8.wrap ((c : Int) - 97) = ((c - 97 : Nat) : Int) := by rw [IntKind.wrap_u8]; exact e2
    have w3 : IntKind.u32.wrap ((c - 97 : Nat) : Int) = ((c - 97 : Nat) : Int) := by rw [IntKind.wrap_u32]; exact e3
    have w4 : IntKind.u32.wrap (((c - 97 : Nat) : Int) + 10) = ((c - 87 : Nat) : Int) := by rw [IntKind.wrap_u32]; exact e4
    clear h h2 e
    generalize c - 87 = f at *
    generalize c - 97 = d at *
    go_enter Tryz.func53, Tryz.ntmps53
    go_wp2
    go_ret
    exact ⟨rfl, rfl⟩

end Go.Proofs.YtlbkhhihkomahaaGreat
namespace Go.Proofs.YtlbkhhihkomahaaGreat
open Go.RowKit
attribute [local go_sem ↓] loadNat_is loadArr_is loadWide_is loadArrW_is storeNat_is storeWide_is
attribute [local go_sem] loadNat loadArr loadWide loadArrW storeNat storeWide idxArr fold9 fold18 nw_size nw_elem pre_self pre_1 pre_2 pre_3 pre_4 pre_5 pre_6 pre_7 pre_8 pre_9 pre_10 pre_11 pre_12 pre_13 pre_14 pre_15 pre_16 pre_17 pre_18 pre_19 pre_20 pre_21 pre_22 pre_23 pre_24 pre_25 pre_26 pre_27 pre_28 pre_29 pre_30 pre_31 pre_32 pre_33 pre_34 pre_35 pre_36 pre_37 pre_38 pre_39 pre_40 gro_size gro_drew gro_drewN drew_gro drewN_gro gro_gro blk_gro frz_gro blk_drew frz_drew blk_drewN frz_drewN blk_alloc_at frz_alloc_at blk_alloc frz_alloc cell_gro frozen_gro cell_alloc_pre frozen_alloc_pre setCell_drewN alloc_drewN setBlk_drew setBlk_drewN setBlk_alloc_at setBlk_alloc setBlk_gro setCell_gro setCell_alloc_pre size_setBlk size_setCell
set_option maxRecDepth 100000 in
set_option maxHeartbeats 400000 in
theorem digit_nd (w : World) (b x N : Nat) (hb : blk w b = nd N x) (hx : x < pq N) (i : Nat) :
    Calls Tryz.prog 50 #[.slice (some ⟨b, 0, none⟩) N N, .int .i64 (i : Int)] w fun e w' => e = .returned (.int .u64 ((dg x i : Nat) : Int)) ∧ w' = w := by
  by_cases hi : i < N
  · have hi' : (i : Int) < (N : Int) := by omega
    have i0 : (0 : Int) ≤ (i : Int) := by omega
    have hg : w.cell? ⟨b, i, none⟩ = some (.int .u32 ((dg x i : Nat) : Int)) := by rw [cell_blk, hb]; exact nd_get N x i hi
    have hl := dg_lt x i
    clear hb hx
    go_enter Tryz.func50, Tryz.ntmps50
    go_wp2
    go_ret
    exact ⟨rfl, rfl⟩
  · have hi' : ¬ (i : Int) < (N : Int) := by omega
    have i0 : (0 : Int) ≤ (i : Int) := by omega
    have hz : dg x i = 0 := by
      unfold dg
      have hlt : x < pq i := Nat.lt_of_lt_of_le hx (show pq N ≤ pq i from Nat.pow_le_pow_right (by decide) (by omega))
      rw [Nat.div_eq_of_lt hlt]
    clear hb hx hi
    go_enter Tryz.func50, Tryz.ntmps50
    go_wp2
    go_ret
    exact ⟨rfl, rfl⟩
set_option maxRecDepth 100000 in
set_option maxHeartbeats 800000 in
theorem rshr0_nd (x N b : Nat) (w : World) (hb : blk w b = nd N x) (hp : Pre (b + 1) w.heap.size) (hx : x < pq N) (hN0 : 0 < N) (hN : N ≤ 50000) :
    Calls Tryz.prog 54 #[.slice (some ⟨b, 0, none⟩) N N, .int .i64 0] w (Nm x w) := by
  have CD : Hid (∀ (i : Int) (j : Nat) (v : World), i = (j : Int) → Gr w v → Calls Tryz.prog 50 #[.slice (some ⟨b, 0, none⟩) N N, .int .i64 i] v fun e w' => e = .returned (.int .u64 ((dg x j : Nat) : Int)) ∧ w' = v) := fun i j v e g => by
    subst e
    exact digit_nd v b x N (by rw [g.blk b hp]; exact hb) hx j
  have hmk : ∀ w, (Instr.makeSlice 29 (.int .i64 (N : Int)) (.int .i64 (N : Int))).run Tryz.prog w = .ok (.slice (some ⟨w.heap.size, 0, none⟩) N N) (w.alloc (.cells (nd N 0) 65)) := fun w => make_digits N (by omega) w
  have kb : Hid (Unit → N ≤ 100000) := fun _ => by omega
  have n1 : (N : Int) ≤ 50000 := by omega
  have n2 : ¬ (N : Int) ≤ 0 := by omega
  have HB : Hid (Unit → x < pq N) := fun _ => hx
  clear hb hp hx hN0 hN
  go_enter Tryz.func54, Tryz.ntmps54
  go_wp2
  clear hmk
  go_loopw [6] (fun i wr => ∃ j : Nat, j ≤ N ∧ i = .int .i64 (j : Int) ∧ wr = w.alloc (.cells (nd N (x % pq j)) 65)) (fun i _ => N - (intOf i).toNat)
  case atStart => exact ⟨0, by omega, rfl, by rw [pq_zero, Nat.mod_one]⟩
  case round =>
    obtain ⟨j, hj, rfl, rfl⟩ := hrel
    by_cases hlt : j < N
    · have j0 : (0 : Int) ≤ (j : Int) := by omega
      have j1 : (j : Int) < (N : Int) := by omega
      obtain ⟨T, S, f1, f2, f3⟩ := shr_round x j 0 0 (by decide)
      rw [Nat.mul_zero, Nat.add_zero, Nat.pow_zero, Nat.div_one] at f3
      rw [Nat.add_zero] at f1
      rw [Int.pow_zero, Int.ediv_one] at f2
      obtain ⟨V, hV⟩ : ∃ V, x % pq j = V := ⟨_, rfl⟩
      rw [hV]
      have gV := nd_get N V j hlt
      have f4 := dg_lt x j
      have f5 : ((dg x j : Nat) : Int) % 4294967296 = ((dg x j : Nat) : Int) := by omega
      have HS : Hid (Unit → (nd N V).setIfInBounds j (.int .u32 ((dg x j : Nat) : Int)) = nd N (x % pq (j + 1))) := fun _ => by
        rw [nd_set_top N V j _ f4 (by rw [← hV]; exact Nat.mod_lt _ (pq_pos j)), dmod_succ, hV]
      have hST : S = T := by omega
      subst hST
      clear hlt hV f4 f2
      go_wp2_with (first
        | (go_at_call 50; refine (CD.out _ j _ ?_ ?_).mono ?_; omega; exact (by repeat (first | exact Gr.refl _ | apply Gr.drewN | apply Gr.drew | apply Gr.alloc | apply Gr.gro)); rintro e w' ⟨rfl, rfl⟩)
        | (go_at_call 50; refine (CD.out _ (j + 1) _ ?_ ?_).mono ?_; omega; exact (by repeat (first | exact Gr.refl _ | apply Gr.drewN | apply Gr.drew | apply Gr.alloc | apply Gr.gro)); rintro e w' ⟨rfl, rfl⟩))
      go_roundw
      case rel => exact ⟨j + 1, by omega, by go_num, by rw [HS.out ()]⟩
      case measure => simp [intOf]; omega
    · have hjN : j = N := by omega
      have ji : ¬ (j : Int) < (N : Int) := by omega
      obtain ⟨V, hV⟩ : ∃ V, x % pq j = V := ⟨_, rfl⟩
      rw [hV]
      have HV : Hid (Unit → V = x) := fun _ => by rw [← hV, hjN, Nat.mod_eq_of_lt (HB.out ())]
      have HB' : Hid (Unit → V < pq N) := fun _ => by rw [HV.out ()]; exact HB.out ()
      clear hV hjN hlt hj
      go_wp2_with (go_at_call 47; refine (trim_nd _ _ N V (kb.out ()) (HB'.out ()) (by simp [go_sem])).mono ?_; rintro e w' ⟨rfl, rfl⟩)
      go_ret
      exact Nm.mk (HV.out ()) (HB'.out ()) (by simp [go_sem]) (by simp [go_sem]) (by repeat (first | exact Gr.refl _ | apply Gr.drewN | apply Gr.drew | apply Gr.alloc | apply Gr.gro))

end Go.Proofs.YtlbkhhihkomahaaGreat
namespace Go.Proofs.YtlbkhhihkomahaaGreat
open Go.RowKit
attribute [local go_sem ↓] loadNat_is loadArr_is loadWide_is loadArrW_is storeNat_is storeWide_is
attribute [local go_sem] loadNat loadArr loadWide loadArrW storeNat storeWide idxArr fold9 fold18 nw_size nw_elem pre_self pre_1 pre_2 pre_3 pre_4 pre_5 pre_6 pre_7 pre_8 pre_9 pre_10 pre_11 pre_12 pre_13 pre_14 pre_15 pre_16 pre_17 pre_18 pre_19 pre_20 pre_21 pre_22 pre_23 pre_24 pre_25 pre_26 pre_27 pre_28 pre_29 pre_30 pre_31 pre_32 pre_33 pre_34 pre_35 pre_36 pre_37 pre_38 pre_39 pre_40 gro_size gro_drew gro_drewN drew_gro drewN_gro gro_gro blk_gro frz_gro blk_drew frz_drew blk_drewN frz_drewN blk_alloc_at frz_alloc_at blk_alloc frz_alloc cell_gro frozen_gro cell_alloc_pre frozen_alloc_pre setCell_drewN alloc_drewN setBlk_drew setBlk_drewN setBlk_alloc_at setBlk_alloc setBlk_gro setCell_gro setCell_alloc_pre size_setBlk size_setCell
/-- The number that hexadecimal digits make. -/
def hexN (l : List UInt8) : Nat := l.foldl (fun a c => a * 16 + hexD c.toNat) 0
theorem hexN_snoc (l : List UInt8) (c : UInt8) : hexN (l ++ [c]) = hexN l * 16 + hexD c.toNat := by
  unfold hexN
  rw [List.foldl_append]
  rfl
theorem hexN_lt : ∀ (n : Nat) (l : List UInt8), l.length = n → (∀ c ∈ l, hexOk c.toNat = true) → hexN l < 2 ^ (4 * n)
  | 0, l, h, _ => by rw [List.length_eq_zero_iff.1 h]; exact Nat.one_pos
  | n + 1, l, h, hc => by
    have hne : l ≠ [] := fun e => by rw [e] at h; cases h
    have e := List.dropLast_concat_getLast hne
    have hl : l.dropLast.length = n := by rw [List.length_dropLast]; omega
    have h1 := hexN_lt n l.dropLast hl (fun c hm => hc c (List.dropLast_subset l hm))
    have h2 := hexD_lt _ (hc (l.getLast hne) (List.getLast_mem hne))
    rw [← e, hexN_snoc, show 4 * (n + 1) = 4 * n + 4 by omega, Nat.pow_add]
    have h3 : (2 : Nat) ^ 4 = 16 := rfl
    rw [h3]
    omega
theorem hpow32 (k : Nat) (hk : k ≤ 32) : 2 ^ (32 - k) * 2 ^ k = 4294967296 := by
  rw [← Nat.pow_add, show 32 - k + k = 32 by omega]
theorem hex_step (X P d : Nat) : (X * 16 + d) * 2 ^ (4 * P) = X * 2 ^ (4 * (P + 1)) + d * 2 ^ (4 * P) := by
  rw [Nat.add_mul, Nat.mul_assoc, show 4 * (P + 1) = 4 * P + 4 from by omega, Nat.pow_add 2 (4 * P), Nat.mul_comm (2 ^ (4 * P))]
theorem hex_place (b q r : Nat) : b * 2 ^ (4 * (8 * q + r)) = b * 2 ^ (4 * r) * pq q := by
  unfold pq
  rw [show 4 * (8 * q + r) = 4 * r + 32 * q from by omega, Nat.pow_add, Nat.mul_assoc]
theorem hex_dg (X q r : Nat) (hr : r < 8) : dg (X * 2 ^ (4 * (8 * q + r + 1))) q = (X % 2 ^ (32 - 4 * (r + 1))) * 2 ^ (4 * (r + 1)) := by
  unfold dg pq
  rw [show 4 * (8 * q + r + 1) = 4 * (r + 1) + 32 * q from by omega, Nat.pow_add, ← Nat.mul_assoc, Nat.mul_div_cancel _ (Nat.two_pow_pos _), ← hpow32 (4 * (r + 1)) (by omega), Nat.mul_mod_mul_right]
theorem hexd_lt (b r : Nat) (hb : b < 16) : b * 2 ^ (4 * r) < 2 ^ (4 * (r + 1)) := by
  rw [show 4 * (r + 1) = 4 + 4 * r from by omega, Nat.pow_add]
  exact Nat.mul_lt_mul_of_pos_right hb (Nat.two_pow_pos _)
theorem hex_lt (X q r b : Nat) (hr : r < 8) (hb : b < 16) : dg (X * 2 ^ (4 * (8 * q + r + 1))) q + b * 2 ^ (4 * r) < 4294967296 := by
  have h1 := hexd_lt b r hb
  rw [hex_dg X q r hr, ← hpow32 (4 * (r + 1)) (by omega)]
  have h2 := Nat.mod_lt X (Nat.two_pow_pos (32 - 4 * (r + 1)))
  have h3 : (X % 2 ^ (32 - 4 * (r + 1)) + 1) * 2 ^ (4 * (r + 1)) ≤ 2 ^ (32 - 4 * (r + 1)) * 2 ^ (4 * (r + 1)) := Nat.mul_le_mul_right _ h2
  rw [Nat.add_mul] at h3
  omega
theorem hex_set (N X q r b : Nat) (hr : r < 8) (hb : b < 16) :
    (nd N (X * 2 ^ (4 * (8 * q + r + 1)))).setIfInBounds q (Value.int .u32 ((dg (X * 2 ^ (4 * (8 * q + r + 1))) q + b * 2 ^ (4 * r) : Nat) : Int)) = nd N ((X * 16 + b) * 2 ^ (4 * (8 * q + r))) := by
  rw [nd_dset N _ q _ (hex_lt X q r b hr hb), hex_step, hex_place]
  have hp := dparts (X * 2 ^ (4 * (8 * q + r + 1))) q
  generalize X * 2 ^ (4 * (8 * q + r + 1)) = V at *
  refine congrArg (nd N) ?_
  unfold dset
  rw [Nat.add_mul]
  generalize V / pq (q + 1) * pq (q + 1) = z at *
  generalize b * 2 ^ (4 * r) * pq q = y at *
  generalize dg V q * pq q = t at *
  omega
/-- All that one round of Hex reckons. -/
theorem hex_round (N X q r d t V : Nat) (hr : r < 8) (hb : d < 16) (ht : t = 4 * r) (hV : V = X * 2 ^ (4 * (8 * q + r + 1))) :
    ∃ y o : Nat, IntKind.u32.wrap ((d : Int) * 2 ^ t) = (y : Int) ∧ bits BinOp.or IntKind.u32 ((dg V q : Nat) : Int) (y : Int) = (o : Int) ∧
      (nd N V).setIfInBounds q (Value.int .u32 (o : Int)) = nd N ((X * 16 + d) * 2 ^ (4 * (8 * q + r))) := by
  subst ht hV
  have h1 := hexd_lt d r hb
  have h2 : 2 ^ (4 * (r + 1)) ≤ 4294967296 := by
    rw [← hpow32 (4 * (r + 1)) (by omega)]
    exact Nat.le_mul_of_pos_left _ (Nat.two_pow_pos _)
  refine ⟨d * 2 ^ (4 * r), dg (X * 2 ^ (4 * (8 * q + r + 1))) q + d * 2 ^ (4 * r), ?_, ?_, hex_set N X q r d hr hb⟩
  · rw [IntKind.wrap_u32, int_pow, ← Int.natCast_mul]
    generalize d * 2 ^ (4 * r) = y at *
    omega
  · rw [bits_or32 _ _ (dg_lt _ _) (by omega), hex_dg X q r hr, or_add _ _ _ h1]
set_option maxRecDepth 100000 in
set_option maxHeartbeats 1600000 in
theorem rhex_any (s : ByteArray) (hs : s.size ≤ 1000) (hc : ∀ c ∈ s.data.toList, hexOk c.toNat = true) (w : World) : Calls Tryz.prog 35 #[.string s] w (Nm (hexN s.data.toList) w) := by
  have h : (s.size : Int) ≤ 1000 := by omega
  obtain ⟨m, hm⟩ : ∃ m, s.size / 8 = m := ⟨_, rfl⟩
  obtain ⟨N, hN⟩ : ∃ N, m + 1 = N := ⟨_, rfl⟩
  have HB : Hid (Unit → hexN s.data.toList < pq N) := fun _ => by
    have hl : s.data.toList.length = s.size := by simp
    refine Nat.lt_of_lt_of_le (hexN_lt _ _ hl hc) ?_
    unfold pq
    exact Nat.pow_le_pow_right (by decide) (by omega)
  have HC : Hid (Unit → ∀ k (h : k < s.size), hexOk s[k].toNat = true) := fun _ k h => hc _ (by
    have : s[k] = s.data.toList[k]'(by simpa using h) := rfl
    rw [this]
    exact List.getElem_mem _)
  have m1 : (s.size : Int) / 8 = (m : Int) := by omega
  have m2 : (m : Int) + 1 = (N : Int) := by omega
  have HM : Hid (Unit → s.size < 8 * N) := fun _ => by omega
  have n0 : (0 : Int) ≤ (s.size : Int) := by omega
  have mb : (m : Int) ≤ 200 := by omega
  have kb : Hid (Unit → 0 < N ∧ N ≤ 50000) := fun _ => by omega
  have hmk : ∀ w, (Instr.makeSlice 29 (.int .i64 (N : Int)) (.int .i64 (N : Int))).run Tryz.prog w = .ok (.slice (some ⟨w.heap.size, 0, none⟩) N N) (w.alloc (.cells (nd N 0) 65)) := fun w => make_digits N (by omega) w
  clear hm hN hc
  go_enter Tryz.func35, Tryz.ntmps35
  go_wp2
  clear hmk
  go_loopw [4, 5] (fun i _ wr => ∃ k X : Nat, k ≤ s.size ∧ i = .int .i64 (k : Int) ∧ Hid (Unit → hexN (s.data.toList.take k) = X) ∧ Hid (Gr w wr ∧ blk wr w.heap.size = nd N (X * 2 ^ (4 * (s.size - k))) ∧ frz wr w.heap.size = (0, 0) ∧ Pre (w.heap.size + 1) wr.heap.size)) (fun i _ _ => s.size - (intOf i).toNat)
  case atStart => exact ⟨0, 0, by omega, rfl, fun _ => rfl, (by repeat (first | exact Gr.refl _ | apply Gr.drewN | apply Gr.drew | apply Gr.alloc | apply Gr.gro)), by simp [go_sem], by simp [go_sem], by simp [go_sem]⟩
  case round =>
    obtain ⟨k, X, hk, rfl, HX, HW⟩ := hrel
    by_cases hlt : k < s.size
    · obtain ⟨P, hP⟩ : ∃ P, s.size = k + (P + 1) := ⟨s.size - k - 1, by omega⟩
      obtain ⟨q, r, hq, hr⟩ : ∃ q r, P = 8 * q + r ∧ r < 8 := ⟨P / 8, P % 8, by omega, by omega⟩
      obtain ⟨t, ht⟩ : ∃ t, t = 4 * r := ⟨_, rfl⟩
      have e1 : (s.size : Int) - 1 - (k : Int) = (P : Int) := by omega
      have e2 : (P : Int) / 8 = (q : Int) := by omega
      have e3 : (P : Int) % 8 = (r : Int) := by omega
      have e4 : (r : Int) * 4 = (t : Int) := by omega
      have d2 : (P : Int).tdiv 8 = (q : Int) := by rw [Int.tdiv_eq_ediv_of_nonneg (by omega)]; exact e2
      have d3 : (P : Int).tmod 8 = (r : Int) := by rw [Int.tmod_eq_emod_of_nonneg (by omega)]; exact e3
      have w2 : IntKind.i64.wrap (q : Int) = (q : Int) := by rw [IntKind.wrap_i64]; omega
      have w3 : IntKind.i64.wrap (r : Int) = (r : Int) := by rw [IntKind.wrap_i64]; omega
      have w4 : IntKind.i64.wrap (t : Int) = (t : Int) := by rw [IntKind.wrap_i64]; omega
      have t0 : (0 : Int) ≤ (t : Int) := by omega
      have t1 : (t : Int) < 32 := by omega
      have q0 : (0 : Int) ≤ (q : Int) := by omega
      have qN : q < N := by have := HM.out (); omega
      have q1 : (q : Int) < (N : Int) := by omega
      have p0 : (0 : Int) ≤ (P : Int) := by omega
      have k0 : (0 : Int) ≤ (k : Int) := by omega
      have k1 : (k : Int) < (s.size : Int) := by omega
      obtain ⟨V, hV⟩ : ∃ V, V = X * 2 ^ (4 * (s.size - k)) := ⟨_, rfl⟩
      rw [← hV] at HW
      have gV := nd_get N V q qN
      have hV2 : V = X * 2 ^ (4 * (8 * q + r + 1)) := by rw [hV, show s.size - k = 8 * q + r + 1 by omega]
      obtain ⟨d, hd0⟩ : ∃ d, hexD s[k].toNat = d := ⟨_, rfl⟩
      have hd16 : d < 16 := by rw [← hd0]; exact hexD_lt _ (HC.out () k hlt)
      have HD : Hid (∀ w, Calls Tryz.prog 53 #[.int .u8 ((s[k].toNat : Nat) : Int)] w fun e w' => e = .returned (.int .u32 (d : Int)) ∧ w' = w) := fun w => hd0 ▸ hexd_any s[k].toNat (HC.out () k hlt) w
      obtain ⟨y, o, f2, f3, f4⟩ := hex_round N X q r d t V hr hd16 ht hV2
      obtain ⟨V2, hV3⟩ : ∃ V2, (X * 16 + d) * 2 ^ (4 * (s.size - (k + 1))) = V2 := ⟨_, rfl⟩
      have HS : Hid (Unit → (nd N V).setIfInBounds q (Value.int .u32 (o : Int)) = nd N V2) := fun _ => by
        rw [f4, ← hV3, show s.size - (k + 1) = 8 * q + r by omega]
      have HX2 : Hid (Unit → hexN (s.data.toList.take (k + 1)) = X * 16 + d) := fun _ => by rw [take_snoc s k hlt, hexN_snoc, HX.out (), hd0]
      obtain ⟨G, hWb, hWf, hWs⟩ := HW.out
      have hsz : s.data.size = s.size := rfl
      clear hV hV2 ht hq hr hs hk hP f4 hd0 hd16
      go_wp2
      refine wp_region_mix (by kernel_rfl) (by kernel_rfl) (RO2 _ (fun i => match i with | 0 => some (.slice (some ⟨w.heap.size, 0, none⟩) N N) | 1 => some (.int .i64 (P : Int)) | 2 => some (.int .i64 (q : Int)) | 3 => some (.slice (some ⟨w.heap.size, 0, none⟩) N N) | 4 => some (.int .i64 (P : Int)) | 5 => some (.int .i64 (q : Int)) | 6 => some (.pointer (some ⟨w.heap.size, q, none⟩)) | 7 => some (.int .u32 ((dg V q : Nat) : Int)) | 8 => some (.string s) | 9 => some (.int .i64 (k : Int)) | 10 => some (.int .u8 ((s[k].toNat : Nat) : Int)) | 11 => some (.int .u32 (d : Int)) | 12 => some (.int .i64 (P : Int)) | 13 => some (.int .i64 (r : Int)) | 14 => some (.int .i64 (t : Int)) | 15 => some (.int .u32 (y : Int)) | 16 => some (.int .u32 (o : Int)) | 17 => some (.pointer (some ⟨w.heap.size, q, none⟩)) | _ => none) 18 w.heap.size (nd N V2)) (RO2.start _ _ _ _ _ _ _) ?hs ?hf
      case hs =>
        intro listed vals a1 v1 i o2 hz hR hF ho hl hd
        have hi : i < 19 := by simpa using (Array.getElem?_eq_some_iff.1 ho).1
        have hil : i < listed.size := by rw [hz]; simpa using hi
        obtain rfl | rfl | rfl | rfl | rfl | rfl | rfl | rfl | rfl | rfl | rfl | rfl | rfl | rfl | rfl | rfl | rfl | rfl | rfl : i = 0 ∨ i = 1 ∨ i = 2 ∨ i = 3 ∨ i = 4 ∨ i = 5 ∨ i = 6 ∨ i = 7 ∨ i = 8 ∨ i = 9 ∨ i = 10 ∨ i = 11 ∨ i = 12 ∨ i = 13 ∨ i = 14 ∨ i = 15 ∨ i = 16 ∨ i = 17 ∨ i = 18 := by omega
        · obtain rfl := Option.some.inj ho
          have f0 := hF.old (s := 3) (v := .slice (some ⟨w.heap.size, 0, none⟩) N N) (by kernel_rfl) rfl
          exact wp_val (.slice (some ⟨w.heap.size, 0, none⟩) N N) (by simp [go_sem, f0]) ⟨_, rfl, RO2.quiet 0 _ hil rfl (by decide) (Gr.refl _) hR⟩
        · obtain rfl := Option.some.inj ho
          have f0 := hF.old (s := 5) (v := .int .i64 (P : Int)) (by kernel_rfl) rfl
          exact wp_val (.int .i64 (P : Int)) (by simp [go_sem, f0]) ⟨_, rfl, RO2.quiet 1 _ hil rfl (by decide) (Gr.refl _) hR⟩
        · obtain rfl := Option.some.inj ho
          have l0 := hd ⟨1, .data⟩ (by simp) rfl
          have f0 := hF.at (s := 23) (i := 1) (by kernel_rfl) (by simp) l0
          rw [hR.1.1 1 _ l0 rfl] at f0
          exact wp_val (.int .i64 (q : Int)) (by simp [go_sem, *]) ⟨_, rfl, RO2.quiet 2 _ hil rfl (by decide) (Gr.refl _) hR⟩
        · obtain rfl := Option.some.inj ho
          have f0 := hF.old (s := 3) (v := .slice (some ⟨w.heap.size, 0, none⟩) N N) (by kernel_rfl) rfl
          exact wp_val (.slice (some ⟨w.heap.size, 0, none⟩) N N) (by simp [go_sem, f0]) ⟨_, rfl, RO2.quiet 3 _ hil rfl (by decide) (Gr.refl _) hR⟩
        · obtain rfl := Option.some.inj ho
          have f0 := hF.old (s := 5) (v := .int .i64 (P : Int)) (by kernel_rfl) rfl
          exact wp_val (.int .i64 (P : Int)) (by simp [go_sem, f0]) ⟨_, rfl, RO2.quiet 4 _ hil rfl (by decide) (Gr.refl _) hR⟩
        · obtain rfl := Option.some.inj ho
          have l0 := hd ⟨4, .data⟩ (by simp) rfl
          have f0 := hF.at (s := 26) (i := 4) (by kernel_rfl) (by simp) l0
          rw [hR.1.1 4 _ l0 rfl] at f0
          exact wp_val (.int .i64 (q : Int)) (by simp [go_sem, *]) ⟨_, rfl, RO2.quiet 5 _ hil rfl (by decide) (Gr.refl _) hR⟩
        · obtain rfl := Option.some.inj ho
          have l0 := hd ⟨3, .data⟩ (by simp) rfl
          have f0 := hF.at (s := 25) (i := 3) (by kernel_rfl) (by simp) l0
          rw [hR.1.1 3 _ l0 rfl] at f0
          have l1 := hd ⟨5, .data⟩ (by simp) rfl
          have f1 := hF.at (s := 27) (i := 5) (by kernel_rfl) (by simp) l1
          rw [hR.1.1 5 _ l1 rfl] at f1
          exact wp_val (.pointer (some ⟨w.heap.size, q, none⟩)) (by simp [go_sem, *]) ⟨_, rfl, RO2.quiet 6 _ hil rfl (by decide) (Gr.refl _) hR⟩
        · obtain rfl := Option.some.inj ho
          have l0 := hd ⟨6, .data⟩ (by simp) rfl
          have f0 := hF.at (s := 28) (i := 6) (by kernel_rfl) (by simp) l0
          rw [hR.1.1 6 _ l0 rfl] at f0
          have hg := hR.ahead (i := 7) (by decide) hl
          have hc : v1.cell? ⟨w.heap.size, q, none⟩ = some (.int .u32 ((dg V q : Nat) : Int)) := by rw [cell_blk, hg.blk _ hWs, hWb]; exact gV
          exact wp_val (.int .u32 ((dg V q : Nat) : Int)) (by simp [go_sem, f0, hc]) ⟨_, rfl, RO2.quiet 7 _ hil rfl (by decide) (Gr.refl _) hR⟩
        · obtain rfl := Option.some.inj ho
          have f0 := hF.old (s := 0) (v := .string s) (by kernel_rfl) rfl
          exact wp_val (.string s) (by simp [go_sem, f0]) ⟨_, rfl, RO2.quiet 8 _ hil rfl (by decide) (Gr.refl _) hR⟩
        · obtain rfl := Option.some.inj ho
          have f0 := hF.old (s := 4) (v := .int .i64 (k : Int)) (by kernel_rfl) rfl
          exact wp_val (.int .i64 (k : Int)) (by simp [go_sem, f0]) ⟨_, rfl, RO2.quiet 9 _ hil rfl (by decide) (Gr.refl _) hR⟩
        · obtain rfl := Option.some.inj ho
          have l0 := hd ⟨8, .data⟩ (by simp) rfl
          have f0 := hF.at (s := 30) (i := 8) (by kernel_rfl) (by simp) l0
          rw [hR.1.1 8 _ l0 rfl] at f0
          have l1 := hd ⟨9, .data⟩ (by simp) rfl
          have f1 := hF.at (s := 31) (i := 9) (by kernel_rfl) (by simp) l1
          rw [hR.1.1 9 _ l1 rfl] at f1
          exact wp_val (.int .u8 ((s[k].toNat : Nat) : Int)) (by simp [go_sem, *]) ⟨_, rfl, RO2.quiet 10 _ hil rfl (by decide) (Gr.refl _) hR⟩
        · obtain rfl := Option.some.inj ho
          have l0 := hd ⟨10, .data⟩ (by simp) rfl
          have f0 := hF.at (s := 32) (i := 10) (by kernel_rfl) (by simp) l0
          rw [hR.1.1 10 _ l0 rfl] at f0
          exact wp_ret (.int .u32 (d : Int)) (by simp [go_sem, f0]) ((HD.out _).mono fun e w' h => ⟨h.1, h.2 ▸ Gr.refl _⟩) (fun w2 hg => ⟨_, rfl, RO2.quiet 11 _ hil rfl (by decide) hg hR⟩)
        · obtain rfl := Option.some.inj ho
          have f0 := hF.old (s := 5) (v := .int .i64 (P : Int)) (by kernel_rfl) rfl
          exact wp_val (.int .i64 (P : Int)) (by simp [go_sem, f0]) ⟨_, rfl, RO2.quiet 12 _ hil rfl (by decide) (Gr.refl _) hR⟩
        · obtain rfl := Option.some.inj ho
          have l0 := hd ⟨12, .data⟩ (by simp) rfl
          have f0 := hF.at (s := 34) (i := 12) (by kernel_rfl) (by simp) l0
          rw [hR.1.1 12 _ l0 rfl] at f0
          exact wp_val (.int .i64 (r : Int)) (by simp [go_sem, *]) ⟨_, rfl, RO2.quiet 13 _ hil rfl (by decide) (Gr.refl _) hR⟩
        · obtain rfl := Option.some.inj ho
          have l0 := hd ⟨13, .data⟩ (by simp) rfl
          have f0 := hF.at (s := 35) (i := 13) (by kernel_rfl) (by simp) l0
          rw [hR.1.1 13 _ l0 rfl] at f0
          exact wp_val (.int .i64 (t : Int)) (by simp [go_sem, *]) ⟨_, rfl, RO2.quiet 14 _ hil rfl (by decide) (Gr.refl _) hR⟩
        · obtain rfl := Option.some.inj ho
          have l0 := hd ⟨11, .data⟩ (by simp) rfl
          have f0 := hF.at (s := 33) (i := 11) (by kernel_rfl) (by simp) l0
          rw [hR.1.1 11 _ l0 rfl] at f0
          have l1 := hd ⟨14, .data⟩ (by simp) rfl
          have f1 := hF.at (s := 36) (i := 14) (by kernel_rfl) (by simp) l1
          rw [hR.1.1 14 _ l1 rfl] at f1
          exact wp_val (.int .u32 (y : Int)) (by simp [go_sem, *]) ⟨_, rfl, RO2.quiet 15 _ hil rfl (by decide) (Gr.refl _) hR⟩
        · obtain rfl := Option.some.inj ho
          have l0 := hd ⟨7, .data⟩ (by simp) rfl
          have f0 := hF.at (s := 29) (i := 7) (by kernel_rfl) (by simp) l0
          rw [hR.1.1 7 _ l0 rfl] at f0
          have l1 := hd ⟨15, .data⟩ (by simp) rfl
          have f1 := hF.at (s := 37) (i := 15) (by kernel_rfl) (by simp) l1
          rw [hR.1.1 15 _ l1 rfl] at f1
          exact wp_val (.int .u32 (o : Int)) (by simp [go_sem, *]) ⟨_, rfl, RO2.quiet 16 _ hil rfl (by decide) (Gr.refl _) hR⟩
        · obtain rfl := Option.some.inj ho
          have l0 := hd ⟨0, .data⟩ (by simp) rfl
          have f0 := hF.at (s := 22) (i := 0) (by kernel_rfl) (by simp) l0
          rw [hR.1.1 0 _ l0 rfl] at f0
          have l1 := hd ⟨2, .data⟩ (by simp) rfl
          have f1 := hF.at (s := 24) (i := 2) (by kernel_rfl) (by simp) l1
          rw [hR.1.1 2 _ l1 rfl] at f1
          exact wp_val (.pointer (some ⟨w.heap.size, q, none⟩)) (by simp [go_sem, *]) ⟨_, rfl, RO2.quiet 17 _ hil rfl (by decide) (Gr.refl _) hR⟩
        · obtain rfl := Option.some.inj ho
          have l0 := hd ⟨17, .data⟩ (by simp) rfl
          have f0 := hF.at (s := 39) (i := 17) (by kernel_rfl) (by simp) l0
          rw [hR.1.1 17 _ l0 rfl] at f0
          have l1 := hd ⟨16, .data⟩ (by simp) rfl
          have f1 := hF.at (s := 38) (i := 16) (by kernel_rfl) (by simp) l1
          rw [hR.1.1 16 _ l1 rfl] at f1
          have hg := hR.1.2.1 hl
          have hc : v1.cell? ⟨w.heap.size, q, none⟩ = some (.int .u32 ((dg V q : Nat) : Int)) := by rw [cell_blk, hg.blk _ hWs, hWb]; exact gV
          have hz0 : v1.frozen? ⟨w.heap.size, q, none⟩ = false := frozen_frz _ _ _ (by rw [hg.frz _ hWs]; exact hWf)
          exact wp_skip (w' := setBlk v1 w.heap.size (nd N V2)) (by rw [← HS.out (), ← hWb, ← hg.blk _ hWs, ← setCell_setBlk]; simp [go_sem, f0, f1, hc, hz0]) ⟨undef, rfl, RO2.store _ hil hl rfl (fun j hj => by
            obtain rfl | rfl | rfl | rfl | rfl | rfl | rfl | rfl | rfl | rfl | rfl | rfl | rfl | rfl | rfl | rfl | rfl | rfl : j = 0 ∨ j = 1 ∨ j = 2 ∨ j = 3 ∨ j = 4 ∨ j = 5 ∨ j = 6 ∨ j = 7 ∨ j = 8 ∨ j = 9 ∨ j = 10 ∨ j = 11 ∨ j = 12 ∨ j = 13 ∨ j = 14 ∨ j = 15 ∨ j = 16 ∨ j = 17 := by omega
            all_goals exact on_of hd _ (by kernel_rfl)) hR⟩
      case hf =>
        intro listed vals a1 v1 hall hR hF
        obtain ⟨vM, g1, g2⟩ := hR.1.2.2 (hall 18 (by simp))
        have hV := hR.1.1
        have x0 := hV 0 _ (hall 0 (by simp)) rfl
        have x1 := hV 1 _ (hall 1 (by simp)) rfl
        have x2 := hV 2 _ (hall 2 (by simp)) rfl
        have x3 := hV 3 _ (hall 3 (by simp)) rfl
        have x4 := hV 4 _ (hall 4 (by simp)) rfl
        have x5 := hV 5 _ (hall 5 (by simp)) rfl
        have x6 := hV 6 _ (hall 6 (by simp)) rfl
        have x7 := hV 7 _ (hall 7 (by simp)) rfl
        have x8 := hV 8 _ (hall 8 (by simp)) rfl
        have x9 := hV 9 _ (hall 9 (by simp)) rfl
        have x10 := hV 10 _ (hall 10 (by simp)) rfl
        have x11 := hV 11 _ (hall 11 (by simp)) rfl
        have x12 := hV 12 _ (hall 12 (by simp)) rfl
        have x13 := hV 13 _ (hall 13 (by simp)) rfl
        have x14 := hV 14 _ (hall 14 (by simp)) rfl
        have x15 := hV 15 _ (hall 15 (by simp)) rfl
        have x16 := hV 16 _ (hall 16 (by simp)) rfl
        have x17 := hV 17 _ (hall 17 (by simp)) rfl
        rw [hF.final (by kernel_rfl) hall]
        simp only [putFrom, Act.put, List.setIfInBounds_toArray, List.set_cons_zero, List.set_cons_succ, x0, x1, x2, x3, x4, x5, x6, x7, x8, x9, x10, x11, x12, x13, x14, x15, x16, x17]
        clear hV hR hF hall x0 x1 x2 x3 x4 x5 x6 x7 x8 x9 x10 x11 x12 x13 x14 x15 x16 x17
        have c1 : blk v1 w.heap.size = nd N V2 := by
          rw [g2.blk _ (by rw [size_setBlk]; exact Nat.lt_of_lt_of_le hWs g1.below.size), blk_setBlk _ _ _ (by rw [g1.blk _ hWs, hWb, nd_size]; omega)]
        have c2 : frz v1 w.heap.size = (0, 0) := by
          rw [g2.frz _ (by rw [size_setBlk]; exact Nat.lt_of_lt_of_le hWs g1.below.size), frz_setBlk, g1.frz _ hWs]; exact hWf
        have c3 : Pre (w.heap.size + 1) v1.heap.size := Nat.le_trans hWs (Nat.le_trans g1.below.size (by have := g2.below.size; rw [size_setBlk] at this; exact this))
        have G2 : Gr w v1 := (gr_setNew (G.trans g1) (Nat.le_refl _)).trans g2
        clear hWb hWf hWs G g1 g2
        go_wp2
        go_roundw
        case rel => exact ⟨k + 1, X * 16 + d, by omega, by go_num, HX2, G2, by rw [hV3]; exact c1, c2, c3⟩
        case measure => simp [intOf]; omega
    · have hks : Hid (Unit → k = s.size) := fun _ => by omega
      obtain ⟨V, hV⟩ : ∃ V, V = X * 2 ^ (4 * (s.size - k)) := ⟨_, rfl⟩
      rw [← hV] at HW
      have HF : Hid (Unit → V = hexN s.data.toList) := fun _ => by
        rw [hV, hks.out (), Nat.sub_self, Nat.mul_zero, Nat.pow_zero, Nat.mul_one, ← HX.out (), hks.out (), List.take_of_length_le (by simp)]
      have HV : Hid (Unit → V < pq N) := fun _ => by rw [HF.out ()]; exact HB.out ()
      have hki : ¬ (k : Int) < (s.size : Int) := by omega
      obtain ⟨G, hWb, hWf, hWs⟩ := HW.out
      have HR : Hid (Unit → Calls Tryz.prog 54 #[.slice (some ⟨w.heap.size, 0, none⟩) N N, .int .i64 0] wr (Nm V wr)) := fun _ => rshr0_nd V N w.heap.size wr hWb hWs (HV.out ()) (kb.out ()).1 (kb.out ()).2
      clear hV hlt hk hs
      go_wp2_with (go_at_call 54; refine (HR.out ()).mono ?_; rintro e w' ⟨p1, n1, rfl, S1, G1⟩)
      go_ret
      rw [← HF.out ()]
      exact ⟨p1, n1, rfl, S1, G.trans G1⟩

end Go.Proofs.YtlbkhhihkomahaaGreat
namespace Go.Proofs.YtlbkhhihkomahaaGreat
open Go.RowKit
def bslQ (t : TypeId) (n : Nat) (p : Array (Nat × Value)) : Sem Value := Instr.buildSlice t n p
theorem bslQ_is (n : Nat) (p : Array (Nat × Value)) : Instr.buildSlice 70 n p = bslQ 70 n p := rfl
theorem bslQ6 (a b c d e f : ByteArray) (w : World) : (bslQ 70 6 #[(0, .string a), (1, .string b), (2, .string c), (3, .string d), (4, .string e), (5, .string f)]).run Tryz.prog w = .ok (.slice (some ⟨w.heap.size, 0, none⟩) 6 6) (w.alloc (.cells #[.string a, .string b, .string c, .string d, .string e, .string f] 9)) := by kernel_rfl
attribute [local go_sem ↓] loadNat_is loadArr_is loadWide_is loadArrW_is storeNat_is storeWide_is
attribute [local go_sem] loadNat loadArr loadWide loadArrW storeNat storeWide idxArr fold9 fold18 nw_size nw_elem pre_self pre_1 pre_2 pre_3 pre_4 pre_5 pre_6 pre_7 pre_8 pre_9 pre_10 pre_11 pre_12 pre_13 pre_14 pre_15 pre_16 pre_17 pre_18 pre_19 pre_20 pre_21 pre_22 pre_23 pre_24 pre_25 pre_26 pre_27 pre_28 pre_29 pre_30 pre_31 pre_32 pre_33 pre_34 pre_35 pre_36 pre_37 pre_38 pre_39 pre_40 gro_size gro_drew gro_drewN drew_gro drewN_gro gro_gro blk_gro frz_gro blk_drew frz_drew blk_drewN frz_drewN blk_alloc_at frz_alloc_at blk_alloc frz_alloc cell_gro frozen_gro cell_alloc_pre frozen_alloc_pre setCell_drewN alloc_drewN setBlk_drew setBlk_drewN setBlk_alloc_at setBlk_alloc setBlk_gro setCell_gro setCell_alloc_pre size_setBlk size_setCell
attribute [local go_sem ↓] bslQ_is
attribute [local go_sem] bslQ6
/-- A number as n hexadecimal digits. -/
def hxB (X n : Nat) : ByteArray := ⟨((List.range n).map fun i => UInt8.ofNat (let d := X / 16 ^ (n - 1 - i) % 16; if d < 10 then 48 + d else 87 + d)).toArray⟩
def rs1_0 := hxB (pN 1) 48
def rs1_1 : ByteArray := ⟨#[45]⟩
def rs1_2 := hxB (bN 1) 48
def rs1_3 := hxB (oN 1) 48
def rs1_4 := hxB (xN 1) 48
def rs1_5 := hxB (yN 1) 48
def rowA1 : Array Value := #[.string rs1_0, .string rs1_1, .string rs1_2, .string rs1_3, .string rs1_4, .string rs1_5]
def rs2_0 := hxB (pN 2) 56
def rs2_1 : ByteArray := ⟨#[45]⟩
def rs2_2 := hxB (bN 2) 56
def rs2_3 := hxB (oN 2) 56
def rs2_4 := hxB (xN 2) 56
def rs2_5 := hxB (yN 2) 56
def rowA2 : Array Value := #[.string rs2_0, .string rs2_1, .string rs2_2, .string rs2_3, .string rs2_4, .string rs2_5]
def rs3_0 := hxB (pN 3) 64
def rs3_1 : ByteArray := ⟨#[45]⟩
def rs3_2 := hxB (bN 3) 64
def rs3_3 := hxB (oN 3) 64
def rs3_4 := hxB (xN 3) 64
def rs3_5 := hxB (yN 3) 64
def rowA3 : Array Value := #[.string rs3_0, .string rs3_1, .string rs3_2, .string rs3_3, .string rs3_4, .string rs3_5]
def rs4_0 := hxB (pN 4) 96
def rs4_1 : ByteArray := ⟨#[45]⟩
def rs4_2 := hxB (bN 4) 96
def rs4_3 := hxB (oN 4) 96
def rs4_4 := hxB (xN 4) 96
def rs4_5 := hxB (yN 4) 96
def rowA4 : Array Value := #[.string rs4_0, .string rs4_1, .string rs4_2, .string rs4_3, .string rs4_4, .string rs4_5]
def rs5_0 := hxB (pN 5) 132
def rs5_1 : ByteArray := ⟨#[45]⟩
def rs5_2 := hxB (bN 5) 132
def rs5_3 := hxB (oN 5) 132
def rs5_4 := hxB (xN 5) 132
def rs5_5 := hxB (yN 5) 132
def rowA5 : Array Value := #[.string rs5_0, .string rs5_1, .string rs5_2, .string rs5_3, .string rs5_4, .string rs5_5]
def rs6_0 := hxB (pN 6) 64
def rs6_1 := hxB (aN 6) 1
def rs6_2 := hxB (bN 6) 1
def rs6_3 := hxB (oN 6) 64
def rs6_4 := hxB (xN 6) 64
def rs6_5 := hxB (yN 6) 64
def rowA6 : Array Value := #[.string rs6_0, .string rs6_1, .string rs6_2, .string rs6_3, .string rs6_4, .string rs6_5]
def rs7_0 := hxB (pN 7) 40
def rs7_1 := hxB (aN 7) 40
def rs7_2 := hxB (bN 7) 40
def rs7_3 := hxB (oN 7) 40
def rs7_4 := hxB (xN 7) 40
def rs7_5 := hxB (yN 7) 40
def rowA7 : Array Value := #[.string rs7_0, .string rs7_1, .string rs7_2, .string rs7_3, .string rs7_4, .string rs7_5]
def rs8_0 := hxB (pN 8) 56
def rs8_1 := hxB (aN 8) 56
def rs8_2 := hxB (bN 8) 56
def rs8_3 := hxB (oN 8) 56
def rs8_4 := hxB (xN 8) 56
def rs8_5 := hxB (yN 8) 56
def rowA8 : Array Value := #[.string rs8_0, .string rs8_1, .string rs8_2, .string rs8_3, .string rs8_4, .string rs8_5]
def rs9_0 := hxB (pN 9) 64
def rs9_1 := hxB (aN 9) 64
def rs9_2 := hxB (bN 9) 64
def rs9_3 := hxB (oN 9) 64
def rs9_4 := hxB (xN 9) 64
def rs9_5 := hxB (yN 9) 64
def rowA9 : Array Value := #[.string rs9_0, .string rs9_1, .string rs9_2, .string rs9_3, .string rs9_4, .string rs9_5]
def rs10_0 := hxB (pN 10) 80
def rs10_1 := hxB (aN 10) 80
def rs10_2 := hxB (bN 10) 80
def rs10_3 := hxB (oN 10) 80
def rs10_4 := hxB (xN 10) 80
def rs10_5 := hxB (yN 10) 80
def rowA10 : Array Value := #[.string rs10_0, .string rs10_1, .string rs10_2, .string rs10_3, .string rs10_4, .string rs10_5]
def rs11_0 := hxB (pN 11) 96
def rs11_1 := hxB (aN 11) 96
def rs11_2 := hxB (bN 11) 96
def rs11_3 := hxB (oN 11) 96
def rs11_4 := hxB (xN 11) 96
def rs11_5 := hxB (yN 11) 96
def rowA11 : Array Value := #[.string rs11_0, .string rs11_1, .string rs11_2, .string rs11_3, .string rs11_4, .string rs11_5]
def rs12_0 := hxB (pN 12) 128
def rs12_1 := hxB (aN 12) 128
def rs12_2 := hxB (bN 12) 128
def rs12_3 := hxB (oN 12) 128
def rs12_4 := hxB (xN 12) 128
def rs12_5 := hxB (yN 12) 128
def rowA12 : Array Value := #[.string rs12_0, .string rs12_1, .string rs12_2, .string rs12_3, .string rs12_4, .string rs12_5]
def rs13_0 := hxB (pN 13) 2
def rs13_1 : ByteArray := ⟨#[45]⟩
def rs13_2 := hxB (bN 13) 2
def rs13_3 := hxB (oN 13) 2
def rs13_4 := hxB (xN 13) 1
def rs13_5 := hxB (yN 13) 2
def rowA13 : Array Value := #[.string rs13_0, .string rs13_1, .string rs13_2, .string rs13_3, .string rs13_4, .string rs13_5]
def rs14_0 := hxB (pN 14) 2
def rs14_1 := hxB (aN 14) 1
def rs14_2 := hxB (bN 14) 1
def rs14_3 := hxB (oN 14) 2
def rs14_4 := hxB (xN 14) 1
def rs14_5 := hxB (yN 14) 2
def rowA14 : Array Value := #[.string rs14_0, .string rs14_1, .string rs14_2, .string rs14_3, .string rs14_4, .string rs14_5]
def rs15_0 := hxB (pN 15) 2
def rs15_1 := hxB (aN 15) 2
def rs15_2 := hxB (bN 15) 1
def rs15_3 := hxB (oN 15) 2
def rs15_4 := hxB (xN 15) 1
def rs15_5 := hxB (yN 15) 2
def rowA15 : Array Value := #[.string rs15_0, .string rs15_1, .string rs15_2, .string rs15_3, .string rs15_4, .string rs15_5]
set_option maxRecDepth 100000 in
set_option maxHeartbeats 1600000 in
theorem row_1 (w : World) : Calls Tryz.prog 34 #[.int .i64 1] w fun e w' => ∃ b, e = .returned (.slice (some ⟨b, 0, none⟩) 6 6) ∧ blk w' b = rowA1 ∧ Pre (b + 1) w'.heap.size ∧ Gr w w' := by
  go_enter Tryz.func34, Tryz.ntmps34
  go_wp2
  go_ret
  exact ⟨w.heap.size, rfl, by rw [blk_alloc_at _ _ _ _ _ rfl]; kernel_rfl, by simp [go_sem], (by repeat (first | exact Gr.refl _ | apply Gr.drewN | apply Gr.drew | apply Gr.alloc | apply Gr.gro))⟩
set_option maxRecDepth 100000 in
set_option maxHeartbeats 1600000 in
theorem row_2 (w : World) : Calls Tryz.prog 34 #[.int .i64 2] w fun e w' => ∃ b, e = .returned (.slice (some ⟨b, 0, none⟩) 6 6) ∧ blk w' b = rowA2 ∧ Pre (b + 1) w'.heap.size ∧ Gr w w' := by
  go_enter Tryz.func34, Tryz.ntmps34
  go_wp2
  go_ret
  exact ⟨w.heap.size, rfl, by rw [blk_alloc_at _ _ _ _ _ rfl]; kernel_rfl, by simp [go_sem], (by repeat (first | exact Gr.refl _ | apply Gr.drewN | apply Gr.drew | apply Gr.alloc | apply Gr.gro))⟩
set_option maxRecDepth 100000 in
set_option maxHeartbeats 1600000 in
theorem row_3 (w : World) : Calls Tryz.prog 34 #[.int .i64 3] w fun e w' => ∃ b, e = .returned (.slice (some ⟨b, 0, none⟩) 6 6) ∧ blk w' b = rowA3 ∧ Pre (b + 1) w'.heap.size ∧ Gr w w' := by
  go_enter Tryz.func34, Tryz.ntmps34
  go_wp2
  go_ret
  exact ⟨w.heap.size, rfl, by rw [blk_alloc_at _ _ _ _ _ rfl]; kernel_rfl, by simp [go_sem], (by repeat (first | exact Gr.refl _ | apply Gr.drewN | apply Gr.drew | apply Gr.alloc | apply Gr.gro))⟩
set_option maxRecDepth 100000 in
set_option maxHeartbeats 1600000 in
theorem row_4 (w : World) : Calls Tryz.prog 34 #[.int .i64 4] w fun e w' => ∃ b, e = .returned (.slice (some ⟨b, 0, none⟩) 6 6) ∧ blk w' b = rowA4 ∧ Pre (b + 1) w'.heap.size ∧ Gr w w' := by
  go_enter Tryz.func34, Tryz.ntmps34
  go_wp2
  go_ret
  exact ⟨w.heap.size, rfl, by rw [blk_alloc_at _ _ _ _ _ rfl]; kernel_rfl, by simp [go_sem], (by repeat (first | exact Gr.refl _ | apply Gr.drewN | apply Gr.drew | apply Gr.alloc | apply Gr.gro))⟩
set_option maxRecDepth 100000 in
set_option maxHeartbeats 1600000 in
theorem row_5 (w : World) : Calls Tryz.prog 34 #[.int .i64 5] w fun e w' => ∃ b, e = .returned (.slice (some ⟨b, 0, none⟩) 6 6) ∧ blk w' b = rowA5 ∧ Pre (b + 1) w'.heap.size ∧ Gr w w' := by
  go_enter Tryz.func34, Tryz.ntmps34
  go_wp2
  go_ret
  exact ⟨w.heap.size, rfl, by rw [blk_alloc_at _ _ _ _ _ rfl]; kernel_rfl, by simp [go_sem], (by repeat (first | exact Gr.refl _ | apply Gr.drewN | apply Gr.drew | apply Gr.alloc | apply Gr.gro))⟩
set_option maxRecDepth 100000 in
set_option maxHeartbeats 1600000 in
theorem row_6 (w : World) : Calls Tryz.prog 34 #[.int .i64 6] w fun e w' => ∃ b, e = .returned (.slice (some ⟨b, 0, none⟩) 6 6) ∧ blk w' b = rowA6 ∧ Pre (b + 1) w'.heap.size ∧ Gr w w' := by
  go_enter Tryz.func34, Tryz.ntmps34
  go_wp2
  go_ret
  exact ⟨w.heap.size, rfl, by rw [blk_alloc_at _ _ _ _ _ rfl]; kernel_rfl, by simp [go_sem], (by repeat (first | exact Gr.refl _ | apply Gr.drewN | apply Gr.drew | apply Gr.alloc | apply Gr.gro))⟩
set_option maxRecDepth 100000 in
set_option maxHeartbeats 1600000 in
theorem row_7 (w : World) : Calls Tryz.prog 34 #[.int .i64 7] w fun e w' => ∃ b, e = .returned (.slice (some ⟨b, 0, none⟩) 6 6) ∧ blk w' b = rowA7 ∧ Pre (b + 1) w'.heap.size ∧ Gr w w' := by
  go_enter Tryz.func34, Tryz.ntmps34
  go_wp2
  go_ret
  exact ⟨w.heap.size, rfl, by rw [blk_alloc_at _ _ _ _ _ rfl]; kernel_rfl, by simp [go_sem], (by repeat (first | exact Gr.refl _ | apply Gr.drewN | apply Gr.drew | apply Gr.alloc | apply Gr.gro))⟩
set_option maxRecDepth 100000 in
set_option maxHeartbeats 1600000 in
theorem row_8 (w : World) : Calls Tryz.prog 34 #[.int .i64 8] w fun e w' => ∃ b, e = .returned (.slice (some ⟨b, 0, none⟩) 6 6) ∧ blk w' b = rowA8 ∧ Pre (b + 1) w'.heap.size ∧ Gr w w' := by
  go_enter Tryz.func34, Tryz.ntmps34
  go_wp2
  go_ret
  exact ⟨w.heap.size, rfl, by rw [blk_alloc_at _ _ _ _ _ rfl]; kernel_rfl, by simp [go_sem], (by repeat (first | exact Gr.refl _ | apply Gr.drewN | apply Gr.drew | apply Gr.alloc | apply Gr.gro))⟩
set_option maxRecDepth 100000 in
set_option maxHeartbeats 1600000 in
theorem row_9 (w : World) : Calls Tryz.prog 34 #[.int .i64 9] w fun e w' => ∃ b, e = .returned (.slice (some ⟨b, 0, none⟩) 6 6) ∧ blk w' b = rowA9 ∧ Pre (b + 1) w'.heap.size ∧ Gr w w' := by
  go_enter Tryz.func34, Tryz.ntmps34
  go_wp2
  go_ret
  exact ⟨w.heap.size, rfl, by rw [blk_alloc_at _ _ _ _ _ rfl]; kernel_rfl, by simp [go_sem], (by repeat (first | exact Gr.refl _ | apply Gr.drewN | apply Gr.drew | apply Gr.alloc | apply Gr.gro))⟩
set_option maxRecDepth 100000 in
set_option maxHeartbeats 1600000 in
theorem row_10 (w : World) : Calls Tryz.prog 34 #[.int .i64 10] w fun e w' => ∃ b, e = .returned (.slice (some ⟨b, 0, none⟩) 6 6) ∧ blk w' b = rowA10 ∧ Pre (b + 1) w'.heap.size ∧ Gr w w' := by
  go_enter Tryz.func34, Tryz.ntmps34
  go_wp2
  go_ret
  exact ⟨w.heap.size, rfl, by rw [blk_alloc_at _ _ _ _ _ rfl]; kernel_rfl, by simp [go_sem], (by repeat (first | exact Gr.refl _ | apply Gr.drewN | apply Gr.drew | apply Gr.alloc | apply Gr.gro))⟩
set_option maxRecDepth 100000 in
set_option maxHeartbeats 1600000 in
theorem row_11 (w : World) : Calls Tryz.prog 34 #[.int .i64 11] w fun e w' => ∃ b, e = .returned (.slice (some ⟨b, 0, none⟩) 6 6) ∧ blk w' b = rowA11 ∧ Pre (b + 1) w'.heap.size ∧ Gr w w' := by
  go_enter Tryz.func34, Tryz.ntmps34
  go_wp2
  go_ret
  exact ⟨w.heap.size, rfl, by rw [blk_alloc_at _ _ _ _ _ rfl]; kernel_rfl, by simp [go_sem], (by repeat (first | exact Gr.refl _ | apply Gr.drewN | apply Gr.drew | apply Gr.alloc | apply Gr.gro))⟩
set_option maxRecDepth 100000 in
set_option maxHeartbeats 1600000 in
theorem row_12 (w : World) : Calls Tryz.prog 34 #[.int .i64 12] w fun e w' => ∃ b, e = .returned (.slice (some ⟨b, 0, none⟩) 6 6) ∧ blk w' b = rowA12 ∧ Pre (b + 1) w'.heap.size ∧ Gr w w' := by
  go_enter Tryz.func34, Tryz.ntmps34
  go_wp2
  go_ret
  exact ⟨w.heap.size, rfl, by rw [blk_alloc_at _ _ _ _ _ rfl]; kernel_rfl, by simp [go_sem], (by repeat (first | exact Gr.refl _ | apply Gr.drewN | apply Gr.drew | apply Gr.alloc | apply Gr.gro))⟩
set_option maxRecDepth 100000 in
set_option maxHeartbeats 1600000 in
theorem row_13 (w : World) : Calls Tryz.prog 34 #[.int .i64 13] w fun e w' => ∃ b, e = .returned (.slice (some ⟨b, 0, none⟩) 6 6) ∧ blk w' b = rowA13 ∧ Pre (b + 1) w'.heap.size ∧ Gr w w' := by
  go_enter Tryz.func34, Tryz.ntmps34
  go_wp2
  go_ret
  exact ⟨w.heap.size, rfl, by rw [blk_alloc_at _ _ _ _ _ rfl]; kernel_rfl, by simp [go_sem], (by repeat (first | exact Gr.refl _ | apply Gr.drewN | apply Gr.drew | apply Gr.alloc | apply Gr.gro))⟩
set_option maxRecDepth 100000 in
set_option maxHeartbeats 1600000 in
theorem row_14 (w : World) : Calls Tryz.prog 34 #[.int .i64 14] w fun e w' => ∃ b, e = .returned (.slice (some ⟨b, 0, none⟩) 6 6) ∧ blk w' b = rowA14 ∧ Pre (b + 1) w'.heap.size ∧ Gr w w' := by
  go_enter Tryz.func34, Tryz.ntmps34
  go_wp2
  go_ret
  exact ⟨w.heap.size, rfl, by rw [blk_alloc_at _ _ _ _ _ rfl]; kernel_rfl, by simp [go_sem], (by repeat (first | exact Gr.refl _ | apply Gr.drewN | apply Gr.drew | apply Gr.alloc | apply Gr.gro))⟩
set_option maxRecDepth 100000 in
set_option maxHeartbeats 1600000 in
theorem row_15 (w : World) : Calls Tryz.prog 34 #[.int .i64 15] w fun e w' => ∃ b, e = .returned (.slice (some ⟨b, 0, none⟩) 6 6) ∧ blk w' b = rowA15 ∧ Pre (b + 1) w'.heap.size ∧ Gr w w' := by
  go_enter Tryz.func34, Tryz.ntmps34
  go_wp2
  go_ret
  exact ⟨w.heap.size, rfl, by rw [blk_alloc_at _ _ _ _ _ rfl]; kernel_rfl, by simp [go_sem], (by repeat (first | exact Gr.refl _ | apply Gr.drewN | apply Gr.drew | apply Gr.alloc | apply Gr.gro))⟩
end Go.Proofs.YtlbkhhihkomahaaGreat
