/-
  The documents' numbers: Shl.
-/
import Derived.Test.YtleckbdhebjfkaaZRNat
import Derived.Test.YtleckbdhebjfkaaZMtN
namespace Go.Proofs.Ytleckbdhebjfkaa
open Go.RowKit
attribute [local go_sem ↓] loadNat_is loadArr_is loadWide_is loadArrW_is storeNat_is storeWide_is
attribute [local go_sem] loadNat loadArr loadWide loadArrW storeNat storeWide idxArr fold9 fold18 nw_size nw_elem pre_self pre_1 pre_2 pre_3 pre_4 pre_5 pre_6 pre_7 pre_8 pre_9 pre_10 pre_11 pre_12 pre_13 pre_14 pre_15 pre_16 pre_17 pre_18 pre_19 pre_20 pre_21 pre_22 pre_23 pre_24 pre_25 pre_26 pre_27 pre_28 pre_29 pre_30 pre_31 pre_32 pre_33 pre_34 pre_35 pre_36 pre_37 pre_38 pre_39 pre_40 gro_size gro_drew gro_drewN drew_gro drewN_gro gro_gro blk_gro frz_gro blk_drew frz_drew blk_drewN frz_drewN blk_alloc_at frz_alloc_at blk_alloc frz_alloc cell_gro frozen_gro cell_alloc_pre frozen_alloc_pre setCell_drewN alloc_drewN setBlk_drew setBlk_drewN setBlk_alloc_at setBlk_alloc setBlk_gro setCell_gro setCell_alloc_pre size_setBlk size_setCell
theorem pq_pow (q r : Nat) : (2 : Nat) ^ (32 * q + r) = 2 ^ r * pq q := by unfold pq; rw [Nat.pow_add, Nat.mul_comm]
theorem shl_bound (x i q r : Nat) : (x % pq i) * 2 ^ (32 * q + r) < 2 ^ r * pq (i + q) := by
  rw [pq_pow, pq_add, Nat.mul_left_comm, Nat.mul_left_comm (2 ^ r), ← Nat.mul_assoc]
  have h1 : x % pq i < pq i := Nat.mod_lt _ (pq_pos i)
  rw [Nat.mul_assoc, Nat.mul_left_comm]
  exact Nat.mul_lt_mul_of_pos_left (by
    rw [Nat.mul_comm, Nat.mul_comm (pq i)]
    exact Nat.mul_lt_mul_of_pos_left h1 (pq_pos q)) (Nat.two_pow_pos r)
theorem pow32 (r : Nat) (hr : r < 32) : 2 ^ r * 2 ^ (32 - r) = 4294967296 := by
  rw [← Nat.pow_add, show r + (32 - r) = 32 by omega]
/-- Digit i + q of what is laid: below 2^r. -/
theorem shl_dig (V j r : Nat) (hr : r < 32) (h : V < 2 ^ r * pq j) : dg V j < 2 ^ r ∧ V < pq (j + 1) := by
  have h2 := pow32 r hr
  have h3 : 0 < 2 ^ (32 - r) := Nat.two_pow_pos _
  have h4 : 2 ^ r ≤ 4294967296 := by rw [← h2]; exact Nat.le_mul_of_pos_right _ h3
  constructor
  · unfold dg
    have : V / pq j < 2 ^ r := by rw [Nat.div_lt_iff_lt_mul (pq_pos j)]; exact h
    rw [Nat.mod_eq_of_lt (by omega)]
    exact this
  · rw [pq_succ, Nat.mul_comm]
    exact Nat.lt_of_lt_of_le h (Nat.mul_le_mul_right _ h4)
theorem shl_or (h X r : Nat) (hr : r < 32) (h1 : h < 2 ^ r) : h ||| (X * 2 ^ r % 4294967296) = h + X * 2 ^ r % 4294967296 := by
  have e : X * 2 ^ r % 4294967296 = 2 ^ r * (X % 2 ^ (32 - r)) := by
    rw [← pow32 r hr, Nat.mul_comm X, Nat.mul_mod_mul_left]
  rw [e, Nat.or_comm, ← Nat.two_pow_add_eq_or_of_lt h1, Nat.add_comm]
theorem shl_or_lt (h X r : Nat) (hr : r < 32) (h1 : h < 2 ^ r) : h + X * 2 ^ r % 4294967296 < 4294967296 := by
  have e : X * 2 ^ r % 4294967296 = 2 ^ r * (X % 2 ^ (32 - r)) := by
    rw [← pow32 r hr, Nat.mul_comm X, Nat.mul_mod_mul_left]
  have h2 : X % 2 ^ (32 - r) < 2 ^ (32 - r) := Nat.mod_lt _ (Nat.two_pow_pos _)
  have h3 : 2 ^ r * (X % 2 ^ (32 - r) + 1) ≤ 2 ^ r * 2 ^ (32 - r) := Nat.mul_le_mul_left _ h2
  rw [Nat.mul_add, Nat.mul_one, pow32 r hr] at h3
  rw [e]
  omega
/-- The two stores of a round. -/
theorem shl_set (N V j T : Nat) (hV : V < pq (j + 1)) (h : dg V j + T % 4294967296 < 4294967296) (hT : T / 4294967296 < 4294967296) :
    ((nd N V).setIfInBounds j (.int .u32 ((dg V j + T % 4294967296 : Nat) : Int))).setIfInBounds (j + 1) (.int .u32 ((T / 4294967296 : Nat) : Int)) = nd N (V + T * pq j) := by
  obtain ⟨u, hu⟩ : ∃ u, T % 4294967296 = u := ⟨_, rfl⟩
  obtain ⟨v, hv⟩ : ∃ v, T / 4294967296 = v := ⟨_, rfl⟩
  have hd := Nat.div_add_mod T 4294967296
  rw [hu] at h
  rw [hv] at hT
  rw [hu, hv] at hd ⊢
  have e1 : dset V j (dg V j + u) = V + u * pq j := by
    unfold dset
    have hp := dparts V j
    rw [Nat.div_eq_of_lt hV, Nat.zero_mul, Nat.add_zero] at hp ⊢
    rw [Nat.add_mul]
    omega
  rw [nd_dset N V j _ h, e1]
  have hlt : V + u * pq j < pq (j + 1) := by
    rw [← e1]; exact dset_lt V j _ (j + 1) hV (by omega) h
  rw [nd_set_top N _ (j + 1) _ hT hlt]
  refine congrArg (nd N) ?_
  rw [pq_succ, Nat.mul_comm (pq j), ← Nat.mul_assoc]
  have e2 : (4294967296 * v + u) * pq j = T * pq j := by rw [hd]
  rw [Nat.add_mul] at e2
  rw [Nat.mul_comm v]
  omega
theorem shl_next (x i q r : Nat) : (x % pq i) * 2 ^ (32 * q + r) + dg x i * 2 ^ r * pq (i + q) = (x % pq (i + 1)) * 2 ^ (32 * q + r) := by
  rw [dmod_succ, Nat.add_mul, pq_pow, pq_add]
  have e : dg x i * 2 ^ r * (pq i * pq q) = dg x i * pq i * (2 ^ r * pq q) := by
    rw [Nat.mul_assoc, Nat.mul_assoc, Nat.mul_left_comm (2 ^ r)]
  rw [e]
theorem bits_or32 (a b : Nat) (ha : a < 4294967296) (hb : b < 4294967296) : bits .or .u32 (a : Int) (b : Int) = ((a ||| b : Nat) : Int) := by
  have hx : a ||| b < 2 ^ 32 := Nat.or_lt_two_pow (by omega) (by omega)
  have h1 : (BitVec.ofInt 32 (a : Int)).toNat = a := by
    rw [BitVec.ofInt_natCast, BitVec.toNat_ofNat]; exact Nat.mod_eq_of_lt (by omega)
  have h2 : (BitVec.ofInt 32 (b : Int)).toNat = b := by
    rw [BitVec.ofInt_natCast, BitVec.toNat_ofNat]; exact Nat.mod_eq_of_lt (by omega)
  show IntKind.u32.wrap ((BitVec.ofInt 32 (a : Int) ||| BitVec.ofInt 32 (b : Int)).toNat : Int) = _
  rw [BitVec.toNat_or, h1, h2, IntKind.wrap_u32]
  omega
/-- All that one round of Shl reckons. -/
theorem shl_round (x j q r N V : Nat) (hr : r < 32) (hV : (x % pq j) * 2 ^ (32 * q + r) = V) :
    ∃ T u v o V1 V2 : Nat, IntKind.u64.wrap ((dg x j : Nat) : Int) = ((dg x j : Nat) : Int) ∧ ((dg x j : Nat) : Int) * 2 ^ r = (T : Int) ∧ IntKind.u64.wrap (T : Int) = (T : Int) ∧
      bits BinOp.and IntKind.u64 (T : Int) 4294967295 = (u : Int) ∧ (u : Int) % 4294967296 = (u : Int) ∧ bits BinOp.or IntKind.u32 ((dg V (j + q) : Nat) : Int) (u : Int) = (o : Int) ∧
      (T : Int) / 4294967296 = (v : Int) ∧ (v : Int) % 4294967296 = (v : Int) ∧ (nd N V).setIfInBounds (j + q) (.int .u32 (o : Int)) = nd N V1 ∧ (nd N V1).setIfInBounds (j + q + 1) (.int .u32 (v : Int)) = nd N V2 ∧
      V2 = (x % pq (j + 1)) * 2 ^ (32 * q + r) := by
  have hd := dg_lt x j
  have hb := shl_bound x j q r
  rw [hV] at hb
  obtain ⟨h1, h2⟩ := shl_dig V (j + q) r hr hb
  have h3 := shl_or (dg V (j + q)) (dg x j) r hr h1
  have h4 := shl_or_lt (dg V (j + q)) (dg x j) r hr h1
  have h5 := shl_next x j q r
  rw [hV] at h5
  have hT : dg x j * 2 ^ r < 18446744073709551616 := by
    have e1 := Nat.mul_le_mul_right (2 ^ r) (show dg x j ≤ 4294967295 by omega)
    have e2 : 2 ^ r ≤ 4294967296 := by rw [← pow32 r hr]; exact Nat.le_mul_of_pos_right _ (Nat.two_pow_pos _)
    have e3 := Nat.mul_le_mul_left 4294967295 e2
    omega
  have h6 := shl_set N V (j + q) (dg x j * 2 ^ r) h2 h4 (by omega)
  have ec : ((dg x j : Nat) : Int) * 2 ^ r = ((dg x j * 2 ^ r : Nat) : Int) := by rw [int_pow, Int.natCast_mul]
  generalize dg x j * 2 ^ r = T at *
  refine ⟨T, T % 4294967296, T / 4294967296, dg V (j + q) + T % 4294967296, dset V (j + q) (dg V (j + q) + T % 4294967296), V + T * pq (j + q), ?_, ec, ?_, Mul64.maskN T hT, by omega, ?_, by omega, by omega, nd_dset N V (j + q) _ h4, ?_, h5⟩
  · rw [IntKind.wrap_u64]; omega
  · rw [IntKind.wrap_u64]; omega
  · rw [bits_or32 _ _ (dg_lt _ _) (Nat.mod_lt _ (by decide)), h3]
  · rw [← nd_dset N V (j + q) _ h4]; exact h6
set_option maxRecDepth 100000 in
set_option maxHeartbeats 800000 in
theorem rshl_any (x n k : Nat) (p : Option Addr) (w : World) (hp : Sl w p x) (hx : dl x ≤ 50000) (hk : k ≤ 32000) :
    Calls Try.prog 21 #[.slice p (dl x) n, .int .i64 (k : Int)] w (Nm (x * 2 ^ k) w) := by
  have lx := dl_lt x
  unfold Sl at hp
  obtain ⟨X, hX⟩ : ∃ L, dl x = L := ⟨_, rfl⟩
  rw [hX] at lx hx hp ⊢
  obtain ⟨q, r, hqr, hr⟩ : ∃ q r, k = 32 * q + r ∧ r < 32 := ⟨k / 32, k % 32, by omega, by omega⟩
  have e2 : (k : Int) / 32 = (q : Int) := by omega
  have e3 : (k : Int) % 32 = (r : Int) := by omega
  have d2 : (k : Int).tdiv 32 = (q : Int) := by rw [Int.tdiv_eq_ediv_of_nonneg (by omega)]; exact e2
  have d3 : (k : Int).tmod 32 = (r : Int) := by rw [Int.tmod_eq_emod_of_nonneg (by omega)]; exact e3
  obtain ⟨N, hN⟩ : ∃ N, X + q + 1 = N := ⟨_, rfl⟩
  have hN' : (X : Int) + (q : Int) + 1 = (N : Int) := by omega
  have hmk : ∀ w, (Instr.makeSlice 31 (.int .i64 (N : Int)) (.int .i64 (N : Int))).run Try.prog w = .ok (.slice (some ⟨w.heap.size, 0, none⟩) N N) (w.alloc (.cells (nd N 0) 35)) := fun w => make_digits N (by omega) w
  have kb : Hid (Unit → N ≤ 100000) := fun _ => by omega
  have x1 : (X : Int) ≤ 50000 := by omega
  have q1 : (q : Int) ≤ 1000 := by omega
  have r0 : (0 : Int) ≤ (r : Int) := by omega
  have r1 : (r : Int) < 32 := by omega
  have HP : Hid (∀ i, i < X → ∃ b, p = some ⟨b, 0, none⟩ ∧ Pre (b + 1) w.heap.size ∧ (blk w b)[i]? = some (.int .u32 ((dg x i : Nat) : Int))) := hp
  have HX : Hid (Unit → x < pq X) := fun _ => lx
  have HN : Hid (Unit → X + q + 1 = N) := fun _ => hN
  have HK : Hid (Unit → k = 32 * q + r) := fun _ => hqr
  have HR : Hid (Unit → r < 32) := fun _ => hr
  clear lx hX hp hx hN hk hqr hr
  go_enter Try.func21, Try.ntmps21
  go_wp2
  clear hmk
  go_loopw [6] (fun i wr => ∃ j : Nat, j ≤ X ∧ i = .int .i64 (j : Int) ∧ wr = w.alloc (.cells (nd N ((x % pq j) * 2 ^ k)) 35)) (fun i _ => X - (intOf i).toNat)
  case atStart => exact ⟨0, by omega, rfl, by rw [pq_zero, Nat.mod_one, Nat.zero_mul]⟩
  case round =>
    obtain ⟨j, hj, rfl, rfl⟩ := hrel
    by_cases hlt : j < X
    · have j0 : (0 : Int) ≤ (j : Int) := by omega
      have j1 : (j : Int) < (X : Int) := by omega
      obtain ⟨b, rfl, hb, gb⟩ := HP.out j hlt
      have g1 : w.cell? ⟨b, j, none⟩ = some (.int .u32 ((dg x j : Nat) : Int)) := by rw [cell_blk]; exact gb
      obtain ⟨V, hV⟩ : ∃ V, (x % pq j) * 2 ^ k = V := ⟨_, rfl⟩
      rw [hV]
      have hjq : j + q < N := by have := HN.out (); omega
      have gV := nd_get N V (j + q) hjq
      have ji : (j : Int) + (q : Int) < (N : Int) := by omega
      have ji1 : (j : Int) + (q : Int) + 1 < (N : Int) := by omega
      have hV' := hV
      rw [HK.out ()] at hV'
      obtain ⟨T, u, v, o, V1, V2, f1, f2, f3, f4, f5, f6, f7, f8, f9, f10, f11⟩ := shl_round x j q r N V (HR.out ()) hV'
      have hjq1 : j + q + 1 < N := by have := HN.out (); omega
      have gV1 := nd_get N V1 (j + q + 1) hjq1
      have HV2 : Hid (Unit → V2 = (x % pq (j + 1)) * 2 ^ k) := fun _ => by rw [HK.out ()]; exact f11
      clear hlt gb hV hV' f11
      go_wp2
      go_roundw
      case rel => exact ⟨j + 1, by omega, by go_num, by rw [HV2.out ()]⟩
      case measure => simp [intOf]; omega
    · have hjX : j = X := by omega
      have ji : ¬ (j : Int) < (X : Int) := by omega
      obtain ⟨V, hV⟩ : ∃ V, (x % pq j) * 2 ^ k = V := ⟨_, rfl⟩
      rw [hV]
      have HV : Hid (Unit → V = x * 2 ^ k) := fun _ => by rw [← hV, hjX, Nat.mod_eq_of_lt (HX.out ())]
      have HB : Hid (Unit → V < pq N) := fun _ => by
        have h1 := shl_bound x j q r
        rw [← HK.out (), hV, hjX] at h1
        rw [← HN.out ()]
        exact (shl_dig V (X + q) r (HR.out ()) h1).2
      clear hV hjX hlt hj HP
      go_wp2_with (go_at_call 37; refine (trim_nd _ _ N V (kb.out ()) (HB.out ()) (by simp [go_sem])).mono ?_; rintro e w' ⟨rfl, rfl⟩)
      go_ret
      exact Nm.mk (HV.out ()) (HB.out ()) (by simp [go_sem]) (by simp [go_sem]) (by repeat (first | exact Gr.refl _ | apply Gr.drewN | apply Gr.drew | apply Gr.alloc | apply Gr.gro))

end Go.Proofs.Ytleckbdhebjfkaa
