/-
  The documents' numbers: Shr.
-/
import Derived.Test.YtleckbdhebjfkaaZRNat
import Derived.Test.YtleckbdhebjfkaaZMtN
namespace Go.Proofs.Ytleckbdhebjfkaa
open Go.RowKit
attribute [local go_sem ↓] loadNat_is loadArr_is loadWide_is loadArrW_is storeNat_is storeWide_is
attribute [local go_sem] loadNat loadArr loadWide loadArrW storeNat storeWide idxArr fold9 fold18 nw_size nw_elem pre_self pre_1 pre_2 pre_3 pre_4 pre_5 pre_6 pre_7 pre_8 pre_9 pre_10 pre_11 pre_12 pre_13 pre_14 pre_15 pre_16 pre_17 pre_18 pre_19 pre_20 pre_21 pre_22 pre_23 pre_24 pre_25 pre_26 pre_27 pre_28 pre_29 pre_30 pre_31 pre_32 pre_33 pre_34 pre_35 pre_36 pre_37 pre_38 pre_39 pre_40 gro_size gro_drew gro_drewN drew_gro drewN_gro gro_gro blk_gro frz_gro blk_drew frz_drew blk_drewN frz_drewN blk_alloc_at frz_alloc_at blk_alloc frz_alloc cell_gro frozen_gro cell_alloc_pre frozen_alloc_pre setCell_drewN alloc_drewN setBlk_drew setBlk_drewN setBlk_alloc_at setBlk_alloc setBlk_gro setCell_gro setCell_alloc_pre size_setBlk size_setCell
/-- Two digits that lie side by side, of which r bits are dropped. -/
theorem shr_dig (x i q r : Nat) (hr : r < 32) : (dg x (i + q) + dg x (i + q + 1) * 4294967296) / 2 ^ r % 4294967296 = dg (x / 2 ^ (32 * q + r)) i := by
  have e : dg x (i + q) + dg x (i + q + 1) * 4294967296 = x / 2 ^ (32 * (i + q)) % 2 ^ 64 := by
    unfold dg pq
    rw [show 32 * (i + q + 1) = 32 * (i + q) + 32 by omega, Nat.pow_add, ← Nat.div_div_eq_div_mul]
    generalize x / 2 ^ (32 * (i + q)) = y
    omega
  rw [e]
  unfold dg pq
  rw [show (4294967296 : Nat) = 2 ^ 32 from rfl]
  apply Nat.eq_of_testBit_eq
  intro j
  rw [Nat.testBit_mod_two_pow, Nat.testBit_mod_two_pow, ← Nat.shiftRight_eq_div_pow, ← Nat.shiftRight_eq_div_pow, ← Nat.shiftRight_eq_div_pow, ← Nat.shiftRight_eq_div_pow, Nat.testBit_shiftRight, Nat.testBit_mod_two_pow, Nat.testBit_shiftRight, Nat.testBit_shiftRight, Nat.testBit_shiftRight]
  by_cases hj : j < 32
  · rw [decide_eq_true hj, decide_eq_true (show r + j < 64 by omega), Bool.true_and, Bool.true_and, Bool.true_and]
    congr 1
    omega
  · rw [decide_eq_false hj, Bool.false_and, Bool.false_and]
/-- All that one round of Shr reckons. -/
theorem shr_round (x j q r : Nat) (hr : r < 32) : ∃ T S : Nat, bits BinOp.or IntKind.u64 ((dg x (j + q) : Nat) : Int) (IntKind.u64.wrap (((dg x (j + q + 1) : Nat) : Int) * 4294967296)) = (T : Int) ∧
    (T : Int) / 2 ^ r = (S : Int) ∧ bits BinOp.and IntKind.u64 (S : Int) 4294967295 = ((dg (x / 2 ^ (32 * q + r)) j : Nat) : Int) := by
  have h0 := dg_lt x (j + q)
  have h1 := dg_lt x (j + q + 1)
  have h2 := shr_dig x j q r hr
  generalize dg x (j + q) = d at *
  generalize dg x (j + q + 1) = e at *
  have h3 : (d + e * 4294967296) / 2 ^ r ≤ d + e * 4294967296 := Nat.div_le_self _ _
  refine ⟨d + e * 4294967296, (d + e * 4294967296) / 2 ^ r, ?_, ?_, ?_⟩
  · have e1 : IntKind.u64.wrap ((e : Int) * 4294967296) = ((e * 4294967296 : Nat) : Int) := by rw [IntKind.wrap_u64]; omega
    rw [e1, bits_or_u64_nat d (e * 4294967296) (by omega) (by omega)]
    have e2 := Nat.two_pow_add_eq_or_of_lt (i := 32) (b := d) h0 e
    rw [Nat.or_comm, show e * 4294967296 = 2 ^ 32 * e from Nat.mul_comm _ _, ← e2, Nat.add_comm]
  · rw [int_pow, ← Int.natCast_ediv]
  · rw [← h2]
    exact Mul64.maskN _ (by omega)
theorem shr_lt (x q r D : Nat) (h : x < pq (D + q)) : x / 2 ^ (32 * q + r) < pq D := by
  rw [Nat.div_lt_iff_lt_mul (Nat.two_pow_pos _)]
  refine Nat.lt_of_lt_of_le h ?_
  unfold pq
  rw [← Nat.pow_add]
  exact Nat.pow_le_pow_right (by decide) (by omega)
set_option maxRecDepth 100000 in
set_option maxHeartbeats 800000 in
theorem rshr_any (x n k : Nat) (p : Option Addr) (w : World) (hp : Sl w p x) (hx : dl x ≤ 50000) (hk : k ≤ 1000000) :
    Calls Try.prog 59 #[.slice p (dl x) n, .int .i64 (k : Int)] w (Nm (x / 2 ^ k) w) := by
  have lx := dl_lt x
  have cd := digits_in w p x n hp
  obtain ⟨X, hX⟩ : ∃ L, dl x = L := ⟨_, rfl⟩
  rw [hX] at lx hx cd ⊢
  obtain ⟨q, r, hqr, hr⟩ : ∃ q r, k = 32 * q + r ∧ r < 32 := ⟨k / 32, k % 32, by omega, by omega⟩
  have e2 : (k : Int) / 32 = (q : Int) := by omega
  have e3 : (k : Int) % 32 = (r : Int) := by omega
  have d2 : (k : Int).tdiv 32 = (q : Int) := by rw [Int.tdiv_eq_ediv_of_nonneg (by omega)]; exact e2
  have d3 : (k : Int).tmod 32 = (r : Int) := by rw [Int.tmod_eq_emod_of_nonneg (by omega)]; exact e3
  have k0 : (0 : Int) ≤ (k : Int) := by omega
  have r0 : (0 : Int) ≤ (r : Int) := by omega
  have r1 : (r : Int) < 32 := by omega
  by_cases hq : X ≤ q
  · have hq' : (X : Int) ≤ (q : Int) := by omega
    have hz : x / 2 ^ k = 0 := by
      rw [hqr]
      have := shr_lt x q r 0 (Nat.lt_of_lt_of_le lx (Nat.pow_le_pow_right (by decide) (by omega)))
      rw [pq_zero] at this
      exact Nat.lt_one_iff.1 this
    have q1 : (q : Int) ≤ 1000000 := by omega
    rw [hz]
    clear hz cd lx hqr hx hk hr hp hX hq
    go_enter Try.func59, Try.ntmps59
    go_wp2
    go_ret
    exact ⟨none, 0, rfl, Sl.zero _ _, (by repeat (first | exact Gr.refl _ | apply Gr.drewN | apply Gr.drew | apply Gr.alloc | apply Gr.gro))⟩
  · obtain ⟨N, hN⟩ : ∃ N, X = N + q := ⟨X - q, by omega⟩
    have hN' : (X : Int) - (q : Int) = (N : Int) := by omega
    have hq' : ¬ (X : Int) ≤ (q : Int) := by omega
    have hmk : ∀ w, (Instr.makeSlice 31 (.int .i64 (N : Int)) (.int .i64 (N : Int))).run Try.prog w = .ok (.slice (some ⟨w.heap.size, 0, none⟩) N N) (w.alloc (.cells (nd N 0) 35)) := fun w => make_digits N (by omega) w
    have CD : Hid (∀ (i : Int) (j : Nat) (v : World), i = (j : Int) → Gr w v → Calls Try.prog 38 #[.slice p X n, .int .i64 i] v fun e w' => e = .returned (.int .u64 ((dg x j : Nat) : Int)) ∧ w' = v) := cd
    have kb : Hid (Unit → N ≤ 100000) := fun _ => by omega
    have n1 : (N : Int) ≤ 50000 := by omega
    have q1 : (q : Int) ≤ 50000 := by omega
    have HK : Hid (Unit → k = 32 * q + r) := fun _ => hqr
    have HR : Hid (Unit → r < 32) := fun _ => hr
    have HB : Hid (Unit → x / 2 ^ k < pq N) := fun _ => by rw [hqr]; exact shr_lt x q r N (by rw [← hN]; exact lx)
    clear cd lx hX hp hx hN hk hqr hr hq
    obtain ⟨Y, hY⟩ : ∃ Y, x / 2 ^ k = Y := ⟨_, rfl⟩
    rw [hY] at HB ⊢
    have HY : Hid (Unit → x / 2 ^ k = Y) := fun _ => hY
    clear hY
    go_enter Try.func59, Try.ntmps59
    go_wp2
    clear hmk
    go_loopw [6] (fun i wr => ∃ j : Nat, j ≤ N ∧ i = .int .i64 (j : Int) ∧ wr = w.alloc (.cells (nd N (Y % pq j)) 35)) (fun i _ => N - (intOf i).toNat)
    case atStart => exact ⟨0, by omega, rfl, by rw [pq_zero, Nat.mod_one]⟩
    case round =>
      obtain ⟨j, hj, rfl, rfl⟩ := hrel
      by_cases hlt : j < N
      · have j0 : (0 : Int) ≤ (j : Int) := by omega
        have j1 : (j : Int) < (N : Int) := by omega
        obtain ⟨T, S, f1, f2, f3⟩ := shr_round x j q r (HR.out ())
        rw [← HK.out (), HY.out ()] at f3
        obtain ⟨V, hV⟩ : ∃ V, Y % pq j = V := ⟨_, rfl⟩
        rw [hV]
        have gV := nd_get N V j hlt
        have f4 := dg_lt Y j
        have f5 : ((dg Y j : Nat) : Int) % 4294967296 = ((dg Y j : Nat) : Int) := by omega
        have HS : Hid (Unit → (nd N V).setIfInBounds j (.int .u32 ((dg Y j : Nat) : Int)) = nd N (Y % pq (j + 1))) := fun _ => by
          rw [nd_set_top N V j _ f4 (by rw [← hV]; exact Nat.mod_lt _ (pq_pos j)), dmod_succ, hV]
        clear hlt hV f4
        go_wp2_with (first
          | (go_at_call 38; refine (CD.out _ (j + q) _ ?_ ?_).mono ?_; omega; exact (by repeat (first | exact Gr.refl _ | apply Gr.drewN | apply Gr.drew | apply Gr.alloc | apply Gr.gro)); rintro e w' ⟨rfl, rfl⟩)
          | (go_at_call 38; refine (CD.out _ (j + q + 1) _ ?_ ?_).mono ?_; omega; exact (by repeat (first | exact Gr.refl _ | apply Gr.drewN | apply Gr.drew | apply Gr.alloc | apply Gr.gro)); rintro e w' ⟨rfl, rfl⟩))
        go_roundw
        case rel => exact ⟨j + 1, by omega, by go_num, by rw [HS.out ()]⟩
        case measure => simp [intOf]; omega
      · have hjN : j = N := by omega
        have ji : ¬ (j : Int) < (N : Int) := by omega
        obtain ⟨V, hV⟩ : ∃ V, Y % pq j = V := ⟨_, rfl⟩
        rw [hV]
        have HV : Hid (Unit → V = Y) := fun _ => by rw [← hV, hjN, Nat.mod_eq_of_lt (HB.out ())]
        have HB' : Hid (Unit → V < pq N) := fun _ => by rw [HV.out ()]; exact HB.out ()
        clear hV hjN hlt hj
        go_wp2_with (go_at_call 37; refine (trim_nd _ _ N V (kb.out ()) (HB'.out ()) (by simp [go_sem])).mono ?_; rintro e w' ⟨rfl, rfl⟩)
        go_ret
        exact Nm.mk (HV.out ()) (HB'.out ()) (by simp [go_sem]) (by simp [go_sem]) (by repeat (first | exact Gr.refl _ | apply Gr.drewN | apply Gr.drew | apply Gr.alloc | apply Gr.gro))

end Go.Proofs.Ytleckbdhebjfkaa
