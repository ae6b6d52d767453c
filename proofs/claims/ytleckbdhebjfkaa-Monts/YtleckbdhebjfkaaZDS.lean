/-
  divide's divisor.split: quotient and rest of a Wide.
-/
import Derived.Deep.RegionLaw
import Derived.Deep.DrawnRows
import Derived.Test.YtleckbdhebjfkaaZDC
import Derived.Test.YtleckbdhebjfkaaZShr
import Derived.Test.YtleckbdhebjfkaaZMul
namespace Go.Proofs.Ytleckbdhebjfkaa
open Go.RowKit
attribute [local go_sem ↓] loadNat_is loadArr_is loadWide_is loadArrW_is storeNat_is storeWide_is
attribute [local go_sem] loadNat loadArr loadWide loadArrW storeNat storeWide idxArr fold9 fold18 nw_size nw_elem pre_self pre_1 pre_2 pre_3 pre_4 pre_5 pre_6 pre_7 pre_8 pre_9 pre_10 pre_11 pre_12 pre_13 pre_14 pre_15 pre_16 pre_17 pre_18 pre_19 pre_20 pre_21 pre_22 pre_23 pre_24 pre_25 pre_26 pre_27 pre_28 pre_29 pre_30 pre_31 pre_32 pre_33 pre_34 pre_35 pre_36 pre_37 pre_38 pre_39 pre_40 gro_size gro_drew gro_drewN drew_gro drewN_gro gro_gro blk_gro frz_gro blk_drew frz_drew blk_drewN frz_drewN blk_alloc_at frz_alloc_at blk_alloc frz_alloc cell_gro frozen_gro cell_alloc_pre frozen_alloc_pre setCell_drewN alloc_drewN setBlk_drew setBlk_drewN setBlk_alloc_at setBlk_alloc setBlk_gro setCell_gro setCell_alloc_pre size_setBlk size_setCell
attribute [local go_sem ↓] loadDv_is load19_is storeDv_is store19_is copy_is
attribute [local go_sem] idx18 loadDv load19 storeDv store19 dv_size dv_9 dv_10 dv_e9 dv_e10 dv_elem fold11 fold19 setCell_in cell_in frozen_in frz_setBlk blk_setBlk setBlk_setBlk copy_run cpA_nw ones_nw

attribute [local go_sem ↓] Go.wp_at_zero Go.wp_at_succ

theorem pw_up (i k : Nat) (h : i ≤ k) : pw i ≤ pw k := Nat.pow_le_pow_right (by decide) (by omega)
/-- Where the row stands as the loop begins. -/
theorem split_start (W D n u m : Nat) (hU : Used W m) (hu : u < 64) (hT : 9223372036854775808 ≤ wd D n) (hD : D < pw (n + 1)) (hB : pw n * 2 ^ u ≤ D) : W * 2 ^ u < D * pw (m - n) := by
  obtain ⟨h1, h2, h3⟩ := hU
  have hp := Nat.two_pow_pos u
  by_cases hm : m ≤ n
  · rw [show m - n = 0 by omega, pw_zero, Nat.mul_one]
    have h4 : pw m ≤ pw n := Nat.pow_le_pow_right (by decide) (by omega)
    have h5 : W * 2 ^ u < pw n * 2 ^ u := Nat.mul_lt_mul_of_pos_right (by omega) hp
    omega
  · obtain ⟨j, rfl⟩ : ∃ j, m = n + j := ⟨m - n, by omega⟩
    rw [show n + j - n = j by omega]
    have h4 : 9223372036854775808 * pw n ≤ D := by
      have h5 := Nat.div_mul_le_self D (pw n)
      rw [top_one D n hD] at h5
      exact Nat.le_trans (Nat.mul_le_mul_right _ hT) h5
    have h6 : 2 ^ u ≤ 9223372036854775808 := by
      have := Nat.pow_le_pow_right (n := 2) (by decide) (show u ≤ 63 by omega)
      exact this
    rw [pw_add] at h2
    have h7 : W * 2 ^ u < pw n * pw j * 2 ^ u := Nat.mul_lt_mul_of_pos_right h2 hp
    have h8 : pw n * pw j * 2 ^ u ≤ pw n * pw j * 9223372036854775808 := Nat.mul_le_mul_left _ h6
    have h9 : 9223372036854775808 * pw n * pw j ≤ D * pw j := Nat.mul_le_mul_right _ h4
    have e : pw n * pw j * 9223372036854775808 = 9223372036854775808 * pw n * pw j := by grind
    omega
theorem q_set (H i t : Nat) (ht : t < 18446744073709551616) : (nw 18 (H * pw (i + 1))).setIfInBounds i (Value.int .u64 (t : Int)) = nw 18 ((H * 18446744073709551616 + t) * pw i) := by
  rw [nw_set_low 18 H i t ht]
  refine congrArg (nw 18) ?_
  rw [pow_succ64]
  grind
theorem q_next (X V D H i t Z : Nat) (h : X = V + D * (H * pw (i + 1))) (hz : Z + t * (D * pw i) = V) : X = Z + D * ((H * 18446744073709551616 + t) * pw i) := by
  rw [pow_succ64] at h
  generalize pw i = P at *
  grind
/-- A piece of a row. -/
theorem slice19 (b l h : Nat) (hl : l < h) (hh : h ≤ 19) (w : World) : (Instr.sliceAt 96 (.pointer (some ⟨b, 0, none⟩)) (some (.int .i64 (l : Int))) (some (.int .i64 (h : Int))) none).run Try.prog w = .ok (.slice (some ⟨b, l, none⟩) (h - l) (19 - l)) w := by
  have hs : (Try.prog.info? 22).map (·.size) = some 1 := by kernel_rfl
  have ha : Try.prog.arrayLen 96 = 19 := by kernel_rfl
  have he : Try.prog.elem 96 = 22 := by kernel_rfl
  rw [run_sliceAt_array_lh w 96 ⟨b, 0, none⟩ (by kernel_rfl) .i64 .i64 (l : Int) (h : Int) (by omega) (by omega) (by rw [ha]; omega), he, ha]
  cases hq : Try.prog.info? 22 with
  | none => rw [hq] at hs; cases hs
  | some i =>
    have hi : i.size = 1 := by simpa [hq] using hs
    have e1 : ¬ 19 = l := by omega
    simp [sizeOf, typeInfo, hq, hi, slicedAt, e1, Addr.add, Result.andThen]
    exact fun h => h.symm
/-- The first words of a number. -/
theorem slice9 (b h : Nat) (hh : h < 9) (w : World) : (Instr.sliceAt 23 (.pointer (some ⟨b, 0, none⟩)) none (some (.int .i64 ((h : Int) + 1))) none).run Try.prog w = .ok (.slice (some ⟨b, 0, none⟩) (h + 1) 9) w := by
  have hs : (Try.prog.info? 22).map (·.size) = some 1 := by kernel_rfl
  have ha : Try.prog.arrayLen 23 = 9 := by kernel_rfl
  have he : Try.prog.elem 23 = 22 := by kernel_rfl
  have et : ((h : Int) + 1).toNat = h + 1 := by omega
  rw [run_sliceAt_array_h w 23 ⟨b, 0, none⟩ (by kernel_rfl) .i64 ((h : Int) + 1) (by omega) (by rw [ha]; omega), he, ha, et]
  cases hq : Try.prog.info? 22 with
  | none => rw [hq] at hs; cases hs
  | some i => simp [sizeOf, typeInfo, hq, slicedAt, Addr.add, Result.andThen]
/-- What split answers. -/
def Spl (w : World) (X D u : Nat) (e : Ending) (w' : World) : Prop := ∃ Q V, e = .returned (.tuple #[.agg (nw 18 Q), .agg (nw 9 (V / 2 ^ u))]) ∧ X = V + D * Q ∧ V < D ∧ Gr w w'
set_option maxRecDepth 100000 in
set_option maxHeartbeats 1200000 in
theorem split_any (W D n u : Nat) (w : World) (hW : W < pw 18) (hu : u < 64) (hn : n < 9) (hD : D < pw (n + 1)) (hT : 9223372036854775808 ≤ wd D n) (hB : pw n * 2 ^ u ≤ D) :
    Calls Try.prog 47 #[.agg (dv D (n + 1) u), .agg (nw 18 W)] w (Spl w (W * 2 ^ u) D u) := by
  have HM : Hid (∀ w, Calls Try.prog 63 #[.agg (nw 18 W), .int .i64 (u : Int)] w fun e w' => e = .returned (.agg (nw 19 (W * 2 ^ u))) ∧ Gr w w') := fun w => moveUp_any W u hW hu w
  have HU : Hid (∀ w, Calls Try.prog 64 #[.agg (nw 18 W)] w fun e w' => ∃ n : Nat, e = .returned (.int .i64 (n : Int)) ∧ Used W n ∧ w' = w.alloc (.cells (nw 18 W) 77)) := fun w => used_any W hW w
  have HT : Hid (∀ (i V b c : Nat) (w : World), i + (n + 1 + 1) ≤ 19 → Row w b V → V < D * pw (i + 1) → Calls Try.prog 65 #[.agg (dv D (n + 1) u), .slice (some ⟨b, i, none⟩) (n + 1 + 1) c] w (Took w (D * pw i) V b)) := fun i V b c w h1 h2 h3 => takeOut_any D n u i V b c w hn hD hT h2 h3 h1
  have HSt : Hid (∀ m, Used W m → W * 2 ^ u < D * pw (m - n)) := fun m h => split_start W D n u m h hu hT hD hB
  have HSh : Hid (∀ V w, V < D → Calls Try.prog 66 #[.agg (nw 9 V), .int .i64 (u : Int)] w fun e w' => e = .returned (.tuple #[.agg (nw 9 (V / 2 ^ u)), .int .i64 0]) ∧ Gr w w') := fun V w hV => shr_any V u (show V < M from Nat.lt_of_lt_of_le (Nat.lt_trans hV hD) (pw_up (n + 1) 9 (by omega))) (by omega) w
  have HDl : Hid (∀ V, V < D → V % pw (n + 1) = V) := fun V h => Nat.mod_eq_of_lt (Nat.lt_trans h hD)
  have HN : Hid (Unit → n < 9) := fun _ => hn
  have n0 : (0 : Int) ≤ (n : Int) := by omega
  have n1 : (n : Int) < 9 := by omega
  clear hW hu hn hD hT hB
  go_enter Try.func47, Try.ntmps47
  go_upto_region 3 with (go_at_call 63; refine (HM.out _).mono ?_; rintro e w' ⟨rfl, g, rfl⟩)
  go_cut [8] from 14 to 18 (fun a wx => ∃ (x : Int) (m : Nat), a = .int .i64 x ∧ Hid (x = (m : Int) - ((n : Int) + 1)) ∧ Hid (Unit → Used W m) ∧ ∃ k, wx = gro ((gro (((((w.alloc (.cells (dv D (n + 1) u) 80)).alloc (.cells (nw 18 W) 77)).alloc (.cells (nw 18 0) 77)).alloc (.cells (nw 9 0) 25)).alloc (.cells (nw 18 0) 77)) g).alloc (.cells (nw 19 (W * 2 ^ u)) 96)) k)
  case first =>
    go_region_with (go_at_call 64; refine (HU.out _).mono ?_; rintro e w' ⟨m, rfl, hm, rfl⟩)
    all_goals
      have m1 : (m : Int) ≤ 18 := by have := hm.1; omega
      have m0 : (0 : Int) ≤ (m : Int) := by omega
    all_goals
      go_wp2_with fail
    all_goals
      go_meet
      refine ⟨_, m, rfl, ?_, fun _ => hm, ?_⟩
      · show IntKind.i64.wrap ((m : Int) - ((n : Int) + 1)) = (m : Int) - ((n : Int) + 1)
        rw [IntKind.wrap_i64]; omega
      · exact ((Gr.refl _).alloc _).drew
  case rest =>
    obtain ⟨x, m, rfl, HX, HUs, k, rfl⟩ := hcut
    have HSt0 := HSt.out m (HUs.out ())
    obtain ⟨X, hX⟩ : ∃ X, W * 2 ^ u = X := ⟨_, rfl⟩
    rw [hX] at HSt0 ⊢
    have HS0 : Hid (Unit → X < D * pw (m - n)) := fun _ => HSt0
    have HXX : Hid (Unit → W * 2 ^ u = X) := fun _ => hX
    clear HSt0 hX HM HU HSt
    go_wp2_with fail
    go_loopw [8] (fun a wr => ∃ (j H V : Nat) (y : Int), a = .int .i64 y ∧ Hid ((y + 1).toNat = j ∧ -20 < y ∧ j + n ≤ 18) ∧ Hid (Unit → V < D * pw j ∧ X = V + D * (H * pw j)) ∧ ∃ k, wr = gro ((gro (((((w.alloc (.cells (dv D (n + 1) u) 80)).alloc (.cells (nw 18 W) 77)).alloc (.cells (nw 18 0) 77)).alloc (.cells (nw 9 0) 25)).alloc (.cells (nw 18 (H * pw j)) 77)) g).alloc (.cells (nw 19 V) 96)) k) (fun a _ => (intOf a + 1).toNat)
    case atStart =>
      have h1 := HX.out
      have h2 := (HUs.out ()).1
      have h3 := HN.out ()
      exact ⟨m - n, 0, X, x, rfl, ⟨by omega, by omega, by omega⟩, fun _ => ⟨HS0.out (), by simp⟩, k, by rw [Nat.zero_mul]⟩
    case round =>
      obtain ⟨j, H, V, y, rfl, HY, HV, k2, rfl⟩ := hrel
      by_cases hj : 0 < j
      · obtain ⟨i, rfl⟩ : ∃ i, j = i + 1 := ⟨j - 1, by omega⟩
        obtain ⟨y1, y2, y3⟩ := HY.out
        obtain rfl : y = (i : Int) := by omega
        have i0 : (0 : Int) ≤ (i : Int) := by omega
        have i1 : (i : Int) < 18 := by omega
        obtain ⟨q, hq⟩ : ∃ q, i + (n + 1 + 1) = q := ⟨_, rfl⟩
        have i2 : IntKind.i64.wrap ((i : Int) + ((n : Int) + 1)) = (i : Int) + ((n : Int) + 1) := by rw [IntKind.wrap_i64]; omega
        have i3 : IntKind.i64.wrap ((i : Int) + ((n : Int) + 1) + 1) = (q : Int) := by rw [IntKind.wrap_i64]; omega
        have hsl : ∀ (b : Nat) w, (Instr.sliceAt 96 (.pointer (some ⟨b, 0, none⟩)) (some (.int .i64 (i : Int))) (some (.int .i64 (q : Int))) none).run Try.prog w = .ok (.slice (some ⟨b, i, none⟩) (n + 1 + 1) (19 - i)) w := fun b w => by
          rw [slice19 b i q (by omega) (by omega) w, show q - i = n + 1 + 1 by omega]
        have HQ : Hid (Unit → i + (n + 1 + 1) ≤ 19) := fun _ => by omega
        clear y1 y2 y3 HX hq
        go_wp2_with fail
        have hv := (HV.out ()).1
        have gq := nw_get 18 (H * pw (i + 1)) i (by have := HQ.out (); omega)
        have HVv : Hid (Unit → V < D * pw (i + 1)) := fun _ => hv
        clear hv
        go_region_with (go_at_call 65; refine (HT.out i V _ _ _ (HQ.out ()) ?_ (HVv.out ())).mono ?_; exact ⟨by simp [go_sem], by simp [go_sem], by simp [go_sem]⟩; rintro e w' ⟨tq, Z, rfl, htq, ⟨k3, rfl⟩, hz, hze⟩)
        all_goals
          have HZ : Hid (Unit → tq < 18446744073709551616 ∧ Z < D * pw i ∧ Z + tq * (D * pw i) = V) := fun _ => ⟨htq, hz, hze⟩
          clear htq hz hze gq hsl i2 i3
          go_wp2_with fail
          go_roundw
          case rel =>
            have hh := HZ.out ()
            have hq := HQ.out ()
            exact ⟨i, H * 18446744073709551616 + tq, Z, (i : Int) - 1, rfl, ⟨by omega, by omega, by omega⟩, fun _ => ⟨hh.2.1, q_next X V D H i tq Z (HV.out ()).2 hh.2.2⟩, _, by rw [q_set H i tq hh.1]⟩
          case measure => simp [intOf]
      · obtain rfl : j = 0 := by omega
        have yn : ¬ (0 : Int) ≤ y := by have := HY.out.1; omega
        have yn' : y < 0 := by omega
        obtain ⟨Q, hQ⟩ : ∃ Q, H * pw 0 = Q := ⟨_, rfl⟩
        rw [hQ]
        have HF : Hid (Unit → V < D ∧ X = V + D * Q) := fun _ => by
          have h1 := HV.out ()
          rw [pw_zero, Nat.mul_one] at h1
          rw [← hQ, pw_zero]
          exact h1
        have hmn : min 19 (n + 1) = n + 1 := by have := HN.out (); omega
        have hn9 : n + 1 ≤ 9 := by have := HN.out (); omega
        have hn19 : n + 1 ≤ 19 := by omega
        have hcp : nw 9 (V % pw (n + 1)) = nw 9 V := by rw [HDl.out V (HF.out ()).1]
        have hs9 := fun b w => slice9 b n (HN.out ()) w
        obtain ⟨R, hR⟩ : ∃ R, V / 2 ^ u = R := ⟨_, rfl⟩
        have hsh := fun w => HSh.out V w (HF.out ()).1
        rw [hR] at hsh
        have HSh2 : Hid (∀ w, Calls Try.prog 66 #[.agg (nw 9 V), .int .i64 (u : Int)] w fun e w' => e = .returned (.tuple #[.agg (nw 9 R), .int .i64 0]) ∧ Gr w w') := hsh
        have HR : Hid (Unit → V / 2 ^ u = R) := fun _ => hR
        clear hQ hR hsh HT HSh HDl HV HY HX HUs HS0 hj
        go_wp2_with fail
        go_big_region
        go_wp2_with (go_at_call 66; refine (HSh2.out _).mono ?_; rintro e w' ⟨rfl, k4, rfl⟩)
        go_big_region
        go_wp2_with fail
        refine bodyPost_ret (res_two Try.results47 (rd_wide (x := Q) (by rfl) ?_) (rd_nat (x := R) (by rfl) ?_)) rfl ⟨Q, V, by rw [HR.out ()], (HXX.out ()).trans (HF.out ()).2, (HF.out ()).1, (by repeat (first | exact Gr.refl _ | apply Gr.drewN | apply Gr.drew | apply Gr.alloc | apply Gr.gro))⟩
        · simp [go_sem]
        · simp [go_sem]

end Go.Proofs.Ytleckbdhebjfkaa
