/-
  The statement FieldTiny, walked: it answers true for every number.
-/
import Derived.Test.YtkmpholjlophpaaZFAw
import Derived.Test.YtkmpholjlophpaaZFL
import Derived.Test.YtkmpholjlophpaaZFQ
namespace Go.Proofs.Ytkmpholjlophpaa
open Go.RowKit
attribute [local go_sem ↓] loadNat_is loadArr_is loadWide_is loadArrW_is storeNat_is storeWide_is
attribute [local go_sem] loadNat loadArr loadWide loadArrW storeNat storeWide idxArr fold9 fold18 nw_size nw_elem pre_self pre_1 pre_2 pre_3 pre_4 pre_5 pre_6 pre_7 pre_8 pre_9 pre_10 pre_11 pre_12 pre_13 pre_14 pre_15 pre_16 pre_17 pre_18 pre_19 pre_20 pre_21 pre_22 pre_23 pre_24 pre_25 pre_26 pre_27 pre_28 pre_29 pre_30 pre_31 pre_32 pre_33 pre_34 pre_35 pre_36 pre_37 pre_38 pre_39 pre_40 gro_size gro_drew gro_drewN drew_gro drewN_gro gro_gro blk_gro frz_gro blk_drew frz_drew blk_drewN frz_drewN blk_alloc_at frz_alloc_at blk_alloc frz_alloc cell_gro frozen_gro cell_alloc_pre frozen_alloc_pre setCell_drewN alloc_drewN setBlk_drew setBlk_drewN setBlk_alloc_at setBlk_alloc setBlk_gro setCell_gro setCell_alloc_pre size_setBlk size_setCell
attribute [local go_sem] nw_ext9 nw_ext18 eqArr9 eqArr18

attribute [local go_sem] loadNat2 loadArr2 loadWide2 loadK_nw ppre_1 ppre_2 ppre_3 ppre_4 ppre_5 ppre_6 ppre_7 ppre_8 ppre_9 ppre_10 ppre_11 ppre_12 ppre_13 ppre_14 ppre_15 ppre_16 ppre_17 ppre_18 ppre_19 ppre_20

attribute [local go_sem ↓] loadC_is storeC_is Go.wp_at_zero Go.wp_at_succ
attribute [local go_sem] eqN_self loadC storeCv cvA_size frz_setBlk blk_setBlk setBlk_setBlk blk_other
/-- How many of 1 to n have a root. -/
def cntR (k : Nat) : Nat → Nat
  | 0 => 0
  | n + 1 => cntR k n + (if sqE k (n + 1) = 0 then 1 else 0)
/-- The tiny curve that a number is turned into. -/
def idx3 (id : Int) : Nat := (IntKind.u64.wrap id).toNat % 3 + 13
theorem idx3_bd (id : Int) : 13 ≤ idx3 id ∧ idx3 id ≤ 15 := by unfold idx3; omega
theorem idx3_conv (id : Int) : ∃ u : Nat, IntKind.u64.wrap id = (u : Int) ∧ (u : Int) < 18446744073709551616 ∧ (13 : Int) + (u : Int) % 3 = (idx3 id : Int) := by
  have h : 0 ≤ IntKind.u64.wrap id ∧ IntKind.u64.wrap id < 18446744073709551616 := by rw [IntKind.wrap_u64]; omega
  refine ⟨(IntKind.u64.wrap id).toNat, ?_, ?_, ?_⟩
  · omega
  · omega
  · unfold idx3; omega
theorem tiny_bd (k : Nat) (h1 : 13 ≤ k) (h2 : k ≤ 15) : 200 < pN k ∧ pN k < 256 ∧ cntR k (pN k - 1) = (pN k - 1) / 2 := by
  obtain rfl | rfl | rfl : k = 13 ∨ k = 14 ∨ k = 15 := by omega
  all_goals exact ⟨by decide +kernel, by decide +kernel, by decide +kernel⟩
theorem small_wd (x : Nat) (h : x < 18446744073709551616) : wd x 0 = x := wd_small x h
set_option maxRecDepth 100000 in
set_option maxHeartbeats 4000000 in
theorem ftiny_k (id : Int) (k : Nat) (hidx : idx3 id = k) (w : World) :
    Calls Try.prog 11 #[.int .i64 id] w fun e w' => e = .returned (.bool true) ∧ Gr w w' := by
  have hk13 := idx3_bd id
  rw [hidx] at hk13
  have h1 : 1 ≤ k := by omega
  have h2 : k ≤ 15 := hk13.2
  have HO : ∀ w, Calls Try.prog 13 #[.int .i64 (k : Int)] w fun e w' => ∃ p n q, e = .returned (.tuple #[.agg (cvA (k : Int) p (dl (pN k)) n q), .bool true]) ∧ Sl w' p (pN k) ∧ Gr w w' := fun w => get_yes k h1 h2 w
  obtain ⟨u, hu, hu2, hk⟩ := idx3_conv id
  rw [hidx] at hk
  have u0 : (0 : Int) ≤ (u : Int) := by omega
  have hk3 : IntKind.i64.wrap ((u : Int) % 3) = (u : Int) % 3 := by rw [IntKind.wrap_i64]; omega
  have hk4 : IntKind.u64.wrap ((u : Int) % 3) = (u : Int) % 3 := by rw [IntKind.wrap_u64]; omega
  have hk5 : (u : Int).tmod 3 = (u : Int) % 3 := by rw [Int.tmod_eq_emod_of_nonneg (by omega)]
  have k0 : (1 : Int) ≤ (k : Int) := by omega
  have k1 : (k : Int) ≤ 15 := by omega
  have hu3 : id % 18446744073709551616 = (u : Int) := by rw [← hu, IntKind.wrap_u64]
  have htb := tiny_bd k hk13.1 hk13.2
  have hB := pN_bd k h1 h2
  have hdl := pN_dl k h1 h2
  have hprm := prm_pN k h1 h2
  obtain ⟨m, hm⟩ : ∃ m, pN k = m := ⟨_, rfl⟩
  have FA := fun a b ha hb w => fAdd_ok k a b h1 h2 ha hb w
  have FSu := fun a b ha hb w => fSub_ok k a b h1 h2 ha hb w
  have FR := fun W hW w => fReduce_ok k W h1 h2 hW w
  have FM := fun a b ha hb w => fMul_ok k a b h1 h2 ha hb w
  have FI := fun a h0 ha hg => fInv_ok k a h1 h2 h0 ha hg
  have FZ := fun w => fInv_zero k h1 h2 w
  rw [hm] at hB hdl hprm FA FSu FR FM FI HO
  have FQ1 := fun a ha w => fSqrt_ok k a h1 h2 ha w
  have SQ := fun a (ha : a < pN k) => (show cN k a * cN k a % pN k = a → sqE k a = 0 ∧ sqR k a < pN k ∧ sqR k a % 2 = 0 ∧ sqR k a * sqR k a % pN k = a from fun h => sq_spec k a h1 h2 h)
  have SN := fun a => sq_none k a
  rw [hm] at FQ1 htb SQ SN
  have hdm : dg m 0 = m := by unfold dg; rw [pq_zero, Nat.div_one]; exact Nat.mod_eq_of_lt (by omega)
  have hdl1 : 0 < dl m := by
    rcases Nat.eq_zero_or_pos (dl m) with e | e
    · have := (dl_le m 0).1 (by omega); rw [pq_zero] at this; omega
    · exact e
  have FI' : Hid (∀ x, x ≠ 0 → x < m → ∃ r, r < m ∧ x * r % m = 1 ∧ ∀ w, Calls Try.prog 28 #[.int .i64 k, .agg (nw 9 x)] w fun e w' => e = .returned (.tuple #[.agg (nw 9 r), .int .i64 0]) ∧ Gr w w') := fun x hx hxm => FI x (by omega) hxm (hprm.cop (not_dvd hx hxm))
  have FQ' : Hid (∀ x, x < m → ∀ w, Calls Try.prog 29 #[.int .i64 k, .agg (nw 9 x)] w fun e w' => e = .returned (.tuple #[.agg (nw 9 (sqR k x)), .int .i64 (sqE k x)]) ∧ Gr w w') := FQ1
  have SQ' : Hid (∀ x, x < m → (sqE k x = 0 ∧ sqR k x < m ∧ sqR k x % 2 = 0 ∧ sqR k x * sqR k x % m = x) ∨ sqE k x = 503) := fun x hx => by
    by_cases h : cN k x * cN k x % m = x
    · exact .inl (SQ x (by omega) h)
    · exact .inr (SN x h).1
  have HT : Hid (Unit → 200 < m ∧ m < 256 ∧ cntR k (m - 1) = (m - 1) / 2 ∧ dg m 0 = m ∧ 0 < dl m) := fun _ => ⟨htb.1, htb.2.1, htb.2.2, hdm, hdl1⟩
  have HO' : Hid (∀ w, Calls Try.prog 13 #[.int .i64 (k : Int)] w fun e w' => ∃ p n q, e = .returned (.tuple #[.agg (cvA (k : Int) p (dl m) n q), .bool true]) ∧ Sl w' p m ∧ Gr w w') := HO
  have m1 : (m : Int) < 256 := by have := htb.2.1; omega
  have m0 : (200 : Int) < (m : Int) := by have := htb.1; omega
  clear HO FA FSu FR FM FI FZ hprm hB hdl hm h1 h2 hidx hk13 FQ1 SQ SN hdm hdl1 htb
  go_enter Try.func11, Try.ntmps11
  go_upto_region 3 with (go_at_call 19; refine (awake5_any _).mono ?_; rintro e w' ⟨rfl, gaw, rfl⟩)
  refine gen_w (fun v => Hid (Gr w v)) (by repeat (first | exact Gr.refl _ | apply Gr.drewN | apply Gr.drew | apply Gr.alloc | apply Gr.gro)) ?_
  intro v0 HV
  go_cut [3, 4] from 14 to 22 (fun a0 a1 wx => ∃ (e3 : Nat) (p : Option Addr) (n : Nat) (q : Nat → Option Addr × Nat × Nat), a0 = .pointer (some ⟨e3, 0, none⟩) ∧ a1 = .bool true ∧ Hid (Gr w wx ∧ Cv wx e3 k p (dl m) n q ∧ Sl wx p m))
  case first =>
    have G := HV.out
    go_wp2_with (go_at_call 13; refine (HO'.out _).mono ?_; rintro e W1 ⟨p, n, q, rfl, S1, G1⟩)
    go_meet
    exact ⟨_, p, n, q, rfl, rfl, G.trans (G1.trans (by repeat (first | exact Gr.refl _ | apply Gr.drewN | apply Gr.drew | apply Gr.alloc | apply Gr.gro))), ⟨by simp [go_sem], by simp [go_sem], by simp [go_sem]⟩, S1.gr (by repeat (first | exact Gr.refl _ | apply Gr.drewN | apply Gr.drew | apply Gr.alloc | apply Gr.gro))⟩
  clear HV
  obtain ⟨e3, p, n, q, rfl, rfl, HV⟩ := hcut
  have ⟨G, c_e3, S_p⟩ := HV.out
  have ⟨hc_e3, fc_e3, pc_e3⟩ := c_e3
  have h1c := c_e3.at1
  obtain ⟨bp, rfl, pbp, hb0⟩ := S_p 0 (HT.out ()).2.2.2.2
  have hbc : wc.cell? ⟨bp, 0, none⟩ = some (.int .u32 (m : Int)) := by rw [cell_blk, hb0, (HT.out ()).2.2.2.1]
  have hl0 : (0 : Int) < ((dl m : Nat) : Int) := by have := (HT.out ()).2.2.2.2; omega
  have hw0 : IntKind.u64.wrap (m : Int) = (m : Int) := by rw [IntKind.wrap_u64]; omega
  clear HO' hu hu2 hk u0 hk3 hk4 hk5 hu3 k0 k1
  go_wp2_with fail
  go_loopw [6, 7] (fun a6 a7 wr => ∃ x c : Nat, a6 = .int .u64 (c : Int) ∧ a7 = .int .u64 (x : Int) ∧ Hid (Unit → 1 ≤ x ∧ x ≤ m ∧ cntR k (x - 1) = c ∧ c < x) ∧ Hid (Gr w wr ∧ Cv wr e3 k (some ⟨bp, 0, none⟩) (dl m) n q)) (fun _ a7 _ => ((m : Int) - intOf a7).toNat)
  case atStart => exact ⟨1, 0, rfl, rfl, fun _ => ⟨by decide, by omega, rfl, by decide⟩, by repeat (first | exact G | apply Gr.drewN | apply Gr.drew), c_e3⟩
  case round =>
    clear HV G c_e3 S_p hc_e3 fc_e3 pc_e3 h1c pbp hb0 hbc hl0 hw0
    obtain ⟨x, c, rfl, rfl, HX, HV⟩ := hrel
    obtain ⟨x1, xm, hcx, hcl⟩ := HX.out ()
    have x0 : (0 : Int) ≤ (x : Int) := by omega
    have c0 : (0 : Int) ≤ (c : Int) := by omega
    have c1 : (c : Int) < 256 := by omega
    by_cases hx : x < m
    · have hxm := hx
      have x2 : (x : Int) < (m : Int) := by omega
      obtain ⟨f, hrm, hr, ci⟩ := FI'.out x (by omega) hx
      have hr0 : wd f 0 = f := small_wd f (by omega)
      have hrx : f * x < 65536 := by
        have : f * x ≤ 255 * 255 := Nat.mul_le_mul (by omega) (by omega)
        omega
      obtain ⟨t1, ht1⟩ : ∃ t, f * x = t := ⟨_, rfl⟩
      have w1 : IntKind.u64.wrap ((f : Int) * (x : Int)) = (t1 : Int) := by rw [← Int.natCast_mul, ht1, IntKind.wrap_u64]; omega
      have w2 : (t1 : Int) % (m : Int) = 1 := by
        have : t1 % m = 1 := by rw [← ht1, Nat.mul_comm]; exact hr
        omega
      have w3 : (t1 : Int).tmod (m : Int) = 1 := by rw [Int.tmod_eq_emod_of_nonneg (by omega)]; exact w2
      have w4 : ¬ (m : Int) = 0 := by omega
      rcases SQ'.out x hx with hsq | hE
      · have hE := hsq.1
        obtain ⟨s, hs⟩ : ∃ s, sqR k x = s := ⟨_, rfl⟩
        rw [hs] at hsq
        have hs0 : wd s 0 = s := small_wd s (by omega)
        obtain ⟨t2, ht2⟩ : ∃ t, s * s = t := ⟨_, rfl⟩
        have hss : s * s < 65536 := by
          have : s * s ≤ 255 * 255 := Nat.mul_le_mul (by omega) (by omega)
          omega
        have v1 : IntKind.u64.wrap ((s : Int) * (s : Int)) = (t2 : Int) := by rw [← Int.natCast_mul, ht2, IntKind.wrap_u64]; omega
        have v2 : (t2 : Int) % (m : Int) = (x : Int) := by
          have : t2 % m = x := by rw [← ht2]; exact hsq.2.2.2
          omega
        have v3 : (t2 : Int).tmod (m : Int) = (x : Int) := by rw [Int.tmod_eq_emod_of_nonneg (by omega)]; exact v2
        have hand : bits BinOp.and IntKind.u64 (s : Int) 1 = 0 := by
          have := bit_conv s 0 0 (by decide)
          rw [Int.pow_zero, Int.ediv_one, hs0] at this
          rw [this]
          unfold bitN
          rw [Nat.mul_zero, Nat.add_zero, Nat.pow_zero, Nat.div_one, hsq.2.2.1]
          rfl
        have HX2 : Hid (Unit → 1 ≤ x + 1 ∧ x + 1 ≤ m ∧ cntR k (x + 1 - 1) = c + 1 ∧ c + 1 < x + 1) := fun _ => ⟨by omega, hx, by
          obtain ⟨y, rfl⟩ : ∃ y, x = y + 1 := ⟨x - 1, by omega⟩
          rw [Nat.add_sub_cancel] at hcx ⊢
          rw [cntR, hcx, if_pos hE], by omega⟩
        have O1 : Hid (∀ w', Calls Try.prog 33 #[.int .u64 (x : Int)] w' fun e w'' => e = .returned (.agg (nw 9 x)) ∧ Gr w' w'') := fun w => one_any x (by omega) w
        have I1 : Hid (∀ w', Calls Try.prog 28 #[.int .i64 k, .agg (nw 9 x)] w' fun e w'' => e = .returned (.tuple #[.agg (nw 9 f), .int .i64 0]) ∧ Gr w' w'') := ci
        have S1 : Hid (∀ w', Calls Try.prog 29 #[.int .i64 k, .agg (nw 9 x)] w' fun e w'' => e = .returned (.tuple #[.agg (nw 9 s), .int .i64 0]) ∧ Gr w' w'') := fun w => by
            have := FQ'.out x hxm w
            rw [hs, hE] at this
            exact this
        clear FI' FQ' SQ' HX HT hr hrm ci ht1 hrx hsq hE hs ht2 hss hcx hcl x1 xm hx hxm
        go_upto_region 11 with fail
        go_cut [8, 9] from 35 to 42 (fun a0 a1 wx => ∃ e8 : Nat, a0 = .pointer (some ⟨e8, 0, none⟩) ∧ a1 = .int .i64 0 ∧ Hid (Gr w wx ∧ Cv wx e3 k (some ⟨bp, 0, none⟩) (dl m) n q ∧ Cl wx e8 f))
        case first =>
          have ⟨G, c_e3⟩ := HV.out
          have ⟨hc_e3, fc_e3, pc_e3⟩ := c_e3
          have h0c_e3 := (c_e3).at0
          have h1c_e3 := (c_e3).at1
          refine wp_region_mix (by kernel_rfl) (by kernel_rfl) (RG _ (fun i => match i with | 0 => some (.pointer (some ⟨e3, 0, none⟩)) | 1 => some (.int .i64 k) | 2 => some (.int .u64 (x : Int)) | 3 => some (.agg (nw 9 x)) | 4 => some (.tuple #[.agg (nw 9 f), .int .i64 0]) | 5 => some (.tuple #[.agg (nw 9 f), .int .i64 0]) | 6 => some (.agg (nw 9 f)) | 7 => some (.int .i64 0) | 10 => some (.int .i64 0) | _ => none) (fun i => match i with | 8 => some (nw 9 0) | _ => none) (fun i => match i with | 8 => some (9, nw 9 f) | _ => none)) (RG.start _ _ _ _ _ _) ?hs ?hf
          case hs =>
            intro listed vals a1 v1 i o hz hR hF ho hl hd
            have hks : ∀ (j k : Nat) (r : Array Value), (match j with | 8 => some (9, nw 9 f) | _ => (none : Option (Nat × Array Value))) = some (k, r) → (j = 8 ∧ k = 9) := fun j k r h => by
              split at h <;> simp_all
            have Hc_e3 : blk v1 (e3) = cvA k (some ⟨bp, 0, none⟩) (dl m) n q := (blk_of _ _ _ (hR.1.below.block (e3) (c_e3.p))).trans (c_e3.h)
            have hi : i < 11 := by simpa using (Array.getElem?_eq_some_iff.1 ho).1
            have hil : i < listed.size := by rw [hz]; simpa using hi
            obtain rfl | rfl | rfl | rfl | rfl | rfl | rfl | rfl | rfl | rfl | rfl : i = 0 ∨ i = 1 ∨ i = 2 ∨ i = 3 ∨ i = 4 ∨ i = 5 ∨ i = 6 ∨ i = 7 ∨ i = 8 ∨ i = 9 ∨ i = 10 := by omega
            · obtain rfl := Option.some.inj ho
              have f0 := hF.old (s := 3) (v := .pointer (some ⟨e3, 0, none⟩)) (by kernel_rfl) rfl
              exact wp_val (.pointer (some ⟨e3, 0, none⟩)) (by simp [go_sem, f0]) ⟨_, rfl, RG.quiet 0 _ hil rfl rfl (fun j k r h => by have := hks j k r h; omega) (Gr.refl _) hR⟩
            · obtain rfl := Option.some.inj ho
              have l0 := hd ⟨0, .data⟩ (by simp) rfl
              have f0 := hF.at (s := 36) (i := 0) (by kernel_rfl) (by simp) l0
              rw [hR.2.1 0 _ l0 rfl] at f0
              exact wp_val (.int .i64 k) (by simp [go_sem, f0, cell_blk, Hc_e3, cvA_0]) ⟨_, rfl, RG.quiet 1 _ hil rfl rfl (fun j k r h => by have := hks j k r h; omega) (Gr.refl _) hR⟩
            · obtain rfl := Option.some.inj ho
              have f0 := hF.old (s := 7) (v := .int .u64 (x : Int)) (by kernel_rfl) rfl
              exact wp_val (.int .u64 (x : Int)) (by simp [go_sem, f0]) ⟨_, rfl, RG.quiet 2 _ hil rfl rfl (fun j k r h => by have := hks j k r h; omega) (Gr.refl _) hR⟩
            · obtain rfl := Option.some.inj ho
              have l0 := hd ⟨2, .data⟩ (by simp) rfl
              have f0 := hF.at (s := 38) (i := 2) (by kernel_rfl) (by simp) l0
              rw [hR.2.1 2 _ l0 rfl] at f0
              exact wp_ret (.agg (nw 9 x)) (by simp [go_sem, f0]) (O1.out _) (fun w2 hg => ⟨_, rfl, RG.quiet 3 _ hil rfl rfl (fun j k r h => by have := hks j k r h; omega) hg hR⟩)
            · obtain rfl := Option.some.inj ho
              have l0 := hd ⟨1, .data⟩ (by simp) rfl
              have f0 := hF.at (s := 37) (i := 1) (by kernel_rfl) (by simp) l0
              rw [hR.2.1 1 _ l0 rfl] at f0
              have l1 := hd ⟨3, .data⟩ (by simp) rfl
              have f1 := hF.at (s := 39) (i := 3) (by kernel_rfl) (by simp) l1
              rw [hR.2.1 3 _ l1 rfl] at f1
              exact wp_ret (.tuple #[.agg (nw 9 f), .int .i64 0]) (by simp [go_sem, f0, f1]) (I1.out _) (fun w2 hg => ⟨_, rfl, RG.quiet 4 _ hil rfl rfl (fun j k r h => by have := hks j k r h; omega) hg hR⟩)
            · obtain rfl := Option.some.inj ho
              have l0 := hd ⟨4, .data⟩ (by simp) rfl
              have f0 := hF.at (s := 40) (i := 4) (by kernel_rfl) (by simp) l0
              rw [hR.2.1 4 _ l0 rfl] at f0
              exact wp_val (.tuple #[.agg (nw 9 f), .int .i64 0]) (by simp [go_sem, f0]) ⟨_, rfl, RG.quiet 5 _ hil rfl rfl (fun j k r h => by have := hks j k r h; omega) (Gr.refl _) hR⟩
            · obtain rfl := Option.some.inj ho
              have l0 := hd ⟨5, .data⟩ (by simp) rfl
              have f0 := hF.at (s := 35) (i := 5) (by kernel_rfl) (by simp) l0
              rw [hR.2.1 5 _ l0 rfl] at f0
              exact wp_val (.agg (nw 9 f)) (by simp [go_sem, f0]) ⟨_, rfl, RG.quiet 6 _ hil rfl rfl (fun j k r h => by have := hks j k r h; omega) (Gr.refl _) hR⟩
            · obtain rfl := Option.some.inj ho
              have l0 := hd ⟨5, .data⟩ (by simp) rfl
              have f0 := hF.at (s := 35) (i := 5) (by kernel_rfl) (by simp) l0
              rw [hR.2.1 5 _ l0 rfl] at f0
              exact wp_val (.int .i64 0) (by simp [go_sem, f0]) ⟨_, rfl, RG.quiet 7 _ hil rfl rfl (fun j k r h => by have := hks j k r h; omega) (Gr.refl _) hR⟩
            · obtain rfl := Option.some.inj ho
              exact wp_val (.pointer (some ⟨v1.heap.size, 0, none⟩)) (w' := v1.alloc (.cells (nw 9 0) 25)) (by simp [go_sem]) ⟨_, rfl, RG.alloc 8 (nw 9 0) 25 hil hl rfl rfl (fun j k r h => by have := hks j k r h; omega) hR⟩
            · obtain rfl := Option.some.inj ho
              have l0 := hd ⟨8, .data⟩ (by simp) rfl
              have l1 := hd ⟨6, .data⟩ (by simp) rfl
              obtain ⟨B, h4, h5⟩ := hR.2.2.2
              obtain ⟨e1, e2, e3, e4, e5⟩ := h4 8 (nw 9 0) l0 rfl
              simp only [hl] at e5
              replace e5 : blk v1 (B 8) = nw 9 0 := e5
              have f0 := hF.at (s := 8) (i := 8) (by kernel_rfl) (by simp) l0
              rw [e1] at f0
              have f1 := hF.at (s := 41) (i := 6) (by kernel_rfl) (by simp) l1
              rw [hR.2.1 6 _ l1 rfl] at f1
              exact wp_skip (w' := setBlk v1 (B 8) (nw 9 f)) (by simp [go_sem, f0, f1, e4, e5]) ⟨undef, rfl, RG.store 9 8 (nw 9 0) (nw 9 f) (B 8) hil hl rfl rfl rfl l0 rfl (by rw [nw_size]; decide) e1 (fun k r h => by have := hks k _ r h; omega) hR⟩
            · obtain rfl := Option.some.inj ho
              have l0 := hd ⟨7, .data⟩ (by simp) rfl
              have f0 := hF.at (s := 42) (i := 7) (by kernel_rfl) (by simp) l0
              rw [hR.2.1 7 _ l0 rfl] at f0
              exact wp_val (.int .i64 0) (by simp [go_sem, f0]) ⟨_, rfl, RG.quiet 10 _ hil rfl rfl (fun j k r h => by have := hks j k r h; omega) (Gr.refl _) hR⟩
          case hf =>
            intro listed vals a1 v1 hall hR hF
            have Hc_e3 : blk v1 (e3) = cvA k (some ⟨bp, 0, none⟩) (dl m) n q := (blk_of _ _ _ (hR.1.below.block (e3) (c_e3.p))).trans (c_e3.h)
            have pHc_e3 : Pre (e3 + 1) v1.heap.size := Nat.le_trans (show e3 + 1 ≤ _ from c_e3.p) hR.1.below.size
            have hV := hR.2.1
            obtain ⟨B, h4, h5⟩ := hR.2.2.2
            have x0 := hV 0 _ (hall 0 (by simp)) rfl
            have x1 := hV 1 _ (hall 1 (by simp)) rfl
            have x2 := hV 2 _ (hall 2 (by simp)) rfl
            have x3 := hV 3 _ (hall 3 (by simp)) rfl
            have x4 := hV 4 _ (hall 4 (by simp)) rfl
            have x5 := hV 5 _ (hall 5 (by simp)) rfl
            have x6 := hV 6 _ (hall 6 (by simp)) rfl
            have x7 := hV 7 _ (hall 7 (by simp)) rfl
            have x10 := hV 10 _ (hall 10 (by simp)) rfl
            obtain ⟨x8, q8, p8, z8, y8⟩ := h4 8 _ (hall 8 (by simp)) rfl
            simp only [hall 9 (by simp), if_true] at y8
            replace p8 : Pre (B 8 + 1) v1.heap.size := p8
            replace y8 : blk v1 (B 8) = nw 9 f := y8
            have hb1 := hR.1
            rw [hF.final (by kernel_rfl) hall]
            simp only [putFrom, Act.put, List.setIfInBounds_toArray, List.set_cons_zero, List.set_cons_succ, x0, x1, x2, x3, x4, x5, x6, x7, x10, x8]
            generalize B 8 = b8 at *
            clear hV h4 h5 hR hF hall x0 x1 x2 x3 x4 x5 x6 x7 x10 x8
            go_wp2_with fail
            go_meet
            exact ⟨b8, rfl, rfl, G.trans hb1, c_e3.gr hb1, ⟨y8, z8, p8⟩⟩
        clear HV
        obtain ⟨e8, rfl, rfl, HV⟩ := hcut
        go_upto_region 12 with fail
        go_cut [10, 11] from 43 to 50 (fun a0 a1 wx => ∃ e10 : Nat, a0 = .pointer (some ⟨e10, 0, none⟩) ∧ a1 = .int .i64 0 ∧ Hid (Gr w wx ∧ Cv wx e3 k (some ⟨bp, 0, none⟩) (dl m) n q ∧ Cl wx e8 f ∧ Cl wx e10 s))
        case first =>
          have ⟨G, c_e3, c_e8⟩ := HV.out
          have ⟨hc_e3, fc_e3, pc_e3⟩ := c_e3
          have h0c_e3 := (c_e3).at0
          have h1c_e3 := (c_e3).at1
          have ⟨hc_e8, fc_e8, pc_e8⟩ := c_e8
          refine wp_region_mix (by kernel_rfl) (by kernel_rfl) (RG _ (fun i => match i with | 0 => some (.pointer (some ⟨e3, 0, none⟩)) | 1 => some (.int .i64 k) | 2 => some (.int .u64 (x : Int)) | 3 => some (.agg (nw 9 x)) | 4 => some (.tuple #[.agg (nw 9 s), .int .i64 0]) | 5 => some (.tuple #[.agg (nw 9 s), .int .i64 0]) | 6 => some (.agg (nw 9 s)) | 7 => some (.int .i64 0) | 10 => some (.int .i64 0) | _ => none) (fun i => match i with | 8 => some (nw 9 0) | _ => none) (fun i => match i with | 8 => some (9, nw 9 s) | _ => none)) (RG.start _ _ _ _ _ _) ?hs ?hf
          case hs =>
            intro listed vals a1 v1 i o hz hR hF ho hl hd
            have hks : ∀ (j k : Nat) (r : Array Value), (match j with | 8 => some (9, nw 9 s) | _ => (none : Option (Nat × Array Value))) = some (k, r) → (j = 8 ∧ k = 9) := fun j k r h => by
              split at h <;> simp_all
            have Hc_e3 : blk v1 (e3) = cvA k (some ⟨bp, 0, none⟩) (dl m) n q := (blk_of _ _ _ (hR.1.below.block (e3) (c_e3.p))).trans (c_e3.h)
            have Hc_e8 : blk v1 (e8) = nw 9 f := (blk_of _ _ _ (hR.1.below.block (e8) (c_e8.p))).trans (c_e8.h)
            have hi : i < 11 := by simpa using (Array.getElem?_eq_some_iff.1 ho).1
            have hil : i < listed.size := by rw [hz]; simpa using hi
            obtain rfl | rfl | rfl | rfl | rfl | rfl | rfl | rfl | rfl | rfl | rfl : i = 0 ∨ i = 1 ∨ i = 2 ∨ i = 3 ∨ i = 4 ∨ i = 5 ∨ i = 6 ∨ i = 7 ∨ i = 8 ∨ i = 9 ∨ i = 10 := by omega
            · obtain rfl := Option.some.inj ho
              have f0 := hF.old (s := 3) (v := .pointer (some ⟨e3, 0, none⟩)) (by kernel_rfl) rfl
              exact wp_val (.pointer (some ⟨e3, 0, none⟩)) (by simp [go_sem, f0]) ⟨_, rfl, RG.quiet 0 _ hil rfl rfl (fun j k r h => by have := hks j k r h; omega) (Gr.refl _) hR⟩
            · obtain rfl := Option.some.inj ho
              have l0 := hd ⟨0, .data⟩ (by simp) rfl
              have f0 := hF.at (s := 44) (i := 0) (by kernel_rfl) (by simp) l0
              rw [hR.2.1 0 _ l0 rfl] at f0
              exact wp_val (.int .i64 k) (by simp [go_sem, f0, cell_blk, Hc_e3, cvA_0]) ⟨_, rfl, RG.quiet 1 _ hil rfl rfl (fun j k r h => by have := hks j k r h; omega) (Gr.refl _) hR⟩
            · obtain rfl := Option.some.inj ho
              have f0 := hF.old (s := 7) (v := .int .u64 (x : Int)) (by kernel_rfl) rfl
              exact wp_val (.int .u64 (x : Int)) (by simp [go_sem, f0]) ⟨_, rfl, RG.quiet 2 _ hil rfl rfl (fun j k r h => by have := hks j k r h; omega) (Gr.refl _) hR⟩
            · obtain rfl := Option.some.inj ho
              have l0 := hd ⟨2, .data⟩ (by simp) rfl
              have f0 := hF.at (s := 46) (i := 2) (by kernel_rfl) (by simp) l0
              rw [hR.2.1 2 _ l0 rfl] at f0
              exact wp_ret (.agg (nw 9 x)) (by simp [go_sem, f0]) (O1.out _) (fun w2 hg => ⟨_, rfl, RG.quiet 3 _ hil rfl rfl (fun j k r h => by have := hks j k r h; omega) hg hR⟩)
            · obtain rfl := Option.some.inj ho
              have l0 := hd ⟨1, .data⟩ (by simp) rfl
              have f0 := hF.at (s := 45) (i := 1) (by kernel_rfl) (by simp) l0
              rw [hR.2.1 1 _ l0 rfl] at f0
              have l1 := hd ⟨3, .data⟩ (by simp) rfl
              have f1 := hF.at (s := 47) (i := 3) (by kernel_rfl) (by simp) l1
              rw [hR.2.1 3 _ l1 rfl] at f1
              exact wp_ret (.tuple #[.agg (nw 9 s), .int .i64 0]) (by simp [go_sem, f0, f1]) (S1.out _) (fun w2 hg => ⟨_, rfl, RG.quiet 4 _ hil rfl rfl (fun j k r h => by have := hks j k r h; omega) hg hR⟩)
            · obtain rfl := Option.some.inj ho
              have l0 := hd ⟨4, .data⟩ (by simp) rfl
              have f0 := hF.at (s := 48) (i := 4) (by kernel_rfl) (by simp) l0
              rw [hR.2.1 4 _ l0 rfl] at f0
              exact wp_val (.tuple #[.agg (nw 9 s), .int .i64 0]) (by simp [go_sem, f0]) ⟨_, rfl, RG.quiet 5 _ hil rfl rfl (fun j k r h => by have := hks j k r h; omega) (Gr.refl _) hR⟩
            · obtain rfl := Option.some.inj ho
              have l0 := hd ⟨5, .data⟩ (by simp) rfl
              have f0 := hF.at (s := 43) (i := 5) (by kernel_rfl) (by simp) l0
              rw [hR.2.1 5 _ l0 rfl] at f0
              exact wp_val (.agg (nw 9 s)) (by simp [go_sem, f0]) ⟨_, rfl, RG.quiet 6 _ hil rfl rfl (fun j k r h => by have := hks j k r h; omega) (Gr.refl _) hR⟩
            · obtain rfl := Option.some.inj ho
              have l0 := hd ⟨5, .data⟩ (by simp) rfl
              have f0 := hF.at (s := 43) (i := 5) (by kernel_rfl) (by simp) l0
              rw [hR.2.1 5 _ l0 rfl] at f0
              exact wp_val (.int .i64 0) (by simp [go_sem, f0]) ⟨_, rfl, RG.quiet 7 _ hil rfl rfl (fun j k r h => by have := hks j k r h; omega) (Gr.refl _) hR⟩
            · obtain rfl := Option.some.inj ho
              exact wp_val (.pointer (some ⟨v1.heap.size, 0, none⟩)) (w' := v1.alloc (.cells (nw 9 0) 25)) (by simp [go_sem]) ⟨_, rfl, RG.alloc 8 (nw 9 0) 25 hil hl rfl rfl (fun j k r h => by have := hks j k r h; omega) hR⟩
            · obtain rfl := Option.some.inj ho
              have l0 := hd ⟨8, .data⟩ (by simp) rfl
              have l1 := hd ⟨6, .data⟩ (by simp) rfl
              obtain ⟨B, h4, h5⟩ := hR.2.2.2
              obtain ⟨e1, e2, e3, e4, e5⟩ := h4 8 (nw 9 0) l0 rfl
              simp only [hl] at e5
              replace e5 : blk v1 (B 8) = nw 9 0 := e5
              have f0 := hF.at (s := 10) (i := 8) (by kernel_rfl) (by simp) l0
              rw [e1] at f0
              have f1 := hF.at (s := 49) (i := 6) (by kernel_rfl) (by simp) l1
              rw [hR.2.1 6 _ l1 rfl] at f1
              exact wp_skip (w' := setBlk v1 (B 8) (nw 9 s)) (by simp [go_sem, f0, f1, e4, e5]) ⟨undef, rfl, RG.store 9 8 (nw 9 0) (nw 9 s) (B 8) hil hl rfl rfl rfl l0 rfl (by rw [nw_size]; decide) e1 (fun k r h => by have := hks k _ r h; omega) hR⟩
            · obtain rfl := Option.some.inj ho
              have l0 := hd ⟨7, .data⟩ (by simp) rfl
              have f0 := hF.at (s := 50) (i := 7) (by kernel_rfl) (by simp) l0
              rw [hR.2.1 7 _ l0 rfl] at f0
              exact wp_val (.int .i64 0) (by simp [go_sem, f0]) ⟨_, rfl, RG.quiet 10 _ hil rfl rfl (fun j k r h => by have := hks j k r h; omega) (Gr.refl _) hR⟩
          case hf =>
            intro listed vals a1 v1 hall hR hF
            have Hc_e3 : blk v1 (e3) = cvA k (some ⟨bp, 0, none⟩) (dl m) n q := (blk_of _ _ _ (hR.1.below.block (e3) (c_e3.p))).trans (c_e3.h)
            have pHc_e3 : Pre (e3 + 1) v1.heap.size := Nat.le_trans (show e3 + 1 ≤ _ from c_e3.p) hR.1.below.size
            have Hc_e8 : blk v1 (e8) = nw 9 f := (blk_of _ _ _ (hR.1.below.block (e8) (c_e8.p))).trans (c_e8.h)
            have pHc_e8 : Pre (e8 + 1) v1.heap.size := Nat.le_trans (show e8 + 1 ≤ _ from c_e8.p) hR.1.below.size
            have hV := hR.2.1
            obtain ⟨B, h4, h5⟩ := hR.2.2.2
            have x0 := hV 0 _ (hall 0 (by simp)) rfl
            have x1 := hV 1 _ (hall 1 (by simp)) rfl
            have x2 := hV 2 _ (hall 2 (by simp)) rfl
            have x3 := hV 3 _ (hall 3 (by simp)) rfl
            have x4 := hV 4 _ (hall 4 (by simp)) rfl
            have x5 := hV 5 _ (hall 5 (by simp)) rfl
            have x6 := hV 6 _ (hall 6 (by simp)) rfl
            have x7 := hV 7 _ (hall 7 (by simp)) rfl
            have x10 := hV 10 _ (hall 10 (by simp)) rfl
            obtain ⟨x8, q8, p8, z8, y8⟩ := h4 8 _ (hall 8 (by simp)) rfl
            simp only [hall 9 (by simp), if_true] at y8
            replace p8 : Pre (B 8 + 1) v1.heap.size := p8
            replace y8 : blk v1 (B 8) = nw 9 s := y8
            have hb1 := hR.1
            rw [hF.final (by kernel_rfl) hall]
            simp only [putFrom, Act.put, List.setIfInBounds_toArray, List.set_cons_zero, List.set_cons_succ, x0, x1, x2, x3, x4, x5, x6, x7, x10, x8]
            generalize B 8 = b8 at *
            clear hV h4 h5 hR hF hall x0 x1 x2 x3 x4 x5 x6 x7 x10 x8
            go_wp2_with fail
            go_meet
            exact ⟨b8, rfl, rfl, G.trans hb1, c_e3.gr hb1, c_e8.gr hb1, ⟨y8, z8, p8⟩⟩
        clear HV
        obtain ⟨e10, rfl, rfl, HV⟩ := hcut
        have ⟨G, c_e3, c_e8, c_e10⟩ := HV.out
        have ⟨hc_e3, fc_e3, pc_e3⟩ := c_e3
        have h0c_e3 := (c_e3).at0
        have h1c_e3 := (c_e3).at1
        have ⟨hc_e8, fc_e8, pc_e8⟩ := c_e8
        have ⟨hc_e10, fc_e10, pc_e10⟩ := c_e10
        have hc8 : wc.cell? ⟨e8, 0, none⟩ = some (.int .u64 ((wd f 0 : Nat) : Int)) := by rw [cell_blk, hc_e8]; rfl
        have hc10 : wc.cell? ⟨e10, 0, none⟩ = some (.int .u64 ((wd s 0 : Nat) : Int)) := by rw [cell_blk, hc_e10]; rfl
        go_wp2_with (go_at_call 18; refine (num_any _ _).mono ?_; rintro e w' ⟨rfl, rfl⟩)
        go_roundw
        case rel => exact ⟨x + 1, c + 1, by go_num, by go_num, HX2, G, c_e3⟩
        case measure => simp [intOf]; omega
      · obtain ⟨s, hs⟩ : ∃ s, sqR k x = s := ⟨_, rfl⟩
        have HX2 : Hid (Unit → 1 ≤ x + 1 ∧ x + 1 ≤ m ∧ cntR k (x + 1 - 1) = c ∧ c < x + 1) := fun _ => ⟨by omega, hx, by
          obtain ⟨y, rfl⟩ : ∃ y, x = y + 1 := ⟨x - 1, by omega⟩
          rw [Nat.add_sub_cancel] at hcx ⊢
          rw [cntR, hcx, if_neg (by rw [hE]; decide), Nat.add_zero], by omega⟩
        have O1 : Hid (∀ w', Calls Try.prog 33 #[.int .u64 (x : Int)] w' fun e w'' => e = .returned (.agg (nw 9 x)) ∧ Gr w' w'') := fun w => one_any x (by omega) w
        have I1 : Hid (∀ w', Calls Try.prog 28 #[.int .i64 k, .agg (nw 9 x)] w' fun e w'' => e = .returned (.tuple #[.agg (nw 9 f), .int .i64 0]) ∧ Gr w' w'') := ci
        have S1 : Hid (∀ w', Calls Try.prog 29 #[.int .i64 k, .agg (nw 9 x)] w' fun e w'' => e = .returned (.tuple #[.agg (nw 9 s), .int .i64 503]) ∧ Gr w' w'') := fun w => by
            have := FQ'.out x hxm w
            rw [hs, hE] at this
            exact this
        clear FI' FQ' SQ' HX HT hr hrm ci ht1 hrx hE hs hcx hcl x1 xm hx hxm
        go_upto_region 11 with fail
        go_cut [8, 9] from 35 to 42 (fun a0 a1 wx => ∃ e8 : Nat, a0 = .pointer (some ⟨e8, 0, none⟩) ∧ a1 = .int .i64 0 ∧ Hid (Gr w wx ∧ Cv wx e3 k (some ⟨bp, 0, none⟩) (dl m) n q ∧ Cl wx e8 f))
        case first =>
          have ⟨G, c_e3⟩ := HV.out
          have ⟨hc_e3, fc_e3, pc_e3⟩ := c_e3
          have h0c_e3 := (c_e3).at0
          have h1c_e3 := (c_e3).at1
          refine wp_region_mix (by kernel_rfl) (by kernel_rfl) (RG _ (fun i => match i with | 0 => some (.pointer (some ⟨e3, 0, none⟩)) | 1 => some (.int .i64 k) | 2 => some (.int .u64 (x : Int)) | 3 => some (.agg (nw 9 x)) | 4 => some (.tuple #[.agg (nw 9 f), .int .i64 0]) | 5 => some (.tuple #[.agg (nw 9 f), .int .i64 0]) | 6 => some (.agg (nw 9 f)) | 7 => some (.int .i64 0) | 10 => some (.int .i64 0) | _ => none) (fun i => match i with | 8 => some (nw 9 0) | _ => none) (fun i => match i with | 8 => some (9, nw 9 f) | _ => none)) (RG.start _ _ _ _ _ _) ?hs ?hf
          case hs =>
            intro listed vals a1 v1 i o hz hR hF ho hl hd
            have hks : ∀ (j k : Nat) (r : Array Value), (match j with | 8 => some (9, nw 9 f) | _ => (none : Option (Nat × Array Value))) = some (k, r) → (j = 8 ∧ k = 9) := fun j k r h => by
              split at h <;> simp_all
            have Hc_e3 : blk v1 (e3) = cvA k (some ⟨bp, 0, none⟩) (dl m) n q := (blk_of _ _ _ (hR.1.below.block (e3) (c_e3.p))).trans (c_e3.h)
            have hi : i < 11 := by simpa using (Array.getElem?_eq_some_iff.1 ho).1
            have hil : i < listed.size := by rw [hz]; simpa using hi
            obtain rfl | rfl | rfl | rfl | rfl | rfl | rfl | rfl | rfl | rfl | rfl : i = 0 ∨ i = 1 ∨ i = 2 ∨ i = 3 ∨ i = 4 ∨ i = 5 ∨ i = 6 ∨ i = 7 ∨ i = 8 ∨ i = 9 ∨ i = 10 := by omega
            · obtain rfl := Option.some.inj ho
              have f0 := hF.old (s := 3) (v := .pointer (some ⟨e3, 0, none⟩)) (by kernel_rfl) rfl
              exact wp_val (.pointer (some ⟨e3, 0, none⟩)) (by simp [go_sem, f0]) ⟨_, rfl, RG.quiet 0 _ hil rfl rfl (fun j k r h => by have := hks j k r h; omega) (Gr.refl _) hR⟩
            · obtain rfl := Option.some.inj ho
              have l0 := hd ⟨0, .data⟩ (by simp) rfl
              have f0 := hF.at (s := 36) (i := 0) (by kernel_rfl) (by simp) l0
              rw [hR.2.1 0 _ l0 rfl] at f0
              exact wp_val (.int .i64 k) (by simp [go_sem, f0, cell_blk, Hc_e3, cvA_0]) ⟨_, rfl, RG.quiet 1 _ hil rfl rfl (fun j k r h => by have := hks j k r h; omega) (Gr.refl _) hR⟩
            · obtain rfl := Option.some.inj ho
              have f0 := hF.old (s := 7) (v := .int .u64 (x : Int)) (by kernel_rfl) rfl
              exact wp_val (.int .u64 (x : Int)) (by simp [go_sem, f0]) ⟨_, rfl, RG.quiet 2 _ hil rfl rfl (fun j k r h => by have := hks j k r h; omega) (Gr.refl _) hR⟩
            · obtain rfl := Option.some.inj ho
              have l0 := hd ⟨2, .data⟩ (by simp) rfl
              have f0 := hF.at (s := 38) (i := 2) (by kernel_rfl) (by simp) l0
              rw [hR.2.1 2 _ l0 rfl] at f0
              exact wp_ret (.agg (nw 9 x)) (by simp [go_sem, f0]) (O1.out _) (fun w2 hg => ⟨_, rfl, RG.quiet 3 _ hil rfl rfl (fun j k r h => by have := hks j k r h; omega) hg hR⟩)
            · obtain rfl := Option.some.inj ho
              have l0 := hd ⟨1, .data⟩ (by simp) rfl
              have f0 := hF.at (s := 37) (i := 1) (by kernel_rfl) (by simp) l0
              rw [hR.2.1 1 _ l0 rfl] at f0
              have l1 := hd ⟨3, .data⟩ (by simp) rfl
              have f1 := hF.at (s := 39) (i := 3) (by kernel_rfl) (by simp) l1
              rw [hR.2.1 3 _ l1 rfl] at f1
              exact wp_ret (.tuple #[.agg (nw 9 f), .int .i64 0]) (by simp [go_sem, f0, f1]) (I1.out _) (fun w2 hg => ⟨_, rfl, RG.quiet 4 _ hil rfl rfl (fun j k r h => by have := hks j k r h; omega) hg hR⟩)
            · obtain rfl := Option.some.inj ho
              have l0 := hd ⟨4, .data⟩ (by simp) rfl
              have f0 := hF.at (s := 40) (i := 4) (by kernel_rfl) (by simp) l0
              rw [hR.2.1 4 _ l0 rfl] at f0
              exact wp_val (.tuple #[.agg (nw 9 f), .int .i64 0]) (by simp [go_sem, f0]) ⟨_, rfl, RG.quiet 5 _ hil rfl rfl (fun j k r h => by have := hks j k r h; omega) (Gr.refl _) hR⟩
            · obtain rfl := Option.some.inj ho
              have l0 := hd ⟨5, .data⟩ (by simp) rfl
              have f0 := hF.at (s := 35) (i := 5) (by kernel_rfl) (by simp) l0
              rw [hR.2.1 5 _ l0 rfl] at f0
              exact wp_val (.agg (nw 9 f)) (by simp [go_sem, f0]) ⟨_, rfl, RG.quiet 6 _ hil rfl rfl (fun j k r h => by have := hks j k r h; omega) (Gr.refl _) hR⟩
            · obtain rfl := Option.some.inj ho
              have l0 := hd ⟨5, .data⟩ (by simp) rfl
              have f0 := hF.at (s := 35) (i := 5) (by kernel_rfl) (by simp) l0
              rw [hR.2.1 5 _ l0 rfl] at f0
              exact wp_val (.int .i64 0) (by simp [go_sem, f0]) ⟨_, rfl, RG.quiet 7 _ hil rfl rfl (fun j k r h => by have := hks j k r h; omega) (Gr.refl _) hR⟩
            · obtain rfl := Option.some.inj ho
              exact wp_val (.pointer (some ⟨v1.heap.size, 0, none⟩)) (w' := v1.alloc (.cells (nw 9 0) 25)) (by simp [go_sem]) ⟨_, rfl, RG.alloc 8 (nw 9 0) 25 hil hl rfl rfl (fun j k r h => by have := hks j k r h; omega) hR⟩
            · obtain rfl := Option.some.inj ho
              have l0 := hd ⟨8, .data⟩ (by simp) rfl
              have l1 := hd ⟨6, .data⟩ (by simp) rfl
              obtain ⟨B, h4, h5⟩ := hR.2.2.2
              obtain ⟨e1, e2, e3, e4, e5⟩ := h4 8 (nw 9 0) l0 rfl
              simp only [hl] at e5
              replace e5 : blk v1 (B 8) = nw 9 0 := e5
              have f0 := hF.at (s := 8) (i := 8) (by kernel_rfl) (by simp) l0
              rw [e1] at f0
              have f1 := hF.at (s := 41) (i := 6) (by kernel_rfl) (by simp) l1
              rw [hR.2.1 6 _ l1 rfl] at f1
              exact wp_skip (w' := setBlk v1 (B 8) (nw 9 f)) (by simp [go_sem, f0, f1, e4, e5]) ⟨undef, rfl, RG.store 9 8 (nw 9 0) (nw 9 f) (B 8) hil hl rfl rfl rfl l0 rfl (by rw [nw_size]; decide) e1 (fun k r h => by have := hks k _ r h; omega) hR⟩
            · obtain rfl := Option.some.inj ho
              have l0 := hd ⟨7, .data⟩ (by simp) rfl
              have f0 := hF.at (s := 42) (i := 7) (by kernel_rfl) (by simp) l0
              rw [hR.2.1 7 _ l0 rfl] at f0
              exact wp_val (.int .i64 0) (by simp [go_sem, f0]) ⟨_, rfl, RG.quiet 10 _ hil rfl rfl (fun j k r h => by have := hks j k r h; omega) (Gr.refl _) hR⟩
          case hf =>
            intro listed vals a1 v1 hall hR hF
            have Hc_e3 : blk v1 (e3) = cvA k (some ⟨bp, 0, none⟩) (dl m) n q := (blk_of _ _ _ (hR.1.below.block (e3) (c_e3.p))).trans (c_e3.h)
            have pHc_e3 : Pre (e3 + 1) v1.heap.size := Nat.le_trans (show e3 + 1 ≤ _ from c_e3.p) hR.1.below.size
            have hV := hR.2.1
            obtain ⟨B, h4, h5⟩ := hR.2.2.2
            have x0 := hV 0 _ (hall 0 (by simp)) rfl
            have x1 := hV 1 _ (hall 1 (by simp)) rfl
            have x2 := hV 2 _ (hall 2 (by simp)) rfl
            have x3 := hV 3 _ (hall 3 (by simp)) rfl
            have x4 := hV 4 _ (hall 4 (by simp)) rfl
            have x5 := hV 5 _ (hall 5 (by simp)) rfl
            have x6 := hV 6 _ (hall 6 (by simp)) rfl
            have x7 := hV 7 _ (hall 7 (by simp)) rfl
            have x10 := hV 10 _ (hall 10 (by simp)) rfl
            obtain ⟨x8, q8, p8, z8, y8⟩ := h4 8 _ (hall 8 (by simp)) rfl
            simp only [hall 9 (by simp), if_true] at y8
            replace p8 : Pre (B 8 + 1) v1.heap.size := p8
            replace y8 : blk v1 (B 8) = nw 9 f := y8
            have hb1 := hR.1
            rw [hF.final (by kernel_rfl) hall]
            simp only [putFrom, Act.put, List.setIfInBounds_toArray, List.set_cons_zero, List.set_cons_succ, x0, x1, x2, x3, x4, x5, x6, x7, x10, x8]
            generalize B 8 = b8 at *
            clear hV h4 h5 hR hF hall x0 x1 x2 x3 x4 x5 x6 x7 x10 x8
            go_wp2_with fail
            go_meet
            exact ⟨b8, rfl, rfl, G.trans hb1, c_e3.gr hb1, ⟨y8, z8, p8⟩⟩
        clear HV
        obtain ⟨e8, rfl, rfl, HV⟩ := hcut
        go_upto_region 12 with fail
        go_cut [10, 11] from 43 to 50 (fun a0 a1 wx => ∃ e10 : Nat, a0 = .pointer (some ⟨e10, 0, none⟩) ∧ a1 = .int .i64 503 ∧ Hid (Gr w wx ∧ Cv wx e3 k (some ⟨bp, 0, none⟩) (dl m) n q ∧ Cl wx e8 f ∧ Cl wx e10 s))
        case first =>
          have ⟨G, c_e3, c_e8⟩ := HV.out
          have ⟨hc_e3, fc_e3, pc_e3⟩ := c_e3
          have h0c_e3 := (c_e3).at0
          have h1c_e3 := (c_e3).at1
          have ⟨hc_e8, fc_e8, pc_e8⟩ := c_e8
          refine wp_region_mix (by kernel_rfl) (by kernel_rfl) (RG _ (fun i => match i with | 0 => some (.pointer (some ⟨e3, 0, none⟩)) | 1 => some (.int .i64 k) | 2 => some (.int .u64 (x : Int)) | 3 => some (.agg (nw 9 x)) | 4 => some (.tuple #[.agg (nw 9 s), .int .i64 503]) | 5 => some (.tuple #[.agg (nw 9 s), .int .i64 503]) | 6 => some (.agg (nw 9 s)) | 7 => some (.int .i64 503) | 10 => some (.int .i64 503) | _ => none) (fun i => match i with | 8 => some (nw 9 0) | _ => none) (fun i => match i with | 8 => some (9, nw 9 s) | _ => none)) (RG.start _ _ _ _ _ _) ?hs ?hf
          case hs =>
            intro listed vals a1 v1 i o hz hR hF ho hl hd
            have hks : ∀ (j k : Nat) (r : Array Value), (match j with | 8 => some (9, nw 9 s) | _ => (none : Option (Nat × Array Value))) = some (k, r) → (j = 8 ∧ k = 9) := fun j k r h => by
              split at h <;> simp_all
            have Hc_e3 : blk v1 (e3) = cvA k (some ⟨bp, 0, none⟩) (dl m) n q := (blk_of _ _ _ (hR.1.below.block (e3) (c_e3.p))).trans (c_e3.h)
            have Hc_e8 : blk v1 (e8) = nw 9 f := (blk_of _ _ _ (hR.1.below.block (e8) (c_e8.p))).trans (c_e8.h)
            have hi : i < 11 := by simpa using (Array.getElem?_eq_some_iff.1 ho).1
            have hil : i < listed.size := by rw [hz]; simpa using hi
            obtain rfl | rfl | rfl | rfl | rfl | rfl | rfl | rfl | rfl | rfl | rfl : i = 0 ∨ i = 1 ∨ i = 2 ∨ i = 3 ∨ i = 4 ∨ i = 5 ∨ i = 6 ∨ i = 7 ∨ i = 8 ∨ i = 9 ∨ i = 10 := by omega
            · obtain rfl := Option.some.inj ho
              have f0 := hF.old (s := 3) (v := .pointer (some ⟨e3, 0, none⟩)) (by kernel_rfl) rfl
              exact wp_val (.pointer (some ⟨e3, 0, none⟩)) (by simp [go_sem, f0]) ⟨_, rfl, RG.quiet 0 _ hil rfl rfl (fun j k r h => by have := hks j k r h; omega) (Gr.refl _) hR⟩
            · obtain rfl := Option.some.inj ho
              have l0 := hd ⟨0, .data⟩ (by simp) rfl
              have f0 := hF.at (s := 44) (i := 0) (by kernel_rfl) (by simp) l0
              rw [hR.2.1 0 _ l0 rfl] at f0
              exact wp_val (.int .i64 k) (by simp [go_sem, f0, cell_blk, Hc_e3, cvA_0]) ⟨_, rfl, RG.quiet 1 _ hil rfl rfl (fun j k r h => by have := hks j k r h; omega) (Gr.refl _) hR⟩
            · obtain rfl := Option.some.inj ho
              have f0 := hF.old (s := 7) (v := .int .u64 (x : Int)) (by kernel_rfl) rfl
              exact wp_val (.int .u64 (x : Int)) (by simp [go_sem, f0]) ⟨_, rfl, RG.quiet 2 _ hil rfl rfl (fun j k r h => by have := hks j k r h; omega) (Gr.refl _) hR⟩
            · obtain rfl := Option.some.inj ho
              have l0 := hd ⟨2, .data⟩ (by simp) rfl
              have f0 := hF.at (s := 46) (i := 2) (by kernel_rfl) (by simp) l0
              rw [hR.2.1 2 _ l0 rfl] at f0
              exact wp_ret (.agg (nw 9 x)) (by simp [go_sem, f0]) (O1.out _) (fun w2 hg => ⟨_, rfl, RG.quiet 3 _ hil rfl rfl (fun j k r h => by have := hks j k r h; omega) hg hR⟩)
            · obtain rfl := Option.some.inj ho
              have l0 := hd ⟨1, .data⟩ (by simp) rfl
              have f0 := hF.at (s := 45) (i := 1) (by kernel_rfl) (by simp) l0
              rw [hR.2.1 1 _ l0 rfl] at f0
              have l1 := hd ⟨3, .data⟩ (by simp) rfl
              have f1 := hF.at (s := 47) (i := 3) (by kernel_rfl) (by simp) l1
              rw [hR.2.1 3 _ l1 rfl] at f1
              exact wp_ret (.tuple #[.agg (nw 9 s), .int .i64 503]) (by simp [go_sem, f0, f1]) (S1.out _) (fun w2 hg => ⟨_, rfl, RG.quiet 4 _ hil rfl rfl (fun j k r h => by have := hks j k r h; omega) hg hR⟩)
            · obtain rfl := Option.some.inj ho
              have l0 := hd ⟨4, .data⟩ (by simp) rfl
              have f0 := hF.at (s := 48) (i := 4) (by kernel_rfl) (by simp) l0
              rw [hR.2.1 4 _ l0 rfl] at f0
              exact wp_val (.tuple #[.agg (nw 9 s), .int .i64 503]) (by simp [go_sem, f0]) ⟨_, rfl, RG.quiet 5 _ hil rfl rfl (fun j k r h => by have := hks j k r h; omega) (Gr.refl _) hR⟩
            · obtain rfl := Option.some.inj ho
              have l0 := hd ⟨5, .data⟩ (by simp) rfl
              have f0 := hF.at (s := 43) (i := 5) (by kernel_rfl) (by simp) l0
              rw [hR.2.1 5 _ l0 rfl] at f0
              exact wp_val (.agg (nw 9 s)) (by simp [go_sem, f0]) ⟨_, rfl, RG.quiet 6 _ hil rfl rfl (fun j k r h => by have := hks j k r h; omega) (Gr.refl _) hR⟩
            · obtain rfl := Option.some.inj ho
              have l0 := hd ⟨5, .data⟩ (by simp) rfl
              have f0 := hF.at (s := 43) (i := 5) (by kernel_rfl) (by simp) l0
              rw [hR.2.1 5 _ l0 rfl] at f0
              exact wp_val (.int .i64 503) (by simp [go_sem, f0]) ⟨_, rfl, RG.quiet 7 _ hil rfl rfl (fun j k r h => by have := hks j k r h; omega) (Gr.refl _) hR⟩
            · obtain rfl := Option.some.inj ho
              exact wp_val (.pointer (some ⟨v1.heap.size, 0, none⟩)) (w' := v1.alloc (.cells (nw 9 0) 25)) (by simp [go_sem]) ⟨_, rfl, RG.alloc 8 (nw 9 0) 25 hil hl rfl rfl (fun j k r h => by have := hks j k r h; omega) hR⟩
            · obtain rfl := Option.some.inj ho
              have l0 := hd ⟨8, .data⟩ (by simp) rfl
              have l1 := hd ⟨6, .data⟩ (by simp) rfl
              obtain ⟨B, h4, h5⟩ := hR.2.2.2
              obtain ⟨e1, e2, e3, e4, e5⟩ := h4 8 (nw 9 0) l0 rfl
              simp only [hl] at e5
              replace e5 : blk v1 (B 8) = nw 9 0 := e5
              have f0 := hF.at (s := 10) (i := 8) (by kernel_rfl) (by simp) l0
              rw [e1] at f0
              have f1 := hF.at (s := 49) (i := 6) (by kernel_rfl) (by simp) l1
              rw [hR.2.1 6 _ l1 rfl] at f1
              exact wp_skip (w' := setBlk v1 (B 8) (nw 9 s)) (by simp [go_sem, f0, f1, e4, e5]) ⟨undef, rfl, RG.store 9 8 (nw 9 0) (nw 9 s) (B 8) hil hl rfl rfl rfl l0 rfl (by rw [nw_size]; decide) e1 (fun k r h => by have := hks k _ r h; omega) hR⟩
            · obtain rfl := Option.some.inj ho
              have l0 := hd ⟨7, .data⟩ (by simp) rfl
              have f0 := hF.at (s := 50) (i := 7) (by kernel_rfl) (by simp) l0
              rw [hR.2.1 7 _ l0 rfl] at f0
              exact wp_val (.int .i64 503) (by simp [go_sem, f0]) ⟨_, rfl, RG.quiet 10 _ hil rfl rfl (fun j k r h => by have := hks j k r h; omega) (Gr.refl _) hR⟩
          case hf =>
            intro listed vals a1 v1 hall hR hF
            have Hc_e3 : blk v1 (e3) = cvA k (some ⟨bp, 0, none⟩) (dl m) n q := (blk_of _ _ _ (hR.1.below.block (e3) (c_e3.p))).trans (c_e3.h)
            have pHc_e3 : Pre (e3 + 1) v1.heap.size := Nat.le_trans (show e3 + 1 ≤ _ from c_e3.p) hR.1.below.size
            have Hc_e8 : blk v1 (e8) = nw 9 f := (blk_of _ _ _ (hR.1.below.block (e8) (c_e8.p))).trans (c_e8.h)
            have pHc_e8 : Pre (e8 + 1) v1.heap.size := Nat.le_trans (show e8 + 1 ≤ _ from c_e8.p) hR.1.below.size
            have hV := hR.2.1
            obtain ⟨B, h4, h5⟩ := hR.2.2.2
            have x0 := hV 0 _ (hall 0 (by simp)) rfl
            have x1 := hV 1 _ (hall 1 (by simp)) rfl
            have x2 := hV 2 _ (hall 2 (by simp)) rfl
            have x3 := hV 3 _ (hall 3 (by simp)) rfl
            have x4 := hV 4 _ (hall 4 (by simp)) rfl
            have x5 := hV 5 _ (hall 5 (by simp)) rfl
            have x6 := hV 6 _ (hall 6 (by simp)) rfl
            have x7 := hV 7 _ (hall 7 (by simp)) rfl
            have x10 := hV 10 _ (hall 10 (by simp)) rfl
            obtain ⟨x8, q8, p8, z8, y8⟩ := h4 8 _ (hall 8 (by simp)) rfl
            simp only [hall 9 (by simp), if_true] at y8
            replace p8 : Pre (B 8 + 1) v1.heap.size := p8
            replace y8 : blk v1 (B 8) = nw 9 s := y8
            have hb1 := hR.1
            rw [hF.final (by kernel_rfl) hall]
            simp only [putFrom, Act.put, List.setIfInBounds_toArray, List.set_cons_zero, List.set_cons_succ, x0, x1, x2, x3, x4, x5, x6, x7, x10, x8]
            generalize B 8 = b8 at *
            clear hV h4 h5 hR hF hall x0 x1 x2 x3 x4 x5 x6 x7 x10 x8
            go_wp2_with fail
            go_meet
            exact ⟨b8, rfl, rfl, G.trans hb1, c_e3.gr hb1, c_e8.gr hb1, ⟨y8, z8, p8⟩⟩
        clear HV
        obtain ⟨e10, rfl, rfl, HV⟩ := hcut
        have ⟨G, c_e3, c_e8, c_e10⟩ := HV.out
        have ⟨hc_e3, fc_e3, pc_e3⟩ := c_e3
        have h0c_e3 := (c_e3).at0
        have h1c_e3 := (c_e3).at1
        have ⟨hc_e8, fc_e8, pc_e8⟩ := c_e8
        have ⟨hc_e10, fc_e10, pc_e10⟩ := c_e10
        have hc8 : wc.cell? ⟨e8, 0, none⟩ = some (.int .u64 ((wd f 0 : Nat) : Int)) := by rw [cell_blk, hc_e8]; rfl
        have hc10 : wc.cell? ⟨e10, 0, none⟩ = some (.int .u64 ((wd s 0 : Nat) : Int)) := by rw [cell_blk, hc_e10]; rfl
        go_wp2_with (go_at_call 18; refine (num_any _ _).mono ?_; rintro e w' ⟨rfl, rfl⟩)
        go_roundw
        case rel => exact ⟨x + 1, c, by go_num, by go_num, HX2, G, c_e3⟩
        case measure => simp [intOf]; omega
    · have hxe : x = m := by omega
      subst hxe
      have hcm : (c : Int) = ((x : Int) - 1) / 2 := by
        have := (HT.out ()).2.2.1
        rw [hcx] at this
        omega
      have d1 : IntKind.u64.wrap ((x : Int) - 1) = (x : Int) - 1 := by rw [IntKind.wrap_u64]; omega
      have d2 : ((x : Int) - 1).tdiv 2 = ((x : Int) - 1) / 2 := Int.tdiv_eq_ediv_of_nonneg (by omega)
      have d3 : ((c : Int) == ((x : Int) - 1) / 2) = true := by rw [hcm]; simp
      have HG : Hid (Gr w wr) := HV.out.1
      clear FI' FQ' SQ' HX HT HV hcx hcl x1 xm hx
      go_wp2_with fail
      go_ret
      refine ⟨by simp [*], ?_⟩
      repeat (first | exact HG.out | apply Gr.drewN | apply Gr.drew)
theorem ftiny_any (id : Int) (w : World) :
    Calls Try.prog 11 #[.int .i64 id] w fun e w' => e = .returned (.bool true) ∧ Gr w w' := ftiny_k id (idx3 id) rfl w

end Go.Proofs.Ytkmpholjlophpaa
