/-
  mont's Mont.reduce: what it hands back.
-/
/-
  mont's Mont.check, Words, mul, to: what they hand back.
-/
/-
  mont's Mont.check: what it hands back.
-/
import Derived.Test.YtleckbdhebjfkaaZMtC
import Derived.Test.YtleckbdhebjfkaaZAdd
import Derived.Test.YtleckbdhebjfkaaZSmA
import Derived.Test.YtleckbdhebjfkaaZMul
import Derived.Test.YtleckbdhebjfkaaZSmB
namespace Go.Proofs.Ytleckbdhebjfkaa
open Go.RowKit
attribute [local go_sem ↓] loadNat_is loadArr_is loadWide_is loadArrW_is storeNat_is storeWide_is
attribute [local go_sem] loadNat loadArr loadWide loadArrW storeNat storeWide idxArr fold9 fold18 nw_size nw_elem pre_self pre_1 pre_2 pre_3 pre_4 pre_5 pre_6 pre_7 pre_8 pre_9 pre_10 pre_11 pre_12 pre_13 pre_14 pre_15 pre_16 pre_17 pre_18 pre_19 pre_20 pre_21 pre_22 pre_23 pre_24 pre_25 pre_26 pre_27 pre_28 pre_29 pre_30 pre_31 pre_32 pre_33 pre_34 pre_35 pre_36 pre_37 pre_38 pre_39 pre_40 gro_size gro_drew gro_drewN drew_gro drewN_gro gro_gro blk_gro frz_gro blk_drew frz_drew blk_drewN frz_drewN blk_alloc_at frz_alloc_at blk_alloc frz_alloc cell_gro frozen_gro cell_alloc_pre frozen_alloc_pre setCell_drewN alloc_drewN setBlk_drew setBlk_drewN setBlk_alloc_at setBlk_alloc setBlk_gro setCell_gro setCell_alloc_pre size_setBlk size_setCell
attribute [local go_sem ↓] loadDv_is load19_is storeDv_is store19_is copy_is
attribute [local go_sem] idx18 loadDv load19 storeDv store19 dv_size dv_9 dv_10 dv_e9 dv_e10 dv_elem fold11 fold19 setCell_in cell_in frozen_in frz_setBlk blk_setBlk setBlk_setBlk copy_run cpA_nw ones_nw

attribute [local go_sem ↓] Go.wp_at_zero Go.wp_at_succ
attribute [local go_sem] loadM0 loadM10 mt_size mt_lo mt_sq mt_9 mt_19 blk_other

theorem Hid.mk' {p : Prop} (h : p) : Hid p := h
set_option maxRecDepth 100000 in
set_option maxHeartbeats 1600000 in
theorem reduce_any (b m k s f T u : Nat) (w : World) (hMt : Mt w b m k s f) (ho : Mo m k u) (hf : Fac m f) (hT : T < m * pw k) :
    Calls Try.prog 56 #[.pointer (some ⟨b, 0, none⟩), .agg (nw 18 T)] w fun e w' => e = .returned (.agg (nw 9 (T * u % m))) ∧ Gr w w' := by
  have h2k : pw (2 * k) = pw k * pw k := by rw [← pw_add]; exact congrArg pw (by omega)
  have hT2 : T < pw (2 * k) := by
    rw [h2k]
    exact Nat.lt_of_lt_of_le hT (Nat.mul_le_mul_right _ (Nat.le_of_lt ho.lt))
  have hT18 : T < pw 18 := Nat.lt_of_lt_of_le hT2 (pw_up _ _ (by have := ho.k9; omega))
  have hz : ∃ r, T * u % m = r := ⟨_, rfl⟩
  have HT : Hid (Unit → T < m * pw k ∧ T < pw (2 * k)) := fun _ => ⟨hT, hT2⟩
  have HQ : Hid (Unit → nw 19 (T % pw 18) = nw 19 T) := fun _ => by rw [Nat.mod_eq_of_lt hT18]
  have HO : Hid (Mo m k u) := ho
  have HF : Hid (Fac m f) := hf
  have HMt : Hid (Mt w b m k s f) := hMt
  have HK : Hid (Unit → 0 < k ∧ k ≤ 9) := fun _ => ⟨ho.k1, ho.k9⟩
  have k9 : (k : Int) ≤ 9 := by have := ho.k9; omega
  have k0 : (0 : Int) < (k : Int) := by have := ho.k1; omega
  have c9 := hMt.at9
  have pb := hMt.lt
  have pbn : b < w.heap.size := hMt.lt
  clear hT hT2 hT18 h2k ho hf hMt hz
  go_enter Try.func56, Try.ntmps56
  go_wp2
  go_big_region
  go_upto_region 4 with fail
  refine gen_w (fun v => Hid (Gr w v ∧ Row v (w.heap.size + 1 + 1) T ∧ Mt v b m k s f ∧ Cl v (w.heap.size + 1) 0)) ?_ ?_
  · refine ⟨(by repeat (first | exact Gr.refl _ | apply Gr.drewN | apply Gr.drew | apply Gr.alloc | apply Gr.gro)), ⟨by simp [go_sem], by simp [go_sem]; exact HQ.out (), by simp [go_sem]⟩, ?_, ⟨by simp [go_sem], by simp [go_sem], by simp [go_sem]⟩⟩
    exact HMt.out.gr (by repeat (first | exact Gr.refl _ | apply Gr.drewN | apply Gr.drew | apply Gr.alloc | apply Gr.gro))
  intro v0 HV
  clear c9 pb HMt HQ
  have c9 := HV.out.2.2.1.at9
  go_wp2
  go_loopw [6, 19] (fun c i wr => ∃ j d Z : Nat, j ≤ k ∧ i = .int .i64 (j : Int) ∧ c = .int .u64 (d : Int) ∧ Hid (Unit → Rd T m k j Z d) ∧ Hid (Gr w wr ∧ Row wr (w.heap.size + 1 + 1) Z ∧ Mt wr b m k s f ∧ Cl wr (w.heap.size + 1) 0)) (fun _ i _ => k - (intOf i).toNat)
  case atStart => exact ⟨0, 0, T, by omega, rfl, rfl, fun _ => Rd.start T m k (HT.out ()).2, HV.out⟩
  case round =>
    clear HV c9
    obtain ⟨j, d, Z, hj, rfl, rfl, HR, HC⟩ := hrel
    have ⟨hG, hRow, hMt, hCl⟩ := HC.out
    have c9 := hMt.at9
    have pb := hMt.lt
    by_cases hlt : j < k
    · have j0 : (0 : Int) ≤ (j : Int) := by omega
      have j1 : (j : Int) < (k : Int) := by omega
      obtain ⟨q, hq⟩ : ∃ q, j + (k + 1) = q := ⟨_, rfl⟩
      have i2 : IntKind.i64.wrap ((j : Int) + (k : Int)) = (j : Int) + (k : Int) := by rw [IntKind.wrap_i64]; omega
      have i3 : IntKind.i64.wrap ((j : Int) + (k : Int) + 1) = (q : Int) := by rw [IntKind.wrap_i64]; omega
      have i4 : (j : Int) + (k : Int) + 1 = (q : Int) := by omega
      have hsl : ∀ (b : Nat) w, (Instr.sliceAt 96 (.pointer (some ⟨b, 0, none⟩)) (some (.int .i64 (j : Int))) (some (.int .i64 (q : Int))) none).run Try.prog w = .ok (.slice (some ⟨b, j, none⟩) (k + 1) (19 - j)) w := fun b w => by
        rw [slice19 b j q (by omega) (by omega) w, show q - j = k + 1 by omega]
      obtain ⟨t, ht⟩ : ∃ t, wd Z j * f % 18446744073709551616 = t := ⟨_, rfl⟩
      have HCl := clear_any b m k s f (w.heap.size + 1 + 1) j Z (19 - j) d (2 * k) t wr hMt hRow (by omega) (HK.out ()).2 HO.out.lt (by have := (HK.out ()).2; omega) (HR.out ()).v1 (HR.out ()).lt (by omega) ht
      have HN : Hid (∀ Z' d' : Nat, d' ≤ 1 → Z' < pw (2 * k) → Z' + d' * pw (j + (k + 1)) = Z + t * m * pw j + d * pw (j + k) → Rd T m k (j + 1) Z' d') := fun Z' d' h1 h2 h3 => (HR.out ()).step (HK.out ()).1 hlt HF.out ht.symm h1 h2 h3
      have HL : Hid (Calls Try.prog 70 #[.pointer (some ⟨b, 0, none⟩), .slice (some ⟨(w.heap.size + 1 + 1), j, none⟩) (k + 1) (19 - j), .int .u64 (d : Int)] wr (Clr wr (w.heap.size + 1 + 1) (2 * k) j k (Z + t * m * pw j + d * pw (j + k)))) := HCl
      clear HCl ht hq
      go_wp2_with (go_at_call 70; refine HL.out.mono ?_; rintro e w' ⟨Z', d', rfl, hd', hrw, hZ', he⟩)
      go_roundw
      case rel =>
        refine ⟨j + 1, d', Z', by omega, by go_num, rfl, fun _ => HN.out Z' d' hd' hZ' he, ?_⟩
        have hG' : Gr w w' := by
          have : Gr w (setBlk wr (w.heap.size + 1 + 1) (nw 19 Z')) := gr_setNew hG (by omega)
          exact this.trans hrw
        exact ⟨hG', hrw.row hRow, hMt.rw (by omega) hrw, hCl.rw (by omega) hrw⟩
      case measure => simp [intOf]; omega
    · have hjk : j = k := by omega
      subst hjk
      obtain ⟨t, ht, hYl, ht2, htm, Q, hQ⟩ := (HR.out ()).last (HT.out ()).1
      have hd1 := (HR.out ()).v1
      have hval := red_val HO.out ht2 hd1 htm hQ
      obtain ⟨Y, hY⟩ : ∃ Y, wset Z (2 * j) d = Y := ⟨_, rfl⟩
      rw [hY] at ht hYl
      have htY : Y / pw j = t := by rw [← ht]; exact Nat.mul_div_cancel _ (pw_pos j)
      have hsw := hRow.put (2 * j) d (by omega)
      rw [hY] at hsw
      have cz := hRow.at (2 * j) (by have := (HK.out ()).2; omega)
      have fz := hRow.fz (2 * j)
      obtain ⟨q, hq⟩ : ∃ q, 2 * j = q := ⟨_, rfl⟩
      rw [hq] at hsw cz fz
      have i1 : IntKind.i64.wrap (2 * (j : Int)) = (q : Int) := by rw [IntKind.wrap_i64]; omega
      have i1' : (2 * (j : Int)) = (q : Int) := by omega
      have q0 : (0 : Int) ≤ (q : Int) := by omega
      have q1 : (q : Int) < 19 := by omega
      have HY : Hid (Unit → Y < pw (2 * j + 1)) := fun _ => hYl
      have HTY : Hid (Unit → Y / pw j = t) := fun _ => htY
      obtain ⟨x, hx⟩ : ∃ x, t % M = x := ⟨_, rfl⟩
      rw [hx] at hval
      have HX : Hid (Unit → nw 9 t = nw 9 x) := fun _ => by rw [← hx]; exact (nw_mod t 9).symm
      have hxM : x < M := by rw [← hx]; exact Nat.mod_lt _ M_pos
      have ji : ¬ (j : Int) < (j : Int) := by omega
      obtain ⟨E, hE⟩ : ∃ E, (x + M - m) % M = E := ⟨_, rfl⟩
      obtain ⟨β, hβ⟩ : ∃ β, decide (x < m) = β := ⟨_, rfl⟩
      rw [hE] at hval
      have HS : Hid (∀ w, Calls Try.prog 52 #[.agg (nw 9 x), .agg (nw 9 m)] w fun e w' => e = .returned (.tuple #[.agg (nw 9 E), .bool β]) ∧ Gr w w') := fun w => by
        have := sub_any x m hxM HO.out.M w
        rw [hE, hβ] at this
        exact this
      have HV : Hid ((β = true → d = 0 → x = T * u % m) ∧ (¬ (β = true ∧ d = 0) → E = T * u % m)) := ⟨fun h1 h2 => hval.1 (by rw [← hβ] at h1; exact of_decide_eq_true h1) h2, fun h1 => hval.2 (fun h2 => h1 ⟨by rw [← hβ]; exact decide_eq_true h2.1, h2.2⟩)⟩
      have HD : Hid (d ≤ 1) := hd1
      clear hval hβ hE hx hxM htY hYl ht ht2 htm hQ hY hd1 HR hlt hj
      go_upto_region 11 with fail
      refine gen_w (fun v => Hid (Gr w v ∧ Row v (w.heap.size + 1 + 1) Y ∧ Mt v b m j s f ∧ Cl v (w.heap.size + 1) 0 ∧ Cl v wr.heap.size 0)) ?_ ?_
      · have ga := (Gr.refl (setBlk wr (w.heap.size + 1 + 1) (nw 19 Y))).alloc (.cells (nw 9 0) 25)
        have hR1 : Row (setBlk wr (w.heap.size + 1 + 1) (nw 19 Y)) (w.heap.size + 1 + 1) Y := ⟨by rw [size_setBlk]; exact hRow.lt, blk_setBlk _ _ _ hRow.pos, by rw [frz_setBlk]; exact hRow.free⟩
        exact ⟨(gr_setNew hG (by omega)).alloc _, hR1.gr ga, (hMt.other (by omega)).gr ga, (hCl.other (by omega)).gr ga, ⟨by simp [go_sem], by simp [go_sem], by simp [go_sem]⟩⟩
      intro v1 HC1
      obtain ⟨bw, hbw⟩ : ∃ bw, wr.heap.size = bw := ⟨_, rfl⟩
      have hbl := hRow.lt
      rw [hbw] at HC1 ⊢
      rw [hbw] at hbl
      replace hbl : (w.heap.size + 1 + 1) + 1 ≤ bw := hbl
      have nb1 : ¬ (w.heap.size + 1 + 1) = bw := by omega
      have HB : Hid (Unit → w.heap.size + 1 < bw) := fun _ => by omega
      clear HC hG hRow hMt hCl c9 pb hsw cz fz hbl hbw
      have ⟨hG1, hR1, hT1, c01, cw1⟩ := HC1.out
      have c9 := hT1.at9
      have pb1 := hT1.lt
      have hr1 := hR1.cells
      have pr1 := hR1.lt
      have hw1 := cw1.h
      have fw1 := cw1.f
      have pw1 := cw1.p
      obtain ⟨z, hz⟩ : ∃ z, q + 1 = z := ⟨_, rfl⟩
      have i5 : (q : Int) + 1 = (z : Int) := by omega
      have i6 : IntKind.i64.wrap ((q : Int) + 1) = (z : Int) := by rw [IntKind.wrap_i64]; omega
      have hsl : ∀ (b : Nat) w, (Instr.sliceAt 96 (.pointer (some ⟨b, 0, none⟩)) (some (.int .i64 (j : Int))) (some (.int .i64 (z : Int))) none).run Try.prog w = .ok (.slice (some ⟨b, j, none⟩) (j + 1) (19 - j)) w := fun b w => by
        rw [slice19 b j z (by omega) (by have := (HK.out ()).2; omega) w, show z - j = j + 1 by omega]
      have hcp : ∀ (ty : TypeId) (p q : Nat), (copyS ty (.slice (some ⟨bw, 0, none⟩) 9 p) (.slice (some ⟨(w.heap.size + 1 + 1), j, none⟩) (j + 1) q)).run Try.prog v1.drew = .ok (goInt ((min (j + 1) 9 : Nat) : Int)) (setBlk v1.drew bw (nw 9 x)) := fun ty p q => by
        rw [copy_mid ty v1.drew bw (w.heap.size + 1 + 1) j Y p q (HK.out ()).2 (HY.out ()) (by rw [blk_drew]; exact hw1) (by rw [blk_drew]; exact hr1) (by rw [frz_drew]; exact fw1), HTY.out (), HX.out ()]
      go_big_region
      go_upto_region 12 with fail
      refine gen_w (fun v => Hid (Gr w v ∧ Mt v b m j s f ∧ Cl v (w.heap.size + 1) 0 ∧ Cl v bw x)) ?_ ?_
      · have gd := (Gr.refl v1).drew
        have hb := HB.out ()
        exact ⟨gr_setNew (hG1.trans gd) (by omega), (hT1.gr gd).other (by omega), (c01.gr gd).other (by omega), (cw1.gr gd).set x⟩
      intro v2 HC2
      clear HC1 hG1 hR1 hT1 c01 cw1 c9 pb1 hr1 pr1 hw1 fw1 pw1 hcp hsl i5 i6 hz
      have ⟨hG2, hT2, c0, cw⟩ := HC2.out
      refine wp_region_mix (by kernel_rfl) (by kernel_rfl) (RG _ (fun i => match i with | 0 => some (.agg (nw 9 x)) | 1 => some (.pointer (some ⟨b, 0, none⟩)) | 2 => some (.pointer (some ⟨b, 0, none⟩)) | 3 => some (.pointer (some ⟨b, 0, none⟩)) | 4 => some (.agg (nw 9 m)) | 5 => some (.tuple #[.agg (nw 9 E), .bool β]) | 6 => some (.tuple #[.agg (nw 9 E), .bool β]) | 7 => some (.agg (nw 9 E)) | 8 => some (.bool β) | 11 => some (.bool β) | _ => none) (fun i => match i with | 9 => some (nw 9 0) | _ => none) (fun i => match i with | 9 => some (10, nw 9 E) | _ => none)) (RG.start _ _ _ _ _ _) ?hs ?hf
      case hs =>
        intro listed vals a1 v3 i o hz hR hF ho hl hd
        have hks : ∀ (j k : Nat) (r : Array Value), (match j with | 9 => some (10, nw 9 E) | _ => (none : Option (Nat × Array Value))) = some (k, r) → (j = 9 ∧ k = 10) := fun j k r h => by
          split at h <;> simp_all
        have Hw : blk v3 (bw) = nw 9 x := (blk_of _ _ _ (hR.1.below.block (bw) (cw.p))).trans (cw.h)
        have Hb : blk v3 (b) = mt m j s f := (blk_of _ _ _ (hR.1.below.block (b) (hT2.lt))).trans (hT2.cells)
        have Hr : blk v3 (w.heap.size + 1) = nw 9 0 := (blk_of _ _ _ (hR.1.below.block (w.heap.size + 1) (c0.p))).trans (c0.h)
        have hi : i < 12 := by simpa using (Array.getElem?_eq_some_iff.1 ho).1
        have hil : i < listed.size := by rw [hz]; simpa using hi
        obtain rfl | rfl | rfl | rfl | rfl | rfl | rfl | rfl | rfl | rfl | rfl | rfl : i = 0 ∨ i = 1 ∨ i = 2 ∨ i = 3 ∨ i = 4 ∨ i = 5 ∨ i = 6 ∨ i = 7 ∨ i = 8 ∨ i = 9 ∨ i = 10 ∨ i = 11 := by omega
        · obtain rfl := Option.some.inj ho
          have f0 := hF.old (s := 8) (v := .pointer (some ⟨bw, 0, none⟩)) (by kernel_rfl) rfl
          exact wp_val (.agg (nw 9 x)) (by simp [go_sem, f0, Hw]) ⟨_, rfl, RG.quiet 0 _ hil rfl rfl (fun j k r h => by have := hks j k r h; omega) (Gr.refl _) hR⟩
        · obtain rfl := Option.some.inj ho
          have f0 := hF.old (s := 0) (v := .pointer (some ⟨b, 0, none⟩)) (by kernel_rfl) rfl
          exact wp_val (.pointer (some ⟨b, 0, none⟩)) (by simp [go_sem, f0]) ⟨_, rfl, RG.quiet 1 _ hil rfl rfl (fun j k r h => by have := hks j k r h; omega) (Gr.refl _) hR⟩
        · obtain rfl := Option.some.inj ho
          have l0 := hd ⟨1, .data⟩ (by simp) rfl
          have f0 := hF.at (s := 58) (i := 1) (by kernel_rfl) (by simp) l0
          rw [hR.2.1 1 _ l0 rfl] at f0
          exact wp_val (.pointer (some ⟨b, 0, none⟩)) (by simp [go_sem, f0]) ⟨_, rfl, RG.quiet 2 _ hil rfl rfl (fun j k r h => by have := hks j k r h; omega) (Gr.refl _) hR⟩
        · obtain rfl := Option.some.inj ho
          have l0 := hd ⟨2, .data⟩ (by simp) rfl
          have f0 := hF.at (s := 59) (i := 2) (by kernel_rfl) (by simp) l0
          rw [hR.2.1 2 _ l0 rfl] at f0
          exact wp_val (.pointer (some ⟨b, 0, none⟩)) (by simp [go_sem, f0]) ⟨_, rfl, RG.quiet 3 _ hil rfl rfl (fun j k r h => by have := hks j k r h; omega) (Gr.refl _) hR⟩
        · obtain rfl := Option.some.inj ho
          have l0 := hd ⟨3, .data⟩ (by simp) rfl
          have f0 := hF.at (s := 60) (i := 3) (by kernel_rfl) (by simp) l0
          rw [hR.2.1 3 _ l0 rfl] at f0
          exact wp_val (.agg (nw 9 m)) (by simp [go_sem, f0, Hb]) ⟨_, rfl, RG.quiet 4 _ hil rfl rfl (fun j k r h => by have := hks j k r h; omega) (Gr.refl _) hR⟩
        · obtain rfl := Option.some.inj ho
          have l0 := hd ⟨0, .data⟩ (by simp) rfl
          have f0 := hF.at (s := 57) (i := 0) (by kernel_rfl) (by simp) l0
          rw [hR.2.1 0 _ l0 rfl] at f0
          have l1 := hd ⟨4, .data⟩ (by simp) rfl
          have f1 := hF.at (s := 61) (i := 4) (by kernel_rfl) (by simp) l1
          rw [hR.2.1 4 _ l1 rfl] at f1
          exact wp_ret (.tuple #[.agg (nw 9 E), .bool β]) (by simp [go_sem, f0, f1]) (HS.out _) (fun w2 hg => ⟨_, rfl, RG.quiet 5 _ hil rfl rfl (fun j k r h => by have := hks j k r h; omega) hg hR⟩)
        · obtain rfl := Option.some.inj ho
          have l0 := hd ⟨5, .data⟩ (by simp) rfl
          have f0 := hF.at (s := 62) (i := 5) (by kernel_rfl) (by simp) l0
          rw [hR.2.1 5 _ l0 rfl] at f0
          exact wp_val (.tuple #[.agg (nw 9 E), .bool β]) (by simp [go_sem, f0]) ⟨_, rfl, RG.quiet 6 _ hil rfl rfl (fun j k r h => by have := hks j k r h; omega) (Gr.refl _) hR⟩
        · obtain rfl := Option.some.inj ho
          have l0 := hd ⟨6, .data⟩ (by simp) rfl
          have f0 := hF.at (s := 56) (i := 6) (by kernel_rfl) (by simp) l0
          rw [hR.2.1 6 _ l0 rfl] at f0
          exact wp_val (.agg (nw 9 E)) (by simp [go_sem, f0]) ⟨_, rfl, RG.quiet 7 _ hil rfl rfl (fun j k r h => by have := hks j k r h; omega) (Gr.refl _) hR⟩
        · obtain rfl := Option.some.inj ho
          have l0 := hd ⟨6, .data⟩ (by simp) rfl
          have f0 := hF.at (s := 56) (i := 6) (by kernel_rfl) (by simp) l0
          rw [hR.2.1 6 _ l0 rfl] at f0
          exact wp_val (.bool β) (by simp [go_sem, f0]) ⟨_, rfl, RG.quiet 8 _ hil rfl rfl (fun j k r h => by have := hks j k r h; omega) (Gr.refl _) hR⟩
        · obtain rfl := Option.some.inj ho
          exact wp_val (.pointer (some ⟨v3.heap.size, 0, none⟩)) (w' := v3.alloc (.cells (nw 9 0) 25)) (by simp [go_sem]) ⟨_, rfl, RG.alloc 9 (nw 9 0) 25 hil hl rfl rfl (fun j k r h => by have := hks j k r h; omega) hR⟩
        · obtain rfl := Option.some.inj ho
          have l0 := hd ⟨9, .data⟩ (by simp) rfl
          have l1 := hd ⟨7, .data⟩ (by simp) rfl
          obtain ⟨B, h4, h5⟩ := hR.2.2.2
          obtain ⟨e1, e2, e3, e4, e5⟩ := h4 9 (nw 9 0) l0 rfl
          simp only [hl] at e5
          replace e5 : blk v3 (B 9) = nw 9 0 := e5
          have f0 := hF.at (s := 9) (i := 9) (by kernel_rfl) (by simp) l0
          rw [e1] at f0
          have f1 := hF.at (s := 63) (i := 7) (by kernel_rfl) (by simp) l1
          rw [hR.2.1 7 _ l1 rfl] at f1
          exact wp_skip (w' := setBlk v3 (B 9) (nw 9 E)) (by simp [go_sem, f0, f1, e4, e5]) ⟨undef, rfl, RG.store 10 9 (nw 9 0) (nw 9 E) (B 9) hil hl rfl rfl rfl l0 rfl (by rw [nw_size]; decide) e1 (fun k r h => by have := hks k _ r h; omega) hR⟩
        · obtain rfl := Option.some.inj ho
          have l0 := hd ⟨8, .data⟩ (by simp) rfl
          have f0 := hF.at (s := 64) (i := 8) (by kernel_rfl) (by simp) l0
          rw [hR.2.1 8 _ l0 rfl] at f0
          exact wp_val (.bool β) (by simp [go_sem, f0]) ⟨_, rfl, RG.quiet 11 _ hil rfl rfl (fun j k r h => by have := hks j k r h; omega) (Gr.refl _) hR⟩
      case hf =>
        intro listed vals a1 v3 hall hR hF
        have Hw : blk v3 (bw) = nw 9 x := (blk_of _ _ _ (hR.1.below.block (bw) (cw.p))).trans (cw.h)
        have pHw : Pre (bw + 1) v3.heap.size := Nat.le_trans (show bw + 1 ≤ _ from cw.p) hR.1.below.size
        have Hb : blk v3 (b) = mt m j s f := (blk_of _ _ _ (hR.1.below.block (b) (hT2.lt))).trans (hT2.cells)
        have pHb : Pre (b + 1) v3.heap.size := Nat.le_trans (show b + 1 ≤ _ from hT2.lt) hR.1.below.size
        have Hr : blk v3 (w.heap.size + 1) = nw 9 0 := (blk_of _ _ _ (hR.1.below.block (w.heap.size + 1) (c0.p))).trans (c0.h)
        have pHr : Pre (w.heap.size + 1 + 1) v3.heap.size := Nat.le_trans (show w.heap.size + 1 + 1 ≤ _ from c0.p) hR.1.below.size
        have hV := hR.2.1
        obtain ⟨B, h4, h5⟩ := hR.2.2.2
        have x0 := hV 0 _ (hall 0 (by simp)) rfl
        have x1 := hV 1 _ (hall 1 (by simp)) rfl
        have x2 := hV 2 _ (hall 2 (by simp)) rfl
        have x3 := hV 3 _ (hall 3 (by simp)) rfl
        have x4 := hV 4 _ (hall 4 (by simp)) rfl
        have x5 := hV 5 _ (hall 5 (by simp)) rfl
        have x6 := hV 6 _ (hall 6 (by simp)) rfl
        have x7 := hV 7 _ (hall 7 (by simp)) rfl
        have x8 := hV 8 _ (hall 8 (by simp)) rfl
        have x11 := hV 11 _ (hall 11 (by simp)) rfl
        obtain ⟨x9, q9, p9, z9, y9⟩ := h4 9 _ (hall 9 (by simp)) rfl
        simp only [hall 10 (by simp), if_true] at y9
        replace p9 : Pre (B 9 + 1) v3.heap.size := p9
        replace y9 : blk v3 (B 9) = nw 9 E := y9
        have hb1 := hR.1
        rw [hF.final (by kernel_rfl) hall]
        simp only [putFrom, Act.put, List.setIfInBounds_toArray, List.set_cons_zero, List.set_cons_succ, x0, x1, x2, x3, x4, x5, x6, x7, x8, x11, x9]
        generalize B 9 = b9 at *
        clear hV h4 h5 hR hF hall x0 x1 x2 x3 x4 x5 x6 x7 x8 x11 x9
        have f0 := (c0.gr hb1).f
        have hG3 := hG2.trans hb1
        have hne : ¬ (w.heap.size + 1) = bw := by have := HB.out (); omega
        clear HC2 hG2 hT2 c0 cw hb1 HT HK HO HF HY HTY HX HS
        have hd := HD.out
        clear HD
        obtain rfl | rfl : d = 0 ∨ d = 1 := by omega
        · cases β with
          | true =>
            have hv := HV.out.1 rfl rfl
            have HH := Hid.mk' hv
            clear HV hv
            go_wp2
            refine bodyPost_ret (res_one Try.results56 (rd_nat (x := x) (by rfl) ?_)) rfl ⟨by rw [HH.out], ?_⟩
            · exact blk_setBlk _ _ _ (by rw [Hr, nw_size]; decide)
            · exact gr_setNew hG3 (by omega)
          | false =>
            have hv := HV.out.2 (by simp)
            have HH := Hid.mk' hv
            clear HV hv
            go_wp2
            refine bodyPost_ret (res_one Try.results56 (rd_nat (x := E) (by rfl) ?_)) rfl ⟨by rw [HH.out], ?_⟩
            · exact blk_setBlk _ _ _ (by rw [Hr, nw_size]; decide)
            · exact gr_setNew hG3 (by omega)
        · have hv := HV.out.2 (by simp)
          have HH := Hid.mk' hv
          clear HV hv
          cases β
          all_goals
            go_wp2
            refine bodyPost_ret (res_one Try.results56 (rd_nat (x := E) (by rfl) ?_)) rfl ⟨by rw [HH.out], ?_⟩
            · exact blk_setBlk _ _ _ (by rw [Hr, nw_size]; decide)
            · exact gr_setNew hG3 (by omega)

end Go.Proofs.Ytleckbdhebjfkaa
namespace Go.Proofs.Ytleckbdhebjfkaa
open Go.RowKit
attribute [local go_sem ↓] loadNat_is loadArr_is loadWide_is loadArrW_is storeNat_is storeWide_is
attribute [local go_sem] loadNat loadArr loadWide loadArrW storeNat storeWide idxArr fold9 fold18 nw_size nw_elem pre_self pre_1 pre_2 pre_3 pre_4 pre_5 pre_6 pre_7 pre_8 pre_9 pre_10 pre_11 pre_12 pre_13 pre_14 pre_15 pre_16 pre_17 pre_18 pre_19 pre_20 pre_21 pre_22 pre_23 pre_24 pre_25 pre_26 pre_27 pre_28 pre_29 pre_30 pre_31 pre_32 pre_33 pre_34 pre_35 pre_36 pre_37 pre_38 pre_39 pre_40 gro_size gro_drew gro_drewN drew_gro drewN_gro gro_gro blk_gro frz_gro blk_drew frz_drew blk_drewN frz_drewN blk_alloc_at frz_alloc_at blk_alloc frz_alloc cell_gro frozen_gro cell_alloc_pre frozen_alloc_pre setCell_drewN alloc_drewN setBlk_drew setBlk_drewN setBlk_alloc_at setBlk_alloc setBlk_gro setCell_gro setCell_alloc_pre size_setBlk size_setCell
attribute [local go_sem ↓] loadDv_is load19_is storeDv_is store19_is copy_is
attribute [local go_sem] idx18 loadDv load19 storeDv store19 dv_size dv_9 dv_10 dv_e9 dv_e10 dv_elem fold11 fold19 setCell_in cell_in frozen_in frz_setBlk blk_setBlk setBlk_setBlk copy_run cpA_nw ones_nw

attribute [local go_sem ↓] Go.wp_at_zero Go.wp_at_succ
attribute [local go_sem] loadM0 loadM10 mt_size mt_lo mt_sq mt_9 mt_19 blk_other

theorem Mt.sq {w : World} {b m k s f : Nat} (h : Mt w b m k s f) : (loadS 25 (.pointer (some ⟨b, 10, none⟩))).run Try.prog w = .ok (.agg (nw 9 s)) w := by
  rw [loadM10 w b (by rw [h.cells, mt_size]), h.cells, mt_sq]
theorem Mt.lo {w : World} {b m k s f : Nat} (h : Mt w b m k s f) : (loadS 25 (.pointer (some ⟨b, 0, none⟩))).run Try.prog w = .ok (.agg (nw 9 m)) w := by
  rw [loadM0 w b (by rw [h.cells, mt_size]), h.cells, mt_lo]

set_option maxRecDepth 100000 in
theorem words_any (b m k s f : Nat) (w : World) (hMt : Mt w b m k s f) :
    Calls Try.prog 19 #[.pointer (some ⟨b, 0, none⟩)] w fun e w' => e = .returned (.int .i64 (k : Int)) ∧ Gr w w' := by
  have c9 := hMt.at9
  clear hMt
  go_enter Try.func19, Try.ntmps19
  go_wp2
  go_ret
  exact ⟨rfl, (by repeat (first | exact Gr.refl _ | apply Gr.drewN | apply Gr.drew | apply Gr.alloc | apply Gr.gro))⟩

set_option maxRecDepth 100000 in
set_option maxHeartbeats 800000 in
theorem mmul_any (b m k s f a c u : Nat) (w : World) (hMt : Mt w b m k s f) (ho : Mo m k u) (hf : Fac m f) (ha : a < m) (hc : c < m) :
    Calls Try.prog 41 #[.pointer (some ⟨b, 0, none⟩), .agg (nw 9 a), .agg (nw 9 c)] w fun e w' => e = .returned (.agg (nw 9 (a * c * u % m))) ∧ Gr w w' := by
  have hM := ho.M
  have hT : a * c < m * pw k := Nat.lt_of_le_of_lt (Nat.mul_le_mul_left _ (Nat.le_of_lt hc)) (by
    have h1 : a * m < m * m := Nat.mul_lt_mul_of_pos_right ha (by omega)
    exact Nat.lt_of_lt_of_le h1 (Nat.mul_le_mul_left _ (Nat.le_of_lt ho.lt)))
  obtain ⟨X, hX⟩ : ∃ X, a * c = X := ⟨_, rfl⟩
  obtain ⟨r, hr⟩ : ∃ r, X * u % m = r := ⟨_, rfl⟩
  have HU : Hid (∀ w, Calls Try.prog 54 #[.agg (nw 9 a), .agg (nw 9 c)] w fun e w' => e = .returned (.agg (nw 18 X)) ∧ Gr w w') := fun w => hX ▸ mul_any a c (by omega) (by omega) w
  have HR : Hid (∀ v, Gr w v → Calls Try.prog 56 #[.pointer (some ⟨b, 0, none⟩), .agg (nw 18 X)] v fun e w' => e = .returned (.agg (nw 9 r)) ∧ Gr v w') := fun v hg => hr ▸ reduce_any b m k s f X u v (hMt.gr hg) ho hf (hX ▸ hT)
  rw [hX, hr]
  clear hX hr hT hM ho hf ha hc hMt
  go_enter Try.func41, Try.ntmps41
  go_wp2_with (first
    | (go_at_call 54; refine (HU.out _).mono ?_; rintro e w' ⟨rfl, g, rfl⟩)
    | (go_at_call 56; refine (HR.out _ (by repeat (first | exact Gr.refl _ | apply Gr.drewN | apply Gr.drew | apply Gr.alloc | apply Gr.gro))).mono ?_; rintro e w' ⟨rfl, g2, rfl⟩))
  refine bodyPost_ret (res_one Try.results41 (rd_nat (x := r) (by rfl) ?_)) rfl ⟨rfl, (by repeat (first | exact Gr.refl _ | apply Gr.drewN | apply Gr.drew | apply Gr.alloc | apply Gr.gro))⟩
  simp [go_sem]

set_option maxRecDepth 100000 in
set_option maxHeartbeats 800000 in
theorem mto_any (b m k s f a u : Nat) (w : World) (hMt : Mt w b m k s f) (ho : Mo m k u) (hf : Fac m f) (ha : a < m) (hs : s = pw k % m * (pw k % m) % m) :
    Calls Try.prog 40 #[.pointer (some ⟨b, 0, none⟩), .agg (nw 9 a)] w fun e w' => e = .returned (.agg (nw 9 (a * pw k % m))) ∧ Gr w w' := by
  have hsm : s < m := by rw [hs]; exact Nat.mod_lt _ (by have := ho.ge; omega)
  have hv := ho.to a
  rw [← hs] at hv
  obtain ⟨r, hr⟩ : ∃ r, a * pw k % m = r := ⟨_, rfl⟩
  have HR : Hid (∀ v, Gr w v → Calls Try.prog 41 #[.pointer (some ⟨b, 0, none⟩), .agg (nw 9 a), .agg (nw 9 s)] v fun e w' => e = .returned (.agg (nw 9 r)) ∧ Gr v w') := fun v hg => by
    have := mmul_any b m k s f a s u v (hMt.gr hg) ho hf ha hsm
    rw [hv, hr] at this
    exact this
  rw [hr]
  have HM : Hid (Mt w b m k s f) := hMt
  clear hr hv hsm hs ho hf ha hMt
  go_enter Try.func40, Try.ntmps40
  go_upto_region 1 with fail
  refine gen_w (fun v => Hid (Gr w v ∧ Mt v b m k s f ∧ Cl v w.heap.size a ∧ Cl v (w.heap.size + 1) 0)) ?_ ?_
  · exact ⟨(by repeat (first | exact Gr.refl _ | apply Gr.drewN | apply Gr.drew | apply Gr.alloc | apply Gr.gro)), HM.out.gr (by repeat (first | exact Gr.refl _ | apply Gr.drewN | apply Gr.drew | apply Gr.alloc | apply Gr.gro)), ⟨by simp [go_sem], by simp [go_sem], by simp [go_sem]⟩, ⟨by simp [go_sem], by simp [go_sem], by simp [go_sem]⟩⟩
  intro v HV
  have ⟨G, hT, ⟨h1, f1, p1⟩, ⟨h2, f2, p2⟩⟩ := HV.out
  have hl := (hT.gr (Gr.refl v).drew).sq
  go_region_with (go_at_call 41; refine (HR.out _ (G.trans (by repeat (first | exact Gr.refl _ | apply Gr.drewN | apply Gr.drew | apply Gr.alloc | apply Gr.gro)))).mono ?_; rintro e w' ⟨rfl, g2, rfl⟩)
  all_goals
    go_wp2_with fail
    refine bodyPost_ret (res_one Try.results40 (rd_nat (x := r) (by rfl) ?_)) rfl ⟨rfl, ?_⟩
    · simp [go_sem, *]
    · repeat (first | exact G | apply Gr.drewN | apply Gr.drew | apply Gr.alloc | apply Gr.gro | (refine gr_setNew ?_ (by omega)))

/-- What check answers. -/
def ckZ (p : Bool) : Int := if p then 0 else 601
end Go.Proofs.Ytleckbdhebjfkaa
namespace Go.Proofs.Ytleckbdhebjfkaa
open Go.RowKit
attribute [local go_sem ↓] loadNat_is loadArr_is loadWide_is loadArrW_is storeNat_is storeWide_is
attribute [local go_sem] loadNat loadArr loadWide loadArrW storeNat storeWide idxArr fold9 fold18 nw_size nw_elem pre_self pre_1 pre_2 pre_3 pre_4 pre_5 pre_6 pre_7 pre_8 pre_9 pre_10 pre_11 pre_12 pre_13 pre_14 pre_15 pre_16 pre_17 pre_18 pre_19 pre_20 pre_21 pre_22 pre_23 pre_24 pre_25 pre_26 pre_27 pre_28 pre_29 pre_30 pre_31 pre_32 pre_33 pre_34 pre_35 pre_36 pre_37 pre_38 pre_39 pre_40 gro_size gro_drew gro_drewN drew_gro drewN_gro gro_gro blk_gro frz_gro blk_drew frz_drew blk_drewN frz_drewN blk_alloc_at frz_alloc_at blk_alloc frz_alloc cell_gro frozen_gro cell_alloc_pre frozen_alloc_pre setCell_drewN alloc_drewN setBlk_drew setBlk_drewN setBlk_alloc_at setBlk_alloc setBlk_gro setCell_gro setCell_alloc_pre size_setBlk size_setCell
attribute [local go_sem ↓] loadDv_is load19_is storeDv_is store19_is copy_is
attribute [local go_sem] idx18 loadDv load19 storeDv store19 dv_size dv_9 dv_10 dv_e9 dv_e10 dv_elem fold11 fold19 setCell_in cell_in frozen_in frz_setBlk blk_setBlk setBlk_setBlk copy_run cpA_nw ones_nw

attribute [local go_sem ↓] Go.wp_at_zero Go.wp_at_succ

theorem ext_one (a : Nat) : (nw 9 a).extract 0 (0 + 9) = nw 9 a := by
  have e : (nw 9 a).extract 0 (nw 9 a).size = nw 9 a := Array.extract_size
  rw [nw_size] at e
  exact e
theorem ext_two_lo (a d : Nat) : (nw 9 a ++ nw 9 d).extract 0 (0 + 9) = nw 9 a := by
  apply Array.ext_getElem?
  intro j
  by_cases hj : j < 9
  · rw [nw_get 9 a j hj, Array.getElem?_extract, if_pos (by simp [nw_size]; omega), Nat.zero_add, Array.getElem?_append_left (by rw [nw_size]; exact hj), nw_get 9 a j hj]
  · rw [Array.getElem?_eq_none (by simp [nw_size]; omega), Array.getElem?_eq_none (by rw [nw_size]; omega)]
theorem ext_two_hi (a d : Nat) : (nw 9 a ++ nw 9 d).extract 9 (9 + 9) = nw 9 d := by
  apply Array.ext_getElem?
  intro j
  by_cases hj : j < 9
  · rw [nw_get 9 d j hj, Array.getElem?_extract, if_pos (by simp [nw_size]; omega), Array.getElem?_append_right (by rw [nw_size]; omega), nw_size, Nat.add_sub_cancel_left, nw_get 9 d j hj]
  · rw [Array.getElem?_eq_none (by simp [nw_size]; omega), Array.getElem?_eq_none (by rw [nw_size]; omega)]
set_option maxRecDepth 100000 in
set_option maxHeartbeats 800000 in
theorem check1_any (b c m k s f a : Nat) (w : World) (hM : m < M) (ha : a < M) (hMt : Mt w b m k s f) (hc : blk w c = nw 9 a) (pc : Pre (c + 1) w.heap.size) :
    Calls Try.prog 39 #[.pointer (some ⟨b, 0, none⟩), .slice (some ⟨c, 0, none⟩) 1 1] w fun e w' => e = .returned (.int .i64 (ckZ (decide (a < m)))) ∧ Gr w w' := by
  have HT : Hid (Mt w b m k s f ∧ blk w c = nw 9 a ∧ Pre (c + 1) w.heap.size) := ⟨hMt, hc, pc⟩
  obtain ⟨za, hza⟩ : ∃ z, cmpZ a m = z := ⟨_, rfl⟩
  have HCa : Hid (∀ w, Calls Try.prog 32 #[.agg (nw 9 a), .agg (nw 9 m)] w fun e w' => e = .returned (.int .i64 za) ∧ Gr w w') := fun w => hza ▸ cmp_any a m ha hM w
  have HZa : Hid (Unit → (a < m → za < 0) ∧ (¬ a < m → 0 ≤ za)) := fun _ => by
    rw [← hza]
    unfold cmpZ
    exact ⟨fun h => by rw [if_pos h]; decide, fun h => by rw [if_neg h]; split <;> decide⟩
  clear hza ha hM hMt hc pc
  go_enter Try.func39, Try.ntmps39
  go_wp2_with fail
  go_loopw [11] (fun i wr => ∃ j : Nat, j ≤ 1 ∧ i = .int .i64 (j : Int) ∧ Hid (Unit → (0 < j → a < m)) ∧ Hid (Gr w wr)) (fun i _ => ((1 : Int) - intOf i).toNat)
  case atStart => exact ⟨0, by decide, rfl, fun _ => fun h => absurd h (by decide), Gr.refl _⟩
  case round =>
    obtain ⟨j, hj, rfl, HI, HG⟩ := hrel
    have G := HG.out
    have hT := HT.out.1.gr G
    have hcc := HT.out.2.1
    rw [← G.blk c HT.out.2.2] at hcc
    obtain rfl | rfl : j = 0 ∨ j = 1 := by omega
    · have lx : (loadS 25 (.pointer (some ⟨c, 0, none⟩))).run Try.prog wr = .ok (.agg (nw 9 a)) wr := by
        rw [loadPart wr c 0 (by rw [hcc]; simp [nw_size]), hcc]
        exact congrArg (fun x => Result.ok (Value.agg x) wr) (ext_one _)
      have lm := (hT.gr (((Gr.refl wr).alloc (.cells (nw 9 a) 25)).drew)).lo
      by_cases hx : a < m
      · have z0 := (HZa.out ()).1 hx
        have HN : Hid (Unit → (0 < 1 → a < m)) := fun _ => fun _ => hx
        clear hx
        go_wp2_with fail
        go_region_with (go_at_call 32; refine (HCa.out _).mono ?_; rintro e w' ⟨rfl, g2, rfl⟩)
        all_goals
          go_wp2_with fail
          go_roundw
          case rel => exact ⟨1, by decide, by go_num, HN, G.trans (by repeat (first | exact Gr.refl _ | apply Gr.drewN | apply Gr.drew | apply Gr.alloc | apply Gr.gro))⟩
          case measure => simp [intOf]
      · have z0 := (HZa.out ()).2 hx
        have hk : ckZ (decide (a < m)) = 601 := by rw [decide_eq_false (fun h => hx h)]; rfl
        have HK : Hid (ckZ (decide (a < m)) = 601) := hk
        clear hx hk
        go_wp2_with fail
        go_region_with (go_at_call 32; refine (HCa.out _).mono ?_; rintro e w' ⟨rfl, g2, rfl⟩)
        all_goals
          go_wp2_with fail
          go_ret
          exact ⟨by rw [HK.out]; rfl, G.trans (by repeat (first | exact Gr.refl _ | apply Gr.drewN | apply Gr.drew | apply Gr.alloc | apply Gr.gro))⟩
    · have hk : ckZ (decide (a < m)) = 0 := by rw [decide_eq_true (HI.out () (by decide))]; rfl
      have HK : Hid (ckZ (decide (a < m)) = 0) := hk
      clear hk
      go_wp2_with fail
      go_ret
      exact ⟨by rw [HK.out]; rfl, G.trans (by repeat (first | exact Gr.refl _ | apply Gr.drewN | apply Gr.drew | apply Gr.alloc | apply Gr.gro))⟩
set_option maxRecDepth 100000 in
set_option maxHeartbeats 800000 in
theorem check2_any (b c m k s f a d : Nat) (w : World) (hM : m < M) (ha : a < M) (hd : d < M) (hMt : Mt w b m k s f) (hc : blk w c = nw 9 a ++ nw 9 d) (pc : Pre (c + 1) w.heap.size) :
    Calls Try.prog 39 #[.pointer (some ⟨b, 0, none⟩), .slice (some ⟨c, 0, none⟩) 2 2] w fun e w' => e = .returned (.int .i64 (ckZ (decide (a < m ∧ d < m)))) ∧ Gr w w' := by
  have HT : Hid (Mt w b m k s f ∧ blk w c = nw 9 a ++ nw 9 d ∧ Pre (c + 1) w.heap.size) := ⟨hMt, hc, pc⟩
  obtain ⟨za, hza⟩ : ∃ z, cmpZ a m = z := ⟨_, rfl⟩
  have HCa : Hid (∀ w, Calls Try.prog 32 #[.agg (nw 9 a), .agg (nw 9 m)] w fun e w' => e = .returned (.int .i64 za) ∧ Gr w w') := fun w => hza ▸ cmp_any a m ha hM w
  have HZa : Hid (Unit → (a < m → za < 0) ∧ (¬ a < m → 0 ≤ za)) := fun _ => by
    rw [← hza]
    unfold cmpZ
    exact ⟨fun h => by rw [if_pos h]; decide, fun h => by rw [if_neg h]; split <;> decide⟩
  obtain ⟨zd, hzd⟩ : ∃ z, cmpZ d m = z := ⟨_, rfl⟩
  have HCd : Hid (∀ w, Calls Try.prog 32 #[.agg (nw 9 d), .agg (nw 9 m)] w fun e w' => e = .returned (.int .i64 zd) ∧ Gr w w') := fun w => hzd ▸ cmp_any d m hd hM w
  have HZd : Hid (Unit → (d < m → zd < 0) ∧ (¬ d < m → 0 ≤ zd)) := fun _ => by
    rw [← hzd]
    unfold cmpZ
    exact ⟨fun h => by rw [if_pos h]; decide, fun h => by rw [if_neg h]; split <;> decide⟩
  clear hza ha hzd hd hM hMt hc pc
  go_enter Try.func39, Try.ntmps39
  go_wp2_with fail
  go_loopw [11] (fun i wr => ∃ j : Nat, j ≤ 2 ∧ i = .int .i64 (j : Int) ∧ Hid (Unit → (0 < j → a < m) ∧ (1 < j → d < m)) ∧ Hid (Gr w wr)) (fun i _ => ((2 : Int) - intOf i).toNat)
  case atStart => exact ⟨0, by decide, rfl, fun _ => ⟨fun h => absurd h (by decide), fun h => absurd h (by decide)⟩, Gr.refl _⟩
  case round =>
    obtain ⟨j, hj, rfl, HI, HG⟩ := hrel
    have G := HG.out
    have hT := HT.out.1.gr G
    have hcc := HT.out.2.1
    rw [← G.blk c HT.out.2.2] at hcc
    obtain rfl | rfl | rfl : j = 0 ∨ j = 1 ∨ j = 2 := by omega
    · have lx : (loadS 25 (.pointer (some ⟨c, 0, none⟩))).run Try.prog wr = .ok (.agg (nw 9 a)) wr := by
        rw [loadPart wr c 0 (by rw [hcc]; simp [nw_size]), hcc]
        exact congrArg (fun x => Result.ok (Value.agg x) wr) (ext_two_lo _ _)
      have lm := (hT.gr (((Gr.refl wr).alloc (.cells (nw 9 a) 25)).drew)).lo
      by_cases hx : a < m
      · have z0 := (HZa.out ()).1 hx
        have HN : Hid (Unit → (0 < 1 → a < m) ∧ (1 < 1 → d < m)) := fun _ => ⟨fun _ => hx, fun h => absurd h (by decide)⟩
        clear hx
        go_wp2_with fail
        go_region_with (go_at_call 32; refine (HCa.out _).mono ?_; rintro e w' ⟨rfl, g2, rfl⟩)
        all_goals
          go_wp2_with fail
          go_roundw
          case rel => exact ⟨1, by decide, by go_num, HN, G.trans (by repeat (first | exact Gr.refl _ | apply Gr.drewN | apply Gr.drew | apply Gr.alloc | apply Gr.gro))⟩
          case measure => simp [intOf]
      · have z0 := (HZa.out ()).2 hx
        have hk : ckZ (decide (a < m ∧ d < m)) = 601 := by rw [decide_eq_false (fun h => hx h.1)]; rfl
        have HK : Hid (ckZ (decide (a < m ∧ d < m)) = 601) := hk
        clear hx hk
        go_wp2_with fail
        go_region_with (go_at_call 32; refine (HCa.out _).mono ?_; rintro e w' ⟨rfl, g2, rfl⟩)
        all_goals
          go_wp2_with fail
          go_ret
          exact ⟨by rw [HK.out]; rfl, G.trans (by repeat (first | exact Gr.refl _ | apply Gr.drewN | apply Gr.drew | apply Gr.alloc | apply Gr.gro))⟩
    · have lx : (loadS 25 (.pointer (some ⟨c, 9, none⟩))).run Try.prog wr = .ok (.agg (nw 9 d)) wr := by
        rw [loadPart wr c 9 (by rw [hcc]; simp [nw_size]), hcc]
        exact congrArg (fun x => Result.ok (Value.agg x) wr) (ext_two_hi _ _)
      have lm := (hT.gr (((Gr.refl wr).alloc (.cells (nw 9 d) 25)).drew)).lo
      by_cases hx : d < m
      · have z0 := (HZd.out ()).1 hx
        have HN : Hid (Unit → (0 < 2 → a < m) ∧ (1 < 2 → d < m)) := fun _ => ⟨fun _ => (HI.out ()).1 (by decide), fun _ => hx⟩
        clear hx
        go_wp2_with fail
        go_region_with (go_at_call 32; refine (HCd.out _).mono ?_; rintro e w' ⟨rfl, g2, rfl⟩)
        all_goals
          go_wp2_with fail
          go_roundw
          case rel => exact ⟨2, by decide, by go_num, HN, G.trans (by repeat (first | exact Gr.refl _ | apply Gr.drewN | apply Gr.drew | apply Gr.alloc | apply Gr.gro))⟩
          case measure => simp [intOf]
      · have z0 := (HZd.out ()).2 hx
        have hk : ckZ (decide (a < m ∧ d < m)) = 601 := by rw [decide_eq_false (fun h => hx h.2)]; rfl
        have HK : Hid (ckZ (decide (a < m ∧ d < m)) = 601) := hk
        clear hx hk
        go_wp2_with fail
        go_region_with (go_at_call 32; refine (HCd.out _).mono ?_; rintro e w' ⟨rfl, g2, rfl⟩)
        all_goals
          go_wp2_with fail
          go_ret
          exact ⟨by rw [HK.out]; rfl, G.trans (by repeat (first | exact Gr.refl _ | apply Gr.drewN | apply Gr.drew | apply Gr.alloc | apply Gr.gro))⟩
    · have hk : ckZ (decide (a < m ∧ d < m)) = 0 := by rw [decide_eq_true ⟨(HI.out ()).1 (by decide), (HI.out ()).2 (by decide)⟩]; rfl
      have HK : Hid (ckZ (decide (a < m ∧ d < m)) = 0) := hk
      clear hk
      go_wp2_with fail
      go_ret
      exact ⟨by rw [HK.out]; rfl, G.trans (by repeat (first | exact Gr.refl _ | apply Gr.drewN | apply Gr.drew | apply Gr.alloc | apply Gr.gro))⟩

end Go.Proofs.Ytleckbdhebjfkaa
