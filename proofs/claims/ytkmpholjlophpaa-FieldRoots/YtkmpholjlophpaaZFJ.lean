/-
  field.onTwo, onOne: what they hand back.
-/
/-
  The fifteen P: bounds, what is split off P - 1, numbers that are no squares; what the candidate of a root is. Functions candidate and sqrt at a curve's P.
-/
/-
  Package field's faces: Add, Sub, Mul, Reduce, Inv, Sqrt: what they hand back.
-/
import Derived.Test.YtkmpholjlophpaaZFG
import Derived.Test.YtkmpholjlophpaaZFE
import Derived.Test.YtkmpholjlophpaaZFD
import Derived.Test.YtkmpholjlophpaaZMixO
import Derived.Test.YtkmpholjlophpaaZNumO
namespace Go.Proofs.Ytkmpholjlophpaa
open Go.RowKit
def bslF (t : TypeId) (n : Nat) (p : Array (Nat × Value)) : Sem Value := Instr.buildSlice t n p
theorem bslN_is (n : Nat) (p : Array (Nat × Value)) : Instr.buildSlice 111 n p = bslF 111 n p := rfl
theorem bsl2 (a b : Nat) (w : World) : (bslF 111 2 #[(0, .agg (nw 9 a)), (1, .agg (nw 9 b))]).run Try.prog w = .ok (.slice (some ⟨w.heap.size, 0, none⟩) 2 2) (w.alloc (.cells (nw 9 a ++ nw 9 b) 25)) := by kernel_rfl
theorem bsl1 (a : Nat) (w : World) : (bslF 111 1 #[(0, .agg (nw 9 a))]).run Try.prog w = .ok (.slice (some ⟨w.heap.size, 0, none⟩) 1 1) (w.alloc (.cells (nw 9 a) 25)) := by kernel_rfl
attribute [local go_sem ↓] loadNat_is loadArr_is loadWide_is loadArrW_is storeNat_is storeWide_is
attribute [local go_sem] loadNat loadArr loadWide loadArrW storeNat storeWide idxArr fold9 fold18 nw_size nw_elem pre_self pre_1 pre_2 pre_3 pre_4 pre_5 pre_6 pre_7 pre_8 pre_9 pre_10 pre_11 pre_12 pre_13 pre_14 pre_15 pre_16 pre_17 pre_18 pre_19 pre_20 pre_21 pre_22 pre_23 pre_24 pre_25 pre_26 pre_27 pre_28 pre_29 pre_30 pre_31 pre_32 pre_33 pre_34 pre_35 pre_36 pre_37 pre_38 pre_39 pre_40 gro_size gro_drew gro_drewN drew_gro drewN_gro gro_gro blk_gro frz_gro blk_drew frz_drew blk_drewN frz_drewN blk_alloc_at frz_alloc_at blk_alloc frz_alloc cell_gro frozen_gro cell_alloc_pre frozen_alloc_pre setCell_drewN alloc_drewN setBlk_drew setBlk_drewN setBlk_alloc_at setBlk_alloc setBlk_gro setCell_gro setCell_alloc_pre size_setBlk size_setCell
attribute [local go_sem ↓] loadDv_is load19_is storeDv_is store19_is copy_is
attribute [local go_sem] idx18 loadDv load19 storeDv store19 dv_size dv_9 dv_10 dv_e9 dv_e10 dv_elem fold11 fold19 setCell_in cell_in frozen_in frz_setBlk blk_setBlk setBlk_setBlk copy_run cpA_nw ones_nw

attribute [local go_sem] loadNat2 loadArr2 loadWide2 loadK_nw ppre_1 ppre_2 ppre_3 ppre_4 ppre_5 ppre_6 ppre_7 ppre_8 ppre_9 ppre_10 ppre_11 ppre_12 ppre_13 ppre_14 ppre_15 ppre_16 ppre_17 ppre_18 ppre_19 ppre_20

attribute [local go_sem ↓] loadMd_is storeMd_is buildMd_is bslN_is Go.wp_at_zero Go.wp_at_succ
attribute [local go_sem] loadMd loadMd2 storeMd buildMd0 buildMd1 blk_other idx2_0 idx2_1 idx2_2 idx1_0 idx1_1 bsl2 bsl1


set_option maxRecDepth 100000 in
set_option maxHeartbeats 1600000 in
theorem onTwo_no (k x : Int) (a b E : Nat) (hE : E ≠ 0) (HM : ∀ w p, blk w p = nw 9 a ++ nw 9 b → Pre (p + 1) w.heap.size → Calls Try.prog 63 #[.int .i64 x, .slice (some ⟨p, 0, none⟩) 2 2] w fun e w' => e = .returned (.tuple #[.agg (nw 9 0), .int .i64 (E : Int)]) ∧ Gr w w') (w : World) :
    Calls Try.prog 41 #[.int .i64 k, .int .i64 x, .agg (nw 9 a), .agg (nw 9 b)] w fun e w' => e = .returned (.tuple #[.agg (nw 9 0), .int .i64 (E : Int)]) ∧ Gr w w' := by
  have HM' : Hid (∀ w p, blk w p = nw 9 a ++ nw 9 b → Pre (p + 1) w.heap.size → Calls Try.prog 63 #[.int .i64 x, .slice (some ⟨p, 0, none⟩) 2 2] w fun e w' => e = .returned (.tuple #[.agg (nw 9 0), .int .i64 (E : Int)]) ∧ Gr w w') := HM
  have e0 : ¬ (E : Int) = 0 := by omega
  have e1 : ((E : Int) == 0) = false := by rw [beq_eq_false_iff_ne]; exact e0
  have e2 : ((E : Int) != 0) = true := by rw [bne, e1]; rfl
  clear HM hE
  go_enter Try.func41, Try.ntmps41
  go_wp2_with (go_at_call 63; refine (HM'.out _ _ ?_ ?_).mono ?_; · simp [go_sem]
               · simp [go_sem]
               rintro e w' ⟨rfl, g, rfl⟩)
  refine bodyPost_ret (res_two Try.results41 (rd_nat (x := 0) (by rfl) ?_) (rd_tmp (by rfl))) rfl ⟨rfl, (by repeat (first | exact Gr.refl _ | apply Gr.drewN | apply Gr.drew | apply Gr.alloc | apply Gr.gro))⟩
  simp [go_sem]

set_option maxRecDepth 100000 in
set_option maxHeartbeats 1600000 in
theorem onOne_no (k x : Int) (a E : Nat) (hE : E ≠ 0) (HM : ∀ w p, blk w p = nw 9 a → Pre (p + 1) w.heap.size → Calls Try.prog 63 #[.int .i64 x, .slice (some ⟨p, 0, none⟩) 1 1] w fun e w' => e = .returned (.tuple #[.agg (nw 9 0), .int .i64 (E : Int)]) ∧ Gr w w') (w : World) :
    Calls Try.prog 49 #[.int .i64 k, .int .i64 x, .agg (nw 9 a)] w fun e w' => e = .returned (.tuple #[.agg (nw 9 0), .int .i64 (E : Int)]) ∧ Gr w w' := by
  have HM' : Hid (∀ w p, blk w p = nw 9 a → Pre (p + 1) w.heap.size → Calls Try.prog 63 #[.int .i64 x, .slice (some ⟨p, 0, none⟩) 1 1] w fun e w' => e = .returned (.tuple #[.agg (nw 9 0), .int .i64 (E : Int)]) ∧ Gr w w') := HM
  have e0 : ¬ (E : Int) = 0 := by omega
  have e1 : ((E : Int) == 0) = false := by rw [beq_eq_false_iff_ne]; exact e0
  have e2 : ((E : Int) != 0) = true := by rw [bne, e1]; rfl
  clear HM hE
  go_enter Try.func49, Try.ntmps49
  go_wp2_with (go_at_call 63; refine (HM'.out _ _ ?_ ?_).mono ?_; · simp [go_sem]
               · simp [go_sem]
               rintro e w' ⟨rfl, g, rfl⟩)
  refine bodyPost_ret (res_two Try.results49 (rd_nat (x := 0) (by rfl) ?_) (rd_tmp (by rfl))) rfl ⟨rfl, (by repeat (first | exact Gr.refl _ | apply Gr.drewN | apply Gr.drew | apply Gr.alloc | apply Gr.gro))⟩
  simp [go_sem]

set_option maxRecDepth 100000 in
set_option maxHeartbeats 1600000 in
theorem onTwo_add (x : Int) (m a b R : Nat) (HM : ∀ w p, blk w p = nw 9 a ++ nw 9 b → Pre (p + 1) w.heap.size → Calls Try.prog 63 #[.int .i64 x, .slice (some ⟨p, 0, none⟩) 2 2] w fun e w' => e = .returned (.tuple #[.agg (nw 9 m), .int .i64 0]) ∧ Gr w w')
    (HF : ∀ w, Calls Try.prog 77 #[.agg (nw 9 m), .agg (nw 9 a), .agg (nw 9 b)] w fun e w' => e = .returned (.agg (nw 9 R)) ∧ Gr w w') (w : World) :
    Calls Try.prog 41 #[.int .i64 0, .int .i64 x, .agg (nw 9 a), .agg (nw 9 b)] w fun e w' => e = .returned (.tuple #[.agg (nw 9 R), .int .i64 0]) ∧ Gr w w' := by
  have HM' : Hid (∀ w p, blk w p = nw 9 a ++ nw 9 b → Pre (p + 1) w.heap.size → Calls Try.prog 63 #[.int .i64 x, .slice (some ⟨p, 0, none⟩) 2 2] w fun e w' => e = .returned (.tuple #[.agg (nw 9 m), .int .i64 0]) ∧ Gr w w') := HM
  have HF' : Hid (∀ w, Calls Try.prog 77 #[.agg (nw 9 m), .agg (nw 9 a), .agg (nw 9 b)] w fun e w' => e = .returned (.agg (nw 9 R)) ∧ Gr w w') := HF
  have HT : Hid (∀ w, Calls Try.prog 64 #[] w fun e w' => e = .returned (.agg tab2) ∧ Gr w w') := fun w => ofTwo_any w
  clear HM HF
  go_enter Try.func41, Try.ntmps41
  go_upto_region 4 with (go_at_call 63; refine (HM'.out _ _ ?_ ?_).mono ?_; · simp [go_sem]
                         · simp [go_sem]
                         rintro e w' ⟨rfl, g, rfl⟩)
  obtain ⟨b10, hb10⟩ : ∃ b, w.heap.size + 1 + 1 + 1 + 1 + g.os.length = b := ⟨_, rfl⟩
  rw [hb10]
  refine gen_w (fun v => Hid (Gr w v ∧ Cl v w.heap.size a ∧ Cl v (w.heap.size + 1) b ∧ Cl v (w.heap.size + 1 + 1) 0 ∧ Cl v b10 m)) ?_ ?_
  · subst hb10
    exact ⟨(by repeat (first | exact Gr.refl _ | apply Gr.drewN | apply Gr.drew | apply Gr.alloc | apply Gr.gro)), ⟨by simp [go_sem], by simp [go_sem], by simp [go_sem]⟩, ⟨by simp [go_sem], by simp [go_sem], by simp [go_sem]⟩, ⟨by simp [go_sem], by simp [go_sem], by simp [go_sem]⟩, ⟨by simp [go_sem], by simp [go_sem], by simp [go_sem]⟩⟩
  intro v0 HV
  obtain ⟨G, c1, c2, c3, c4⟩ := HV.out
  have n1 : w.heap.size + 1 + 1 ≠ b10 := by omega
  refine wp_region_mix (by kernel_rfl) (by kernel_rfl) (RO _ (fun i => match i with | 0 => some (.agg tab2) | 1 => some (.int .i64 0) | 2 => some (.func (.func 77) #[] #[]) | 3 => some (.agg (nw 9 m)) | 4 => some (.agg (nw 9 a)) | 5 => some (.agg (nw 9 b)) | 6 => some (.agg (nw 9 R)) | 8 => some (.int .i64 0) | _ => none) 7 (w.heap.size + 1 + 1) (nw 9 R)) (RO.start _ _ _ _ _ _ _) ?hs ?hf
  case hs =>
    intro listed vals a1 v1 i o hz hR hF ho hl hd
    have hm : blk v1 (b10) = nw 9 m := (hR.blk (b10) c4.p (n1)).trans c4.h
    have ha : blk v1 (w.heap.size) = nw 9 a := (hR.blk (w.heap.size) c1.p (by omega)).trans c1.h
    have hb : blk v1 (w.heap.size + 1) = nw 9 b := (hR.blk (w.heap.size + 1) c2.p (by omega)).trans c2.h
    have hi : i < 9 := by simpa using (Array.getElem?_eq_some_iff.1 ho).1
    have hil : i < listed.size := by rw [hz]; simpa using hi
    obtain rfl | rfl | rfl | rfl | rfl | rfl | rfl | rfl | rfl : i = 0 ∨ i = 1 ∨ i = 2 ∨ i = 3 ∨ i = 4 ∨ i = 5 ∨ i = 6 ∨ i = 7 ∨ i = 8 := by omega
    · obtain rfl := Option.some.inj ho
      exact wp_ret (.agg tab2) (by simp [go_sem]) (HT.out _) (fun w2 hg => ⟨_, rfl, RO.quiet 0 _ rfl (by decide) hg hR⟩)
    · obtain rfl := Option.some.inj ho
      have f0 := hF.old (s := 0) (v := .int .i64 0) (by kernel_rfl) rfl
      exact wp_val (.int .i64 0) (by simp [go_sem, f0]) ⟨_, rfl, RO.quiet 1 _ rfl (by decide) (Gr.refl _) hR⟩
    · obtain rfl := Option.some.inj ho
      have l0 := hd ⟨0, .data⟩ (by simp) rfl
      have f0 := hF.at (s := 24) (i := 0) (by kernel_rfl) (by simp) l0
      rw [hR.1 0 _ l0 rfl] at f0
      have l1 := hd ⟨1, .data⟩ (by simp) rfl
      have f1 := hF.at (s := 25) (i := 1) (by kernel_rfl) (by simp) l1
      rw [hR.1 1 _ l1 rfl] at f1
      exact wp_val (.func (.func 77) #[] #[]) (by simp [go_sem, f0, f1]) ⟨_, rfl, RO.quiet 2 _ rfl (by decide) (Gr.refl _) hR⟩
    · obtain rfl := Option.some.inj ho
      have f0 := hF.old (s := 10) (v := .pointer (some ⟨b10, 0, none⟩)) (by kernel_rfl) rfl
      exact wp_val (.agg (nw 9 m)) (by simp [go_sem, f0, hm]) ⟨_, rfl, RO.quiet 3 _ rfl (by decide) (Gr.refl _) hR⟩
    · obtain rfl := Option.some.inj ho
      have f0 := hF.old (s := 6) (v := .pointer (some ⟨w.heap.size, 0, none⟩)) (by kernel_rfl) rfl
      exact wp_val (.agg (nw 9 a)) (by simp [go_sem, f0, ha]) ⟨_, rfl, RO.quiet 4 _ rfl (by decide) (Gr.refl _) hR⟩
    · obtain rfl := Option.some.inj ho
      have f0 := hF.old (s := 7) (v := .pointer (some ⟨w.heap.size + 1, 0, none⟩)) (by kernel_rfl) rfl
      exact wp_val (.agg (nw 9 b)) (by simp [go_sem, f0, hb]) ⟨_, rfl, RO.quiet 5 _ rfl (by decide) (Gr.refl _) hR⟩
    · obtain rfl := Option.some.inj ho
      have l0 := hd ⟨2, .data⟩ (by simp) rfl
      have f0 := hF.at (s := 26) (i := 2) (by kernel_rfl) (by simp) l0
      rw [hR.1 2 _ l0 rfl] at f0
      have l1 := hd ⟨3, .data⟩ (by simp) rfl
      have f1 := hF.at (s := 27) (i := 3) (by kernel_rfl) (by simp) l1
      rw [hR.1 3 _ l1 rfl] at f1
      have l2 := hd ⟨4, .data⟩ (by simp) rfl
      have f2 := hF.at (s := 28) (i := 4) (by kernel_rfl) (by simp) l2
      rw [hR.1 4 _ l2 rfl] at f2
      have l3 := hd ⟨5, .data⟩ (by simp) rfl
      have f3 := hF.at (s := 29) (i := 5) (by kernel_rfl) (by simp) l3
      rw [hR.1 5 _ l3 rfl] at f3
      exact wp_ret (.agg (nw 9 R)) (by simp [go_sem, f0, f1, f2, f3]) (HF'.out _) (fun w2 hg => ⟨_, rfl, RO.quiet 6 _ rfl (by decide) hg hR⟩)
    · obtain rfl := Option.some.inj ho
      have l0 := hd ⟨6, .data⟩ (by simp) rfl
      have f0 := hF.at (s := 30) (i := 6) (by kernel_rfl) (by simp) l0
      rw [hR.1 6 _ l0 rfl] at f0
      have g0 := hR.2.1 hl
      have c0 := c3.gr g0
      have y0 := c0.h
      have y1 := c0.f
      have fp := hF.old (s := 8) (v := .pointer (some ⟨w.heap.size + 1 + 1, 0, none⟩)) (by kernel_rfl) rfl
      exact wp_skip (w' := setBlk v1 (w.heap.size + 1 + 1) (nw 9 R)) (by simp [go_sem, fp, y0, y1, f0]) ⟨undef, rfl, RO.store _ hil hl rfl hR⟩
    · obtain rfl := Option.some.inj ho
      exact wp_val (.int .i64 0) (by simp [go_sem]) ⟨_, rfl, RO.quiet 8 _ rfl (by decide) (Gr.refl _) hR⟩
  case hf =>
    intro listed vals a1 v1 hall hR hF
    obtain ⟨vM, g1, g2⟩ := hR.2.2 (hall 7 (by simp))
    have cR := ((c3.gr g1).set R).gr g2
    have hV := hR.1
    have x0 := hV 0 _ (hall 0 (by simp)) rfl
    have x1 := hV 1 _ (hall 1 (by simp)) rfl
    have x2 := hV 2 _ (hall 2 (by simp)) rfl
    have x3 := hV 3 _ (hall 3 (by simp)) rfl
    have x4 := hV 4 _ (hall 4 (by simp)) rfl
    have x5 := hV 5 _ (hall 5 (by simp)) rfl
    have x6 := hV 6 _ (hall 6 (by simp)) rfl
    have x8 := hV 8 _ (hall 8 (by simp)) rfl
    rw [hF.final (by kernel_rfl) hall]
    simp only [putFrom, Act.put, List.setIfInBounds_toArray, List.set_cons_zero, List.set_cons_succ, x0, x1, x2, x3, x4, x5, x6, x8]
    clear hV hR hF hall x0 x1 x2 x3 x4 x5 x6 x8
    have hr := cR.h
    go_wp2_with fail
    refine bodyPost_ret (res_two Try.results41 (rd_nat (x := R) (by rfl) ?_) (rd_tmp (by rfl))) rfl ⟨rfl, ?_⟩
    · exact cR.h
    · exact (gr_setNew (G.trans g1) (by omega)).trans g2

set_option maxRecDepth 100000 in
set_option maxHeartbeats 1600000 in
theorem onTwo_sub (x : Int) (m a b R : Nat) (HM : ∀ w p, blk w p = nw 9 a ++ nw 9 b → Pre (p + 1) w.heap.size → Calls Try.prog 63 #[.int .i64 x, .slice (some ⟨p, 0, none⟩) 2 2] w fun e w' => e = .returned (.tuple #[.agg (nw 9 m), .int .i64 0]) ∧ Gr w w')
    (HF : ∀ w, Calls Try.prog 78 #[.agg (nw 9 m), .agg (nw 9 a), .agg (nw 9 b)] w fun e w' => e = .returned (.agg (nw 9 R)) ∧ Gr w w') (w : World) :
    Calls Try.prog 41 #[.int .i64 1, .int .i64 x, .agg (nw 9 a), .agg (nw 9 b)] w fun e w' => e = .returned (.tuple #[.agg (nw 9 R), .int .i64 0]) ∧ Gr w w' := by
  have HM' : Hid (∀ w p, blk w p = nw 9 a ++ nw 9 b → Pre (p + 1) w.heap.size → Calls Try.prog 63 #[.int .i64 x, .slice (some ⟨p, 0, none⟩) 2 2] w fun e w' => e = .returned (.tuple #[.agg (nw 9 m), .int .i64 0]) ∧ Gr w w') := HM
  have HF' : Hid (∀ w, Calls Try.prog 78 #[.agg (nw 9 m), .agg (nw 9 a), .agg (nw 9 b)] w fun e w' => e = .returned (.agg (nw 9 R)) ∧ Gr w w') := HF
  have HT : Hid (∀ w, Calls Try.prog 64 #[] w fun e w' => e = .returned (.agg tab2) ∧ Gr w w') := fun w => ofTwo_any w
  clear HM HF
  go_enter Try.func41, Try.ntmps41
  go_upto_region 4 with (go_at_call 63; refine (HM'.out _ _ ?_ ?_).mono ?_; · simp [go_sem]
                         · simp [go_sem]
                         rintro e w' ⟨rfl, g, rfl⟩)
  obtain ⟨b10, hb10⟩ : ∃ b, w.heap.size + 1 + 1 + 1 + 1 + g.os.length = b := ⟨_, rfl⟩
  rw [hb10]
  refine gen_w (fun v => Hid (Gr w v ∧ Cl v w.heap.size a ∧ Cl v (w.heap.size + 1) b ∧ Cl v (w.heap.size + 1 + 1) 0 ∧ Cl v b10 m)) ?_ ?_
  · subst hb10
    exact ⟨(by repeat (first | exact Gr.refl _ | apply Gr.drewN | apply Gr.drew | apply Gr.alloc | apply Gr.gro)), ⟨by simp [go_sem], by simp [go_sem], by simp [go_sem]⟩, ⟨by simp [go_sem], by simp [go_sem], by simp [go_sem]⟩, ⟨by simp [go_sem], by simp [go_sem], by simp [go_sem]⟩, ⟨by simp [go_sem], by simp [go_sem], by simp [go_sem]⟩⟩
  intro v0 HV
  obtain ⟨G, c1, c2, c3, c4⟩ := HV.out
  have n1 : w.heap.size + 1 + 1 ≠ b10 := by omega
  refine wp_region_mix (by kernel_rfl) (by kernel_rfl) (RO _ (fun i => match i with | 0 => some (.agg tab2) | 1 => some (.int .i64 1) | 2 => some (.func (.func 78) #[] #[]) | 3 => some (.agg (nw 9 m)) | 4 => some (.agg (nw 9 a)) | 5 => some (.agg (nw 9 b)) | 6 => some (.agg (nw 9 R)) | 8 => some (.int .i64 0) | _ => none) 7 (w.heap.size + 1 + 1) (nw 9 R)) (RO.start _ _ _ _ _ _ _) ?hs ?hf
  case hs =>
    intro listed vals a1 v1 i o hz hR hF ho hl hd
    have hm : blk v1 (b10) = nw 9 m := (hR.blk (b10) c4.p (n1)).trans c4.h
    have ha : blk v1 (w.heap.size) = nw 9 a := (hR.blk (w.heap.size) c1.p (by omega)).trans c1.h
    have hb : blk v1 (w.heap.size + 1) = nw 9 b := (hR.blk (w.heap.size + 1) c2.p (by omega)).trans c2.h
    have hi : i < 9 := by simpa using (Array.getElem?_eq_some_iff.1 ho).1
    have hil : i < listed.size := by rw [hz]; simpa using hi
    obtain rfl | rfl | rfl | rfl | rfl | rfl | rfl | rfl | rfl : i = 0 ∨ i = 1 ∨ i = 2 ∨ i = 3 ∨ i = 4 ∨ i = 5 ∨ i = 6 ∨ i = 7 ∨ i = 8 := by omega
    · obtain rfl := Option.some.inj ho
      exact wp_ret (.agg tab2) (by simp [go_sem]) (HT.out _) (fun w2 hg => ⟨_, rfl, RO.quiet 0 _ rfl (by decide) hg hR⟩)
    · obtain rfl := Option.some.inj ho
      have f0 := hF.old (s := 0) (v := .int .i64 1) (by kernel_rfl) rfl
      exact wp_val (.int .i64 1) (by simp [go_sem, f0]) ⟨_, rfl, RO.quiet 1 _ rfl (by decide) (Gr.refl _) hR⟩
    · obtain rfl := Option.some.inj ho
      have l0 := hd ⟨0, .data⟩ (by simp) rfl
      have f0 := hF.at (s := 24) (i := 0) (by kernel_rfl) (by simp) l0
      rw [hR.1 0 _ l0 rfl] at f0
      have l1 := hd ⟨1, .data⟩ (by simp) rfl
      have f1 := hF.at (s := 25) (i := 1) (by kernel_rfl) (by simp) l1
      rw [hR.1 1 _ l1 rfl] at f1
      exact wp_val (.func (.func 78) #[] #[]) (by simp [go_sem, f0, f1]) ⟨_, rfl, RO.quiet 2 _ rfl (by decide) (Gr.refl _) hR⟩
    · obtain rfl := Option.some.inj ho
      have f0 := hF.old (s := 10) (v := .pointer (some ⟨b10, 0, none⟩)) (by kernel_rfl) rfl
      exact wp_val (.agg (nw 9 m)) (by simp [go_sem, f0, hm]) ⟨_, rfl, RO.quiet 3 _ rfl (by decide) (Gr.refl _) hR⟩
    · obtain rfl := Option.some.inj ho
      have f0 := hF.old (s := 6) (v := .pointer (some ⟨w.heap.size, 0, none⟩)) (by kernel_rfl) rfl
      exact wp_val (.agg (nw 9 a)) (by simp [go_sem, f0, ha]) ⟨_, rfl, RO.quiet 4 _ rfl (by decide) (Gr.refl _) hR⟩
    · obtain rfl := Option.some.inj ho
      have f0 := hF.old (s := 7) (v := .pointer (some ⟨w.heap.size + 1, 0, none⟩)) (by kernel_rfl) rfl
      exact wp_val (.agg (nw 9 b)) (by simp [go_sem, f0, hb]) ⟨_, rfl, RO.quiet 5 _ rfl (by decide) (Gr.refl _) hR⟩
    · obtain rfl := Option.some.inj ho
      have l0 := hd ⟨2, .data⟩ (by simp) rfl
      have f0 := hF.at (s := 26) (i := 2) (by kernel_rfl) (by simp) l0
      rw [hR.1 2 _ l0 rfl] at f0
      have l1 := hd ⟨3, .data⟩ (by simp) rfl
      have f1 := hF.at (s := 27) (i := 3) (by kernel_rfl) (by simp) l1
      rw [hR.1 3 _ l1 rfl] at f1
      have l2 := hd ⟨4, .data⟩ (by simp) rfl
      have f2 := hF.at (s := 28) (i := 4) (by kernel_rfl) (by simp) l2
      rw [hR.1 4 _ l2 rfl] at f2
      have l3 := hd ⟨5, .data⟩ (by simp) rfl
      have f3 := hF.at (s := 29) (i := 5) (by kernel_rfl) (by simp) l3
      rw [hR.1 5 _ l3 rfl] at f3
      exact wp_ret (.agg (nw 9 R)) (by simp [go_sem, f0, f1, f2, f3]) (HF'.out _) (fun w2 hg => ⟨_, rfl, RO.quiet 6 _ rfl (by decide) hg hR⟩)
    · obtain rfl := Option.some.inj ho
      have l0 := hd ⟨6, .data⟩ (by simp) rfl
      have f0 := hF.at (s := 30) (i := 6) (by kernel_rfl) (by simp) l0
      rw [hR.1 6 _ l0 rfl] at f0
      have g0 := hR.2.1 hl
      have c0 := c3.gr g0
      have y0 := c0.h
      have y1 := c0.f
      have fp := hF.old (s := 8) (v := .pointer (some ⟨w.heap.size + 1 + 1, 0, none⟩)) (by kernel_rfl) rfl
      exact wp_skip (w' := setBlk v1 (w.heap.size + 1 + 1) (nw 9 R)) (by simp [go_sem, fp, y0, y1, f0]) ⟨undef, rfl, RO.store _ hil hl rfl hR⟩
    · obtain rfl := Option.some.inj ho
      exact wp_val (.int .i64 0) (by simp [go_sem]) ⟨_, rfl, RO.quiet 8 _ rfl (by decide) (Gr.refl _) hR⟩
  case hf =>
    intro listed vals a1 v1 hall hR hF
    obtain ⟨vM, g1, g2⟩ := hR.2.2 (hall 7 (by simp))
    have cR := ((c3.gr g1).set R).gr g2
    have hV := hR.1
    have x0 := hV 0 _ (hall 0 (by simp)) rfl
    have x1 := hV 1 _ (hall 1 (by simp)) rfl
    have x2 := hV 2 _ (hall 2 (by simp)) rfl
    have x3 := hV 3 _ (hall 3 (by simp)) rfl
    have x4 := hV 4 _ (hall 4 (by simp)) rfl
    have x5 := hV 5 _ (hall 5 (by simp)) rfl
    have x6 := hV 6 _ (hall 6 (by simp)) rfl
    have x8 := hV 8 _ (hall 8 (by simp)) rfl
    rw [hF.final (by kernel_rfl) hall]
    simp only [putFrom, Act.put, List.setIfInBounds_toArray, List.set_cons_zero, List.set_cons_succ, x0, x1, x2, x3, x4, x5, x6, x8]
    clear hV hR hF hall x0 x1 x2 x3 x4 x5 x6 x8
    have hr := cR.h
    go_wp2_with fail
    refine bodyPost_ret (res_two Try.results41 (rd_nat (x := R) (by rfl) ?_) (rd_tmp (by rfl))) rfl ⟨rfl, ?_⟩
    · exact cR.h
    · exact (gr_setNew (G.trans g1) (by omega)).trans g2

set_option maxRecDepth 100000 in
set_option maxHeartbeats 1600000 in
theorem onTwo_mul (x : Int) (m a b R : Nat) (HM : ∀ w p, blk w p = nw 9 a ++ nw 9 b → Pre (p + 1) w.heap.size → Calls Try.prog 63 #[.int .i64 x, .slice (some ⟨p, 0, none⟩) 2 2] w fun e w' => e = .returned (.tuple #[.agg (nw 9 m), .int .i64 0]) ∧ Gr w w')
    (HF : ∀ w, Calls Try.prog 79 #[.agg (nw 9 m), .agg (nw 9 a), .agg (nw 9 b)] w fun e w' => e = .returned (.agg (nw 9 R)) ∧ Gr w w') (w : World) :
    Calls Try.prog 41 #[.int .i64 2, .int .i64 x, .agg (nw 9 a), .agg (nw 9 b)] w fun e w' => e = .returned (.tuple #[.agg (nw 9 R), .int .i64 0]) ∧ Gr w w' := by
  have HM' : Hid (∀ w p, blk w p = nw 9 a ++ nw 9 b → Pre (p + 1) w.heap.size → Calls Try.prog 63 #[.int .i64 x, .slice (some ⟨p, 0, none⟩) 2 2] w fun e w' => e = .returned (.tuple #[.agg (nw 9 m), .int .i64 0]) ∧ Gr w w') := HM
  have HF' : Hid (∀ w, Calls Try.prog 79 #[.agg (nw 9 m), .agg (nw 9 a), .agg (nw 9 b)] w fun e w' => e = .returned (.agg (nw 9 R)) ∧ Gr w w') := HF
  have HT : Hid (∀ w, Calls Try.prog 64 #[] w fun e w' => e = .returned (.agg tab2) ∧ Gr w w') := fun w => ofTwo_any w
  clear HM HF
  go_enter Try.func41, Try.ntmps41
  go_upto_region 4 with (go_at_call 63; refine (HM'.out _ _ ?_ ?_).mono ?_; · simp [go_sem]
                         · simp [go_sem]
                         rintro e w' ⟨rfl, g, rfl⟩)
  obtain ⟨b10, hb10⟩ : ∃ b, w.heap.size + 1 + 1 + 1 + 1 + g.os.length = b := ⟨_, rfl⟩
  rw [hb10]
  refine gen_w (fun v => Hid (Gr w v ∧ Cl v w.heap.size a ∧ Cl v (w.heap.size + 1) b ∧ Cl v (w.heap.size + 1 + 1) 0 ∧ Cl v b10 m)) ?_ ?_
  · subst hb10
    exact ⟨(by repeat (first | exact Gr.refl _ | apply Gr.drewN | apply Gr.drew | apply Gr.alloc | apply Gr.gro)), ⟨by simp [go_sem], by simp [go_sem], by simp [go_sem]⟩, ⟨by simp [go_sem], by simp [go_sem], by simp [go_sem]⟩, ⟨by simp [go_sem], by simp [go_sem], by simp [go_sem]⟩, ⟨by simp [go_sem], by simp [go_sem], by simp [go_sem]⟩⟩
  intro v0 HV
  obtain ⟨G, c1, c2, c3, c4⟩ := HV.out
  have n1 : w.heap.size + 1 + 1 ≠ b10 := by omega
  refine wp_region_mix (by kernel_rfl) (by kernel_rfl) (RO _ (fun i => match i with | 0 => some (.agg tab2) | 1 => some (.int .i64 2) | 2 => some (.func (.func 79) #[] #[]) | 3 => some (.agg (nw 9 m)) | 4 => some (.agg (nw 9 a)) | 5 => some (.agg (nw 9 b)) | 6 => some (.agg (nw 9 R)) | 8 => some (.int .i64 0) | _ => none) 7 (w.heap.size + 1 + 1) (nw 9 R)) (RO.start _ _ _ _ _ _ _) ?hs ?hf
  case hs =>
    intro listed vals a1 v1 i o hz hR hF ho hl hd
    have hm : blk v1 (b10) = nw 9 m := (hR.blk (b10) c4.p (n1)).trans c4.h
    have ha : blk v1 (w.heap.size) = nw 9 a := (hR.blk (w.heap.size) c1.p (by omega)).trans c1.h
    have hb : blk v1 (w.heap.size + 1) = nw 9 b := (hR.blk (w.heap.size + 1) c2.p (by omega)).trans c2.h
    have hi : i < 9 := by simpa using (Array.getElem?_eq_some_iff.1 ho).1
    have hil : i < listed.size := by rw [hz]; simpa using hi
    obtain rfl | rfl | rfl | rfl | rfl | rfl | rfl | rfl | rfl : i = 0 ∨ i = 1 ∨ i = 2 ∨ i = 3 ∨ i = 4 ∨ i = 5 ∨ i = 6 ∨ i = 7 ∨ i = 8 := by omega
    · obtain rfl := Option.some.inj ho
      exact wp_ret (.agg tab2) (by simp [go_sem]) (HT.out _) (fun w2 hg => ⟨_, rfl, RO.quiet 0 _ rfl (by decide) hg hR⟩)
    · obtain rfl := Option.some.inj ho
      have f0 := hF.old (s := 0) (v := .int .i64 2) (by kernel_rfl) rfl
      exact wp_val (.int .i64 2) (by simp [go_sem, f0]) ⟨_, rfl, RO.quiet 1 _ rfl (by decide) (Gr.refl _) hR⟩
    · obtain rfl := Option.some.inj ho
      have l0 := hd ⟨0, .data⟩ (by simp) rfl
      have f0 := hF.at (s := 24) (i := 0) (by kernel_rfl) (by simp) l0
      rw [hR.1 0 _ l0 rfl] at f0
      have l1 := hd ⟨1, .data⟩ (by simp) rfl
      have f1 := hF.at (s := 25) (i := 1) (by kernel_rfl) (by simp) l1
      rw [hR.1 1 _ l1 rfl] at f1
      exact wp_val (.func (.func 79) #[] #[]) (by simp [go_sem, f0, f1]) ⟨_, rfl, RO.quiet 2 _ rfl (by decide) (Gr.refl _) hR⟩
    · obtain rfl := Option.some.inj ho
      have f0 := hF.old (s := 10) (v := .pointer (some ⟨b10, 0, none⟩)) (by kernel_rfl) rfl
      exact wp_val (.agg (nw 9 m)) (by simp [go_sem, f0, hm]) ⟨_, rfl, RO.quiet 3 _ rfl (by decide) (Gr.refl _) hR⟩
    · obtain rfl := Option.some.inj ho
      have f0 := hF.old (s := 6) (v := .pointer (some ⟨w.heap.size, 0, none⟩)) (by kernel_rfl) rfl
      exact wp_val (.agg (nw 9 a)) (by simp [go_sem, f0, ha]) ⟨_, rfl, RO.quiet 4 _ rfl (by decide) (Gr.refl _) hR⟩
    · obtain rfl := Option.some.inj ho
      have f0 := hF.old (s := 7) (v := .pointer (some ⟨w.heap.size + 1, 0, none⟩)) (by kernel_rfl) rfl
      exact wp_val (.agg (nw 9 b)) (by simp [go_sem, f0, hb]) ⟨_, rfl, RO.quiet 5 _ rfl (by decide) (Gr.refl _) hR⟩
    · obtain rfl := Option.some.inj ho
      have l0 := hd ⟨2, .data⟩ (by simp) rfl
      have f0 := hF.at (s := 26) (i := 2) (by kernel_rfl) (by simp) l0
      rw [hR.1 2 _ l0 rfl] at f0
      have l1 := hd ⟨3, .data⟩ (by simp) rfl
      have f1 := hF.at (s := 27) (i := 3) (by kernel_rfl) (by simp) l1
      rw [hR.1 3 _ l1 rfl] at f1
      have l2 := hd ⟨4, .data⟩ (by simp) rfl
      have f2 := hF.at (s := 28) (i := 4) (by kernel_rfl) (by simp) l2
      rw [hR.1 4 _ l2 rfl] at f2
      have l3 := hd ⟨5, .data⟩ (by simp) rfl
      have f3 := hF.at (s := 29) (i := 5) (by kernel_rfl) (by simp) l3
      rw [hR.1 5 _ l3 rfl] at f3
      exact wp_ret (.agg (nw 9 R)) (by simp [go_sem, f0, f1, f2, f3]) (HF'.out _) (fun w2 hg => ⟨_, rfl, RO.quiet 6 _ rfl (by decide) hg hR⟩)
    · obtain rfl := Option.some.inj ho
      have l0 := hd ⟨6, .data⟩ (by simp) rfl
      have f0 := hF.at (s := 30) (i := 6) (by kernel_rfl) (by simp) l0
      rw [hR.1 6 _ l0 rfl] at f0
      have g0 := hR.2.1 hl
      have c0 := c3.gr g0
      have y0 := c0.h
      have y1 := c0.f
      have fp := hF.old (s := 8) (v := .pointer (some ⟨w.heap.size + 1 + 1, 0, none⟩)) (by kernel_rfl) rfl
      exact wp_skip (w' := setBlk v1 (w.heap.size + 1 + 1) (nw 9 R)) (by simp [go_sem, fp, y0, y1, f0]) ⟨undef, rfl, RO.store _ hil hl rfl hR⟩
    · obtain rfl := Option.some.inj ho
      exact wp_val (.int .i64 0) (by simp [go_sem]) ⟨_, rfl, RO.quiet 8 _ rfl (by decide) (Gr.refl _) hR⟩
  case hf =>
    intro listed vals a1 v1 hall hR hF
    obtain ⟨vM, g1, g2⟩ := hR.2.2 (hall 7 (by simp))
    have cR := ((c3.gr g1).set R).gr g2
    have hV := hR.1
    have x0 := hV 0 _ (hall 0 (by simp)) rfl
    have x1 := hV 1 _ (hall 1 (by simp)) rfl
    have x2 := hV 2 _ (hall 2 (by simp)) rfl
    have x3 := hV 3 _ (hall 3 (by simp)) rfl
    have x4 := hV 4 _ (hall 4 (by simp)) rfl
    have x5 := hV 5 _ (hall 5 (by simp)) rfl
    have x6 := hV 6 _ (hall 6 (by simp)) rfl
    have x8 := hV 8 _ (hall 8 (by simp)) rfl
    rw [hF.final (by kernel_rfl) hall]
    simp only [putFrom, Act.put, List.setIfInBounds_toArray, List.set_cons_zero, List.set_cons_succ, x0, x1, x2, x3, x4, x5, x6, x8]
    clear hV hR hF hall x0 x1 x2 x3 x4 x5 x6 x8
    have hr := cR.h
    go_wp2_with fail
    refine bodyPost_ret (res_two Try.results41 (rd_nat (x := R) (by rfl) ?_) (rd_tmp (by rfl))) rfl ⟨rfl, ?_⟩
    · exact cR.h
    · exact (gr_setNew (G.trans g1) (by omega)).trans g2

set_option maxRecDepth 100000 in
set_option maxHeartbeats 1600000 in
theorem onOne_inv (x : Int) (m a R : Nat) (E : Int) (HM : ∀ w p, blk w p = nw 9 a → Pre (p + 1) w.heap.size → Calls Try.prog 63 #[.int .i64 x, .slice (some ⟨p, 0, none⟩) 1 1] w fun e w' => e = .returned (.tuple #[.agg (nw 9 m), .int .i64 0]) ∧ Gr w w')
    (HF : ∀ w, Calls Try.prog 80 #[.agg (nw 9 m), .agg (nw 9 a)] w fun e w' => e = .returned (.tuple #[.agg (nw 9 R), .int .i64 E]) ∧ Gr w w') (w : World) :
    Calls Try.prog 49 #[.int .i64 0, .int .i64 x, .agg (nw 9 a)] w fun e w' => e = .returned (.tuple #[.agg (nw 9 R), .int .i64 E]) ∧ Gr w w' := by
  have HM' : Hid (∀ w p, blk w p = nw 9 a → Pre (p + 1) w.heap.size → Calls Try.prog 63 #[.int .i64 x, .slice (some ⟨p, 0, none⟩) 1 1] w fun e w' => e = .returned (.tuple #[.agg (nw 9 m), .int .i64 0]) ∧ Gr w w') := HM
  have HF' : Hid (∀ w, Calls Try.prog 80 #[.agg (nw 9 m), .agg (nw 9 a)] w fun e w' => e = .returned (.tuple #[.agg (nw 9 R), .int .i64 E]) ∧ Gr w w') := HF
  have HT : Hid (∀ w, Calls Try.prog 70 #[] w fun e w' => e = .returned (.agg tab1) ∧ Gr w w') := fun w => ofOne_any w
  clear HM HF
  go_enter Try.func49, Try.ntmps49
  go_upto_region 4 with (go_at_call 63; refine (HM'.out _ _ ?_ ?_).mono ?_; · simp [go_sem]
                         · simp [go_sem]
                         rintro e w' ⟨rfl, g, rfl⟩)
  obtain ⟨b10, hb10⟩ : ∃ b, w.heap.size + 1 + 1 + 1 + g.os.length = b := ⟨_, rfl⟩
  rw [hb10]
  refine gen_w (fun v => Hid (Gr w v ∧ Cl v w.heap.size a ∧ Cl v (w.heap.size + 1) 0 ∧ Cl v b10 m)) ?_ ?_
  · subst hb10
    exact ⟨(by repeat (first | exact Gr.refl _ | apply Gr.drewN | apply Gr.drew | apply Gr.alloc | apply Gr.gro)), ⟨by simp [go_sem], by simp [go_sem], by simp [go_sem]⟩, ⟨by simp [go_sem], by simp [go_sem], by simp [go_sem]⟩, ⟨by simp [go_sem], by simp [go_sem], by simp [go_sem]⟩⟩
  intro v0 HV
  obtain ⟨G, c1, c3, c4⟩ := HV.out
  have n1 : w.heap.size + 1 ≠ b10 := by omega
  refine wp_region_mix (by kernel_rfl) (by kernel_rfl) (RO _ (fun i => match i with | 0 => some (.agg tab1) | 1 => some (.int .i64 0) | 2 => some (.func (.func 80) #[] #[]) | 3 => some (.agg (nw 9 m)) | 4 => some (.agg (nw 9 a)) | 5 => some (.tuple #[.agg (nw 9 R), .int .i64 E]) | 6 => some (.agg (nw 9 R)) | 7 => some (.int .i64 E) | 9 => some (.int .i64 E) | _ => none) 8 (w.heap.size + 1) (nw 9 R)) (RO.start _ _ _ _ _ _ _) ?hs ?hf
  case hs =>
    intro listed vals a1 v1 i o hz hR hF ho hl hd
    have hm : blk v1 (b10) = nw 9 m := (hR.blk (b10) c4.p (n1)).trans c4.h
    have ha : blk v1 (w.heap.size) = nw 9 a := (hR.blk (w.heap.size) c1.p (by omega)).trans c1.h
    have hi : i < 10 := by simpa using (Array.getElem?_eq_some_iff.1 ho).1
    have hil : i < listed.size := by rw [hz]; simpa using hi
    obtain rfl | rfl | rfl | rfl | rfl | rfl | rfl | rfl | rfl | rfl : i = 0 ∨ i = 1 ∨ i = 2 ∨ i = 3 ∨ i = 4 ∨ i = 5 ∨ i = 6 ∨ i = 7 ∨ i = 8 ∨ i = 9 := by omega
    · obtain rfl := Option.some.inj ho
      exact wp_ret (.agg tab1) (by simp [go_sem]) (HT.out _) (fun w2 hg => ⟨_, rfl, RO.quiet 0 _ rfl (by decide) hg hR⟩)
    · obtain rfl := Option.some.inj ho
      have f0 := hF.old (s := 0) (v := .int .i64 0) (by kernel_rfl) rfl
      exact wp_val (.int .i64 0) (by simp [go_sem, f0]) ⟨_, rfl, RO.quiet 1 _ rfl (by decide) (Gr.refl _) hR⟩
    · obtain rfl := Option.some.inj ho
      have l0 := hd ⟨0, .data⟩ (by simp) rfl
      have f0 := hF.at (s := 21) (i := 0) (by kernel_rfl) (by simp) l0
      rw [hR.1 0 _ l0 rfl] at f0
      have l1 := hd ⟨1, .data⟩ (by simp) rfl
      have f1 := hF.at (s := 22) (i := 1) (by kernel_rfl) (by simp) l1
      rw [hR.1 1 _ l1 rfl] at f1
      exact wp_val (.func (.func 80) #[] #[]) (by simp [go_sem, f0, f1]) ⟨_, rfl, RO.quiet 2 _ rfl (by decide) (Gr.refl _) hR⟩
    · obtain rfl := Option.some.inj ho
      have f0 := hF.old (s := 8) (v := .pointer (some ⟨b10, 0, none⟩)) (by kernel_rfl) rfl
      exact wp_val (.agg (nw 9 m)) (by simp [go_sem, f0, hm]) ⟨_, rfl, RO.quiet 3 _ rfl (by decide) (Gr.refl _) hR⟩
    · obtain rfl := Option.some.inj ho
      have f0 := hF.old (s := 5) (v := .pointer (some ⟨w.heap.size, 0, none⟩)) (by kernel_rfl) rfl
      exact wp_val (.agg (nw 9 a)) (by simp [go_sem, f0, ha]) ⟨_, rfl, RO.quiet 4 _ rfl (by decide) (Gr.refl _) hR⟩
    · obtain rfl := Option.some.inj ho
      have l0 := hd ⟨2, .data⟩ (by simp) rfl
      have f0 := hF.at (s := 23) (i := 2) (by kernel_rfl) (by simp) l0
      rw [hR.1 2 _ l0 rfl] at f0
      have l1 := hd ⟨3, .data⟩ (by simp) rfl
      have f1 := hF.at (s := 24) (i := 3) (by kernel_rfl) (by simp) l1
      rw [hR.1 3 _ l1 rfl] at f1
      have l2 := hd ⟨4, .data⟩ (by simp) rfl
      have f2 := hF.at (s := 25) (i := 4) (by kernel_rfl) (by simp) l2
      rw [hR.1 4 _ l2 rfl] at f2
      exact wp_ret (.tuple #[.agg (nw 9 R), .int .i64 E]) (by simp [go_sem, f0, f1, f2]) (HF'.out _) (fun w2 hg => ⟨_, rfl, RO.quiet 5 _ rfl (by decide) hg hR⟩)
    · obtain rfl := Option.some.inj ho
      have l0 := hd ⟨5, .data⟩ (by simp) rfl
      have f0 := hF.at (s := 26) (i := 5) (by kernel_rfl) (by simp) l0
      rw [hR.1 5 _ l0 rfl] at f0
      exact wp_val (.agg (nw 9 R)) (by simp [go_sem, f0]) ⟨_, rfl, RO.quiet 6 _ rfl (by decide) (Gr.refl _) hR⟩
    · obtain rfl := Option.some.inj ho
      have l0 := hd ⟨5, .data⟩ (by simp) rfl
      have f0 := hF.at (s := 26) (i := 5) (by kernel_rfl) (by simp) l0
      rw [hR.1 5 _ l0 rfl] at f0
      exact wp_val (.int .i64 E) (by simp [go_sem, f0]) ⟨_, rfl, RO.quiet 7 _ rfl (by decide) (Gr.refl _) hR⟩
    · obtain rfl := Option.some.inj ho
      have l0 := hd ⟨6, .data⟩ (by simp) rfl
      have f0 := hF.at (s := 27) (i := 6) (by kernel_rfl) (by simp) l0
      rw [hR.1 6 _ l0 rfl] at f0
      have g0 := hR.2.1 hl
      have c0 := c3.gr g0
      have y0 := c0.h
      have y1 := c0.f
      have fp := hF.old (s := 6) (v := .pointer (some ⟨w.heap.size + 1, 0, none⟩)) (by kernel_rfl) rfl
      exact wp_skip (w' := setBlk v1 (w.heap.size + 1) (nw 9 R)) (by simp [go_sem, fp, y0, y1, f0]) ⟨undef, rfl, RO.store _ hil hl rfl hR⟩
    · obtain rfl := Option.some.inj ho
      have l0 := hd ⟨7, .data⟩ (by simp) rfl
      have f0 := hF.at (s := 28) (i := 7) (by kernel_rfl) (by simp) l0
      rw [hR.1 7 _ l0 rfl] at f0
      exact wp_val (.int .i64 E) (by simp [go_sem, f0]) ⟨_, rfl, RO.quiet 9 _ rfl (by decide) (Gr.refl _) hR⟩
  case hf =>
    intro listed vals a1 v1 hall hR hF
    obtain ⟨vM, g1, g2⟩ := hR.2.2 (hall 8 (by simp))
    have cR := ((c3.gr g1).set R).gr g2
    have hV := hR.1
    have x0 := hV 0 _ (hall 0 (by simp)) rfl
    have x1 := hV 1 _ (hall 1 (by simp)) rfl
    have x2 := hV 2 _ (hall 2 (by simp)) rfl
    have x3 := hV 3 _ (hall 3 (by simp)) rfl
    have x4 := hV 4 _ (hall 4 (by simp)) rfl
    have x5 := hV 5 _ (hall 5 (by simp)) rfl
    have x6 := hV 6 _ (hall 6 (by simp)) rfl
    have x7 := hV 7 _ (hall 7 (by simp)) rfl
    have x9 := hV 9 _ (hall 9 (by simp)) rfl
    rw [hF.final (by kernel_rfl) hall]
    simp only [putFrom, Act.put, List.setIfInBounds_toArray, List.set_cons_zero, List.set_cons_succ, x0, x1, x2, x3, x4, x5, x6, x7, x9]
    clear hV hR hF hall x0 x1 x2 x3 x4 x5 x6 x7 x9
    have hr := cR.h
    go_wp2_with fail
    refine bodyPost_ret (res_two Try.results49 (rd_nat (x := R) (by rfl) ?_) (rd_tmp (by rfl))) rfl ⟨rfl, ?_⟩
    · exact cR.h
    · exact (gr_setNew (G.trans g1) (by omega)).trans g2

set_option maxRecDepth 100000 in
set_option maxHeartbeats 1600000 in
theorem onOne_sqrt (x : Int) (m a R : Nat) (E : Int) (HM : ∀ w p, blk w p = nw 9 a → Pre (p + 1) w.heap.size → Calls Try.prog 63 #[.int .i64 x, .slice (some ⟨p, 0, none⟩) 1 1] w fun e w' => e = .returned (.tuple #[.agg (nw 9 m), .int .i64 0]) ∧ Gr w w')
    (HF : ∀ w, Calls Try.prog 81 #[.agg (nw 9 m), .agg (nw 9 a)] w fun e w' => e = .returned (.tuple #[.agg (nw 9 R), .int .i64 E]) ∧ Gr w w') (w : World) :
    Calls Try.prog 49 #[.int .i64 1, .int .i64 x, .agg (nw 9 a)] w fun e w' => e = .returned (.tuple #[.agg (nw 9 R), .int .i64 E]) ∧ Gr w w' := by
  have HM' : Hid (∀ w p, blk w p = nw 9 a → Pre (p + 1) w.heap.size → Calls Try.prog 63 #[.int .i64 x, .slice (some ⟨p, 0, none⟩) 1 1] w fun e w' => e = .returned (.tuple #[.agg (nw 9 m), .int .i64 0]) ∧ Gr w w') := HM
  have HF' : Hid (∀ w, Calls Try.prog 81 #[.agg (nw 9 m), .agg (nw 9 a)] w fun e w' => e = .returned (.tuple #[.agg (nw 9 R), .int .i64 E]) ∧ Gr w w') := HF
  have HT : Hid (∀ w, Calls Try.prog 70 #[] w fun e w' => e = .returned (.agg tab1) ∧ Gr w w') := fun w => ofOne_any w
  clear HM HF
  go_enter Try.func49, Try.ntmps49
  go_upto_region 4 with (go_at_call 63; refine (HM'.out _ _ ?_ ?_).mono ?_; · simp [go_sem]
                         · simp [go_sem]
                         rintro e w' ⟨rfl, g, rfl⟩)
  obtain ⟨b10, hb10⟩ : ∃ b, w.heap.size + 1 + 1 + 1 + g.os.length = b := ⟨_, rfl⟩
  rw [hb10]
  refine gen_w (fun v => Hid (Gr w v ∧ Cl v w.heap.size a ∧ Cl v (w.heap.size + 1) 0 ∧ Cl v b10 m)) ?_ ?_
  · subst hb10
    exact ⟨(by repeat (first | exact Gr.refl _ | apply Gr.drewN | apply Gr.drew | apply Gr.alloc | apply Gr.gro)), ⟨by simp [go_sem], by simp [go_sem], by simp [go_sem]⟩, ⟨by simp [go_sem], by simp [go_sem], by simp [go_sem]⟩, ⟨by simp [go_sem], by simp [go_sem], by simp [go_sem]⟩⟩
  intro v0 HV
  obtain ⟨G, c1, c3, c4⟩ := HV.out
  have n1 : w.heap.size + 1 ≠ b10 := by omega
  refine wp_region_mix (by kernel_rfl) (by kernel_rfl) (RO _ (fun i => match i with | 0 => some (.agg tab1) | 1 => some (.int .i64 1) | 2 => some (.func (.func 81) #[] #[]) | 3 => some (.agg (nw 9 m)) | 4 => some (.agg (nw 9 a)) | 5 => some (.tuple #[.agg (nw 9 R), .int .i64 E]) | 6 => some (.agg (nw 9 R)) | 7 => some (.int .i64 E) | 9 => some (.int .i64 E) | _ => none) 8 (w.heap.size + 1) (nw 9 R)) (RO.start _ _ _ _ _ _ _) ?hs ?hf
  case hs =>
    intro listed vals a1 v1 i o hz hR hF ho hl hd
    have hm : blk v1 (b10) = nw 9 m := (hR.blk (b10) c4.p (n1)).trans c4.h
    have ha : blk v1 (w.heap.size) = nw 9 a := (hR.blk (w.heap.size) c1.p (by omega)).trans c1.h
    have hi : i < 10 := by simpa using (Array.getElem?_eq_some_iff.1 ho).1
    have hil : i < listed.size := by rw [hz]; simpa using hi
    obtain rfl | rfl | rfl | rfl | rfl | rfl | rfl | rfl | rfl | rfl : i = 0 ∨ i = 1 ∨ i = 2 ∨ i = 3 ∨ i = 4 ∨ i = 5 ∨ i = 6 ∨ i = 7 ∨ i = 8 ∨ i = 9 := by omega
    · obtain rfl := Option.some.inj ho
      exact wp_ret (.agg tab1) (by simp [go_sem]) (HT.out _) (fun w2 hg => ⟨_, rfl, RO.quiet 0 _ rfl (by decide) hg hR⟩)
    · obtain rfl := Option.some.inj ho
      have f0 := hF.old (s := 0) (v := .int .i64 1) (by kernel_rfl) rfl
      exact wp_val (.int .i64 1) (by simp [go_sem, f0]) ⟨_, rfl, RO.quiet 1 _ rfl (by decide) (Gr.refl _) hR⟩
    · obtain rfl := Option.some.inj ho
      have l0 := hd ⟨0, .data⟩ (by simp) rfl
      have f0 := hF.at (s := 21) (i := 0) (by kernel_rfl) (by simp) l0
      rw [hR.1 0 _ l0 rfl] at f0
      have l1 := hd ⟨1, .data⟩ (by simp) rfl
      have f1 := hF.at (s := 22) (i := 1) (by kernel_rfl) (by simp) l1
      rw [hR.1 1 _ l1 rfl] at f1
      exact wp_val (.func (.func 81) #[] #[]) (by simp [go_sem, f0, f1]) ⟨_, rfl, RO.quiet 2 _ rfl (by decide) (Gr.refl _) hR⟩
    · obtain rfl := Option.some.inj ho
      have f0 := hF.old (s := 8) (v := .pointer (some ⟨b10, 0, none⟩)) (by kernel_rfl) rfl
      exact wp_val (.agg (nw 9 m)) (by simp [go_sem, f0, hm]) ⟨_, rfl, RO.quiet 3 _ rfl (by decide) (Gr.refl _) hR⟩
    · obtain rfl := Option.some.inj ho
      have f0 := hF.old (s := 5) (v := .pointer (some ⟨w.heap.size, 0, none⟩)) (by kernel_rfl) rfl
      exact wp_val (.agg (nw 9 a)) (by simp [go_sem, f0, ha]) ⟨_, rfl, RO.quiet 4 _ rfl (by decide) (Gr.refl _) hR⟩
    · obtain rfl := Option.some.inj ho
      have l0 := hd ⟨2, .data⟩ (by simp) rfl
      have f0 := hF.at (s := 23) (i := 2) (by kernel_rfl) (by simp) l0
      rw [hR.1 2 _ l0 rfl] at f0
      have l1 := hd ⟨3, .data⟩ (by simp) rfl
      have f1 := hF.at (s := 24) (i := 3) (by kernel_rfl) (by simp) l1
      rw [hR.1 3 _ l1 rfl] at f1
      have l2 := hd ⟨4, .data⟩ (by simp) rfl
      have f2 := hF.at (s := 25) (i := 4) (by kernel_rfl) (by simp) l2
      rw [hR.1 4 _ l2 rfl] at f2
      exact wp_ret (.tuple #[.agg (nw 9 R), .int .i64 E]) (by simp [go_sem, f0, f1, f2]) (HF'.out _) (fun w2 hg => ⟨_, rfl, RO.quiet 5 _ rfl (by decide) hg hR⟩)
    · obtain rfl := Option.some.inj ho
      have l0 := hd ⟨5, .data⟩ (by simp) rfl
      have f0 := hF.at (s := 26) (i := 5) (by kernel_rfl) (by simp) l0
      rw [hR.1 5 _ l0 rfl] at f0
      exact wp_val (.agg (nw 9 R)) (by simp [go_sem, f0]) ⟨_, rfl, RO.quiet 6 _ rfl (by decide) (Gr.refl _) hR⟩
    · obtain rfl := Option.some.inj ho
      have l0 := hd ⟨5, .data⟩ (by simp) rfl
      have f0 := hF.at (s := 26) (i := 5) (by kernel_rfl) (by simp) l0
      rw [hR.1 5 _ l0 rfl] at f0
      exact wp_val (.int .i64 E) (by simp [go_sem, f0]) ⟨_, rfl, RO.quiet 7 _ rfl (by decide) (Gr.refl _) hR⟩
    · obtain rfl := Option.some.inj ho
      have l0 := hd ⟨6, .data⟩ (by simp) rfl
      have f0 := hF.at (s := 27) (i := 6) (by kernel_rfl) (by simp) l0
      rw [hR.1 6 _ l0 rfl] at f0
      have g0 := hR.2.1 hl
      have c0 := c3.gr g0
      have y0 := c0.h
      have y1 := c0.f
      have fp := hF.old (s := 6) (v := .pointer (some ⟨w.heap.size + 1, 0, none⟩)) (by kernel_rfl) rfl
      exact wp_skip (w' := setBlk v1 (w.heap.size + 1) (nw 9 R)) (by simp [go_sem, fp, y0, y1, f0]) ⟨undef, rfl, RO.store _ hil hl rfl hR⟩
    · obtain rfl := Option.some.inj ho
      have l0 := hd ⟨7, .data⟩ (by simp) rfl
      have f0 := hF.at (s := 28) (i := 7) (by kernel_rfl) (by simp) l0
      rw [hR.1 7 _ l0 rfl] at f0
      exact wp_val (.int .i64 E) (by simp [go_sem, f0]) ⟨_, rfl, RO.quiet 9 _ rfl (by decide) (Gr.refl _) hR⟩
  case hf =>
    intro listed vals a1 v1 hall hR hF
    obtain ⟨vM, g1, g2⟩ := hR.2.2 (hall 8 (by simp))
    have cR := ((c3.gr g1).set R).gr g2
    have hV := hR.1
    have x0 := hV 0 _ (hall 0 (by simp)) rfl
    have x1 := hV 1 _ (hall 1 (by simp)) rfl
    have x2 := hV 2 _ (hall 2 (by simp)) rfl
    have x3 := hV 3 _ (hall 3 (by simp)) rfl
    have x4 := hV 4 _ (hall 4 (by simp)) rfl
    have x5 := hV 5 _ (hall 5 (by simp)) rfl
    have x6 := hV 6 _ (hall 6 (by simp)) rfl
    have x7 := hV 7 _ (hall 7 (by simp)) rfl
    have x9 := hV 9 _ (hall 9 (by simp)) rfl
    rw [hF.final (by kernel_rfl) hall]
    simp only [putFrom, Act.put, List.setIfInBounds_toArray, List.set_cons_zero, List.set_cons_succ, x0, x1, x2, x3, x4, x5, x6, x7, x9]
    clear hV hR hF hall x0 x1 x2 x3 x4 x5 x6 x7 x9
    have hr := cR.h
    go_wp2_with fail
    refine bodyPost_ret (res_two Try.results49 (rd_nat (x := R) (by rfl) ?_) (rd_tmp (by rfl))) rfl ⟨rfl, ?_⟩
    · exact cR.h
    · exact (gr_setNew (G.trans g1) (by omega)).trans g2

end Go.Proofs.Ytkmpholjlophpaa
namespace Go.Proofs.Ytkmpholjlophpaa
open Go.RowKit

theorem pN_bd (i : Nat) (h1 : 1 ≤ i) (h2 : i ≤ 15) : 1 < pN i ∧ pN i + pN i ≤ M ∧ pN i % 2 = 1 := by
  obtain rfl | rfl | rfl | rfl | rfl | rfl | rfl | rfl | rfl | rfl | rfl | rfl | rfl | rfl | rfl : i = 1 ∨ i = 2 ∨ i = 3 ∨ i = 4 ∨ i = 5 ∨ i = 6 ∨ i = 7 ∨ i = 8 ∨ i = 9 ∨ i = 10 ∨ i = 11 ∨ i = 12 ∨ i = 13 ∨ i = 14 ∨ i = 15 := by omega
  all_goals exact ⟨by decide +kernel, by decide +kernel, by decide +kernel⟩
theorem ts_lt (m : Nat) (hm : 0 < m) : ∀ o r x c, r < m → ts m o r x c < m
  | 0, r, x, c, h => h
  | o + 1, r, x, c, h => by
    rw [ts]
    split
    · exact ts_lt m hm o _ _ _ h
    · exact ts_lt m hm o _ _ _ (Nat.mod_lt _ hm)
def qP2 : Nat := 340282366920938463463374607431768211455
/-- The candidate of a root. -/
def cN (i a : Nat) : Nat :=
  if i = 2 then ts (pN 2) 95 (a ^ (qP2 / 2) % pN 2 * a % pN 2) (a ^ (qP2 / 2) % pN 2 * (a ^ (qP2 / 2) % pN 2) % pN 2 * a % pN 2) (11 ^ qP2 % pN 2)
  else if i = 14 then ts (pN 14) 3 (a ^ (15 / 2) % pN 14 * a % pN 14) (a ^ (15 / 2) % pN 14 * (a ^ (15 / 2) % pN 14) % pN 14 * a % pN 14) (7 ^ 15 % pN 14)
  else a ^ ((pN i - 1) / 2 / 2) % pN i * a % pN i
theorem cN_lt (i a : Nat) (h1 : 1 ≤ i) (h2 : i ≤ 15) : cN i a < pN i := by
  have hb := pN_bd i h1 h2
  unfold cN
  split
  · rename_i h; subst h
    exact ts_lt _ (by omega) _ _ _ _ (Nat.mod_lt _ (by omega))
  · split
    · rename_i h; subst h
      exact ts_lt _ (by omega) _ _ _ _ (Nat.mod_lt _ (by omega))
    · exact Nat.mod_lt _ (by omega)
/-- Below z no number is a witness. -/
def noWit (f m e L : Nat) : Nat → Bool
  | 0 => true
  | k + 1 => !Nat.beq (pmF f (k + 2) e m) L && noWit f m e L k
theorem noWit_is (f m e L : Nat) (he : e < 2 ^ f) : ∀ k, noWit f m e L k = true → ∀ x, 2 ≤ x → x < k + 2 → x ^ e % m ≠ L
  | 0, _, x, h2, hl => by omega
  | k + 1, h, x, h2, hl => by
    rw [noWit] at h
    simp only [Bool.and_eq_true, Bool.not_eq_true'] at h
    by_cases e1 : x = k + 2
    · subst e1
      intro hc
      rw [pmF_is f _ e m he, hc] at h
      rw [Nat.beq_refl] at h
      exact absurd h.1 (by decide)
    · exact noWit_is f m e L he k h.2 x h2 (by omega)
theorem wit_of {f m e L z : Nat} (he : e < 2 ^ f) (h : Nat.beq (pmF f z e m) L = true) : z ^ e % m = L := by
  rw [← pmF_is f z e m he]
  exact Nat.eq_of_beq_eq_true h
theorem not2_14 (i : Nat) (h1 : 1 ≤ i) (h2 : i ≤ 15) (n2 : i ≠ 2) (n14 : i ≠ 14) : (pN i - 1) / 2 % 2 = 1 ∧ pN i = (pN i - 1) / 2 * 2 ^ 1 + 1 := by
  obtain rfl | rfl | rfl | rfl | rfl | rfl | rfl | rfl | rfl | rfl | rfl | rfl | rfl | rfl | rfl : i = 1 ∨ i = 2 ∨ i = 3 ∨ i = 4 ∨ i = 5 ∨ i = 6 ∨ i = 7 ∨ i = 8 ∨ i = 9 ∨ i = 10 ∨ i = 11 ∨ i = 12 ∨ i = 13 ∨ i = 14 ∨ i = 15 := by omega
  all_goals first
    | exact absurd rfl n2
    | exact absurd rfl n14
    | exact ⟨by decide +kernel, by decide +kernel⟩
theorem cand_any (i a : Nat) (h1 : 1 ≤ i) (h2 : i ≤ 15) (ha : a < pN i) (w : World) :
    Calls Try.prog 89 #[.agg (nw 9 (pN i)), .agg (nw 9 a)] w fun e w' => e = .returned (.agg (nw 9 (cN i a))) ∧ Gr w w' := by
  have hb := pN_bd i h1 h2
  unfold cN
  split
  · rename_i h; subst h
    exact fcand_more (pN 2) a qP2 95 11 ha hb.2.1 (by decide +kernel) (by decide +kernel) (by decide) (by decide) (by decide) (by decide +kernel)
      (wit_of (f := 224) (by decide +kernel) (by decide +kernel)) (noWit_is 224 _ _ _ (by decide +kernel) 9 (by decide +kernel)) w
  · split
    · rename_i h; subst h
      exact fcand_more (pN 14) a 15 3 7 ha hb.2.1 (by decide) (by decide) (by decide) (by decide) (by decide) (by decide)
        (wit_of (f := 8) (by decide) (by decide +kernel)) (noWit_is 8 _ _ _ (by decide) 5 (by decide +kernel)) w
    · rename_i n2 n14
      have := not2_14 i h1 h2 n2 n14
      exact fcand_one (pN i) a ((pN i - 1) / 2) 1 ha (by omega) this.1 this.2 rfl w
/-- The root that is answered, and the error beside it. -/
def sqR (i a : Nat) : Nat := if cN i a * cN i a % pN i = a then (if cN i a % 2 = 1 then pN i - cN i a else cN i a) else 0
def sqE (i a : Nat) : Int := if cN i a * cN i a % pN i = a then 0 else 503
theorem sqrt_any (i a : Nat) (h1 : 1 ≤ i) (h2 : i ≤ 15) (ha : a < pN i) (w : World) :
    Calls Try.prog 81 #[.agg (nw 9 (pN i)), .agg (nw 9 a)] w fun e w' => e = .returned (.tuple #[.agg (nw 9 (sqR i a)), .int .i64 (sqE i a)]) ∧ Gr w w' := by
  have hb := pN_bd i h1 h2
  exact fsqrt_of (pN i) a (cN i a) ha (cN_lt i a h1 h2) hb.2.1 hb.1 (fun w => cand_any i a h1 h2 ha w) w

end Go.Proofs.Ytkmpholjlophpaa
namespace Go.Proofs.Ytkmpholjlophpaa
open Go.RowKit
attribute [local go_sem ↓] loadNat_is loadArr_is loadWide_is loadArrW_is storeNat_is storeWide_is
attribute [local go_sem] loadNat loadArr loadWide loadArrW storeNat storeWide idxArr fold9 fold18 nw_size nw_elem pre_self pre_1 pre_2 pre_3 pre_4 pre_5 pre_6 pre_7 pre_8 pre_9 pre_10 pre_11 pre_12 pre_13 pre_14 pre_15 pre_16 pre_17 pre_18 pre_19 pre_20 pre_21 pre_22 pre_23 pre_24 pre_25 pre_26 pre_27 pre_28 pre_29 pre_30 pre_31 pre_32 pre_33 pre_34 pre_35 pre_36 pre_37 pre_38 pre_39 pre_40 gro_size gro_drew gro_drewN drew_gro drewN_gro gro_gro blk_gro frz_gro blk_drew frz_drew blk_drewN frz_drewN blk_alloc_at frz_alloc_at blk_alloc frz_alloc cell_gro frozen_gro cell_alloc_pre frozen_alloc_pre setCell_drewN alloc_drewN setBlk_drew setBlk_drewN setBlk_alloc_at setBlk_alloc setBlk_gro setCell_gro setCell_alloc_pre size_setBlk size_setCell
attribute [local go_sem ↓] loadDv_is load19_is storeDv_is store19_is copy_is
attribute [local go_sem] idx18 loadDv load19 storeDv store19 dv_size dv_9 dv_10 dv_e9 dv_e10 dv_elem fold11 fold19 setCell_in cell_in frozen_in frz_setBlk blk_setBlk setBlk_setBlk copy_run cpA_nw ones_nw

attribute [local go_sem ↓] loadMd_is storeMd_is buildMd_is
attribute [local go_sem] loadMd storeMd buildMd0 buildMd1

set_option maxRecDepth 100000 in
set_option maxHeartbeats 1600000 in
theorem fAdd_of (x : Int) (a b R : Nat) (E : Int) (HF : ∀ w, Calls Try.prog 41 #[.int .i64 0, .int .i64 x, .agg (nw 9 a), .agg (nw 9 b)] w fun e w' => e = .returned (.tuple #[.agg (nw 9 R), .int .i64 E]) ∧ Gr w w') (w : World) :
    Calls Try.prog 14 #[.int .i64 x, .agg (nw 9 a), .agg (nw 9 b)] w fun e w' => e = .returned (.tuple #[.agg (nw 9 R), .int .i64 E]) ∧ Gr w w' := by
  have HF' : Hid (∀ w, Calls Try.prog 41 #[.int .i64 0, .int .i64 x, .agg (nw 9 a), .agg (nw 9 b)] w fun e w' => e = .returned (.tuple #[.agg (nw 9 R), .int .i64 E]) ∧ Gr w w') := HF
  clear HF
  go_enter Try.func14, Try.ntmps14
  go_wp2_with (go_at_call 41; refine (HF'.out _).mono ?_; rintro e w' ⟨rfl, g, rfl⟩)
  refine bodyPost_ret (res_two Try.results14 (rd_nat (x := R) (by rfl) ?_) (rd_tmp (by rfl))) rfl ⟨rfl, (by repeat (first | exact Gr.refl _ | apply Gr.drewN | apply Gr.drew | apply Gr.alloc | apply Gr.gro))⟩
  simp [go_sem]
theorem fAdd_no (x : Int) (h : x < 1 ∨ 15 < x) (a b : Nat) (w : World) :
    Calls Try.prog 14 #[.int .i64 x, .agg (nw 9 a), .agg (nw 9 b)] w fun e w' => e = .returned (.tuple #[.agg (nw 9 0), .int .i64 500]) ∧ Gr w w' :=
  fAdd_of x a b 0 500 (fun w => onTwo_no 0 x a b 500 (by decide) (fun w p _ _ => mfor_no x h _ w) w) w
theorem fAdd_range (i a b : Nat) (h1 : 1 ≤ i) (h2 : i ≤ 15) (ha : a < M) (hb : b < M) (h : ¬ (a < pN i ∧ b < pN i)) (w : World) :
    Calls Try.prog 14 #[.int .i64 (i : Int), .agg (nw 9 a), .agg (nw 9 b)] w fun e w' => e = .returned (.tuple #[.agg (nw 9 0), .int .i64 501]) ∧ Gr w w' :=
  fAdd_of i a b 0 501 (fun w => onTwo_no 0 i a b 501 (by decide) (fun w p hp hq => by
    have hB := pN_bd i h1 h2
    have := mfor_two i (pN i) a b p (mvN a b) h1 h2 rfl (by omega) ha hb rfl w (by rw [hp]; exact app_mv a b ha) hq
    rw [if_neg h, if_neg h] at this
    exact this) w) w
theorem fAdd_ok (i a b : Nat) (h1 : 1 ≤ i) (h2 : i ≤ 15) (ha : a < pN i) (hb : b < pN i) (w : World) :
    Calls Try.prog 14 #[.int .i64 (i : Int), .agg (nw 9 a), .agg (nw 9 b)] w fun e w' => e = .returned (.tuple #[.agg (nw 9 ((a + b) % pN i)), .int .i64 0]) ∧ Gr w w' := by
  have hB := pN_bd i h1 h2
  refine fAdd_of i a b _ 0 (fun w => onTwo_add i (pN i) a b _ (fun w p hp hq => ?_) (fun w => fadd_any (pN i) a b ha hb hB.2.1 w) w) w
  have := mfor_two i (pN i) a b p (mvN a b) h1 h2 rfl (by omega) (by omega) (by omega) rfl w (by rw [hp]; exact app_mv a b (by omega)) hq
  rw [if_pos ⟨ha, hb⟩, if_pos ⟨ha, hb⟩] at this
  exact this

set_option maxRecDepth 100000 in
set_option maxHeartbeats 1600000 in
theorem fSub_of (x : Int) (a b R : Nat) (E : Int) (HF : ∀ w, Calls Try.prog 41 #[.int .i64 1, .int .i64 x, .agg (nw 9 a), .agg (nw 9 b)] w fun e w' => e = .returned (.tuple #[.agg (nw 9 R), .int .i64 E]) ∧ Gr w w') (w : World) :
    Calls Try.prog 15 #[.int .i64 x, .agg (nw 9 a), .agg (nw 9 b)] w fun e w' => e = .returned (.tuple #[.agg (nw 9 R), .int .i64 E]) ∧ Gr w w' := by
  have HF' : Hid (∀ w, Calls Try.prog 41 #[.int .i64 1, .int .i64 x, .agg (nw 9 a), .agg (nw 9 b)] w fun e w' => e = .returned (.tuple #[.agg (nw 9 R), .int .i64 E]) ∧ Gr w w') := HF
  clear HF
  go_enter Try.func15, Try.ntmps15
  go_wp2_with (go_at_call 41; refine (HF'.out _).mono ?_; rintro e w' ⟨rfl, g, rfl⟩)
  refine bodyPost_ret (res_two Try.results15 (rd_nat (x := R) (by rfl) ?_) (rd_tmp (by rfl))) rfl ⟨rfl, (by repeat (first | exact Gr.refl _ | apply Gr.drewN | apply Gr.drew | apply Gr.alloc | apply Gr.gro))⟩
  simp [go_sem]
theorem fSub_no (x : Int) (h : x < 1 ∨ 15 < x) (a b : Nat) (w : World) :
    Calls Try.prog 15 #[.int .i64 x, .agg (nw 9 a), .agg (nw 9 b)] w fun e w' => e = .returned (.tuple #[.agg (nw 9 0), .int .i64 500]) ∧ Gr w w' :=
  fSub_of x a b 0 500 (fun w => onTwo_no 1 x a b 500 (by decide) (fun w p _ _ => mfor_no x h _ w) w) w
theorem fSub_range (i a b : Nat) (h1 : 1 ≤ i) (h2 : i ≤ 15) (ha : a < M) (hb : b < M) (h : ¬ (a < pN i ∧ b < pN i)) (w : World) :
    Calls Try.prog 15 #[.int .i64 (i : Int), .agg (nw 9 a), .agg (nw 9 b)] w fun e w' => e = .returned (.tuple #[.agg (nw 9 0), .int .i64 501]) ∧ Gr w w' :=
  fSub_of i a b 0 501 (fun w => onTwo_no 1 i a b 501 (by decide) (fun w p hp hq => by
    have hB := pN_bd i h1 h2
    have := mfor_two i (pN i) a b p (mvN a b) h1 h2 rfl (by omega) ha hb rfl w (by rw [hp]; exact app_mv a b ha) hq
    rw [if_neg h, if_neg h] at this
    exact this) w) w
theorem fSub_ok (i a b : Nat) (h1 : 1 ≤ i) (h2 : i ≤ 15) (ha : a < pN i) (hb : b < pN i) (w : World) :
    Calls Try.prog 15 #[.int .i64 (i : Int), .agg (nw 9 a), .agg (nw 9 b)] w fun e w' => e = .returned (.tuple #[.agg (nw 9 ((a + pN i - b) % pN i)), .int .i64 0]) ∧ Gr w w' := by
  have hB := pN_bd i h1 h2
  refine fSub_of i a b _ 0 (fun w => onTwo_sub i (pN i) a b _ (fun w p hp hq => ?_) (fun w => fsub_any (pN i) a b ha hb hB.2.1 w) w) w
  have := mfor_two i (pN i) a b p (mvN a b) h1 h2 rfl (by omega) (by omega) (by omega) rfl w (by rw [hp]; exact app_mv a b (by omega)) hq
  rw [if_pos ⟨ha, hb⟩, if_pos ⟨ha, hb⟩] at this
  exact this

set_option maxRecDepth 100000 in
set_option maxHeartbeats 1600000 in
theorem fMul_of (x : Int) (a b R : Nat) (E : Int) (HF : ∀ w, Calls Try.prog 41 #[.int .i64 2, .int .i64 x, .agg (nw 9 a), .agg (nw 9 b)] w fun e w' => e = .returned (.tuple #[.agg (nw 9 R), .int .i64 E]) ∧ Gr w w') (w : World) :
    Calls Try.prog 16 #[.int .i64 x, .agg (nw 9 a), .agg (nw 9 b)] w fun e w' => e = .returned (.tuple #[.agg (nw 9 R), .int .i64 E]) ∧ Gr w w' := by
  have HF' : Hid (∀ w, Calls Try.prog 41 #[.int .i64 2, .int .i64 x, .agg (nw 9 a), .agg (nw 9 b)] w fun e w' => e = .returned (.tuple #[.agg (nw 9 R), .int .i64 E]) ∧ Gr w w') := HF
  clear HF
  go_enter Try.func16, Try.ntmps16
  go_wp2_with (go_at_call 41; refine (HF'.out _).mono ?_; rintro e w' ⟨rfl, g, rfl⟩)
  refine bodyPost_ret (res_two Try.results16 (rd_nat (x := R) (by rfl) ?_) (rd_tmp (by rfl))) rfl ⟨rfl, (by repeat (first | exact Gr.refl _ | apply Gr.drewN | apply Gr.drew | apply Gr.alloc | apply Gr.gro))⟩
  simp [go_sem]
theorem fMul_no (x : Int) (h : x < 1 ∨ 15 < x) (a b : Nat) (w : World) :
    Calls Try.prog 16 #[.int .i64 x, .agg (nw 9 a), .agg (nw 9 b)] w fun e w' => e = .returned (.tuple #[.agg (nw 9 0), .int .i64 500]) ∧ Gr w w' :=
  fMul_of x a b 0 500 (fun w => onTwo_no 2 x a b 500 (by decide) (fun w p _ _ => mfor_no x h _ w) w) w
theorem fMul_range (i a b : Nat) (h1 : 1 ≤ i) (h2 : i ≤ 15) (ha : a < M) (hb : b < M) (h : ¬ (a < pN i ∧ b < pN i)) (w : World) :
    Calls Try.prog 16 #[.int .i64 (i : Int), .agg (nw 9 a), .agg (nw 9 b)] w fun e w' => e = .returned (.tuple #[.agg (nw 9 0), .int .i64 501]) ∧ Gr w w' :=
  fMul_of i a b 0 501 (fun w => onTwo_no 2 i a b 501 (by decide) (fun w p hp hq => by
    have hB := pN_bd i h1 h2
    have := mfor_two i (pN i) a b p (mvN a b) h1 h2 rfl (by omega) ha hb rfl w (by rw [hp]; exact app_mv a b ha) hq
    rw [if_neg h, if_neg h] at this
    exact this) w) w
theorem fMul_ok (i a b : Nat) (h1 : 1 ≤ i) (h2 : i ≤ 15) (ha : a < pN i) (hb : b < pN i) (w : World) :
    Calls Try.prog 16 #[.int .i64 (i : Int), .agg (nw 9 a), .agg (nw 9 b)] w fun e w' => e = .returned (.tuple #[.agg (nw 9 (a * b % pN i)), .int .i64 0]) ∧ Gr w w' := by
  have hB := pN_bd i h1 h2
  refine fMul_of i a b _ 0 (fun w => onTwo_mul i (pN i) a b _ (fun w p hp hq => ?_) (fun w => fmul_any (pN i) a b (by omega) (by omega) (by omega) (by omega) w) w) w
  have := mfor_two i (pN i) a b p (mvN a b) h1 h2 rfl (by omega) (by omega) (by omega) rfl w (by rw [hp]; exact app_mv a b (by omega)) hq
  rw [if_pos ⟨ha, hb⟩, if_pos ⟨ha, hb⟩] at this
  exact this

set_option maxRecDepth 100000 in
set_option maxHeartbeats 1600000 in
theorem fInv_of (x : Int) (a R : Nat) (E : Int) (HF : ∀ w, Calls Try.prog 49 #[.int .i64 0, .int .i64 x, .agg (nw 9 a)] w fun e w' => e = .returned (.tuple #[.agg (nw 9 R), .int .i64 E]) ∧ Gr w w') (w : World) :
    Calls Try.prog 28 #[.int .i64 x, .agg (nw 9 a)] w fun e w' => e = .returned (.tuple #[.agg (nw 9 R), .int .i64 E]) ∧ Gr w w' := by
  have HF' : Hid (∀ w, Calls Try.prog 49 #[.int .i64 0, .int .i64 x, .agg (nw 9 a)] w fun e w' => e = .returned (.tuple #[.agg (nw 9 R), .int .i64 E]) ∧ Gr w w') := HF
  clear HF
  go_enter Try.func28, Try.ntmps28
  go_wp2_with (go_at_call 49; refine (HF'.out _).mono ?_; rintro e w' ⟨rfl, g, rfl⟩)
  refine bodyPost_ret (res_two Try.results28 (rd_nat (x := R) (by rfl) ?_) (rd_tmp (by rfl))) rfl ⟨rfl, (by repeat (first | exact Gr.refl _ | apply Gr.drewN | apply Gr.drew | apply Gr.alloc | apply Gr.gro))⟩
  simp [go_sem]
theorem fInv_no (x : Int) (h : x < 1 ∨ 15 < x) (a : Nat) (w : World) :
    Calls Try.prog 28 #[.int .i64 x, .agg (nw 9 a)] w fun e w' => e = .returned (.tuple #[.agg (nw 9 0), .int .i64 500]) ∧ Gr w w' :=
  fInv_of x a 0 500 (fun w => onOne_no 0 x a 500 (by decide) (fun w p _ _ => mfor_no x h _ w) w) w
theorem fInv_range (i a : Nat) (h1 : 1 ≤ i) (h2 : i ≤ 15) (ha : a < M) (h : ¬ a < pN i) (w : World) :
    Calls Try.prog 28 #[.int .i64 (i : Int), .agg (nw 9 a)] w fun e w' => e = .returned (.tuple #[.agg (nw 9 0), .int .i64 501]) ∧ Gr w w' :=
  fInv_of i a 0 501 (fun w => onOne_no 0 i a 501 (by decide) (fun w p hp hq => by
    have hB := pN_bd i h1 h2
    have := mfor_one i (pN i) a p h1 h2 rfl (by omega) ha w hp hq
    rw [if_neg h, if_neg h] at this
    exact this) w) w
theorem mfor_ok10 (i a : Nat) (h1 : 1 ≤ i) (h2 : i ≤ 15) (ha : a < pN i) (w : World) (p : Nat) (hp : blk w p = nw 9 a) (hq : Pre (p + 1) w.heap.size) :
    Calls Try.prog 63 #[.int .i64 (i : Int), .slice (some ⟨p, 0, none⟩) 1 1] w fun e w' => e = .returned (.tuple #[.agg (nw 9 (pN i)), .int .i64 0]) ∧ Gr w w' := by
  have hB := pN_bd i h1 h2
  have := mfor_one i (pN i) a p h1 h2 rfl (by omega) (by omega) w hp hq
  rw [if_pos ha, if_pos ha] at this
  exact this
set_option maxRecDepth 100000 in
set_option maxHeartbeats 1600000 in
theorem fSqrt_of (x : Int) (a R : Nat) (E : Int) (HF : ∀ w, Calls Try.prog 49 #[.int .i64 1, .int .i64 x, .agg (nw 9 a)] w fun e w' => e = .returned (.tuple #[.agg (nw 9 R), .int .i64 E]) ∧ Gr w w') (w : World) :
    Calls Try.prog 29 #[.int .i64 x, .agg (nw 9 a)] w fun e w' => e = .returned (.tuple #[.agg (nw 9 R), .int .i64 E]) ∧ Gr w w' := by
  have HF' : Hid (∀ w, Calls Try.prog 49 #[.int .i64 1, .int .i64 x, .agg (nw 9 a)] w fun e w' => e = .returned (.tuple #[.agg (nw 9 R), .int .i64 E]) ∧ Gr w w') := HF
  clear HF
  go_enter Try.func29, Try.ntmps29
  go_wp2_with (go_at_call 49; refine (HF'.out _).mono ?_; rintro e w' ⟨rfl, g, rfl⟩)
  refine bodyPost_ret (res_two Try.results29 (rd_nat (x := R) (by rfl) ?_) (rd_tmp (by rfl))) rfl ⟨rfl, (by repeat (first | exact Gr.refl _ | apply Gr.drewN | apply Gr.drew | apply Gr.alloc | apply Gr.gro))⟩
  simp [go_sem]
theorem fSqrt_no (x : Int) (h : x < 1 ∨ 15 < x) (a : Nat) (w : World) :
    Calls Try.prog 29 #[.int .i64 x, .agg (nw 9 a)] w fun e w' => e = .returned (.tuple #[.agg (nw 9 0), .int .i64 500]) ∧ Gr w w' :=
  fSqrt_of x a 0 500 (fun w => onOne_no 1 x a 500 (by decide) (fun w p _ _ => mfor_no x h _ w) w) w
theorem fSqrt_range (i a : Nat) (h1 : 1 ≤ i) (h2 : i ≤ 15) (ha : a < M) (h : ¬ a < pN i) (w : World) :
    Calls Try.prog 29 #[.int .i64 (i : Int), .agg (nw 9 a)] w fun e w' => e = .returned (.tuple #[.agg (nw 9 0), .int .i64 501]) ∧ Gr w w' :=
  fSqrt_of i a 0 501 (fun w => onOne_no 1 i a 501 (by decide) (fun w p hp hq => by
    have hB := pN_bd i h1 h2
    have := mfor_one i (pN i) a p h1 h2 rfl (by omega) ha w hp hq
    rw [if_neg h, if_neg h] at this
    exact this) w) w
theorem mfor_ok11 (i a : Nat) (h1 : 1 ≤ i) (h2 : i ≤ 15) (ha : a < pN i) (w : World) (p : Nat) (hp : blk w p = nw 9 a) (hq : Pre (p + 1) w.heap.size) :
    Calls Try.prog 63 #[.int .i64 (i : Int), .slice (some ⟨p, 0, none⟩) 1 1] w fun e w' => e = .returned (.tuple #[.agg (nw 9 (pN i)), .int .i64 0]) ∧ Gr w w' := by
  have hB := pN_bd i h1 h2
  have := mfor_one i (pN i) a p h1 h2 rfl (by omega) (by omega) w hp hq
  rw [if_pos ha, if_pos ha] at this
  exact this
theorem fInv_zero (i : Nat) (h1 : 1 ≤ i) (h2 : i ≤ 15) (w : World) :
    Calls Try.prog 28 #[.int .i64 (i : Int), .agg (nw 9 0)] w fun e w' => e = .returned (.tuple #[.agg (nw 9 0), .int .i64 502]) ∧ Gr w w' := by
  have hB := pN_bd i h1 h2
  exact fInv_of i 0 0 502 (fun w => onOne_inv i (pN i) 0 0 502 (fun w p hp hq => mfor_ok10 i 0 h1 h2 (by omega) w p hp hq) (fun w => finv_zero (pN i) w) w) w
theorem fInv_ok (i a : Nat) (h1 : 1 ≤ i) (h2 : i ≤ 15) (h0 : 0 < a) (ha : a < pN i) (hg : Nat.gcd (pN i) a = 1) :
    ∃ x, x < pN i ∧ a * x % pN i = 1 ∧ ∀ w, Calls Try.prog 28 #[.int .i64 (i : Int), .agg (nw 9 a)] w fun e w' => e = .returned (.tuple #[.agg (nw 9 x), .int .i64 0]) ∧ Gr w w' := by
  have hB := pN_bd i h1 h2
  obtain ⟨x, hx, hax, hc⟩ := finv_some (pN i) a h0 ha (by omega) hB.1 hg
  exact ⟨x, hx, hax, fun w => fInv_of i a x 0 (fun w => onOne_inv i (pN i) a x 0 (fun w p hp hq => mfor_ok10 i a h1 h2 ha w p hp hq) hc w) w⟩
theorem fSqrt_ok (i a : Nat) (h1 : 1 ≤ i) (h2 : i ≤ 15) (ha : a < pN i) (w : World) :
    Calls Try.prog 29 #[.int .i64 (i : Int), .agg (nw 9 a)] w fun e w' => e = .returned (.tuple #[.agg (nw 9 (sqR i a)), .int .i64 (sqE i a)]) ∧ Gr w w' :=
  fSqrt_of i a _ _ (fun w => onOne_sqrt i (pN i) a _ _ (fun w p hp hq => mfor_ok11 i a h1 h2 ha w p hp hq) (fun w => sqrt_any i a h1 h2 ha w) w) w

set_option maxRecDepth 100000 in
set_option maxHeartbeats 1600000 in
theorem fReduce_no (x : Int) (h : x < 1 ∨ 15 < x) (W : Nat) (w : World) :
    Calls Try.prog 17 #[.int .i64 x, .agg (nw 18 W)] w fun e w' => e = .returned (.tuple #[.agg (nw 9 0), .int .i64 500]) ∧ Gr w w' := by
  have HO : Hid (∀ w, Calls Try.prog 42 #[.int .i64 x] w fun e w' => e = .returned (.tuple #[.agg (nw 9 0), .bool false]) ∧ Gr w w') := fun w => of_no x h w
  clear h
  go_enter Try.func17, Try.ntmps17
  go_wp2_with (go_at_call 42; refine (HO.out _).mono ?_; rintro e w' ⟨rfl, g, rfl⟩)
  refine bodyPost_ret (res_two Try.results17 (rd_nat (x := 0) (by rfl) ?_) (rd_tmp (by rfl))) rfl ⟨rfl, (by repeat (first | exact Gr.refl _ | apply Gr.drewN | apply Gr.drew | apply Gr.alloc | apply Gr.gro))⟩
  simp [go_sem]
set_option maxRecDepth 100000 in
set_option maxHeartbeats 1600000 in
theorem fReduce_ok (i W : Nat) (h1 : 1 ≤ i) (h2 : i ≤ 15) (hW : W < pw 18) (w : World) :
    Calls Try.prog 17 #[.int .i64 (i : Int), .agg (nw 18 W)] w fun e w' => e = .returned (.tuple #[.agg (nw 9 (W % pN i)), .int .i64 0]) ∧ Gr w w' := by
  have hB := pN_bd i h1 h2
  obtain ⟨m, hm⟩ : ∃ m, pN i = m := ⟨_, rfl⟩
  rw [hm] at hB ⊢
  obtain ⟨R, hR⟩ : ∃ R, W % m = R := ⟨_, rfl⟩
  rw [hR]
  have HO : Hid (∀ w, Calls Try.prog 42 #[.int .i64 (i : Int)] w fun e w' => e = .returned (.tuple #[.agg (nw 9 m), .bool true]) ∧ Gr w w') := fun w => hm ▸ of_yes i h1 h2 w
  have HR : Hid (∀ w, Calls Try.prog 43 #[.agg (nw 9 m), .agg (nw 18 W)] w fun e w' => e = .returned (.agg (nw 9 R)) ∧ Gr w w') := fun w => hR ▸ fred_any m W (by omega) (by omega) hW w
  clear hm hR hW hB h1 h2
  go_enter Try.func17, Try.ntmps17
  go_wp2_with (first
    | (go_at_call 42; refine (HO.out _).mono ?_; rintro e w' ⟨rfl, g, rfl⟩)
    | (go_at_call 43; refine (HR.out _).mono ?_; rintro e w' ⟨rfl, g2, rfl⟩))
  refine bodyPost_ret (res_two Try.results17 (rd_nat (x := R) (by rfl) ?_) (rd_tmp (by rfl))) rfl ⟨rfl, (by repeat (first | exact Gr.refl _ | apply Gr.drewN | apply Gr.drew | apply Gr.alloc | apply Gr.gro))⟩
  simp [go_sem]

end Go.Proofs.Ytkmpholjlophpaa
