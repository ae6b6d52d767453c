/-
  divide.PowMod: what it hands back.
-/
import Derived.Test.YtkmpholjlophpaaZDF
import Derived.Test.YtkmpholjlophpaaZLawA
namespace Go.Proofs.Ytkmpholjlophpaa
open Go.RowKit
attribute [local go_sem ↓] loadNat_is loadArr_is loadWide_is loadArrW_is storeNat_is storeWide_is
attribute [local go_sem] loadNat loadArr loadWide loadArrW storeNat storeWide idxArr fold9 fold18 nw_size nw_elem pre_self pre_1 pre_2 pre_3 pre_4 pre_5 pre_6 pre_7 pre_8 pre_9 pre_10 pre_11 pre_12 pre_13 pre_14 pre_15 pre_16 pre_17 pre_18 pre_19 pre_20 pre_21 pre_22 pre_23 pre_24 pre_25 pre_26 pre_27 pre_28 pre_29 pre_30 pre_31 pre_32 pre_33 pre_34 pre_35 pre_36 pre_37 pre_38 pre_39 pre_40 gro_size gro_drew gro_drewN drew_gro drewN_gro gro_gro blk_gro frz_gro blk_drew frz_drew blk_drewN frz_drewN blk_alloc_at frz_alloc_at blk_alloc frz_alloc cell_gro frozen_gro cell_alloc_pre frozen_alloc_pre setCell_drewN alloc_drewN setBlk_drew setBlk_drewN setBlk_alloc_at setBlk_alloc setBlk_gro setCell_gro setCell_alloc_pre size_setBlk size_setCell
attribute [local go_sem ↓] loadDv_is load19_is storeDv_is store19_is copy_is
attribute [local go_sem] idx18 loadDv load19 storeDv store19 dv_size dv_9 dv_10 dv_e9 dv_e10 dv_elem fold11 fold19 setCell_in cell_in frozen_in frz_setBlk blk_setBlk setBlk_setBlk copy_run cpA_nw ones_nw

attribute [local go_sem ↓] Go.wp_at_zero Go.wp_at_succ
attribute [local go_sem] blk_other

/-! ### powers -/
theorem pow_half (a e i : Nat) : a ^ (e / 2 ^ i) = a ^ (e / 2 ^ (i + 1)) * a ^ (e / 2 ^ (i + 1)) * a ^ bitN e i := by
  have h : e / 2 ^ i = e / 2 ^ (i + 1) + e / 2 ^ (i + 1) + bitN e i := by
    unfold bitN
    rw [Nat.pow_succ, ← Nat.div_div_eq_div_mul]
    omega
  rw [← Nat.pow_add, ← Nat.pow_add, ← h]
theorem pow_sq (x m : Nat) : x % m * (x % m) % m = x * x % m := (Nat.mul_mod x x m).symm
theorem pow_mul (x a m : Nat) : x % m * a % m = x * a % m := Nat.mod_mul_mod x a m

/-- What the loop of PowMod keeps. -/
structure PW (w v : World) (a e P D n u b8 b9 : Nat) : Prop where
  g : Gr w v
  ha : blk v (w.heap.size) = nw 9 a
  pa : Pre (w.heap.size + 1) v.heap.size
  he : blk v (w.heap.size + 1) = nw 9 e
  pe : Pre (w.heap.size + 1 + 1) v.heap.size
  hr : blk v (w.heap.size + 1 + 1 + 1) = nw 9 0
  fr : frz v (w.heap.size + 1 + 1 + 1) = (0, 0)
  pr : Pre (w.heap.size + 1 + 1 + 1 + 1) v.heap.size
  h8 : blk v b8 = dv D (n + 1) u
  p8 : Pre (b8 + 1) v.heap.size
  h9 : blk v b9 = nw 9 P
  f9 : frz v b9 = (0, 0)
  p9 : Pre (b9 + 1) v.heap.size
  q9 : w.heap.size + 1 + 1 + 1 + 1 ≤ b9
  q8 : b8 < b9
theorem PW.gr {w v v' : World} {a e P D n u b8 b9 : Nat} (h : PW w v a e P D n u b8 b9) (k : Gr v v') : PW w v' a e P D n u b8 b9 := by
  have hs := k.below.size
  have pr : ∀ {x}, Pre x v.heap.size → Pre x v'.heap.size := fun h => Nat.le_trans h hs
  exact ⟨h.g.trans k, by rw [k.blk _ h.pa]; exact h.ha, pr h.pa, by rw [k.blk _ h.pe]; exact h.he, pr h.pe, by rw [k.blk _ h.pr]; exact h.hr, by rw [k.frz _ h.pr]; exact h.fr, pr h.pr,
    by rw [k.blk _ h.p8]; exact h.h8, pr h.p8, by rw [k.blk _ h.p9]; exact h.h9, by rw [k.frz _ h.p9]; exact h.f9, pr h.p9, h.q9, h.q8⟩
theorem PW.set {w v : World} {a e P D n u b8 b9 : Nat} (h : PW w v a e P D n u b8 b9) (Q : Nat) : PW w (setBlk v b9 (nw 9 Q)) a e Q D n u b8 b9 := by
  have q := h.q9
  have q8 := h.q8
  have pr : ∀ {x}, Pre x v.heap.size → Pre x (setBlk v b9 (nw 9 Q)).heap.size := fun h => by rw [size_setBlk]; exact h
  exact ⟨gr_setNew h.g (by omega), by rw [blk_other _ _ _ _ (by omega)]; exact h.ha, pr h.pa, by rw [blk_other _ _ _ _ (by omega)]; exact h.he, pr h.pe, by rw [blk_other _ _ _ _ (by omega)]; exact h.hr, by rw [frz_setBlk]; exact h.fr, pr h.pr,
    by rw [blk_other _ _ _ _ (by omega)]; exact h.h8, pr h.p8, blk_setBlk _ _ _ (by rw [h.h9, nw_size]; decide), by rw [frz_setBlk]; exact h.f9, pr h.p9, h.q9, h.q8⟩
set_option maxRecDepth 100000 in
set_option maxHeartbeats 400000 in
theorem pow_zero (a e : Nat) (w : World) :
    Calls Try.prog 36 #[.agg (nw 9 a), .agg (nw 9 e), .agg (nw 9 0)] w fun e w' => e = .returned (.tuple #[.agg (nw 9 0), .int .i64 400]) ∧ Gr w w' := by
  have HZ : Hid (∀ w, Calls Try.prog 54 #[.agg (nw 9 0)] w fun e w' => e = .returned (.bool true) ∧ Gr w w') := fun w => isZero_any 0 M_pos w
  go_enter Try.func36, Try.ntmps36
  go_wp2_with (go_at_call 54; refine (HZ.out _).mono ?_; rintro e w' ⟨rfl, g, rfl⟩)
  refine bodyPost_ret (res_two Try.results36 (rd_nat (x := 0) (by rfl) ?_) (rd_tmp (by rfl))) rfl ⟨rfl, (by repeat (first | exact Gr.refl _ | apply Gr.drewN | apply Gr.drew | apply Gr.alloc | apply Gr.gro))⟩
  simp [go_sem]
set_option maxRecDepth 100000 in
set_option maxHeartbeats 4000000 in
theorem pow_any (a e m : Nat) (ha : a < M) (he : e < M) (h0 : 0 < m) (hM : m < M) (w : World) :
    Calls Try.prog 36 #[.agg (nw 9 a), .agg (nw 9 e), .agg (nw 9 m)] w fun f w' => f = .returned (.tuple #[.agg (nw 9 (a ^ e % m)), .int .i64 0]) ∧ Gr w w' := by
  have HZ : Hid (∀ w, Calls Try.prog 54 #[.agg (nw 9 m)] w fun e w' => e = .returned (.bool false) ∧ Gr w w') := fun w => notZero m h0 hM w
  obtain ⟨D, n, u, hd, hD⟩ := divisorOf_any m h0 hM
  have HD : Hid (∀ w, Calls Try.prog 55 #[.agg (nw 9 m)] w fun e w' => e = .returned (.agg (dv D (n + 1) u)) ∧ Gr w w') := hD
  have HO : Hid (∀ w, Calls Try.prog 58 #[.int .i64 1] w fun e w' => e = .returned (.agg (nw 9 1)) ∧ Gr w w') := fun w => small_any 1 (by decide) w
  have HW : Hid (∀ w, Calls Try.prog 57 #[.agg (nw 9 1)] w fun e w' => e = .returned (.agg (nw 18 1)) ∧ Gr w w') := fun w => widen_any 1 (lt_M 1 (by decide)) w
  have HR : Hid (∀ X, X < pw 18 → ∀ w, Calls Try.prog 56 #[.agg (dv D (n + 1) u), .agg (nw 18 X)] w fun e w' => e = .returned (.agg (nw 9 (X % m))) ∧ Gr w w') := fun X hX w => restD X m D n u hd hX w
  have HMu : Hid (∀ x y, x < M → y < M → ∀ w, Calls Try.prog 37 #[.agg (nw 9 x), .agg (nw 9 y)] w fun e w' => e = .returned (.agg (nw 18 (x * y))) ∧ Gr w w') := fun x y hx hy w => mul_any x y hx hy w
  obtain ⟨I, hI⟩ : ∃ I, 1 % m = I := ⟨_, rfl⟩
  have HI : Hid (∀ w, Calls Try.prog 56 #[.agg (dv D (n + 1) u), .agg (nw 18 1)] w fun e w' => e = .returned (.agg (nw 9 I)) ∧ Gr w w') := fun w => by
    have := restD 1 m D n u hd (lt18 1 (lt_M 1 (by decide))) w
    rw [hI] at this
    exact this
  obtain ⟨s, hs⟩ : ∃ s, bl e = s := ⟨_, rfl⟩
  have HB : Hid (∀ w, Calls Try.prog 59 #[.agg (nw 9 e)] w fun f w' => f = .returned (.int .i64 (s : Int)) ∧ Gr w w') := fun w => by
    have := bits_any e he w
    rw [hs] at this
    exact this
  have hs9 : s ≤ 576 := by rw [← hs]; exact bl_pwk e 9 he
  have HBt : Hid (∀ i : Nat, i < 576 → ∀ w, Calls Try.prog 60 #[.agg (nw 9 e), .int .i64 (i : Int)] w fun f w' => f = .returned (.int .i64 (bitN e i)) ∧ Gr w w') := fun i hi w => bit_any e i hi w
  have HE0 : Hid (Unit → a ^ (e / 2 ^ s) % m = I) := fun _ => by
    rw [Nat.div_eq_of_lt ((bl_le e s).1 (by omega)), Nat.pow_zero]
    exact hI
  have HmM : Hid (Unit → ∀ x, x % m < M) := fun _ x => Nat.lt_trans (Nat.mod_lt _ h0) hM
  have HaM : Hid (Unit → a < M) := fun _ => ha
  have s0 : (0 : Int) ≤ (s : Int) := by omega
  have s1 : (s : Int) ≤ 576 := by omega
  clear ha he h0 hM hd hD hI hs
  go_enter Try.func36, Try.ntmps36
  go_wp2_with (first
    | (go_at_call 54; refine (HZ.out _).mono ?_; rintro e w' ⟨rfl, g, rfl⟩)
    | (go_at_call 55; refine (HD.out _).mono ?_; rintro e w' ⟨rfl, g2, rfl⟩))
  refine wp_region_mix (by kernel_rfl) (by kernel_rfl) (RG _ (fun i => match i with | 0 => some (.agg (dv D (n + 1) u)) | 1 => some (.agg (nw 9 1)) | 2 => some (.agg (nw 18 1)) | 3 => some (.agg (nw 9 I)) | _ => none) (fun i => match i with | 4 => some (nw 9 0) | _ => none) (fun i => match i with | 4 => some (5, nw 9 I) | _ => none)) (RG.start _ _ _ _ _ _) ?hs ?hf
  case hs =>
    intro listed vals a1 v1 i o hz hR hF ho hl hd
    have hks : ∀ (j k : Nat) (r : Array Value), (match j with | 4 => some (5, nw 9 I) | _ => (none : Option (Nat × Array Value))) = some (k, r) → (j = 4 ∧ k = 5) := fun j k r h => by
      split at h <;> simp_all
    have hbd : blk v1 ((w.heap.size + 1 + 1 + 1 + 1 + (g.os.length + g2.os.length))) = dv D (n + 1) u := (blk_of _ _ _ (hR.1.below.block ((w.heap.size + 1 + 1 + 1 + 1 + (g.os.length + g2.os.length))) (by simp [go_sem] <;> omega))).trans (by simp [go_sem])
    have hba : blk v1 (w.heap.size) = nw 9 a := (blk_of _ _ _ (hR.1.below.block (w.heap.size) (by simp [go_sem] <;> omega))).trans (by simp [go_sem])
    have hbe : blk v1 (w.heap.size + 1) = nw 9 e := (blk_of _ _ _ (hR.1.below.block (w.heap.size + 1) (by simp [go_sem] <;> omega))).trans (by simp [go_sem])
    have hbr : blk v1 (w.heap.size + 1 + 1 + 1) = nw 9 0 := (blk_of _ _ _ (hR.1.below.block (w.heap.size + 1 + 1 + 1) (by simp [go_sem] <;> omega))).trans (by simp [go_sem])
    have hi : i < 6 := by simpa using (Array.getElem?_eq_some_iff.1 ho).1
    have hil : i < listed.size := by rw [hz]; simpa using hi
    obtain rfl | rfl | rfl | rfl | rfl | rfl : i = 0 ∨ i = 1 ∨ i = 2 ∨ i = 3 ∨ i = 4 ∨ i = 5 := by omega
    · obtain rfl := Option.some.inj ho
      have f0 := hF.old (s := 8) (v := .pointer (some ⟨(w.heap.size + 1 + 1 + 1 + 1 + (g.os.length + g2.os.length)), 0, none⟩)) (by kernel_rfl) rfl
      exact wp_val (.agg (dv D (n + 1) u)) (by simp [go_sem, f0, hbd]) ⟨_, rfl, RG.quiet 0 _ hil rfl rfl (fun j k r h => by have := hks j k r h; omega) (Gr.refl _) hR⟩
    · obtain rfl := Option.some.inj ho
      exact wp_ret (.agg (nw 9 1)) (by simp [go_sem]) (HO.out _) (fun w2 hg => ⟨_, rfl, RG.quiet 1 _ hil rfl rfl (fun j k r h => by have := hks j k r h; omega) hg hR⟩)
    · obtain rfl := Option.some.inj ho
      have l0 := hd ⟨1, .data⟩ (by simp) rfl
      have f0 := hF.at (s := 17) (i := 1) (by kernel_rfl) (by simp) l0
      rw [hR.2.1 1 _ l0 rfl] at f0
      exact wp_ret (.agg (nw 18 1)) (by simp [go_sem, f0]) (HW.out _) (fun w2 hg => ⟨_, rfl, RG.quiet 2 _ hil rfl rfl (fun j k r h => by have := hks j k r h; omega) hg hR⟩)
    · obtain rfl := Option.some.inj ho
      have l0 := hd ⟨0, .data⟩ (by simp) rfl
      have f0 := hF.at (s := 16) (i := 0) (by kernel_rfl) (by simp) l0
      rw [hR.2.1 0 _ l0 rfl] at f0
      have l1 := hd ⟨2, .data⟩ (by simp) rfl
      have f1 := hF.at (s := 18) (i := 2) (by kernel_rfl) (by simp) l1
      rw [hR.2.1 2 _ l1 rfl] at f1
      exact wp_ret (.agg (nw 9 I)) (by simp [go_sem, f0, f1]) (HI.out _) (fun w2 hg => ⟨_, rfl, RG.quiet 3 _ hil rfl rfl (fun j k r h => by have := hks j k r h; omega) hg hR⟩)
    · obtain rfl := Option.some.inj ho
      exact wp_val (.pointer (some ⟨v1.heap.size, 0, none⟩)) (w' := v1.alloc (.cells (nw 9 0) 25)) (by simp [go_sem]) ⟨_, rfl, RG.alloc 4 (nw 9 0) 25 hil hl rfl rfl (fun j k r h => by have := hks j k r h; omega) hR⟩
    · obtain rfl := Option.some.inj ho
      have l0 := hd ⟨4, .data⟩ (by simp) rfl
      have l1 := hd ⟨3, .data⟩ (by simp) rfl
      obtain ⟨B, h4, h5⟩ := hR.2.2.2
      obtain ⟨e1, e2, e3, e4, e5⟩ := h4 4 (nw 9 0) l0 rfl
      simp only [hl] at e5
      replace e5 : blk v1 (B 4) = nw 9 0 := e5
      have f0 := hF.at (s := 9) (i := 4) (by kernel_rfl) (by simp) l0
      rw [e1] at f0
      have f1 := hF.at (s := 19) (i := 3) (by kernel_rfl) (by simp) l1
      rw [hR.2.1 3 _ l1 rfl] at f1
      exact wp_skip (w' := setBlk v1 (B 4) (nw 9 I)) (by simp [go_sem, f0, f1, e4, e5]) ⟨undef, rfl, RG.store 5 4 (nw 9 0) (nw 9 I) (B 4) hil hl rfl rfl rfl l0 rfl (by rw [nw_size]; decide) e1 (fun k r h => by have := hks k _ r h; omega) hR⟩
  case hf =>
    intro listed vals a1 v1 hall hR hF
    have hbd : blk v1 ((w.heap.size + 1 + 1 + 1 + 1 + (g.os.length + g2.os.length))) = dv D (n + 1) u := (blk_of _ _ _ (hR.1.below.block ((w.heap.size + 1 + 1 + 1 + 1 + (g.os.length + g2.os.length))) (by simp [go_sem] <;> omega))).trans (by simp [go_sem])
    have phbd : Pre ((w.heap.size + 1 + 1 + 1 + 1 + (g.os.length + g2.os.length)) + 1) v1.heap.size := Nat.le_trans (show (w.heap.size + 1 + 1 + 1 + 1 + (g.os.length + g2.os.length)) + 1 ≤ _ by simp [go_sem] <;> omega) hR.1.below.size
    have hba : blk v1 (w.heap.size) = nw 9 a := (blk_of _ _ _ (hR.1.below.block (w.heap.size) (by simp [go_sem] <;> omega))).trans (by simp [go_sem])
    have phba : Pre (w.heap.size + 1) v1.heap.size := Nat.le_trans (show w.heap.size + 1 ≤ _ by simp [go_sem] <;> omega) hR.1.below.size
    have hbe : blk v1 (w.heap.size + 1) = nw 9 e := (blk_of _ _ _ (hR.1.below.block (w.heap.size + 1) (by simp [go_sem] <;> omega))).trans (by simp [go_sem])
    have phbe : Pre (w.heap.size + 1 + 1) v1.heap.size := Nat.le_trans (show w.heap.size + 1 + 1 ≤ _ by simp [go_sem] <;> omega) hR.1.below.size
    have hbr : blk v1 (w.heap.size + 1 + 1 + 1) = nw 9 0 := (blk_of _ _ _ (hR.1.below.block (w.heap.size + 1 + 1 + 1) (by simp [go_sem] <;> omega))).trans (by simp [go_sem])
    have phbr : Pre (w.heap.size + 1 + 1 + 1 + 1) v1.heap.size := Nat.le_trans (show w.heap.size + 1 + 1 + 1 + 1 ≤ _ by simp [go_sem] <;> omega) hR.1.below.size
    have hV := hR.2.1
    obtain ⟨B, h4, h5⟩ := hR.2.2.2
    have x0 := hV 0 _ (hall 0 (by simp)) rfl
    have x1 := hV 1 _ (hall 1 (by simp)) rfl
    have x2 := hV 2 _ (hall 2 (by simp)) rfl
    have x3 := hV 3 _ (hall 3 (by simp)) rfl
    obtain ⟨x4, q4, p4, z4, y4⟩ := h4 4 _ (hall 4 (by simp)) rfl
    simp only [hall 5 (by simp), if_true] at y4
    replace p4 : Pre (B 4 + 1) v1.heap.size := p4
    replace y4 : blk v1 (B 4) = nw 9 I := y4
    have hb1 := hR.1
    rw [hF.final (by kernel_rfl) hall]
    simp only [putFrom, Act.put, List.setIfInBounds_toArray, List.set_cons_zero, List.set_cons_succ, x0, x1, x2, x3, x4]
    generalize B 4 = b4 at *
    clear hV h4 h5 hR hF hall x0 x1 x2 x3 x4
    have hp : PW w v1 a e I D n u (w.heap.size + 1 + 1 + 1 + 1 + (g.os.length + g2.os.length)) b4 := by
      refine ⟨Gr.trans ?_ hb1, hba, phba, hbe, phbe, hbr, hb1.frz0 _ (by simp [go_sem] <;> omega) (by simp [go_sem]), phbr, hbd, phbd, y4, z4, p4, ?_, ?_⟩
      · exact (by repeat (first | exact Gr.refl _ | apply Gr.drewN | apply Gr.drew | apply Gr.alloc | apply Gr.gro))
      · have h := q4; simp [go_sem] at h; omega
      · have h := q4; simp [go_sem] at h; omega
    generalize (w.heap.size + 1 + 1 + 1 + 1 + (g.os.length + g2.os.length)) = b8 at hp ⊢
    clear hbd phbd hba phba hbe phbe hbr phbr p4 y4 z4 q4 hb1 HD HZ HO HW HI
    have hpg := hp
    obtain ⟨hg, h1, h2, h3, h4, h5, h6, h7, h8, h9, h10, h11, h12, h13, h14⟩ := hpg
    clear hg
    go_wp2_with (go_at_call 59; refine (HB.out _).mono ?_; rintro e w' ⟨rfl, g3, rfl⟩)
    have HP0 : Hid (PW w (gro v1 g3) a e I D n u b8 b4) := hp.gr ⟨g3, rfl⟩
    clear h1 h2 h3 h4 h5 h6 h7 h8 h9 h10 h11 h12 h13 h14 hp
    go_loopw [10] (fun i wr => ∃ (j P : Nat), i = .int .i64 ((j : Int) - 1) ∧ Hid (Unit → j ≤ s ∧ a ^ (e / 2 ^ j) % m = P) ∧ Hid (PW w wr a e P D n u b8 b4)) (fun i _ => (intOf i + 1).toNat)
    case atStart => exact ⟨s, I, rfl, fun _ => ⟨Nat.le_refl _, HE0.out ()⟩, HP0⟩
    case round =>
      obtain ⟨j, P, rfl, HJ, HP⟩ := hrel
      clear HP0
      obtain ⟨hg, h1, h2, h3, h4, h5, h6, h7, h8, h9, h10, h11, h12, h13, h14⟩ := HP.out
      clear hg
      by_cases hj : 0 < j
      · obtain ⟨i, rfl⟩ : ∃ i, j = i + 1 := ⟨j - 1, by omega⟩
        have e1 : (((i + 1 : Nat) : Int) - 1) = (i : Int) := by omega
        rw [e1]
        have i0 : (0 : Int) ≤ (i : Int) := by omega
        have hi : i < 576 := by have := (HJ.out ()).1; omega
        have i1 : (i : Int) < 576 := by omega
        have hPM : P < M := by rw [← (HJ.out ()).2]; exact HmM.out () _
        have c1 := fun w => HMu.out P P hPM hPM w
        have c2 := fun w => HR.out (P * P) (mul_lt18 P P hPM hPM) w
        obtain ⟨S, hS⟩ : ∃ S, P * P = S := ⟨_, rfl⟩
        rw [hS] at c1 c2
        obtain ⟨T, hT⟩ : ∃ T, S % m = T := ⟨_, rfl⟩
        rw [hT] at c2
        have hTM : T < M := by rw [← hT]; exact HmM.out () _
        have c3 := fun w => HMu.out T a hTM (HaM.out ()) w
        have c4 := fun w => HR.out (T * a) (mul_lt18 T a hTM (HaM.out ())) w
        obtain ⟨U, hU⟩ : ∃ U, T * a = U := ⟨_, rfl⟩
        rw [hU] at c3 c4
        obtain ⟨V, hV⟩ : ∃ V, U % m = V := ⟨_, rfl⟩
        rw [hV] at c4
        have c5 := fun w => HBt.out i hi w
        have C1 : Hid (∀ w, Calls Try.prog 37 #[.agg (nw 9 P), .agg (nw 9 P)] w fun e w' => e = .returned (.agg (nw 18 S)) ∧ Gr w w') := c1
        have C2 : Hid (∀ w, Calls Try.prog 56 #[.agg (dv D (n + 1) u), .agg (nw 18 S)] w fun e w' => e = .returned (.agg (nw 9 T)) ∧ Gr w w') := c2
        have C3 : Hid (∀ w, Calls Try.prog 37 #[.agg (nw 9 T), .agg (nw 9 a)] w fun e w' => e = .returned (.agg (nw 18 U)) ∧ Gr w w') := c3
        have C4 : Hid (∀ w, Calls Try.prog 56 #[.agg (dv D (n + 1) u), .agg (nw 18 U)] w fun e w' => e = .returned (.agg (nw 9 V)) ∧ Gr w w') := c4
        have hE := (HJ.out ()).2
        have hTe : T = a ^ (e / 2 ^ (i + 1)) * a ^ (e / 2 ^ (i + 1)) % m := by rw [← hT, ← hS, ← hE, pow_sq]
        have hh := pow_half a e i
        obtain ⟨β, hβ⟩ : ∃ β, bitN e i = β := ⟨_, rfl⟩
        rw [hβ] at hh
        simp only [hβ] at c5
        have C5 : Hid (∀ w, Calls Try.prog 60 #[.agg (nw 9 e), .int .i64 (i : Int)] w fun f w' => f = .returned (.int .i64 (β : Int)) ∧ Gr w w') := c5
        have hb2 : β < 2 := by rw [← hβ]; exact bitN_lt e i
        have HN : Hid (Unit → (β = 1 → a ^ (e / 2 ^ i) % m = V) ∧ (β = 0 → a ^ (e / 2 ^ i) % m = T)) := fun _ => by
          refine ⟨fun h => ?_, fun h => ?_⟩
          · rw [hh, h, Nat.pow_one, ← hV, ← hU, hTe, pow_mul]
          · rw [hh, h, Nat.pow_zero, Nat.mul_one, hTe]
        have HJi : Hid (Unit → i ≤ s) := fun _ => by have := (HJ.out ()).1; omega
        clear c1 c2 c3 c4 c5 hS hT hU hV hE hTe hh hβ hi hj e1 hPM hTM
        go_upto_region 8 with fail
        go_cut [9] from 27 to 31 (fun a9 wx => a9 = .pointer (some ⟨b4, 0, none⟩) ∧ Hid (PW w wx a e T D n u b8 b4))
        case first =>
          go_region_with (first
            | (go_at_call 37; refine (C1.out _).mono ?_; rintro e w' ⟨rfl, g5, rfl⟩)
            | (go_at_call 56; refine (C2.out _).mono ?_; rintro e w' ⟨rfl, g6, rfl⟩))
          all_goals
            go_wp2_with fail
            go_meet
            exact ⟨rfl, (HP.out.set T).gr ⟨_, rfl⟩⟩
        case rest =>
          obtain ⟨rfl, HP2⟩ := hcut
          clear h1 h2 h3 h4 h5 h6 h7 h8 h9 h10 h11 h12 h13 h14 C1 C2 HP
          obtain ⟨hg, h1, h2, h3, h4, h5, h6, h7, h8, h9, h10, h11, h12, h13, h14⟩ := HP2.out
          clear hg
          rcases (show β = 0 ∨ β = 1 by omega) with rfl | rfl
          · go_wp2_with (go_at_call 60; refine (C5.out _).mono ?_; rintro e w' ⟨rfl, g7, rfl⟩)
            go_roundw
            case rel => exact ⟨i, T, by go_num, fun _ => ⟨HJi.out (), (HN.out ()).2 (by first | exact rfl | trivial)⟩, HP2.out.gr ⟨_, rfl⟩⟩
            case measure => simp [intOf]
          · have HPB : Hid (∀ g, PW w (gro wc g) a e T D n u b8 b4) := fun g => HP2.out.gr ⟨g, rfl⟩
            go_upto_region 10 with (go_at_call 60; refine (C5.out _).mono ?_; rintro e w' ⟨rfl, g7, rfl⟩)
            go_region_with (first
              | (go_at_call 37; refine (C3.out _).mono ?_; rintro e w' ⟨rfl, g5, rfl⟩)
              | (go_at_call 56; refine (C4.out _).mono ?_; rintro e w' ⟨rfl, g6, rfl⟩))
            all_goals
              have HPV : Hid (∀ g, PW w (gro (setBlk wc b4 (nw 9 V)) g) a e V D n u b8 b4) := fun g => (HP2.out.set V).gr ⟨g, rfl⟩
              clear h1 h2 h3 h4 h5 h6 h7 h8 h9 h10 h11 h12 h13 h14
              go_wp2_with fail
              go_roundw
              case rel => exact ⟨i, V, by go_num, fun _ => ⟨HJi.out (), (HN.out ()).1 (by first | exact rfl | trivial)⟩, HPV.out _⟩
              case measure => simp [intOf]
      · obtain rfl : j = 0 := by omega
        have HF : Hid (Unit → a ^ e % m = P) := fun _ => by have := (HJ.out ()).2; rw [Nat.pow_zero, Nat.div_one] at this; exact this
        clear hj
        go_wp2_with fail
        refine bodyPost_ret (res_two Try.results36 (rd_nat (x := P) (by rfl) ?_) (rd_tmp (by rfl))) rfl ⟨by rw [HF.out ()]; rfl, ?_⟩
        · simp [go_sem, *]
        · have hg := HP.out.g
          repeat (first | exact hg | apply Gr.drewN | apply Gr.drew | apply Gr.alloc | apply Gr.gro | (refine gr_setNew ?_ (by omega)))

end Go.Proofs.Ytkmpholjlophpaa
