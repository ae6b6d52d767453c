/-
  What the walks of layer 5's statements keep: a curve's cells in a variable.
-/
/-
  below, one: what they hand back.
-/
import Derived.Test.YtkmpholjlophpaaZFJ
import Derived.Test.YtkmpholjlophpaaZRGets
import Derived.Test.YtkmpholjlophpaaZRMod
namespace Go.Proofs.Ytkmpholjlophpaa
open Go.RowKit
/-- A variable that holds a curve's cells. -/
structure Cv (v : World) (b : Nat) (id : Int) (p : Option Addr) (l n : Nat) (q : Nat → Option Addr × Nat × Nat) : Prop where
  h : blk v b = cvA id p l n q
  f : frz v b = (0, 0)
  p : Pre (b + 1) v.heap.size
theorem Cv.gr {v v' : World} {b : Nat} {id : Int} {p : Option Addr} {l n : Nat} {q : Nat → Option Addr × Nat × Nat} (h : Cv v b id p l n q) (k : Gr v v') : Cv v' b id p l n q :=
  ⟨by rw [k.blk _ h.p]; exact h.h, by rw [k.frz _ h.p]; exact h.f, Nat.le_trans h.p k.below.size⟩
theorem Cv.at0 {v : World} {b : Nat} {id : Int} {p : Option Addr} {l n : Nat} {q : Nat → Option Addr × Nat × Nat} (h : Cv v b id p l n q) : v.cell? ⟨b, 0, none⟩ = some (.int .i64 id) := by rw [cell_blk, h.h]; rfl
theorem Cv.at1 {v : World} {b : Nat} {id : Int} {p : Option Addr} {l n : Nat} {q : Nat → Option Addr × Nat × Nat} (h : Cv v b id p l n q) : v.cell? ⟨b, 1, none⟩ = some (.slice p l n) := by rw [cell_blk, h.h]; rfl
theorem num5_gr (x : Int) (w : World) : Calls Try.prog 18 #[.int .i64 x] w fun e w' => e = .returned (.int .i64 x) ∧ Gr w w' :=
  (num_any x w).mono fun _ _ ⟨h1, h2⟩ => ⟨h1, h2 ▸ Gr.refl _⟩

end Go.Proofs.Ytkmpholjlophpaa
namespace Go.Proofs.Ytkmpholjlophpaa
open Go.RowKit
attribute [local go_sem ↓] loadNat_is loadArr_is loadWide_is loadArrW_is storeNat_is storeWide_is
attribute [local go_sem] loadNat loadArr loadWide loadArrW storeNat storeWide idxArr fold9 fold18 nw_size nw_elem pre_self pre_1 pre_2 pre_3 pre_4 pre_5 pre_6 pre_7 pre_8 pre_9 pre_10 pre_11 pre_12 pre_13 pre_14 pre_15 pre_16 pre_17 pre_18 pre_19 pre_20 pre_21 pre_22 pre_23 pre_24 pre_25 pre_26 pre_27 pre_28 pre_29 pre_30 pre_31 pre_32 pre_33 pre_34 pre_35 pre_36 pre_37 pre_38 pre_39 pre_40 gro_size gro_drew gro_drewN drew_gro drewN_gro gro_gro blk_gro frz_gro blk_drew frz_drew blk_drewN frz_drewN blk_alloc_at frz_alloc_at blk_alloc frz_alloc cell_gro frozen_gro cell_alloc_pre frozen_alloc_pre setCell_drewN alloc_drewN setBlk_drew setBlk_drewN setBlk_alloc_at setBlk_alloc setBlk_gro setCell_gro setCell_alloc_pre size_setBlk size_setCell
attribute [local go_sem] nw_ext9 nw_ext18 eqArr9 eqArr18

attribute [local go_sem] loadNat2 loadArr2 loadWide2 loadK_nw ppre_1 ppre_2 ppre_3 ppre_4 ppre_5 ppre_6 ppre_7 ppre_8 ppre_9 ppre_10 ppre_11 ppre_12 ppre_13 ppre_14 ppre_15 ppre_16 ppre_17 ppre_18 ppre_19 ppre_20

attribute [local go_sem ↓] loadC_is storeC_is Go.wp_at_zero Go.wp_at_succ
attribute [local go_sem] loadC storeCv cvA_size frz_setBlk blk_setBlk setBlk_setBlk blk_other

theorem pN_dl (i : Nat) (h1 : 1 ≤ i) (h2 : i ≤ 15) : dl (pN i) ≤ 18 := by
  have h := pN_bd i h1 h2
  exact (dl_le _ 18).2 (by rw [pq_M]; omega)
theorem dl_M (a : Nat) (ha : a < M) : dl a ≤ 18 := (dl_le _ 18).2 (by rw [pq_M]; exact ha)
set_option maxRecDepth 100000 in
set_option maxHeartbeats 1600000 in
theorem below_any (id : Int) (m a n : Nat) (p : Option Addr) (q : Nat → Option Addr × Nat × Nat) (hm : 0 < m) (hd : dl m ≤ 18) (ha : a < M) (w : World) (hp : Sl w p m) :
    Calls Try.prog 32 #[.agg (cvA id p (dl m) n q), .agg (nw 9 a)] w fun e w' => e = .returned (.agg (nw 9 (a % m))) ∧ Gr w w' := by
  have HF : Hid (∀ w, Calls Try.prog 23 #[.agg (nw 9 a)] w (Nm a w)) := fun w => from_any a ha w
  have hda := dl_M a ha
  obtain ⟨R, hR⟩ : ∃ R, a % m = R := ⟨_, rfl⟩
  have HM : Hid (∀ w' p' k, Gr w w' → Sl w' p' a → Calls Try.prog 21 #[.slice p' (dl a) k, .slice p (dl m) n] w' (Nm R w')) := fun w' p' k g h => hR ▸ rmod_any a m k n p' p w' h (hp.gr g) (by omega) (by omega) hm
  have HN : Hid (∀ w' p' k, Sl w' p' R → Calls Try.prog 20 #[.slice p' (dl R) k] w' fun e w'' => e = .returned (.agg (nw 9 R)) ∧ Gr w' w'') := fun w' p' k h => rnat_any R k p' w' h
  rw [hR]
  clear hR hda ha hd hm hp
  obtain ⟨lm, hlm⟩ : ∃ l, dl m = l := ⟨_, rfl⟩
  rw [hlm] at HM ⊢
  obtain ⟨la, hla⟩ : ∃ l, dl a = l := ⟨_, rfl⟩
  rw [hla] at HM
  have HF' : Hid (∀ w, Calls Try.prog 23 #[.agg (nw 9 a)] w fun e w' => ∃ p n, e = .returned (.slice p la n) ∧ Sl w' p a ∧ Gr w w') := fun w => hla ▸ HF.out w
  clear HF
  go_enter Try.func32, Try.ntmps32
  go_upto_region 1 with fail
  refine gen_w (fun v => Hid (Gr w v ∧ Cv v w.heap.size id p lm n q ∧ Cl v (w.heap.size + 1) a ∧ Cl v (w.heap.size + 1 + 1) 0)) ?_ ?_
  · exact ⟨(by repeat (first | exact Gr.refl _ | apply Gr.drewN | apply Gr.drew | apply Gr.alloc | apply Gr.gro)), ⟨by simp [go_sem], by simp [go_sem], by simp [go_sem]⟩, ⟨by simp [go_sem], by simp [go_sem], by simp [go_sem]⟩, ⟨by simp [go_sem], by simp [go_sem], by simp [go_sem]⟩⟩
  intro v0 HV
  have ⟨G, cc, ca, cr⟩ := HV.out
  have ⟨h1, f1, p1⟩ := cc
  have ⟨h2, f2, p2⟩ := ca
  have ⟨h3, f3, p3⟩ := cr
  have h4 := cc.at1
  go_region_with (first
    | (go_at_call 23; refine (HF'.out _).mono ?_; rintro e W1 ⟨p1, n1, rfl, S1, G1⟩; (have g1 : Gr v0 W1 := Gr.trans (by repeat (first | exact Gr.refl _ | apply Gr.drewN | apply Gr.drew | apply Gr.alloc | apply Gr.gro)) G1); (have h5 := (cc.gr g1).at1); (have h6 := (cr.gr g1).h); (have h7 := (cr.gr g1).f))
    | (go_at_call 21; refine (HM.out _ _ _ ?_ ?_).mono ?_; exact Gr.trans G (Gr.trans g1 (by repeat (first | exact Gr.refl _ | apply Gr.drewN | apply Gr.drew | apply Gr.alloc | apply Gr.gro))); exact Sl.gr S1 (by repeat (first | exact Gr.refl _ | apply Gr.drewN | apply Gr.drew | apply Gr.alloc | apply Gr.gro)); rintro e W2 ⟨p2, n2, rfl, S2, G2⟩; (have g2 : Gr v0 W2 := Gr.trans g1 (Gr.trans (by repeat (first | exact Gr.refl _ | apply Gr.drewN | apply Gr.drew | apply Gr.alloc | apply Gr.gro)) G2)); (have h8 := (cr.gr g2).h); (have h9 := (cr.gr g2).f); (have p9 := (cr.gr g2).p))
    | (go_at_call 20; refine (HN.out _ _ _ ?_).mono ?_; exact Sl.gr S2 (by repeat (first | exact Gr.refl _ | apply Gr.drewN | apply Gr.drew | apply Gr.alloc | apply Gr.gro)); rintro e w' ⟨rfl, g3, rfl⟩))
  all_goals
    go_wp2_with fail
    refine bodyPost_ret (res_one Try.results32 (rd_nat (x := R) (by rfl) ?_)) rfl ⟨rfl, ?_⟩
    · simp [go_sem, *]
    · have hg := G.trans g2
      repeat (first | exact hg | apply Gr.drewN | apply Gr.drew | apply Gr.alloc | apply Gr.gro | (refine gr_setNew ?_ (by omega)))

/-- The curve that an id is turned into. -/
def idx (id : Int) : Nat := (IntKind.u64.wrap id).toNat % 15 + 1
theorem idx_bd (id : Int) : 1 ≤ idx id ∧ idx id ≤ 15 := by unfold idx; omega
theorem idx_conv (id : Int) : ∃ u : Nat, IntKind.u64.wrap id = (u : Int) ∧ (u : Int) < 18446744073709551616 ∧ (u : Int) % 15 + 1 = (idx id : Int) := by
  have h : 0 ≤ IntKind.u64.wrap id ∧ IntKind.u64.wrap id < 18446744073709551616 := by rw [IntKind.wrap_u64]; omega
  refine ⟨(IntKind.u64.wrap id).toNat, ?_, ?_, ?_⟩
  · omega
  · omega
  · unfold idx; omega
set_option maxRecDepth 100000 in
set_option maxHeartbeats 1600000 in
theorem one5_any (id : Int) (w : World) : Calls Try.prog 34 #[.int .i64 id] w fun e w' => ∃ p n q, e = .returned (.tuple #[.agg (cvA (idx id : Nat) p (dl (pN (idx id))) n q), .agg (nw 9 (pN (idx id)))]) ∧ Sl w' p (pN (idx id)) ∧ Gr w w' := by
  obtain ⟨u, hu, hu2, hk⟩ := idx_conv id
  have hbd := idx_bd id
  obtain ⟨k, hkk⟩ : ∃ k, idx id = k := ⟨_, rfl⟩
  rw [hkk] at hk hbd ⊢
  have HG : Hid (∀ w, Calls Try.prog 13 #[.int .i64 (k : Int)] w fun e w' => ∃ p n q, e = .returned (.tuple #[.agg (cvA (k : Int) p (dl (pN k)) n q), .bool true]) ∧ Sl w' p (pN k) ∧ Gr w w') := fun w => get_yes k hbd.1 hbd.2 w
  obtain ⟨m, hm⟩ : ∃ m, pN k = m := ⟨_, rfl⟩
  rw [hm] at HG ⊢
  obtain ⟨l, hl⟩ : ∃ l, dl m = l := ⟨_, rfl⟩
  rw [hl] at HG ⊢
  have HN : Hid (∀ w' p' k, Sl w' p' m → Calls Try.prog 20 #[.slice p' l k] w' fun e w'' => e = .returned (.agg (nw 9 m)) ∧ Gr w' w'') := fun w' p' k h => hl ▸ rnat_any m k p' w' h
  have u0 : (0 : Int) ≤ (u : Int) := by omega
  have hk2 : (1 : Int) + (u : Int) % 15 = (k : Int) := by omega
  have hk3 : IntKind.i64.wrap ((u : Int) % 15) = (u : Int) % 15 := by rw [IntKind.wrap_i64]; omega
  have hk4 : IntKind.u64.wrap ((u : Int) % 15) = (u : Int) % 15 := by rw [IntKind.wrap_u64]; omega
  have hk5 : (u : Int).tmod 15 = (u : Int) % 15 := by rw [Int.tmod_eq_emod_of_nonneg (by omega)]
  have k0 : (1 : Int) ≤ (k : Int) := by omega
  have k1 : (k : Int) ≤ 15 := by omega
  have hu3 : id % 18446744073709551616 = (u : Int) := by rw [← hu, IntKind.wrap_u64]
  clear hbd hkk hm hl hk
  go_enter Try.func34, Try.ntmps34
  go_upto_region 2 with (go_at_call 13; refine (HG.out _).mono ?_; rintro e W1 ⟨p, n, q, rfl, S1, G1⟩; (have z1 : blk W1 w.heap.size = #[.int .i64 0, .slice none 0 0, .slice none 0 0, .slice none 0 0, .slice none 0 0, .slice none 0 0, .slice none 0 0] := by rw [G1.blk _ (by simp [go_sem] <;> omega)]; simp [go_sem]); (have z2 : frz W1 w.heap.size = (0, 0) := by rw [G1.frz _ (by simp [go_sem] <;> omega)]; simp [go_sem]); (have z3 : Cl W1 (w.heap.size + 1) 0 := Cl.gr (v := ((w.alloc (Obj.cells #[.int .i64 0, .slice none 0 0, .slice none 0 0, .slice none 0 0, .slice none 0 0, .slice none 0 0, .slice none 0 0] 32)).alloc (Obj.cells (nw 9 0) 25))) ⟨by simp [go_sem], by simp [go_sem], by simp [go_sem]⟩ G1))
  obtain ⟨b4, hb4⟩ : ∃ b, W1.heap.size = b := ⟨_, rfl⟩
  rw [hb4]
  refine gen_w (fun v => Hid (Gr w v ∧ blk v w.heap.size = #[.int .i64 0, .slice none 0 0, .slice none 0 0, .slice none 0 0, .slice none 0 0, .slice none 0 0, .slice none 0 0] ∧ frz v w.heap.size = (0, 0) ∧ Pre (w.heap.size + 1) v.heap.size ∧ Cl v (w.heap.size + 1) 0 ∧ Cv v b4 (k : Int) p l n q ∧ Sl v p m)) ?_ ?_
  · have ga : Gr W1 (W1.alloc (Obj.cells (cvA (k : Int) p l n q) 32)) := (Gr.refl _).alloc _
    have hs := G1.below.size
    simp at hs
    subst hb4
    refine ⟨Gr.trans (Gr.trans (by repeat (first | exact Gr.refl _ | apply Gr.drewN | apply Gr.drew | apply Gr.alloc | apply Gr.gro)) G1) ga, ?_, ?_, ?_, z3.gr ga, ⟨by simp [go_sem], by simp [go_sem], by simp [go_sem]⟩, S1.gr ga⟩
    · rw [ga.blk _ (by omega)]; exact z1
    · rw [ga.frz _ (by omega)]; exact z2
    · unfold Pre; simp; omega
  intro v0 HV
  have ⟨G, d1, d2, d3, cr, cc, S⟩ := HV.out
  have hd1 : (blk v0 w.heap.size).size = 7 := by rw [d1]; rfl
  have ⟨h1, f1, p1⟩ := cc
  have ⟨h2, f2, p2⟩ := cr
  have h4 := cc.at1
  have n1 : ¬ w.heap.size = w.heap.size + 1 := by omega
  have n2 : ¬ w.heap.size + 1 = w.heap.size := by omega
  have hz1 : ∀ (i : Nat) (n : Int), (blk v0 w.heap.size)[i]? ≠ some (Value.int .u32 n) := by rw [d1]; exact noU 0 (none, 0, 0) (none, 0, 0) (none, 0, 0) (none, 0, 0) (none, 0, 0) (none, 0, 0)
  have hz2 : ∀ (i : Nat) (y : Int), (blk (setBlk v0 w.heap.size (cvA (k : Int) p l n q)) (w.heap.size + 1))[i]? ≠ some (Value.int .u32 y) := fun i n' => by
    rw [blk_other _ _ _ _ n1, h2]
    by_cases hi : i < 9
    · rw [nw_get 9 0 i hi]; simp
    · rw [Array.getElem?_eq_none (by rw [nw_size]; omega)]; simp
  have S' : Sl (setBlk (setBlk v0 w.heap.size (cvA (k : Int) p l n q)) (w.heap.size + 1) (nw 9 m)) p m := Sl.set (Sl.set S hz1) hz2
  have G' : Gr w (setBlk (setBlk v0 w.heap.size (cvA (k : Int) p l n q)) (w.heap.size + 1) (nw 9 m)) := gr_setNew (gr_setNew G (Nat.le_refl _)) (by omega)
  go_region_with (go_at_call 20; refine (HN.out _ _ _ ?_).mono ?_; exact S.gr (by repeat (first | exact Gr.refl _ | apply Gr.drewN | apply Gr.drew | apply Gr.alloc | apply Gr.gro)); rintro e w' ⟨rfl, g3, rfl⟩)
  all_goals
    go_wp2_with fail
    refine bodyPost_ret (res_two Try.results34 (rd_cell (c := cvA (k : Int) p l n q) 7 Try.underlying32 rfl (by kernel_rfl) (by rfl) ?_ rfl) (rd_nat (x := m) (by rfl) ?_)) rfl ⟨p, n, q, rfl, S'.gr (by repeat (first | exact Gr.refl _ | apply Gr.drewN | apply Gr.drew | apply Gr.alloc | apply Gr.gro)), G'.trans (by repeat (first | exact Gr.refl _ | apply Gr.drewN | apply Gr.drew | apply Gr.alloc | apply Gr.gro))⟩
    · simp [go_sem, *]
    · simp [go_sem, *]

end Go.Proofs.Ytkmpholjlophpaa
