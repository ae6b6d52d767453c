import Derived.Test.YtgmaalokfgdpaaaXOCW
import Derived.Test.YtgmaalokfgdpaaaXORP2
import Derived.Test.YtgmaalokfgdpaaaXOIX
namespace Go.Proofs.Ytgmaalokfgdpaaa
open Go.RowKit
theorem crA_one (id : Int) (x : Nat → Nat) (q : Nat → Option Addr × Nat) : (crA id x q).all (·.oneCell') = true := by simp [crA, Value.oneCell']
theorem storeCr (w : World) (b : Nat) (id : Int) (x : Nat → Nat) (q : Nat → Option Addr × Nat) (hs : (blk w b).size = 7) (hf : frz w b = (0, 0)) :
    (storeS 36 (.pointer (some ⟨b, 0, none⟩)) (.agg (crA id x q))).run Try.prog w = .ok () (setBlk w b (crA id x q)) :=
  storeS_run 7 (by decide) (by kernel_rfl) w b _ (crA_size id x q) (crA_one id x q) hs hf
/-- The documents' On, of a curve and any point. -/
theorem ron_any (i : Nat) (h1 : 1 ≤ i) (h2 : i ≤ 15) (x y : Nat) (f : Bool) (hx : x < M) (hy : y < M) (qc : Nat → Option Addr × Nat) (p q : Option Addr) (n m : Nat) (w : World) (HQ : ∀ k, Sl w (qc k).1 (nN i k)) (Sx : Sl w p x) (Sy : Sl w q y) :
    Calls Try.prog 17 #[.agg (crA (i : Int) (nN i) qc), .agg (ptA p x n q y m f)] w (Rt (.c (.bool (onB i x y f))) w) := by
  have hd := pN_dl i h1 h2
  have hx4 := dl_M x hx
  have hy4 := dl_M y hy
  cases f with
  | true => exact Rt.c (ron_inf i _ _ _ _ _ _ qc x y p q n m w HQ Sx Sy)
  | false =>
    by_cases lx : x < pN i
    · by_cases ly : y < pN i
      · have := ron_ok i _ _ _ _ _ _ qc x y p q n m (by omega) (by omega) (by omega) lx ly (aN_lt i h1 h2) (bN_lt i h1 h2) w HQ Sx Sy
        simp only [onB, lx, ly, decide_true, Bool.true_and, Bool.false_eq_true, if_false]
        exact Rt.c this
      · have := ron_y i _ _ _ _ _ _ qc x y p q n m (by omega) (by omega) (by omega) lx (by omega) w HQ Sx Sy
        simp only [onB, ly, decide_false, Bool.false_and, Bool.and_false, Bool.false_eq_true, if_false]
        exact Rt.c this
    · have := ron_x i _ _ _ _ _ _ qc x y p q n m (by omega) (by omega) (by omega) w HQ Sx Sy
      simp only [onB, lx, decide_false, Bool.false_and, Bool.false_eq_true, if_false]
      exact Rt.c this
end Go.Proofs.Ytgmaalokfgdpaaa
namespace Go.Proofs.Ytgmaalokfgdpaaa
open Go.RowKit
attribute [local go_sem ↓] loadNat_is loadArr_is loadWide_is loadArrW_is storeNat_is storeWide_is
attribute [local go_sem] loadNat loadArr loadWide loadArrW storeNat storeWide idxArr fold9 fold18 nw_size nw_elem pre_self pre_1 pre_2 pre_3 pre_4 pre_5 pre_6 pre_7 pre_8 pre_9 pre_10 pre_11 pre_12 pre_13 pre_14 pre_15 pre_16 pre_17 pre_18 pre_19 pre_20 pre_21 pre_22 pre_23 pre_24 pre_25 pre_26 pre_27 pre_28 pre_29 pre_30 pre_31 pre_32 pre_33 pre_34 pre_35 pre_36 pre_37 pre_38 pre_39 pre_40 gro_size gro_drew gro_drewN drew_gro drewN_gro gro_gro blk_gro frz_gro blk_drew frz_drew blk_drewN frz_drewN blk_alloc_at frz_alloc_at blk_alloc frz_alloc cell_gro frozen_gro cell_alloc_pre frozen_alloc_pre setCell_drewN alloc_drewN setBlk_drew setBlk_drewN setBlk_alloc_at setBlk_alloc setBlk_gro setCell_gro setCell_alloc_pre size_setBlk size_setCell
attribute [local go_sem] ppre_1 ppre_2 ppre_3 ppre_4 ppre_5 ppre_6
attribute [local go_sem ↓] loadC_is storeC_is loadPt_is storePt_is zvPt_is buildPt_is loadPn_is storePn_is zvPn_is loadCu_is storeCu_is zvCu_is buildCu_is buildPn_is Go.wp_at_zero Go.wp_at_succ
attribute [local go_sem] loadC storeC0 storeCr crA_size loadPt storePt zvPt ptA_size loadPn storePn zvPn pnt_size loadCu storeCu zvCu cu_size buildCu0 buildPnI buildPn2 frz_setBlk blk_setBlk setBlk_setBlk blk_other
set_option maxRecDepth 100000 in
set_option maxHeartbeats 1600000 in
theorem lcons_no (id : Int) (h : id < 1 ∨ 15 < id) (x y : Nat) (f : Bool) (w : World) : Calls Try.prog 4 #[.int .i64 id, .agg (pnt x y f)] w fun e w' => e = .returned (.bool true) ∧ Gr w w' := by
  have HG : Hid (∀ w, Calls Try.prog 10 #[.int .i64 id] w fun e w' => e = .returned (.tuple #[.agg #[.int .i64 0, .slice none 0 0, .slice none 0 0, .slice none 0 0, .slice none 0 0, .slice none 0 0, .slice none 0 0], .bool false]) ∧ Gr w w') := fun w => get_no id h w
  go_enter Try.func4, Try.ntmps4
  go_upto_region 2 with (go_at_call 10; refine (HG.out _).mono ?_; rintro e w' ⟨rfl, g, rfl⟩)
  refine gen_w (fun v => Gr w v ∧ Vr v (w.heap.size) (pnt x y f)) ⟨(by repeat (first | exact Gr.refl _ | apply Gr.drewN | apply Gr.drew | apply Gr.alloc | apply Gr.gro)), ⟨by simp [go_sem], by simp [go_sem], by simp [go_sem]⟩⟩ ?_
  rintro v0 ⟨G, c1⟩
  refine wp_region_q (by kernel_rfl) (by kernel_rfl) [.c (.int .i64 id), .c (.agg (pnt x y f)), .c (.bool false), .c (.bool false), .c (.bool false), .top, .top, .top, .top, .c (.bool false), .c (.bool true), .c (.bool true), .c (.bool true), .c (.bool true), .c (.bool true)] ?hs ?hf
  case hs =>
    intro listed vals a1 v1 io oo hg zR zF zo zD
    have Hc1 : blk v1 (w.heap.size) = pnt x y f := (hg.blk _ c1.p).trans c1.h
    have zi : io < 15 := by simpa using (Array.getElem?_eq_some_iff.1 zo).1
    obtain rfl | rfl | rfl | rfl | rfl | rfl | rfl | rfl | rfl | rfl | rfl | rfl | rfl | rfl | rfl : io = 0 ∨ io = 1 ∨ io = 2 ∨ io = 3 ∨ io = 4 ∨ io = 5 ∨ io = 6 ∨ io = 7 ∨ io = 8 ∨ io = 9 ∨ io = 10 ∨ io = 11 ∨ io = 12 ∨ io = 13 ∨ io = 14 := by omega
    · obtain rfl := Option.some.inj zo
      have f0 := zF.old (s := 0) (v := .int .i64 id) (by kernel_rfl) rfl
      refine Or.inl ⟨wanted_no rfl, ?_⟩
      exact wp_val (.int .i64 id) (by simp [go_sem, f0]) ⟨_, rfl, Gr.refl _, rfl⟩
    · obtain rfl := Option.some.inj zo
      have f0 := zF.old (s := 3) (v := .pointer (some ⟨w.heap.size, 0, none⟩)) (by kernel_rfl) rfl
      refine Or.inl ⟨wanted_no rfl, ?_⟩
      exact wp_val (.agg (pnt x y f)) (by simp [go_sem, f0, Hc1]) ⟨_, rfl, Gr.refl _, rfl⟩
    · obtain rfl := Option.some.inj zo
      have l0 := on_of zD 0 (by kernel_rfl)
      have f0 := zF.at (s := 12) (i := 0) (by kernel_rfl) (by simp) l0
      have e0 : vals 0 = .int .i64 id := zR 0 l0
      rw [e0] at f0
      have l1 := on_of zD 1 (by kernel_rfl)
      have f1 := zF.at (s := 13) (i := 1) (by kernel_rfl) (by simp) l1
      have e1 : vals 1 = .agg (pnt x y f) := zR 1 l1
      rw [e1] at f1
      refine Or.inl ⟨wanted_no rfl, ?_⟩
      exact wp_retz (k := .c (.bool false)) (by simp [go_sem, f0, f1]) (show Calls Try.prog 16 #[.int .i64 id, .agg (pnt x y f)] v1 (Rt (.c (.bool false)) v1) from Rt.c (on13_no id h x y f _)) (fun u w2 hu hg2 => ⟨_, rfl, hg2, hu⟩)
    · obtain rfl := Option.some.inj zo
      have f0 := zF.old (s := 6) (v := .bool false) (by kernel_rfl) rfl
      refine Or.inl ⟨wanted_no rfl, ?_⟩
      exact wp_val (.bool false) (by simp [go_sem, f0]) ⟨_, rfl, Gr.refl _, rfl⟩
    · obtain rfl := Option.some.inj zo
      have l0 := on_of zD 3 (by kernel_rfl)
      have f0 := zF.at (s := 15) (i := 3) (by kernel_rfl) (by simp) l0
      have e0 : vals 3 = .bool false := zR 3 l0
      rw [e0] at f0
      refine Or.inl ⟨wanted_no rfl, ?_⟩
      exact wp_val (.bool false) (by simp [go_sem, f0]) ⟨_, rfl, Gr.refl _, rfl⟩
    · obtain rfl := Option.some.inj zo
      have lg := on_of zD 4 (by kernel_rfl)
      have fg := zF.at (s := 16) (i := 4) (by kernel_rfl) (by simp) lg
      rw [show vals 4 = .bool false from zR 4 lg] at fg
      exact Or.inr ⟨unwanted_at (j := 4) (s := 16) rfl rfl rfl fg (by decide), trivial⟩
    · obtain rfl := Option.some.inj zo
      have lg := on_of zD 4 (by kernel_rfl)
      have fg := zF.at (s := 16) (i := 4) (by kernel_rfl) (by simp) lg
      rw [show vals 4 = .bool false from zR 4 lg] at fg
      exact Or.inr ⟨unwanted_at (j := 4) (s := 16) rfl rfl rfl fg (by decide), trivial⟩
    · obtain rfl := Option.some.inj zo
      have lg := on_of zD 4 (by kernel_rfl)
      have fg := zF.at (s := 16) (i := 4) (by kernel_rfl) (by simp) lg
      rw [show vals 4 = .bool false from zR 4 lg] at fg
      exact Or.inr ⟨unwanted_at (j := 4) (s := 16) rfl rfl rfl fg (by decide), trivial⟩
    · obtain rfl := Option.some.inj zo
      have lg := on_of zD 4 (by kernel_rfl)
      have fg := zF.at (s := 16) (i := 4) (by kernel_rfl) (by simp) lg
      rw [show vals 4 = .bool false from zR 4 lg] at fg
      exact Or.inr ⟨unwanted_at (j := 4) (s := 16) rfl rfl rfl fg (by decide), trivial⟩
    · obtain rfl := Option.some.inj zo
      have l0 := on_of zD 4 (by kernel_rfl)
      have f0 := zF.at (s := 16) (i := 4) (by kernel_rfl) (by simp) l0
      have e0 : vals 4 = .bool false := zR 4 l0
      rw [e0] at f0
      have l1 := on_of zD 8 (by kernel_rfl)
      have f1 := zF.at (s := 20) (i := 8) (by kernel_rfl) (by simp) l1
      refine Or.inl ⟨wanted_no rfl, ?_⟩
      exact wp_val (.bool false) (by simp [go_sem, f0, f1]) ⟨_, rfl, Gr.refl _, rfl⟩
    · obtain rfl := Option.some.inj zo
      have l0 := on_of zD 2 (by kernel_rfl)
      have f0 := zF.at (s := 14) (i := 2) (by kernel_rfl) (by simp) l0
      have e0 : vals 2 = .bool false := zR 2 l0
      rw [e0] at f0
      have l1 := on_of zD 9 (by kernel_rfl)
      have f1 := zF.at (s := 21) (i := 9) (by kernel_rfl) (by simp) l1
      have e1 : vals 9 = .bool false := zR 9 l1
      rw [e1] at f1
      refine Or.inl ⟨wanted_no rfl, ?_⟩
      exact wp_val (.bool true) (by simp [go_sem, f0, f1]) ⟨_, rfl, Gr.refl _, rfl⟩
    · obtain rfl := Option.some.inj zo
      have l0 := on_of zD 10 (by kernel_rfl)
      have f0 := zF.at (s := 22) (i := 10) (by kernel_rfl) (by simp) l0
      have e0 : vals 10 = .bool true := zR 10 l0
      rw [e0] at f0
      refine Or.inl ⟨wanted_no rfl, ?_⟩
      exact wp_val (.bool true) (by simp [go_sem, f0]) ⟨_, rfl, Gr.refl _, rfl⟩
    · obtain rfl := Option.some.inj zo
      have lg := on_of zD 11 (by kernel_rfl)
      have fg := zF.at (s := 23) (i := 11) (by kernel_rfl) (by simp) lg
      rw [show vals 11 = .bool true from zR 11 lg] at fg
      refine Or.inl ⟨wanted_at (j := 11) (s := 23) rfl rfl rfl fg, ?_⟩
      exact wp_retz (k := .c (.bool true)) (by simp [go_sem]) (show Calls Try.prog 14 #[] v1 (Rt (.c (.bool true)) v1) from Rt.c (awake13_any _)) (fun u w2 hu hg2 => ⟨_, rfl, hg2, hu⟩)
    · obtain rfl := Option.some.inj zo
      have l0 := on_of zD 11 (by kernel_rfl)
      have f0 := zF.at (s := 23) (i := 11) (by kernel_rfl) (by simp) l0
      have e0 : vals 11 = .bool true := zR 11 l0
      rw [e0] at f0
      have l1 := on_of zD 12 (by kernel_rfl)
      have f1 := zF.at (s := 24) (i := 12) (by kernel_rfl) (by simp) l1
      have e1 : vals 12 = .bool true := zR 12 l1
      rw [e1] at f1
      refine Or.inl ⟨wanted_no rfl, ?_⟩
      exact wp_val (.bool true) (by simp [go_sem, f0, f1]) ⟨_, rfl, Gr.refl _, rfl⟩
    · obtain rfl := Option.some.inj zo
      have l0 := on_of zD 13 (by kernel_rfl)
      have f0 := zF.at (s := 25) (i := 13) (by kernel_rfl) (by simp) l0
      have e0 : vals 13 = .bool true := zR 13 l0
      rw [e0] at f0
      refine Or.inl ⟨wanted_no rfl, ?_⟩
      exact wp_val (.bool true) (by simp [go_sem, f0]) ⟨_, rfl, Gr.refl _, rfl⟩
  case hf =>
    intro vals v1 hg zR
    have e2_0 : vals 0 = .int .i64 id := zR 0 (by simp)
    have e2_1 : vals 1 = .agg (pnt x y f) := zR 1 (by simp)
    have e2_2 : vals 2 = .bool false := zR 2 (by simp)
    have e2_3 : vals 3 = .bool false := zR 3 (by simp)
    have e2_4 : vals 4 = .bool false := zR 4 (by simp)
    have e2_9 : vals 9 = .bool false := zR 9 (by simp)
    have e2_10 : vals 10 = .bool true := zR 10 (by simp)
    have e2_11 : vals 11 = .bool true := zR 11 (by simp)
    have e2_12 : vals 12 = .bool true := zR 12 (by simp)
    have e2_13 : vals 13 = .bool true := zR 13 (by simp)
    have e2_14 : vals 14 = .bool true := zR 14 (by simp)
    simp only [putFrom, Act.put, List.setIfInBounds_toArray, List.set_cons_zero, List.set_cons_succ, e2_0, e2_1, e2_2, e2_3, e2_4, e2_9, e2_10, e2_11, e2_12, e2_13, e2_14]
    clear zR e2_0 e2_1 e2_2 e2_3 e2_4 e2_9 e2_10 e2_11 e2_12 e2_13 e2_14
    replace G := G.trans hg
    replace c1 := c1.gr hg
    clear hg
    go_wp2_with fail
    go_ret
    exact ⟨rfl, G⟩
set_option maxRecDepth 100000 in
set_option maxHeartbeats 1600000 in
theorem lcons_yes (k : Nat) (h1 : 1 ≤ k) (h2 : k ≤ 15) (x y : Nat) (f : Bool) (hx : x < M) (hy : y < M) (w : World) : Calls Try.prog 4 #[.int .i64 (k : Int), .agg (pnt x y f)] w fun e w' => e = .returned (.bool true) ∧ Gr w w' := by
  have HG : Hid (∀ w, Calls Try.prog 10 #[.int .i64 (k : Int)] w (GetQ k w)) := fun w => getq_yes k h1 h2 w
  obtain ⟨r, hr⟩ : ∃ r, onB k x y f = r := ⟨_, rfl⟩
  go_enter Try.func4, Try.ntmps4
  go_upto_region 2 with (go_at_call 10; refine (HG.out _).mono ?_; rintro e W1 ⟨qc, rfl, HQ, G1⟩)
  obtain ⟨e5, he5⟩ : ∃ b, W1.heap.size = b := ⟨_, rfl⟩
  simp only [he5]
  refine gen_w (fun v => Gr w v ∧ Vr v (w.heap.size) (pnt x y f) ∧ Vr v e5 (crA (k : Int) (nN k) qc) ∧ ∀ j, Sl v (qc j).1 (nN k j)) ?_ ?_
  · subst he5
    exact ⟨(((Gr.refl w).alloc _).trans G1).alloc _, ((Vr.new w _ _).gr G1).gr ((Gr.refl _).alloc _), Vr.new _ _ _, fun j => (HQ j).gr ((Gr.refl _).alloc _)⟩
  clear HQ G1 he5
  rintro v0 ⟨G, c1, c5, HQ⟩
  refine wp_region_q (by kernel_rfl) (by kernel_rfl) [.c (.int .i64 (k : Int)), .c (.agg (pnt x y f)), .c (.bool r), .c (.bool true), .c (.bool true), .c (.agg (crA (k : Int) (nN k) qc)), .c (.agg (pnt x y f)), .pt (x) (y) f, .c (.bool r), .c (.bool r), .c (.bool true), .c (.bool true), .c (.bool true), .c (.bool true), .c (.bool true)] ?hs ?hf
  case hs =>
    intro listed vals a1 v1 io oo hg zR zF zo zD
    have Hc1 : blk v1 (w.heap.size) = pnt x y f := (hg.blk _ c1.p).trans c1.h
    have Hc5 : blk v1 (e5) = crA (k : Int) (nN k) qc := (hg.blk _ c5.p).trans c5.h
    have zi : io < 15 := by simpa using (Array.getElem?_eq_some_iff.1 zo).1
    obtain rfl | rfl | rfl | rfl | rfl | rfl | rfl | rfl | rfl | rfl | rfl | rfl | rfl | rfl | rfl : io = 0 ∨ io = 1 ∨ io = 2 ∨ io = 3 ∨ io = 4 ∨ io = 5 ∨ io = 6 ∨ io = 7 ∨ io = 8 ∨ io = 9 ∨ io = 10 ∨ io = 11 ∨ io = 12 ∨ io = 13 ∨ io = 14 := by omega
    · obtain rfl := Option.some.inj zo
      have f0 := zF.old (s := 0) (v := .int .i64 (k : Int)) (by kernel_rfl) rfl
      refine Or.inl ⟨wanted_no rfl, ?_⟩
      exact wp_val (.int .i64 (k : Int)) (by simp [go_sem, f0]) ⟨_, rfl, Gr.refl _, rfl⟩
    · obtain rfl := Option.some.inj zo
      have f0 := zF.old (s := 3) (v := .pointer (some ⟨w.heap.size, 0, none⟩)) (by kernel_rfl) rfl
      refine Or.inl ⟨wanted_no rfl, ?_⟩
      exact wp_val (.agg (pnt x y f)) (by simp [go_sem, f0, Hc1]) ⟨_, rfl, Gr.refl _, rfl⟩
    · obtain rfl := Option.some.inj zo
      have l0 := on_of zD 0 (by kernel_rfl)
      have f0 := zF.at (s := 12) (i := 0) (by kernel_rfl) (by simp) l0
      have e0 : vals 0 = .int .i64 (k : Int) := zR 0 l0
      rw [e0] at f0
      have l1 := on_of zD 1 (by kernel_rfl)
      have f1 := zF.at (s := 13) (i := 1) (by kernel_rfl) (by simp) l1
      have e1 : vals 1 = .agg (pnt x y f) := zR 1 l1
      rw [e1] at f1
      refine Or.inl ⟨wanted_no rfl, ?_⟩
      exact wp_retz (k := .c (.bool r)) (by simp [go_sem, f0, f1]) (show Calls Try.prog 16 #[.int .i64 (k : Int), .agg (pnt x y f)] v1 (Rt (.c (.bool r)) v1) from Rt.c (hr ▸ on13_yes k h1 h2 x y f hx hy _)) (fun u w2 hu hg2 => ⟨_, rfl, hg2, hu⟩)
    · obtain rfl := Option.some.inj zo
      have f0 := zF.old (s := 6) (v := .bool true) (by kernel_rfl) rfl
      refine Or.inl ⟨wanted_no rfl, ?_⟩
      exact wp_val (.bool true) (by simp [go_sem, f0]) ⟨_, rfl, Gr.refl _, rfl⟩
    · obtain rfl := Option.some.inj zo
      have l0 := on_of zD 3 (by kernel_rfl)
      have f0 := zF.at (s := 15) (i := 3) (by kernel_rfl) (by simp) l0
      have e0 : vals 3 = .bool true := zR 3 l0
      rw [e0] at f0
      refine Or.inl ⟨wanted_no rfl, ?_⟩
      exact wp_val (.bool true) (by simp [go_sem, f0]) ⟨_, rfl, Gr.refl _, rfl⟩
    · obtain rfl := Option.some.inj zo
      have lg := on_of zD 4 (by kernel_rfl)
      have fg := zF.at (s := 16) (i := 4) (by kernel_rfl) (by simp) lg
      rw [show vals 4 = .bool true from zR 4 lg] at fg
      have f0 := zF.old (s := 5) (v := .pointer (some ⟨e5, 0, none⟩)) (by kernel_rfl) rfl
      refine Or.inl ⟨wanted_at (j := 4) (s := 16) rfl rfl rfl fg, ?_⟩
      exact wp_val (.agg (crA (k : Int) (nN k) qc)) (by simp [go_sem, f0, Hc5]) ⟨_, rfl, Gr.refl _, rfl⟩
    · obtain rfl := Option.some.inj zo
      have lg := on_of zD 4 (by kernel_rfl)
      have fg := zF.at (s := 16) (i := 4) (by kernel_rfl) (by simp) lg
      rw [show vals 4 = .bool true from zR 4 lg] at fg
      have f0 := zF.old (s := 3) (v := .pointer (some ⟨w.heap.size, 0, none⟩)) (by kernel_rfl) rfl
      refine Or.inl ⟨wanted_at (j := 4) (s := 16) rfl rfl rfl fg, ?_⟩
      exact wp_val (.agg (pnt x y f)) (by simp [go_sem, f0, Hc1]) ⟨_, rfl, Gr.refl _, rfl⟩
    · obtain rfl := Option.some.inj zo
      have lg := on_of zD 4 (by kernel_rfl)
      have fg := zF.at (s := 16) (i := 4) (by kernel_rfl) (by simp) lg
      rw [show vals 4 = .bool true from zR 4 lg] at fg
      have l0 := on_of zD 6 (by kernel_rfl)
      have f0 := zF.at (s := 18) (i := 6) (by kernel_rfl) (by simp) l0
      have e0 : vals 6 = .agg (pnt x y f) := zR 6 l0
      rw [e0] at f0
      refine Or.inl ⟨wanted_at (j := 4) (s := 16) rfl rfl rfl fg, ?_⟩
      exact wp_retz (k := .pt (x) (y) f) (by simp [go_sem, f0]) (show Calls Try.prog 18 #[.agg (pnt x y f)] v1 (Rt (.pt (x) (y) f) v1) from rin_any x y f hx hy _) (fun u w2 hu hg2 => ⟨_, rfl, hg2, hu⟩)
    · obtain rfl := Option.some.inj zo
      have lg := on_of zD 4 (by kernel_rfl)
      have fg := zF.at (s := 16) (i := 4) (by kernel_rfl) (by simp) lg
      rw [show vals 4 = .bool true from zR 4 lg] at fg
      have l0 := on_of zD 5 (by kernel_rfl)
      have f0 := zF.at (s := 17) (i := 5) (by kernel_rfl) (by simp) l0
      have e0 : vals 5 = .agg (crA (k : Int) (nN k) qc) := zR 5 l0
      rw [e0] at f0
      have l1 := on_of zD 7 (by kernel_rfl)
      have f1 := zF.at (s := 19) (i := 7) (by kernel_rfl) (by simp) l1
      obtain ⟨p1, n1, q1, k1, e1, S1, T1⟩ := (show ∃ p n q k, vals 7 = .agg (ptA p (x) n q (y) k f) ∧ Sl v1 p (x) ∧ Sl v1 q (y) from zR 7 l1)
      rw [e1] at f1
      refine Or.inl ⟨wanted_at (j := 4) (s := 16) rfl rfl rfl fg, ?_⟩
      exact wp_retz (k := .c (.bool r)) (by simp [go_sem, f0, f1]) (show Calls Try.prog 17 #[.agg (crA (k : Int) (nN k) qc), .agg (ptA p1 (x) n1 q1 (y) k1 f)] v1 (Rt (.c (.bool r)) v1) from hr ▸ ron_any k h1 h2 x y f hx hy qc p1 q1 n1 k1 _ (fun k => (HQ k).gr hg) S1 T1) (fun u w2 hu hg2 => ⟨_, rfl, hg2, hu⟩)
    · obtain rfl := Option.some.inj zo
      have l0 := on_of zD 4 (by kernel_rfl)
      have f0 := zF.at (s := 16) (i := 4) (by kernel_rfl) (by simp) l0
      have e0 : vals 4 = .bool true := zR 4 l0
      rw [e0] at f0
      have l1 := on_of zD 8 (by kernel_rfl)
      have f1 := zF.at (s := 20) (i := 8) (by kernel_rfl) (by simp) l1
      have e1 : vals 8 = .bool r := zR 8 l1
      rw [e1] at f1
      refine Or.inl ⟨wanted_no rfl, ?_⟩
      exact wp_val (.bool r) (by simp [go_sem, f0, f1]) ⟨_, rfl, Gr.refl _, rfl⟩
    · obtain rfl := Option.some.inj zo
      have l0 := on_of zD 2 (by kernel_rfl)
      have f0 := zF.at (s := 14) (i := 2) (by kernel_rfl) (by simp) l0
      have e0 : vals 2 = .bool r := zR 2 l0
      rw [e0] at f0
      have l1 := on_of zD 9 (by kernel_rfl)
      have f1 := zF.at (s := 21) (i := 9) (by kernel_rfl) (by simp) l1
      have e1 : vals 9 = .bool r := zR 9 l1
      rw [e1] at f1
      refine Or.inl ⟨wanted_no rfl, ?_⟩
      exact wp_val (.bool true) (by simp [go_sem, f0, f1]) ⟨_, rfl, Gr.refl _, rfl⟩
    · obtain rfl := Option.some.inj zo
      have l0 := on_of zD 10 (by kernel_rfl)
      have f0 := zF.at (s := 22) (i := 10) (by kernel_rfl) (by simp) l0
      have e0 : vals 10 = .bool true := zR 10 l0
      rw [e0] at f0
      refine Or.inl ⟨wanted_no rfl, ?_⟩
      exact wp_val (.bool true) (by simp [go_sem, f0]) ⟨_, rfl, Gr.refl _, rfl⟩
    · obtain rfl := Option.some.inj zo
      have lg := on_of zD 11 (by kernel_rfl)
      have fg := zF.at (s := 23) (i := 11) (by kernel_rfl) (by simp) lg
      rw [show vals 11 = .bool true from zR 11 lg] at fg
      refine Or.inl ⟨wanted_at (j := 11) (s := 23) rfl rfl rfl fg, ?_⟩
      exact wp_retz (k := .c (.bool true)) (by simp [go_sem]) (show Calls Try.prog 14 #[] v1 (Rt (.c (.bool true)) v1) from Rt.c (awake13_any _)) (fun u w2 hu hg2 => ⟨_, rfl, hg2, hu⟩)
    · obtain rfl := Option.some.inj zo
      have l0 := on_of zD 11 (by kernel_rfl)
      have f0 := zF.at (s := 23) (i := 11) (by kernel_rfl) (by simp) l0
      have e0 : vals 11 = .bool true := zR 11 l0
      rw [e0] at f0
      have l1 := on_of zD 12 (by kernel_rfl)
      have f1 := zF.at (s := 24) (i := 12) (by kernel_rfl) (by simp) l1
      have e1 : vals 12 = .bool true := zR 12 l1
      rw [e1] at f1
      refine Or.inl ⟨wanted_no rfl, ?_⟩
      exact wp_val (.bool true) (by simp [go_sem, f0, f1]) ⟨_, rfl, Gr.refl _, rfl⟩
    · obtain rfl := Option.some.inj zo
      have l0 := on_of zD 13 (by kernel_rfl)
      have f0 := zF.at (s := 25) (i := 13) (by kernel_rfl) (by simp) l0
      have e0 : vals 13 = .bool true := zR 13 l0
      rw [e0] at f0
      refine Or.inl ⟨wanted_no rfl, ?_⟩
      exact wp_val (.bool true) (by simp [go_sem, f0]) ⟨_, rfl, Gr.refl _, rfl⟩
  case hf =>
    intro vals v1 hg zR
    have e2_0 : vals 0 = .int .i64 (k : Int) := zR 0 (by simp)
    have e2_1 : vals 1 = .agg (pnt x y f) := zR 1 (by simp)
    have e2_2 : vals 2 = .bool r := zR 2 (by simp)
    have e2_3 : vals 3 = .bool true := zR 3 (by simp)
    have e2_4 : vals 4 = .bool true := zR 4 (by simp)
    have e2_5 : vals 5 = .agg (crA (k : Int) (nN k) qc) := zR 5 (by simp)
    have e2_6 : vals 6 = .agg (pnt x y f) := zR 6 (by simp)
    obtain ⟨p2_7, n2_7, q2_7, k2_7, e2_7, S2_7, T2_7⟩ := (show ∃ p n q k, vals 7 = .agg (ptA p (x) n q (y) k f) ∧ Sl v1 p (x) ∧ Sl v1 q (y) from zR 7 (by simp))
    have e2_8 : vals 8 = .bool r := zR 8 (by simp)
    have e2_9 : vals 9 = .bool r := zR 9 (by simp)
    have e2_10 : vals 10 = .bool true := zR 10 (by simp)
    have e2_11 : vals 11 = .bool true := zR 11 (by simp)
    have e2_12 : vals 12 = .bool true := zR 12 (by simp)
    have e2_13 : vals 13 = .bool true := zR 13 (by simp)
    have e2_14 : vals 14 = .bool true := zR 14 (by simp)
    simp only [putFrom, Act.put, List.setIfInBounds_toArray, List.set_cons_zero, List.set_cons_succ, e2_0, e2_1, e2_2, e2_3, e2_4, e2_5, e2_6, e2_7, e2_8, e2_9, e2_10, e2_11, e2_12, e2_13, e2_14]
    clear zR e2_0 e2_1 e2_2 e2_3 e2_4 e2_5 e2_6 e2_7 e2_8 e2_9 e2_10 e2_11 e2_12 e2_13 e2_14
    replace G := G.trans hg
    replace c1 := c1.gr hg
    replace c5 := c5.gr hg
    replace HQ := fun k => (HQ k).gr hg
    clear hg
    go_wp2_with fail
    go_ret
    exact ⟨rfl, G⟩
theorem lcons_any (id : Int) (x y : Nat) (f : Bool) (hx : x < M) (hy : y < M) (w : World) : Calls Try.prog 4 #[.int .i64 id, .agg (pnt x y f)] w fun e w' => e = .returned (.bool true) ∧ Gr w w' := by
  by_cases h : id < 1 ∨ 15 < id
  · exact lcons_no id h x y f w
  · obtain ⟨k, rfl⟩ := Int.eq_ofNat_of_zero_le (show 0 ≤ id by omega)
    exact lcons_yes k (by omega) (by omega) x y f hx hy w

end Go.Proofs.Ytgmaalokfgdpaaa
