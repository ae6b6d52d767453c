import Derived.Test.YtgmaalokfgdpaaaXSRP4
import Derived.Test.YtgmaalokfgdpaaaXSEJ
namespace Go.Proofs.Ytgmaalokfgdpaaa
open Go.RowKit
attribute [local go_sem ↓] loadNat_is loadArr_is loadWide_is loadArrW_is storeNat_is storeWide_is
attribute [local go_sem] loadNat loadArr loadWide loadArrW storeNat storeWide idxArr fold9 fold18 nw_size nw_elem pre_self pre_1 pre_2 pre_3 pre_4 pre_5 pre_6 pre_7 pre_8 pre_9 pre_10 pre_11 pre_12 pre_13 pre_14 pre_15 pre_16 pre_17 pre_18 pre_19 pre_20 pre_21 pre_22 pre_23 pre_24 pre_25 pre_26 pre_27 pre_28 pre_29 pre_30 pre_31 pre_32 pre_33 pre_34 pre_35 pre_36 pre_37 pre_38 pre_39 pre_40 gro_size gro_drew gro_drewN drew_gro drewN_gro gro_gro blk_gro frz_gro blk_drew frz_drew blk_drewN frz_drewN blk_alloc_at frz_alloc_at blk_alloc frz_alloc cell_gro frozen_gro cell_alloc_pre frozen_alloc_pre setCell_drewN alloc_drewN setBlk_drew setBlk_drewN setBlk_alloc_at setBlk_alloc setBlk_gro setCell_gro setCell_alloc_pre size_setBlk size_setCell
attribute [local go_sem ↓] loadPt_is storePt_is zvPt_is buildPt_is loadC_is loadPn_is loadCu_is storePn_is zvPn_is buildPn_is storeCu_is zvCu_is buildCu_is Go.wp_at_zero Go.wp_at_succ
attribute [local go_sem] loadPt storePt zvPt buildPt3 buildPt2 buildPtI ptA_size crA_size loadC loadPn loadPX loadPY pnt_size pnt_X pnt_Y storePn zvPn buildPn2 buildPn3 storeCu zvCu buildCu9 cu_size loadCu
set_option maxRecDepth 100000 in
set_option maxHeartbeats 4000000 in
theorem rplus_dbl (id : Int) (P A B N X Y : Nat) (qc : Nat → Option Addr × Nat) (x y : Nat) (hd : dl P ≤ 400) (lx : x < P) (ly : y < P) (lA : A < P) (h0 : y ≠ 0) (h1P : 1 < P) (p1 q1 : Option Addr) (n1 m1 : Nat) (p2 q2 : Option Addr) (n2 m2 : Nat) (iv : Nat) (t1 : Nat) (ht1 : x * x % P = t1) (t2 : Nat) (ht2 : (t1 + t1) % P = t2) (t3 : Nat) (ht3 : (t1 + t2) % P = t3) (t4 : Nat) (ht4 : (t3 + A) % P = t4) (t5 : Nat) (ht5 : (y + y) % P = t5) (t6 : Nat) (ht6 : t4 * iv % P = t6) (t7 : Nat) (ht7 : t6 * t6 % P = t7) (t8 : Nat) (ht8 : subM t7 x P = t8) (t9 : Nat) (ht9 : subM t8 x P = t9) (t10 : Nat) (ht10 : subM x t9 P = t10) (t11 : Nat) (ht11 : t6 * t10 % P = t11) (t12 : Nat) (ht12 : subM t11 y P = t12) (liv : iv < P) (hiv : t5 * iv % P = 1) (w : World) (HQ : ∀ k, Sl w (qc k).1 (six P A B N X Y k)) (Sx1 : Sl w p1 x) (Sy1 : Sl w q1 y) (Sx2 : Sl w p2 x) (Sy2 : Sl w q2 y) :
    Calls Try.prog 43 #[.agg (crA id (six P A B N X Y) qc), .agg (ptA p1 (x) n1 q1 (y) m1 false), .agg (ptA p2 (x) n2 q2 (y) m2 false)] w (Rt (.pt t9 t12 false) w) := by
  have hP : 0 < P := by omega
  have zy : ((dl y : Int) == 0) = false := by rw [dl_nought, decide_eq_false h0]
  have lt1 : t1 < P := ht1 ▸ Nat.mod_lt _ hP
  have lt2 : t2 < P := ht2 ▸ Nat.mod_lt _ hP
  have lt3 : t3 < P := ht3 ▸ Nat.mod_lt _ hP
  have lt4 : t4 < P := ht4 ▸ Nat.mod_lt _ hP
  have lt5 : t5 < P := ht5 ▸ Nat.mod_lt _ hP
  have lt6 : t6 < P := ht6 ▸ Nat.mod_lt _ hP
  have lt7 : t7 < P := ht7 ▸ Nat.mod_lt _ hP
  have lt8 : t8 < P := ht8 ▸ subM_lt lt7 lx
  have lt9 : t9 < P := ht9 ▸ subM_lt lt8 lx
  have lt10 : t10 < P := ht10 ▸ subM_lt lx lt9
  have lt11 : t11 < P := ht11 ▸ Nat.mod_lt _ hP
  have lt12 : t12 < P := ht12 ▸ subM_lt lt11 ly
  go_enter Try.func43, Try.ntmps43
  go_upto_region 1 with fail
  refine gen_w (fun v => Gr w v ∧ Vr v (w.heap.size) (crA id (six P A B N X Y) qc) ∧ Vr v (w.heap.size + 1) (ptA p1 (x) n1 q1 (y) m1 false) ∧ Vr v (w.heap.size + 1 + 1) (ptA p2 (x) n2 q2 (y) m2 false) ∧ Vr v (w.heap.size + 1 + 1 + 1) (ptA none 0 0 none 0 0 false)) ⟨(by repeat (first | exact Gr.refl _ | apply Gr.drewN | apply Gr.drew | apply Gr.alloc | apply Gr.gro)), ⟨by simp [go_sem], by simp [go_sem], by simp [go_sem]⟩, ⟨by simp [go_sem], by simp [go_sem], by simp [go_sem]⟩, ⟨by simp [go_sem], by simp [go_sem], by simp [go_sem]⟩, ⟨by simp [go_sem], by simp [go_sem], by simp [go_sem]⟩⟩ ?_
  rintro v0 ⟨G, c1, c2, c3, c4⟩
  replace HQ := fun k => (HQ k).gr G
  replace Sx1 := Sx1.gr G
  replace Sy1 := Sy1.gr G
  replace Sx2 := Sx2.gr G
  replace Sy2 := Sy2.gr G
  refine wp_region_qS (by kernel_rfl) [.c (.pointer (some ⟨w.heap.size + 1, 2, none⟩)), .c (.bool false)] ?hs ?hf
  case hs =>
    intro listed vals a1 v1 io oo hg zR zF zo zD
    have Hc2 : blk v1 (w.heap.size + 1) = ptA p1 (x) n1 q1 (y) m1 false := (hg.blk _ c2.p).trans c2.h
    have Kc2_2 : v1.cell? ⟨w.heap.size + 1, 2, none⟩ = some (.bool false) := by rw [cell_blk, Hc2]; rfl
    have zi : io < 2 := by simpa using (Array.getElem?_eq_some_iff.1 zo).1
    obtain rfl | rfl : io = 0 ∨ io = 1 := by omega
    · obtain rfl := Option.some.inj zo
      have f0 := zF.old (s := 4) (v := .pointer (some ⟨w.heap.size + 1, 0, none⟩)) (by kernel_rfl) rfl
      refine Or.inl ⟨wanted_no rfl, ?_⟩
      exact wp_val (.pointer (some ⟨w.heap.size + 1, 2, none⟩)) (by simp [go_sem, f0]) ⟨_, rfl, Gr.refl _, rfl⟩
    · obtain rfl := Option.some.inj zo
      have l0 := on_of zD 0 (by kernel_rfl)
      have f0 := zF.at (s := 15) (i := 0) (by kernel_rfl) (by simp) l0
      have e0 : vals 0 = .pointer (some ⟨w.heap.size + 1, 2, none⟩) := zR 0 l0
      rw [e0] at f0
      refine Or.inl ⟨wanted_no rfl, ?_⟩
      exact wp_val (.bool false) (by simp [go_sem, f0, Kc2_2]) ⟨_, rfl, Gr.refl _, rfl⟩
  case hf =>
    intro vals v1 hg zR
    have e1_0 : vals 0 = .pointer (some ⟨w.heap.size + 1, 2, none⟩) := zR 0 (by simp)
    have e1_1 : vals 1 = .bool false := zR 1 (by simp)
    simp only [putFrom, Act.put, List.setIfInBounds_toArray, List.set_cons_zero, List.set_cons_succ, e1_0, e1_1]
    clear zR e1_0 e1_1
    replace G := G.trans hg
    replace c1 := c1.gr hg
    replace c2 := c2.gr hg
    replace c3 := c3.gr hg
    replace c4 := c4.gr hg
    replace HQ := fun k => (HQ k).gr hg
    replace Sx1 := Sx1.gr hg
    replace Sy1 := Sy1.gr hg
    replace Sx2 := Sx2.gr hg
    replace Sy2 := Sy2.gr hg
    clear hg
    go_upto_region 3 with fail
    refine wp_region_qS (by kernel_rfl) [.c (.pointer (some ⟨w.heap.size + 1 + 1, 2, none⟩)), .c (.bool false)] ?hs ?hf
    case hs =>
      intro listed vals a1 v2 io oo hg zR zF zo zD
      have Hc3 : blk v2 (w.heap.size + 1 + 1) = ptA p2 (x) n2 q2 (y) m2 false := (hg.blk _ c3.p).trans c3.h
      have Kc3_2 : v2.cell? ⟨w.heap.size + 1 + 1, 2, none⟩ = some (.bool false) := by rw [cell_blk, Hc3]; rfl
      have zi : io < 2 := by simpa using (Array.getElem?_eq_some_iff.1 zo).1
      obtain rfl | rfl : io = 0 ∨ io = 1 := by omega
      · obtain rfl := Option.some.inj zo
        have f0 := zF.old (s := 5) (v := .pointer (some ⟨w.heap.size + 1 + 1, 0, none⟩)) (by kernel_rfl) rfl
        refine Or.inl ⟨wanted_no rfl, ?_⟩
        exact wp_val (.pointer (some ⟨w.heap.size + 1 + 1, 2, none⟩)) (by simp [go_sem, f0]) ⟨_, rfl, Gr.refl _, rfl⟩
      · obtain rfl := Option.some.inj zo
        have l0 := on_of zD 0 (by kernel_rfl)
        have f0 := zF.at (s := 18) (i := 0) (by kernel_rfl) (by simp) l0
        have e0 : vals 0 = .pointer (some ⟨w.heap.size + 1 + 1, 2, none⟩) := zR 0 l0
        rw [e0] at f0
        refine Or.inl ⟨wanted_no rfl, ?_⟩
        exact wp_val (.bool false) (by simp [go_sem, f0, Kc3_2]) ⟨_, rfl, Gr.refl _, rfl⟩
    case hf =>
      intro vals v2 hg zR
      have e3_0 : vals 0 = .pointer (some ⟨w.heap.size + 1 + 1, 2, none⟩) := zR 0 (by simp)
      have e3_1 : vals 1 = .bool false := zR 1 (by simp)
      simp only [putFrom, Act.put, List.setIfInBounds_toArray, List.set_cons_zero, List.set_cons_succ, e3_0, e3_1]
      clear zR e3_0 e3_1
      replace G := G.trans hg
      replace c1 := c1.gr hg
      replace c2 := c2.gr hg
      replace c3 := c3.gr hg
      replace c4 := c4.gr hg
      replace HQ := fun k => (HQ k).gr hg
      replace Sx1 := Sx1.gr hg
      replace Sy1 := Sy1.gr hg
      replace Sx2 := Sx2.gr hg
      replace Sy2 := Sy2.gr hg
      clear hg
      go_upto_region 5 with fail
      refine wp_region_qS (by kernel_rfl) [.c (.slice none 0 0), .c (.slice none 0 0)] ?hs ?hf
      case hs =>
        intro listed vals a1 v3 io oo hg zR zF zo zD
        have zi : io < 2 := by simpa using (Array.getElem?_eq_some_iff.1 zo).1
        obtain rfl | rfl : io = 0 ∨ io = 1 := by omega
        · obtain rfl := Option.some.inj zo
          refine Or.inl ⟨wanted_no rfl, ?_⟩
          exact wp_val (.slice none 0 0) (by simp [go_sem]) ⟨_, rfl, Gr.refl _, rfl⟩
        · obtain rfl := Option.some.inj zo
          refine Or.inl ⟨wanted_no rfl, ?_⟩
          exact wp_val (.slice none 0 0) (by simp [go_sem]) ⟨_, rfl, Gr.refl _, rfl⟩
      case hf =>
        intro vals v3 hg zR
        have e5_0 : vals 0 = .slice none 0 0 := zR 0 (by simp)
        have e5_1 : vals 1 = .slice none 0 0 := zR 1 (by simp)
        simp only [putFrom, Act.put, List.setIfInBounds_toArray, List.set_cons_zero, List.set_cons_succ, e5_0, e5_1]
        clear zR e5_0 e5_1
        replace G := G.trans hg
        replace c1 := c1.gr hg
        replace c2 := c2.gr hg
        replace c3 := c3.gr hg
        replace c4 := c4.gr hg
        replace HQ := fun k => (HQ k).gr hg
        replace Sx1 := Sx1.gr hg
        replace Sy1 := Sy1.gr hg
        replace Sx2 := Sx2.gr hg
        replace Sy2 := Sy2.gr hg
        clear hg
        go_upto_region 6 with fail
        refine wp_region_qS (by kernel_rfl) [.c (.pointer (some ⟨w.heap.size + 1, 0, none⟩)), .c (.slice p1 (dl (x)) n1), .c (.pointer (some ⟨w.heap.size + 1 + 1, 0, none⟩)), .c (.slice p2 (dl (x)) n2), .c (.int .i64 0), .c (.bool true)] ?hs ?hf
        case hs =>
          intro listed vals a1 v4 io oo hg zR zF zo zD
          have Hc2 : blk v4 (w.heap.size + 1) = ptA p1 (x) n1 q1 (y) m1 false := (hg.blk _ c2.p).trans c2.h
          have Kc2_0 : v4.cell? ⟨w.heap.size + 1, 0, none⟩ = some (.slice p1 (dl (x)) n1) := by rw [cell_blk, Hc2]; rfl
          have Hc3 : blk v4 (w.heap.size + 1 + 1) = ptA p2 (x) n2 q2 (y) m2 false := (hg.blk _ c3.p).trans c3.h
          have Kc3_0 : v4.cell? ⟨w.heap.size + 1 + 1, 0, none⟩ = some (.slice p2 (dl (x)) n2) := by rw [cell_blk, Hc3]; rfl
          have zi : io < 6 := by simpa using (Array.getElem?_eq_some_iff.1 zo).1
          obtain rfl | rfl | rfl | rfl | rfl | rfl : io = 0 ∨ io = 1 ∨ io = 2 ∨ io = 3 ∨ io = 4 ∨ io = 5 := by omega
          · obtain rfl := Option.some.inj zo
            have f0 := zF.old (s := 4) (v := .pointer (some ⟨w.heap.size + 1, 0, none⟩)) (by kernel_rfl) rfl
            refine Or.inl ⟨wanted_no rfl, ?_⟩
            exact wp_val (.pointer (some ⟨w.heap.size + 1, 0, none⟩)) (by simp [go_sem, f0]) ⟨_, rfl, Gr.refl _, rfl⟩
          · obtain rfl := Option.some.inj zo
            have l0 := on_of zD 0 (by kernel_rfl)
            have f0 := zF.at (s := 21) (i := 0) (by kernel_rfl) (by simp) l0
            have e0 : vals 0 = .pointer (some ⟨w.heap.size + 1, 0, none⟩) := zR 0 l0
            rw [e0] at f0
            refine Or.inl ⟨wanted_no rfl, ?_⟩
            exact wp_val (.slice p1 (dl (x)) n1) (by simp [go_sem, f0, Kc2_0]) ⟨_, rfl, Gr.refl _, rfl⟩
          · obtain rfl := Option.some.inj zo
            have f0 := zF.old (s := 5) (v := .pointer (some ⟨w.heap.size + 1 + 1, 0, none⟩)) (by kernel_rfl) rfl
            refine Or.inl ⟨wanted_no rfl, ?_⟩
            exact wp_val (.pointer (some ⟨w.heap.size + 1 + 1, 0, none⟩)) (by simp [go_sem, f0]) ⟨_, rfl, Gr.refl _, rfl⟩
          · obtain rfl := Option.some.inj zo
            have l0 := on_of zD 2 (by kernel_rfl)
            have f0 := zF.at (s := 23) (i := 2) (by kernel_rfl) (by simp) l0
            have e0 : vals 2 = .pointer (some ⟨w.heap.size + 1 + 1, 0, none⟩) := zR 2 l0
            rw [e0] at f0
            refine Or.inl ⟨wanted_no rfl, ?_⟩
            exact wp_val (.slice p2 (dl (x)) n2) (by simp [go_sem, f0, Kc3_0]) ⟨_, rfl, Gr.refl _, rfl⟩
          · obtain rfl := Option.some.inj zo
            have l0 := on_of zD 1 (by kernel_rfl)
            have f0 := zF.at (s := 22) (i := 1) (by kernel_rfl) (by simp) l0
            have e0 : vals 1 = .slice p1 (dl (x)) n1 := zR 1 l0
            rw [e0] at f0
            have l1 := on_of zD 3 (by kernel_rfl)
            have f1 := zF.at (s := 24) (i := 3) (by kernel_rfl) (by simp) l1
            have e1 : vals 3 = .slice p2 (dl (x)) n2 := zR 3 l1
            rw [e1] at f1
            refine Or.inl ⟨wanted_no rfl, ?_⟩
            exact wp_retz (k := .c (.int .i64 0)) (by simp [go_sem, f0, f1]) (show Calls Try.prog 26 #[.slice p1 (dl (x)) n1, .slice p2 (dl (x)) n2] v4 (Rt (.c (.int .i64 0)) v4) from cz_any (Sx1.gr hg) (Sx2.gr hg) (dl_low _ P 400 (by omega) hd) (dl_low _ P 400 (by omega) hd) (by unfold cmpZ; simp)) (fun u w2 hu hg2 => ⟨_, rfl, hg2, hu⟩)
          · obtain rfl := Option.some.inj zo
            have l0 := on_of zD 4 (by kernel_rfl)
            have f0 := zF.at (s := 25) (i := 4) (by kernel_rfl) (by simp) l0
            have e0 : vals 4 = .int .i64 0 := zR 4 l0
            rw [e0] at f0
            refine Or.inl ⟨wanted_no rfl, ?_⟩
            exact wp_val (.bool true) (by simp [go_sem, f0]) ⟨_, rfl, Gr.refl _, rfl⟩
        case hf =>
          intro vals v4 hg zR
          have e6_0 : vals 0 = .pointer (some ⟨w.heap.size + 1, 0, none⟩) := zR 0 (by simp)
          have e6_1 : vals 1 = .slice p1 (dl (x)) n1 := zR 1 (by simp)
          have e6_2 : vals 2 = .pointer (some ⟨w.heap.size + 1 + 1, 0, none⟩) := zR 2 (by simp)
          have e6_3 : vals 3 = .slice p2 (dl (x)) n2 := zR 3 (by simp)
          have e6_4 : vals 4 = .int .i64 0 := zR 4 (by simp)
          have e6_5 : vals 5 = .bool true := zR 5 (by simp)
          simp only [putFrom, Act.put, List.setIfInBounds_toArray, List.set_cons_zero, List.set_cons_succ, e6_0, e6_1, e6_2, e6_3, e6_4, e6_5]
          clear zR e6_0 e6_1 e6_2 e6_3 e6_4 e6_5
          replace G := G.trans hg
          replace c1 := c1.gr hg
          replace c2 := c2.gr hg
          replace c3 := c3.gr hg
          replace c4 := c4.gr hg
          replace HQ := fun k => (HQ k).gr hg
          replace Sx1 := Sx1.gr hg
          replace Sy1 := Sy1.gr hg
          replace Sx2 := Sx2.gr hg
          replace Sy2 := Sy2.gr hg
          clear hg
          go_upto_region 7 with fail
          refine wp_region_qS (by kernel_rfl) [.c (.pointer (some ⟨w.heap.size + 1, 1, none⟩)), .c (.slice q1 (dl (y)) m1), .c (.pointer (some ⟨w.heap.size + 1 + 1, 1, none⟩)), .c (.slice q2 (dl (y)) m2), .c (.int .i64 0), .c (.bool false), .c (.bool false), .c (.pointer (some ⟨w.heap.size + 1, 1, none⟩)), .c (.slice q1 (dl (y)) m1), .c (.int .i64 (dl (y))), .c (.bool false), .c (.bool false)] ?hs ?hf
          case hs =>
            intro listed vals a1 v5 io oo hg zR zF zo zD
            have Hc2 : blk v5 (w.heap.size + 1) = ptA p1 (x) n1 q1 (y) m1 false := (hg.blk _ c2.p).trans c2.h
            have Kc2_1 : v5.cell? ⟨w.heap.size + 1, 1, none⟩ = some (.slice q1 (dl (y)) m1) := by rw [cell_blk, Hc2]; rfl
            have Hc3 : blk v5 (w.heap.size + 1 + 1) = ptA p2 (x) n2 q2 (y) m2 false := (hg.blk _ c3.p).trans c3.h
            have Kc3_1 : v5.cell? ⟨w.heap.size + 1 + 1, 1, none⟩ = some (.slice q2 (dl (y)) m2) := by rw [cell_blk, Hc3]; rfl
            have zi : io < 12 := by simpa using (Array.getElem?_eq_some_iff.1 zo).1
            obtain rfl | rfl | rfl | rfl | rfl | rfl | rfl | rfl | rfl | rfl | rfl | rfl : io = 0 ∨ io = 1 ∨ io = 2 ∨ io = 3 ∨ io = 4 ∨ io = 5 ∨ io = 6 ∨ io = 7 ∨ io = 8 ∨ io = 9 ∨ io = 10 ∨ io = 11 := by omega
            · obtain rfl := Option.some.inj zo
              have f0 := zF.old (s := 4) (v := .pointer (some ⟨w.heap.size + 1, 0, none⟩)) (by kernel_rfl) rfl
              refine Or.inl ⟨wanted_no rfl, ?_⟩
              exact wp_val (.pointer (some ⟨w.heap.size + 1, 1, none⟩)) (by simp [go_sem, f0]) ⟨_, rfl, Gr.refl _, rfl⟩
            · obtain rfl := Option.some.inj zo
              have l0 := on_of zD 0 (by kernel_rfl)
              have f0 := zF.at (s := 27) (i := 0) (by kernel_rfl) (by simp) l0
              have e0 : vals 0 = .pointer (some ⟨w.heap.size + 1, 1, none⟩) := zR 0 l0
              rw [e0] at f0
              refine Or.inl ⟨wanted_no rfl, ?_⟩
              exact wp_val (.slice q1 (dl (y)) m1) (by simp [go_sem, f0, Kc2_1]) ⟨_, rfl, Gr.refl _, rfl⟩
            · obtain rfl := Option.some.inj zo
              have f0 := zF.old (s := 5) (v := .pointer (some ⟨w.heap.size + 1 + 1, 0, none⟩)) (by kernel_rfl) rfl
              refine Or.inl ⟨wanted_no rfl, ?_⟩
              exact wp_val (.pointer (some ⟨w.heap.size + 1 + 1, 1, none⟩)) (by simp [go_sem, f0]) ⟨_, rfl, Gr.refl _, rfl⟩
            · obtain rfl := Option.some.inj zo
              have l0 := on_of zD 2 (by kernel_rfl)
              have f0 := zF.at (s := 29) (i := 2) (by kernel_rfl) (by simp) l0
              have e0 : vals 2 = .pointer (some ⟨w.heap.size + 1 + 1, 1, none⟩) := zR 2 l0
              rw [e0] at f0
              refine Or.inl ⟨wanted_no rfl, ?_⟩
              exact wp_val (.slice q2 (dl (y)) m2) (by simp [go_sem, f0, Kc3_1]) ⟨_, rfl, Gr.refl _, rfl⟩
            · obtain rfl := Option.some.inj zo
              have l0 := on_of zD 1 (by kernel_rfl)
              have f0 := zF.at (s := 28) (i := 1) (by kernel_rfl) (by simp) l0
              have e0 : vals 1 = .slice q1 (dl (y)) m1 := zR 1 l0
              rw [e0] at f0
              have l1 := on_of zD 3 (by kernel_rfl)
              have f1 := zF.at (s := 30) (i := 3) (by kernel_rfl) (by simp) l1
              have e1 : vals 3 = .slice q2 (dl (y)) m2 := zR 3 l1
              rw [e1] at f1
              refine Or.inl ⟨wanted_no rfl, ?_⟩
              exact wp_retz (k := .c (.int .i64 0)) (by simp [go_sem, f0, f1]) (show Calls Try.prog 26 #[.slice q1 (dl (y)) m1, .slice q2 (dl (y)) m2] v5 (Rt (.c (.int .i64 0)) v5) from cz_any (Sy1.gr hg) (Sy2.gr hg) (dl_low _ P 400 (by omega) hd) (dl_low _ P 400 (by omega) hd) (by unfold cmpZ; simp)) (fun u w2 hu hg2 => ⟨_, rfl, hg2, hu⟩)
            · obtain rfl := Option.some.inj zo
              have l0 := on_of zD 4 (by kernel_rfl)
              have f0 := zF.at (s := 31) (i := 4) (by kernel_rfl) (by simp) l0
              have e0 : vals 4 = .int .i64 0 := zR 4 l0
              rw [e0] at f0
              refine Or.inl ⟨wanted_no rfl, ?_⟩
              exact wp_val (.bool false) (by simp [go_sem, f0]) ⟨_, rfl, Gr.refl _, rfl⟩
            · obtain rfl := Option.some.inj zo
              have l0 := on_of zD 5 (by kernel_rfl)
              have f0 := zF.at (s := 32) (i := 5) (by kernel_rfl) (by simp) l0
              have e0 : vals 5 = .bool false := zR 5 l0
              rw [e0] at f0
              refine Or.inl ⟨wanted_no rfl, ?_⟩
              exact wp_val (.bool false) (by simp [go_sem, f0]) ⟨_, rfl, Gr.refl _, rfl⟩
            · obtain rfl := Option.some.inj zo
              have lg := on_of zD 6 (by kernel_rfl)
              have fg := zF.at (s := 33) (i := 6) (by kernel_rfl) (by simp) lg
              rw [show vals 6 = .bool false from zR 6 lg] at fg
              have f0 := zF.old (s := 4) (v := .pointer (some ⟨w.heap.size + 1, 0, none⟩)) (by kernel_rfl) rfl
              refine Or.inl ⟨wanted_at (j := 6) (s := 33) rfl rfl rfl fg, ?_⟩
              exact wp_val (.pointer (some ⟨w.heap.size + 1, 1, none⟩)) (by simp [go_sem, f0]) ⟨_, rfl, Gr.refl _, rfl⟩
            · obtain rfl := Option.some.inj zo
              have lg := on_of zD 6 (by kernel_rfl)
              have fg := zF.at (s := 33) (i := 6) (by kernel_rfl) (by simp) lg
              rw [show vals 6 = .bool false from zR 6 lg] at fg
              have l0 := on_of zD 7 (by kernel_rfl)
              have f0 := zF.at (s := 34) (i := 7) (by kernel_rfl) (by simp) l0
              have e0 : vals 7 = .pointer (some ⟨w.heap.size + 1, 1, none⟩) := zR 7 l0
              rw [e0] at f0
              refine Or.inl ⟨wanted_at (j := 6) (s := 33) rfl rfl rfl fg, ?_⟩
              exact wp_val (.slice q1 (dl (y)) m1) (by simp [go_sem, f0, Kc2_1]) ⟨_, rfl, Gr.refl _, rfl⟩
            · obtain rfl := Option.some.inj zo
              have lg := on_of zD 6 (by kernel_rfl)
              have fg := zF.at (s := 33) (i := 6) (by kernel_rfl) (by simp) lg
              rw [show vals 6 = .bool false from zR 6 lg] at fg
              have l0 := on_of zD 8 (by kernel_rfl)
              have f0 := zF.at (s := 35) (i := 8) (by kernel_rfl) (by simp) l0
              have e0 : vals 8 = .slice q1 (dl (y)) m1 := zR 8 l0
              rw [e0] at f0
              refine Or.inl ⟨wanted_at (j := 6) (s := 33) rfl rfl rfl fg, ?_⟩
              exact wp_val (.int .i64 (dl (y))) (by simp [go_sem, f0]) ⟨_, rfl, Gr.refl _, rfl⟩
            · obtain rfl := Option.some.inj zo
              have lg := on_of zD 6 (by kernel_rfl)
              have fg := zF.at (s := 33) (i := 6) (by kernel_rfl) (by simp) lg
              rw [show vals 6 = .bool false from zR 6 lg] at fg
              have l0 := on_of zD 9 (by kernel_rfl)
              have f0 := zF.at (s := 36) (i := 9) (by kernel_rfl) (by simp) l0
              have e0 : vals 9 = .int .i64 (dl (y)) := zR 9 l0
              rw [e0] at f0
              refine Or.inl ⟨wanted_at (j := 6) (s := 33) rfl rfl rfl fg, ?_⟩
              exact wp_val (.bool false) (by simp [go_sem, f0, zy]) ⟨_, rfl, Gr.refl _, rfl⟩
            · obtain rfl := Option.some.inj zo
              have l0 := on_of zD 6 (by kernel_rfl)
              have f0 := zF.at (s := 33) (i := 6) (by kernel_rfl) (by simp) l0
              have e0 : vals 6 = .bool false := zR 6 l0
              rw [e0] at f0
              have l1 := on_of zD 10 (by kernel_rfl)
              have f1 := zF.at (s := 37) (i := 10) (by kernel_rfl) (by simp) l1
              have e1 : vals 10 = .bool false := zR 10 l1
              rw [e1] at f1
              refine Or.inl ⟨wanted_no rfl, ?_⟩
              exact wp_val (.bool false) (by simp [go_sem, f0, f1]) ⟨_, rfl, Gr.refl _, rfl⟩
          case hf =>
            intro vals v5 hg zR
            have e7_0 : vals 0 = .pointer (some ⟨w.heap.size + 1, 1, none⟩) := zR 0 (by simp)
            have e7_1 : vals 1 = .slice q1 (dl (y)) m1 := zR 1 (by simp)
            have e7_2 : vals 2 = .pointer (some ⟨w.heap.size + 1 + 1, 1, none⟩) := zR 2 (by simp)
            have e7_3 : vals 3 = .slice q2 (dl (y)) m2 := zR 3 (by simp)
            have e7_4 : vals 4 = .int .i64 0 := zR 4 (by simp)
            have e7_5 : vals 5 = .bool false := zR 5 (by simp)
            have e7_6 : vals 6 = .bool false := zR 6 (by simp)
            have e7_7 : vals 7 = .pointer (some ⟨w.heap.size + 1, 1, none⟩) := zR 7 (by simp)
            have e7_8 : vals 8 = .slice q1 (dl (y)) m1 := zR 8 (by simp)
            have e7_9 : vals 9 = .int .i64 (dl (y)) := zR 9 (by simp)
            have e7_10 : vals 10 = .bool false := zR 10 (by simp)
            have e7_11 : vals 11 = .bool false := zR 11 (by simp)
            simp only [putFrom, Act.put, List.setIfInBounds_toArray, List.set_cons_zero, List.set_cons_succ, e7_0, e7_1, e7_2, e7_3, e7_4, e7_5, e7_6, e7_7, e7_8, e7_9, e7_10, e7_11]
            clear zR e7_0 e7_1 e7_2 e7_3 e7_4 e7_5 e7_6 e7_7 e7_8 e7_9 e7_10 e7_11
            replace G := G.trans hg
            replace c1 := c1.gr hg
            replace c2 := c2.gr hg
            replace c3 := c3.gr hg
            replace c4 := c4.gr hg
            replace HQ := fun k => (HQ k).gr hg
            replace Sx1 := Sx1.gr hg
            replace Sy1 := Sy1.gr hg
            replace Sx2 := Sx2.gr hg
            replace Sy2 := Sy2.gr hg
            clear hg
            go_upto_region 9 with fail
            refine wp_region_qS (by kernel_rfl) [.c (.pointer (some ⟨w.heap.size + 1, 0, none⟩)), .c (.slice p1 (dl (x)) n1), .c (.pointer (some ⟨w.heap.size + 1, 0, none⟩)), .c (.slice p1 (dl (x)) n1), .c (.pointer (some ⟨w.heap.size, 1, none⟩)), .c (.slice (qc 0).1 (dl (P)) (qc 0).2), .n (t1), .n (t1)] ?hs ?hf
            case hs =>
              intro listed vals a1 v6 io oo hg zR zF zo zD
              have Hc1 : blk v6 (w.heap.size) = crA id (six P A B N X Y) qc := (hg.blk _ c1.p).trans c1.h
              have Kc1_1 : v6.cell? ⟨w.heap.size, 1, none⟩ = some (.slice (qc 0).1 (dl (P)) (qc 0).2) := by rw [cell_blk, Hc1]; rfl
              have Hc2 : blk v6 (w.heap.size + 1) = ptA p1 (x) n1 q1 (y) m1 false := (hg.blk _ c2.p).trans c2.h
              have Kc2_0 : v6.cell? ⟨w.heap.size + 1, 0, none⟩ = some (.slice p1 (dl (x)) n1) := by rw [cell_blk, Hc2]; rfl
              have zi : io < 8 := by simpa using (Array.getElem?_eq_some_iff.1 zo).1
              obtain rfl | rfl | rfl | rfl | rfl | rfl | rfl | rfl : io = 0 ∨ io = 1 ∨ io = 2 ∨ io = 3 ∨ io = 4 ∨ io = 5 ∨ io = 6 ∨ io = 7 := by omega
              · obtain rfl := Option.some.inj zo
                have f0 := zF.old (s := 4) (v := .pointer (some ⟨w.heap.size + 1, 0, none⟩)) (by kernel_rfl) rfl
                refine Or.inl ⟨wanted_no rfl, ?_⟩
                exact wp_val (.pointer (some ⟨w.heap.size + 1, 0, none⟩)) (by simp [go_sem, f0]) ⟨_, rfl, Gr.refl _, rfl⟩
              · obtain rfl := Option.some.inj zo
                have l0 := on_of zD 0 (by kernel_rfl)
                have f0 := zF.at (s := 40) (i := 0) (by kernel_rfl) (by simp) l0
                have e0 : vals 0 = .pointer (some ⟨w.heap.size + 1, 0, none⟩) := zR 0 l0
                rw [e0] at f0
                refine Or.inl ⟨wanted_no rfl, ?_⟩
                exact wp_val (.slice p1 (dl (x)) n1) (by simp [go_sem, f0, Kc2_0]) ⟨_, rfl, Gr.refl _, rfl⟩
              · obtain rfl := Option.some.inj zo
                have f0 := zF.old (s := 4) (v := .pointer (some ⟨w.heap.size + 1, 0, none⟩)) (by kernel_rfl) rfl
                refine Or.inl ⟨wanted_no rfl, ?_⟩
                exact wp_val (.pointer (some ⟨w.heap.size + 1, 0, none⟩)) (by simp [go_sem, f0]) ⟨_, rfl, Gr.refl _, rfl⟩
              · obtain rfl := Option.some.inj zo
                have l0 := on_of zD 2 (by kernel_rfl)
                have f0 := zF.at (s := 42) (i := 2) (by kernel_rfl) (by simp) l0
                have e0 : vals 2 = .pointer (some ⟨w.heap.size + 1, 0, none⟩) := zR 2 l0
                rw [e0] at f0
                refine Or.inl ⟨wanted_no rfl, ?_⟩
                exact wp_val (.slice p1 (dl (x)) n1) (by simp [go_sem, f0, Kc2_0]) ⟨_, rfl, Gr.refl _, rfl⟩
              · obtain rfl := Option.some.inj zo
                have f0 := zF.old (s := 3) (v := .pointer (some ⟨w.heap.size, 0, none⟩)) (by kernel_rfl) rfl
                refine Or.inl ⟨wanted_no rfl, ?_⟩
                exact wp_val (.pointer (some ⟨w.heap.size, 1, none⟩)) (by simp [go_sem, f0]) ⟨_, rfl, Gr.refl _, rfl⟩
              · obtain rfl := Option.some.inj zo
                have l0 := on_of zD 4 (by kernel_rfl)
                have f0 := zF.at (s := 44) (i := 4) (by kernel_rfl) (by simp) l0
                have e0 : vals 4 = .pointer (some ⟨w.heap.size, 1, none⟩) := zR 4 l0
                rw [e0] at f0
                refine Or.inl ⟨wanted_no rfl, ?_⟩
                exact wp_val (.slice (qc 0).1 (dl (P)) (qc 0).2) (by simp [go_sem, f0, Kc1_1]) ⟨_, rfl, Gr.refl _, rfl⟩
              · obtain rfl := Option.some.inj zo
                have l0 := on_of zD 1 (by kernel_rfl)
                have f0 := zF.at (s := 41) (i := 1) (by kernel_rfl) (by simp) l0
                have e0 : vals 1 = .slice p1 (dl (x)) n1 := zR 1 l0
                rw [e0] at f0
                have l1 := on_of zD 3 (by kernel_rfl)
                have f1 := zF.at (s := 43) (i := 3) (by kernel_rfl) (by simp) l1
                have e1 : vals 3 = .slice p1 (dl (x)) n1 := zR 3 l1
                rw [e1] at f1
                have l2 := on_of zD 5 (by kernel_rfl)
                have f2 := zF.at (s := 45) (i := 5) (by kernel_rfl) (by simp) l2
                have e2 : vals 5 = .slice (qc 0).1 (dl (P)) (qc 0).2 := zR 5 l2
                rw [e2] at f2
                refine Or.inl ⟨wanted_no rfl, ?_⟩
                exact wp_retz (k := .n (t1)) (by simp [go_sem, f0, f1, f2]) (show Calls Try.prog 27 #[.slice p1 (dl (x)) n1, .slice p1 (dl (x)) n1, .slice (qc 0).1 (dl (P)) (qc 0).2] v6 (Rt (.n (t1)) v6) from mm_any (Sx1.gr hg) (Sx1.gr hg) ((HQ 0).gr hg) lx lx hd ht1) (fun u w2 hu hg2 => ⟨_, rfl, hg2, hu⟩)
              · obtain rfl := Option.some.inj zo
                have l0 := on_of zD 6 (by kernel_rfl)
                have f0 := zF.at (s := 46) (i := 6) (by kernel_rfl) (by simp) l0
                obtain ⟨p0, n0, e0, S0⟩ := (show ∃ p n, vals 6 = .slice p (dl (t1)) n ∧ Sl v6 p (t1) from zR 6 l0)
                rw [e0] at f0
                refine Or.inl ⟨wanted_no rfl, ?_⟩
                exact wp_val (.slice p0 (dl (t1)) n0) (by simp [go_sem, f0]) ⟨_, rfl, Gr.refl _, ⟨_, _, rfl, S0⟩⟩
            case hf =>
              intro vals v6 hg zR
              have e9_0 : vals 0 = .pointer (some ⟨w.heap.size + 1, 0, none⟩) := zR 0 (by simp)
              have e9_1 : vals 1 = .slice p1 (dl (x)) n1 := zR 1 (by simp)
              have e9_2 : vals 2 = .pointer (some ⟨w.heap.size + 1, 0, none⟩) := zR 2 (by simp)
              have e9_3 : vals 3 = .slice p1 (dl (x)) n1 := zR 3 (by simp)
              have e9_4 : vals 4 = .pointer (some ⟨w.heap.size, 1, none⟩) := zR 4 (by simp)
              have e9_5 : vals 5 = .slice (qc 0).1 (dl (P)) (qc 0).2 := zR 5 (by simp)
              obtain ⟨p9_6, n9_6, e9_6, S9_6⟩ := (show ∃ p n, vals 6 = .slice p (dl (t1)) n ∧ Sl v6 p (t1) from zR 6 (by simp))
              obtain ⟨p9_7, n9_7, e9_7, S9_7⟩ := (show ∃ p n, vals 7 = .slice p (dl (t1)) n ∧ Sl v6 p (t1) from zR 7 (by simp))
              simp only [putFrom, Act.put, List.setIfInBounds_toArray, List.set_cons_zero, List.set_cons_succ, e9_0, e9_1, e9_2, e9_3, e9_4, e9_5, e9_6, e9_7]
              clear zR e9_0 e9_1 e9_2 e9_3 e9_4 e9_5 e9_6 e9_7
              replace G := G.trans hg
              replace c1 := c1.gr hg
              replace c2 := c2.gr hg
              replace c3 := c3.gr hg
              replace c4 := c4.gr hg
              replace HQ := fun k => (HQ k).gr hg
              replace Sx1 := Sx1.gr hg
              replace Sy1 := Sy1.gr hg
              replace Sx2 := Sx2.gr hg
              replace Sy2 := Sy2.gr hg
              clear hg
              go_upto_region 10 with fail
              refine wp_region_q (by kernel_rfl) (by kernel_rfl) [.c (.slice p9_7 (dl (t1)) n9_7), .c (.slice p9_7 (dl (t1)) n9_7), .c (.slice p9_7 (dl (t1)) n9_7), .c (.pointer (some ⟨w.heap.size, 1, none⟩)), .c (.slice (qc 0).1 (dl (P)) (qc 0).2), .n (t2), .c (.pointer (some ⟨w.heap.size, 1, none⟩)), .c (.slice (qc 0).1 (dl (P)) (qc 0).2), .n (t3), .c (.pointer (some ⟨w.heap.size, 2, none⟩)), .c (.slice (qc 1).1 (dl (A)) (qc 1).2), .c (.pointer (some ⟨w.heap.size, 1, none⟩)), .c (.slice (qc 0).1 (dl (P)) (qc 0).2), .n (t4), .n (t4)] ?hs ?hf
              case hs =>
                intro listed vals a1 v7 io oo hg zR zF zo zD
                have Hc1 : blk v7 (w.heap.size) = crA id (six P A B N X Y) qc := (hg.blk _ c1.p).trans c1.h
                have Kc1_1 : v7.cell? ⟨w.heap.size, 1, none⟩ = some (.slice (qc 0).1 (dl (P)) (qc 0).2) := by rw [cell_blk, Hc1]; rfl
                have Kc1_2 : v7.cell? ⟨w.heap.size, 2, none⟩ = some (.slice (qc 1).1 (dl (A)) (qc 1).2) := by rw [cell_blk, Hc1]; rfl
                have zi : io < 15 := by simpa using (Array.getElem?_eq_some_iff.1 zo).1
                obtain rfl | rfl | rfl | rfl | rfl | rfl | rfl | rfl | rfl | rfl | rfl | rfl | rfl | rfl | rfl : io = 0 ∨ io = 1 ∨ io = 2 ∨ io = 3 ∨ io = 4 ∨ io = 5 ∨ io = 6 ∨ io = 7 ∨ io = 8 ∨ io = 9 ∨ io = 10 ∨ io = 11 ∨ io = 12 ∨ io = 13 ∨ io = 14 := by omega
                · obtain rfl := Option.some.inj zo
                  have f0 := zF.old (s := 9) (v := .slice p9_7 (dl (t1)) n9_7) (by kernel_rfl) rfl
                  refine Or.inl ⟨wanted_no rfl, ?_⟩
                  exact wp_val (.slice p9_7 (dl (t1)) n9_7) (by simp [go_sem, f0]) ⟨_, rfl, Gr.refl _, rfl⟩
                · obtain rfl := Option.some.inj zo
                  have f0 := zF.old (s := 9) (v := .slice p9_7 (dl (t1)) n9_7) (by kernel_rfl) rfl
                  refine Or.inl ⟨wanted_no rfl, ?_⟩
                  exact wp_val (.slice p9_7 (dl (t1)) n9_7) (by simp [go_sem, f0]) ⟨_, rfl, Gr.refl _, rfl⟩
                · obtain rfl := Option.some.inj zo
                  have f0 := zF.old (s := 9) (v := .slice p9_7 (dl (t1)) n9_7) (by kernel_rfl) rfl
                  refine Or.inl ⟨wanted_no rfl, ?_⟩
                  exact wp_val (.slice p9_7 (dl (t1)) n9_7) (by simp [go_sem, f0]) ⟨_, rfl, Gr.refl _, rfl⟩
                · obtain rfl := Option.some.inj zo
                  have f0 := zF.old (s := 3) (v := .pointer (some ⟨w.heap.size, 0, none⟩)) (by kernel_rfl) rfl
                  refine Or.inl ⟨wanted_no rfl, ?_⟩
                  exact wp_val (.pointer (some ⟨w.heap.size, 1, none⟩)) (by simp [go_sem, f0]) ⟨_, rfl, Gr.refl _, rfl⟩
                · obtain rfl := Option.some.inj zo
                  have l0 := on_of zD 3 (by kernel_rfl)
                  have f0 := zF.at (s := 50) (i := 3) (by kernel_rfl) (by simp) l0
                  have e0 : vals 3 = .pointer (some ⟨w.heap.size, 1, none⟩) := zR 3 l0
                  rw [e0] at f0
                  refine Or.inl ⟨wanted_no rfl, ?_⟩
                  exact wp_val (.slice (qc 0).1 (dl (P)) (qc 0).2) (by simp [go_sem, f0, Kc1_1]) ⟨_, rfl, Gr.refl _, rfl⟩
                · obtain rfl := Option.some.inj zo
                  have l0 := on_of zD 1 (by kernel_rfl)
                  have f0 := zF.at (s := 48) (i := 1) (by kernel_rfl) (by simp) l0
                  have e0 : vals 1 = .slice p9_7 (dl (t1)) n9_7 := zR 1 l0
                  rw [e0] at f0
                  have l1 := on_of zD 2 (by kernel_rfl)
                  have f1 := zF.at (s := 49) (i := 2) (by kernel_rfl) (by simp) l1
                  have e1 : vals 2 = .slice p9_7 (dl (t1)) n9_7 := zR 2 l1
                  rw [e1] at f1
                  have l2 := on_of zD 4 (by kernel_rfl)
                  have f2 := zF.at (s := 51) (i := 4) (by kernel_rfl) (by simp) l2
                  have e2 : vals 4 = .slice (qc 0).1 (dl (P)) (qc 0).2 := zR 4 l2
                  rw [e2] at f2
                  refine Or.inl ⟨wanted_no rfl, ?_⟩
                  exact wp_retz (k := .n (t2)) (by simp [go_sem, f0, f1, f2]) (show Calls Try.prog 28 #[.slice p9_7 (dl (t1)) n9_7, .slice p9_7 (dl (t1)) n9_7, .slice (qc 0).1 (dl (P)) (qc 0).2] v7 (Rt (.n (t2)) v7) from am_any (S9_7.gr hg) (S9_7.gr hg) ((HQ 0).gr hg) lt1 lt1 hd ht2) (fun u w2 hu hg2 => ⟨_, rfl, hg2, hu⟩)
                · obtain rfl := Option.some.inj zo
                  have f0 := zF.old (s := 3) (v := .pointer (some ⟨w.heap.size, 0, none⟩)) (by kernel_rfl) rfl
                  refine Or.inl ⟨wanted_no rfl, ?_⟩
                  exact wp_val (.pointer (some ⟨w.heap.size, 1, none⟩)) (by simp [go_sem, f0]) ⟨_, rfl, Gr.refl _, rfl⟩
                · obtain rfl := Option.some.inj zo
                  have l0 := on_of zD 6 (by kernel_rfl)
                  have f0 := zF.at (s := 53) (i := 6) (by kernel_rfl) (by simp) l0
                  have e0 : vals 6 = .pointer (some ⟨w.heap.size, 1, none⟩) := zR 6 l0
                  rw [e0] at f0
                  refine Or.inl ⟨wanted_no rfl, ?_⟩
                  exact wp_val (.slice (qc 0).1 (dl (P)) (qc 0).2) (by simp [go_sem, f0, Kc1_1]) ⟨_, rfl, Gr.refl _, rfl⟩
                · obtain rfl := Option.some.inj zo
                  have l0 := on_of zD 0 (by kernel_rfl)
                  have f0 := zF.at (s := 47) (i := 0) (by kernel_rfl) (by simp) l0
                  have e0 : vals 0 = .slice p9_7 (dl (t1)) n9_7 := zR 0 l0
                  rw [e0] at f0
                  have l1 := on_of zD 5 (by kernel_rfl)
                  have f1 := zF.at (s := 52) (i := 5) (by kernel_rfl) (by simp) l1
                  obtain ⟨p1, n1, e1, S1⟩ := (show ∃ p n, vals 5 = .slice p (dl (t2)) n ∧ Sl v7 p (t2) from zR 5 l1)
                  rw [e1] at f1
                  have l2 := on_of zD 7 (by kernel_rfl)
                  have f2 := zF.at (s := 54) (i := 7) (by kernel_rfl) (by simp) l2
                  have e2 : vals 7 = .slice (qc 0).1 (dl (P)) (qc 0).2 := zR 7 l2
                  rw [e2] at f2
                  refine Or.inl ⟨wanted_no rfl, ?_⟩
                  exact wp_retz (k := .n (t3)) (by simp [go_sem, f0, f1, f2]) (show Calls Try.prog 28 #[.slice p9_7 (dl (t1)) n9_7, .slice p1 (dl (t2)) n1, .slice (qc 0).1 (dl (P)) (qc 0).2] v7 (Rt (.n (t3)) v7) from am_any (S9_7.gr hg) S1 ((HQ 0).gr hg) lt1 lt2 hd ht3) (fun u w2 hu hg2 => ⟨_, rfl, hg2, hu⟩)
                · obtain rfl := Option.some.inj zo
                  have f0 := zF.old (s := 3) (v := .pointer (some ⟨w.heap.size, 0, none⟩)) (by kernel_rfl) rfl
                  refine Or.inl ⟨wanted_no rfl, ?_⟩
                  exact wp_val (.pointer (some ⟨w.heap.size, 2, none⟩)) (by simp [go_sem, f0]) ⟨_, rfl, Gr.refl _, rfl⟩
                · obtain rfl := Option.some.inj zo
                  have l0 := on_of zD 9 (by kernel_rfl)
                  have f0 := zF.at (s := 56) (i := 9) (by kernel_rfl) (by simp) l0
                  have e0 : vals 9 = .pointer (some ⟨w.heap.size, 2, none⟩) := zR 9 l0
                  rw [e0] at f0
                  refine Or.inl ⟨wanted_no rfl, ?_⟩
                  exact wp_val (.slice (qc 1).1 (dl (A)) (qc 1).2) (by simp [go_sem, f0, Kc1_2]) ⟨_, rfl, Gr.refl _, rfl⟩
                · obtain rfl := Option.some.inj zo
                  have f0 := zF.old (s := 3) (v := .pointer (some ⟨w.heap.size, 0, none⟩)) (by kernel_rfl) rfl
                  refine Or.inl ⟨wanted_no rfl, ?_⟩
                  exact wp_val (.pointer (some ⟨w.heap.size, 1, none⟩)) (by simp [go_sem, f0]) ⟨_, rfl, Gr.refl _, rfl⟩
                · obtain rfl := Option.some.inj zo
                  have l0 := on_of zD 11 (by kernel_rfl)
                  have f0 := zF.at (s := 58) (i := 11) (by kernel_rfl) (by simp) l0
                  have e0 : vals 11 = .pointer (some ⟨w.heap.size, 1, none⟩) := zR 11 l0
                  rw [e0] at f0
                  refine Or.inl ⟨wanted_no rfl, ?_⟩
                  exact wp_val (.slice (qc 0).1 (dl (P)) (qc 0).2) (by simp [go_sem, f0, Kc1_1]) ⟨_, rfl, Gr.refl _, rfl⟩
                · obtain rfl := Option.some.inj zo
                  have l0 := on_of zD 8 (by kernel_rfl)
                  have f0 := zF.at (s := 55) (i := 8) (by kernel_rfl) (by simp) l0
                  obtain ⟨p0, n0, e0, S0⟩ := (show ∃ p n, vals 8 = .slice p (dl (t3)) n ∧ Sl v7 p (t3) from zR 8 l0)
                  rw [e0] at f0
                  have l1 := on_of zD 10 (by kernel_rfl)
                  have f1 := zF.at (s := 57) (i := 10) (by kernel_rfl) (by simp) l1
                  have e1 : vals 10 = .slice (qc 1).1 (dl (A)) (qc 1).2 := zR 10 l1
                  rw [e1] at f1
                  have l2 := on_of zD 12 (by kernel_rfl)
                  have f2 := zF.at (s := 59) (i := 12) (by kernel_rfl) (by simp) l2
                  have e2 : vals 12 = .slice (qc 0).1 (dl (P)) (qc 0).2 := zR 12 l2
                  rw [e2] at f2
                  refine Or.inl ⟨wanted_no rfl, ?_⟩
                  exact wp_retz (k := .n (t4)) (by simp [go_sem, f0, f1, f2]) (show Calls Try.prog 28 #[.slice p0 (dl (t3)) n0, .slice (qc 1).1 (dl (A)) (qc 1).2, .slice (qc 0).1 (dl (P)) (qc 0).2] v7 (Rt (.n (t4)) v7) from am_any S0 ((HQ 1).gr hg) ((HQ 0).gr hg) lt3 lA hd ht4) (fun u w2 hu hg2 => ⟨_, rfl, hg2, hu⟩)
                · obtain rfl := Option.some.inj zo
                  have l0 := on_of zD 13 (by kernel_rfl)
                  have f0 := zF.at (s := 60) (i := 13) (by kernel_rfl) (by simp) l0
                  obtain ⟨p0, n0, e0, S0⟩ := (show ∃ p n, vals 13 = .slice p (dl (t4)) n ∧ Sl v7 p (t4) from zR 13 l0)
                  rw [e0] at f0
                  refine Or.inl ⟨wanted_no rfl, ?_⟩
                  exact wp_val (.slice p0 (dl (t4)) n0) (by simp [go_sem, f0]) ⟨_, rfl, Gr.refl _, ⟨_, _, rfl, S0⟩⟩
              case hf =>
                intro vals v7 hg zR
                have e10_0 : vals 0 = .slice p9_7 (dl (t1)) n9_7 := zR 0 (by simp)
                have e10_1 : vals 1 = .slice p9_7 (dl (t1)) n9_7 := zR 1 (by simp)
                have e10_2 : vals 2 = .slice p9_7 (dl (t1)) n9_7 := zR 2 (by simp)
                have e10_3 : vals 3 = .pointer (some ⟨w.heap.size, 1, none⟩) := zR 3 (by simp)
                have e10_4 : vals 4 = .slice (qc 0).1 (dl (P)) (qc 0).2 := zR 4 (by simp)
                obtain ⟨p10_5, n10_5, e10_5, S10_5⟩ := (show ∃ p n, vals 5 = .slice p (dl (t2)) n ∧ Sl v7 p (t2) from zR 5 (by simp))
                have e10_6 : vals 6 = .pointer (some ⟨w.heap.size, 1, none⟩) := zR 6 (by simp)
                have e10_7 : vals 7 = .slice (qc 0).1 (dl (P)) (qc 0).2 := zR 7 (by simp)
                obtain ⟨p10_8, n10_8, e10_8, S10_8⟩ := (show ∃ p n, vals 8 = .slice p (dl (t3)) n ∧ Sl v7 p (t3) from zR 8 (by simp))
                have e10_9 : vals 9 = .pointer (some ⟨w.heap.size, 2, none⟩) := zR 9 (by simp)
                have e10_10 : vals 10 = .slice (qc 1).1 (dl (A)) (qc 1).2 := zR 10 (by simp)
                have e10_11 : vals 11 = .pointer (some ⟨w.heap.size, 1, none⟩) := zR 11 (by simp)
                have e10_12 : vals 12 = .slice (qc 0).1 (dl (P)) (qc 0).2 := zR 12 (by simp)
                obtain ⟨p10_13, n10_13, e10_13, S10_13⟩ := (show ∃ p n, vals 13 = .slice p (dl (t4)) n ∧ Sl v7 p (t4) from zR 13 (by simp))
                obtain ⟨p10_14, n10_14, e10_14, S10_14⟩ := (show ∃ p n, vals 14 = .slice p (dl (t4)) n ∧ Sl v7 p (t4) from zR 14 (by simp))
                simp only [putFrom, Act.put, List.setIfInBounds_toArray, List.set_cons_zero, List.set_cons_succ, e10_0, e10_1, e10_2, e10_3, e10_4, e10_5, e10_6, e10_7, e10_8, e10_9, e10_10, e10_11, e10_12, e10_13, e10_14]
                clear zR e10_0 e10_1 e10_2 e10_3 e10_4 e10_5 e10_6 e10_7 e10_8 e10_9 e10_10 e10_11 e10_12 e10_13 e10_14
                replace G := G.trans hg
                replace c1 := c1.gr hg
                replace c2 := c2.gr hg
                replace c3 := c3.gr hg
                replace c4 := c4.gr hg
                replace HQ := fun k => (HQ k).gr hg
                replace Sx1 := Sx1.gr hg
                replace Sy1 := Sy1.gr hg
                replace Sx2 := Sx2.gr hg
                replace Sy2 := Sy2.gr hg
                replace S9_6 := S9_6.gr hg
                replace S9_7 := S9_7.gr hg
                clear hg
                go_upto_region 11 with fail
                refine wp_region_qS (by kernel_rfl) [.c (.pointer (some ⟨w.heap.size + 1, 1, none⟩)), .c (.slice q1 (dl (y)) m1), .c (.pointer (some ⟨w.heap.size + 1, 1, none⟩)), .c (.slice q1 (dl (y)) m1), .c (.pointer (some ⟨w.heap.size, 1, none⟩)), .c (.slice (qc 0).1 (dl (P)) (qc 0).2), .n (t5), .n (t5)] ?hs ?hf
                case hs =>
                  intro listed vals a1 v8 io oo hg zR zF zo zD
                  have Hc1 : blk v8 (w.heap.size) = crA id (six P A B N X Y) qc := (hg.blk _ c1.p).trans c1.h
                  have Kc1_1 : v8.cell? ⟨w.heap.size, 1, none⟩ = some (.slice (qc 0).1 (dl (P)) (qc 0).2) := by rw [cell_blk, Hc1]; rfl
                  have Hc2 : blk v8 (w.heap.size + 1) = ptA p1 (x) n1 q1 (y) m1 false := (hg.blk _ c2.p).trans c2.h
                  have Kc2_1 : v8.cell? ⟨w.heap.size + 1, 1, none⟩ = some (.slice q1 (dl (y)) m1) := by rw [cell_blk, Hc2]; rfl
                  have zi : io < 8 := by simpa using (Array.getElem?_eq_some_iff.1 zo).1
                  obtain rfl | rfl | rfl | rfl | rfl | rfl | rfl | rfl : io = 0 ∨ io = 1 ∨ io = 2 ∨ io = 3 ∨ io = 4 ∨ io = 5 ∨ io = 6 ∨ io = 7 := by omega
                  · obtain rfl := Option.some.inj zo
                    have f0 := zF.old (s := 4) (v := .pointer (some ⟨w.heap.size + 1, 0, none⟩)) (by kernel_rfl) rfl
                    refine Or.inl ⟨wanted_no rfl, ?_⟩
                    exact wp_val (.pointer (some ⟨w.heap.size + 1, 1, none⟩)) (by simp [go_sem, f0]) ⟨_, rfl, Gr.refl _, rfl⟩
                  · obtain rfl := Option.some.inj zo
                    have l0 := on_of zD 0 (by kernel_rfl)
                    have f0 := zF.at (s := 61) (i := 0) (by kernel_rfl) (by simp) l0
                    have e0 : vals 0 = .pointer (some ⟨w.heap.size + 1, 1, none⟩) := zR 0 l0
                    rw [e0] at f0
                    refine Or.inl ⟨wanted_no rfl, ?_⟩
                    exact wp_val (.slice q1 (dl (y)) m1) (by simp [go_sem, f0, Kc2_1]) ⟨_, rfl, Gr.refl _, rfl⟩
                  · obtain rfl := Option.some.inj zo
                    have f0 := zF.old (s := 4) (v := .pointer (some ⟨w.heap.size + 1, 0, none⟩)) (by kernel_rfl) rfl
                    refine Or.inl ⟨wanted_no rfl, ?_⟩
                    exact wp_val (.pointer (some ⟨w.heap.size + 1, 1, none⟩)) (by simp [go_sem, f0]) ⟨_, rfl, Gr.refl _, rfl⟩
                  · obtain rfl := Option.some.inj zo
                    have l0 := on_of zD 2 (by kernel_rfl)
                    have f0 := zF.at (s := 63) (i := 2) (by kernel_rfl) (by simp) l0
                    have e0 : vals 2 = .pointer (some ⟨w.heap.size + 1, 1, none⟩) := zR 2 l0
                    rw [e0] at f0
                    refine Or.inl ⟨wanted_no rfl, ?_⟩
                    exact wp_val (.slice q1 (dl (y)) m1) (by simp [go_sem, f0, Kc2_1]) ⟨_, rfl, Gr.refl _, rfl⟩
                  · obtain rfl := Option.some.inj zo
                    have f0 := zF.old (s := 3) (v := .pointer (some ⟨w.heap.size, 0, none⟩)) (by kernel_rfl) rfl
                    refine Or.inl ⟨wanted_no rfl, ?_⟩
                    exact wp_val (.pointer (some ⟨w.heap.size, 1, none⟩)) (by simp [go_sem, f0]) ⟨_, rfl, Gr.refl _, rfl⟩
                  · obtain rfl := Option.some.inj zo
                    have l0 := on_of zD 4 (by kernel_rfl)
                    have f0 := zF.at (s := 65) (i := 4) (by kernel_rfl) (by simp) l0
                    have e0 : vals 4 = .pointer (some ⟨w.heap.size, 1, none⟩) := zR 4 l0
                    rw [e0] at f0
                    refine Or.inl ⟨wanted_no rfl, ?_⟩
                    exact wp_val (.slice (qc 0).1 (dl (P)) (qc 0).2) (by simp [go_sem, f0, Kc1_1]) ⟨_, rfl, Gr.refl _, rfl⟩
                  · obtain rfl := Option.some.inj zo
                    have l0 := on_of zD 1 (by kernel_rfl)
                    have f0 := zF.at (s := 62) (i := 1) (by kernel_rfl) (by simp) l0
                    have e0 : vals 1 = .slice q1 (dl (y)) m1 := zR 1 l0
                    rw [e0] at f0
                    have l1 := on_of zD 3 (by kernel_rfl)
                    have f1 := zF.at (s := 64) (i := 3) (by kernel_rfl) (by simp) l1
                    have e1 : vals 3 = .slice q1 (dl (y)) m1 := zR 3 l1
                    rw [e1] at f1
                    have l2 := on_of zD 5 (by kernel_rfl)
                    have f2 := zF.at (s := 66) (i := 5) (by kernel_rfl) (by simp) l2
                    have e2 : vals 5 = .slice (qc 0).1 (dl (P)) (qc 0).2 := zR 5 l2
                    rw [e2] at f2
                    refine Or.inl ⟨wanted_no rfl, ?_⟩
                    exact wp_retz (k := .n (t5)) (by simp [go_sem, f0, f1, f2]) (show Calls Try.prog 28 #[.slice q1 (dl (y)) m1, .slice q1 (dl (y)) m1, .slice (qc 0).1 (dl (P)) (qc 0).2] v8 (Rt (.n (t5)) v8) from am_any (Sy1.gr hg) (Sy1.gr hg) ((HQ 0).gr hg) ly ly hd ht5) (fun u w2 hu hg2 => ⟨_, rfl, hg2, hu⟩)
                  · obtain rfl := Option.some.inj zo
                    have l0 := on_of zD 6 (by kernel_rfl)
                    have f0 := zF.at (s := 67) (i := 6) (by kernel_rfl) (by simp) l0
                    obtain ⟨p0, n0, e0, S0⟩ := (show ∃ p n, vals 6 = .slice p (dl (t5)) n ∧ Sl v8 p (t5) from zR 6 l0)
                    rw [e0] at f0
                    refine Or.inl ⟨wanted_no rfl, ?_⟩
                    exact wp_val (.slice p0 (dl (t5)) n0) (by simp [go_sem, f0]) ⟨_, rfl, Gr.refl _, ⟨_, _, rfl, S0⟩⟩
                case hf =>
                  intro vals v8 hg zR
                  have e11_0 : vals 0 = .pointer (some ⟨w.heap.size + 1, 1, none⟩) := zR 0 (by simp)
                  have e11_1 : vals 1 = .slice q1 (dl (y)) m1 := zR 1 (by simp)
                  have e11_2 : vals 2 = .pointer (some ⟨w.heap.size + 1, 1, none⟩) := zR 2 (by simp)
                  have e11_3 : vals 3 = .slice q1 (dl (y)) m1 := zR 3 (by simp)
                  have e11_4 : vals 4 = .pointer (some ⟨w.heap.size, 1, none⟩) := zR 4 (by simp)
                  have e11_5 : vals 5 = .slice (qc 0).1 (dl (P)) (qc 0).2 := zR 5 (by simp)
                  obtain ⟨p11_6, n11_6, e11_6, S11_6⟩ := (show ∃ p n, vals 6 = .slice p (dl (t5)) n ∧ Sl v8 p (t5) from zR 6 (by simp))
                  obtain ⟨p11_7, n11_7, e11_7, S11_7⟩ := (show ∃ p n, vals 7 = .slice p (dl (t5)) n ∧ Sl v8 p (t5) from zR 7 (by simp))
                  simp only [putFrom, Act.put, List.setIfInBounds_toArray, List.set_cons_zero, List.set_cons_succ, e11_0, e11_1, e11_2, e11_3, e11_4, e11_5, e11_6, e11_7]
                  clear zR e11_0 e11_1 e11_2 e11_3 e11_4 e11_5 e11_6 e11_7
                  replace G := G.trans hg
                  replace c1 := c1.gr hg
                  replace c2 := c2.gr hg
                  replace c3 := c3.gr hg
                  replace c4 := c4.gr hg
                  replace HQ := fun k => (HQ k).gr hg
                  replace Sx1 := Sx1.gr hg
                  replace Sy1 := Sy1.gr hg
                  replace Sx2 := Sx2.gr hg
                  replace Sy2 := Sy2.gr hg
                  replace S9_6 := S9_6.gr hg
                  replace S9_7 := S9_7.gr hg
                  replace S10_5 := S10_5.gr hg
                  replace S10_8 := S10_8.gr hg
                  replace S10_13 := S10_13.gr hg
                  replace S10_14 := S10_14.gr hg
                  clear hg
                  go_upto_region 14 with fail
                  refine wp_region_qS (by kernel_rfl) [.c (.slice p11_7 (dl (t5)) n11_7), .c (.pointer (some ⟨w.heap.size, 1, none⟩)), .c (.slice (qc 0).1 (dl (P)) (qc 0).2), .nb (iv) true, .nb (iv) true, .n (iv), .c (.bool true), .n (iv), .c (.bool true)] ?hs ?hf
                  case hs =>
                    intro listed vals a1 v9 io oo hg zR zF zo zD
                    have Hc1 : blk v9 (w.heap.size) = crA id (six P A B N X Y) qc := (hg.blk _ c1.p).trans c1.h
                    have Kc1_1 : v9.cell? ⟨w.heap.size, 1, none⟩ = some (.slice (qc 0).1 (dl (P)) (qc 0).2) := by rw [cell_blk, Hc1]; rfl
                    have zi : io < 9 := by simpa using (Array.getElem?_eq_some_iff.1 zo).1
                    obtain rfl | rfl | rfl | rfl | rfl | rfl | rfl | rfl | rfl : io = 0 ∨ io = 1 ∨ io = 2 ∨ io = 3 ∨ io = 4 ∨ io = 5 ∨ io = 6 ∨ io = 7 ∨ io = 8 := by omega
                    · obtain rfl := Option.some.inj zo
                      have f0 := zF.old (s := 8) (v := .slice p11_7 (dl (t5)) n11_7) (by kernel_rfl) rfl
                      refine Or.inl ⟨wanted_no rfl, ?_⟩
                      exact wp_val (.slice p11_7 (dl (t5)) n11_7) (by simp [go_sem, f0]) ⟨_, rfl, Gr.refl _, rfl⟩
                    · obtain rfl := Option.some.inj zo
                      have f0 := zF.old (s := 3) (v := .pointer (some ⟨w.heap.size, 0, none⟩)) (by kernel_rfl) rfl
                      refine Or.inl ⟨wanted_no rfl, ?_⟩
                      exact wp_val (.pointer (some ⟨w.heap.size, 1, none⟩)) (by simp [go_sem, f0]) ⟨_, rfl, Gr.refl _, rfl⟩
                    · obtain rfl := Option.some.inj zo
                      have l0 := on_of zD 1 (by kernel_rfl)
                      have f0 := zF.at (s := 84) (i := 1) (by kernel_rfl) (by simp) l0
                      have e0 : vals 1 = .pointer (some ⟨w.heap.size, 1, none⟩) := zR 1 l0
                      rw [e0] at f0
                      refine Or.inl ⟨wanted_no rfl, ?_⟩
                      exact wp_val (.slice (qc 0).1 (dl (P)) (qc 0).2) (by simp [go_sem, f0, Kc1_1]) ⟨_, rfl, Gr.refl _, rfl⟩
                    · obtain rfl := Option.some.inj zo
                      have l0 := on_of zD 0 (by kernel_rfl)
                      have f0 := zF.at (s := 83) (i := 0) (by kernel_rfl) (by simp) l0
                      have e0 : vals 0 = .slice p11_7 (dl (t5)) n11_7 := zR 0 l0
                      rw [e0] at f0
                      have l1 := on_of zD 2 (by kernel_rfl)
                      have f1 := zF.at (s := 85) (i := 2) (by kernel_rfl) (by simp) l1
                      have e1 : vals 2 = .slice (qc 0).1 (dl (P)) (qc 0).2 := zR 2 l1
                      rw [e1] at f1
                      refine Or.inl ⟨wanted_no rfl, ?_⟩
                      exact wp_retz (k := .nb (iv) true) (by simp [go_sem, f0, f1]) (show Calls Try.prog 70 #[.slice p11_7 (dl (t5)) n11_7, .slice (qc 0).1 (dl (P)) (qc 0).2] v9 (Rt (.nb (iv) true) v9) from iv_any (S11_7.gr hg) ((HQ 0).gr hg) lt5 hd h1P liv hiv) (fun u w2 hu hg2 => ⟨_, rfl, hg2, hu⟩)
                    · obtain rfl := Option.some.inj zo
                      have l0 := on_of zD 3 (by kernel_rfl)
                      have f0 := zF.at (s := 86) (i := 3) (by kernel_rfl) (by simp) l0
                      obtain ⟨p0, n0, e0, S0⟩ := (show ∃ p n, vals 3 = .tuple #[.slice p (dl (iv)) n, .bool true] ∧ Sl v9 p (iv) from zR 3 l0)
                      rw [e0] at f0
                      refine Or.inl ⟨wanted_no rfl, ?_⟩
                      exact wp_val (.tuple #[.slice p0 (dl (iv)) n0, .bool true]) (by simp [go_sem, f0]) ⟨_, rfl, Gr.refl _, ⟨_, _, rfl, S0⟩⟩
                    · obtain rfl := Option.some.inj zo
                      have l0 := on_of zD 4 (by kernel_rfl)
                      have f0 := zF.at (s := 82) (i := 4) (by kernel_rfl) (by simp) l0
                      obtain ⟨p0, n0, e0, S0⟩ := (show ∃ p n, vals 4 = .tuple #[.slice p (dl (iv)) n, .bool true] ∧ Sl v9 p (iv) from zR 4 l0)
                      rw [e0] at f0
                      refine Or.inl ⟨wanted_no rfl, ?_⟩
                      exact wp_val (.slice p0 (dl (iv)) n0) (by simp [go_sem, f0]) ⟨_, rfl, Gr.refl _, ⟨_, _, rfl, S0⟩⟩
                    · obtain rfl := Option.some.inj zo
                      have l0 := on_of zD 4 (by kernel_rfl)
                      have f0 := zF.at (s := 82) (i := 4) (by kernel_rfl) (by simp) l0
                      obtain ⟨p0, n0, e0, S0⟩ := (show ∃ p n, vals 4 = .tuple #[.slice p (dl (iv)) n, .bool true] ∧ Sl v9 p (iv) from zR 4 l0)
                      rw [e0] at f0
                      refine Or.inl ⟨wanted_no rfl, ?_⟩
                      exact wp_val (.bool true) (by simp [go_sem, f0]) ⟨_, rfl, Gr.refl _, rfl⟩
                    · obtain rfl := Option.some.inj zo
                      have l0 := on_of zD 5 (by kernel_rfl)
                      have f0 := zF.at (s := 87) (i := 5) (by kernel_rfl) (by simp) l0
                      obtain ⟨p0, n0, e0, S0⟩ := (show ∃ p n, vals 5 = .slice p (dl (iv)) n ∧ Sl v9 p (iv) from zR 5 l0)
                      rw [e0] at f0
                      refine Or.inl ⟨wanted_no rfl, ?_⟩
                      exact wp_val (.slice p0 (dl (iv)) n0) (by simp [go_sem, f0]) ⟨_, rfl, Gr.refl _, ⟨_, _, rfl, S0⟩⟩
                    · obtain rfl := Option.some.inj zo
                      have l0 := on_of zD 6 (by kernel_rfl)
                      have f0 := zF.at (s := 88) (i := 6) (by kernel_rfl) (by simp) l0
                      have e0 : vals 6 = .bool true := zR 6 l0
                      rw [e0] at f0
                      refine Or.inl ⟨wanted_no rfl, ?_⟩
                      exact wp_val (.bool true) (by simp [go_sem, f0]) ⟨_, rfl, Gr.refl _, rfl⟩
                  case hf =>
                    intro vals v9 hg zR
                    have e14_0 : vals 0 = .slice p11_7 (dl (t5)) n11_7 := zR 0 (by simp)
                    have e14_1 : vals 1 = .pointer (some ⟨w.heap.size, 1, none⟩) := zR 1 (by simp)
                    have e14_2 : vals 2 = .slice (qc 0).1 (dl (P)) (qc 0).2 := zR 2 (by simp)
                    obtain ⟨p14_3, n14_3, e14_3, S14_3⟩ := (show ∃ p n, vals 3 = .tuple #[.slice p (dl (iv)) n, .bool true] ∧ Sl v9 p (iv) from zR 3 (by simp))
                    obtain ⟨p14_4, n14_4, e14_4, S14_4⟩ := (show ∃ p n, vals 4 = .tuple #[.slice p (dl (iv)) n, .bool true] ∧ Sl v9 p (iv) from zR 4 (by simp))
                    obtain ⟨p14_5, n14_5, e14_5, S14_5⟩ := (show ∃ p n, vals 5 = .slice p (dl (iv)) n ∧ Sl v9 p (iv) from zR 5 (by simp))
                    have e14_6 : vals 6 = .bool true := zR 6 (by simp)
                    obtain ⟨p14_7, n14_7, e14_7, S14_7⟩ := (show ∃ p n, vals 7 = .slice p (dl (iv)) n ∧ Sl v9 p (iv) from zR 7 (by simp))
                    have e14_8 : vals 8 = .bool true := zR 8 (by simp)
                    simp only [putFrom, Act.put, List.setIfInBounds_toArray, List.set_cons_zero, List.set_cons_succ, e14_0, e14_1, e14_2, e14_3, e14_4, e14_5, e14_6, e14_7, e14_8]
                    clear zR e14_0 e14_1 e14_2 e14_3 e14_4 e14_5 e14_6 e14_7 e14_8
                    replace G := G.trans hg
                    replace c1 := c1.gr hg
                    replace c2 := c2.gr hg
                    replace c3 := c3.gr hg
                    replace c4 := c4.gr hg
                    replace HQ := fun k => (HQ k).gr hg
                    replace Sx1 := Sx1.gr hg
                    replace Sy1 := Sy1.gr hg
                    replace Sx2 := Sx2.gr hg
                    replace Sy2 := Sy2.gr hg
                    replace S9_6 := S9_6.gr hg
                    replace S9_7 := S9_7.gr hg
                    replace S10_5 := S10_5.gr hg
                    replace S10_8 := S10_8.gr hg
                    replace S10_13 := S10_13.gr hg
                    replace S10_14 := S10_14.gr hg
                    replace S11_6 := S11_6.gr hg
                    replace S11_7 := S11_7.gr hg
                    clear hg
                    go_upto_region 15 with fail
                    refine wp_region_qS (by kernel_rfl) [.c (.slice p10_14 (dl (t4)) n10_14), .c (.slice p14_7 (dl (iv)) n14_7), .c (.pointer (some ⟨w.heap.size, 1, none⟩)), .c (.slice (qc 0).1 (dl (P)) (qc 0).2), .n (t6), .n (t6)] ?hs ?hf
                    case hs =>
                      intro listed vals a1 v10 io oo hg zR zF zo zD
                      have Hc1 : blk v10 (w.heap.size) = crA id (six P A B N X Y) qc := (hg.blk _ c1.p).trans c1.h
                      have Kc1_1 : v10.cell? ⟨w.heap.size, 1, none⟩ = some (.slice (qc 0).1 (dl (P)) (qc 0).2) := by rw [cell_blk, Hc1]; rfl
                      have zi : io < 6 := by simpa using (Array.getElem?_eq_some_iff.1 zo).1
                      obtain rfl | rfl | rfl | rfl | rfl | rfl : io = 0 ∨ io = 1 ∨ io = 2 ∨ io = 3 ∨ io = 4 ∨ io = 5 := by omega
                      · obtain rfl := Option.some.inj zo
                        have f0 := zF.old (s := 7) (v := .slice p10_14 (dl (t4)) n10_14) (by kernel_rfl) rfl
                        refine Or.inl ⟨wanted_no rfl, ?_⟩
                        exact wp_val (.slice p10_14 (dl (t4)) n10_14) (by simp [go_sem, f0]) ⟨_, rfl, Gr.refl _, rfl⟩
                      · obtain rfl := Option.some.inj zo
                        have f0 := zF.old (s := 10) (v := .slice p14_7 (dl (iv)) n14_7) (by kernel_rfl) rfl
                        refine Or.inl ⟨wanted_no rfl, ?_⟩
                        exact wp_val (.slice p14_7 (dl (iv)) n14_7) (by simp [go_sem, f0]) ⟨_, rfl, Gr.refl _, rfl⟩
                      · obtain rfl := Option.some.inj zo
                        have f0 := zF.old (s := 3) (v := .pointer (some ⟨w.heap.size, 0, none⟩)) (by kernel_rfl) rfl
                        refine Or.inl ⟨wanted_no rfl, ?_⟩
                        exact wp_val (.pointer (some ⟨w.heap.size, 1, none⟩)) (by simp [go_sem, f0]) ⟨_, rfl, Gr.refl _, rfl⟩
                      · obtain rfl := Option.some.inj zo
                        have l0 := on_of zD 2 (by kernel_rfl)
                        have f0 := zF.at (s := 91) (i := 2) (by kernel_rfl) (by simp) l0
                        have e0 : vals 2 = .pointer (some ⟨w.heap.size, 1, none⟩) := zR 2 l0
                        rw [e0] at f0
                        refine Or.inl ⟨wanted_no rfl, ?_⟩
                        exact wp_val (.slice (qc 0).1 (dl (P)) (qc 0).2) (by simp [go_sem, f0, Kc1_1]) ⟨_, rfl, Gr.refl _, rfl⟩
                      · obtain rfl := Option.some.inj zo
                        have l0 := on_of zD 0 (by kernel_rfl)
                        have f0 := zF.at (s := 89) (i := 0) (by kernel_rfl) (by simp) l0
                        have e0 : vals 0 = .slice p10_14 (dl (t4)) n10_14 := zR 0 l0
                        rw [e0] at f0
                        have l1 := on_of zD 1 (by kernel_rfl)
                        have f1 := zF.at (s := 90) (i := 1) (by kernel_rfl) (by simp) l1
                        have e1 : vals 1 = .slice p14_7 (dl (iv)) n14_7 := zR 1 l1
                        rw [e1] at f1
                        have l2 := on_of zD 3 (by kernel_rfl)
                        have f2 := zF.at (s := 92) (i := 3) (by kernel_rfl) (by simp) l2
                        have e2 : vals 3 = .slice (qc 0).1 (dl (P)) (qc 0).2 := zR 3 l2
                        rw [e2] at f2
                        refine Or.inl ⟨wanted_no rfl, ?_⟩
                        exact wp_retz (k := .n (t6)) (by simp [go_sem, f0, f1, f2]) (show Calls Try.prog 27 #[.slice p10_14 (dl (t4)) n10_14, .slice p14_7 (dl (iv)) n14_7, .slice (qc 0).1 (dl (P)) (qc 0).2] v10 (Rt (.n (t6)) v10) from mm_any (S10_14.gr hg) (S14_7.gr hg) ((HQ 0).gr hg) lt4 liv hd ht6) (fun u w2 hu hg2 => ⟨_, rfl, hg2, hu⟩)
                      · obtain rfl := Option.some.inj zo
                        have l0 := on_of zD 4 (by kernel_rfl)
                        have f0 := zF.at (s := 93) (i := 4) (by kernel_rfl) (by simp) l0
                        obtain ⟨p0, n0, e0, S0⟩ := (show ∃ p n, vals 4 = .slice p (dl (t6)) n ∧ Sl v10 p (t6) from zR 4 l0)
                        rw [e0] at f0
                        refine Or.inl ⟨wanted_no rfl, ?_⟩
                        exact wp_val (.slice p0 (dl (t6)) n0) (by simp [go_sem, f0]) ⟨_, rfl, Gr.refl _, ⟨_, _, rfl, S0⟩⟩
                    case hf =>
                      intro vals v10 hg zR
                      have e15_0 : vals 0 = .slice p10_14 (dl (t4)) n10_14 := zR 0 (by simp)
                      have e15_1 : vals 1 = .slice p14_7 (dl (iv)) n14_7 := zR 1 (by simp)
                      have e15_2 : vals 2 = .pointer (some ⟨w.heap.size, 1, none⟩) := zR 2 (by simp)
                      have e15_3 : vals 3 = .slice (qc 0).1 (dl (P)) (qc 0).2 := zR 3 (by simp)
                      obtain ⟨p15_4, n15_4, e15_4, S15_4⟩ := (show ∃ p n, vals 4 = .slice p (dl (t6)) n ∧ Sl v10 p (t6) from zR 4 (by simp))
                      obtain ⟨p15_5, n15_5, e15_5, S15_5⟩ := (show ∃ p n, vals 5 = .slice p (dl (t6)) n ∧ Sl v10 p (t6) from zR 5 (by simp))
                      simp only [putFrom, Act.put, List.setIfInBounds_toArray, List.set_cons_zero, List.set_cons_succ, e15_0, e15_1, e15_2, e15_3, e15_4, e15_5]
                      clear zR e15_0 e15_1 e15_2 e15_3 e15_4 e15_5
                      replace G := G.trans hg
                      replace c1 := c1.gr hg
                      replace c2 := c2.gr hg
                      replace c3 := c3.gr hg
                      replace c4 := c4.gr hg
                      replace HQ := fun k => (HQ k).gr hg
                      replace Sx1 := Sx1.gr hg
                      replace Sy1 := Sy1.gr hg
                      replace Sx2 := Sx2.gr hg
                      replace Sy2 := Sy2.gr hg
                      replace S9_6 := S9_6.gr hg
                      replace S9_7 := S9_7.gr hg
                      replace S10_5 := S10_5.gr hg
                      replace S10_8 := S10_8.gr hg
                      replace S10_13 := S10_13.gr hg
                      replace S10_14 := S10_14.gr hg
                      replace S11_6 := S11_6.gr hg
                      replace S11_7 := S11_7.gr hg
                      replace S14_5 := S14_5.gr hg
                      replace S14_7 := S14_7.gr hg
                      clear hg
                      go_upto_region 16 with fail
                      refine wp_region_q (by kernel_rfl) (by kernel_rfl) [.c (.slice p15_5 (dl (t6)) n15_5), .c (.slice p15_5 (dl (t6)) n15_5), .c (.pointer (some ⟨w.heap.size, 1, none⟩)), .c (.slice (qc 0).1 (dl (P)) (qc 0).2), .n (t7), .c (.pointer (some ⟨w.heap.size + 1, 0, none⟩)), .c (.slice p1 (dl (x)) n1), .c (.pointer (some ⟨w.heap.size, 1, none⟩)), .c (.slice (qc 0).1 (dl (P)) (qc 0).2), .n (t8), .c (.pointer (some ⟨w.heap.size + 1 + 1, 0, none⟩)), .c (.slice p2 (dl (x)) n2), .c (.pointer (some ⟨w.heap.size, 1, none⟩)), .c (.slice (qc 0).1 (dl (P)) (qc 0).2), .n (t9), .n (t9)] ?hs ?hf
                      case hs =>
                        intro listed vals a1 v11 io oo hg zR zF zo zD
                        have Hc1 : blk v11 (w.heap.size) = crA id (six P A B N X Y) qc := (hg.blk _ c1.p).trans c1.h
                        have Kc1_1 : v11.cell? ⟨w.heap.size, 1, none⟩ = some (.slice (qc 0).1 (dl (P)) (qc 0).2) := by rw [cell_blk, Hc1]; rfl
                        have Hc2 : blk v11 (w.heap.size + 1) = ptA p1 (x) n1 q1 (y) m1 false := (hg.blk _ c2.p).trans c2.h
                        have Kc2_0 : v11.cell? ⟨w.heap.size + 1, 0, none⟩ = some (.slice p1 (dl (x)) n1) := by rw [cell_blk, Hc2]; rfl
                        have Hc3 : blk v11 (w.heap.size + 1 + 1) = ptA p2 (x) n2 q2 (y) m2 false := (hg.blk _ c3.p).trans c3.h
                        have Kc3_0 : v11.cell? ⟨w.heap.size + 1 + 1, 0, none⟩ = some (.slice p2 (dl (x)) n2) := by rw [cell_blk, Hc3]; rfl
                        have zi : io < 16 := by simpa using (Array.getElem?_eq_some_iff.1 zo).1
                        obtain rfl | rfl | rfl | rfl | rfl | rfl | rfl | rfl | rfl | rfl | rfl | rfl | rfl | rfl | rfl | rfl : io = 0 ∨ io = 1 ∨ io = 2 ∨ io = 3 ∨ io = 4 ∨ io = 5 ∨ io = 6 ∨ io = 7 ∨ io = 8 ∨ io = 9 ∨ io = 10 ∨ io = 11 ∨ io = 12 ∨ io = 13 ∨ io = 14 ∨ io = 15 := by omega
                        · obtain rfl := Option.some.inj zo
                          have f0 := zF.old (s := 12) (v := .slice p15_5 (dl (t6)) n15_5) (by kernel_rfl) rfl
                          refine Or.inl ⟨wanted_no rfl, ?_⟩
                          exact wp_val (.slice p15_5 (dl (t6)) n15_5) (by simp [go_sem, f0]) ⟨_, rfl, Gr.refl _, rfl⟩
                        · obtain rfl := Option.some.inj zo
                          have f0 := zF.old (s := 12) (v := .slice p15_5 (dl (t6)) n15_5) (by kernel_rfl) rfl
                          refine Or.inl ⟨wanted_no rfl, ?_⟩
                          exact wp_val (.slice p15_5 (dl (t6)) n15_5) (by simp [go_sem, f0]) ⟨_, rfl, Gr.refl _, rfl⟩
                        · obtain rfl := Option.some.inj zo
                          have f0 := zF.old (s := 3) (v := .pointer (some ⟨w.heap.size, 0, none⟩)) (by kernel_rfl) rfl
                          refine Or.inl ⟨wanted_no rfl, ?_⟩
                          exact wp_val (.pointer (some ⟨w.heap.size, 1, none⟩)) (by simp [go_sem, f0]) ⟨_, rfl, Gr.refl _, rfl⟩
                        · obtain rfl := Option.some.inj zo
                          have l0 := on_of zD 2 (by kernel_rfl)
                          have f0 := zF.at (s := 96) (i := 2) (by kernel_rfl) (by simp) l0
                          have e0 : vals 2 = .pointer (some ⟨w.heap.size, 1, none⟩) := zR 2 l0
                          rw [e0] at f0
                          refine Or.inl ⟨wanted_no rfl, ?_⟩
                          exact wp_val (.slice (qc 0).1 (dl (P)) (qc 0).2) (by simp [go_sem, f0, Kc1_1]) ⟨_, rfl, Gr.refl _, rfl⟩
                        · obtain rfl := Option.some.inj zo
                          have l0 := on_of zD 0 (by kernel_rfl)
                          have f0 := zF.at (s := 94) (i := 0) (by kernel_rfl) (by simp) l0
                          have e0 : vals 0 = .slice p15_5 (dl (t6)) n15_5 := zR 0 l0
                          rw [e0] at f0
                          have l1 := on_of zD 1 (by kernel_rfl)
                          have f1 := zF.at (s := 95) (i := 1) (by kernel_rfl) (by simp) l1
                          have e1 : vals 1 = .slice p15_5 (dl (t6)) n15_5 := zR 1 l1
                          rw [e1] at f1
                          have l2 := on_of zD 3 (by kernel_rfl)
                          have f2 := zF.at (s := 97) (i := 3) (by kernel_rfl) (by simp) l2
                          have e2 : vals 3 = .slice (qc 0).1 (dl (P)) (qc 0).2 := zR 3 l2
                          rw [e2] at f2
                          refine Or.inl ⟨wanted_no rfl, ?_⟩
                          exact wp_retz (k := .n (t7)) (by simp [go_sem, f0, f1, f2]) (show Calls Try.prog 27 #[.slice p15_5 (dl (t6)) n15_5, .slice p15_5 (dl (t6)) n15_5, .slice (qc 0).1 (dl (P)) (qc 0).2] v11 (Rt (.n (t7)) v11) from mm_any (S15_5.gr hg) (S15_5.gr hg) ((HQ 0).gr hg) lt6 lt6 hd ht7) (fun u w2 hu hg2 => ⟨_, rfl, hg2, hu⟩)
                        · obtain rfl := Option.some.inj zo
                          have f0 := zF.old (s := 4) (v := .pointer (some ⟨w.heap.size + 1, 0, none⟩)) (by kernel_rfl) rfl
                          refine Or.inl ⟨wanted_no rfl, ?_⟩
                          exact wp_val (.pointer (some ⟨w.heap.size + 1, 0, none⟩)) (by simp [go_sem, f0]) ⟨_, rfl, Gr.refl _, rfl⟩
                        · obtain rfl := Option.some.inj zo
                          have l0 := on_of zD 5 (by kernel_rfl)
                          have f0 := zF.at (s := 99) (i := 5) (by kernel_rfl) (by simp) l0
                          have e0 : vals 5 = .pointer (some ⟨w.heap.size + 1, 0, none⟩) := zR 5 l0
                          rw [e0] at f0
                          refine Or.inl ⟨wanted_no rfl, ?_⟩
                          exact wp_val (.slice p1 (dl (x)) n1) (by simp [go_sem, f0, Kc2_0]) ⟨_, rfl, Gr.refl _, rfl⟩
                        · obtain rfl := Option.some.inj zo
                          have f0 := zF.old (s := 3) (v := .pointer (some ⟨w.heap.size, 0, none⟩)) (by kernel_rfl) rfl
                          refine Or.inl ⟨wanted_no rfl, ?_⟩
                          exact wp_val (.pointer (some ⟨w.heap.size, 1, none⟩)) (by simp [go_sem, f0]) ⟨_, rfl, Gr.refl _, rfl⟩
                        · obtain rfl := Option.some.inj zo
                          have l0 := on_of zD 7 (by kernel_rfl)
                          have f0 := zF.at (s := 101) (i := 7) (by kernel_rfl) (by simp) l0
                          have e0 : vals 7 = .pointer (some ⟨w.heap.size, 1, none⟩) := zR 7 l0
                          rw [e0] at f0
                          refine Or.inl ⟨wanted_no rfl, ?_⟩
                          exact wp_val (.slice (qc 0).1 (dl (P)) (qc 0).2) (by simp [go_sem, f0, Kc1_1]) ⟨_, rfl, Gr.refl _, rfl⟩
                        · obtain rfl := Option.some.inj zo
                          have l0 := on_of zD 4 (by kernel_rfl)
                          have f0 := zF.at (s := 98) (i := 4) (by kernel_rfl) (by simp) l0
                          obtain ⟨p0, n0, e0, S0⟩ := (show ∃ p n, vals 4 = .slice p (dl (t7)) n ∧ Sl v11 p (t7) from zR 4 l0)
                          rw [e0] at f0
                          have l1 := on_of zD 6 (by kernel_rfl)
                          have f1 := zF.at (s := 100) (i := 6) (by kernel_rfl) (by simp) l1
                          have e1 : vals 6 = .slice p1 (dl (x)) n1 := zR 6 l1
                          rw [e1] at f1
                          have l2 := on_of zD 8 (by kernel_rfl)
                          have f2 := zF.at (s := 102) (i := 8) (by kernel_rfl) (by simp) l2
                          have e2 : vals 8 = .slice (qc 0).1 (dl (P)) (qc 0).2 := zR 8 l2
                          rw [e2] at f2
                          refine Or.inl ⟨wanted_no rfl, ?_⟩
                          exact wp_retz (k := .n (t8)) (by simp [go_sem, f0, f1, f2]) (show Calls Try.prog 69 #[.slice p0 (dl (t7)) n0, .slice p1 (dl (x)) n1, .slice (qc 0).1 (dl (P)) (qc 0).2] v11 (Rt (.n (t8)) v11) from sm_any S0 (Sx1.gr hg) ((HQ 0).gr hg) lt7 lx hd ht8) (fun u w2 hu hg2 => ⟨_, rfl, hg2, hu⟩)
                        · obtain rfl := Option.some.inj zo
                          have f0 := zF.old (s := 5) (v := .pointer (some ⟨w.heap.size + 1 + 1, 0, none⟩)) (by kernel_rfl) rfl
                          refine Or.inl ⟨wanted_no rfl, ?_⟩
                          exact wp_val (.pointer (some ⟨w.heap.size + 1 + 1, 0, none⟩)) (by simp [go_sem, f0]) ⟨_, rfl, Gr.refl _, rfl⟩
                        · obtain rfl := Option.some.inj zo
                          have l0 := on_of zD 10 (by kernel_rfl)
                          have f0 := zF.at (s := 104) (i := 10) (by kernel_rfl) (by simp) l0
                          have e0 : vals 10 = .pointer (some ⟨w.heap.size + 1 + 1, 0, none⟩) := zR 10 l0
                          rw [e0] at f0
                          refine Or.inl ⟨wanted_no rfl, ?_⟩
                          exact wp_val (.slice p2 (dl (x)) n2) (by simp [go_sem, f0, Kc3_0]) ⟨_, rfl, Gr.refl _, rfl⟩
                        · obtain rfl := Option.some.inj zo
                          have f0 := zF.old (s := 3) (v := .pointer (some ⟨w.heap.size, 0, none⟩)) (by kernel_rfl) rfl
                          refine Or.inl ⟨wanted_no rfl, ?_⟩
                          exact wp_val (.pointer (some ⟨w.heap.size, 1, none⟩)) (by simp [go_sem, f0]) ⟨_, rfl, Gr.refl _, rfl⟩
                        · obtain rfl := Option.some.inj zo
                          have l0 := on_of zD 12 (by kernel_rfl)
                          have f0 := zF.at (s := 106) (i := 12) (by kernel_rfl) (by simp) l0
                          have e0 : vals 12 = .pointer (some ⟨w.heap.size, 1, none⟩) := zR 12 l0
                          rw [e0] at f0
                          refine Or.inl ⟨wanted_no rfl, ?_⟩
                          exact wp_val (.slice (qc 0).1 (dl (P)) (qc 0).2) (by simp [go_sem, f0, Kc1_1]) ⟨_, rfl, Gr.refl _, rfl⟩
                        · obtain rfl := Option.some.inj zo
                          have l0 := on_of zD 9 (by kernel_rfl)
                          have f0 := zF.at (s := 103) (i := 9) (by kernel_rfl) (by simp) l0
                          obtain ⟨p0, n0, e0, S0⟩ := (show ∃ p n, vals 9 = .slice p (dl (t8)) n ∧ Sl v11 p (t8) from zR 9 l0)
                          rw [e0] at f0
                          have l1 := on_of zD 11 (by kernel_rfl)
                          have f1 := zF.at (s := 105) (i := 11) (by kernel_rfl) (by simp) l1
                          have e1 : vals 11 = .slice p2 (dl (x)) n2 := zR 11 l1
                          rw [e1] at f1
                          have l2 := on_of zD 13 (by kernel_rfl)
                          have f2 := zF.at (s := 107) (i := 13) (by kernel_rfl) (by simp) l2
                          have e2 : vals 13 = .slice (qc 0).1 (dl (P)) (qc 0).2 := zR 13 l2
                          rw [e2] at f2
                          refine Or.inl ⟨wanted_no rfl, ?_⟩
                          exact wp_retz (k := .n (t9)) (by simp [go_sem, f0, f1, f2]) (show Calls Try.prog 69 #[.slice p0 (dl (t8)) n0, .slice p2 (dl (x)) n2, .slice (qc 0).1 (dl (P)) (qc 0).2] v11 (Rt (.n (t9)) v11) from sm_any S0 (Sx2.gr hg) ((HQ 0).gr hg) lt8 lx hd ht9) (fun u w2 hu hg2 => ⟨_, rfl, hg2, hu⟩)
                        · obtain rfl := Option.some.inj zo
                          have l0 := on_of zD 14 (by kernel_rfl)
                          have f0 := zF.at (s := 108) (i := 14) (by kernel_rfl) (by simp) l0
                          obtain ⟨p0, n0, e0, S0⟩ := (show ∃ p n, vals 14 = .slice p (dl (t9)) n ∧ Sl v11 p (t9) from zR 14 l0)
                          rw [e0] at f0
                          refine Or.inl ⟨wanted_no rfl, ?_⟩
                          exact wp_val (.slice p0 (dl (t9)) n0) (by simp [go_sem, f0]) ⟨_, rfl, Gr.refl _, ⟨_, _, rfl, S0⟩⟩
                      case hf =>
                        intro vals v11 hg zR
                        have e16_0 : vals 0 = .slice p15_5 (dl (t6)) n15_5 := zR 0 (by simp)
                        have e16_1 : vals 1 = .slice p15_5 (dl (t6)) n15_5 := zR 1 (by simp)
                        have e16_2 : vals 2 = .pointer (some ⟨w.heap.size, 1, none⟩) := zR 2 (by simp)
                        have e16_3 : vals 3 = .slice (qc 0).1 (dl (P)) (qc 0).2 := zR 3 (by simp)
                        obtain ⟨p16_4, n16_4, e16_4, S16_4⟩ := (show ∃ p n, vals 4 = .slice p (dl (t7)) n ∧ Sl v11 p (t7) from zR 4 (by simp))
                        have e16_5 : vals 5 = .pointer (some ⟨w.heap.size + 1, 0, none⟩) := zR 5 (by simp)
                        have e16_6 : vals 6 = .slice p1 (dl (x)) n1 := zR 6 (by simp)
                        have e16_7 : vals 7 = .pointer (some ⟨w.heap.size, 1, none⟩) := zR 7 (by simp)
                        have e16_8 : vals 8 = .slice (qc 0).1 (dl (P)) (qc 0).2 := zR 8 (by simp)
                        obtain ⟨p16_9, n16_9, e16_9, S16_9⟩ := (show ∃ p n, vals 9 = .slice p (dl (t8)) n ∧ Sl v11 p (t8) from zR 9 (by simp))
                        have e16_10 : vals 10 = .pointer (some ⟨w.heap.size + 1 + 1, 0, none⟩) := zR 10 (by simp)
                        have e16_11 : vals 11 = .slice p2 (dl (x)) n2 := zR 11 (by simp)
                        have e16_12 : vals 12 = .pointer (some ⟨w.heap.size, 1, none⟩) := zR 12 (by simp)
                        have e16_13 : vals 13 = .slice (qc 0).1 (dl (P)) (qc 0).2 := zR 13 (by simp)
                        obtain ⟨p16_14, n16_14, e16_14, S16_14⟩ := (show ∃ p n, vals 14 = .slice p (dl (t9)) n ∧ Sl v11 p (t9) from zR 14 (by simp))
                        obtain ⟨p16_15, n16_15, e16_15, S16_15⟩ := (show ∃ p n, vals 15 = .slice p (dl (t9)) n ∧ Sl v11 p (t9) from zR 15 (by simp))
                        simp only [putFrom, Act.put, List.setIfInBounds_toArray, List.set_cons_zero, List.set_cons_succ, e16_0, e16_1, e16_2, e16_3, e16_4, e16_5, e16_6, e16_7, e16_8, e16_9, e16_10, e16_11, e16_12, e16_13, e16_14, e16_15]
                        clear zR e16_0 e16_1 e16_2 e16_3 e16_4 e16_5 e16_6 e16_7 e16_8 e16_9 e16_10 e16_11 e16_12 e16_13 e16_14 e16_15
                        replace G := G.trans hg
                        replace c1 := c1.gr hg
                        replace c2 := c2.gr hg
                        replace c3 := c3.gr hg
                        replace c4 := c4.gr hg
                        replace HQ := fun k => (HQ k).gr hg
                        replace Sx1 := Sx1.gr hg
                        replace Sy1 := Sy1.gr hg
                        replace Sx2 := Sx2.gr hg
                        replace Sy2 := Sy2.gr hg
                        replace S9_6 := S9_6.gr hg
                        replace S9_7 := S9_7.gr hg
                        replace S10_5 := S10_5.gr hg
                        replace S10_8 := S10_8.gr hg
                        replace S10_13 := S10_13.gr hg
                        replace S10_14 := S10_14.gr hg
                        replace S11_6 := S11_6.gr hg
                        replace S11_7 := S11_7.gr hg
                        replace S14_5 := S14_5.gr hg
                        replace S14_7 := S14_7.gr hg
                        replace S15_4 := S15_4.gr hg
                        replace S15_5 := S15_5.gr hg
                        clear hg
                        go_upto_region 17 with fail
                        refine wp_region_q (by kernel_rfl) (by kernel_rfl) [.c (.slice p15_5 (dl (t6)) n15_5), .c (.pointer (some ⟨w.heap.size + 1, 0, none⟩)), .c (.slice p1 (dl (x)) n1), .c (.slice p16_15 (dl (t9)) n16_15), .c (.pointer (some ⟨w.heap.size, 1, none⟩)), .c (.slice (qc 0).1 (dl (P)) (qc 0).2), .n (t10), .c (.pointer (some ⟨w.heap.size, 1, none⟩)), .c (.slice (qc 0).1 (dl (P)) (qc 0).2), .n (t11), .c (.pointer (some ⟨w.heap.size + 1, 1, none⟩)), .c (.slice q1 (dl (y)) m1), .c (.pointer (some ⟨w.heap.size, 1, none⟩)), .c (.slice (qc 0).1 (dl (P)) (qc 0).2), .n (t12), .n (t12)] ?hs ?hf
                        case hs =>
                          intro listed vals a1 v12 io oo hg zR zF zo zD
                          have Hc1 : blk v12 (w.heap.size) = crA id (six P A B N X Y) qc := (hg.blk _ c1.p).trans c1.h
                          have Kc1_1 : v12.cell? ⟨w.heap.size, 1, none⟩ = some (.slice (qc 0).1 (dl (P)) (qc 0).2) := by rw [cell_blk, Hc1]; rfl
                          have Hc2 : blk v12 (w.heap.size + 1) = ptA p1 (x) n1 q1 (y) m1 false := (hg.blk _ c2.p).trans c2.h
                          have Kc2_0 : v12.cell? ⟨w.heap.size + 1, 0, none⟩ = some (.slice p1 (dl (x)) n1) := by rw [cell_blk, Hc2]; rfl
                          have Kc2_1 : v12.cell? ⟨w.heap.size + 1, 1, none⟩ = some (.slice q1 (dl (y)) m1) := by rw [cell_blk, Hc2]; rfl
                          have zi : io < 16 := by simpa using (Array.getElem?_eq_some_iff.1 zo).1
                          obtain rfl | rfl | rfl | rfl | rfl | rfl | rfl | rfl | rfl | rfl | rfl | rfl | rfl | rfl | rfl | rfl : io = 0 ∨ io = 1 ∨ io = 2 ∨ io = 3 ∨ io = 4 ∨ io = 5 ∨ io = 6 ∨ io = 7 ∨ io = 8 ∨ io = 9 ∨ io = 10 ∨ io = 11 ∨ io = 12 ∨ io = 13 ∨ io = 14 ∨ io = 15 := by omega
                          · obtain rfl := Option.some.inj zo
                            have f0 := zF.old (s := 12) (v := .slice p15_5 (dl (t6)) n15_5) (by kernel_rfl) rfl
                            refine Or.inl ⟨wanted_no rfl, ?_⟩
                            exact wp_val (.slice p15_5 (dl (t6)) n15_5) (by simp [go_sem, f0]) ⟨_, rfl, Gr.refl _, rfl⟩
                          · obtain rfl := Option.some.inj zo
                            have f0 := zF.old (s := 4) (v := .pointer (some ⟨w.heap.size + 1, 0, none⟩)) (by kernel_rfl) rfl
                            refine Or.inl ⟨wanted_no rfl, ?_⟩
                            exact wp_val (.pointer (some ⟨w.heap.size + 1, 0, none⟩)) (by simp [go_sem, f0]) ⟨_, rfl, Gr.refl _, rfl⟩
                          · obtain rfl := Option.some.inj zo
                            have l0 := on_of zD 1 (by kernel_rfl)
                            have f0 := zF.at (s := 110) (i := 1) (by kernel_rfl) (by simp) l0
                            have e0 : vals 1 = .pointer (some ⟨w.heap.size + 1, 0, none⟩) := zR 1 l0
                            rw [e0] at f0
                            refine Or.inl ⟨wanted_no rfl, ?_⟩
                            exact wp_val (.slice p1 (dl (x)) n1) (by simp [go_sem, f0, Kc2_0]) ⟨_, rfl, Gr.refl _, rfl⟩
                          · obtain rfl := Option.some.inj zo
                            have f0 := zF.old (s := 13) (v := .slice p16_15 (dl (t9)) n16_15) (by kernel_rfl) rfl
                            refine Or.inl ⟨wanted_no rfl, ?_⟩
                            exact wp_val (.slice p16_15 (dl (t9)) n16_15) (by simp [go_sem, f0]) ⟨_, rfl, Gr.refl _, rfl⟩
                          · obtain rfl := Option.some.inj zo
                            have f0 := zF.old (s := 3) (v := .pointer (some ⟨w.heap.size, 0, none⟩)) (by kernel_rfl) rfl
                            refine Or.inl ⟨wanted_no rfl, ?_⟩
                            exact wp_val (.pointer (some ⟨w.heap.size, 1, none⟩)) (by simp [go_sem, f0]) ⟨_, rfl, Gr.refl _, rfl⟩
                          · obtain rfl := Option.some.inj zo
                            have l0 := on_of zD 4 (by kernel_rfl)
                            have f0 := zF.at (s := 113) (i := 4) (by kernel_rfl) (by simp) l0
                            have e0 : vals 4 = .pointer (some ⟨w.heap.size, 1, none⟩) := zR 4 l0
                            rw [e0] at f0
                            refine Or.inl ⟨wanted_no rfl, ?_⟩
                            exact wp_val (.slice (qc 0).1 (dl (P)) (qc 0).2) (by simp [go_sem, f0, Kc1_1]) ⟨_, rfl, Gr.refl _, rfl⟩
                          · obtain rfl := Option.some.inj zo
                            have l0 := on_of zD 2 (by kernel_rfl)
                            have f0 := zF.at (s := 111) (i := 2) (by kernel_rfl) (by simp) l0
                            have e0 : vals 2 = .slice p1 (dl (x)) n1 := zR 2 l0
                            rw [e0] at f0
                            have l1 := on_of zD 3 (by kernel_rfl)
                            have f1 := zF.at (s := 112) (i := 3) (by kernel_rfl) (by simp) l1
                            have e1 : vals 3 = .slice p16_15 (dl (t9)) n16_15 := zR 3 l1
                            rw [e1] at f1
                            have l2 := on_of zD 5 (by kernel_rfl)
                            have f2 := zF.at (s := 114) (i := 5) (by kernel_rfl) (by simp) l2
                            have e2 : vals 5 = .slice (qc 0).1 (dl (P)) (qc 0).2 := zR 5 l2
                            rw [e2] at f2
                            refine Or.inl ⟨wanted_no rfl, ?_⟩
                            exact wp_retz (k := .n (t10)) (by simp [go_sem, f0, f1, f2]) (show Calls Try.prog 69 #[.slice p1 (dl (x)) n1, .slice p16_15 (dl (t9)) n16_15, .slice (qc 0).1 (dl (P)) (qc 0).2] v12 (Rt (.n (t10)) v12) from sm_any (Sx1.gr hg) (S16_15.gr hg) ((HQ 0).gr hg) lx lt9 hd ht10) (fun u w2 hu hg2 => ⟨_, rfl, hg2, hu⟩)
                          · obtain rfl := Option.some.inj zo
                            have f0 := zF.old (s := 3) (v := .pointer (some ⟨w.heap.size, 0, none⟩)) (by kernel_rfl) rfl
                            refine Or.inl ⟨wanted_no rfl, ?_⟩
                            exact wp_val (.pointer (some ⟨w.heap.size, 1, none⟩)) (by simp [go_sem, f0]) ⟨_, rfl, Gr.refl _, rfl⟩
                          · obtain rfl := Option.some.inj zo
                            have l0 := on_of zD 7 (by kernel_rfl)
                            have f0 := zF.at (s := 116) (i := 7) (by kernel_rfl) (by simp) l0
                            have e0 : vals 7 = .pointer (some ⟨w.heap.size, 1, none⟩) := zR 7 l0
                            rw [e0] at f0
                            refine Or.inl ⟨wanted_no rfl, ?_⟩
                            exact wp_val (.slice (qc 0).1 (dl (P)) (qc 0).2) (by simp [go_sem, f0, Kc1_1]) ⟨_, rfl, Gr.refl _, rfl⟩
                          · obtain rfl := Option.some.inj zo
                            have l0 := on_of zD 0 (by kernel_rfl)
                            have f0 := zF.at (s := 109) (i := 0) (by kernel_rfl) (by simp) l0
                            have e0 : vals 0 = .slice p15_5 (dl (t6)) n15_5 := zR 0 l0
                            rw [e0] at f0
                            have l1 := on_of zD 6 (by kernel_rfl)
                            have f1 := zF.at (s := 115) (i := 6) (by kernel_rfl) (by simp) l1
                            obtain ⟨p1, n1, e1, S1⟩ := (show ∃ p n, vals 6 = .slice p (dl (t10)) n ∧ Sl v12 p (t10) from zR 6 l1)
                            rw [e1] at f1
                            have l2 := on_of zD 8 (by kernel_rfl)
                            have f2 := zF.at (s := 117) (i := 8) (by kernel_rfl) (by simp) l2
                            have e2 : vals 8 = .slice (qc 0).1 (dl (P)) (qc 0).2 := zR 8 l2
                            rw [e2] at f2
                            refine Or.inl ⟨wanted_no rfl, ?_⟩
                            exact wp_retz (k := .n (t11)) (by simp [go_sem, f0, f1, f2]) (show Calls Try.prog 27 #[.slice p15_5 (dl (t6)) n15_5, .slice p1 (dl (t10)) n1, .slice (qc 0).1 (dl (P)) (qc 0).2] v12 (Rt (.n (t11)) v12) from mm_any (S15_5.gr hg) S1 ((HQ 0).gr hg) lt6 lt10 hd ht11) (fun u w2 hu hg2 => ⟨_, rfl, hg2, hu⟩)
                          · obtain rfl := Option.some.inj zo
                            have f0 := zF.old (s := 4) (v := .pointer (some ⟨w.heap.size + 1, 0, none⟩)) (by kernel_rfl) rfl
                            refine Or.inl ⟨wanted_no rfl, ?_⟩
                            exact wp_val (.pointer (some ⟨w.heap.size + 1, 1, none⟩)) (by simp [go_sem, f0]) ⟨_, rfl, Gr.refl _, rfl⟩
                          · obtain rfl := Option.some.inj zo
                            have l0 := on_of zD 10 (by kernel_rfl)
                            have f0 := zF.at (s := 119) (i := 10) (by kernel_rfl) (by simp) l0
                            have e0 : vals 10 = .pointer (some ⟨w.heap.size + 1, 1, none⟩) := zR 10 l0
                            rw [e0] at f0
                            refine Or.inl ⟨wanted_no rfl, ?_⟩
                            exact wp_val (.slice q1 (dl (y)) m1) (by simp [go_sem, f0, Kc2_1]) ⟨_, rfl, Gr.refl _, rfl⟩
                          · obtain rfl := Option.some.inj zo
                            have f0 := zF.old (s := 3) (v := .pointer (some ⟨w.heap.size, 0, none⟩)) (by kernel_rfl) rfl
                            refine Or.inl ⟨wanted_no rfl, ?_⟩
                            exact wp_val (.pointer (some ⟨w.heap.size, 1, none⟩)) (by simp [go_sem, f0]) ⟨_, rfl, Gr.refl _, rfl⟩
                          · obtain rfl := Option.some.inj zo
                            have l0 := on_of zD 12 (by kernel_rfl)
                            have f0 := zF.at (s := 121) (i := 12) (by kernel_rfl) (by simp) l0
                            have e0 : vals 12 = .pointer (some ⟨w.heap.size, 1, none⟩) := zR 12 l0
                            rw [e0] at f0
                            refine Or.inl ⟨wanted_no rfl, ?_⟩
                            exact wp_val (.slice (qc 0).1 (dl (P)) (qc 0).2) (by simp [go_sem, f0, Kc1_1]) ⟨_, rfl, Gr.refl _, rfl⟩
                          · obtain rfl := Option.some.inj zo
                            have l0 := on_of zD 9 (by kernel_rfl)
                            have f0 := zF.at (s := 118) (i := 9) (by kernel_rfl) (by simp) l0
                            obtain ⟨p0, n0, e0, S0⟩ := (show ∃ p n, vals 9 = .slice p (dl (t11)) n ∧ Sl v12 p (t11) from zR 9 l0)
                            rw [e0] at f0
                            have l1 := on_of zD 11 (by kernel_rfl)
                            have f1 := zF.at (s := 120) (i := 11) (by kernel_rfl) (by simp) l1
                            have e1 : vals 11 = .slice q1 (dl (y)) m1 := zR 11 l1
                            rw [e1] at f1
                            have l2 := on_of zD 13 (by kernel_rfl)
                            have f2 := zF.at (s := 122) (i := 13) (by kernel_rfl) (by simp) l2
                            have e2 : vals 13 = .slice (qc 0).1 (dl (P)) (qc 0).2 := zR 13 l2
                            rw [e2] at f2
                            refine Or.inl ⟨wanted_no rfl, ?_⟩
                            exact wp_retz (k := .n (t12)) (by simp [go_sem, f0, f1, f2]) (show Calls Try.prog 69 #[.slice p0 (dl (t11)) n0, .slice q1 (dl (y)) m1, .slice (qc 0).1 (dl (P)) (qc 0).2] v12 (Rt (.n (t12)) v12) from sm_any S0 (Sy1.gr hg) ((HQ 0).gr hg) lt11 ly hd ht12) (fun u w2 hu hg2 => ⟨_, rfl, hg2, hu⟩)
                          · obtain rfl := Option.some.inj zo
                            have l0 := on_of zD 14 (by kernel_rfl)
                            have f0 := zF.at (s := 123) (i := 14) (by kernel_rfl) (by simp) l0
                            obtain ⟨p0, n0, e0, S0⟩ := (show ∃ p n, vals 14 = .slice p (dl (t12)) n ∧ Sl v12 p (t12) from zR 14 l0)
                            rw [e0] at f0
                            refine Or.inl ⟨wanted_no rfl, ?_⟩
                            exact wp_val (.slice p0 (dl (t12)) n0) (by simp [go_sem, f0]) ⟨_, rfl, Gr.refl _, ⟨_, _, rfl, S0⟩⟩
                        case hf =>
                          intro vals v12 hg zR
                          have e17_0 : vals 0 = .slice p15_5 (dl (t6)) n15_5 := zR 0 (by simp)
                          have e17_1 : vals 1 = .pointer (some ⟨w.heap.size + 1, 0, none⟩) := zR 1 (by simp)
                          have e17_2 : vals 2 = .slice p1 (dl (x)) n1 := zR 2 (by simp)
                          have e17_3 : vals 3 = .slice p16_15 (dl (t9)) n16_15 := zR 3 (by simp)
                          have e17_4 : vals 4 = .pointer (some ⟨w.heap.size, 1, none⟩) := zR 4 (by simp)
                          have e17_5 : vals 5 = .slice (qc 0).1 (dl (P)) (qc 0).2 := zR 5 (by simp)
                          obtain ⟨p17_6, n17_6, e17_6, S17_6⟩ := (show ∃ p n, vals 6 = .slice p (dl (t10)) n ∧ Sl v12 p (t10) from zR 6 (by simp))
                          have e17_7 : vals 7 = .pointer (some ⟨w.heap.size, 1, none⟩) := zR 7 (by simp)
                          have e17_8 : vals 8 = .slice (qc 0).1 (dl (P)) (qc 0).2 := zR 8 (by simp)
                          obtain ⟨p17_9, n17_9, e17_9, S17_9⟩ := (show ∃ p n, vals 9 = .slice p (dl (t11)) n ∧ Sl v12 p (t11) from zR 9 (by simp))
                          have e17_10 : vals 10 = .pointer (some ⟨w.heap.size + 1, 1, none⟩) := zR 10 (by simp)
                          have e17_11 : vals 11 = .slice q1 (dl (y)) m1 := zR 11 (by simp)
                          have e17_12 : vals 12 = .pointer (some ⟨w.heap.size, 1, none⟩) := zR 12 (by simp)
                          have e17_13 : vals 13 = .slice (qc 0).1 (dl (P)) (qc 0).2 := zR 13 (by simp)
                          obtain ⟨p17_14, n17_14, e17_14, S17_14⟩ := (show ∃ p n, vals 14 = .slice p (dl (t12)) n ∧ Sl v12 p (t12) from zR 14 (by simp))
                          obtain ⟨p17_15, n17_15, e17_15, S17_15⟩ := (show ∃ p n, vals 15 = .slice p (dl (t12)) n ∧ Sl v12 p (t12) from zR 15 (by simp))
                          simp only [putFrom, Act.put, List.setIfInBounds_toArray, List.set_cons_zero, List.set_cons_succ, e17_0, e17_1, e17_2, e17_3, e17_4, e17_5, e17_6, e17_7, e17_8, e17_9, e17_10, e17_11, e17_12, e17_13, e17_14, e17_15]
                          clear zR e17_0 e17_1 e17_2 e17_3 e17_4 e17_5 e17_6 e17_7 e17_8 e17_9 e17_10 e17_11 e17_12 e17_13 e17_14 e17_15
                          replace G := G.trans hg
                          replace c1 := c1.gr hg
                          replace c2 := c2.gr hg
                          replace c3 := c3.gr hg
                          replace c4 := c4.gr hg
                          replace HQ := fun k => (HQ k).gr hg
                          replace Sx1 := Sx1.gr hg
                          replace Sy1 := Sy1.gr hg
                          replace Sx2 := Sx2.gr hg
                          replace Sy2 := Sy2.gr hg
                          replace S9_6 := S9_6.gr hg
                          replace S9_7 := S9_7.gr hg
                          replace S10_5 := S10_5.gr hg
                          replace S10_8 := S10_8.gr hg
                          replace S10_13 := S10_13.gr hg
                          replace S10_14 := S10_14.gr hg
                          replace S11_6 := S11_6.gr hg
                          replace S11_7 := S11_7.gr hg
                          replace S14_5 := S14_5.gr hg
                          replace S14_7 := S14_7.gr hg
                          replace S15_4 := S15_4.gr hg
                          replace S15_5 := S15_5.gr hg
                          replace S16_4 := S16_4.gr hg
                          replace S16_9 := S16_9.gr hg
                          replace S16_14 := S16_14.gr hg
                          replace S16_15 := S16_15.gr hg
                          clear hg
                          go_upto_region 18 with fail
                          refine wp_region_qTS (by kernel_rfl) 3 (by kernel_rfl) [.c (.slice p16_15 (dl (t9)) n16_15), .c (.slice p17_15 (dl (t12)) n17_15), .pt (t9) (t12) false] ?hs ?hf
                          case hs =>
                            intro listed vals a1 v13 io oo hg zR zF zo zi zD
                            obtain rfl | rfl | rfl : io = 0 ∨ io = 1 ∨ io = 2 := by omega
                            · obtain rfl := Option.some.inj zo
                              have f0 := zF.old (s := 13) (v := .slice p16_15 (dl (t9)) n16_15) (by kernel_rfl) rfl
                              refine Or.inl ⟨wanted_no rfl, ?_⟩
                              exact wp_val (.slice p16_15 (dl (t9)) n16_15) (by simp [go_sem, f0]) ⟨_, rfl, Gr.refl _, rfl⟩
                            · obtain rfl := Option.some.inj zo
                              have f0 := zF.old (s := 14) (v := .slice p17_15 (dl (t12)) n17_15) (by kernel_rfl) rfl
                              refine Or.inl ⟨wanted_no rfl, ?_⟩
                              exact wp_val (.slice p17_15 (dl (t12)) n17_15) (by simp [go_sem, f0]) ⟨_, rfl, Gr.refl _, rfl⟩
                            · obtain rfl := Option.some.inj zo
                              have l0 := on_of zD 0 (by kernel_rfl)
                              have f0 := zF.at (s := 124) (i := 0) (by kernel_rfl) (by simp) l0
                              have e0 : vals 0 = .slice p16_15 (dl (t9)) n16_15 := zR 0 l0
                              rw [e0] at f0
                              have l1 := on_of zD 1 (by kernel_rfl)
                              have f1 := zF.at (s := 125) (i := 1) (by kernel_rfl) (by simp) l1
                              have e1 : vals 1 = .slice p17_15 (dl (t12)) n17_15 := zR 1 l1
                              rw [e1] at f1
                              refine Or.inl ⟨wanted_no rfl, ?_⟩
                              exact wp_val (.agg (ptA p16_15 (t9) n16_15 p17_15 (t12) n17_15 false)) (by simp [go_sem, f0, f1]) ⟨_, rfl, Gr.refl _, ⟨_, _, _, _, rfl, (S16_15.gr hg), (S17_15.gr hg)⟩⟩
                          case hf =>
                            intro listed vals a1 v13 oo hg zR zF zA zo
                            obtain rfl := Option.some.inj zo
                            have f0 := zF.old (s := 6) (v := .pointer (some ⟨w.heap.size + 1 + 1 + 1, 0, none⟩)) (by kernel_rfl) rfl
                            have l18_2 := zA 2 (by decide)
                            have f18_2 := zF.at (s := 126) (i := 2) (by kernel_rfl) (by simp) l18_2
                            obtain ⟨p18_2, n18_2, q18_2, k18_2, e18_2, S18_2, T18_2⟩ := (show ∃ p n q k, vals 2 = .agg (ptA p (t9) n q (t12) k false) ∧ Sl v13 p (t9) ∧ Sl v13 q (t12) from zR 2 (by decide))
                            rw [e18_2] at f18_2
                            have HT := (c4.gr hg).h
                            have FT := (c4.gr hg).f
                            refine wp_skip (w' := setBlk v13 (w.heap.size + 1 + 1 + 1) (ptA p18_2 (t9) n18_2 q18_2 (t12) k18_2 false)) (by simp [go_sem, f0, f18_2, HT, FT]) ⟨rfl, ?_⟩
                            have e18_0 : vals 0 = .slice p16_15 (dl (t9)) n16_15 := zR 0 (by decide)
                            have e18_1 : vals 1 = .slice p17_15 (dl (t12)) n17_15 := zR 1 (by decide)
                            simp only [putFrom, Act.put, List.setIfInBounds_toArray, List.set_cons_zero, List.set_cons_succ, e18_0, e18_1, e18_2]
                            clear zR zF zA e18_0 e18_1 e18_2
                            replace G := G.trans hg
                            replace c1 := c1.gr hg
                            replace c2 := c2.gr hg
                            replace c3 := c3.gr hg
                            replace c4 := c4.gr hg
                            replace HQ := fun k => (HQ k).gr hg
                            replace Sx1 := Sx1.gr hg
                            replace Sy1 := Sy1.gr hg
                            replace Sx2 := Sx2.gr hg
                            replace Sy2 := Sy2.gr hg
                            replace S9_6 := S9_6.gr hg
                            replace S9_7 := S9_7.gr hg
                            replace S10_5 := S10_5.gr hg
                            replace S10_8 := S10_8.gr hg
                            replace S10_13 := S10_13.gr hg
                            replace S10_14 := S10_14.gr hg
                            replace S11_6 := S11_6.gr hg
                            replace S11_7 := S11_7.gr hg
                            replace S14_5 := S14_5.gr hg
                            replace S14_7 := S14_7.gr hg
                            replace S15_4 := S15_4.gr hg
                            replace S15_5 := S15_5.gr hg
                            replace S16_4 := S16_4.gr hg
                            replace S16_9 := S16_9.gr hg
                            replace S16_14 := S16_14.gr hg
                            replace S16_15 := S16_15.gr hg
                            replace S17_6 := S17_6.gr hg
                            replace S17_9 := S17_9.gr hg
                            replace S17_14 := S17_14.gr hg
                            replace S17_15 := S17_15.gr hg
                            clear hg
                            go_wp2_with fail
                            exact bodyPost_ret (res_one Try.results43 (rd_pt _ _ _ _ _ _ _ (by rfl) (blk_setBlk _ _ _ (by rw [HT]; decide)))) rfl ⟨_, rfl, ⟨_, _, _, _, rfl, Sl.set S18_2 (by rw [HT]; exact ptA_no _ _ _ _ _ _ _), Sl.set T18_2 (by rw [HT]; exact ptA_no _ _ _ _ _ _ _)⟩, gr_setNew G (by omega)⟩

end Go.Proofs.Ytgmaalokfgdpaaa
namespace Go.Proofs.Ytgmaalokfgdpaaa
open Go.RowKit
attribute [local go_sem ↓] loadNat_is loadArr_is loadWide_is loadArrW_is storeNat_is storeWide_is
attribute [local go_sem] loadNat loadArr loadWide loadArrW storeNat storeWide idxArr fold9 fold18 nw_size nw_elem pre_self pre_1 pre_2 pre_3 pre_4 pre_5 pre_6 pre_7 pre_8 pre_9 pre_10 pre_11 pre_12 pre_13 pre_14 pre_15 pre_16 pre_17 pre_18 pre_19 pre_20 pre_21 pre_22 pre_23 pre_24 pre_25 pre_26 pre_27 pre_28 pre_29 pre_30 pre_31 pre_32 pre_33 pre_34 pre_35 pre_36 pre_37 pre_38 pre_39 pre_40 gro_size gro_drew gro_drewN drew_gro drewN_gro gro_gro blk_gro frz_gro blk_drew frz_drew blk_drewN frz_drewN blk_alloc_at frz_alloc_at blk_alloc frz_alloc cell_gro frozen_gro cell_alloc_pre frozen_alloc_pre setCell_drewN alloc_drewN setBlk_drew setBlk_drewN setBlk_alloc_at setBlk_alloc setBlk_gro setCell_gro setCell_alloc_pre size_setBlk size_setCell
attribute [local go_sem ↓] loadPt_is storePt_is zvPt_is buildPt_is loadC_is loadPn_is loadCu_is storePn_is zvPn_is buildPn_is storeCu_is zvCu_is buildCu_is Go.wp_at_zero Go.wp_at_succ
attribute [local go_sem] loadPt storePt zvPt buildPt3 buildPt2 buildPtI ptA_size crA_size loadC loadPn loadPX loadPY pnt_size pnt_X pnt_Y storePn zvPn buildPn2 buildPn3 storeCu zvCu buildCu9 cu_size loadCu
set_option maxRecDepth 100000 in
set_option maxHeartbeats 4000000 in
theorem rplus_add (id : Int) (P A B N X Y : Nat) (qc : Nat → Option Addr × Nat) (x1 y1 x2 y2 : Nat) (hd : dl P ≤ 400) (lx1 : x1 < P) (ly1 : y1 < P) (lx2 : x2 < P) (ly2 : y2 < P) (hx : x1 ≠ x2) (h1P : 1 < P) (p1 q1 : Option Addr) (n1 m1 : Nat) (p2 q2 : Option Addr) (n2 m2 : Nat) (iv : Nat) (t1 : Nat) (ht1 : subM y2 y1 P = t1) (t2 : Nat) (ht2 : subM x2 x1 P = t2) (t3 : Nat) (ht3 : t1 * iv % P = t3) (t4 : Nat) (ht4 : t3 * t3 % P = t4) (t5 : Nat) (ht5 : subM t4 x1 P = t5) (t6 : Nat) (ht6 : subM t5 x2 P = t6) (t7 : Nat) (ht7 : subM x1 t6 P = t7) (t8 : Nat) (ht8 : t3 * t7 % P = t8) (t9 : Nat) (ht9 : subM t8 y1 P = t9) (liv : iv < P) (hiv : t2 * iv % P = 1) (w : World) (HQ : ∀ k, Sl w (qc k).1 (six P A B N X Y k)) (Sx1 : Sl w p1 x1) (Sy1 : Sl w q1 y1) (Sx2 : Sl w p2 x2) (Sy2 : Sl w q2 y2) :
    Calls Try.prog 43 #[.agg (crA id (six P A B N X Y) qc), .agg (ptA p1 (x1) n1 q1 (y1) m1 false), .agg (ptA p2 (x2) n2 q2 (y2) m2 false)] w (Rt (.pt t6 t9 false) w) := by
  have hP : 0 < P := by omega
  obtain ⟨zz, ez⟩ : ∃ z, cmpZ x1 x2 = z := ⟨_, rfl⟩
  have bz : (zz == 0) = false := by rw [← ez, cmpZ_nought, decide_eq_false hx]
  have lt1 : t1 < P := ht1 ▸ subM_lt ly2 ly1
  have lt2 : t2 < P := ht2 ▸ subM_lt lx2 lx1
  have lt3 : t3 < P := ht3 ▸ Nat.mod_lt _ hP
  have lt4 : t4 < P := ht4 ▸ Nat.mod_lt _ hP
  have lt5 : t5 < P := ht5 ▸ subM_lt lt4 lx1
  have lt6 : t6 < P := ht6 ▸ subM_lt lt5 lx2
  have lt7 : t7 < P := ht7 ▸ subM_lt lx1 lt6
  have lt8 : t8 < P := ht8 ▸ Nat.mod_lt _ hP
  have lt9 : t9 < P := ht9 ▸ subM_lt lt8 ly1
  go_enter Try.func43, Try.ntmps43
  go_upto_region 1 with fail
  refine gen_w (fun v => Gr w v ∧ Vr v (w.heap.size) (crA id (six P A B N X Y) qc) ∧ Vr v (w.heap.size + 1) (ptA p1 (x1) n1 q1 (y1) m1 false) ∧ Vr v (w.heap.size + 1 + 1) (ptA p2 (x2) n2 q2 (y2) m2 false) ∧ Vr v (w.heap.size + 1 + 1 + 1) (ptA none 0 0 none 0 0 false)) ⟨(by repeat (first | exact Gr.refl _ | apply Gr.drewN | apply Gr.drew | apply Gr.alloc | apply Gr.gro)), ⟨by simp [go_sem], by simp [go_sem], by simp [go_sem]⟩, ⟨by simp [go_sem], by simp [go_sem], by simp [go_sem]⟩, ⟨by simp [go_sem], by simp [go_sem], by simp [go_sem]⟩, ⟨by simp [go_sem], by simp [go_sem], by simp [go_sem]⟩⟩ ?_
  rintro v0 ⟨G, c1, c2, c3, c4⟩
  replace HQ := fun k => (HQ k).gr G
  replace Sx1 := Sx1.gr G
  replace Sy1 := Sy1.gr G
  replace Sx2 := Sx2.gr G
  replace Sy2 := Sy2.gr G
  refine wp_region_qS (by kernel_rfl) [.c (.pointer (some ⟨w.heap.size + 1, 2, none⟩)), .c (.bool false)] ?hs ?hf
  case hs =>
    intro listed vals a1 v1 io oo hg zR zF zo zD
    have Hc2 : blk v1 (w.heap.size + 1) = ptA p1 (x1) n1 q1 (y1) m1 false := (hg.blk _ c2.p).trans c2.h
    have Kc2_2 : v1.cell? ⟨w.heap.size + 1, 2, none⟩ = some (.bool false) := by rw [cell_blk, Hc2]; rfl
    have zi : io < 2 := by simpa using (Array.getElem?_eq_some_iff.1 zo).1
    obtain rfl | rfl : io = 0 ∨ io = 1 := by omega
    · obtain rfl := Option.some.inj zo
      have f0 := zF.old (s := 4) (v := .pointer (some ⟨w.heap.size + 1, 0, none⟩)) (by kernel_rfl) rfl
      refine Or.inl ⟨wanted_no rfl, ?_⟩
      exact wp_val (.pointer (some ⟨w.heap.size + 1, 2, none⟩)) (by simp [go_sem, f0]) ⟨_, rfl, Gr.refl _, rfl⟩
    · obtain rfl := Option.some.inj zo
      have l0 := on_of zD 0 (by kernel_rfl)
      have f0 := zF.at (s := 15) (i := 0) (by kernel_rfl) (by simp) l0
      have e0 : vals 0 = .pointer (some ⟨w.heap.size + 1, 2, none⟩) := zR 0 l0
      rw [e0] at f0
      refine Or.inl ⟨wanted_no rfl, ?_⟩
      exact wp_val (.bool false) (by simp [go_sem, f0, Kc2_2]) ⟨_, rfl, Gr.refl _, rfl⟩
  case hf =>
    intro vals v1 hg zR
    have e1_0 : vals 0 = .pointer (some ⟨w.heap.size + 1, 2, none⟩) := zR 0 (by simp)
    have e1_1 : vals 1 = .bool false := zR 1 (by simp)
    simp only [putFrom, Act.put, List.setIfInBounds_toArray, List.set_cons_zero, List.set_cons_succ, e1_0, e1_1]
    clear zR e1_0 e1_1
    replace G := G.trans hg
    replace c1 := c1.gr hg
    replace c2 := c2.gr hg
    replace c3 := c3.gr hg
    replace c4 := c4.gr hg
    replace HQ := fun k => (HQ k).gr hg
    replace Sx1 := Sx1.gr hg
    replace Sy1 := Sy1.gr hg
    replace Sx2 := Sx2.gr hg
    replace Sy2 := Sy2.gr hg
    clear hg
    go_upto_region 3 with fail
    refine wp_region_qS (by kernel_rfl) [.c (.pointer (some ⟨w.heap.size + 1 + 1, 2, none⟩)), .c (.bool false)] ?hs ?hf
    case hs =>
      intro listed vals a1 v2 io oo hg zR zF zo zD
      have Hc3 : blk v2 (w.heap.size + 1 + 1) = ptA p2 (x2) n2 q2 (y2) m2 false := (hg.blk _ c3.p).trans c3.h
      have Kc3_2 : v2.cell? ⟨w.heap.size + 1 + 1, 2, none⟩ = some (.bool false) := by rw [cell_blk, Hc3]; rfl
      have zi : io < 2 := by simpa using (Array.getElem?_eq_some_iff.1 zo).1
      obtain rfl | rfl : io = 0 ∨ io = 1 := by omega
      · obtain rfl := Option.some.inj zo
        have f0 := zF.old (s := 5) (v := .pointer (some ⟨w.heap.size + 1 + 1, 0, none⟩)) (by kernel_rfl) rfl
        refine Or.inl ⟨wanted_no rfl, ?_⟩
        exact wp_val (.pointer (some ⟨w.heap.size + 1 + 1, 2, none⟩)) (by simp [go_sem, f0]) ⟨_, rfl, Gr.refl _, rfl⟩
      · obtain rfl := Option.some.inj zo
        have l0 := on_of zD 0 (by kernel_rfl)
        have f0 := zF.at (s := 18) (i := 0) (by kernel_rfl) (by simp) l0
        have e0 : vals 0 = .pointer (some ⟨w.heap.size + 1 + 1, 2, none⟩) := zR 0 l0
        rw [e0] at f0
        refine Or.inl ⟨wanted_no rfl, ?_⟩
        exact wp_val (.bool false) (by simp [go_sem, f0, Kc3_2]) ⟨_, rfl, Gr.refl _, rfl⟩
    case hf =>
      intro vals v2 hg zR
      have e3_0 : vals 0 = .pointer (some ⟨w.heap.size + 1 + 1, 2, none⟩) := zR 0 (by simp)
      have e3_1 : vals 1 = .bool false := zR 1 (by simp)
      simp only [putFrom, Act.put, List.setIfInBounds_toArray, List.set_cons_zero, List.set_cons_succ, e3_0, e3_1]
      clear zR e3_0 e3_1
      replace G := G.trans hg
      replace c1 := c1.gr hg
      replace c2 := c2.gr hg
      replace c3 := c3.gr hg
      replace c4 := c4.gr hg
      replace HQ := fun k => (HQ k).gr hg
      replace Sx1 := Sx1.gr hg
      replace Sy1 := Sy1.gr hg
      replace Sx2 := Sx2.gr hg
      replace Sy2 := Sy2.gr hg
      clear hg
      go_upto_region 5 with fail
      refine wp_region_qS (by kernel_rfl) [.c (.slice none 0 0), .c (.slice none 0 0)] ?hs ?hf
      case hs =>
        intro listed vals a1 v3 io oo hg zR zF zo zD
        have zi : io < 2 := by simpa using (Array.getElem?_eq_some_iff.1 zo).1
        obtain rfl | rfl : io = 0 ∨ io = 1 := by omega
        · obtain rfl := Option.some.inj zo
          refine Or.inl ⟨wanted_no rfl, ?_⟩
          exact wp_val (.slice none 0 0) (by simp [go_sem]) ⟨_, rfl, Gr.refl _, rfl⟩
        · obtain rfl := Option.some.inj zo
          refine Or.inl ⟨wanted_no rfl, ?_⟩
          exact wp_val (.slice none 0 0) (by simp [go_sem]) ⟨_, rfl, Gr.refl _, rfl⟩
      case hf =>
        intro vals v3 hg zR
        have e5_0 : vals 0 = .slice none 0 0 := zR 0 (by simp)
        have e5_1 : vals 1 = .slice none 0 0 := zR 1 (by simp)
        simp only [putFrom, Act.put, List.setIfInBounds_toArray, List.set_cons_zero, List.set_cons_succ, e5_0, e5_1]
        clear zR e5_0 e5_1
        replace G := G.trans hg
        replace c1 := c1.gr hg
        replace c2 := c2.gr hg
        replace c3 := c3.gr hg
        replace c4 := c4.gr hg
        replace HQ := fun k => (HQ k).gr hg
        replace Sx1 := Sx1.gr hg
        replace Sy1 := Sy1.gr hg
        replace Sx2 := Sx2.gr hg
        replace Sy2 := Sy2.gr hg
        clear hg
        go_upto_region 6 with fail
        refine wp_region_qS (by kernel_rfl) [.c (.pointer (some ⟨w.heap.size + 1, 0, none⟩)), .c (.slice p1 (dl (x1)) n1), .c (.pointer (some ⟨w.heap.size + 1 + 1, 0, none⟩)), .c (.slice p2 (dl (x2)) n2), .c (.int .i64 zz), .c (.bool false)] ?hs ?hf
        case hs =>
          intro listed vals a1 v4 io oo hg zR zF zo zD
          have Hc2 : blk v4 (w.heap.size + 1) = ptA p1 (x1) n1 q1 (y1) m1 false := (hg.blk _ c2.p).trans c2.h
          have Kc2_0 : v4.cell? ⟨w.heap.size + 1, 0, none⟩ = some (.slice p1 (dl (x1)) n1) := by rw [cell_blk, Hc2]; rfl
          have Hc3 : blk v4 (w.heap.size + 1 + 1) = ptA p2 (x2) n2 q2 (y2) m2 false := (hg.blk _ c3.p).trans c3.h
          have Kc3_0 : v4.cell? ⟨w.heap.size + 1 + 1, 0, none⟩ = some (.slice p2 (dl (x2)) n2) := by rw [cell_blk, Hc3]; rfl
          have zi : io < 6 := by simpa using (Array.getElem?_eq_some_iff.1 zo).1
          obtain rfl | rfl | rfl | rfl | rfl | rfl : io = 0 ∨ io = 1 ∨ io = 2 ∨ io = 3 ∨ io = 4 ∨ io = 5 := by omega
          · obtain rfl := Option.some.inj zo
            have f0 := zF.old (s := 4) (v := .pointer (some ⟨w.heap.size + 1, 0, none⟩)) (by kernel_rfl) rfl
            refine Or.inl ⟨wanted_no rfl, ?_⟩
            exact wp_val (.pointer (some ⟨w.heap.size + 1, 0, none⟩)) (by simp [go_sem, f0]) ⟨_, rfl, Gr.refl _, rfl⟩
          · obtain rfl := Option.some.inj zo
            have l0 := on_of zD 0 (by kernel_rfl)
            have f0 := zF.at (s := 21) (i := 0) (by kernel_rfl) (by simp) l0
            have e0 : vals 0 = .pointer (some ⟨w.heap.size + 1, 0, none⟩) := zR 0 l0
            rw [e0] at f0
            refine Or.inl ⟨wanted_no rfl, ?_⟩
            exact wp_val (.slice p1 (dl (x1)) n1) (by simp [go_sem, f0, Kc2_0]) ⟨_, rfl, Gr.refl _, rfl⟩
          · obtain rfl := Option.some.inj zo
            have f0 := zF.old (s := 5) (v := .pointer (some ⟨w.heap.size + 1 + 1, 0, none⟩)) (by kernel_rfl) rfl
            refine Or.inl ⟨wanted_no rfl, ?_⟩
            exact wp_val (.pointer (some ⟨w.heap.size + 1 + 1, 0, none⟩)) (by simp [go_sem, f0]) ⟨_, rfl, Gr.refl _, rfl⟩
          · obtain rfl := Option.some.inj zo
            have l0 := on_of zD 2 (by kernel_rfl)
            have f0 := zF.at (s := 23) (i := 2) (by kernel_rfl) (by simp) l0
            have e0 : vals 2 = .pointer (some ⟨w.heap.size + 1 + 1, 0, none⟩) := zR 2 l0
            rw [e0] at f0
            refine Or.inl ⟨wanted_no rfl, ?_⟩
            exact wp_val (.slice p2 (dl (x2)) n2) (by simp [go_sem, f0, Kc3_0]) ⟨_, rfl, Gr.refl _, rfl⟩
          · obtain rfl := Option.some.inj zo
            have l0 := on_of zD 1 (by kernel_rfl)
            have f0 := zF.at (s := 22) (i := 1) (by kernel_rfl) (by simp) l0
            have e0 : vals 1 = .slice p1 (dl (x1)) n1 := zR 1 l0
            rw [e0] at f0
            have l1 := on_of zD 3 (by kernel_rfl)
            have f1 := zF.at (s := 24) (i := 3) (by kernel_rfl) (by simp) l1
            have e1 : vals 3 = .slice p2 (dl (x2)) n2 := zR 3 l1
            rw [e1] at f1
            refine Or.inl ⟨wanted_no rfl, ?_⟩
            exact wp_retz (k := .c (.int .i64 zz)) (by simp [go_sem, f0, f1]) (show Calls Try.prog 26 #[.slice p1 (dl (x1)) n1, .slice p2 (dl (x2)) n2] v4 (Rt (.c (.int .i64 zz)) v4) from cz_any (Sx1.gr hg) (Sx2.gr hg) (dl_low _ P 400 (by omega) hd) (dl_low _ P 400 (by omega) hd) ez) (fun u w2 hu hg2 => ⟨_, rfl, hg2, hu⟩)
          · obtain rfl := Option.some.inj zo
            have l0 := on_of zD 4 (by kernel_rfl)
            have f0 := zF.at (s := 25) (i := 4) (by kernel_rfl) (by simp) l0
            have e0 : vals 4 = .int .i64 zz := zR 4 l0
            rw [e0] at f0
            refine Or.inl ⟨wanted_no rfl, ?_⟩
            exact wp_val (.bool false) (by simp [go_sem, f0, bz]) ⟨_, rfl, Gr.refl _, rfl⟩
        case hf =>
          intro vals v4 hg zR
          have e6_0 : vals 0 = .pointer (some ⟨w.heap.size + 1, 0, none⟩) := zR 0 (by simp)
          have e6_1 : vals 1 = .slice p1 (dl (x1)) n1 := zR 1 (by simp)
          have e6_2 : vals 2 = .pointer (some ⟨w.heap.size + 1 + 1, 0, none⟩) := zR 2 (by simp)
          have e6_3 : vals 3 = .slice p2 (dl (x2)) n2 := zR 3 (by simp)
          have e6_4 : vals 4 = .int .i64 zz := zR 4 (by simp)
          have e6_5 : vals 5 = .bool false := zR 5 (by simp)
          simp only [putFrom, Act.put, List.setIfInBounds_toArray, List.set_cons_zero, List.set_cons_succ, e6_0, e6_1, e6_2, e6_3, e6_4, e6_5]
          clear zR e6_0 e6_1 e6_2 e6_3 e6_4 e6_5
          replace G := G.trans hg
          replace c1 := c1.gr hg
          replace c2 := c2.gr hg
          replace c3 := c3.gr hg
          replace c4 := c4.gr hg
          replace HQ := fun k => (HQ k).gr hg
          replace Sx1 := Sx1.gr hg
          replace Sy1 := Sy1.gr hg
          replace Sx2 := Sx2.gr hg
          replace Sy2 := Sy2.gr hg
          clear hg
          go_upto_region 12 with fail
          refine wp_region_qS (by kernel_rfl) [.c (.pointer (some ⟨w.heap.size + 1 + 1, 1, none⟩)), .c (.slice q2 (dl (y2)) m2), .c (.pointer (some ⟨w.heap.size + 1, 1, none⟩)), .c (.slice q1 (dl (y1)) m1), .c (.pointer (some ⟨w.heap.size, 1, none⟩)), .c (.slice (qc 0).1 (dl (P)) (qc 0).2), .n (t1), .n (t1)] ?hs ?hf
          case hs =>
            intro listed vals a1 v5 io oo hg zR zF zo zD
            have Hc1 : blk v5 (w.heap.size) = crA id (six P A B N X Y) qc := (hg.blk _ c1.p).trans c1.h
            have Kc1_1 : v5.cell? ⟨w.heap.size, 1, none⟩ = some (.slice (qc 0).1 (dl (P)) (qc 0).2) := by rw [cell_blk, Hc1]; rfl
            have Hc2 : blk v5 (w.heap.size + 1) = ptA p1 (x1) n1 q1 (y1) m1 false := (hg.blk _ c2.p).trans c2.h
            have Kc2_1 : v5.cell? ⟨w.heap.size + 1, 1, none⟩ = some (.slice q1 (dl (y1)) m1) := by rw [cell_blk, Hc2]; rfl
            have Hc3 : blk v5 (w.heap.size + 1 + 1) = ptA p2 (x2) n2 q2 (y2) m2 false := (hg.blk _ c3.p).trans c3.h
            have Kc3_1 : v5.cell? ⟨w.heap.size + 1 + 1, 1, none⟩ = some (.slice q2 (dl (y2)) m2) := by rw [cell_blk, Hc3]; rfl
            have zi : io < 8 := by simpa using (Array.getElem?_eq_some_iff.1 zo).1
            obtain rfl | rfl | rfl | rfl | rfl | rfl | rfl | rfl : io = 0 ∨ io = 1 ∨ io = 2 ∨ io = 3 ∨ io = 4 ∨ io = 5 ∨ io = 6 ∨ io = 7 := by omega
            · obtain rfl := Option.some.inj zo
              have f0 := zF.old (s := 5) (v := .pointer (some ⟨w.heap.size + 1 + 1, 0, none⟩)) (by kernel_rfl) rfl
              refine Or.inl ⟨wanted_no rfl, ?_⟩
              exact wp_val (.pointer (some ⟨w.heap.size + 1 + 1, 1, none⟩)) (by simp [go_sem, f0]) ⟨_, rfl, Gr.refl _, rfl⟩
            · obtain rfl := Option.some.inj zo
              have l0 := on_of zD 0 (by kernel_rfl)
              have f0 := zF.at (s := 68) (i := 0) (by kernel_rfl) (by simp) l0
              have e0 : vals 0 = .pointer (some ⟨w.heap.size + 1 + 1, 1, none⟩) := zR 0 l0
              rw [e0] at f0
              refine Or.inl ⟨wanted_no rfl, ?_⟩
              exact wp_val (.slice q2 (dl (y2)) m2) (by simp [go_sem, f0, Kc3_1]) ⟨_, rfl, Gr.refl _, rfl⟩
            · obtain rfl := Option.some.inj zo
              have f0 := zF.old (s := 4) (v := .pointer (some ⟨w.heap.size + 1, 0, none⟩)) (by kernel_rfl) rfl
              refine Or.inl ⟨wanted_no rfl, ?_⟩
              exact wp_val (.pointer (some ⟨w.heap.size + 1, 1, none⟩)) (by simp [go_sem, f0]) ⟨_, rfl, Gr.refl _, rfl⟩
            · obtain rfl := Option.some.inj zo
              have l0 := on_of zD 2 (by kernel_rfl)
              have f0 := zF.at (s := 70) (i := 2) (by kernel_rfl) (by simp) l0
              have e0 : vals 2 = .pointer (some ⟨w.heap.size + 1, 1, none⟩) := zR 2 l0
              rw [e0] at f0
              refine Or.inl ⟨wanted_no rfl, ?_⟩
              exact wp_val (.slice q1 (dl (y1)) m1) (by simp [go_sem, f0, Kc2_1]) ⟨_, rfl, Gr.refl _, rfl⟩
            · obtain rfl := Option.some.inj zo
              have f0 := zF.old (s := 3) (v := .pointer (some ⟨w.heap.size, 0, none⟩)) (by kernel_rfl) rfl
              refine Or.inl ⟨wanted_no rfl, ?_⟩
              exact wp_val (.pointer (some ⟨w.heap.size, 1, none⟩)) (by simp [go_sem, f0]) ⟨_, rfl, Gr.refl _, rfl⟩
            · obtain rfl := Option.some.inj zo
              have l0 := on_of zD 4 (by kernel_rfl)
              have f0 := zF.at (s := 72) (i := 4) (by kernel_rfl) (by simp) l0
              have e0 : vals 4 = .pointer (some ⟨w.heap.size, 1, none⟩) := zR 4 l0
              rw [e0] at f0
              refine Or.inl ⟨wanted_no rfl, ?_⟩
              exact wp_val (.slice (qc 0).1 (dl (P)) (qc 0).2) (by simp [go_sem, f0, Kc1_1]) ⟨_, rfl, Gr.refl _, rfl⟩
            · obtain rfl := Option.some.inj zo
              have l0 := on_of zD 1 (by kernel_rfl)
              have f0 := zF.at (s := 69) (i := 1) (by kernel_rfl) (by simp) l0
              have e0 : vals 1 = .slice q2 (dl (y2)) m2 := zR 1 l0
              rw [e0] at f0
              have l1 := on_of zD 3 (by kernel_rfl)
              have f1 := zF.at (s := 71) (i := 3) (by kernel_rfl) (by simp) l1
              have e1 : vals 3 = .slice q1 (dl (y1)) m1 := zR 3 l1
              rw [e1] at f1
              have l2 := on_of zD 5 (by kernel_rfl)
              have f2 := zF.at (s := 73) (i := 5) (by kernel_rfl) (by simp) l2
              have e2 : vals 5 = .slice (qc 0).1 (dl (P)) (qc 0).2 := zR 5 l2
              rw [e2] at f2
              refine Or.inl ⟨wanted_no rfl, ?_⟩
              exact wp_retz (k := .n (t1)) (by simp [go_sem, f0, f1, f2]) (show Calls Try.prog 69 #[.slice q2 (dl (y2)) m2, .slice q1 (dl (y1)) m1, .slice (qc 0).1 (dl (P)) (qc 0).2] v5 (Rt (.n (t1)) v5) from sm_any (Sy2.gr hg) (Sy1.gr hg) ((HQ 0).gr hg) ly2 ly1 hd ht1) (fun u w2 hu hg2 => ⟨_, rfl, hg2, hu⟩)
            · obtain rfl := Option.some.inj zo
              have l0 := on_of zD 6 (by kernel_rfl)
              have f0 := zF.at (s := 74) (i := 6) (by kernel_rfl) (by simp) l0
              obtain ⟨p0, n0, e0, S0⟩ := (show ∃ p n, vals 6 = .slice p (dl (t1)) n ∧ Sl v5 p (t1) from zR 6 l0)
              rw [e0] at f0
              refine Or.inl ⟨wanted_no rfl, ?_⟩
              exact wp_val (.slice p0 (dl (t1)) n0) (by simp [go_sem, f0]) ⟨_, rfl, Gr.refl _, ⟨_, _, rfl, S0⟩⟩
          case hf =>
            intro vals v5 hg zR
            have e12_0 : vals 0 = .pointer (some ⟨w.heap.size + 1 + 1, 1, none⟩) := zR 0 (by simp)
            have e12_1 : vals 1 = .slice q2 (dl (y2)) m2 := zR 1 (by simp)
            have e12_2 : vals 2 = .pointer (some ⟨w.heap.size + 1, 1, none⟩) := zR 2 (by simp)
            have e12_3 : vals 3 = .slice q1 (dl (y1)) m1 := zR 3 (by simp)
            have e12_4 : vals 4 = .pointer (some ⟨w.heap.size, 1, none⟩) := zR 4 (by simp)
            have e12_5 : vals 5 = .slice (qc 0).1 (dl (P)) (qc 0).2 := zR 5 (by simp)
            obtain ⟨p12_6, n12_6, e12_6, S12_6⟩ := (show ∃ p n, vals 6 = .slice p (dl (t1)) n ∧ Sl v5 p (t1) from zR 6 (by simp))
            obtain ⟨p12_7, n12_7, e12_7, S12_7⟩ := (show ∃ p n, vals 7 = .slice p (dl (t1)) n ∧ Sl v5 p (t1) from zR 7 (by simp))
            simp only [putFrom, Act.put, List.setIfInBounds_toArray, List.set_cons_zero, List.set_cons_succ, e12_0, e12_1, e12_2, e12_3, e12_4, e12_5, e12_6, e12_7]
            clear zR e12_0 e12_1 e12_2 e12_3 e12_4 e12_5 e12_6 e12_7
            replace G := G.trans hg
            replace c1 := c1.gr hg
            replace c2 := c2.gr hg
            replace c3 := c3.gr hg
            replace c4 := c4.gr hg
            replace HQ := fun k => (HQ k).gr hg
            replace Sx1 := Sx1.gr hg
            replace Sy1 := Sy1.gr hg
            replace Sx2 := Sx2.gr hg
            replace Sy2 := Sy2.gr hg
            clear hg
            go_upto_region 13 with fail
            refine wp_region_qS (by kernel_rfl) [.c (.pointer (some ⟨w.heap.size + 1 + 1, 0, none⟩)), .c (.slice p2 (dl (x2)) n2), .c (.pointer (some ⟨w.heap.size + 1, 0, none⟩)), .c (.slice p1 (dl (x1)) n1), .c (.pointer (some ⟨w.heap.size, 1, none⟩)), .c (.slice (qc 0).1 (dl (P)) (qc 0).2), .n (t2), .n (t2)] ?hs ?hf
            case hs =>
              intro listed vals a1 v6 io oo hg zR zF zo zD
              have Hc1 : blk v6 (w.heap.size) = crA id (six P A B N X Y) qc := (hg.blk _ c1.p).trans c1.h
              have Kc1_1 : v6.cell? ⟨w.heap.size, 1, none⟩ = some (.slice (qc 0).1 (dl (P)) (qc 0).2) := by rw [cell_blk, Hc1]; rfl
              have Hc2 : blk v6 (w.heap.size + 1) = ptA p1 (x1) n1 q1 (y1) m1 false := (hg.blk _ c2.p).trans c2.h
              have Kc2_0 : v6.cell? ⟨w.heap.size + 1, 0, none⟩ = some (.slice p1 (dl (x1)) n1) := by rw [cell_blk, Hc2]; rfl
              have Hc3 : blk v6 (w.heap.size + 1 + 1) = ptA p2 (x2) n2 q2 (y2) m2 false := (hg.blk _ c3.p).trans c3.h
              have Kc3_0 : v6.cell? ⟨w.heap.size + 1 + 1, 0, none⟩ = some (.slice p2 (dl (x2)) n2) := by rw [cell_blk, Hc3]; rfl
              have zi : io < 8 := by simpa using (Array.getElem?_eq_some_iff.1 zo).1
              obtain rfl | rfl | rfl | rfl | rfl | rfl | rfl | rfl : io = 0 ∨ io = 1 ∨ io = 2 ∨ io = 3 ∨ io = 4 ∨ io = 5 ∨ io = 6 ∨ io = 7 := by omega
              · obtain rfl := Option.some.inj zo
                have f0 := zF.old (s := 5) (v := .pointer (some ⟨w.heap.size + 1 + 1, 0, none⟩)) (by kernel_rfl) rfl
                refine Or.inl ⟨wanted_no rfl, ?_⟩
                exact wp_val (.pointer (some ⟨w.heap.size + 1 + 1, 0, none⟩)) (by simp [go_sem, f0]) ⟨_, rfl, Gr.refl _, rfl⟩
              · obtain rfl := Option.some.inj zo
                have l0 := on_of zD 0 (by kernel_rfl)
                have f0 := zF.at (s := 75) (i := 0) (by kernel_rfl) (by simp) l0
                have e0 : vals 0 = .pointer (some ⟨w.heap.size + 1 + 1, 0, none⟩) := zR 0 l0
                rw [e0] at f0
                refine Or.inl ⟨wanted_no rfl, ?_⟩
                exact wp_val (.slice p2 (dl (x2)) n2) (by simp [go_sem, f0, Kc3_0]) ⟨_, rfl, Gr.refl _, rfl⟩
              · obtain rfl := Option.some.inj zo
                have f0 := zF.old (s := 4) (v := .pointer (some ⟨w.heap.size + 1, 0, none⟩)) (by kernel_rfl) rfl
                refine Or.inl ⟨wanted_no rfl, ?_⟩
                exact wp_val (.pointer (some ⟨w.heap.size + 1, 0, none⟩)) (by simp [go_sem, f0]) ⟨_, rfl, Gr.refl _, rfl⟩
              · obtain rfl := Option.some.inj zo
                have l0 := on_of zD 2 (by kernel_rfl)
                have f0 := zF.at (s := 77) (i := 2) (by kernel_rfl) (by simp) l0
                have e0 : vals 2 = .pointer (some ⟨w.heap.size + 1, 0, none⟩) := zR 2 l0
                rw [e0] at f0
                refine Or.inl ⟨wanted_no rfl, ?_⟩
                exact wp_val (.slice p1 (dl (x1)) n1) (by simp [go_sem, f0, Kc2_0]) ⟨_, rfl, Gr.refl _, rfl⟩
              · obtain rfl := Option.some.inj zo
                have f0 := zF.old (s := 3) (v := .pointer (some ⟨w.heap.size, 0, none⟩)) (by kernel_rfl) rfl
                refine Or.inl ⟨wanted_no rfl, ?_⟩
                exact wp_val (.pointer (some ⟨w.heap.size, 1, none⟩)) (by simp [go_sem, f0]) ⟨_, rfl, Gr.refl _, rfl⟩
              · obtain rfl := Option.some.inj zo
                have l0 := on_of zD 4 (by kernel_rfl)
                have f0 := zF.at (s := 79) (i := 4) (by kernel_rfl) (by simp) l0
                have e0 : vals 4 = .pointer (some ⟨w.heap.size, 1, none⟩) := zR 4 l0
                rw [e0] at f0
                refine Or.inl ⟨wanted_no rfl, ?_⟩
                exact wp_val (.slice (qc 0).1 (dl (P)) (qc 0).2) (by simp [go_sem, f0, Kc1_1]) ⟨_, rfl, Gr.refl _, rfl⟩
              · obtain rfl := Option.some.inj zo
                have l0 := on_of zD 1 (by kernel_rfl)
                have f0 := zF.at (s := 76) (i := 1) (by kernel_rfl) (by simp) l0
                have e0 : vals 1 = .slice p2 (dl (x2)) n2 := zR 1 l0
                rw [e0] at f0
                have l1 := on_of zD 3 (by kernel_rfl)
                have f1 := zF.at (s := 78) (i := 3) (by kernel_rfl) (by simp) l1
                have e1 : vals 3 = .slice p1 (dl (x1)) n1 := zR 3 l1
                rw [e1] at f1
                have l2 := on_of zD 5 (by kernel_rfl)
                have f2 := zF.at (s := 80) (i := 5) (by kernel_rfl) (by simp) l2
                have e2 : vals 5 = .slice (qc 0).1 (dl (P)) (qc 0).2 := zR 5 l2
                rw [e2] at f2
                refine Or.inl ⟨wanted_no rfl, ?_⟩
                exact wp_retz (k := .n (t2)) (by simp [go_sem, f0, f1, f2]) (show Calls Try.prog 69 #[.slice p2 (dl (x2)) n2, .slice p1 (dl (x1)) n1, .slice (qc 0).1 (dl (P)) (qc 0).2] v6 (Rt (.n (t2)) v6) from sm_any (Sx2.gr hg) (Sx1.gr hg) ((HQ 0).gr hg) lx2 lx1 hd ht2) (fun u w2 hu hg2 => ⟨_, rfl, hg2, hu⟩)
              · obtain rfl := Option.some.inj zo
                have l0 := on_of zD 6 (by kernel_rfl)
                have f0 := zF.at (s := 81) (i := 6) (by kernel_rfl) (by simp) l0
                obtain ⟨p0, n0, e0, S0⟩ := (show ∃ p n, vals 6 = .slice p (dl (t2)) n ∧ Sl v6 p (t2) from zR 6 l0)
                rw [e0] at f0
                refine Or.inl ⟨wanted_no rfl, ?_⟩
                exact wp_val (.slice p0 (dl (t2)) n0) (by simp [go_sem, f0]) ⟨_, rfl, Gr.refl _, ⟨_, _, rfl, S0⟩⟩
            case hf =>
              intro vals v6 hg zR
              have e13_0 : vals 0 = .pointer (some ⟨w.heap.size + 1 + 1, 0, none⟩) := zR 0 (by simp)
              have e13_1 : vals 1 = .slice p2 (dl (x2)) n2 := zR 1 (by simp)
              have e13_2 : vals 2 = .pointer (some ⟨w.heap.size + 1, 0, none⟩) := zR 2 (by simp)
              have e13_3 : vals 3 = .slice p1 (dl (x1)) n1 := zR 3 (by simp)
              have e13_4 : vals 4 = .pointer (some ⟨w.heap.size, 1, none⟩) := zR 4 (by simp)
              have e13_5 : vals 5 = .slice (qc 0).1 (dl (P)) (qc 0).2 := zR 5 (by simp)
              obtain ⟨p13_6, n13_6, e13_6, S13_6⟩ := (show ∃ p n, vals 6 = .slice p (dl (t2)) n ∧ Sl v6 p (t2) from zR 6 (by simp))
              obtain ⟨p13_7, n13_7, e13_7, S13_7⟩ := (show ∃ p n, vals 7 = .slice p (dl (t2)) n ∧ Sl v6 p (t2) from zR 7 (by simp))
              simp only [putFrom, Act.put, List.setIfInBounds_toArray, List.set_cons_zero, List.set_cons_succ, e13_0, e13_1, e13_2, e13_3, e13_4, e13_5, e13_6, e13_7]
              clear zR e13_0 e13_1 e13_2 e13_3 e13_4 e13_5 e13_6 e13_7
              replace G := G.trans hg
              replace c1 := c1.gr hg
              replace c2 := c2.gr hg
              replace c3 := c3.gr hg
              replace c4 := c4.gr hg
              replace HQ := fun k => (HQ k).gr hg
              replace Sx1 := Sx1.gr hg
              replace Sy1 := Sy1.gr hg
              replace Sx2 := Sx2.gr hg
              replace Sy2 := Sy2.gr hg
              replace S12_6 := S12_6.gr hg
              replace S12_7 := S12_7.gr hg
              clear hg
              go_upto_region 14 with fail
              refine wp_region_qS (by kernel_rfl) [.c (.slice p13_7 (dl (t2)) n13_7), .c (.pointer (some ⟨w.heap.size, 1, none⟩)), .c (.slice (qc 0).1 (dl (P)) (qc 0).2), .nb (iv) true, .nb (iv) true, .n (iv), .c (.bool true), .n (iv), .c (.bool true)] ?hs ?hf
              case hs =>
                intro listed vals a1 v7 io oo hg zR zF zo zD
                have Hc1 : blk v7 (w.heap.size) = crA id (six P A B N X Y) qc := (hg.blk _ c1.p).trans c1.h
                have Kc1_1 : v7.cell? ⟨w.heap.size, 1, none⟩ = some (.slice (qc 0).1 (dl (P)) (qc 0).2) := by rw [cell_blk, Hc1]; rfl
                have zi : io < 9 := by simpa using (Array.getElem?_eq_some_iff.1 zo).1
                obtain rfl | rfl | rfl | rfl | rfl | rfl | rfl | rfl | rfl : io = 0 ∨ io = 1 ∨ io = 2 ∨ io = 3 ∨ io = 4 ∨ io = 5 ∨ io = 6 ∨ io = 7 ∨ io = 8 := by omega
                · obtain rfl := Option.some.inj zo
                  have f0 := zF.old (s := 8) (v := .slice p13_7 (dl (t2)) n13_7) (by kernel_rfl) rfl
                  refine Or.inl ⟨wanted_no rfl, ?_⟩
                  exact wp_val (.slice p13_7 (dl (t2)) n13_7) (by simp [go_sem, f0]) ⟨_, rfl, Gr.refl _, rfl⟩
                · obtain rfl := Option.some.inj zo
                  have f0 := zF.old (s := 3) (v := .pointer (some ⟨w.heap.size, 0, none⟩)) (by kernel_rfl) rfl
                  refine Or.inl ⟨wanted_no rfl, ?_⟩
                  exact wp_val (.pointer (some ⟨w.heap.size, 1, none⟩)) (by simp [go_sem, f0]) ⟨_, rfl, Gr.refl _, rfl⟩
                · obtain rfl := Option.some.inj zo
                  have l0 := on_of zD 1 (by kernel_rfl)
                  have f0 := zF.at (s := 84) (i := 1) (by kernel_rfl) (by simp) l0
                  have e0 : vals 1 = .pointer (some ⟨w.heap.size, 1, none⟩) := zR 1 l0
                  rw [e0] at f0
                  refine Or.inl ⟨wanted_no rfl, ?_⟩
                  exact wp_val (.slice (qc 0).1 (dl (P)) (qc 0).2) (by simp [go_sem, f0, Kc1_1]) ⟨_, rfl, Gr.refl _, rfl⟩
                · obtain rfl := Option.some.inj zo
                  have l0 := on_of zD 0 (by kernel_rfl)
                  have f0 := zF.at (s := 83) (i := 0) (by kernel_rfl) (by simp) l0
                  have e0 : vals 0 = .slice p13_7 (dl (t2)) n13_7 := zR 0 l0
                  rw [e0] at f0
                  have l1 := on_of zD 2 (by kernel_rfl)
                  have f1 := zF.at (s := 85) (i := 2) (by kernel_rfl) (by simp) l1
                  have e1 : vals 2 = .slice (qc 0).1 (dl (P)) (qc 0).2 := zR 2 l1
                  rw [e1] at f1
                  refine Or.inl ⟨wanted_no rfl, ?_⟩
                  exact wp_retz (k := .nb (iv) true) (by simp [go_sem, f0, f1]) (show Calls Try.prog 70 #[.slice p13_7 (dl (t2)) n13_7, .slice (qc 0).1 (dl (P)) (qc 0).2] v7 (Rt (.nb (iv) true) v7) from iv_any (S13_7.gr hg) ((HQ 0).gr hg) lt2 hd h1P liv hiv) (fun u w2 hu hg2 => ⟨_, rfl, hg2, hu⟩)
                · obtain rfl := Option.some.inj zo
                  have l0 := on_of zD 3 (by kernel_rfl)
                  have f0 := zF.at (s := 86) (i := 3) (by kernel_rfl) (by simp) l0
                  obtain ⟨p0, n0, e0, S0⟩ := (show ∃ p n, vals 3 = .tuple #[.slice p (dl (iv)) n, .bool true] ∧ Sl v7 p (iv) from zR 3 l0)
                  rw [e0] at f0
                  refine Or.inl ⟨wanted_no rfl, ?_⟩
                  exact wp_val (.tuple #[.slice p0 (dl (iv)) n0, .bool true]) (by simp [go_sem, f0]) ⟨_, rfl, Gr.refl _, ⟨_, _, rfl, S0⟩⟩
                · obtain rfl := Option.some.inj zo
                  have l0 := on_of zD 4 (by kernel_rfl)
                  have f0 := zF.at (s := 82) (i := 4) (by kernel_rfl) (by simp) l0
                  obtain ⟨p0, n0, e0, S0⟩ := (show ∃ p n, vals 4 = .tuple #[.slice p (dl (iv)) n, .bool true] ∧ Sl v7 p (iv) from zR 4 l0)
                  rw [e0] at f0
                  refine Or.inl ⟨wanted_no rfl, ?_⟩
                  exact wp_val (.slice p0 (dl (iv)) n0) (by simp [go_sem, f0]) ⟨_, rfl, Gr.refl _, ⟨_, _, rfl, S0⟩⟩
                · obtain rfl := Option.some.inj zo
                  have l0 := on_of zD 4 (by kernel_rfl)
                  have f0 := zF.at (s := 82) (i := 4) (by kernel_rfl) (by simp) l0
                  obtain ⟨p0, n0, e0, S0⟩ := (show ∃ p n, vals 4 = .tuple #[.slice p (dl (iv)) n, .bool true] ∧ Sl v7 p (iv) from zR 4 l0)
                  rw [e0] at f0
                  refine Or.inl ⟨wanted_no rfl, ?_⟩
                  exact wp_val (.bool true) (by simp [go_sem, f0]) ⟨_, rfl, Gr.refl _, rfl⟩
                · obtain rfl := Option.some.inj zo
                  have l0 := on_of zD 5 (by kernel_rfl)
                  have f0 := zF.at (s := 87) (i := 5) (by kernel_rfl) (by simp) l0
                  obtain ⟨p0, n0, e0, S0⟩ := (show ∃ p n, vals 5 = .slice p (dl (iv)) n ∧ Sl v7 p (iv) from zR 5 l0)
                  rw [e0] at f0
                  refine Or.inl ⟨wanted_no rfl, ?_⟩
                  exact wp_val (.slice p0 (dl (iv)) n0) (by simp [go_sem, f0]) ⟨_, rfl, Gr.refl _, ⟨_, _, rfl, S0⟩⟩
                · obtain rfl := Option.some.inj zo
                  have l0 := on_of zD 6 (by kernel_rfl)
                  have f0 := zF.at (s := 88) (i := 6) (by kernel_rfl) (by simp) l0
                  have e0 : vals 6 = .bool true := zR 6 l0
                  rw [e0] at f0
                  refine Or.inl ⟨wanted_no rfl, ?_⟩
                  exact wp_val (.bool true) (by simp [go_sem, f0]) ⟨_, rfl, Gr.refl _, rfl⟩
              case hf =>
                intro vals v7 hg zR
                have e14_0 : vals 0 = .slice p13_7 (dl (t2)) n13_7 := zR 0 (by simp)
                have e14_1 : vals 1 = .pointer (some ⟨w.heap.size, 1, none⟩) := zR 1 (by simp)
                have e14_2 : vals 2 = .slice (qc 0).1 (dl (P)) (qc 0).2 := zR 2 (by simp)
                obtain ⟨p14_3, n14_3, e14_3, S14_3⟩ := (show ∃ p n, vals 3 = .tuple #[.slice p (dl (iv)) n, .bool true] ∧ Sl v7 p (iv) from zR 3 (by simp))
                obtain ⟨p14_4, n14_4, e14_4, S14_4⟩ := (show ∃ p n, vals 4 = .tuple #[.slice p (dl (iv)) n, .bool true] ∧ Sl v7 p (iv) from zR 4 (by simp))
                obtain ⟨p14_5, n14_5, e14_5, S14_5⟩ := (show ∃ p n, vals 5 = .slice p (dl (iv)) n ∧ Sl v7 p (iv) from zR 5 (by simp))
                have e14_6 : vals 6 = .bool true := zR 6 (by simp)
                obtain ⟨p14_7, n14_7, e14_7, S14_7⟩ := (show ∃ p n, vals 7 = .slice p (dl (iv)) n ∧ Sl v7 p (iv) from zR 7 (by simp))
                have e14_8 : vals 8 = .bool true := zR 8 (by simp)
                simp only [putFrom, Act.put, List.setIfInBounds_toArray, List.set_cons_zero, List.set_cons_succ, e14_0, e14_1, e14_2, e14_3, e14_4, e14_5, e14_6, e14_7, e14_8]
                clear zR e14_0 e14_1 e14_2 e14_3 e14_4 e14_5 e14_6 e14_7 e14_8
                replace G := G.trans hg
                replace c1 := c1.gr hg
                replace c2 := c2.gr hg
                replace c3 := c3.gr hg
                replace c4 := c4.gr hg
                replace HQ := fun k => (HQ k).gr hg
                replace Sx1 := Sx1.gr hg
                replace Sy1 := Sy1.gr hg
                replace Sx2 := Sx2.gr hg
                replace Sy2 := Sy2.gr hg
                replace S12_6 := S12_6.gr hg
                replace S12_7 := S12_7.gr hg
                replace S13_6 := S13_6.gr hg
                replace S13_7 := S13_7.gr hg
                clear hg
                go_upto_region 15 with fail
                refine wp_region_qS (by kernel_rfl) [.c (.slice p12_7 (dl (t1)) n12_7), .c (.slice p14_7 (dl (iv)) n14_7), .c (.pointer (some ⟨w.heap.size, 1, none⟩)), .c (.slice (qc 0).1 (dl (P)) (qc 0).2), .n (t3), .n (t3)] ?hs ?hf
                case hs =>
                  intro listed vals a1 v8 io oo hg zR zF zo zD
                  have Hc1 : blk v8 (w.heap.size) = crA id (six P A B N X Y) qc := (hg.blk _ c1.p).trans c1.h
                  have Kc1_1 : v8.cell? ⟨w.heap.size, 1, none⟩ = some (.slice (qc 0).1 (dl (P)) (qc 0).2) := by rw [cell_blk, Hc1]; rfl
                  have zi : io < 6 := by simpa using (Array.getElem?_eq_some_iff.1 zo).1
                  obtain rfl | rfl | rfl | rfl | rfl | rfl : io = 0 ∨ io = 1 ∨ io = 2 ∨ io = 3 ∨ io = 4 ∨ io = 5 := by omega
                  · obtain rfl := Option.some.inj zo
                    have f0 := zF.old (s := 7) (v := .slice p12_7 (dl (t1)) n12_7) (by kernel_rfl) rfl
                    refine Or.inl ⟨wanted_no rfl, ?_⟩
                    exact wp_val (.slice p12_7 (dl (t1)) n12_7) (by simp [go_sem, f0]) ⟨_, rfl, Gr.refl _, rfl⟩
                  · obtain rfl := Option.some.inj zo
                    have f0 := zF.old (s := 10) (v := .slice p14_7 (dl (iv)) n14_7) (by kernel_rfl) rfl
                    refine Or.inl ⟨wanted_no rfl, ?_⟩
                    exact wp_val (.slice p14_7 (dl (iv)) n14_7) (by simp [go_sem, f0]) ⟨_, rfl, Gr.refl _, rfl⟩
                  · obtain rfl := Option.some.inj zo
                    have f0 := zF.old (s := 3) (v := .pointer (some ⟨w.heap.size, 0, none⟩)) (by kernel_rfl) rfl
                    refine Or.inl ⟨wanted_no rfl, ?_⟩
                    exact wp_val (.pointer (some ⟨w.heap.size, 1, none⟩)) (by simp [go_sem, f0]) ⟨_, rfl, Gr.refl _, rfl⟩
                  · obtain rfl := Option.some.inj zo
                    have l0 := on_of zD 2 (by kernel_rfl)
                    have f0 := zF.at (s := 91) (i := 2) (by kernel_rfl) (by simp) l0
                    have e0 : vals 2 = .pointer (some ⟨w.heap.size, 1, none⟩) := zR 2 l0
                    rw [e0] at f0
                    refine Or.inl ⟨wanted_no rfl, ?_⟩
                    exact wp_val (.slice (qc 0).1 (dl (P)) (qc 0).2) (by simp [go_sem, f0, Kc1_1]) ⟨_, rfl, Gr.refl _, rfl⟩
                  · obtain rfl := Option.some.inj zo
                    have l0 := on_of zD 0 (by kernel_rfl)
                    have f0 := zF.at (s := 89) (i := 0) (by kernel_rfl) (by simp) l0
                    have e0 : vals 0 = .slice p12_7 (dl (t1)) n12_7 := zR 0 l0
                    rw [e0] at f0
                    have l1 := on_of zD 1 (by kernel_rfl)
                    have f1 := zF.at (s := 90) (i := 1) (by kernel_rfl) (by simp) l1
                    have e1 : vals 1 = .slice p14_7 (dl (iv)) n14_7 := zR 1 l1
                    rw [e1] at f1
                    have l2 := on_of zD 3 (by kernel_rfl)
                    have f2 := zF.at (s := 92) (i := 3) (by kernel_rfl) (by simp) l2
                    have e2 : vals 3 = .slice (qc 0).1 (dl (P)) (qc 0).2 := zR 3 l2
                    rw [e2] at f2
                    refine Or.inl ⟨wanted_no rfl, ?_⟩
                    exact wp_retz (k := .n (t3)) (by simp [go_sem, f0, f1, f2]) (show Calls Try.prog 27 #[.slice p12_7 (dl (t1)) n12_7, .slice p14_7 (dl (iv)) n14_7, .slice (qc 0).1 (dl (P)) (qc 0).2] v8 (Rt (.n (t3)) v8) from mm_any (S12_7.gr hg) (S14_7.gr hg) ((HQ 0).gr hg) lt1 liv hd ht3) (fun u w2 hu hg2 => ⟨_, rfl, hg2, hu⟩)
                  · obtain rfl := Option.some.inj zo
                    have l0 := on_of zD 4 (by kernel_rfl)
                    have f0 := zF.at (s := 93) (i := 4) (by kernel_rfl) (by simp) l0
                    obtain ⟨p0, n0, e0, S0⟩ := (show ∃ p n, vals 4 = .slice p (dl (t3)) n ∧ Sl v8 p (t3) from zR 4 l0)
                    rw [e0] at f0
                    refine Or.inl ⟨wanted_no rfl, ?_⟩
                    exact wp_val (.slice p0 (dl (t3)) n0) (by simp [go_sem, f0]) ⟨_, rfl, Gr.refl _, ⟨_, _, rfl, S0⟩⟩
                case hf =>
                  intro vals v8 hg zR
                  have e15_0 : vals 0 = .slice p12_7 (dl (t1)) n12_7 := zR 0 (by simp)
                  have e15_1 : vals 1 = .slice p14_7 (dl (iv)) n14_7 := zR 1 (by simp)
                  have e15_2 : vals 2 = .pointer (some ⟨w.heap.size, 1, none⟩) := zR 2 (by simp)
                  have e15_3 : vals 3 = .slice (qc 0).1 (dl (P)) (qc 0).2 := zR 3 (by simp)
                  obtain ⟨p15_4, n15_4, e15_4, S15_4⟩ := (show ∃ p n, vals 4 = .slice p (dl (t3)) n ∧ Sl v8 p (t3) from zR 4 (by simp))
                  obtain ⟨p15_5, n15_5, e15_5, S15_5⟩ := (show ∃ p n, vals 5 = .slice p (dl (t3)) n ∧ Sl v8 p (t3) from zR 5 (by simp))
                  simp only [putFrom, Act.put, List.setIfInBounds_toArray, List.set_cons_zero, List.set_cons_succ, e15_0, e15_1, e15_2, e15_3, e15_4, e15_5]
                  clear zR e15_0 e15_1 e15_2 e15_3 e15_4 e15_5
                  replace G := G.trans hg
                  replace c1 := c1.gr hg
                  replace c2 := c2.gr hg
                  replace c3 := c3.gr hg
                  replace c4 := c4.gr hg
                  replace HQ := fun k => (HQ k).gr hg
                  replace Sx1 := Sx1.gr hg
                  replace Sy1 := Sy1.gr hg
                  replace Sx2 := Sx2.gr hg
                  replace Sy2 := Sy2.gr hg
                  replace S12_6 := S12_6.gr hg
                  replace S12_7 := S12_7.gr hg
                  replace S13_6 := S13_6.gr hg
                  replace S13_7 := S13_7.gr hg
                  replace S14_5 := S14_5.gr hg
                  replace S14_7 := S14_7.gr hg
                  clear hg
                  go_upto_region 16 with fail
                  refine wp_region_q (by kernel_rfl) (by kernel_rfl) [.c (.slice p15_5 (dl (t3)) n15_5), .c (.slice p15_5 (dl (t3)) n15_5), .c (.pointer (some ⟨w.heap.size, 1, none⟩)), .c (.slice (qc 0).1 (dl (P)) (qc 0).2), .n (t4), .c (.pointer (some ⟨w.heap.size + 1, 0, none⟩)), .c (.slice p1 (dl (x1)) n1), .c (.pointer (some ⟨w.heap.size, 1, none⟩)), .c (.slice (qc 0).1 (dl (P)) (qc 0).2), .n (t5), .c (.pointer (some ⟨w.heap.size + 1 + 1, 0, none⟩)), .c (.slice p2 (dl (x2)) n2), .c (.pointer (some ⟨w.heap.size, 1, none⟩)), .c (.slice (qc 0).1 (dl (P)) (qc 0).2), .n (t6), .n (t6)] ?hs ?hf
                  case hs =>
                    intro listed vals a1 v9 io oo hg zR zF zo zD
                    have Hc1 : blk v9 (w.heap.size) = crA id (six P A B N X Y) qc := (hg.blk _ c1.p).trans c1.h
                    have Kc1_1 : v9.cell? ⟨w.heap.size, 1, none⟩ = some (.slice (qc 0).1 (dl (P)) (qc 0).2) := by rw [cell_blk, Hc1]; rfl
                    have Hc2 : blk v9 (w.heap.size + 1) = ptA p1 (x1) n1 q1 (y1) m1 false := (hg.blk _ c2.p).trans c2.h
                    have Kc2_0 : v9.cell? ⟨w.heap.size + 1, 0, none⟩ = some (.slice p1 (dl (x1)) n1) := by rw [cell_blk, Hc2]; rfl
                    have Hc3 : blk v9 (w.heap.size + 1 + 1) = ptA p2 (x2) n2 q2 (y2) m2 false := (hg.blk _ c3.p).trans c3.h
                    have Kc3_0 : v9.cell? ⟨w.heap.size + 1 + 1, 0, none⟩ = some (.slice p2 (dl (x2)) n2) := by rw [cell_blk, Hc3]; rfl
                    have zi : io < 16 := by simpa using (Array.getElem?_eq_some_iff.1 zo).1
                    obtain rfl | rfl | rfl | rfl | rfl | rfl | rfl | rfl | rfl | rfl | rfl | rfl | rfl | rfl | rfl | rfl : io = 0 ∨ io = 1 ∨ io = 2 ∨ io = 3 ∨ io = 4 ∨ io = 5 ∨ io = 6 ∨ io = 7 ∨ io = 8 ∨ io = 9 ∨ io = 10 ∨ io = 11 ∨ io = 12 ∨ io = 13 ∨ io = 14 ∨ io = 15 := by omega
                    · obtain rfl := Option.some.inj zo
                      have f0 := zF.old (s := 12) (v := .slice p15_5 (dl (t3)) n15_5) (by kernel_rfl) rfl
                      refine Or.inl ⟨wanted_no rfl, ?_⟩
                      exact wp_val (.slice p15_5 (dl (t3)) n15_5) (by simp [go_sem, f0]) ⟨_, rfl, Gr.refl _, rfl⟩
                    · obtain rfl := Option.some.inj zo
                      have f0 := zF.old (s := 12) (v := .slice p15_5 (dl (t3)) n15_5) (by kernel_rfl) rfl
                      refine Or.inl ⟨wanted_no rfl, ?_⟩
                      exact wp_val (.slice p15_5 (dl (t3)) n15_5) (by simp [go_sem, f0]) ⟨_, rfl, Gr.refl _, rfl⟩
                    · obtain rfl := Option.some.inj zo
                      have f0 := zF.old (s := 3) (v := .pointer (some ⟨w.heap.size, 0, none⟩)) (by kernel_rfl) rfl
                      refine Or.inl ⟨wanted_no rfl, ?_⟩
                      exact wp_val (.pointer (some ⟨w.heap.size, 1, none⟩)) (by simp [go_sem, f0]) ⟨_, rfl, Gr.refl _, rfl⟩
                    · obtain rfl := Option.some.inj zo
                      have l0 := on_of zD 2 (by kernel_rfl)
                      have f0 := zF.at (s := 96) (i := 2) (by kernel_rfl) (by simp) l0
                      have e0 : vals 2 = .pointer (some ⟨w.heap.size, 1, none⟩) := zR 2 l0
                      rw [e0] at f0
                      refine Or.inl ⟨wanted_no rfl, ?_⟩
                      exact wp_val (.slice (qc 0).1 (dl (P)) (qc 0).2) (by simp [go_sem, f0, Kc1_1]) ⟨_, rfl, Gr.refl _, rfl⟩
                    · obtain rfl := Option.some.inj zo
                      have l0 := on_of zD 0 (by kernel_rfl)
                      have f0 := zF.at (s := 94) (i := 0) (by kernel_rfl) (by simp) l0
                      have e0 : vals 0 = .slice p15_5 (dl (t3)) n15_5 := zR 0 l0
                      rw [e0] at f0
                      have l1 := on_of zD 1 (by kernel_rfl)
                      have f1 := zF.at (s := 95) (i := 1) (by kernel_rfl) (by simp) l1
                      have e1 : vals 1 = .slice p15_5 (dl (t3)) n15_5 := zR 1 l1
                      rw [e1] at f1
                      have l2 := on_of zD 3 (by kernel_rfl)
                      have f2 := zF.at (s := 97) (i := 3) (by kernel_rfl) (by simp) l2
                      have e2 : vals 3 = .slice (qc 0).1 (dl (P)) (qc 0).2 := zR 3 l2
                      rw [e2] at f2
                      refine Or.inl ⟨wanted_no rfl, ?_⟩
                      exact wp_retz (k := .n (t4)) (by simp [go_sem, f0, f1, f2]) (show Calls Try.prog 27 #[.slice p15_5 (dl (t3)) n15_5, .slice p15_5 (dl (t3)) n15_5, .slice (qc 0).1 (dl (P)) (qc 0).2] v9 (Rt (.n (t4)) v9) from mm_any (S15_5.gr hg) (S15_5.gr hg) ((HQ 0).gr hg) lt3 lt3 hd ht4) (fun u w2 hu hg2 => ⟨_, rfl, hg2, hu⟩)
                    · obtain rfl := Option.some.inj zo
                      have f0 := zF.old (s := 4) (v := .pointer (some ⟨w.heap.size + 1, 0, none⟩)) (by kernel_rfl) rfl
                      refine Or.inl ⟨wanted_no rfl, ?_⟩
                      exact wp_val (.pointer (some ⟨w.heap.size + 1, 0, none⟩)) (by simp [go_sem, f0]) ⟨_, rfl, Gr.refl _, rfl⟩
                    · obtain rfl := Option.some.inj zo
                      have l0 := on_of zD 5 (by kernel_rfl)
                      have f0 := zF.at (s := 99) (i := 5) (by kernel_rfl) (by simp) l0
                      have e0 : vals 5 = .pointer (some ⟨w.heap.size + 1, 0, none⟩) := zR 5 l0
                      rw [e0] at f0
                      refine Or.inl ⟨wanted_no rfl, ?_⟩
                      exact wp_val (.slice p1 (dl (x1)) n1) (by simp [go_sem, f0, Kc2_0]) ⟨_, rfl, Gr.refl _, rfl⟩
                    · obtain rfl := Option.some.inj zo
                      have f0 := zF.old (s := 3) (v := .pointer (some ⟨w.heap.size, 0, none⟩)) (by kernel_rfl) rfl
                      refine Or.inl ⟨wanted_no rfl, ?_⟩
                      exact wp_val (.pointer (some ⟨w.heap.size, 1, none⟩)) (by simp [go_sem, f0]) ⟨_, rfl, Gr.refl _, rfl⟩
                    · obtain rfl := Option.some.inj zo
                      have l0 := on_of zD 7 (by kernel_rfl)
                      have f0 := zF.at (s := 101) (i := 7) (by kernel_rfl) (by simp) l0
                      have e0 : vals 7 = .pointer (some ⟨w.heap.size, 1, none⟩) := zR 7 l0
                      rw [e0] at f0
                      refine Or.inl ⟨wanted_no rfl, ?_⟩
                      exact wp_val (.slice (qc 0).1 (dl (P)) (qc 0).2) (by simp [go_sem, f0, Kc1_1]) ⟨_, rfl, Gr.refl _, rfl⟩
                    · obtain rfl := Option.some.inj zo
                      have l0 := on_of zD 4 (by kernel_rfl)
                      have f0 := zF.at (s := 98) (i := 4) (by kernel_rfl) (by simp) l0
                      obtain ⟨p0, n0, e0, S0⟩ := (show ∃ p n, vals 4 = .slice p (dl (t4)) n ∧ Sl v9 p (t4) from zR 4 l0)
                      rw [e0] at f0
                      have l1 := on_of zD 6 (by kernel_rfl)
                      have f1 := zF.at (s := 100) (i := 6) (by kernel_rfl) (by simp) l1
                      have e1 : vals 6 = .slice p1 (dl (x1)) n1 := zR 6 l1
                      rw [e1] at f1
                      have l2 := on_of zD 8 (by kernel_rfl)
                      have f2 := zF.at (s := 102) (i := 8) (by kernel_rfl) (by simp) l2
                      have e2 : vals 8 = .slice (qc 0).1 (dl (P)) (qc 0).2 := zR 8 l2
                      rw [e2] at f2
                      refine Or.inl ⟨wanted_no rfl, ?_⟩
                      exact wp_retz (k := .n (t5)) (by simp [go_sem, f0, f1, f2]) (show Calls Try.prog 69 #[.slice p0 (dl (t4)) n0, .slice p1 (dl (x1)) n1, .slice (qc 0).1 (dl (P)) (qc 0).2] v9 (Rt (.n (t5)) v9) from sm_any S0 (Sx1.gr hg) ((HQ 0).gr hg) lt4 lx1 hd ht5) (fun u w2 hu hg2 => ⟨_, rfl, hg2, hu⟩)
                    · obtain rfl := Option.some.inj zo
                      have f0 := zF.old (s := 5) (v := .pointer (some ⟨w.heap.size + 1 + 1, 0, none⟩)) (by kernel_rfl) rfl
                      refine Or.inl ⟨wanted_no rfl, ?_⟩
                      exact wp_val (.pointer (some ⟨w.heap.size + 1 + 1, 0, none⟩)) (by simp [go_sem, f0]) ⟨_, rfl, Gr.refl _, rfl⟩
                    · obtain rfl := Option.some.inj zo
                      have l0 := on_of zD 10 (by kernel_rfl)
                      have f0 := zF.at (s := 104) (i := 10) (by kernel_rfl) (by simp) l0
                      have e0 : vals 10 = .pointer (some ⟨w.heap.size + 1 + 1, 0, none⟩) := zR 10 l0
                      rw [e0] at f0
                      refine Or.inl ⟨wanted_no rfl, ?_⟩
                      exact wp_val (.slice p2 (dl (x2)) n2) (by simp [go_sem, f0, Kc3_0]) ⟨_, rfl, Gr.refl _, rfl⟩
                    · obtain rfl := Option.some.inj zo
                      have f0 := zF.old (s := 3) (v := .pointer (some ⟨w.heap.size, 0, none⟩)) (by kernel_rfl) rfl
                      refine Or.inl ⟨wanted_no rfl, ?_⟩
                      exact wp_val (.pointer (some ⟨w.heap.size, 1, none⟩)) (by simp [go_sem, f0]) ⟨_, rfl, Gr.refl _, rfl⟩
                    · obtain rfl := Option.some.inj zo
                      have l0 := on_of zD 12 (by kernel_rfl)
                      have f0 := zF.at (s := 106) (i := 12) (by kernel_rfl) (by simp) l0
                      have e0 : vals 12 = .pointer (some ⟨w.heap.size, 1, none⟩) := zR 12 l0
                      rw [e0] at f0
                      refine Or.inl ⟨wanted_no rfl, ?_⟩
                      exact wp_val (.slice (qc 0).1 (dl (P)) (qc 0).2) (by simp [go_sem, f0, Kc1_1]) ⟨_, rfl, Gr.refl _, rfl⟩
                    · obtain rfl := Option.some.inj zo
                      have l0 := on_of zD 9 (by kernel_rfl)
                      have f0 := zF.at (s := 103) (i := 9) (by kernel_rfl) (by simp) l0
                      obtain ⟨p0, n0, e0, S0⟩ := (show ∃ p n, vals 9 = .slice p (dl (t5)) n ∧ Sl v9 p (t5) from zR 9 l0)
                      rw [e0] at f0
                      have l1 := on_of zD 11 (by kernel_rfl)
                      have f1 := zF.at (s := 105) (i := 11) (by kernel_rfl) (by simp) l1
                      have e1 : vals 11 = .slice p2 (dl (x2)) n2 := zR 11 l1
                      rw [e1] at f1
                      have l2 := on_of zD 13 (by kernel_rfl)
                      have f2 := zF.at (s := 107) (i := 13) (by kernel_rfl) (by simp) l2
                      have e2 : vals 13 = .slice (qc 0).1 (dl (P)) (qc 0).2 := zR 13 l2
                      rw [e2] at f2
                      refine Or.inl ⟨wanted_no rfl, ?_⟩
                      exact wp_retz (k := .n (t6)) (by simp [go_sem, f0, f1, f2]) (show Calls Try.prog 69 #[.slice p0 (dl (t5)) n0, .slice p2 (dl (x2)) n2, .slice (qc 0).1 (dl (P)) (qc 0).2] v9 (Rt (.n (t6)) v9) from sm_any S0 (Sx2.gr hg) ((HQ 0).gr hg) lt5 lx2 hd ht6) (fun u w2 hu hg2 => ⟨_, rfl, hg2, hu⟩)
                    · obtain rfl := Option.some.inj zo
                      have l0 := on_of zD 14 (by kernel_rfl)
                      have f0 := zF.at (s := 108) (i := 14) (by kernel_rfl) (by simp) l0
                      obtain ⟨p0, n0, e0, S0⟩ := (show ∃ p n, vals 14 = .slice p (dl (t6)) n ∧ Sl v9 p (t6) from zR 14 l0)
                      rw [e0] at f0
                      refine Or.inl ⟨wanted_no rfl, ?_⟩
                      exact wp_val (.slice p0 (dl (t6)) n0) (by simp [go_sem, f0]) ⟨_, rfl, Gr.refl _, ⟨_, _, rfl, S0⟩⟩
                  case hf =>
                    intro vals v9 hg zR
                    have e16_0 : vals 0 = .slice p15_5 (dl (t3)) n15_5 := zR 0 (by simp)
                    have e16_1 : vals 1 = .slice p15_5 (dl (t3)) n15_5 := zR 1 (by simp)
                    have e16_2 : vals 2 = .pointer (some ⟨w.heap.size, 1, none⟩) := zR 2 (by simp)
                    have e16_3 : vals 3 = .slice (qc 0).1 (dl (P)) (qc 0).2 := zR 3 (by simp)
                    obtain ⟨p16_4, n16_4, e16_4, S16_4⟩ := (show ∃ p n, vals 4 = .slice p (dl (t4)) n ∧ Sl v9 p (t4) from zR 4 (by simp))
                    have e16_5 : vals 5 = .pointer (some ⟨w.heap.size + 1, 0, none⟩) := zR 5 (by simp)
                    have e16_6 : vals 6 = .slice p1 (dl (x1)) n1 := zR 6 (by simp)
                    have e16_7 : vals 7 = .pointer (some ⟨w.heap.size, 1, none⟩) := zR 7 (by simp)
                    have e16_8 : vals 8 = .slice (qc 0).1 (dl (P)) (qc 0).2 := zR 8 (by simp)
                    obtain ⟨p16_9, n16_9, e16_9, S16_9⟩ := (show ∃ p n, vals 9 = .slice p (dl (t5)) n ∧ Sl v9 p (t5) from zR 9 (by simp))
                    have e16_10 : vals 10 = .pointer (some ⟨w.heap.size + 1 + 1, 0, none⟩) := zR 10 (by simp)
                    have e16_11 : vals 11 = .slice p2 (dl (x2)) n2 := zR 11 (by simp)
                    have e16_12 : vals 12 = .pointer (some ⟨w.heap.size, 1, none⟩) := zR 12 (by simp)
                    have e16_13 : vals 13 = .slice (qc 0).1 (dl (P)) (qc 0).2 := zR 13 (by simp)
                    obtain ⟨p16_14, n16_14, e16_14, S16_14⟩ := (show ∃ p n, vals 14 = .slice p (dl (t6)) n ∧ Sl v9 p (t6) from zR 14 (by simp))
                    obtain ⟨p16_15, n16_15, e16_15, S16_15⟩ := (show ∃ p n, vals 15 = .slice p (dl (t6)) n ∧ Sl v9 p (t6) from zR 15 (by simp))
                    simp only [putFrom, Act.put, List.setIfInBounds_toArray, List.set_cons_zero, List.set_cons_succ, e16_0, e16_1, e16_2, e16_3, e16_4, e16_5, e16_6, e16_7, e16_8, e16_9, e16_10, e16_11, e16_12, e16_13, e16_14, e16_15]
                    clear zR e16_0 e16_1 e16_2 e16_3 e16_4 e16_5 e16_6 e16_7 e16_8 e16_9 e16_10 e16_11 e16_12 e16_13 e16_14 e16_15
                    replace G := G.trans hg
                    replace c1 := c1.gr hg
                    replace c2 := c2.gr hg
                    replace c3 := c3.gr hg
                    replace c4 := c4.gr hg
                    replace HQ := fun k => (HQ k).gr hg
                    replace Sx1 := Sx1.gr hg
                    replace Sy1 := Sy1.gr hg
                    replace Sx2 := Sx2.gr hg
                    replace Sy2 := Sy2.gr hg
                    replace S12_6 := S12_6.gr hg
                    replace S12_7 := S12_7.gr hg
                    replace S13_6 := S13_6.gr hg
                    replace S13_7 := S13_7.gr hg
                    replace S14_5 := S14_5.gr hg
                    replace S14_7 := S14_7.gr hg
                    replace S15_4 := S15_4.gr hg
                    replace S15_5 := S15_5.gr hg
                    clear hg
                    go_upto_region 17 with fail
                    refine wp_region_q (by kernel_rfl) (by kernel_rfl) [.c (.slice p15_5 (dl (t3)) n15_5), .c (.pointer (some ⟨w.heap.size + 1, 0, none⟩)), .c (.slice p1 (dl (x1)) n1), .c (.slice p16_15 (dl (t6)) n16_15), .c (.pointer (some ⟨w.heap.size, 1, none⟩)), .c (.slice (qc 0).1 (dl (P)) (qc 0).2), .n (t7), .c (.pointer (some ⟨w.heap.size, 1, none⟩)), .c (.slice (qc 0).1 (dl (P)) (qc 0).2), .n (t8), .c (.pointer (some ⟨w.heap.size + 1, 1, none⟩)), .c (.slice q1 (dl (y1)) m1), .c (.pointer (some ⟨w.heap.size, 1, none⟩)), .c (.slice (qc 0).1 (dl (P)) (qc 0).2), .n (t9), .n (t9)] ?hs ?hf
                    case hs =>
                      intro listed vals a1 v10 io oo hg zR zF zo zD
                      have Hc1 : blk v10 (w.heap.size) = crA id (six P A B N X Y) qc := (hg.blk _ c1.p).trans c1.h
                      have Kc1_1 : v10.cell? ⟨w.heap.size, 1, none⟩ = some (.slice (qc 0).1 (dl (P)) (qc 0).2) := by rw [cell_blk, Hc1]; rfl
                      have Hc2 : blk v10 (w.heap.size + 1) = ptA p1 (x1) n1 q1 (y1) m1 false := (hg.blk _ c2.p).trans c2.h
                      have Kc2_0 : v10.cell? ⟨w.heap.size + 1, 0, none⟩ = some (.slice p1 (dl (x1)) n1) := by rw [cell_blk, Hc2]; rfl
                      have Kc2_1 : v10.cell? ⟨w.heap.size + 1, 1, none⟩ = some (.slice q1 (dl (y1)) m1) := by rw [cell_blk, Hc2]; rfl
                      have zi : io < 16 := by simpa using (Array.getElem?_eq_some_iff.1 zo).1
                      obtain rfl | rfl | rfl | rfl | rfl | rfl | rfl | rfl | rfl | rfl | rfl | rfl | rfl | rfl | rfl | rfl : io = 0 ∨ io = 1 ∨ io = 2 ∨ io = 3 ∨ io = 4 ∨ io = 5 ∨ io = 6 ∨ io = 7 ∨ io = 8 ∨ io = 9 ∨ io = 10 ∨ io = 11 ∨ io = 12 ∨ io = 13 ∨ io = 14 ∨ io = 15 := by omega
                      · obtain rfl := Option.some.inj zo
                        have f0 := zF.old (s := 12) (v := .slice p15_5 (dl (t3)) n15_5) (by kernel_rfl) rfl
                        refine Or.inl ⟨wanted_no rfl, ?_⟩
                        exact wp_val (.slice p15_5 (dl (t3)) n15_5) (by simp [go_sem, f0]) ⟨_, rfl, Gr.refl _, rfl⟩
                      · obtain rfl := Option.some.inj zo
                        have f0 := zF.old (s := 4) (v := .pointer (some ⟨w.heap.size + 1, 0, none⟩)) (by kernel_rfl) rfl
                        refine Or.inl ⟨wanted_no rfl, ?_⟩
                        exact wp_val (.pointer (some ⟨w.heap.size + 1, 0, none⟩)) (by simp [go_sem, f0]) ⟨_, rfl, Gr.refl _, rfl⟩
                      · obtain rfl := Option.some.inj zo
                        have l0 := on_of zD 1 (by kernel_rfl)
                        have f0 := zF.at (s := 110) (i := 1) (by kernel_rfl) (by simp) l0
                        have e0 : vals 1 = .pointer (some ⟨w.heap.size + 1, 0, none⟩) := zR 1 l0
                        rw [e0] at f0
                        refine Or.inl ⟨wanted_no rfl, ?_⟩
                        exact wp_val (.slice p1 (dl (x1)) n1) (by simp [go_sem, f0, Kc2_0]) ⟨_, rfl, Gr.refl _, rfl⟩
                      · obtain rfl := Option.some.inj zo
                        have f0 := zF.old (s := 13) (v := .slice p16_15 (dl (t6)) n16_15) (by kernel_rfl) rfl
                        refine Or.inl ⟨wanted_no rfl, ?_⟩
                        exact wp_val (.slice p16_15 (dl (t6)) n16_15) (by simp [go_sem, f0]) ⟨_, rfl, Gr.refl _, rfl⟩
                      · obtain rfl := Option.some.inj zo
                        have f0 := zF.old (s := 3) (v := .pointer (some ⟨w.heap.size, 0, none⟩)) (by kernel_rfl) rfl
                        refine Or.inl ⟨wanted_no rfl, ?_⟩
                        exact wp_val (.pointer (some ⟨w.heap.size, 1, none⟩)) (by simp [go_sem, f0]) ⟨_, rfl, Gr.refl _, rfl⟩
                      · obtain rfl := Option.some.inj zo
                        have l0 := on_of zD 4 (by kernel_rfl)
                        have f0 := zF.at (s := 113) (i := 4) (by kernel_rfl) (by simp) l0
                        have e0 : vals 4 = .pointer (some ⟨w.heap.size, 1, none⟩) := zR 4 l0
                        rw [e0] at f0
                        refine Or.inl ⟨wanted_no rfl, ?_⟩
                        exact wp_val (.slice (qc 0).1 (dl (P)) (qc 0).2) (by simp [go_sem, f0, Kc1_1]) ⟨_, rfl, Gr.refl _, rfl⟩
                      · obtain rfl := Option.some.inj zo
                        have l0 := on_of zD 2 (by kernel_rfl)
                        have f0 := zF.at (s := 111) (i := 2) (by kernel_rfl) (by simp) l0
                        have e0 : vals 2 = .slice p1 (dl (x1)) n1 := zR 2 l0
                        rw [e0] at f0
                        have l1 := on_of zD 3 (by kernel_rfl)
                        have f1 := zF.at (s := 112) (i := 3) (by kernel_rfl) (by simp) l1
                        have e1 : vals 3 = .slice p16_15 (dl (t6)) n16_15 := zR 3 l1
                        rw [e1] at f1
                        have l2 := on_of zD 5 (by kernel_rfl)
                        have f2 := zF.at (s := 114) (i := 5) (by kernel_rfl) (by simp) l2
                        have e2 : vals 5 = .slice (qc 0).1 (dl (P)) (qc 0).2 := zR 5 l2
                        rw [e2] at f2
                        refine Or.inl ⟨wanted_no rfl, ?_⟩
                        exact wp_retz (k := .n (t7)) (by simp [go_sem, f0, f1, f2]) (show Calls Try.prog 69 #[.slice p1 (dl (x1)) n1, .slice p16_15 (dl (t6)) n16_15, .slice (qc 0).1 (dl (P)) (qc 0).2] v10 (Rt (.n (t7)) v10) from sm_any (Sx1.gr hg) (S16_15.gr hg) ((HQ 0).gr hg) lx1 lt6 hd ht7) (fun u w2 hu hg2 => ⟨_, rfl, hg2, hu⟩)
                      · obtain rfl := Option.some.inj zo
                        have f0 := zF.old (s := 3) (v := .pointer (some ⟨w.heap.size, 0, none⟩)) (by kernel_rfl) rfl
                        refine Or.inl ⟨wanted_no rfl, ?_⟩
                        exact wp_val (.pointer (some ⟨w.heap.size, 1, none⟩)) (by simp [go_sem, f0]) ⟨_, rfl, Gr.refl _, rfl⟩
                      · obtain rfl := Option.some.inj zo
                        have l0 := on_of zD 7 (by kernel_rfl)
                        have f0 := zF.at (s := 116) (i := 7) (by kernel_rfl) (by simp) l0
                        have e0 : vals 7 = .pointer (some ⟨w.heap.size, 1, none⟩) := zR 7 l0
                        rw [e0] at f0
                        refine Or.inl ⟨wanted_no rfl, ?_⟩
                        exact wp_val (.slice (qc 0).1 (dl (P)) (qc 0).2) (by simp [go_sem, f0, Kc1_1]) ⟨_, rfl, Gr.refl _, rfl⟩
                      · obtain rfl := Option.some.inj zo
                        have l0 := on_of zD 0 (by kernel_rfl)
                        have f0 := zF.at (s := 109) (i := 0) (by kernel_rfl) (by simp) l0
                        have e0 : vals 0 = .slice p15_5 (dl (t3)) n15_5 := zR 0 l0
                        rw [e0] at f0
                        have l1 := on_of zD 6 (by kernel_rfl)
                        have f1 := zF.at (s := 115) (i := 6) (by kernel_rfl) (by simp) l1
                        obtain ⟨p1, n1, e1, S1⟩ := (show ∃ p n, vals 6 = .slice p (dl (t7)) n ∧ Sl v10 p (t7) from zR 6 l1)
                        rw [e1] at f1
                        have l2 := on_of zD 8 (by kernel_rfl)
                        have f2 := zF.at (s := 117) (i := 8) (by kernel_rfl) (by simp) l2
                        have e2 : vals 8 = .slice (qc 0).1 (dl (P)) (qc 0).2 := zR 8 l2
                        rw [e2] at f2
                        refine Or.inl ⟨wanted_no rfl, ?_⟩
                        exact wp_retz (k := .n (t8)) (by simp [go_sem, f0, f1, f2]) (show Calls Try.prog 27 #[.slice p15_5 (dl (t3)) n15_5, .slice p1 (dl (t7)) n1, .slice (qc 0).1 (dl (P)) (qc 0).2] v10 (Rt (.n (t8)) v10) from mm_any (S15_5.gr hg) S1 ((HQ 0).gr hg) lt3 lt7 hd ht8) (fun u w2 hu hg2 => ⟨_, rfl, hg2, hu⟩)
                      · obtain rfl := Option.some.inj zo
                        have f0 := zF.old (s := 4) (v := .pointer (some ⟨w.heap.size + 1, 0, none⟩)) (by kernel_rfl) rfl
                        refine Or.inl ⟨wanted_no rfl, ?_⟩
                        exact wp_val (.pointer (some ⟨w.heap.size + 1, 1, none⟩)) (by simp [go_sem, f0]) ⟨_, rfl, Gr.refl _, rfl⟩
                      · obtain rfl := Option.some.inj zo
                        have l0 := on_of zD 10 (by kernel_rfl)
                        have f0 := zF.at (s := 119) (i := 10) (by kernel_rfl) (by simp) l0
                        have e0 : vals 10 = .pointer (some ⟨w.heap.size + 1, 1, none⟩) := zR 10 l0
                        rw [e0] at f0
                        refine Or.inl ⟨wanted_no rfl, ?_⟩
                        exact wp_val (.slice q1 (dl (y1)) m1) (by simp [go_sem, f0, Kc2_1]) ⟨_, rfl, Gr.refl _, rfl⟩
                      · obtain rfl := Option.some.inj zo
                        have f0 := zF.old (s := 3) (v := .pointer (some ⟨w.heap.size, 0, none⟩)) (by kernel_rfl) rfl
                        refine Or.inl ⟨wanted_no rfl, ?_⟩
                        exact wp_val (.pointer (some ⟨w.heap.size, 1, none⟩)) (by simp [go_sem, f0]) ⟨_, rfl, Gr.refl _, rfl⟩
                      · obtain rfl := Option.some.inj zo
                        have l0 := on_of zD 12 (by kernel_rfl)
                        have f0 := zF.at (s := 121) (i := 12) (by kernel_rfl) (by simp) l0
                        have e0 : vals 12 = .pointer (some ⟨w.heap.size, 1, none⟩) := zR 12 l0
                        rw [e0] at f0
                        refine Or.inl ⟨wanted_no rfl, ?_⟩
                        exact wp_val (.slice (qc 0).1 (dl (P)) (qc 0).2) (by simp [go_sem, f0, Kc1_1]) ⟨_, rfl, Gr.refl _, rfl⟩
                      · obtain rfl := Option.some.inj zo
                        have l0 := on_of zD 9 (by kernel_rfl)
                        have f0 := zF.at (s := 118) (i := 9) (by kernel_rfl) (by simp) l0
                        obtain ⟨p0, n0, e0, S0⟩ := (show ∃ p n, vals 9 = .slice p (dl (t8)) n ∧ Sl v10 p (t8) from zR 9 l0)
                        rw [e0] at f0
                        have l1 := on_of zD 11 (by kernel_rfl)
                        have f1 := zF.at (s := 120) (i := 11) (by kernel_rfl) (by simp) l1
                        have e1 : vals 11 = .slice q1 (dl (y1)) m1 := zR 11 l1
                        rw [e1] at f1
                        have l2 := on_of zD 13 (by kernel_rfl)
                        have f2 := zF.at (s := 122) (i := 13) (by kernel_rfl) (by simp) l2
                        have e2 : vals 13 = .slice (qc 0).1 (dl (P)) (qc 0).2 := zR 13 l2
                        rw [e2] at f2
                        refine Or.inl ⟨wanted_no rfl, ?_⟩
                        exact wp_retz (k := .n (t9)) (by simp [go_sem, f0, f1, f2]) (show Calls Try.prog 69 #[.slice p0 (dl (t8)) n0, .slice q1 (dl (y1)) m1, .slice (qc 0).1 (dl (P)) (qc 0).2] v10 (Rt (.n (t9)) v10) from sm_any S0 (Sy1.gr hg) ((HQ 0).gr hg) lt8 ly1 hd ht9) (fun u w2 hu hg2 => ⟨_, rfl, hg2, hu⟩)
                      · obtain rfl := Option.some.inj zo
                        have l0 := on_of zD 14 (by kernel_rfl)
                        have f0 := zF.at (s := 123) (i := 14) (by kernel_rfl) (by simp) l0
                        obtain ⟨p0, n0, e0, S0⟩ := (show ∃ p n, vals 14 = .slice p (dl (t9)) n ∧ Sl v10 p (t9) from zR 14 l0)
                        rw [e0] at f0
                        refine Or.inl ⟨wanted_no rfl, ?_⟩
                        exact wp_val (.slice p0 (dl (t9)) n0) (by simp [go_sem, f0]) ⟨_, rfl, Gr.refl _, ⟨_, _, rfl, S0⟩⟩
                    case hf =>
                      intro vals v10 hg zR
                      have e17_0 : vals 0 = .slice p15_5 (dl (t3)) n15_5 := zR 0 (by simp)
                      have e17_1 : vals 1 = .pointer (some ⟨w.heap.size + 1, 0, none⟩) := zR 1 (by simp)
                      have e17_2 : vals 2 = .slice p1 (dl (x1)) n1 := zR 2 (by simp)
                      have e17_3 : vals 3 = .slice p16_15 (dl (t6)) n16_15 := zR 3 (by simp)
                      have e17_4 : vals 4 = .pointer (some ⟨w.heap.size, 1, none⟩) := zR 4 (by simp)
                      have e17_5 : vals 5 = .slice (qc 0).1 (dl (P)) (qc 0).2 := zR 5 (by simp)
                      obtain ⟨p17_6, n17_6, e17_6, S17_6⟩ := (show ∃ p n, vals 6 = .slice p (dl (t7)) n ∧ Sl v10 p (t7) from zR 6 (by simp))
                      have e17_7 : vals 7 = .pointer (some ⟨w.heap.size, 1, none⟩) := zR 7 (by simp)
                      have e17_8 : vals 8 = .slice (qc 0).1 (dl (P)) (qc 0).2 := zR 8 (by simp)
                      obtain ⟨p17_9, n17_9, e17_9, S17_9⟩ := (show ∃ p n, vals 9 = .slice p (dl (t8)) n ∧ Sl v10 p (t8) from zR 9 (by simp))
                      have e17_10 : vals 10 = .pointer (some ⟨w.heap.size + 1, 1, none⟩) := zR 10 (by simp)
                      have e17_11 : vals 11 = .slice q1 (dl (y1)) m1 := zR 11 (by simp)
                      have e17_12 : vals 12 = .pointer (some ⟨w.heap.size, 1, none⟩) := zR 12 (by simp)
                      have e17_13 : vals 13 = .slice (qc 0).1 (dl (P)) (qc 0).2 := zR 13 (by simp)
                      obtain ⟨p17_14, n17_14, e17_14, S17_14⟩ := (show ∃ p n, vals 14 = .slice p (dl (t9)) n ∧ Sl v10 p (t9) from zR 14 (by simp))
                      obtain ⟨p17_15, n17_15, e17_15, S17_15⟩ := (show ∃ p n, vals 15 = .slice p (dl (t9)) n ∧ Sl v10 p (t9) from zR 15 (by simp))
                      simp only [putFrom, Act.put, List.setIfInBounds_toArray, List.set_cons_zero, List.set_cons_succ, e17_0, e17_1, e17_2, e17_3, e17_4, e17_5, e17_6, e17_7, e17_8, e17_9, e17_10, e17_11, e17_12, e17_13, e17_14, e17_15]
                      clear zR e17_0 e17_1 e17_2 e17_3 e17_4 e17_5 e17_6 e17_7 e17_8 e17_9 e17_10 e17_11 e17_12 e17_13 e17_14 e17_15
                      replace G := G.trans hg
                      replace c1 := c1.gr hg
                      replace c2 := c2.gr hg
                      replace c3 := c3.gr hg
                      replace c4 := c4.gr hg
                      replace HQ := fun k => (HQ k).gr hg
                      replace Sx1 := Sx1.gr hg
                      replace Sy1 := Sy1.gr hg
                      replace Sx2 := Sx2.gr hg
                      replace Sy2 := Sy2.gr hg
                      replace S12_6 := S12_6.gr hg
                      replace S12_7 := S12_7.gr hg
                      replace S13_6 := S13_6.gr hg
                      replace S13_7 := S13_7.gr hg
                      replace S14_5 := S14_5.gr hg
                      replace S14_7 := S14_7.gr hg
                      replace S15_4 := S15_4.gr hg
                      replace S15_5 := S15_5.gr hg
                      replace S16_4 := S16_4.gr hg
                      replace S16_9 := S16_9.gr hg
                      replace S16_14 := S16_14.gr hg
                      replace S16_15 := S16_15.gr hg
                      clear hg
                      go_upto_region 18 with fail
                      refine wp_region_qTS (by kernel_rfl) 3 (by kernel_rfl) [.c (.slice p16_15 (dl (t6)) n16_15), .c (.slice p17_15 (dl (t9)) n17_15), .pt (t6) (t9) false] ?hs ?hf
                      case hs =>
                        intro listed vals a1 v11 io oo hg zR zF zo zi zD
                        obtain rfl | rfl | rfl : io = 0 ∨ io = 1 ∨ io = 2 := by omega
                        · obtain rfl := Option.some.inj zo
                          have f0 := zF.old (s := 13) (v := .slice p16_15 (dl (t6)) n16_15) (by kernel_rfl) rfl
                          refine Or.inl ⟨wanted_no rfl, ?_⟩
                          exact wp_val (.slice p16_15 (dl (t6)) n16_15) (by simp [go_sem, f0]) ⟨_, rfl, Gr.refl _, rfl⟩
                        · obtain rfl := Option.some.inj zo
                          have f0 := zF.old (s := 14) (v := .slice p17_15 (dl (t9)) n17_15) (by kernel_rfl) rfl
                          refine Or.inl ⟨wanted_no rfl, ?_⟩
                          exact wp_val (.slice p17_15 (dl (t9)) n17_15) (by simp [go_sem, f0]) ⟨_, rfl, Gr.refl _, rfl⟩
                        · obtain rfl := Option.some.inj zo
                          have l0 := on_of zD 0 (by kernel_rfl)
                          have f0 := zF.at (s := 124) (i := 0) (by kernel_rfl) (by simp) l0
                          have e0 : vals 0 = .slice p16_15 (dl (t6)) n16_15 := zR 0 l0
                          rw [e0] at f0
                          have l1 := on_of zD 1 (by kernel_rfl)
                          have f1 := zF.at (s := 125) (i := 1) (by kernel_rfl) (by simp) l1
                          have e1 : vals 1 = .slice p17_15 (dl (t9)) n17_15 := zR 1 l1
                          rw [e1] at f1
                          refine Or.inl ⟨wanted_no rfl, ?_⟩
                          exact wp_val (.agg (ptA p16_15 (t6) n16_15 p17_15 (t9) n17_15 false)) (by simp [go_sem, f0, f1]) ⟨_, rfl, Gr.refl _, ⟨_, _, _, _, rfl, (S16_15.gr hg), (S17_15.gr hg)⟩⟩
                      case hf =>
                        intro listed vals a1 v11 oo hg zR zF zA zo
                        obtain rfl := Option.some.inj zo
                        have f0 := zF.old (s := 6) (v := .pointer (some ⟨w.heap.size + 1 + 1 + 1, 0, none⟩)) (by kernel_rfl) rfl
                        have l18_2 := zA 2 (by decide)
                        have f18_2 := zF.at (s := 126) (i := 2) (by kernel_rfl) (by simp) l18_2
                        obtain ⟨p18_2, n18_2, q18_2, k18_2, e18_2, S18_2, T18_2⟩ := (show ∃ p n q k, vals 2 = .agg (ptA p (t6) n q (t9) k false) ∧ Sl v11 p (t6) ∧ Sl v11 q (t9) from zR 2 (by decide))
                        rw [e18_2] at f18_2
                        have HT := (c4.gr hg).h
                        have FT := (c4.gr hg).f
                        refine wp_skip (w' := setBlk v11 (w.heap.size + 1 + 1 + 1) (ptA p18_2 (t6) n18_2 q18_2 (t9) k18_2 false)) (by simp [go_sem, f0, f18_2, HT, FT]) ⟨rfl, ?_⟩
                        have e18_0 : vals 0 = .slice p16_15 (dl (t6)) n16_15 := zR 0 (by decide)
                        have e18_1 : vals 1 = .slice p17_15 (dl (t9)) n17_15 := zR 1 (by decide)
                        simp only [putFrom, Act.put, List.setIfInBounds_toArray, List.set_cons_zero, List.set_cons_succ, e18_0, e18_1, e18_2]
                        clear zR zF zA e18_0 e18_1 e18_2
                        replace G := G.trans hg
                        replace c1 := c1.gr hg
                        replace c2 := c2.gr hg
                        replace c3 := c3.gr hg
                        replace c4 := c4.gr hg
                        replace HQ := fun k => (HQ k).gr hg
                        replace Sx1 := Sx1.gr hg
                        replace Sy1 := Sy1.gr hg
                        replace Sx2 := Sx2.gr hg
                        replace Sy2 := Sy2.gr hg
                        replace S12_6 := S12_6.gr hg
                        replace S12_7 := S12_7.gr hg
                        replace S13_6 := S13_6.gr hg
                        replace S13_7 := S13_7.gr hg
                        replace S14_5 := S14_5.gr hg
                        replace S14_7 := S14_7.gr hg
                        replace S15_4 := S15_4.gr hg
                        replace S15_5 := S15_5.gr hg
                        replace S16_4 := S16_4.gr hg
                        replace S16_9 := S16_9.gr hg
                        replace S16_14 := S16_14.gr hg
                        replace S16_15 := S16_15.gr hg
                        replace S17_6 := S17_6.gr hg
                        replace S17_9 := S17_9.gr hg
                        replace S17_14 := S17_14.gr hg
                        replace S17_15 := S17_15.gr hg
                        clear hg
                        go_wp2_with fail
                        exact bodyPost_ret (res_one Try.results43 (rd_pt _ _ _ _ _ _ _ (by rfl) (blk_setBlk _ _ _ (by rw [HT]; decide)))) rfl ⟨_, rfl, ⟨_, _, _, _, rfl, Sl.set S18_2 (by rw [HT]; exact ptA_no _ _ _ _ _ _ _), Sl.set T18_2 (by rw [HT]; exact ptA_no _ _ _ _ _ _ _)⟩, gr_setNew G (by omega)⟩

end Go.Proofs.Ytgmaalokfgdpaaa
namespace Go.Proofs.Ytgmaalokfgdpaaa
open Go.RowKit
/-- A point's numbers; of infinity 0 and 0. -/
def ex {p : Nat} : Option (Fin p × Fin p) → Nat
  | none => 0
  | some q => q.1.val
def ey {p : Nat} : Option (Fin p × Fin p) → Nat
  | none => 0
  | some q => q.2.val
def ef {p : Nat} : Option (Fin p × Fin p) → Bool
  | none => true
  | some _ => false
theorem subM_val {p : Nat} (a b : Fin p) : subM a.val b.val p = (a - b).val := by
  have h : (a - b).val = (p - b.val + a.val) % p := Fin.sub_def a b ▸ rfl
  rw [h]
  unfold subM
  have := a.isLt
  have := b.isLt
  split
  · rw [show p - b.val + a.val = a.val - b.val + p by omega, Nat.add_mod_right, Nat.mod_eq_of_lt (by omega)]
  · rw [Nat.mod_eq_of_lt (by omega)]; omega
theorem one_val {p : Nat} [NeZero p] (h : 1 < p) : (1 : Fin p).val = 1 := by
  show 1 % p = 1
  exact Nat.mod_eq_of_lt h
theorem inv_val {p : Nat} [NeZero p] (h : 1 < p) {a b : Fin p} (e : b * a = 1) : a.val * b.val % p = 1 := by
  rw [Nat.mul_comm, ← Fin.val_mul, e, one_val h]
section
variable {P : Nat} [NeZero P] {i : Fin P → Fin P} {A B : Fin P}
theorem rplus_any (C : EC.Cur i A B) (hd : dl P ≤ 400) (id : Int) (N X Y : Nat) (qc : Nat → Option Addr × Nat) (Q1 Q2 : Option (Fin P × Fin P)) (p1 q1 : Option Addr) (n1 m1 : Nat) (p2 q2 : Option Addr) (n2 m2 : Nat) (w : World)
    (HQ : ∀ k, Sl w (qc k).1 (six P A.val B.val N X Y k)) (Sx1 : Sl w p1 (ex Q1)) (Sy1 : Sl w q1 (ey Q1)) (Sx2 : Sl w p2 (ex Q2)) (Sy2 : Sl w q2 (ey Q2)) :
    Calls Try.prog 43 #[.agg (crA id (six P A.val B.val N X Y) qc), .agg (ptA p1 (ex Q1) n1 q1 (ey Q1) m1 (ef Q1)), .agg (ptA p2 (ex Q2) n2 q2 (ey Q2) m2 (ef Q2))] w
      (Rt (.pt (ex (EC.pl i A Q1 Q2)) (ey (EC.pl i A Q1 Q2)) (ef (EC.pl i A Q1 Q2))) w) := by
  have h1P : 1 < P := C.pr.1
  match Q1, Q2, Sx1, Sy1, Sx2, Sy2 with
  | none, Q2, Sx1, Sy1, Sx2, Sy2 => exact rplus_inf1 id P A.val B.val N X Y qc 0 0 (ex Q2) (ey Q2) (ef Q2) p1 q1 n1 m1 p2 q2 n2 m2 w HQ Sx1 Sy1 Sx2 Sy2
  | some (x1, y1), none, Sx1, Sy1, Sx2, Sy2 => exact rplus_inf2 id P A.val B.val N X Y qc x1.val y1.val 0 0 p1 q1 n1 m1 p2 q2 n2 m2 w HQ Sx1 Sy1 Sx2 Sy2
  | some (x1, y1), some (x2, y2), Sx1, Sy1, Sx2, Sy2 =>
    by_cases hx : x1 = x2
    · subst hx
      by_cases hy : y1 = y2
      · subst hy
        by_cases h0 : y1 = 0
        · subst h0
          have e : EC.pl i A (some (x1, 0)) (some (x1, 0)) = none := by simp [EC.pl]
          rw [e]
          have ez : (0 : Fin P).val = 0 := Fin.val_zero P
          have := rplus_flat id P A.val B.val N X Y qc x1.val hd x1.isLt p1 q1 n1 m1 p2 q2 n2 m2 w HQ Sx1 (by have := Sy1; simp only [ey, ez] at this; exact this) Sx2 (by have := Sy2; simp only [ey, ez] at this; exact this)
          simp only [ex, ey, ef, ez]
          exact this
        · have hs : y1 + y1 ≠ 0 := fun h => h0 (C.dbl h)
          have e : EC.pl i A (some (x1, y1)) (some (x1, y1)) = some (EC.sx ((x1 * x1 + (x1 * x1 + x1 * x1) + A) * i (y1 + y1)) x1 x1, EC.sy ((x1 * x1 + (x1 * x1 + x1 * x1) + A) * i (y1 + y1)) x1 y1 (EC.sx ((x1 * x1 + (x1 * x1 + x1 * x1) + A) * i (y1 + y1)) x1 x1)) := by simp [EC.pl, h0]
          rw [e]
          exact rplus_dbl id P A.val B.val N X Y qc x1.val y1.val hd x1.isLt y1.isLt A.isLt (fun h => h0 (Fin.ext (h.trans (Fin.val_zero P).symm))) h1P p1 q1 n1 m1 p2 q2 n2 m2 (i (y1 + y1)).val _ (Fin.val_mul x1 x1).symm _ (Fin.val_add _ _).symm _ (Fin.val_add _ _).symm _ (Fin.val_add _ _).symm _ (Fin.val_add y1 y1).symm
            _ (Fin.val_mul _ _).symm _ (Fin.val_mul _ _).symm _ (subM_val _ _) _ (subM_val _ _) _ (subM_val _ _) _ (Fin.val_mul _ _).symm _ (subM_val _ _) (i (y1 + y1)).isLt (inv_val h1P (C.inv _ hs)) w HQ Sx1 Sy1 Sx2 Sy2
      · have e : EC.pl i A (some (x1, y1)) (some (x1, y2)) = none := by simp [EC.pl, hy]
        rw [e]
        exact rplus_op id P A.val B.val N X Y qc x1.val y1.val y2.val hd x1.isLt y1.isLt y2.isLt (fun h => hy (Fin.ext h)) p1 q1 n1 m1 p2 q2 n2 m2 w HQ Sx1 Sy1 Sx2 Sy2
    · have hs : x2 - x1 ≠ 0 := fun h => hx (EC.sub_zero_of h).symm
      have e : EC.pl i A (some (x1, y1)) (some (x2, y2)) = some (EC.sx ((y2 - y1) * i (x2 - x1)) x1 x2, EC.sy ((y2 - y1) * i (x2 - x1)) x1 y1 (EC.sx ((y2 - y1) * i (x2 - x1)) x1 x2)) := by simp [EC.pl, hx]
      rw [e]
      exact rplus_add id P A.val B.val N X Y qc x1.val y1.val x2.val y2.val hd x1.isLt y1.isLt x2.isLt y2.isLt (fun h => hx (Fin.ext h)) h1P p1 q1 n1 m1 p2 q2 n2 m2 (i (x2 - x1)).val _ (subM_val y2 y1) _ (subM_val x2 x1) _ (Fin.val_mul _ _).symm _ (Fin.val_mul _ _).symm _ (subM_val _ _) _ (subM_val _ _) _ (subM_val _ _) _ (Fin.val_mul _ _).symm _ (subM_val _ _)
        (i (x2 - x1)).isLt (inv_val h1P (C.inv _ hs)) w HQ Sx1 Sy1 Sx2 Sy2
theorem neg_val {p : Nat} [NeZero p] (y : Fin p) (h : y ≠ 0) : p - y.val = (-y).val := by
  have hy : y.val ≠ 0 := fun e => h (Fin.ext (e.trans (Fin.val_zero p).symm))
  have : (-y).val = (p - y.val) % p := Fin.neg_def y ▸ rfl
  rw [this, Nat.mod_eq_of_lt (by omega)]
end

end Go.Proofs.Ytgmaalokfgdpaaa
