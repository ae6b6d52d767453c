import Derived.Test.YtgmaalokfgdpaaaXSEB
namespace Go.Proofs.Ytgmaalokfgdpaaa
open Go.RowKit
attribute [local go_sem ↓] loadNat_is loadArr_is loadWide_is loadArrW_is storeNat_is storeWide_is
attribute [local go_sem] loadNat loadArr loadWide loadArrW storeNat storeWide idxArr fold9 fold18 nw_size nw_elem pre_self pre_1 pre_2 pre_3 pre_4 pre_5 pre_6 pre_7 pre_8 pre_9 pre_10 pre_11 pre_12 pre_13 pre_14 pre_15 pre_16 pre_17 pre_18 pre_19 pre_20 pre_21 pre_22 pre_23 pre_24 pre_25 pre_26 pre_27 pre_28 pre_29 pre_30 pre_31 pre_32 pre_33 pre_34 pre_35 pre_36 pre_37 pre_38 pre_39 pre_40 gro_size gro_drew gro_drewN drew_gro drewN_gro gro_gro blk_gro frz_gro blk_drew frz_drew blk_drewN frz_drewN blk_alloc_at frz_alloc_at blk_alloc frz_alloc cell_gro frozen_gro cell_alloc_pre frozen_alloc_pre setCell_drewN alloc_drewN setBlk_drew setBlk_drewN setBlk_alloc_at setBlk_alloc setBlk_gro setCell_gro setCell_alloc_pre size_setBlk size_setCell
attribute [local go_sem ↓] loadPt_is storePt_is zvPt_is buildPt_is loadC_is loadPn_is loadCu_is storePn_is zvPn_is buildPn_is storeCu_is zvCu_is buildCu_is Go.wp_at_zero Go.wp_at_succ
attribute [local go_sem] loadPt storePt zvPt buildPt3 buildPt2 buildPtI ptA_size crA_size loadC loadPn loadPX loadPY pnt_size pnt_X pnt_Y storePn zvPn buildPn2 buildPn3 storeCu zvCu buildCu9 cu_size loadCu
attribute [local go_sem] frz_setBlk blk_setBlk setBlk_setBlk
section
variable {P : Nat} [NeZero P] {i : Fin P → Fin P} {A B : Fin P}
set_option maxRecDepth 100000 in
set_option maxHeartbeats 4000000 in
theorem rtimes_any (C : EC.Cur i A B) (hd : dl P ≤ 400) (id : Int) (N X Y : Nat) (qc : Nat → Option Addr × Nat) (k nk : Nat) (pk : Option Addr) (hk : dl k ≤ 400) (Q : Option (Fin P × Fin P)) (hQ : EC.On A B Q) (p q : Option Addr) (n m : Nat) (w : World)
    (HQ : ∀ k, Sl w (qc k).1 (six P A.val B.val N X Y k)) (Sk : Sl w pk k) (Sx : Sl w p (ex Q)) (Sy : Sl w q (ey Q)) :
    Calls Try.prog 19 #[.agg (crA id (six P A.val B.val N X Y) qc), .slice pk (dl k) nk, .agg (ptA p (ex Q) n q (ey Q) m (ef Q))] w (Rt (.pt (ex (EC.ml i A k Q)) (ey (EC.ml i A k Q)) (ef (EC.ml i A k Q))) w) := by
  obtain ⟨L, hL⟩ : ∃ L, bl k = L := ⟨_, rfl⟩
  have hL1 : (L : Int) ≤ 12800 := by
    have : (bl k + 31) / 32 ≤ 400 := hk
    omega
  have hL0 : (0 : Int) ≤ (L : Int) := by omega
  have HB : Hid (∀ w', Gr w w' → Calls Try.prog 33 #[.slice pk (dl k) nk] w' fun e w'' => e = .returned (.int .i64 (L : Int)) ∧ w'' = w') := fun w' g => hL ▸ rbits_any k nk pk w' (Sk.gr g) (by omega)
  have HZ : Hid (Unit → k / 2 ^ L = 0) := fun _ => Nat.div_eq_of_lt (hL ▸ (bl_le k (bl k)).1 (Nat.le_refl _))
  have HLk : Hid (Unit → L ≤ 12800) := fun _ => by omega
  clear hL
  go_enter Try.func19, Try.ntmps19
  go_upto_region 3 with (go_at_call 33; refine (HB.out _ (by repeat (first | exact Gr.refl _ | apply Gr.drewN | apply Gr.drew | apply Gr.alloc | apply Gr.gro))).mono ?_; rintro e w' ⟨rfl, rfl⟩)
  obtain ⟨b7, hb7⟩ : ∃ b, w.heap.size + 1 + 1 + 1 = b := ⟨_, rfl⟩
  simp only [hb7]
  refine gen_w (fun v => Hid (Gr w v ∧ Vr v (w.heap.size) (crA id (six P A.val B.val N X Y) qc) ∧ Vr v (w.heap.size + 1) (ptA p (ex Q) n q (ey Q) m (ef Q)) ∧ Vr v (w.heap.size + 1 + 1) (ptA none 0 0 none 0 0 false) ∧ Vr v b7 (ptA none 0 0 none 0 0 true))) ?_ ?_
  · subst hb7
    exact ⟨(by repeat (first | exact Gr.refl _ | apply Gr.drewN | apply Gr.drew | apply Gr.alloc | apply Gr.gro)), ⟨by simp [go_sem], by simp [go_sem], by simp [go_sem]⟩, ⟨by simp [go_sem], by simp [go_sem], by simp [go_sem]⟩, ⟨by simp [go_sem], by simp [go_sem], by simp [go_sem]⟩, ⟨by simp [go_sem], by simp [go_sem], by simp [go_sem]⟩⟩
  intro v0 HV
  have ne0 : b7 ≠ w.heap.size := by omega
  have ne1 : b7 ≠ w.heap.size + 1 := by omega
  have ne2 : b7 ≠ w.heap.size + 1 + 1 := by omega
  have nb7 : w.heap.size ≤ b7 := by omega
  have HN : Hid (Unit → b7 ≠ w.heap.size ∧ b7 ≠ w.heap.size + 1 ∧ b7 ≠ w.heap.size + 1 + 1 ∧ w.heap.size ≤ b7) := fun _ => ⟨ne0, ne1, ne2, nb7⟩
  clear hb7 ne0 ne1 ne2 nb7 HB
  go_loopw [8] (fun ia wr => ∃ (j : Nat) (po : Option Addr) (no : Nat) (qo : Option Addr) (mo : Nat), ia = .int .i64 ((j : Int) - 1) ∧ Hid (Unit → j ≤ L) ∧ Hid (Gr w wr ∧ Vr wr (w.heap.size) (crA id (six P A.val B.val N X Y) qc) ∧ Vr wr (w.heap.size + 1) (ptA p (ex Q) n q (ey Q) m (ef Q)) ∧ Vr wr (w.heap.size + 1 + 1) (ptA none 0 0 none 0 0 false) ∧ Vr wr b7 (ptA po (ex (EC.ml i A (k / 2 ^ j) Q)) no qo (ey (EC.ml i A (k / 2 ^ j) Q)) mo (ef (EC.ml i A (k / 2 ^ j) Q))) ∧ Sl wr po (ex (EC.ml i A (k / 2 ^ j) Q)) ∧ Sl wr qo (ey (EC.ml i A (k / 2 ^ j) Q)))) (fun ia _ => (intOf ia + 1).toNat)
  case atStart =>
    refine ⟨L, none, 0, none, 0, rfl, fun _ => Nat.le_refl _, ?_⟩
    rw [HZ.out ()]
    obtain ⟨h1, h2, h3, h4, h5⟩ := HV.out
    exact ⟨h1, h2, h3, h4, h5, Sl.zero _ _, Sl.zero _ _⟩
  case round =>
    obtain ⟨j, po, no, qo, mo, rfl, HJ, HR⟩ := hrel
    by_cases hpos : 0 < j
    · obtain ⟨i0, rfl⟩ : ∃ i, j = i + 1 := ⟨j - 1, by omega⟩
      have e1 : (((i0 + 1 : Nat) : Int) - 1) = (i0 : Int) := by omega
      rw [e1]
      have j0 : (0 : Int) ≤ (i0 : Int) := by omega
      have j1 : (i0 : Int) < 12800 := by have := HJ.out (); have := HLk.out (); omega
      have HJ2 : i0 ≤ L := by have := HJ.out (); omega
      obtain ⟨R, hR⟩ : ∃ R, EC.ml i A (k / 2 ^ (i0 + 1)) Q = R := ⟨_, rfl⟩
      obtain ⟨R1, hR1⟩ : ∃ R1, EC.pl i A R R = R1 := ⟨_, rfl⟩
      obtain ⟨R2, hR2⟩ : ∃ R2, EC.pl i A R1 Q = R2 := ⟨_, rfl⟩
      rw [hR] at HR
      obtain ⟨G, c1, c2, c3, c7, So, To⟩ := HR.out
      obtain ⟨ne0, ne1, ne2, nb7⟩ := HN.out ()
      replace HQ := fun k => (HQ k).gr G
      replace Sk := Sk.gr G
      replace Sx := Sx.gr G
      replace Sy := Sy.gr G
      have hdiv : ∀ b, k / 2 ^ i0 % 2 = b → k / 2 ^ i0 = k / 2 ^ (i0 + 1) + k / 2 ^ (i0 + 1) + b := fun b hb => by
        rw [Nat.pow_succ, ← Nat.div_div_eq_div_mul]; omega
      have h12 : EC.ml i A (k / 2 ^ (i0 + 1) + k / 2 ^ (i0 + 1)) Q = R1 := by rw [EC.ml_add C hQ, hR, hR1]
      have hbt := fun w' (s : Sl w' pk k) => rbit_any k nk i0 pk w' s (by omega)
      clear HV HR HJ hpos e1
      obtain hb | hb : k / 2 ^ i0 % 2 = 0 ∨ k / 2 ^ i0 % 2 = 1 := by omega
      · have hR3 : R1 = EC.ml i A (k / 2 ^ i0) Q := by rw [hdiv 0 hb, Nat.add_zero, h12]
        have hbit : ∀ w', Sl w' pk k → Calls Try.prog 25 #[.slice pk (dl k) nk, .int .i64 (i0 : Int)] w' fun e w'' => e = .returned (.int .i64 0) ∧ w'' = w' := fun w' s => by
          have := hbt w' s
          rw [show bitN k i0 = 0 from hb] at this
          exact this
        clear hb h12 hdiv hbt
        go_upto_region 5 with fail
        refine wp_region_qTS (by kernel_rfl) 4 (by kernel_rfl) [.c (.agg (crA id (six P A.val B.val N X Y) qc)), .c (.agg (ptA po (ex R) no qo (ey R) mo (ef R))), .c (.agg (ptA po (ex R) no qo (ey R) mo (ef R))), .pt (ex R1) (ey R1) (ef R1)] ?hs ?hf
        case hs =>
          intro listed vals a1 v1 io oo hg zR zF zo zi zD
          have Hc1 : blk v1 (w.heap.size) = crA id (six P A.val B.val N X Y) qc := (hg.blk _ c1.p).trans c1.h
          have Hc7 : blk v1 (b7) = ptA po (ex R) no qo (ey R) mo (ef R) := (hg.blk _ c7.p).trans c7.h
          obtain rfl | rfl | rfl | rfl : io = 0 ∨ io = 1 ∨ io = 2 ∨ io = 3 := by omega
          · obtain rfl := Option.some.inj zo
            have f0 := zF.old (s := 3) (v := .pointer (some ⟨w.heap.size, 0, none⟩)) (by kernel_rfl) rfl
            refine Or.inl ⟨wanted_no rfl, ?_⟩
            exact wp_val (.agg (crA id (six P A.val B.val N X Y) qc)) (by simp [go_sem, f0, Hc1]) ⟨_, rfl, Gr.refl _, rfl⟩
          · obtain rfl := Option.some.inj zo
            have f0 := zF.old (s := 7) (v := .pointer (some ⟨b7, 0, none⟩)) (by kernel_rfl) rfl
            refine Or.inl ⟨wanted_no rfl, ?_⟩
            exact wp_val (.agg (ptA po (ex R) no qo (ey R) mo (ef R))) (by simp [go_sem, f0, Hc7]) ⟨_, rfl, Gr.refl _, rfl⟩
          · obtain rfl := Option.some.inj zo
            have f0 := zF.old (s := 7) (v := .pointer (some ⟨b7, 0, none⟩)) (by kernel_rfl) rfl
            refine Or.inl ⟨wanted_no rfl, ?_⟩
            exact wp_val (.agg (ptA po (ex R) no qo (ey R) mo (ef R))) (by simp [go_sem, f0, Hc7]) ⟨_, rfl, Gr.refl _, rfl⟩
          · obtain rfl := Option.some.inj zo
            have l0 := on_of zD 0 (by kernel_rfl)
            have f0 := zF.at (s := 17) (i := 0) (by kernel_rfl) (by simp) l0
            have e0 : vals 0 = .agg (crA id (six P A.val B.val N X Y) qc) := zR 0 l0
            rw [e0] at f0
            have l1 := on_of zD 1 (by kernel_rfl)
            have f1 := zF.at (s := 18) (i := 1) (by kernel_rfl) (by simp) l1
            have e1 : vals 1 = .agg (ptA po (ex R) no qo (ey R) mo (ef R)) := zR 1 l1
            rw [e1] at f1
            have l2 := on_of zD 2 (by kernel_rfl)
            have f2 := zF.at (s := 19) (i := 2) (by kernel_rfl) (by simp) l2
            have e2 : vals 2 = .agg (ptA po (ex R) no qo (ey R) mo (ef R)) := zR 2 l2
            rw [e2] at f2
            refine Or.inl ⟨wanted_no rfl, ?_⟩
            exact wp_retz (k := .pt (ex R1) (ey R1) (ef R1)) (by simp [go_sem, f0, f1, f2]) (show Calls Try.prog 43 #[.agg (crA id (six P A.val B.val N X Y) qc), .agg (ptA po (ex R) no qo (ey R) mo (ef R)), .agg (ptA po (ex R) no qo (ey R) mo (ef R))] v1 (Rt (.pt (ex R1) (ey R1) (ef R1)) v1) from hR1 ▸ rplus_any C hd id N X Y qc R R po qo no mo po qo no mo _ (fun k => (HQ k).gr hg) (So.gr hg) (To.gr hg) (So.gr hg) (To.gr hg)) (fun u w2 hu hg2 => ⟨_, rfl, hg2, hu⟩)
        case hf =>
          intro listed vals a1 v1 oo hg zR zF zA zo
          obtain rfl := Option.some.inj zo
          have f0 := zF.old (s := 7) (v := .pointer (some ⟨b7, 0, none⟩)) (by kernel_rfl) rfl
          have l5_3 := zA 3 (by decide)
          have f5_3 := zF.at (s := 20) (i := 3) (by kernel_rfl) (by simp) l5_3
          obtain ⟨p5_3, n5_3, q5_3, k5_3, e5_3, S5_3, T5_3⟩ := (show ∃ p n q k, vals 3 = .agg (ptA p (ex R1) n q (ey R1) k (ef R1)) ∧ Sl v1 p (ex R1) ∧ Sl v1 q (ey R1) from zR 3 (by decide))
          rw [e5_3] at f5_3
          have HT := (c7.gr hg).h
          have FT := (c7.gr hg).f
          refine wp_skip (w' := setBlk v1 (b7) (ptA p5_3 (ex R1) n5_3 q5_3 (ey R1) k5_3 (ef R1))) (by simp [go_sem, f0, f5_3, HT, FT]) ⟨rfl, ?_⟩
          have e5_0 : vals 0 = .agg (crA id (six P A.val B.val N X Y) qc) := zR 0 (by decide)
          have e5_1 : vals 1 = .agg (ptA po (ex R) no qo (ey R) mo (ef R)) := zR 1 (by decide)
          have e5_2 : vals 2 = .agg (ptA po (ex R) no qo (ey R) mo (ef R)) := zR 2 (by decide)
          simp only [putFrom, Act.put, List.setIfInBounds_toArray, List.set_cons_zero, List.set_cons_succ, e5_0, e5_1, e5_2, e5_3]
          clear zR zF zA e5_0 e5_1 e5_2 e5_3
          replace G := G.trans hg
          replace c1 := c1.gr hg
          replace c2 := c2.gr hg
          replace c3 := c3.gr hg
          replace c7 := c7.gr hg
          replace HQ := fun k => (HQ k).gr hg
          replace Sk := Sk.gr hg
          replace Sx := Sx.gr hg
          replace Sy := Sy.gr hg
          replace So := So.gr hg
          replace To := To.gr hg
          clear hg
          go_upto_region 6 with fail
          refine gen_w (fun u => Gr w u ∧ Vr u (w.heap.size) (crA id (six P A.val B.val N X Y) qc) ∧ Vr u (w.heap.size + 1) (ptA p (ex Q) n q (ey Q) m (ef Q)) ∧ Vr u (w.heap.size + 1 + 1) (ptA none 0 0 none 0 0 false) ∧ Vr u (b7) (ptA p5_3 (ex R1) n5_3 q5_3 (ey R1) k5_3 (ef R1)) ∧ (∀ k, Sl u (qc k).1 (six P A.val B.val N X Y k)) ∧ Sl u pk (k) ∧ Sl u p (ex Q) ∧ Sl u q (ey Q) ∧ Sl u p5_3 (ex R1) ∧ Sl u q5_3 (ey R1)) ⟨gr_setNew G (by omega), c1.other (ne0), c2.other (ne1), c3.other (ne2), c7.set (by rw [ptA_size]; decide) _, fun k => Sl.set (HQ k) (by rw [HT]; exact ptA_no _ _ _ _ _ _ _), Sl.set Sk (by rw [HT]; exact ptA_no _ _ _ _ _ _ _), Sl.set Sx (by rw [HT]; exact ptA_no _ _ _ _ _ _ _), Sl.set Sy (by rw [HT]; exact ptA_no _ _ _ _ _ _ _), Sl.set S5_3 (by rw [HT]; exact ptA_no _ _ _ _ _ _ _), Sl.set T5_3 (by rw [HT]; exact ptA_no _ _ _ _ _ _ _)⟩ ?_
          clear HT FT
          rintro u5 ⟨G, c1, c2, c3, c7, HQ, Sk, Sx, Sy, S5_3, T5_3⟩
          refine wp_region_qS (by kernel_rfl) [.c (.slice pk (dl (k)) nk), .c (.int .i64 (i0 : Int)), .c (.int .i64 0), .c (.bool false)] ?hs ?hf
          case hs =>
            intro listed vals a1 v2 io oo hg zR zF zo zD
            have zi : io < 4 := by simpa using (Array.getElem?_eq_some_iff.1 zo).1
            obtain rfl | rfl | rfl | rfl : io = 0 ∨ io = 1 ∨ io = 2 ∨ io = 3 := by omega
            · obtain rfl := Option.some.inj zo
              have f0 := zF.old (s := 1) (v := .slice pk (dl (k)) nk) (by kernel_rfl) rfl
              refine Or.inl ⟨wanted_no rfl, ?_⟩
              exact wp_val (.slice pk (dl (k)) nk) (by simp [go_sem, f0]) ⟨_, rfl, Gr.refl _, rfl⟩
            · obtain rfl := Option.some.inj zo
              have f0 := zF.old (s := 8) (v := .int .i64 (i0 : Int)) (by kernel_rfl) rfl
              refine Or.inl ⟨wanted_no rfl, ?_⟩
              exact wp_val (.int .i64 (i0 : Int)) (by simp [go_sem, f0]) ⟨_, rfl, Gr.refl _, rfl⟩
            · obtain rfl := Option.some.inj zo
              have l0 := on_of zD 0 (by kernel_rfl)
              have f0 := zF.at (s := 21) (i := 0) (by kernel_rfl) (by simp) l0
              have e0 : vals 0 = .slice pk (dl (k)) nk := zR 0 l0
              rw [e0] at f0
              have l1 := on_of zD 1 (by kernel_rfl)
              have f1 := zF.at (s := 22) (i := 1) (by kernel_rfl) (by simp) l1
              have e1 : vals 1 = .int .i64 (i0 : Int) := zR 1 l1
              rw [e1] at f1
              refine Or.inl ⟨wanted_no rfl, ?_⟩
              exact wp_retz (k := .c (.int .i64 0)) (by simp [go_sem, f0, f1]) (show Calls Try.prog 25 #[.slice pk (dl (k)) nk, .int .i64 (i0 : Int)] v2 (Rt (.c (.int .i64 0)) v2) from Rt.same (hbit _ (Sk.gr hg))) (fun u w2 hu hg2 => ⟨_, rfl, hg2, hu⟩)
            · obtain rfl := Option.some.inj zo
              have l0 := on_of zD 2 (by kernel_rfl)
              have f0 := zF.at (s := 23) (i := 2) (by kernel_rfl) (by simp) l0
              have e0 : vals 2 = .int .i64 0 := zR 2 l0
              rw [e0] at f0
              refine Or.inl ⟨wanted_no rfl, ?_⟩
              exact wp_val (.bool false) (by simp [go_sem, f0]) ⟨_, rfl, Gr.refl _, rfl⟩
          case hf =>
            intro vals v2 hg zR
            have e6_0 : vals 0 = .slice pk (dl (k)) nk := zR 0 (by simp)
            have e6_1 : vals 1 = .int .i64 (i0 : Int) := zR 1 (by simp)
            have e6_2 : vals 2 = .int .i64 0 := zR 2 (by simp)
            have e6_3 : vals 3 = .bool false := zR 3 (by simp)
            simp only [putFrom, Act.put, List.setIfInBounds_toArray, List.set_cons_zero, List.set_cons_succ, e6_0, e6_1, e6_2, e6_3]
            clear zR e6_0 e6_1 e6_2 e6_3
            replace G := G.trans hg
            replace c1 := c1.gr hg
            replace c2 := c2.gr hg
            replace c3 := c3.gr hg
            replace c7 := c7.gr hg
            replace HQ := fun k => (HQ k).gr hg
            replace Sk := Sk.gr hg
            replace Sx := Sx.gr hg
            replace Sy := Sy.gr hg
            replace S5_3 := S5_3.gr hg
            replace T5_3 := T5_3.gr hg
            clear hg
            go_wp2_with fail
            go_roundw
            case rel =>
              refine ⟨i0, p5_3, n5_3, q5_3, k5_3, by simp, fun _ => HJ2, ?_⟩
              rw [← hR3]
              exact ⟨G, c1, c2, c3, c7, S5_3, T5_3⟩
            case measure => simp [intOf]
      · have hR3 : R2 = EC.ml i A (k / 2 ^ i0) Q := by
          rw [hdiv 1 hb]
          show R2 = EC.pl i A (EC.ml i A (k / 2 ^ (i0 + 1) + k / 2 ^ (i0 + 1)) Q) Q
          rw [h12, hR2]
        have hbit : ∀ w', Sl w' pk k → Calls Try.prog 25 #[.slice pk (dl k) nk, .int .i64 (i0 : Int)] w' fun e w'' => e = .returned (.int .i64 1) ∧ w'' = w' := fun w' s => by
          have := hbt w' s
          rw [show bitN k i0 = 1 from hb] at this
          exact this
        clear hb h12 hdiv hbt
        go_upto_region 5 with fail
        refine wp_region_qTS (by kernel_rfl) 4 (by kernel_rfl) [.c (.agg (crA id (six P A.val B.val N X Y) qc)), .c (.agg (ptA po (ex R) no qo (ey R) mo (ef R))), .c (.agg (ptA po (ex R) no qo (ey R) mo (ef R))), .pt (ex R1) (ey R1) (ef R1)] ?hs ?hf
        case hs =>
          intro listed vals a1 v1 io oo hg zR zF zo zi zD
          have Hc1 : blk v1 (w.heap.size) = crA id (six P A.val B.val N X Y) qc := (hg.blk _ c1.p).trans c1.h
          have Hc7 : blk v1 (b7) = ptA po (ex R) no qo (ey R) mo (ef R) := (hg.blk _ c7.p).trans c7.h
          obtain rfl | rfl | rfl | rfl : io = 0 ∨ io = 1 ∨ io = 2 ∨ io = 3 := by omega
          · obtain rfl := Option.some.inj zo
            have f0 := zF.old (s := 3) (v := .pointer (some ⟨w.heap.size, 0, none⟩)) (by kernel_rfl) rfl
            refine Or.inl ⟨wanted_no rfl, ?_⟩
            exact wp_val (.agg (crA id (six P A.val B.val N X Y) qc)) (by simp [go_sem, f0, Hc1]) ⟨_, rfl, Gr.refl _, rfl⟩
          · obtain rfl := Option.some.inj zo
            have f0 := zF.old (s := 7) (v := .pointer (some ⟨b7, 0, none⟩)) (by kernel_rfl) rfl
            refine Or.inl ⟨wanted_no rfl, ?_⟩
            exact wp_val (.agg (ptA po (ex R) no qo (ey R) mo (ef R))) (by simp [go_sem, f0, Hc7]) ⟨_, rfl, Gr.refl _, rfl⟩
          · obtain rfl := Option.some.inj zo
            have f0 := zF.old (s := 7) (v := .pointer (some ⟨b7, 0, none⟩)) (by kernel_rfl) rfl
            refine Or.inl ⟨wanted_no rfl, ?_⟩
            exact wp_val (.agg (ptA po (ex R) no qo (ey R) mo (ef R))) (by simp [go_sem, f0, Hc7]) ⟨_, rfl, Gr.refl _, rfl⟩
          · obtain rfl := Option.some.inj zo
            have l0 := on_of zD 0 (by kernel_rfl)
            have f0 := zF.at (s := 17) (i := 0) (by kernel_rfl) (by simp) l0
            have e0 : vals 0 = .agg (crA id (six P A.val B.val N X Y) qc) := zR 0 l0
            rw [e0] at f0
            have l1 := on_of zD 1 (by kernel_rfl)
            have f1 := zF.at (s := 18) (i := 1) (by kernel_rfl) (by simp) l1
            have e1 : vals 1 = .agg (ptA po (ex R) no qo (ey R) mo (ef R)) := zR 1 l1
            rw [e1] at f1
            have l2 := on_of zD 2 (by kernel_rfl)
            have f2 := zF.at (s := 19) (i := 2) (by kernel_rfl) (by simp) l2
            have e2 : vals 2 = .agg (ptA po (ex R) no qo (ey R) mo (ef R)) := zR 2 l2
            rw [e2] at f2
            refine Or.inl ⟨wanted_no rfl, ?_⟩
            exact wp_retz (k := .pt (ex R1) (ey R1) (ef R1)) (by simp [go_sem, f0, f1, f2]) (show Calls Try.prog 43 #[.agg (crA id (six P A.val B.val N X Y) qc), .agg (ptA po (ex R) no qo (ey R) mo (ef R)), .agg (ptA po (ex R) no qo (ey R) mo (ef R))] v1 (Rt (.pt (ex R1) (ey R1) (ef R1)) v1) from hR1 ▸ rplus_any C hd id N X Y qc R R po qo no mo po qo no mo _ (fun k => (HQ k).gr hg) (So.gr hg) (To.gr hg) (So.gr hg) (To.gr hg)) (fun u w2 hu hg2 => ⟨_, rfl, hg2, hu⟩)
        case hf =>
          intro listed vals a1 v1 oo hg zR zF zA zo
          obtain rfl := Option.some.inj zo
          have f0 := zF.old (s := 7) (v := .pointer (some ⟨b7, 0, none⟩)) (by kernel_rfl) rfl
          have l5_3 := zA 3 (by decide)
          have f5_3 := zF.at (s := 20) (i := 3) (by kernel_rfl) (by simp) l5_3
          obtain ⟨p5_3, n5_3, q5_3, k5_3, e5_3, S5_3, T5_3⟩ := (show ∃ p n q k, vals 3 = .agg (ptA p (ex R1) n q (ey R1) k (ef R1)) ∧ Sl v1 p (ex R1) ∧ Sl v1 q (ey R1) from zR 3 (by decide))
          rw [e5_3] at f5_3
          have HT := (c7.gr hg).h
          have FT := (c7.gr hg).f
          refine wp_skip (w' := setBlk v1 (b7) (ptA p5_3 (ex R1) n5_3 q5_3 (ey R1) k5_3 (ef R1))) (by simp [go_sem, f0, f5_3, HT, FT]) ⟨rfl, ?_⟩
          have e5_0 : vals 0 = .agg (crA id (six P A.val B.val N X Y) qc) := zR 0 (by decide)
          have e5_1 : vals 1 = .agg (ptA po (ex R) no qo (ey R) mo (ef R)) := zR 1 (by decide)
          have e5_2 : vals 2 = .agg (ptA po (ex R) no qo (ey R) mo (ef R)) := zR 2 (by decide)
          simp only [putFrom, Act.put, List.setIfInBounds_toArray, List.set_cons_zero, List.set_cons_succ, e5_0, e5_1, e5_2, e5_3]
          clear zR zF zA e5_0 e5_1 e5_2 e5_3
          replace G := G.trans hg
          replace c1 := c1.gr hg
          replace c2 := c2.gr hg
          replace c3 := c3.gr hg
          replace c7 := c7.gr hg
          replace HQ := fun k => (HQ k).gr hg
          replace Sk := Sk.gr hg
          replace Sx := Sx.gr hg
          replace Sy := Sy.gr hg
          replace So := So.gr hg
          replace To := To.gr hg
          clear hg
          go_upto_region 6 with fail
          refine gen_w (fun u => Gr w u ∧ Vr u (w.heap.size) (crA id (six P A.val B.val N X Y) qc) ∧ Vr u (w.heap.size + 1) (ptA p (ex Q) n q (ey Q) m (ef Q)) ∧ Vr u (w.heap.size + 1 + 1) (ptA none 0 0 none 0 0 false) ∧ Vr u (b7) (ptA p5_3 (ex R1) n5_3 q5_3 (ey R1) k5_3 (ef R1)) ∧ (∀ k, Sl u (qc k).1 (six P A.val B.val N X Y k)) ∧ Sl u pk (k) ∧ Sl u p (ex Q) ∧ Sl u q (ey Q) ∧ Sl u p5_3 (ex R1) ∧ Sl u q5_3 (ey R1)) ⟨gr_setNew G (by omega), c1.other (ne0), c2.other (ne1), c3.other (ne2), c7.set (by rw [ptA_size]; decide) _, fun k => Sl.set (HQ k) (by rw [HT]; exact ptA_no _ _ _ _ _ _ _), Sl.set Sk (by rw [HT]; exact ptA_no _ _ _ _ _ _ _), Sl.set Sx (by rw [HT]; exact ptA_no _ _ _ _ _ _ _), Sl.set Sy (by rw [HT]; exact ptA_no _ _ _ _ _ _ _), Sl.set S5_3 (by rw [HT]; exact ptA_no _ _ _ _ _ _ _), Sl.set T5_3 (by rw [HT]; exact ptA_no _ _ _ _ _ _ _)⟩ ?_
          clear HT FT
          rintro u5 ⟨G, c1, c2, c3, c7, HQ, Sk, Sx, Sy, S5_3, T5_3⟩
          refine wp_region_qS (by kernel_rfl) [.c (.slice pk (dl (k)) nk), .c (.int .i64 (i0 : Int)), .c (.int .i64 1), .c (.bool true)] ?hs ?hf
          case hs =>
            intro listed vals a1 v2 io oo hg zR zF zo zD
            have zi : io < 4 := by simpa using (Array.getElem?_eq_some_iff.1 zo).1
            obtain rfl | rfl | rfl | rfl : io = 0 ∨ io = 1 ∨ io = 2 ∨ io = 3 := by omega
            · obtain rfl := Option.some.inj zo
              have f0 := zF.old (s := 1) (v := .slice pk (dl (k)) nk) (by kernel_rfl) rfl
              refine Or.inl ⟨wanted_no rfl, ?_⟩
              exact wp_val (.slice pk (dl (k)) nk) (by simp [go_sem, f0]) ⟨_, rfl, Gr.refl _, rfl⟩
            · obtain rfl := Option.some.inj zo
              have f0 := zF.old (s := 8) (v := .int .i64 (i0 : Int)) (by kernel_rfl) rfl
              refine Or.inl ⟨wanted_no rfl, ?_⟩
              exact wp_val (.int .i64 (i0 : Int)) (by simp [go_sem, f0]) ⟨_, rfl, Gr.refl _, rfl⟩
            · obtain rfl := Option.some.inj zo
              have l0 := on_of zD 0 (by kernel_rfl)
              have f0 := zF.at (s := 21) (i := 0) (by kernel_rfl) (by simp) l0
              have e0 : vals 0 = .slice pk (dl (k)) nk := zR 0 l0
              rw [e0] at f0
              have l1 := on_of zD 1 (by kernel_rfl)
              have f1 := zF.at (s := 22) (i := 1) (by kernel_rfl) (by simp) l1
              have e1 : vals 1 = .int .i64 (i0 : Int) := zR 1 l1
              rw [e1] at f1
              refine Or.inl ⟨wanted_no rfl, ?_⟩
              exact wp_retz (k := .c (.int .i64 1)) (by simp [go_sem, f0, f1]) (show Calls Try.prog 25 #[.slice pk (dl (k)) nk, .int .i64 (i0 : Int)] v2 (Rt (.c (.int .i64 1)) v2) from Rt.same (hbit _ (Sk.gr hg))) (fun u w2 hu hg2 => ⟨_, rfl, hg2, hu⟩)
            · obtain rfl := Option.some.inj zo
              have l0 := on_of zD 2 (by kernel_rfl)
              have f0 := zF.at (s := 23) (i := 2) (by kernel_rfl) (by simp) l0
              have e0 : vals 2 = .int .i64 1 := zR 2 l0
              rw [e0] at f0
              refine Or.inl ⟨wanted_no rfl, ?_⟩
              exact wp_val (.bool true) (by simp [go_sem, f0]) ⟨_, rfl, Gr.refl _, rfl⟩
          case hf =>
            intro vals v2 hg zR
            have e6_0 : vals 0 = .slice pk (dl (k)) nk := zR 0 (by simp)
            have e6_1 : vals 1 = .int .i64 (i0 : Int) := zR 1 (by simp)
            have e6_2 : vals 2 = .int .i64 1 := zR 2 (by simp)
            have e6_3 : vals 3 = .bool true := zR 3 (by simp)
            simp only [putFrom, Act.put, List.setIfInBounds_toArray, List.set_cons_zero, List.set_cons_succ, e6_0, e6_1, e6_2, e6_3]
            clear zR e6_0 e6_1 e6_2 e6_3
            replace G := G.trans hg
            replace c1 := c1.gr hg
            replace c2 := c2.gr hg
            replace c3 := c3.gr hg
            replace c7 := c7.gr hg
            replace HQ := fun k => (HQ k).gr hg
            replace Sk := Sk.gr hg
            replace Sx := Sx.gr hg
            replace Sy := Sy.gr hg
            replace S5_3 := S5_3.gr hg
            replace T5_3 := T5_3.gr hg
            clear hg
            go_upto_region 7 with fail
            refine wp_region_qTS (by kernel_rfl) 4 (by kernel_rfl) [.c (.agg (crA id (six P A.val B.val N X Y) qc)), .c (.agg (ptA p5_3 (ex R1) n5_3 q5_3 (ey R1) k5_3 (ef R1))), .c (.agg (ptA p (ex Q) n q (ey Q) m (ef Q))), .pt (ex R2) (ey R2) (ef R2)] ?hs ?hf
            case hs =>
              intro listed vals a1 v3 io oo hg zR zF zo zi zD
              have Hc1 : blk v3 (w.heap.size) = crA id (six P A.val B.val N X Y) qc := (hg.blk _ c1.p).trans c1.h
              have Hc2 : blk v3 (w.heap.size + 1) = ptA p (ex Q) n q (ey Q) m (ef Q) := (hg.blk _ c2.p).trans c2.h
              have Hc7 : blk v3 (b7) = ptA p5_3 (ex R1) n5_3 q5_3 (ey R1) k5_3 (ef R1) := (hg.blk _ c7.p).trans c7.h
              obtain rfl | rfl | rfl | rfl : io = 0 ∨ io = 1 ∨ io = 2 ∨ io = 3 := by omega
              · obtain rfl := Option.some.inj zo
                have f0 := zF.old (s := 3) (v := .pointer (some ⟨w.heap.size, 0, none⟩)) (by kernel_rfl) rfl
                refine Or.inl ⟨wanted_no rfl, ?_⟩
                exact wp_val (.agg (crA id (six P A.val B.val N X Y) qc)) (by simp [go_sem, f0, Hc1]) ⟨_, rfl, Gr.refl _, rfl⟩
              · obtain rfl := Option.some.inj zo
                have f0 := zF.old (s := 7) (v := .pointer (some ⟨b7, 0, none⟩)) (by kernel_rfl) rfl
                refine Or.inl ⟨wanted_no rfl, ?_⟩
                exact wp_val (.agg (ptA p5_3 (ex R1) n5_3 q5_3 (ey R1) k5_3 (ef R1))) (by simp [go_sem, f0, Hc7]) ⟨_, rfl, Gr.refl _, rfl⟩
              · obtain rfl := Option.some.inj zo
                have f0 := zF.old (s := 5) (v := .pointer (some ⟨w.heap.size + 1, 0, none⟩)) (by kernel_rfl) rfl
                refine Or.inl ⟨wanted_no rfl, ?_⟩
                exact wp_val (.agg (ptA p (ex Q) n q (ey Q) m (ef Q))) (by simp [go_sem, f0, Hc2]) ⟨_, rfl, Gr.refl _, rfl⟩
              · obtain rfl := Option.some.inj zo
                have l0 := on_of zD 0 (by kernel_rfl)
                have f0 := zF.at (s := 25) (i := 0) (by kernel_rfl) (by simp) l0
                have e0 : vals 0 = .agg (crA id (six P A.val B.val N X Y) qc) := zR 0 l0
                rw [e0] at f0
                have l1 := on_of zD 1 (by kernel_rfl)
                have f1 := zF.at (s := 26) (i := 1) (by kernel_rfl) (by simp) l1
                have e1 : vals 1 = .agg (ptA p5_3 (ex R1) n5_3 q5_3 (ey R1) k5_3 (ef R1)) := zR 1 l1
                rw [e1] at f1
                have l2 := on_of zD 2 (by kernel_rfl)
                have f2 := zF.at (s := 27) (i := 2) (by kernel_rfl) (by simp) l2
                have e2 : vals 2 = .agg (ptA p (ex Q) n q (ey Q) m (ef Q)) := zR 2 l2
                rw [e2] at f2
                refine Or.inl ⟨wanted_no rfl, ?_⟩
                exact wp_retz (k := .pt (ex R2) (ey R2) (ef R2)) (by simp [go_sem, f0, f1, f2]) (show Calls Try.prog 43 #[.agg (crA id (six P A.val B.val N X Y) qc), .agg (ptA p5_3 (ex R1) n5_3 q5_3 (ey R1) k5_3 (ef R1)), .agg (ptA p (ex Q) n q (ey Q) m (ef Q))] v3 (Rt (.pt (ex R2) (ey R2) (ef R2)) v3) from hR2 ▸ rplus_any C hd id N X Y qc R1 Q p5_3 q5_3 n5_3 k5_3 p q n m _ (fun k => (HQ k).gr hg) (S5_3.gr hg) (T5_3.gr hg) (Sx.gr hg) (Sy.gr hg)) (fun u w2 hu hg2 => ⟨_, rfl, hg2, hu⟩)
            case hf =>
              intro listed vals a1 v3 oo hg zR zF zA zo
              obtain rfl := Option.some.inj zo
              have f0 := zF.old (s := 7) (v := .pointer (some ⟨b7, 0, none⟩)) (by kernel_rfl) rfl
              have l7_3 := zA 3 (by decide)
              have f7_3 := zF.at (s := 28) (i := 3) (by kernel_rfl) (by simp) l7_3
              obtain ⟨p7_3, n7_3, q7_3, k7_3, e7_3, S7_3, T7_3⟩ := (show ∃ p n q k, vals 3 = .agg (ptA p (ex R2) n q (ey R2) k (ef R2)) ∧ Sl v3 p (ex R2) ∧ Sl v3 q (ey R2) from zR 3 (by decide))
              rw [e7_3] at f7_3
              have HT := (c7.gr hg).h
              have FT := (c7.gr hg).f
              refine wp_skip (w' := setBlk v3 (b7) (ptA p7_3 (ex R2) n7_3 q7_3 (ey R2) k7_3 (ef R2))) (by simp [go_sem, f0, f7_3, HT, FT]) ⟨rfl, ?_⟩
              have e7_0 : vals 0 = .agg (crA id (six P A.val B.val N X Y) qc) := zR 0 (by decide)
              have e7_1 : vals 1 = .agg (ptA p5_3 (ex R1) n5_3 q5_3 (ey R1) k5_3 (ef R1)) := zR 1 (by decide)
              have e7_2 : vals 2 = .agg (ptA p (ex Q) n q (ey Q) m (ef Q)) := zR 2 (by decide)
              simp only [putFrom, Act.put, List.setIfInBounds_toArray, List.set_cons_zero, List.set_cons_succ, e7_0, e7_1, e7_2, e7_3]
              clear zR zF zA e7_0 e7_1 e7_2 e7_3
              replace G := G.trans hg
              replace c1 := c1.gr hg
              replace c2 := c2.gr hg
              replace c3 := c3.gr hg
              replace c7 := c7.gr hg
              replace HQ := fun k => (HQ k).gr hg
              replace Sk := Sk.gr hg
              replace Sx := Sx.gr hg
              replace Sy := Sy.gr hg
              replace S5_3 := S5_3.gr hg
              replace T5_3 := T5_3.gr hg
              clear hg
              go_wp2_with fail
              go_roundw
              case rel =>
                refine ⟨i0, p7_3, n7_3, q7_3, k7_3, by simp, fun _ => HJ2, ?_⟩
                rw [← hR3]
                exact ⟨gr_setNew G (by omega), c1.other ne0, c2.other ne1, c3.other ne2, c7.set (by rw [ptA_size]; decide) _, Sl.set S7_3 (by rw [HT]; exact ptA_no _ _ _ _ _ _ _), Sl.set T7_3 (by rw [HT]; exact ptA_no _ _ _ _ _ _ _)⟩
              case measure => simp [intOf]
    · obtain rfl : j = 0 := by omega
      rw [Nat.pow_zero, Nat.div_one] at HR
      obtain ⟨R, hR⟩ : ∃ R, EC.ml i A k Q = R := ⟨_, rfl⟩
      rw [hR] at HR
      obtain ⟨G, c1, c2, c3, c7, So, To⟩ := HR.out
      obtain ⟨ne0, ne1, ne2, nb7⟩ := HN.out ()
      have ⟨h3, f3, p3⟩ := c3
      have ⟨h7, f7, p7⟩ := c7
      have n2 : ¬ w.heap.size + 1 + 1 = b7 := fun h => ne2 h.symm
      clear HV HR HJ hpos
      go_wp2_with fail
      refine bodyPost_ret (res_one Try.results19 (rd_pt po (ex R) no qo (ey R) mo (ef R) (by rfl) ?_)) rfl ⟨_, rfl, ?_, gr_setNew G (by omega)⟩
      · simp [go_sem, h3]
      · rw [hR]
        exact ⟨_, _, _, _, rfl, Sl.set So (by rw [h3]; exact ptA_no _ _ _ _ _ _ _), Sl.set To (by rw [h3]; exact ptA_no _ _ _ _ _ _ _)⟩
end

end Go.Proofs.Ytgmaalokfgdpaaa
