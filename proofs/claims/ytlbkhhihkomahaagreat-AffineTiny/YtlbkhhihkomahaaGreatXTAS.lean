import Derived.Test.YtlbkhhihkomahaaGreatXTRGet
import Derived.Test.YtlbkhhihkomahaaGreatXTAG
import Derived.Test.YtlbkhhihkomahaaGreatXTAdd
import Derived.Test.YtlbkhhihkomahaaGreatXTAN
import Derived.Test.YtlbkhhihkomahaaGreatXTCT
import Derived.Test.YtlbkhhihkomahaaGreatXTAT
namespace Go.Proofs.YtlbkhhihkomahaaGreat
open Go.RowKit
theorem crA_one (id : Int) (x : Nat → Nat) (q : Nat → Option Addr × Nat) : (crA id x q).all (·.oneCell') = true := by simp [crA, Value.oneCell']
theorem storeCr (w : World) (b : Nat) (id : Int) (x : Nat → Nat) (q : Nat → Option Addr × Nat) (hs : (blk w b).size = 7) (hf : frz w b = (0, 0)) :
    (storeS 31 (.pointer (some ⟨b, 0, none⟩)) (.agg (crA id x q))).run Tryz.prog w = .ok () (setBlk w b (crA id x q)) :=
  storeS_run 7 (by decide) (by kernel_rfl) w b _ (crA_size id x q) (crA_one id x q) hs hf
end Go.Proofs.YtlbkhhihkomahaaGreat
namespace Go.Proofs.YtlbkhhihkomahaaGreat
open Go.RowKit
theorem rtimesQ (k : Nat) (h1 : 1 ≤ k) (h2 : k ≤ 15) (qc : Nat → Option Addr × Nat) {P : Q3} (hP : OnQ k P) {t nk : Nat} {pk : Option Addr} (ht : dl t ≤ 400) {p q : Option Addr} {n m : Nat} {w : World}
    (HQ : ∀ j, Sl w (qc j).1 (nN k j)) (Sk : Sl w pk t) (Sx : Sl w p P.1) (Sy : Sl w q P.2.1) :
    Calls Tryz.prog 23 #[.agg (crA (k : Int) (nN k) qc), .slice pk (dl t) nk, .agg (ptA p P.1 n q P.2.1 m P.2.2)] w (Rt (.pt (mlQ k t P).1 (mlQ k t P).2.1 (mlQ k t P).2.2) w) := by
  haveI := EC.nzP k h1 h2
  have hd := pN_dl k h1 h2
  obtain ⟨a1, a2, a3⟩ := dec3 hP
  have h := rtimes_any (EC.curN k h1 h2) (by omega) (k : Int) (oN k) (xN k) (yN k) qc t nk pk ht (decQ (pN k) P) (on_dec h1 h2 hP) p q n m w HQ Sk (by rw [a1]; exact Sx) (by rw [a2]; exact Sy)
  rw [a1, a2, a3] at h
  rw [mlQ_is h1 h2]
  exact h

end Go.Proofs.YtlbkhhihkomahaaGreat
namespace Go.Proofs.YtlbkhhihkomahaaGreat
open Go.RowKit
attribute [local go_sem ↓] loadNat_is loadArr_is loadWide_is loadArrW_is storeNat_is storeWide_is
attribute [local go_sem] loadNat loadArr loadWide loadArrW storeNat storeWide idxArr fold9 fold18 nw_size nw_elem pre_self pre_1 pre_2 pre_3 pre_4 pre_5 pre_6 pre_7 pre_8 pre_9 pre_10 pre_11 pre_12 pre_13 pre_14 pre_15 pre_16 pre_17 pre_18 pre_19 pre_20 pre_21 pre_22 pre_23 pre_24 pre_25 pre_26 pre_27 pre_28 pre_29 pre_30 pre_31 pre_32 pre_33 pre_34 pre_35 pre_36 pre_37 pre_38 pre_39 pre_40 gro_size gro_drew gro_drewN drew_gro drewN_gro gro_gro blk_gro frz_gro blk_drew frz_drew blk_drewN frz_drewN blk_alloc_at frz_alloc_at blk_alloc frz_alloc cell_gro frozen_gro cell_alloc_pre frozen_alloc_pre setCell_drewN alloc_drewN setBlk_drew setBlk_drewN setBlk_alloc_at setBlk_alloc setBlk_gro setCell_gro setCell_alloc_pre size_setBlk size_setCell
attribute [local go_sem] ppre_1 ppre_2 ppre_3 ppre_4 ppre_5 ppre_6
attribute [local go_sem ↓] bsl_is loadC_is storeC_is loadPt_is storePt_is zvPt_is buildPt_is loadPn_is storePn_is zvPn_is loadCu_is storeCu_is zvCu_is buildCu_is buildPn_is Go.wp_at_zero Go.wp_at_succ
attribute [local go_sem] loadC storeC0 storeCr crA_size loadPt storePt zvPt ptA_size loadPn storePn zvPn pnt_size loadCu storeCu zvCu cu_size buildCu0 buildPnI buildPn2 loadCP loadCA loadCB loadCN loadCG loadCX loadCY cu_P cu_A cu_B cu_N cu_G cu_X cu_Y frz_setBlk blk_setBlk setBlk_setBlk blk_other
set_option maxRecDepth 100000 in
set_option maxHeartbeats 400000 in
theorem rg_any {k : Nat} (qc : Nat → Option Addr × Nat) (w : World) (HQ : ∀ j, Sl w (qc j).1 (nN k j)) : Calls Tryz.prog 40 #[.agg (crA (k : Int) (nN k) qc)] w (Rt (.pt (xN k) (yN k) false) w) := by
  go_enter Tryz.func40, Tryz.ntmps40
  go_upto_region 1 with fail
  refine gen_w (fun v => Gr w v ∧ Vr v (w.heap.size) (crA (k : Int) (nN k) qc) ∧ Vr v (w.heap.size + 1) (ptA none 0 0 none 0 0 false)) ⟨(by repeat (first | exact Gr.refl _ | apply Gr.drewN | apply Gr.drew | apply Gr.alloc | apply Gr.gro)), ⟨by simp [go_sem], by simp [go_sem], by simp [go_sem]⟩, ⟨by simp [go_sem], by simp [go_sem], by simp [go_sem]⟩⟩ ?_
  rintro v0 ⟨G, c1, c2⟩
  replace HQ := fun k => (HQ k).gr G
  refine wp_wTS 5 [.c (pv (w.heap.size) 5), .c (.slice (qc 4).1 (dl (xN k)) (qc 4).2), .c (pv (w.heap.size) 6), .c (.slice (qc 5).1 (dl (yN k)) (qc 5).2), .pt (xN k) (yN k) false] [1, 3, 4] ?hs1 ?hf1
  case hs1 =>
   refine .cons (.o 29 5 c1 rfl rfl) ?_
   refine .cons (.o 29 6 c1 rfl rfl) ?_
   refine .cons (.p (fun yy i => match i with | 0 => ((qc 4).1, (qc 4).2) | _ => ((qc 5).1, (qc 5).2)) fun yy vv hg hh => ⟨((HQ 4).gr hg), ((HQ 5).gr hg)⟩) .nil
  refine .s 41 (fun yy => .pointer (some ⟨w.heap.size + 1, 0, none⟩)) (fun yy => .agg (ptA (yy 4 0).1 (xN k) (yy 4 0).2 (yy 4 1).1 (yN k) (yy 4 1).2 false)) fun yw1 v1 hg h1 => ?_
  have HT := (c2.gr hg).h
  have FT := (c2.gr hg).f
  refine ⟨setBlk v1 (w.heap.size + 1) (ptA (yw1 4 0).1 (xN k) (yw1 4 0).2 (yw1 4 1).1 (yN k) (yw1 4 1).2 false), by simp [go_sem, exI, HT, FT], ?_⟩
  simp only [FW, putFrom, Act.put, List.setIfInBounds_toArray, List.set_cons_zero, List.set_cons_succ, wvals, kW, List.getD_cons_zero, List.getD_cons_succ, Kw.c, pv, Kw.pt]
  obtain ⟨S1_4, T1_4⟩ : Sl v1 (yw1 4 0).1 (xN k) ∧ Sl v1 (yw1 4 1).1 (yN k) := h1 4
  clear h1
  replace G := G.trans hg
  replace c1 := c1.gr hg
  replace c2 := c2.gr hg
  replace HQ := fun k => (HQ k).gr hg
  clear hg
  go_wp2_with fail
  exact bodyPost_ret (res_one Tryz.results40 (rd_pt _ _ _ _ _ _ _ (by rfl) (blk_setBlk _ _ _ (by rw [HT]; decide)))) rfl ⟨_, rfl, ⟨_, _, _, _, rfl, Sl.set S1_4 (by rw [HT]; exact ptA_no _ _ _ _ _ _ _), Sl.set T1_4 (by rw [HT]; exact ptA_no _ _ _ _ _ _ _)⟩, gr_setNew G (by omega)⟩
set_option maxRecDepth 100000 in
set_option maxHeartbeats 800000 in
theorem some_is {k : Nat} (h1 : 1 ≤ k) (h2 : k ≤ 15) {n : Nat} (hn : n < 18446744073709551616) {A : Q3} (hA : mlQ k n (gQ k) = A) (qc : Nat → Option Addr × Nat) (w : World) (HQ : ∀ j, Sl w (qc j).1 (nN k j)) :
    Calls Tryz.prog 27 #[.agg (crA (k : Int) (nN k) qc), .int .u64 (n : Int)] w fun e w' => e = .returned (.agg (pnQ A)) ∧ Gr w w' := by
  have hM : n < M := lt_M _ hn
  have hd : dl n ≤ 400 := by have := dl_M n hM; omega
  go_enter Tryz.func27, Tryz.ntmps27
  go_upto_region 1 with fail
  refine gen_w (fun v => Gr w v ∧ Vr v (w.heap.size) (crA (k : Int) (nN k) qc) ∧ Vr v (w.heap.size + 1) (pnt 0 0 false)) ⟨(by repeat (first | exact Gr.refl _ | apply Gr.drewN | apply Gr.drew | apply Gr.alloc | apply Gr.gro)), ⟨by simp [go_sem], by simp [go_sem], by simp [go_sem]⟩, ⟨by simp [go_sem], by simp [go_sem], by simp [go_sem]⟩⟩ ?_
  rintro v0 ⟨G, c1, c2⟩
  replace HQ := fun k => (HQ k).gr G
  refine wp_wT 8 [.c (.agg (crA (k : Int) (nN k) qc)), .c (.int .u64 (n : Int)), .c (.agg (nw 9 n)), .n (n), .c (.agg (crA (k : Int) (nN k) qc)), .pt (xN k) (yN k) false, .pt (A.1) (A.2.1) A.2.2, .c (.agg (pnt A.1 A.2.1 A.2.2))] [0, 2, 3, 4, 5, 6, 7] ?hs2 ?hf2
  case hs2 =>
   refine .cons (.g 31 0 c1 rfl) ?_
   refine .cons (.k _ fun yy vv hg hh => RtW.of_c (Rt.c (one_any _ hn _))) ?_
   refine .cons (.k _ fun yy vv hg hh => RtW.of_n (fm_any hM)) ?_
   refine .cons (.g 31 0 c1 rfl) ?_
   refine .cons (.k _ fun yy vv hg hh => RtW.of_pt (rg_any qc _ (fun j => (HQ j).gr hg))) ?_
   refine .cons (.k (fun yy => #[.agg (crA (k : Int) (nN k) qc), .slice (yy 3 0).1 (dl (n)) (yy 3 0).2, .agg (ptA (yy 5 0).1 (xN k) (yy 5 0).2 (yy 5 1).1 (yN k) (yy 5 1).2 false)]) fun yy vv hg hh => RtW.of_pt (hA ▸ rtimesQ k h1 h2 qc (gQ_on h1 h2) hd (fun j => (HQ j).gr hg) (hh 3 rfl) (hh 5 rfl).1 (hh 5 rfl).2)) ?_
   refine .cons (.k (fun yy => #[.agg (ptA (yy 6 0).1 (A.1) (yy 6 0).2 (yy 6 1).1 (A.2.1) (yy 6 1).2 A.2.2)]) fun yy vv hg hh => RtW.of_c (Rt.c (rout_any _ _ _ _ _ _ _ _ (hh 6 rfl).1 (hh 6 rfl).2))) .nil
  refine .s 27 (fun yy => .pointer (some ⟨w.heap.size + 1, 0, none⟩)) (fun yy => .agg (pnt A.1 A.2.1 A.2.2)) fun yw1 v1 hg h1 => ?_
  have HT := (c2.gr hg).h
  have FT := (c2.gr hg).f
  refine ⟨setBlk v1 (w.heap.size + 1) (pnt A.1 A.2.1 A.2.2), by simp [go_sem, exI, HT, FT], ?_⟩
  simp only [FW, putFrom, Act.put, List.setIfInBounds_toArray, List.set_cons_zero, List.set_cons_succ, wvals, kW, List.getD_cons_zero, List.getD_cons_succ, Kw.c, Kw.n, Kw.pt]
  clear h1
  replace G := G.trans hg
  replace c1 := c1.gr hg
  replace c2 := c2.gr hg
  replace HQ := fun k => (HQ k).gr hg
  clear hg
  go_wp2_with fail
  exact bodyPost_ret (res_one Tryz.results27 (rd_pn (by rfl) (blk_setBlk _ _ _ (by rw [HT]; decide +kernel)))) rfl ⟨rfl, gr_setNew G (by omega)⟩
set_option maxRecDepth 100000 in
set_option maxHeartbeats 1600000 in
theorem awake14_any (w : World) : Calls Tryz.prog 16 #[] w fun e w' => e = .returned (.bool true) ∧ Gr w w' := by
  have h1 : 1 ≤ 13 := by decide
  have h2 : 13 ≤ 15 := by decide
  have nx : eqN 9 241 2 = false := by decide +kernel
  have HGR : Hid (∀ w, Calls Tryz.prog 12 #[.int .i64 13] w (GetQ 13 w)) := fun w => getq_yes 13 h1 h2 w
  have HA1 : Hid (∀ w, Calls Tryz.prog 13 #[.int .i64 13, .agg (pnt 2 84 false), .agg (pnt 2 84 false)] w fun e w' => e = .returned (.tuple #[.agg (pnt 241 78 false), .int .i64 0]) ∧ Gr w w') := fun w => addQ (k := 13) h1 h2 (P := (2, 84, false)) (Q := (2, 84, false)) (R := (241, 78, false)) (gQ_on h1 h2) (gQ_on h1 h2) (by decide +kernel) w
  have HA2 : Hid (∀ w, Calls Tryz.prog 13 #[.int .i64 13, .agg (pnt 2 84 false), .agg (pnt 1 1 false)] w fun e w' => e = .returned (.tuple #[.agg (pnt 0 0 false), .int .i64 1401]) ∧ Gr w w') := fun w => add_off (k := 13) h1 h2 (P := (2, 84, false)) (Q := (1, 1, false)) ⟨by decide +kernel, by decide +kernel⟩ ⟨by decide +kernel, by decide +kernel⟩ (.inr (by decide +kernel)) w
  have HM1 : Hid (∀ w, Calls Tryz.prog 22 #[.int .i64 13, .agg (nw 9 2), .agg (pnt 2 84 false)] w fun e w' => e = .returned (.tuple #[.agg (pnt 241 78 false), .int .i64 0]) ∧ Gr w w') := fun w => mulQ (k := 13) h1 h2 (P := (2, 84, false)) (R := (241, 78, false)) (gQ_on h1 h2) (by decide +kernel) (by decide +kernel) w
  have HM2 : Hid (∀ w, Calls Tryz.prog 22 #[.int .i64 13, .agg (nw 9 223), .agg (pnt 2 84 false)] w fun e w' => e = .returned (.tuple #[.agg (pnt 0 0 true), .int .i64 0]) ∧ Gr w w') := fun w => mulQ (k := 13) h1 h2 (P := (2, 84, false)) (R := inf) (gQ_on h1 h2) (by decide +kernel) (mlQ_N h1 h2) w
  have HN : Hid (∀ w, Calls Tryz.prog 14 #[.int .i64 0, .agg (pnt 2 84 false)] w fun e w' => e = .returned (.tuple #[.agg (pnt 0 0 false), .int .i64 1400]) ∧ Gr w w') := fun w => neg_no 0 (by decide) (2, 84, false) w
  go_enter Tryz.func16, Tryz.ntmps16
  go_upto_region 2 with (go_at_call 12; refine (HGR.out _).mono ?_; rintro e WB ⟨qc, rfl, HQ, GB⟩)
  obtain ⟨e1, he1⟩ : ∃ b, WB.heap.size = b := ⟨_, rfl⟩
  simp only [he1]
  refine gen_w (fun v => Gr w v ∧ Vr v e1 (crA 13 (nN 13) qc) ∧ ∀ j, Sl v (qc j).1 (nN 13 j)) ?_ ?_
  · subst he1
    exact ⟨GB.alloc _, Vr.new _ _ _, fun j => (HQ j).gr ((Gr.refl _).alloc _)⟩
  clear he1 GB HQ
  rintro v0 ⟨G, c1, HQ⟩
  refine wp_v false [.c (.agg (crA 13 (nN 13) qc)), .pt (2) (84) false, .c (.agg (pnt 2 84 false)), .a, .u] [0, 1, 2] [⟨3, 4, 27, pnt 0 0 false, fun _ => pnt 2 84 false⟩] ?hs3 ?hv3 ?hf3
  case hs3 =>
   refine .cons (.g 31 0 c1 rfl) ?_
   refine .cons (.k _ fun yy vv hg hh => RtW.of_pt (rg_any (k := 13) qc _ (fun j => (HQ j).gr hg))) ?_
   refine .cons (.k (fun yy => #[.agg (ptA (yy 1 0).1 (2) (yy 1 0).2 (yy 1 1).1 (84) (yy 1 1).2 false)]) fun yy vv hg hh => RtW.of_c (Rt.c (rout_any _ _ _ _ _ _ _ _ (hh 1 rfl).1 (hh 1 rfl).2))) .nil
  case hv3 =>
   refine .cons (.mk (fun _ _ _ => rfl) (fun _ v b H F => by dsimp only at H ⊢; simp [go_sem, exI, H, F]) zPnt ⟨fkc, fkp bPnt, fkc, fka, fku, trivial⟩) .nil
  intro yw2 v1 hg h2 hV2
  simp only [FW, putFrom, Act.put, List.setIfInBounds_toArray, List.set_cons_zero, List.set_cons_succ, wvals, kW, List.getD_cons_zero, List.getD_cons_succ, Kw.c, Kw.a, Kw.pt, Kw.u]
  obtain ⟨⟨N2_3, V2_3⟩, -⟩ : (v0.heap.size ≤ (yw2 3 0).2 ∧ Vr v1 (yw2 3 0).2 (pnt 2 84 false)) ∧ True := hV2
  clear h2
  replace G := G.trans hg
  replace c1 := c1.gr hg
  replace HQ := fun k => (HQ k).gr hg
  clear hg
  go_upto_region 3 with fail
  refine wp_v false [.c (.agg (pnt 2 84 false)), .c (.agg (pnt 2 84 false)), .c (.tuple #[.agg (pnt 241 78 false), .int .i64 0]), .c (.tuple #[.agg (pnt 241 78 false), .int .i64 0]), .c (.agg (pnt 241 78 false)), .c (.int .i64 0), .a, .u, .c (.int .i64 0)] [0, 1, 2] [⟨6, 7, 27, pnt 0 0 false, fun _ => pnt 241 78 false⟩] ?hs4 ?hv4 ?hf4
  case hs4 =>
   refine .cons (.g 27 0 V2_3 rfl) ?_
   refine .cons (.g 27 0 V2_3 rfl) ?_
   refine .cons (.k _ fun yy vv hg hh => RtW.of_c (Rt.c (HA1.out _))) .nil
  case hv4 =>
   refine .cons (.mk (fun _ _ _ => rfl) (fun _ v b H F => by dsimp only at H ⊢; simp [go_sem, exI, H, F]) zPnt ⟨fkc, fkc, fkc, fkc, fkc, fkc, fka, fku, fkc, trivial⟩) .nil
  intro yw3 v2 hg h3 hV3
  simp only [FW, putFrom, Act.put, List.setIfInBounds_toArray, List.set_cons_zero, List.set_cons_succ, wvals, kW, List.getD_cons_zero, List.getD_cons_succ, Kw.c, Kw.a, Kw.u]
  obtain ⟨⟨N3_6, V3_6⟩, -⟩ : (v1.heap.size ≤ (yw3 6 0).2 ∧ Vr v2 (yw3 6 0).2 (pnt 241 78 false)) ∧ True := hV3
  clear h3
  replace G := G.trans hg
  replace c1 := c1.gr hg
  replace V2_3 := V2_3.gr hg
  replace HQ := fun k => (HQ k).gr hg
  clear hg
  go_upto_region 4 with fail
  refine wp_v true [.c (.agg (nw 9 2)), .c (.agg (pnt 2 84 false)), .c (.tuple #[.agg (pnt 241 78 false), .int .i64 0]), .c (.tuple #[.agg (pnt 241 78 false), .int .i64 0]), .c (.agg (pnt 241 78 false)), .c (.int .i64 0), .a, .u, .c (.int .i64 0)] [0, 1, 2] [⟨6, 7, 27, pnt 0 0 false, fun _ => pnt 241 78 false⟩] ?hs5 ?hv5 ?hf5
  case hs5 =>
   refine .cons (.k _ fun yy vv hg hh => RtW.of_c (Rt.c (one_any 2 (by decide) _))) ?_
   refine .cons (.g 27 0 V2_3 rfl) ?_
   refine .cons (.k _ fun yy vv hg hh => RtW.of_c (Rt.c (HM1.out _))) .nil
  case hv5 =>
   refine .cons (.mk (fun _ _ _ => rfl) (fun _ v b H F => by dsimp only at H ⊢; simp [go_sem, exI, H, F]) zPnt ⟨fkc, fkc, fkc, fkc, fkc, fkc, fka, fku, fkc, trivial⟩) .nil
  intro yw4 v3 hg h4 hV4
  simp only [FW, putFrom, Act.put, List.setIfInBounds_toArray, List.set_cons_zero, List.set_cons_succ, wvals, kW, List.getD_cons_zero, List.getD_cons_succ, Kw.c, Kw.a, Kw.u]
  obtain ⟨⟨N4_6, V4_6⟩, -⟩ : (v2.heap.size ≤ (yw4 6 0).2 ∧ Vr v3 (yw4 6 0).2 (pnt 241 78 false)) ∧ True := hV4
  clear h4
  replace G := G.trans hg
  replace c1 := c1.gr hg
  replace V2_3 := V2_3.gr hg
  replace V3_6 := V3_6.gr hg
  replace HQ := fun k => (HQ k).gr hg
  clear hg
  go_upto_region 5 with fail
  refine wp_v true [.c (.agg (pnt 2 84 false)), .c (.agg (nw 9 1)), .c (.agg (nw 9 1)), .c (.agg (pnt 1 1 false)), .c (.tuple #[.agg (pnt 0 0 false), .int .i64 1401]), .c (.tuple #[.agg (pnt 0 0 false), .int .i64 1401]), .c (.agg (pnt 0 0 false)), .c (.int .i64 1401), .a, .u, .c (.int .i64 1401)] [0, 1, 2, 4] [⟨8, 9, 27, pnt 0 0 false, fun _ => pnt 0 0 false⟩] ?hs6 ?hv6 ?hf6
  case hs6 =>
   refine .cons (.g 27 0 V2_3 rfl) ?_
   refine .cons (.k _ fun yy vv hg hh => RtW.of_c (Rt.c (one_any 1 (by decide) _))) ?_
   refine .cons (.k _ fun yy vv hg hh => RtW.of_c (Rt.c (one_any 1 (by decide) _))) ?_
   refine .cons (.k _ fun yy vv hg hh => RtW.of_c (Rt.c (HA2.out _))) .nil
  case hv6 =>
   refine .cons (.mk (fun _ _ _ => rfl) (fun _ v b H F => by dsimp only at H ⊢; simp [go_sem, exI, H, F]) zPnt ⟨fkc, fkc, fkc, fkc, fkc, fkc, fkc, fkc, fka, fku, fkc, trivial⟩) .nil
  intro yw5 v4 hg h5 hV5
  simp only [FW, putFrom, Act.put, List.setIfInBounds_toArray, List.set_cons_zero, List.set_cons_succ, wvals, kW, List.getD_cons_zero, List.getD_cons_succ, Kw.c, Kw.a, Kw.u]
  obtain ⟨⟨N5_8, V5_8⟩, -⟩ : (v3.heap.size ≤ (yw5 8 0).2 ∧ Vr v4 (yw5 8 0).2 (pnt 0 0 false)) ∧ True := hV5
  clear h5
  replace G := G.trans hg
  replace c1 := c1.gr hg
  replace V2_3 := V2_3.gr hg
  replace V3_6 := V3_6.gr hg
  replace V4_6 := V4_6.gr hg
  replace HQ := fun k => (HQ k).gr hg
  clear hg
  go_upto_region 6 with fail
  refine wp_v true [.c (.agg (nw 9 223)), .c (.agg (pnt 2 84 false)), .c (.tuple #[.agg (pnt 0 0 true), .int .i64 0]), .c (.tuple #[.agg (pnt 0 0 true), .int .i64 0]), .c (.agg (pnt 0 0 true)), .c (.int .i64 0), .a, .u, .c (.int .i64 0)] [0, 1, 2] [⟨6, 7, 27, pnt 0 0 false, fun _ => pnt 0 0 true⟩] ?hs7 ?hv7 ?hf7
  case hs7 =>
   refine .cons (.k _ fun yy vv hg hh => RtW.of_c (Rt.c (one_any 223 (by decide) _))) ?_
   refine .cons (.g 27 0 V2_3 rfl) ?_
   refine .cons (.k _ fun yy vv hg hh => RtW.of_c (Rt.c (HM2.out _))) .nil
  case hv7 =>
   refine .cons (.mk (fun _ _ _ => rfl) (fun _ v b H F => by dsimp only at H ⊢; simp [go_sem, exI, H, F]) zPnt ⟨fkc, fkc, fkc, fkc, fkc, fkc, fka, fku, fkc, trivial⟩) .nil
  intro yw6 v5 hg h6 hV6
  simp only [FW, putFrom, Act.put, List.setIfInBounds_toArray, List.set_cons_zero, List.set_cons_succ, wvals, kW, List.getD_cons_zero, List.getD_cons_succ, Kw.c, Kw.a, Kw.u]
  obtain ⟨⟨N6_6, V6_6⟩, -⟩ : (v4.heap.size ≤ (yw6 6 0).2 ∧ Vr v5 (yw6 6 0).2 (pnt 0 0 true)) ∧ True := hV6
  clear h6
  replace G := G.trans hg
  replace c1 := c1.gr hg
  replace V2_3 := V2_3.gr hg
  replace V3_6 := V3_6.gr hg
  replace V4_6 := V4_6.gr hg
  replace V5_8 := V5_8.gr hg
  replace HQ := fun k => (HQ k).gr hg
  clear hg
  go_upto_region 7 with fail
  refine wp_v false [.c (.agg (pnt 2 84 false)), .c (.tuple #[.agg (pnt 0 0 false), .int .i64 1400]), .c (.tuple #[.agg (pnt 0 0 false), .int .i64 1400]), .c (.agg (pnt 0 0 false)), .c (.int .i64 1400), .a, .u, .c (.int .i64 1400)] [0, 1] [⟨5, 6, 27, pnt 0 0 false, fun _ => pnt 0 0 false⟩] ?hs8 ?hv8 ?hf8
  case hs8 =>
   refine .cons (.g 27 0 V2_3 rfl) ?_
   refine .cons (.k _ fun yy vv hg hh => RtW.of_c (Rt.c (HN.out _))) .nil
  case hv8 =>
   refine .cons (.mk (fun _ _ _ => rfl) (fun _ v b H F => by dsimp only at H ⊢; simp [go_sem, exI, H, F]) zPnt ⟨fkc, fkc, fkc, fkc, fkc, fka, fku, fkc, trivial⟩) .nil
  intro yw7 v6 hg h7 hV7
  simp only [FW, putFrom, Act.put, List.setIfInBounds_toArray, List.set_cons_zero, List.set_cons_succ, wvals, kW, List.getD_cons_zero, List.getD_cons_succ, Kw.c, Kw.a, Kw.u]
  obtain ⟨⟨N7_5, V7_5⟩, -⟩ : (v5.heap.size ≤ (yw7 5 0).2 ∧ Vr v6 (yw7 5 0).2 (pnt 0 0 false)) ∧ True := hV7
  clear h7
  replace G := G.trans hg
  replace c1 := c1.gr hg
  replace V2_3 := V2_3.gr hg
  replace V3_6 := V3_6.gr hg
  replace V4_6 := V4_6.gr hg
  replace V5_8 := V5_8.gr hg
  replace V6_6 := V6_6.gr hg
  replace HQ := fun k => (HQ k).gr hg
  clear hg
  go_upto_region 8 with fail
  refine wp_wS [.c (.int .i64 0), .c (.int .i64 0), .c (.bool true), .c (.bool true), .c (.agg (pnt 241 78 false)), .c (.agg (pnt 241 78 false)), .c (.bool true), .c (.bool true), .c (.bool true), .c (.int .i64 0), .c (.int .i64 0), .c (.bool true), .c (.bool true), .c (.bool true), .c (.agg (pnt 241 78 false)), .c (.agg (pnt 2 84 false)), .c (.bool true), .c (.bool true), .c (.bool true), .c (.int .i64 1401), .c (.int .i64 1401), .c (.bool true), .c (.bool true), .c (.bool true), .c (pv ((yw6 6 0).2) 18), .c (.bool true), .c (.bool true), .c (.bool true), .c (.int .i64 0), .c (.int .i64 0), .c (.bool true), .c (.bool true), .c (.bool true), .c (.int .i64 1400), .c (.int .i64 1400), .c (.bool true), .c (.bool true), .c (.bool true)] [1, 4, 5, 6, 10, 14, 15, 16, 20, 25, 29, 34] ?hs9 ?hf9
  case hs9 =>
   refine .cons (.k _ fun yy vv hg hh => RtW.of_c (Rt.same (num_any _ _))) ?_
   refine .cons (.g 27 0 V3_6 rfl) ?_
   refine .cons (.g 27 0 V4_6 rfl) ?_
   refine .cons (.s (.binOp .eql 27 (.const (.agg (pnt 241 78 false))) (.const (.agg (pnt 241 78 false))) 27) rfl fun vv hg => by simp [go_sem, exI, eqPn, eqN_self]) ?_
   refine .cons (.k _ fun yy vv hg hh => RtW.of_c (Rt.same (num_any _ _))) ?_
   refine .cons (.g 27 0 V3_6 rfl) ?_
   refine .cons (.g 27 0 V2_3 rfl) ?_
   refine .cons (.s (.binOp .neq 27 (.const (.agg (pnt 241 78 false))) (.const (.agg (pnt 2 84 false))) 27) rfl fun vv hg => by simp [go_sem, exI, nePn, nx]) ?_
   refine .cons (.k _ fun yy vv hg hh => RtW.of_c (Rt.same (num_any _ _))) ?_
   refine .cons (.o 4 18 V6_6 rfl (by exact pnt_18 _ _ _)) ?_
   refine .cons (.k _ fun yy vv hg hh => RtW.of_c (Rt.same (num_any _ _))) ?_
   refine .cons (.k _ fun yy vv hg hh => RtW.of_c (Rt.same (num_any _ _))) .nil
  intro yw8 v7 hg h8
  simp only [FW, putFrom, Act.put, List.setIfInBounds_toArray, List.set_cons_zero, List.set_cons_succ, wvals, kW, List.getD_cons_zero, List.getD_cons_succ, Kw.c, pv]
  clear h8
  replace G := G.trans hg
  replace c1 := c1.gr hg
  replace V2_3 := V2_3.gr hg
  replace V3_6 := V3_6.gr hg
  replace V4_6 := V4_6.gr hg
  replace V5_8 := V5_8.gr hg
  replace V6_6 := V6_6.gr hg
  replace V7_5 := V7_5.gr hg
  replace HQ := fun k => (HQ k).gr hg
  clear hg
  go_wp2_with fail
  go_ret
  exact ⟨rfl, G⟩

end Go.Proofs.YtlbkhhihkomahaaGreat
namespace Go.Proofs.YtlbkhhihkomahaaGreat
theorem onQ_yes {k : Nat} (h1 : 1 ≤ k) (h2 : k ≤ 15) {P : Q3} (hP : OnQ k P) (w : World) : Calls Tryz.prog 26 #[.int .i64 (k : Int), .agg (pnQ P)] w fun e w' => e = .returned (.bool true) ∧ Gr w w' := by
  have h := on13_yes k h1 h2 P.1 P.2.1 P.2.2 hP.lt.1 hP.lt.2 w
  rw [show onB k P.1 P.2.1 P.2.2 = true from hP] at h
  exact h

end Go.Proofs.YtlbkhhihkomahaaGreat
