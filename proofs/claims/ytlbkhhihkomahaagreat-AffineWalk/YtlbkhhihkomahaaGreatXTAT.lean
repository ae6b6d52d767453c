import Derived.Test.YtlbkhhihkomahaaGreatXTAN
import Derived.Test.YtlbkhhihkomahaaGreatXTLawA
import Derived.Test.YtlbkhhihkomahaaGreatXTRGet
namespace Go.Proofs.YtlbkhhihkomahaaGreat
open Go.RowKit
attribute [local go_sem ↓] loadNat_is loadArr_is loadWide_is loadArrW_is storeNat_is storeWide_is
attribute [local go_sem] loadNat loadArr loadWide loadArrW storeNat storeWide idxArr fold9 fold18 nw_size nw_elem pre_self pre_1 pre_2 pre_3 pre_4 pre_5 pre_6 pre_7 pre_8 pre_9 pre_10 pre_11 pre_12 pre_13 pre_14 pre_15 pre_16 pre_17 pre_18 pre_19 pre_20 pre_21 pre_22 pre_23 pre_24 pre_25 pre_26 pre_27 pre_28 pre_29 pre_30 pre_31 pre_32 pre_33 pre_34 pre_35 pre_36 pre_37 pre_38 pre_39 pre_40 gro_size gro_drew gro_drewN drew_gro drewN_gro gro_gro blk_gro frz_gro blk_drew frz_drew blk_drewN frz_drewN blk_alloc_at frz_alloc_at blk_alloc frz_alloc cell_gro frozen_gro cell_alloc_pre frozen_alloc_pre setCell_drewN alloc_drewN setBlk_drew setBlk_drewN setBlk_alloc_at setBlk_alloc setBlk_gro setCell_gro setCell_alloc_pre size_setBlk size_setCell
attribute [local go_sem] ppre_1 ppre_2 ppre_3 ppre_4 ppre_5 ppre_6
attribute [local go_sem ↓] loadGp_is storeGp_is zvGp_is buildGp_is storeTA_is storeTB_is buildTA_is buildTB_is zvCu_is storeCu_is loadCu_is loadPn_is storePn_is zvPn_is buildCu_is buildPn_is Go.wp_at_zero Go.wp_at_succ
attribute [local go_sem] loadGp storeGp zvGp buildGp0 buildGp1 buildPn0 storeTA storeTB buildTA buildTB tabA_size tabB_size zvCu storeCu loadCu loadPn storePn zvPn loadCP loadCA loadPX loadPY buildPnI buildPn2 cu_size cu_P cu_A pnt_size pnt_X pnt_Y frz_setBlk blk_setBlk setBlk_setBlk blk_other
set_option maxRecDepth 100000 in
set_option maxHeartbeats 1600000 in
theorem gmulQ {k : Nat} (h1 : 1 ≤ k) (h2 : k ≤ 15) {P : Q3} (hP : OnQ k P) (t : Nat) (ht : t < M) (w : World) :
    Calls Tryz.prog 44 #[.agg (cu (k : Int) (pN k) (aN k) (bN k) (oN k) (xN k) (yN k) (bl (oN k)) (szN k) (lgN k)), .agg (nw 9 t), .agg (pnt P.1 P.2.1 P.2.2)] w fun e w' => e = .returned (.agg (pnQ (mlQ k t P))) ∧ Gr w w' := by
  obtain ⟨L, hL⟩ : ∃ L, bl t = L := ⟨_, rfl⟩
  have hL1 : (L : Int) ≤ 576 := by have := bl_576 t ht; omega
  have hL0 : (0 : Int) ≤ (L : Int) := by omega
  have HB : Hid (∀ w, Calls Tryz.prog 59 #[.agg (nw 9 t)] w fun e w' => e = .returned (.int .i64 (L : Int)) ∧ Gr w w') := fun w => hL ▸ bits_any t ht w
  have HZ : Hid (Unit → t / 2 ^ L = 0) := fun _ => Nat.div_eq_of_lt (hL ▸ (bl_le t (bl t)).1 (Nat.le_refl _))
  have HLk : Hid (Unit → L ≤ 576) := fun _ => by omega
  clear hL ht
  go_enter Tryz.func44, Tryz.ntmps44
  go_upto_region 1 with fail
  refine gen_w (fun wr => Hid (Gr w wr ∧ Vr wr (w.heap.size) (cu (k : Int) (pN k) (aN k) (bN k) (oN k) (xN k) (yN k) (bl (oN k)) (szN k) (lgN k)) ∧ Vr wr (w.heap.size + 1) (nw 9 t) ∧ Vr wr (w.heap.size + 1 + 1) (pnt P.1 P.2.1 P.2.2) ∧ Vr wr (w.heap.size + 1 + 1 + 1) (pnt 0 0 false) ∧ wr.heap.size = w.heap.size + 1 + 1 + 1 + 1)) ⟨(by repeat (first | exact Gr.refl _ | apply Gr.drewN | apply Gr.drew | apply Gr.alloc | apply Gr.gro)), ⟨by simp [go_sem], by simp [go_sem], by simp [go_sem]⟩, ⟨by simp [go_sem], by simp [go_sem], by simp [go_sem]⟩, ⟨by simp [go_sem], by simp [go_sem], by simp [go_sem]⟩, ⟨by simp [go_sem], by simp [go_sem], by simp [go_sem]⟩, by simp⟩ ?_
  intro v0 HV
  obtain ⟨G, c0, c1, c2, c3, hsz⟩ := HV.out
  have ⟨hh0, ff0, pp0⟩ := c0
  have ⟨hh1, ff1, pp1⟩ := c1
  have ⟨p11, p12, p13, p14, p15, p16⟩ := c1.pp
  clear HV
  go_upto_region 3 with (go_at_call 59; refine (HB.out _).mono ?_; rintro e w' ⟨rfl, g, rfl⟩)
  refine gen_w (fun wr => Hid (Gr w wr ∧ Vr wr (w.heap.size) (cu (k : Int) (pN k) (aN k) (bN k) (oN k) (xN k) (yN k) (bl (oN k)) (szN k) (lgN k)) ∧ Vr wr (w.heap.size + 1) (nw 9 t) ∧ Vr wr (w.heap.size + 1 + 1) (pnt P.1 P.2.1 P.2.2) ∧ Vr wr (w.heap.size + 1 + 1 + 1) (pnt 0 0 false) ∧ Vr wr (w.heap.size + 1 + 1 + 1 + 1) (pnt inf.1 inf.2.1 inf.2.2))) ?_ ?_
  · have hG : Gr v0 (gro (v0.alloc (.cells (pnt 0 0 true) 27)) g) := (by repeat (first | exact Gr.refl _ | apply Gr.drewN | apply Gr.drew | apply Gr.alloc | apply Gr.gro))
    have hn : Vr (gro (v0.alloc (.cells (pnt 0 0 true) 27)) g) v0.heap.size (pnt 0 0 true) := (Vr.new v0 _ _).gr (by repeat (first | exact Gr.refl _ | apply Gr.drewN | apply Gr.drew | apply Gr.alloc | apply Gr.gro))
    rw [hsz] at hn
    exact ⟨G.trans hG, c0.gr hG, c1.gr hG, c2.gr hG, c3.gr hG, hn⟩
  intro v1 HV
  clear HB
  go_loopw [8] (fun ia wr => ∃ j : Nat, ia = .int .i64 ((j : Int) - 1) ∧ Hid (Unit → j ≤ L) ∧ Hid (Gr w wr ∧ Vr wr (w.heap.size) (cu (k : Int) (pN k) (aN k) (bN k) (oN k) (xN k) (yN k) (bl (oN k)) (szN k) (lgN k)) ∧ Vr wr (w.heap.size + 1) (nw 9 t) ∧ Vr wr (w.heap.size + 1 + 1) (pnt P.1 P.2.1 P.2.2) ∧ Vr wr (w.heap.size + 1 + 1 + 1) (pnt 0 0 false) ∧ Vr wr (w.heap.size + 1 + 1 + 1 + 1) (pnt (mlQ k (t / 2 ^ j) P).1 (mlQ k (t / 2 ^ j) P).2.1 (mlQ k (t / 2 ^ j) P).2.2))) (fun ia _ => (intOf ia + 1).toNat)
  case atStart =>
    refine ⟨L, rfl, fun _ => Nat.le_refl _, ?_⟩
    rw [HZ.out (), mlQ_zero h1 h2]
    exact HV
  case round =>
    clear HV
    obtain ⟨j, rfl, HJ, HR⟩ := hrel
    by_cases hpos : 0 < j
    · obtain ⟨i0, rfl⟩ : ∃ i, j = i + 1 := ⟨j - 1, by omega⟩
      have e1 : (((i0 + 1 : Nat) : Int) - 1) = (i0 : Int) := by omega
      rw [e1]
      have j0 : (0 : Int) ≤ (i0 : Int) := by omega
      have j1 : (i0 : Int) < 576 := by have := HJ.out (); have := HLk.out (); omega
      have HJ2 : i0 ≤ L := by have := HJ.out (); omega
      have hi0 : i0 < 576 := by omega
      obtain ⟨R, hR⟩ : ∃ R, mlQ k (t / 2 ^ (i0 + 1)) P = R := ⟨_, rfl⟩
      obtain ⟨R1, hR1⟩ : ∃ R1, plQ k R R = R1 := ⟨_, rfl⟩
      obtain ⟨T, hT⟩ : ∃ T, plQ k R1 P = T := ⟨_, rfl⟩
      have hRon : OnQ k R := hR ▸ mlQ_on h1 h2 _ hP
      rw [hR] at HR
      obtain ⟨G, c0, c1, c2, c3, c4⟩ := HR.out
      have hdiv : ∀ b, t / 2 ^ i0 % 2 = b → t / 2 ^ i0 = t / 2 ^ (i0 + 1) + t / 2 ^ (i0 + 1) + b := fun b hb => by
        rw [Nat.pow_succ, ← Nat.div_div_eq_div_mul]; omega
      have h12 : mlQ k (t / 2 ^ (i0 + 1) + t / 2 ^ (i0 + 1)) P = R1 := by rw [mlQ_add h1 h2 _ _ hP, hR, hR1]
      have hbt := bit_any t i0 hi0
      clear HR HJ hpos e1
      obtain hb | hb : t / 2 ^ i0 % 2 = 0 ∨ t / 2 ^ i0 % 2 = 1 := by omega
      · have hR3 : R1 = mlQ k (t / 2 ^ i0) P := by rw [hdiv 0 hb, Nat.add_zero, h12]
        have HB : Hid (∀ w, Calls Tryz.prog 61 #[.agg (nw 9 t), .int .i64 (i0 : Int)] w fun e w' => e = .returned (.int .i64 0) ∧ Gr w w') := by
          rw [show bitN t i0 = 0 from hb] at hbt
          exact hbt
        have HS : Hid (∀ w, Calls Tryz.prog 77 #[.agg (cu (k : Int) (pN k) (aN k) (bN k) (oN k) (xN k) (yN k) (bl (oN k)) (szN k) (lgN k)), .agg (pnt R.1 R.2.1 R.2.2), .agg (pnt P.1 P.2.1 P.2.2)] w fun e w' => e = .returned (.agg (pnt R1.1 R1.2.1 R1.2.2)) ∧ Gr w w') := fun w => gdblQ h1 h2 hRon hR1 w
        clear hb h12 hdiv hbt hi0
        go_upto_region 5 with fail
        refine wp_wT 9 [.c (.agg tabB), .c (.agg (nw 9 t)), .c (.int .i64 (i0 : Int)), .c (.int .i64 0), .c (.func (.func 77) #[] #[]), .c (.agg (cu (k : Int) (pN k) (aN k) (bN k) (oN k) (xN k) (yN k) (bl (oN k)) (szN k) (lgN k))), .c (.agg (pnt R.1 R.2.1 R.2.2)), .c (.agg (pnt P.1 P.2.1 P.2.2)), .c (.agg (pnt R1.1 R1.2.1 R1.2.2))] [0, 1, 3, 5, 6, 7, 8] ?hs1 ?hf1
        case hs1 =>
         refine .cons (.k _ fun yy vv hg hh => RtW.of_c (Rt.c (toProduct_any _))) ?_
         refine .cons (.g 25 0 c1 rfl) ?_
         refine .cons (.k _ fun yy vv hg hh => RtW.of_c (Rt.c (HB.out _))) ?_
         refine .cons (.g 74 0 c0 rfl) ?_
         refine .cons (.g 27 0 c4 rfl) ?_
         refine .cons (.g 27 0 c2 rfl) ?_
         refine .cons (.k _ fun yy vv hg hh => RtW.of_c (Rt.c (HS.out _))) .nil
        refine .s 27 (fun yy => .pointer (some ⟨w.heap.size + 1 + 1 + 1 + 1, 0, none⟩)) (fun yy => .agg (pnt R1.1 R1.2.1 R1.2.2)) fun yw5 v1 hg h5 => ?_
        have HT := (c4.gr hg).h
        have FT := (c4.gr hg).f
        refine ⟨setBlk v1 (w.heap.size + 1 + 1 + 1 + 1) (pnt R1.1 R1.2.1 R1.2.2), by simp [go_sem, exI, HT, FT], ?_⟩
        simp only [FW, putFrom, Act.put, List.setIfInBounds_toArray, List.set_cons_zero, List.set_cons_succ, wvals, kW, List.getD_cons_zero, List.getD_cons_succ, Kw.c]
        clear h5
        replace G := G.trans hg
        replace c0 := c0.gr hg
        replace c1 := c1.gr hg
        replace c2 := c2.gr hg
        replace c3 := c3.gr hg
        replace c4 := c4.gr hg
        clear hg
        go_wp2_with fail
        go_roundw
        case rel =>
          refine ⟨i0, by simp, fun _ => HJ2, ?_⟩
          rw [← hR3]
          exact ⟨gr_setNew G (by omega), c0.other (by omega), c1.other (by omega), c2.other (by omega), c3.other (by omega), c4.set (by rw [pnt_size]; decide) _⟩
        case measure => simp [intOf]
      · have hR3 : T = mlQ k (t / 2 ^ i0) P := by rw [hdiv 1 hb, mlQ_add h1 h2 _ _ hP, h12, mlQ_one h1 h2 hP, hT]
        have HB : Hid (∀ w, Calls Tryz.prog 61 #[.agg (nw 9 t), .int .i64 (i0 : Int)] w fun e w' => e = .returned (.int .i64 1) ∧ Gr w w') := by
          rw [show bitN t i0 = 1 from hb] at hbt
          exact hbt
        have HS : Hid (∀ w, Calls Tryz.prog 78 #[.agg (cu (k : Int) (pN k) (aN k) (bN k) (oN k) (xN k) (yN k) (bl (oN k)) (szN k) (lgN k)), .agg (pnt R.1 R.2.1 R.2.2), .agg (pnt P.1 P.2.1 P.2.2)] w fun e w' => e = .returned (.agg (pnt T.1 T.2.1 T.2.2)) ∧ Gr w w') := fun w => gdbladdQ h1 h2 hRon hP hR1 hT w
        clear hb h12 hdiv hbt hi0
        go_upto_region 5 with fail
        refine wp_wT 9 [.c (.agg tabB), .c (.agg (nw 9 t)), .c (.int .i64 (i0 : Int)), .c (.int .i64 1), .c (.func (.func 78) #[] #[]), .c (.agg (cu (k : Int) (pN k) (aN k) (bN k) (oN k) (xN k) (yN k) (bl (oN k)) (szN k) (lgN k))), .c (.agg (pnt R.1 R.2.1 R.2.2)), .c (.agg (pnt P.1 P.2.1 P.2.2)), .c (.agg (pnt T.1 T.2.1 T.2.2))] [0, 1, 3, 5, 6, 7, 8] ?hs2 ?hf2
        case hs2 =>
         refine .cons (.k _ fun yy vv hg hh => RtW.of_c (Rt.c (toProduct_any _))) ?_
         refine .cons (.g 25 0 c1 rfl) ?_
         refine .cons (.k _ fun yy vv hg hh => RtW.of_c (Rt.c (HB.out _))) ?_
         refine .cons (.g 74 0 c0 rfl) ?_
         refine .cons (.g 27 0 c4 rfl) ?_
         refine .cons (.g 27 0 c2 rfl) ?_
         refine .cons (.k _ fun yy vv hg hh => RtW.of_c (Rt.c (HS.out _))) .nil
        refine .s 27 (fun yy => .pointer (some ⟨w.heap.size + 1 + 1 + 1 + 1, 0, none⟩)) (fun yy => .agg (pnt T.1 T.2.1 T.2.2)) fun yw5 v1 hg h5 => ?_
        have HT := (c4.gr hg).h
        have FT := (c4.gr hg).f
        refine ⟨setBlk v1 (w.heap.size + 1 + 1 + 1 + 1) (pnt T.1 T.2.1 T.2.2), by simp [go_sem, exI, HT, FT], ?_⟩
        simp only [FW, putFrom, Act.put, List.setIfInBounds_toArray, List.set_cons_zero, List.set_cons_succ, wvals, kW, List.getD_cons_zero, List.getD_cons_succ, Kw.c]
        clear h5
        replace G := G.trans hg
        replace c0 := c0.gr hg
        replace c1 := c1.gr hg
        replace c2 := c2.gr hg
        replace c3 := c3.gr hg
        replace c4 := c4.gr hg
        clear hg
        go_wp2_with fail
        go_roundw
        case rel =>
          refine ⟨i0, by simp, fun _ => HJ2, ?_⟩
          rw [← hR3]
          exact ⟨gr_setNew G (by omega), c0.other (by omega), c1.other (by omega), c2.other (by omega), c3.other (by omega), c4.set (by rw [pnt_size]; decide) _⟩
        case measure => simp [intOf]
    · obtain rfl : j = 0 := by omega
      rw [Nat.pow_zero, Nat.div_one] at HR
      obtain ⟨R, hR⟩ : ∃ R, mlQ k t P = R := ⟨_, rfl⟩
      rw [hR] at HR
      obtain ⟨G, c0, c1, c2, c3, c4⟩ := HR.out
      have ⟨h3, f3, p3⟩ := c3
      have ⟨h4, f4, p4⟩ := c4
      clear HR HJ hpos
      go_wp2_with fail
      refine bodyPost_ret (res_one Tryz.results44 (rd_pn (x := R.1) (y := R.2.1) (f := R.2.2) (by rfl) ?_)) rfl ⟨by rw [hR], gr_setNew G (by omega)⟩
      simp [go_sem, h3]

end Go.Proofs.YtlbkhhihkomahaaGreat
namespace Go.Proofs.YtlbkhhihkomahaaGreat
open Go.RowKit
attribute [local go_sem ↓] loadNat_is loadArr_is loadWide_is loadArrW_is storeNat_is storeWide_is
attribute [local go_sem] loadNat loadArr loadWide loadArrW storeNat storeWide idxArr fold9 fold18 nw_size nw_elem pre_self pre_1 pre_2 pre_3 pre_4 pre_5 pre_6 pre_7 pre_8 pre_9 pre_10 pre_11 pre_12 pre_13 pre_14 pre_15 pre_16 pre_17 pre_18 pre_19 pre_20 pre_21 pre_22 pre_23 pre_24 pre_25 pre_26 pre_27 pre_28 pre_29 pre_30 pre_31 pre_32 pre_33 pre_34 pre_35 pre_36 pre_37 pre_38 pre_39 pre_40 gro_size gro_drew gro_drewN drew_gro drewN_gro gro_gro blk_gro frz_gro blk_drew frz_drew blk_drewN frz_drewN blk_alloc_at frz_alloc_at blk_alloc frz_alloc cell_gro frozen_gro cell_alloc_pre frozen_alloc_pre setCell_drewN alloc_drewN setBlk_drew setBlk_drewN setBlk_alloc_at setBlk_alloc setBlk_gro setCell_gro setCell_alloc_pre size_setBlk size_setCell
attribute [local go_sem] ppre_1 ppre_2 ppre_3 ppre_4 ppre_5 ppre_6
attribute [local go_sem ↓] loadGp_is storeGp_is zvGp_is buildGp_is storeTA_is storeTB_is buildTA_is buildTB_is zvCu_is storeCu_is loadCu_is loadPn_is storePn_is zvPn_is buildCu_is buildPn_is Go.wp_at_zero Go.wp_at_succ
attribute [local go_sem] loadGp storeGp zvGp buildGp0 buildGp1 buildPn0 storeTA storeTB buildTA buildTB tabA_size tabB_size zvCu storeCu loadCu loadPn storePn zvPn loadCP loadCA loadPX loadPY buildPnI buildPn2 cu_size cu_P cu_A pnt_size pnt_X pnt_Y frz_setBlk blk_setBlk setBlk_setBlk blk_other
set_option maxRecDepth 100000 in
set_option maxHeartbeats 1600000 in
theorem gf_yes {k : Nat} (h1 : 1 ≤ k) (h2 : k ≤ 15) (n : Nat) (hn : n ≤ 2) (F : Nat → Q3) (hF : ∀ i, i < n → (F i).1 < M ∧ (F i).2.1 < M) (c : Array Value) (hrow : ∀ i, i < n → c.extract (i * 19) (i * 19 + 19) = pnQ (F i)) (hsz : n * 19 ≤ c.size) (hon : ∀ i, i < n → onB k (F i).1 (F i).2.1 (F i).2.2 = true) (b cap : Nat) (w : World) (hv : Vr w b c) :
    Calls Tryz.prog 37 #[.int .i64 (k : Int), .slice (some ⟨b, 0, none⟩) n cap] w fun e w' => e = .returned (.tuple #[.agg (cu (k : Int) (pN k) (aN k) (bN k) (oN k) (xN k) (yN k) (bl (oN k)) (szN k) (lgN k)), .int .i64 0]) ∧ Gr w w' := by
  have HG : Hid (∀ w, Calls Tryz.prog 25 #[.int .i64 (k : Int)] w fun e w' => e = .returned (.tuple #[.agg (cu (k : Int) (pN k) (aN k) (bN k) (oN k) (xN k) (yN k) (bl (oN k)) (szN k) (lgN k)), .int .i64 0]) ∧ Gr w w') := fun w => get13_yes k h1 h2 w
  have HN : Hid (Unit → n ≤ 2) := fun _ => hn
  have HB : Hid (∀ i, i < n → (F i).1 < M ∧ (F i).2.1 < M) := hF
  have HO : Hid (∀ i, i < n → onB k (F i).1 (F i).2.1 (F i).2.2 = true) := hon
  have HL : Hid (∀ j, j < n → ∀ v, Gr w v → (loadS 27 (.pointer (some ⟨b, j * 19, none⟩))).run Tryz.prog v = .ok (.agg (pnt (F j).1 (F j).2.1 (F j).2.2)) v) := fun j hj v g => by
    have hb := (hv.gr g).h
    rw [loadPartP v b (j * 19) (by rw [hb]; omega), hb, hrow j hj]
  clear hn hF hrow hsz hon
  go_enter Tryz.func37, Tryz.ntmps37
  go_wp2_with (go_at_call 25; refine (HG.out _).mono ?_; rintro e WA ⟨rfl, GA⟩)
  obtain ⟨e6, he6⟩ : ∃ b, WA.heap.size = b := ⟨_, rfl⟩
  simp only [he6]
  refine gen_w (fun wr => Hid (Gr w wr ∧ Vr wr (w.heap.size) (cu 0 0 0 0 0 0 0 0 0 false) ∧ Vr wr e6 (cu (k : Int) (pN k) (aN k) (bN k) (oN k) (xN k) (yN k) (bl (oN k)) (szN k) (lgN k)))) ?_ ?_
  · subst he6
    exact ⟨(((Gr.refl w).alloc _).trans GA).alloc _, ((Vr.new w _ _).gr GA).gr ((Gr.refl _).alloc _), Vr.new WA _ _⟩
  have hne : w.heap.size < e6 := by have := GA.below.size; simp at this; omega
  have hne2 : ¬ (w.heap.size = e6) := by omega
  have hne3 : ¬ (e6 = w.heap.size) := by omega
  clear he6 GA HG
  intro v0 HV
  go_loopw [20] (fun ia wr => ∃ j : Nat, ia = .int .i64 (j : Int) ∧ Hid (Unit → j ≤ n) ∧ Hid (Gr w wr ∧ Vr wr (w.heap.size) (cu 0 0 0 0 0 0 0 0 0 false) ∧ Vr wr e6 (cu (k : Int) (pN k) (aN k) (bN k) (oN k) (xN k) (yN k) (bl (oN k)) (szN k) (lgN k)))) (fun ia _ => ((n : Int) - intOf ia).toNat)
  case atStart => exact ⟨0, rfl, fun _ => Nat.zero_le _, HV⟩
  case round =>
    clear HV
    obtain ⟨j, rfl, HJ, HV⟩ := hrel
    obtain ⟨G, c0, c6⟩ := HV.out
    have j0 : (0 : Int) ≤ (j : Int) := by omega
    have n4 : (n : Int) ≤ 2 := by have := HN.out (); omega
    have ⟨hh0, ff0, pp0⟩ := c0
    have ⟨hh6, ff6, pp6⟩ := c6
    have ⟨p01, p02, p03, p04, p05, p06⟩ := c0.pp
    have ⟨p61, p62, p63, p64, p65, p66⟩ := c6.pp
    by_cases hlt : j < n
    · have hjn : j < n := by exact hlt
      have j1 : (j : Int) < (n : Int) := by omega
      have ld0 := HL.out j hjn wr G
      have HO2 : Hid (∀ w, Calls Tryz.prog 26 #[.int .i64 (k : Int), .agg (pnt (F j).1 (F j).2.1 (F j).2.2)] w fun e w' => e = .returned (.bool true) ∧ Gr w w') := fun w => by
        have := on13_yes k h1 h2 _ _ (F j).2.2 (HB.out j hjn).1 (HB.out j hjn).2 w
        rw [HO.out j hlt] at this
        exact this
      clear HV c0 c6 hjn
      go_wp2_with (go_at_call 26; refine (HO2.out _).mono ?_; rintro e w' ⟨rfl, g, rfl⟩)
      go_roundw
      case rel =>
        refine ⟨j + 1, by go_num, fun _ => hlt, ?_, ⟨by simp [go_sem, *], by simp [go_sem, *], by simp [go_sem, *]⟩, ⟨by simp [go_sem, *], by simp [go_sem, *], by simp [go_sem, *]⟩⟩
        repeat (first | exact G | apply Gr.drewN | apply Gr.drew | apply Gr.alloc | apply Gr.gro | (refine gr_setNew ?_ (by omega)))
      case measure => simp [intOf]; omega
    · skip
      have j1 : ¬ (j : Int) < (n : Int) := by omega
      clear HV c0 c6 hlt
      go_wp2_with fail
      refine bodyPost_ret (res_two Tryz.results37 (rd_gp (by rfl) ?_) (rd_tmp (by rfl))) rfl ⟨rfl, ?_⟩
      · simp [go_sem, *]
      · repeat (first | exact G | apply Gr.drewN | apply Gr.drew | apply Gr.alloc | apply Gr.gro | (refine gr_setNew ?_ (by omega)))
set_option maxRecDepth 100000 in
set_option maxHeartbeats 1600000 in
theorem gf_off {k : Nat} (h1 : 1 ≤ k) (h2 : k ≤ 15) (n : Nat) (hn : n ≤ 2) (F : Nat → Q3) (hF : ∀ i, i < n → (F i).1 < M ∧ (F i).2.1 < M) (c : Array Value) (hrow : ∀ i, i < n → c.extract (i * 19) (i * 19 + 19) = pnQ (F i)) (hsz : n * 19 ≤ c.size) (m : Nat) (hm : m < n) (hoff : onB k (F m).1 (F m).2.1 (F m).2.2 = false) (hon : ∀ i, i < m → onB k (F i).1 (F i).2.1 (F i).2.2 = true) (b cap : Nat) (w : World) (hv : Vr w b c) :
    Calls Tryz.prog 37 #[.int .i64 (k : Int), .slice (some ⟨b, 0, none⟩) n cap] w fun e w' => e = .returned (.tuple #[.agg (cu 0 0 0 0 0 0 0 0 0 false), .int .i64 1401]) ∧ Gr w w' := by
  have HG : Hid (∀ w, Calls Tryz.prog 25 #[.int .i64 (k : Int)] w fun e w' => e = .returned (.tuple #[.agg (cu (k : Int) (pN k) (aN k) (bN k) (oN k) (xN k) (yN k) (bl (oN k)) (szN k) (lgN k)), .int .i64 0]) ∧ Gr w w') := fun w => get13_yes k h1 h2 w
  have HN : Hid (Unit → n ≤ 2) := fun _ => hn
  have HB : Hid (∀ i, i < n → (F i).1 < M ∧ (F i).2.1 < M) := hF
  have HO : Hid (∀ i, i < m → onB k (F i).1 (F i).2.1 (F i).2.2 = true) := hon
  have HM : Hid (Unit → m < n) := fun _ => hm
  have HOF : Hid (Unit → onB k (F m).1 (F m).2.1 (F m).2.2 = false) := fun _ => hoff
  have HL : Hid (∀ j, j < n → ∀ v, Gr w v → (loadS 27 (.pointer (some ⟨b, j * 19, none⟩))).run Tryz.prog v = .ok (.agg (pnt (F j).1 (F j).2.1 (F j).2.2)) v) := fun j hj v g => by
    have hb := (hv.gr g).h
    rw [loadPartP v b (j * 19) (by rw [hb]; omega), hb, hrow j hj]
  clear hn hF hrow hsz hon hm hoff
  go_enter Tryz.func37, Tryz.ntmps37
  go_wp2_with (go_at_call 25; refine (HG.out _).mono ?_; rintro e WA ⟨rfl, GA⟩)
  obtain ⟨e6, he6⟩ : ∃ b, WA.heap.size = b := ⟨_, rfl⟩
  simp only [he6]
  refine gen_w (fun wr => Hid (Gr w wr ∧ Vr wr (w.heap.size) (cu 0 0 0 0 0 0 0 0 0 false) ∧ Vr wr e6 (cu (k : Int) (pN k) (aN k) (bN k) (oN k) (xN k) (yN k) (bl (oN k)) (szN k) (lgN k)))) ?_ ?_
  · subst he6
    exact ⟨(((Gr.refl w).alloc _).trans GA).alloc _, ((Vr.new w _ _).gr GA).gr ((Gr.refl _).alloc _), Vr.new WA _ _⟩
  have hne : w.heap.size < e6 := by have := GA.below.size; simp at this; omega
  have hne2 : ¬ (w.heap.size = e6) := by omega
  have hne3 : ¬ (e6 = w.heap.size) := by omega
  clear he6 GA HG
  intro v0 HV
  go_loopw [20] (fun ia wr => ∃ j : Nat, ia = .int .i64 (j : Int) ∧ Hid (Unit → j ≤ m) ∧ Hid (Gr w wr ∧ Vr wr (w.heap.size) (cu 0 0 0 0 0 0 0 0 0 false) ∧ Vr wr e6 (cu (k : Int) (pN k) (aN k) (bN k) (oN k) (xN k) (yN k) (bl (oN k)) (szN k) (lgN k)))) (fun ia _ => ((n : Int) - intOf ia).toNat)
  case atStart => exact ⟨0, rfl, fun _ => Nat.zero_le _, HV⟩
  case round =>
    clear HV
    obtain ⟨j, rfl, HJ, HV⟩ := hrel
    obtain ⟨G, c0, c6⟩ := HV.out
    have j0 : (0 : Int) ≤ (j : Int) := by omega
    have n4 : (n : Int) ≤ 2 := by have := HN.out (); omega
    have ⟨hh0, ff0, pp0⟩ := c0
    have ⟨hh6, ff6, pp6⟩ := c6
    have ⟨p01, p02, p03, p04, p05, p06⟩ := c0.pp
    have ⟨p61, p62, p63, p64, p65, p66⟩ := c6.pp
    by_cases hlt : j < m
    · have hjn : j < n := by have := HM.out (); omega
      have j1 : (j : Int) < (n : Int) := by omega
      have ld0 := HL.out j hjn wr G
      have HO2 : Hid (∀ w, Calls Tryz.prog 26 #[.int .i64 (k : Int), .agg (pnt (F j).1 (F j).2.1 (F j).2.2)] w fun e w' => e = .returned (.bool true) ∧ Gr w w') := fun w => by
        have := on13_yes k h1 h2 _ _ (F j).2.2 (HB.out j hjn).1 (HB.out j hjn).2 w
        rw [HO.out j hlt] at this
        exact this
      clear HV c0 c6 hjn
      go_wp2_with (go_at_call 26; refine (HO2.out _).mono ?_; rintro e w' ⟨rfl, g, rfl⟩)
      go_roundw
      case rel =>
        refine ⟨j + 1, by go_num, fun _ => hlt, ?_, ⟨by simp [go_sem, *], by simp [go_sem, *], by simp [go_sem, *]⟩, ⟨by simp [go_sem, *], by simp [go_sem, *], by simp [go_sem, *]⟩⟩
        repeat (first | exact G | apply Gr.drewN | apply Gr.drew | apply Gr.alloc | apply Gr.gro | (refine gr_setNew ?_ (by omega)))
      case measure => simp [intOf]; omega
    · skip
      have HO2 : Hid (∀ w, Calls Tryz.prog 26 #[.int .i64 (k : Int), .agg (pnt (F j).1 (F j).2.1 (F j).2.2)] w fun e w' => e = .returned (.bool false) ∧ Gr w w') := fun w => by
        have hjm : j = m := by have := HJ.out (); omega
        have := on13_yes k h1 h2 _ _ (F m).2.2 (HB.out m (HM.out ())).1 (HB.out m (HM.out ())).2 w
        rw [HOF.out ()] at this
        rw [hjm]
        exact this
      have hjn : j < n := by have := HJ.out (); have := HM.out (); omega
      have j1 : (j : Int) < (n : Int) := by omega
      have ld0 := HL.out j hjn wr G
      clear HV c0 c6 hlt hjn
      go_wp2_with (go_at_call 26; refine (HO2.out _).mono ?_; rintro e w' ⟨rfl, g, rfl⟩)
      refine bodyPost_ret (res_two Tryz.results37 (rd_gp (by rfl) ?_) (rd_tmp (by rfl))) rfl ⟨rfl, ?_⟩
      · simp [go_sem, *]
      · repeat (first | exact G | apply Gr.drewN | apply Gr.drew | apply Gr.alloc | apply Gr.gro | (refine gr_setNew ?_ (by omega)))
set_option maxRecDepth 100000 in
set_option maxHeartbeats 400000 in
theorem gf_no (x : Int) (h : x < 1 ∨ 15 < x) (q : Option Addr) (n c : Nat) (w : World) : Calls Tryz.prog 37 #[.int .i64 x, .slice q n c] w fun e w' => e = .returned (.tuple #[.agg (cu 0 0 0 0 0 0 0 0 0 false), .int .i64 1400]) ∧ Gr w w' := by
  have HG : Hid (∀ w, Calls Tryz.prog 25 #[.int .i64 x] w fun e w' => e = .returned (.tuple #[.agg (cu 0 0 0 0 0 0 0 0 0 false), .int .i64 1300]) ∧ Gr w w') := fun w => get13_no x h w
  clear h
  go_enter Tryz.func37, Tryz.ntmps37
  go_wp2_with (go_at_call 25; refine (HG.out _).mono ?_; rintro e w' ⟨rfl, g, rfl⟩)
  refine bodyPost_ret (res_two Tryz.results37 (rd_gp (by rfl) ?_) (rd_tmp (by rfl))) rfl ⟨rfl, (by repeat (first | exact Gr.refl _ | apply Gr.drewN | apply Gr.drew | apply Gr.alloc | apply Gr.gro))⟩
  simp [go_sem]

end Go.Proofs.YtlbkhhihkomahaaGreat
namespace Go.Proofs.YtlbkhhihkomahaaGreat
open Go.RowKit
attribute [local go_sem ↓] loadNat_is loadArr_is loadWide_is loadArrW_is storeNat_is storeWide_is
attribute [local go_sem] loadNat loadArr loadWide loadArrW storeNat storeWide idxArr fold9 fold18 nw_size nw_elem pre_self pre_1 pre_2 pre_3 pre_4 pre_5 pre_6 pre_7 pre_8 pre_9 pre_10 pre_11 pre_12 pre_13 pre_14 pre_15 pre_16 pre_17 pre_18 pre_19 pre_20 pre_21 pre_22 pre_23 pre_24 pre_25 pre_26 pre_27 pre_28 pre_29 pre_30 pre_31 pre_32 pre_33 pre_34 pre_35 pre_36 pre_37 pre_38 pre_39 pre_40 gro_size gro_drew gro_drewN drew_gro drewN_gro gro_gro blk_gro frz_gro blk_drew frz_drew blk_drewN frz_drewN blk_alloc_at frz_alloc_at blk_alloc frz_alloc cell_gro frozen_gro cell_alloc_pre frozen_alloc_pre setCell_drewN alloc_drewN setBlk_drew setBlk_drewN setBlk_alloc_at setBlk_alloc setBlk_gro setCell_gro setCell_alloc_pre size_setBlk size_setCell
attribute [local go_sem] ppre_1 ppre_2 ppre_3 ppre_4 ppre_5 ppre_6
attribute [local go_sem ↓] loadGp_is storeGp_is zvGp_is buildGp_is storeTA_is storeTB_is buildTA_is buildTB_is zvCu_is storeCu_is loadCu_is loadPn_is storePn_is zvPn_is buildCu_is buildPn_is Go.wp_at_zero Go.wp_at_succ
attribute [local go_sem] loadGp storeGp zvGp buildGp0 buildGp1 buildPn0 storeTA storeTB buildTA buildTB tabA_size tabB_size zvCu storeCu loadCu loadPn storePn zvPn loadCP loadCA loadPX loadPY buildPnI buildPn2 cu_size cu_P cu_A pnt_size pnt_X pnt_Y frz_setBlk blk_setBlk setBlk_setBlk blk_other
set_option maxRecDepth 100000 in
set_option maxHeartbeats 1600000 in
theorem aadd_yes {k : Nat} {P Q R : Q3}
    (HG' : (∀ w b, Vr w b (pnt P.1 P.2.1 P.2.2 ++ pnt Q.1 Q.2.1 Q.2.2) → Calls Tryz.prog 37 #[.int .i64 (k : Int), .slice (some ⟨b, 0, none⟩) 2 2] w fun e w' => e = .returned (.tuple #[.agg (cu (k : Int) (pN k) (aN k) (bN k) (oN k) (xN k) (yN k) (bl (oN k)) (szN k) (lgN k)), .int .i64 0]) ∧ Gr w w'))
    (HA' : ∀ w, Calls Tryz.prog 38 #[.agg (cu (k : Int) (pN k) (aN k) (bN k) (oN k) (xN k) (yN k) (bl (oN k)) (szN k) (lgN k)), .agg (pnt P.1 P.2.1 P.2.2), .agg (pnt Q.1 Q.2.1 Q.2.2)] w fun e w' => e = .returned (.agg (pnt R.1 R.2.1 R.2.2)) ∧ Gr w w') (w : World) :
    Calls Tryz.prog 13 #[.int .i64 (k : Int), .agg (pnt P.1 P.2.1 P.2.2), .agg (pnt Q.1 Q.2.1 Q.2.2)] w fun e w' => e = .returned (.tuple #[.agg (pnt R.1 R.2.1 R.2.2), .int .i64 0]) ∧ Gr w w' := by
  have HG : Hid (∀ w b, Vr w b (pnt P.1 P.2.1 P.2.2 ++ pnt Q.1 Q.2.1 Q.2.2) → Calls Tryz.prog 37 #[.int .i64 (k : Int), .slice (some ⟨b, 0, none⟩) 2 2] w fun e w' => e = .returned (.tuple #[.agg (cu (k : Int) (pN k) (aN k) (bN k) (oN k) (xN k) (yN k) (bl (oN k)) (szN k) (lgN k)), .int .i64 0]) ∧ Gr w w') := HG'
  have HA : Hid (∀ w, Calls Tryz.prog 38 #[.agg (cu (k : Int) (pN k) (aN k) (bN k) (oN k) (xN k) (yN k) (bl (oN k)) (szN k) (lgN k)), .agg (pnt P.1 P.2.1 P.2.2), .agg (pnt Q.1 Q.2.1 Q.2.2)] w fun e w' => e = .returned (.agg (pnt R.1 R.2.1 R.2.2)) ∧ Gr w w') := HA'
  clear HG' HA'
  go_enter Tryz.func13, Tryz.ntmps13
  go_upto_region 1 with fail
  refine gen_w (fun v => Hid (Gr w v ∧ Vr v (w.heap.size) (pnt P.1 P.2.1 P.2.2) ∧ Vr v (w.heap.size + 1) (pnt Q.1 Q.2.1 Q.2.2) ∧ Vr v (w.heap.size + 1 + 1) (pnt 0 0 false))) ⟨(by repeat (first | exact Gr.refl _ | apply Gr.drewN | apply Gr.drew | apply Gr.alloc | apply Gr.gro)), ⟨by simp [go_sem], by simp [go_sem], by simp [go_sem]⟩, ⟨by simp [go_sem], by simp [go_sem], by simp [go_sem]⟩, ⟨by simp [go_sem], by simp [go_sem], by simp [go_sem]⟩⟩ ?_
  intro v0 HV
  obtain ⟨G, c0, c1, c2⟩ := HV.out
  clear HV
  refine wp_v false [.c (.int .i64 (k : Int)), .c (.agg (pnt P.1 P.2.1 P.2.2)), .c (.agg (pnt Q.1 Q.2.1 Q.2.2)), .r 2 (pnt P.1 P.2.1 P.2.2 ++ pnt Q.1 Q.2.1 Q.2.2), .c (.tuple #[.agg (cu (k : Int) (pN k) (aN k) (bN k) (oN k) (xN k) (yN k) (bl (oN k)) (szN k) (lgN k)), .int .i64 0]), .c (.tuple #[.agg (cu (k : Int) (pN k) (aN k) (bN k) (oN k) (xN k) (yN k) (bl (oN k)) (szN k) (lgN k)), .int .i64 0]), .c (.agg (cu (k : Int) (pN k) (aN k) (bN k) (oN k) (xN k) (yN k) (bl (oN k)) (szN k) (lgN k))), .c (.int .i64 0), .a, .u, .c (.int .i64 0)] [1, 2, 3, 4] [⟨8, 9, 74, cu 0 0 0 0 0 0 0 0 0 false, fun _ => cu (k : Int) (pN k) (aN k) (bN k) (oN k) (xN k) (yN k) (bl (oN k)) (szN k) (lgN k)⟩] ?hs1 ?hv1 ?hf1
  case hs1 =>
   refine .cons (.g 27 0 c0 rfl) ?_
   refine .cons (.g 27 0 c1 rfl) ?_
   refine .cons (.r (.buildSlice 94 2 #[(0, .const (.agg (pnt P.1 P.2.1 P.2.2))), (1, .const (.agg (pnt Q.1 Q.2.1 Q.2.2)))]) rfl (rowP2 _ _ _ _ _ _)) ?_
   refine .cons (.k (fun yy => #[.int .i64 (k : Int), .slice (some ⟨(yy 3 0).2, 0, none⟩) 2 2]) fun yy vv hg hh => RtW.of_c (Rt.c (HG.out _ _ (hh 3 rfl)))) .nil
  case hv1 =>
   refine .cons (.mk (fun _ _ _ => rfl) (fun _ v b H F => by dsimp only at H ⊢; simp [go_sem, exI, H, F]) zCu ⟨fkc, fkc, fkc, fkr (by simp [cu_size, pnt_size]), fkc, fkc, fkc, fkc, fka, fku, fkc, trivial⟩) .nil
  intro yw1 v1 hg h1 hV1
  simp only [FW, putFrom, Act.put, List.setIfInBounds_toArray, List.set_cons_zero, List.set_cons_succ, wvals, kW, List.getD_cons_zero, List.getD_cons_succ, Kw.c, Kw.a, Kw.r, Kw.u]
  obtain ⟨⟨N1_8, V1_8⟩, -⟩ : (v0.heap.size ≤ (yw1 8 0).2 ∧ Vr v1 (yw1 8 0).2 (cu (k : Int) (pN k) (aN k) (bN k) (oN k) (xN k) (yN k) (bl (oN k)) (szN k) (lgN k))) ∧ True := hV1
  clear h1
  replace G := G.trans hg
  replace c0 := c0.gr hg
  replace c1 := c1.gr hg
  replace c2 := c2.gr hg
  clear hg
  go_upto_region 2 with fail
  refine wp_wS [.c (.int .i64 0), .c (.bool false)] [] ?hs2 ?hf2
  case hs2 => exact .nil
  intro yw2 v2 hg h2
  simp only [FW, putFrom, Act.put, List.setIfInBounds_toArray, List.set_cons_zero, List.set_cons_succ, wvals, kW, List.getD_cons_zero, List.getD_cons_succ, Kw.c]
  clear h2
  replace G := G.trans hg
  replace c0 := c0.gr hg
  replace c1 := c1.gr hg
  replace c2 := c2.gr hg
  replace V1_8 := V1_8.gr hg
  clear hg
  have ⟨hh0, ff0, pp0⟩ := c0
  have ⟨p01, p02, p03, p04, p05, p06⟩ := c0.pp
  have ⟨hh1, ff1, pp1⟩ := c1
  have ⟨p11, p12, p13, p14, p15, p16⟩ := c1.pp
  have ⟨hh2, ff2, pp2⟩ := c2
  have ⟨p21, p22, p23, p24, p25, p26⟩ := c2.pp
  have ⟨hh3, ff3, pp3⟩ := V1_8
  have ⟨p31, p32, p33, p34, p35, p36⟩ := V1_8.pp
  clear c0 c1 c2 V1_8
  go_wp2_with (go_at_call 38; refine (HA.out _).mono ?_; rintro e w' ⟨rfl, g, rfl⟩)
  refine bodyPost_ret (res_two Tryz.results13 (rd_pn (by rfl) ?_) (rd_tmp (by rfl))) rfl ⟨rfl, ?_⟩
  · simp [go_sem, *]
  · repeat (first | exact G | apply Gr.drewN | apply Gr.drew | apply Gr.alloc | apply Gr.gro | (refine gr_setNew ?_ (by omega)))
set_option maxRecDepth 100000 in
set_option maxHeartbeats 1600000 in
theorem aadd_err (id er : Int) (hne : ¬ er = 0) {P Q : Q3}
    (HG' : (∀ w b, Vr w b (pnt P.1 P.2.1 P.2.2 ++ pnt Q.1 Q.2.1 Q.2.2) → Calls Tryz.prog 37 #[.int .i64 id, .slice (some ⟨b, 0, none⟩) 2 2] w fun e w' => e = .returned (.tuple #[.agg (cu 0 0 0 0 0 0 0 0 0 false), .int .i64 er]) ∧ Gr w w')) (w : World) :
    Calls Tryz.prog 13 #[.int .i64 id, .agg (pnt P.1 P.2.1 P.2.2), .agg (pnt Q.1 Q.2.1 Q.2.2)] w fun e w' => e = .returned (.tuple #[.agg (pnt 0 0 false), .int .i64 er]) ∧ Gr w w' := by
  have HG : Hid (∀ w b, Vr w b (pnt P.1 P.2.1 P.2.2 ++ pnt Q.1 Q.2.1 Q.2.2) → Calls Tryz.prog 37 #[.int .i64 id, .slice (some ⟨b, 0, none⟩) 2 2] w fun e w' => e = .returned (.tuple #[.agg (cu 0 0 0 0 0 0 0 0 0 false), .int .i64 er]) ∧ Gr w w') := HG'
  clear HG'
  go_enter Tryz.func13, Tryz.ntmps13
  go_upto_region 1 with fail
  refine gen_w (fun v => Hid (Gr w v ∧ Vr v (w.heap.size) (pnt P.1 P.2.1 P.2.2) ∧ Vr v (w.heap.size + 1) (pnt Q.1 Q.2.1 Q.2.2) ∧ Vr v (w.heap.size + 1 + 1) (pnt 0 0 false))) ⟨(by repeat (first | exact Gr.refl _ | apply Gr.drewN | apply Gr.drew | apply Gr.alloc | apply Gr.gro)), ⟨by simp [go_sem], by simp [go_sem], by simp [go_sem]⟩, ⟨by simp [go_sem], by simp [go_sem], by simp [go_sem]⟩, ⟨by simp [go_sem], by simp [go_sem], by simp [go_sem]⟩⟩ ?_
  intro v0 HV
  obtain ⟨G, c0, c1, c2⟩ := HV.out
  clear HV
  refine wp_v false [.c (.int .i64 id), .c (.agg (pnt P.1 P.2.1 P.2.2)), .c (.agg (pnt Q.1 Q.2.1 Q.2.2)), .r 2 (pnt P.1 P.2.1 P.2.2 ++ pnt Q.1 Q.2.1 Q.2.2), .c (.tuple #[.agg (cu 0 0 0 0 0 0 0 0 0 false), .int .i64 er]), .c (.tuple #[.agg (cu 0 0 0 0 0 0 0 0 0 false), .int .i64 er]), .c (.agg (cu 0 0 0 0 0 0 0 0 0 false)), .c (.int .i64 er), .a, .u, .c (.int .i64 er)] [1, 2, 3, 4] [⟨8, 9, 74, cu 0 0 0 0 0 0 0 0 0 false, fun _ => cu 0 0 0 0 0 0 0 0 0 false⟩] ?hs3 ?hv3 ?hf3
  case hs3 =>
   refine .cons (.g 27 0 c0 rfl) ?_
   refine .cons (.g 27 0 c1 rfl) ?_
   refine .cons (.r (.buildSlice 94 2 #[(0, .const (.agg (pnt P.1 P.2.1 P.2.2))), (1, .const (.agg (pnt Q.1 Q.2.1 Q.2.2)))]) rfl (rowP2 _ _ _ _ _ _)) ?_
   refine .cons (.k (fun yy => #[.int .i64 id, .slice (some ⟨(yy 3 0).2, 0, none⟩) 2 2]) fun yy vv hg hh => RtW.of_c (Rt.c (HG.out _ _ (hh 3 rfl)))) .nil
  case hv3 =>
   refine .cons (.mk (fun _ _ _ => rfl) (fun _ v b H F => by dsimp only at H ⊢; simp [go_sem, exI, H, F]) zCu ⟨fkc, fkc, fkc, fkr (by simp [cu_size, pnt_size]), fkc, fkc, fkc, fkc, fka, fku, fkc, trivial⟩) .nil
  intro yw1 v1 hg h1 hV1
  simp only [FW, putFrom, Act.put, List.setIfInBounds_toArray, List.set_cons_zero, List.set_cons_succ, wvals, kW, List.getD_cons_zero, List.getD_cons_succ, Kw.c, Kw.a, Kw.r, Kw.u]
  obtain ⟨⟨N1_8, V1_8⟩, -⟩ : (v0.heap.size ≤ (yw1 8 0).2 ∧ Vr v1 (yw1 8 0).2 (cu 0 0 0 0 0 0 0 0 0 false)) ∧ True := hV1
  clear h1
  replace G := G.trans hg
  replace c0 := c0.gr hg
  replace c1 := c1.gr hg
  replace c2 := c2.gr hg
  clear hg
  go_upto_region 2 with fail
  refine wp_wS [.c (.int .i64 er), .c (.bool true)] [1] ?hs4 ?hf4
  case hs4 =>
   refine .cons (.s (.binOp .neq 34 (.const (.int .i64 er)) (.const (.int .i64 0)) 34) rfl fun vv hg => by simp [go_sem, exI, hne]) .nil
  intro yw2 v2 hg h2
  simp only [FW, putFrom, Act.put, List.setIfInBounds_toArray, List.set_cons_zero, List.set_cons_succ, wvals, kW, List.getD_cons_zero, List.getD_cons_succ, Kw.c]
  clear h2
  replace G := G.trans hg
  replace c0 := c0.gr hg
  replace c1 := c1.gr hg
  replace c2 := c2.gr hg
  replace V1_8 := V1_8.gr hg
  clear hg
  have ⟨hh0, ff0, pp0⟩ := c0
  have ⟨p01, p02, p03, p04, p05, p06⟩ := c0.pp
  have ⟨hh1, ff1, pp1⟩ := c1
  have ⟨p11, p12, p13, p14, p15, p16⟩ := c1.pp
  have ⟨hh2, ff2, pp2⟩ := c2
  have ⟨p21, p22, p23, p24, p25, p26⟩ := c2.pp
  have ⟨hh3, ff3, pp3⟩ := V1_8
  have ⟨p31, p32, p33, p34, p35, p36⟩ := V1_8.pp
  clear c0 c1 c2 V1_8
  go_wp2_with fail
  refine bodyPost_ret (res_two Tryz.results13 (rd_pn (by rfl) ?_) (rd_tmp (by rfl))) rfl ⟨rfl, ?_⟩
  · simp [go_sem, *]
  · repeat (first | exact G | apply Gr.drewN | apply Gr.drew | apply Gr.alloc | apply Gr.gro | (refine gr_setNew ?_ (by omega)))
set_option maxRecDepth 100000 in
set_option maxHeartbeats 1600000 in
theorem aneg_err (id er : Int) (hne : ¬ er = 0) {P : Q3}
    (HG' : (∀ w b, Vr w b (pnt P.1 P.2.1 P.2.2) → Calls Tryz.prog 37 #[.int .i64 id, .slice (some ⟨b, 0, none⟩) 1 1] w fun e w' => e = .returned (.tuple #[.agg (cu 0 0 0 0 0 0 0 0 0 false), .int .i64 er]) ∧ Gr w w')) (w : World) :
    Calls Tryz.prog 14 #[.int .i64 id, .agg (pnt P.1 P.2.1 P.2.2)] w fun e w' => e = .returned (.tuple #[.agg (pnt 0 0 false), .int .i64 er]) ∧ Gr w w' := by
  have HG : Hid (∀ w b, Vr w b (pnt P.1 P.2.1 P.2.2) → Calls Tryz.prog 37 #[.int .i64 id, .slice (some ⟨b, 0, none⟩) 1 1] w fun e w' => e = .returned (.tuple #[.agg (cu 0 0 0 0 0 0 0 0 0 false), .int .i64 er]) ∧ Gr w w') := HG'
  clear HG'
  go_enter Tryz.func14, Tryz.ntmps14
  go_upto_region 1 with fail
  refine gen_w (fun v => Hid (Gr w v ∧ Vr v (w.heap.size) (pnt P.1 P.2.1 P.2.2) ∧ Vr v (w.heap.size + 1) (pnt 0 0 false))) ⟨(by repeat (first | exact Gr.refl _ | apply Gr.drewN | apply Gr.drew | apply Gr.alloc | apply Gr.gro)), ⟨by simp [go_sem], by simp [go_sem], by simp [go_sem]⟩, ⟨by simp [go_sem], by simp [go_sem], by simp [go_sem]⟩⟩ ?_
  intro v0 HV
  obtain ⟨G, c0, c1⟩ := HV.out
  clear HV
  refine wp_v false [.c (.int .i64 id), .c (.agg (pnt P.1 P.2.1 P.2.2)), .r 1 (pnt P.1 P.2.1 P.2.2), .c (.tuple #[.agg (cu 0 0 0 0 0 0 0 0 0 false), .int .i64 er]), .c (.tuple #[.agg (cu 0 0 0 0 0 0 0 0 0 false), .int .i64 er]), .c (.agg (cu 0 0 0 0 0 0 0 0 0 false)), .c (.int .i64 er), .a, .u, .c (.int .i64 er)] [1, 2, 3] [⟨7, 8, 74, cu 0 0 0 0 0 0 0 0 0 false, fun _ => cu 0 0 0 0 0 0 0 0 0 false⟩] ?hs7 ?hv7 ?hf7
  case hs7 =>
   refine .cons (.g 27 0 c0 rfl) ?_
   refine .cons (.r (.buildSlice 94 1 #[(0, .const (.agg (pnt P.1 P.2.1 P.2.2)))]) rfl (rowP1 _ _ _)) ?_
   refine .cons (.k (fun yy => #[.int .i64 id, .slice (some ⟨(yy 2 0).2, 0, none⟩) 1 1]) fun yy vv hg hh => RtW.of_c (Rt.c (HG.out _ _ (hh 2 rfl)))) .nil
  case hv7 =>
   refine .cons (.mk (fun _ _ _ => rfl) (fun _ v b H F => by dsimp only at H ⊢; simp [go_sem, exI, H, F]) zCu ⟨fkc, fkc, fkr (by simp [cu_size, pnt_size]), fkc, fkc, fkc, fkc, fka, fku, fkc, trivial⟩) .nil
  intro yw1 v1 hg h1 hV1
  simp only [FW, putFrom, Act.put, List.setIfInBounds_toArray, List.set_cons_zero, List.set_cons_succ, wvals, kW, List.getD_cons_zero, List.getD_cons_succ, Kw.c, Kw.a, Kw.r, Kw.u]
  obtain ⟨⟨N1_7, V1_7⟩, -⟩ : (v0.heap.size ≤ (yw1 7 0).2 ∧ Vr v1 (yw1 7 0).2 (cu 0 0 0 0 0 0 0 0 0 false)) ∧ True := hV1
  clear h1
  replace G := G.trans hg
  replace c0 := c0.gr hg
  replace c1 := c1.gr hg
  clear hg
  go_upto_region 2 with fail
  refine wp_wS [.c (.int .i64 er), .c (.bool true)] [1] ?hs8 ?hf8
  case hs8 =>
   refine .cons (.s (.binOp .neq 34 (.const (.int .i64 er)) (.const (.int .i64 0)) 34) rfl fun vv hg => by simp [go_sem, exI, hne]) .nil
  intro yw2 v2 hg h2
  simp only [FW, putFrom, Act.put, List.setIfInBounds_toArray, List.set_cons_zero, List.set_cons_succ, wvals, kW, List.getD_cons_zero, List.getD_cons_succ, Kw.c]
  clear h2
  replace G := G.trans hg
  replace c0 := c0.gr hg
  replace c1 := c1.gr hg
  replace V1_7 := V1_7.gr hg
  clear hg
  have ⟨hh0, ff0, pp0⟩ := c0
  have ⟨p01, p02, p03, p04, p05, p06⟩ := c0.pp
  have ⟨hh1, ff1, pp1⟩ := c1
  have ⟨p11, p12, p13, p14, p15, p16⟩ := c1.pp
  have ⟨hh2, ff2, pp2⟩ := V1_7
  have ⟨p21, p22, p23, p24, p25, p26⟩ := V1_7.pp
  clear c0 c1 V1_7
  go_wp2_with fail
  refine bodyPost_ret (res_two Tryz.results14 (rd_pn (by rfl) ?_) (rd_tmp (by rfl))) rfl ⟨rfl, ?_⟩
  · simp [go_sem, *]
  · repeat (first | exact G | apply Gr.drewN | apply Gr.drew | apply Gr.alloc | apply Gr.gro | (refine gr_setNew ?_ (by omega)))
set_option maxRecDepth 100000 in
set_option maxHeartbeats 1600000 in
theorem amul_yes {k : Nat} {P R : Q3} (t : Nat)
    (HG' : (∀ w b, Vr w b (pnt P.1 P.2.1 P.2.2) → Calls Tryz.prog 37 #[.int .i64 (k : Int), .slice (some ⟨b, 0, none⟩) 1 1] w fun e w' => e = .returned (.tuple #[.agg (cu (k : Int) (pN k) (aN k) (bN k) (oN k) (xN k) (yN k) (bl (oN k)) (szN k) (lgN k)), .int .i64 0]) ∧ Gr w w'))
    (HA' : ∀ w, Calls Tryz.prog 44 #[.agg (cu (k : Int) (pN k) (aN k) (bN k) (oN k) (xN k) (yN k) (bl (oN k)) (szN k) (lgN k)), .agg (nw 9 t), .agg (pnt P.1 P.2.1 P.2.2)] w fun e w' => e = .returned (.agg (pnt R.1 R.2.1 R.2.2)) ∧ Gr w w') (w : World) :
    Calls Tryz.prog 22 #[.int .i64 (k : Int), .agg (nw 9 t), .agg (pnt P.1 P.2.1 P.2.2)] w fun e w' => e = .returned (.tuple #[.agg (pnt R.1 R.2.1 R.2.2), .int .i64 0]) ∧ Gr w w' := by
  have HG : Hid (∀ w b, Vr w b (pnt P.1 P.2.1 P.2.2) → Calls Tryz.prog 37 #[.int .i64 (k : Int), .slice (some ⟨b, 0, none⟩) 1 1] w fun e w' => e = .returned (.tuple #[.agg (cu (k : Int) (pN k) (aN k) (bN k) (oN k) (xN k) (yN k) (bl (oN k)) (szN k) (lgN k)), .int .i64 0]) ∧ Gr w w') := HG'
  have HA : Hid (∀ w, Calls Tryz.prog 44 #[.agg (cu (k : Int) (pN k) (aN k) (bN k) (oN k) (xN k) (yN k) (bl (oN k)) (szN k) (lgN k)), .agg (nw 9 t), .agg (pnt P.1 P.2.1 P.2.2)] w fun e w' => e = .returned (.agg (pnt R.1 R.2.1 R.2.2)) ∧ Gr w w') := HA'
  clear HG' HA'
  go_enter Tryz.func22, Tryz.ntmps22
  go_upto_region 1 with fail
  refine gen_w (fun v => Hid (Gr w v ∧ Vr v (w.heap.size) (nw 9 t) ∧ Vr v (w.heap.size + 1) (pnt P.1 P.2.1 P.2.2) ∧ Vr v (w.heap.size + 1 + 1) (pnt 0 0 false))) ⟨(by repeat (first | exact Gr.refl _ | apply Gr.drewN | apply Gr.drew | apply Gr.alloc | apply Gr.gro)), ⟨by simp [go_sem], by simp [go_sem], by simp [go_sem]⟩, ⟨by simp [go_sem], by simp [go_sem], by simp [go_sem]⟩, ⟨by simp [go_sem], by simp [go_sem], by simp [go_sem]⟩⟩ ?_
  intro v0 HV
  obtain ⟨G, c0, c1, c2⟩ := HV.out
  clear HV
  refine wp_v false [.c (.int .i64 (k : Int)), .c (.agg (pnt P.1 P.2.1 P.2.2)), .r 1 (pnt P.1 P.2.1 P.2.2), .c (.tuple #[.agg (cu (k : Int) (pN k) (aN k) (bN k) (oN k) (xN k) (yN k) (bl (oN k)) (szN k) (lgN k)), .int .i64 0]), .c (.tuple #[.agg (cu (k : Int) (pN k) (aN k) (bN k) (oN k) (xN k) (yN k) (bl (oN k)) (szN k) (lgN k)), .int .i64 0]), .c (.agg (cu (k : Int) (pN k) (aN k) (bN k) (oN k) (xN k) (yN k) (bl (oN k)) (szN k) (lgN k))), .c (.int .i64 0), .a, .u, .c (.int .i64 0)] [1, 2, 3] [⟨7, 8, 74, cu 0 0 0 0 0 0 0 0 0 false, fun _ => cu (k : Int) (pN k) (aN k) (bN k) (oN k) (xN k) (yN k) (bl (oN k)) (szN k) (lgN k)⟩] ?hs9 ?hv9 ?hf9
  case hs9 =>
   refine .cons (.g 27 0 c1 rfl) ?_
   refine .cons (.r (.buildSlice 94 1 #[(0, .const (.agg (pnt P.1 P.2.1 P.2.2)))]) rfl (rowP1 _ _ _)) ?_
   refine .cons (.k (fun yy => #[.int .i64 (k : Int), .slice (some ⟨(yy 2 0).2, 0, none⟩) 1 1]) fun yy vv hg hh => RtW.of_c (Rt.c (HG.out _ _ (hh 2 rfl)))) .nil
  case hv9 =>
   refine .cons (.mk (fun _ _ _ => rfl) (fun _ v b H F => by dsimp only at H ⊢; simp [go_sem, exI, H, F]) zCu ⟨fkc, fkc, fkr (by simp [cu_size, pnt_size]), fkc, fkc, fkc, fkc, fka, fku, fkc, trivial⟩) .nil
  intro yw1 v1 hg h1 hV1
  simp only [FW, putFrom, Act.put, List.setIfInBounds_toArray, List.set_cons_zero, List.set_cons_succ, wvals, kW, List.getD_cons_zero, List.getD_cons_succ, Kw.c, Kw.a, Kw.r, Kw.u]
  obtain ⟨⟨N1_7, V1_7⟩, -⟩ : (v0.heap.size ≤ (yw1 7 0).2 ∧ Vr v1 (yw1 7 0).2 (cu (k : Int) (pN k) (aN k) (bN k) (oN k) (xN k) (yN k) (bl (oN k)) (szN k) (lgN k))) ∧ True := hV1
  clear h1
  replace G := G.trans hg
  replace c0 := c0.gr hg
  replace c1 := c1.gr hg
  replace c2 := c2.gr hg
  clear hg
  go_upto_region 2 with fail
  refine wp_wS [.c (.int .i64 0), .c (.bool false)] [] ?hs10 ?hf10
  case hs10 => exact .nil
  intro yw2 v2 hg h2
  simp only [FW, putFrom, Act.put, List.setIfInBounds_toArray, List.set_cons_zero, List.set_cons_succ, wvals, kW, List.getD_cons_zero, List.getD_cons_succ, Kw.c]
  clear h2
  replace G := G.trans hg
  replace c0 := c0.gr hg
  replace c1 := c1.gr hg
  replace c2 := c2.gr hg
  replace V1_7 := V1_7.gr hg
  clear hg
  have ⟨hh0, ff0, pp0⟩ := c0
  have ⟨p01, p02, p03, p04, p05, p06⟩ := c0.pp
  have ⟨hh1, ff1, pp1⟩ := c1
  have ⟨p11, p12, p13, p14, p15, p16⟩ := c1.pp
  have ⟨hh2, ff2, pp2⟩ := c2
  have ⟨p21, p22, p23, p24, p25, p26⟩ := c2.pp
  have ⟨hh3, ff3, pp3⟩ := V1_7
  have ⟨p31, p32, p33, p34, p35, p36⟩ := V1_7.pp
  clear c0 c1 c2 V1_7
  go_wp2_with (go_at_call 44; refine (HA.out _).mono ?_; rintro e w' ⟨rfl, g, rfl⟩)
  refine bodyPost_ret (res_two Tryz.results22 (rd_pn (by rfl) ?_) (rd_tmp (by rfl))) rfl ⟨rfl, ?_⟩
  · simp [go_sem, *]
  · repeat (first | exact G | apply Gr.drewN | apply Gr.drew | apply Gr.alloc | apply Gr.gro | (refine gr_setNew ?_ (by omega)))
theorem gf1 {k : Nat} (h1 : 1 ≤ k) (h2 : k ≤ 15) {P : Q3} (hP : OnQ k P) (w : World) (b : Nat) (hv : Vr w b (pnQ P)) : Calls Tryz.prog 37 #[.int .i64 (k : Int), .slice (some ⟨b, 0, none⟩) 1 1] w fun e w' => e = .returned (.tuple #[.agg (cu (k : Int) (pN k) (aN k) (bN k) (oN k) (xN k) (yN k) (bl (oN k)) (szN k) (lgN k)), .int .i64 0]) ∧ Gr w w' :=
  gf_yes h1 h2 1 (by decide) (fun _ => P) (fun _ _ => hP.lt) _ (fun i hi => by
    obtain rfl : i = 0 := by omega
    kernel_rfl) (by simp [pnt_size]) (fun _ _ => hP) b 1 w hv
theorem gf2 {k : Nat} (h1 : 1 ≤ k) (h2 : k ≤ 15) {P Q : Q3} (hP : OnQ k P) (hQ : OnQ k Q) (w : World) (b : Nat) (hv : Vr w b (pnQ P ++ pnQ Q)) : Calls Tryz.prog 37 #[.int .i64 (k : Int), .slice (some ⟨b, 0, none⟩) 2 2] w fun e w' => e = .returned (.tuple #[.agg (cu (k : Int) (pN k) (aN k) (bN k) (oN k) (xN k) (yN k) (bl (oN k)) (szN k) (lgN k)), .int .i64 0]) ∧ Gr w w' :=
  gf_yes h1 h2 2 (by decide) (fun i => match i with | 0 => P | _ => Q) (fun i _ => match i with | 0 => hP.lt | _ + 1 => hQ.lt) _ (fun i hi => by
    obtain rfl | rfl : i = 0 ∨ i = 1 := by omega
    · kernel_rfl
    · kernel_rfl) (by simp [pnt_size]) (fun i _ => match i with | 0 => hP | _ + 1 => hQ) b 2 w hv
theorem gf2_off {k : Nat} (h1 : 1 ≤ k) (h2 : k ≤ 15) {P Q : Q3} (lP : P.1 < M ∧ P.2.1 < M) (lQ : Q.1 < M ∧ Q.2.1 < M) (h : onB k P.1 P.2.1 P.2.2 = false ∨ onB k Q.1 Q.2.1 Q.2.2 = false) (w : World) (b : Nat) (hv : Vr w b (pnQ P ++ pnQ Q)) : Calls Tryz.prog 37 #[.int .i64 (k : Int), .slice (some ⟨b, 0, none⟩) 2 2] w fun e w' => e = .returned (.tuple #[.agg (cu 0 0 0 0 0 0 0 0 0 false), .int .i64 1401]) ∧ Gr w w' := by
  by_cases hP : onB k P.1 P.2.1 P.2.2 = true
  · have hQ : onB k Q.1 Q.2.1 Q.2.2 = false := h.resolve_left (by rw [hP]; decide)
    exact gf_off h1 h2 2 (by decide) (fun i => match i with | 0 => P | _ => Q) (fun i _ => match i with | 0 => lP | _ + 1 => lQ) _ (fun i hi => by
    obtain rfl | rfl : i = 0 ∨ i = 1 := by omega
    · kernel_rfl
    · kernel_rfl) (by simp [pnt_size]) 1 (by decide) hQ (fun i hi => by
      obtain rfl : i = 0 := by omega
      exact hP) b 2 w hv
  · exact gf_off h1 h2 2 (by decide) (fun i => match i with | 0 => P | _ => Q) (fun i _ => match i with | 0 => lP | _ + 1 => lQ) _ (fun i hi => by
    obtain rfl | rfl : i = 0 ∨ i = 1 := by omega
    · kernel_rfl
    · kernel_rfl) (by simp [pnt_size]) 0 (by decide) (Bool.eq_false_iff.2 hP) (fun i h => absurd h (Nat.not_lt_zero i)) b 2 w hv
theorem addQ {k : Nat} (h1 : 1 ≤ k) (h2 : k ≤ 15) {P Q R : Q3} (hP : OnQ k P) (hQ : OnQ k Q) (hR : plQ k P Q = R) (w : World) : Calls Tryz.prog 13 #[.int .i64 (k : Int), .agg (pnQ P), .agg (pnQ Q)] w fun e w' => e = .returned (.tuple #[.agg (pnQ R), .int .i64 0]) ∧ Gr w w' := aadd_yes (gf2 h1 h2 hP hQ) (gaddQ h1 h2 hP hQ hR) w
theorem mulQ {k : Nat} (h1 : 1 ≤ k) (h2 : k ≤ 15) {P R : Q3} (hP : OnQ k P) {t : Nat} (ht : t < M) (hR : mlQ k t P = R) (w : World) : Calls Tryz.prog 22 #[.int .i64 (k : Int), .agg (nw 9 t), .agg (pnQ P)] w fun e w' => e = .returned (.tuple #[.agg (pnQ R), .int .i64 0]) ∧ Gr w w' := amul_yes t (gf1 h1 h2 hP) (hR ▸ gmulQ h1 h2 hP t ht) w
theorem add_off {k : Nat} (h1 : 1 ≤ k) (h2 : k ≤ 15) {P Q : Q3} (lP : P.1 < M ∧ P.2.1 < M) (lQ : Q.1 < M ∧ Q.2.1 < M) (h : onB k P.1 P.2.1 P.2.2 = false ∨ onB k Q.1 Q.2.1 Q.2.2 = false) (w : World) : Calls Tryz.prog 13 #[.int .i64 (k : Int), .agg (pnQ P), .agg (pnQ Q)] w fun e w' => e = .returned (.tuple #[.agg (pnt 0 0 false), .int .i64 1401]) ∧ Gr w w' := aadd_err _ _ (by decide) (gf2_off h1 h2 lP lQ h) w
theorem neg_no (x : Int) (h : x < 1 ∨ 15 < x) (P : Q3) (w : World) : Calls Tryz.prog 14 #[.int .i64 x, .agg (pnQ P)] w fun e w' => e = .returned (.tuple #[.agg (pnt 0 0 false), .int .i64 1400]) ∧ Gr w w' := aneg_err _ _ (by decide) (fun w _ _ => gf_no x h _ _ _ w) w
end Go.Proofs.YtlbkhhihkomahaaGreat
namespace Go.Proofs.YtlbkhhihkomahaaGreat
open Go.RowKit
attribute [local go_sem ↓] loadNat_is loadArr_is loadWide_is loadArrW_is storeNat_is storeWide_is
attribute [local go_sem] loadNat loadArr loadWide loadArrW storeNat storeWide idxArr fold9 fold18 nw_size nw_elem pre_self pre_1 pre_2 pre_3 pre_4 pre_5 pre_6 pre_7 pre_8 pre_9 pre_10 pre_11 pre_12 pre_13 pre_14 pre_15 pre_16 pre_17 pre_18 pre_19 pre_20 pre_21 pre_22 pre_23 pre_24 pre_25 pre_26 pre_27 pre_28 pre_29 pre_30 pre_31 pre_32 pre_33 pre_34 pre_35 pre_36 pre_37 pre_38 pre_39 pre_40 gro_size gro_drew gro_drewN drew_gro drewN_gro gro_gro blk_gro frz_gro blk_drew frz_drew blk_drewN frz_drewN blk_alloc_at frz_alloc_at blk_alloc frz_alloc cell_gro frozen_gro cell_alloc_pre frozen_alloc_pre setCell_drewN alloc_drewN setBlk_drew setBlk_drewN setBlk_alloc_at setBlk_alloc setBlk_gro setCell_gro setCell_alloc_pre size_setBlk size_setCell
attribute [local go_sem ↓] loadPt_is storePt_is zvPt_is buildPt_is loadC_is loadPn_is loadCu_is storePn_is zvPn_is buildPn_is storeCu_is zvCu_is buildCu_is Go.wp_at_zero Go.wp_at_succ
attribute [local go_sem] loadPt storePt zvPt buildPt3 buildPt2 buildPtI ptA_size crA_size loadC loadPn loadPX loadPY pnt_size pnt_X pnt_Y storePn zvPn buildPn2 buildPn3 storeCu zvCu buildCu9 cu_size loadCu
attribute [local go_sem] frz_setBlk blk_setBlk setBlk_setBlk
section
variable {P : Nat} [NeZero P] {i : Fin P → Fin P} {A B : Fin P}
set_option maxRecDepth 100000 in
set_option maxHeartbeats 4000000 in
theorem rtimes_any (C : EC.Cur i A B) (hd : dl P ≤ 400) (id : Int) (N X Y : Nat) (qc : Nat → Option Addr × Nat) (k nk : Nat) (pk : Option Addr) (hk : dl k ≤ 400) (Q : Option (Fin P × Fin P)) (hQ : EC.On A B Q) (p q : Option Addr) (n m : Nat) (w : World)
    (HQ : ∀ k, Sl w (qc k).1 (six P A.val B.val N X Y k)) (Sk : Sl w pk k) (Sx : Sl w p (ex Q)) (Sy : Sl w q (ey Q)) :
    Calls Tryz.prog 23 #[.agg (crA id (six P A.val B.val N X Y) qc), .slice pk (dl k) nk, .agg (ptA p (ex Q) n q (ey Q) m (ef Q))] w (Rt (.pt (ex (EC.ml i A k Q)) (ey (EC.ml i A k Q)) (ef (EC.ml i A k Q))) w) := by
  obtain ⟨L, hL⟩ : ∃ L, bl k = L := ⟨_, rfl⟩
  have hL1 : (L : Int) ≤ 12800 := by
    have : (bl k + 31) / 32 ≤ 400 := hk
    omega
  have hL0 : (0 : Int) ≤ (L : Int) := by omega
  have HB : Hid (∀ w', Gr w w' → Calls Tryz.prog 45 #[.slice pk (dl k) nk] w' fun e w'' => e = .returned (.int .i64 (L : Int)) ∧ w'' = w') := fun w' g => hL ▸ rbits_any k nk pk w' (Sk.gr g) (by omega)
  have HZ : Hid (Unit → k / 2 ^ L = 0) := fun _ => Nat.div_eq_of_lt (hL ▸ (bl_le k (bl k)).1 (Nat.le_refl _))
  have HLk : Hid (Unit → L ≤ 12800) := fun _ => by omega
  clear hL
  go_enter Tryz.func23, Tryz.ntmps23
  go_upto_region 3 with (go_at_call 45; refine (HB.out _ (by repeat (first | exact Gr.refl _ | apply Gr.drewN | apply Gr.drew | apply Gr.alloc | apply Gr.gro))).mono ?_; rintro e w' ⟨rfl, rfl⟩)
  obtain ⟨b7, hb7⟩ : ∃ b, w.heap.size + 1 + 1 + 1 = b := ⟨_, rfl⟩
  simp only [hb7]
  refine gen_w (fun v => Hid (Gr w v ∧ Vr v (w.heap.size) (crA id (six P A.val B.val N X Y) qc) ∧ Vr v (w.heap.size + 1) (ptA p (ex Q) n q (ey Q) m (ef Q)) ∧ Vr v (w.heap.size + 1 + 1) (ptA none 0 0 none 0 0 false) ∧ Vr v b7 (ptA none 0 0 none 0 0 true))) ?_ ?_
  · subst hb7
    exact ⟨(by repeat (first | exact Gr.refl _ | apply Gr.drewN | apply Gr.drew | apply Gr.alloc | apply Gr.gro)), ⟨by simp [go_sem], by simp [go_sem], by simp [go_sem]⟩, ⟨by simp [go_sem], by simp [go_sem], by simp [go_sem]⟩, ⟨by simp [go_sem], by simp [go_sem], by simp [go_sem]⟩, ⟨by simp [go_sem], by simp [go_sem], by simp [go_sem]⟩⟩
  intro v0 HV
  have ne0 : b7 ≠ w.heap.size := by omega
  have ne1 : b7 ≠ w.heap.size + 1 := by omega
  have ne2 : b7 ≠ w.heap.size + 1 + 1 := by omega
  have nb7 : w.heap.size ≤ b7 := by omega
  have HN : Hid (Unit → b7 ≠ w.heap.size ∧ b7 ≠ w.heap.size + 1 ∧ b7 ≠ w.heap.size + 1 + 1 ∧ w.heap.size ≤ b7) := fun _ => ⟨ne0, ne1, ne2, nb7⟩
  clear hb7 ne0 ne1 ne2 nb7 HB
  go_loopw [8] (fun ia wr => ∃ (j : Nat) (po : Option Addr) (no : Nat) (qo : Option Addr) (mo : Nat), ia = .int .i64 ((j : Int) - 1) ∧ Hid (Unit → j ≤ L) ∧ Hid (Gr w wr ∧ Vr wr (w.heap.size) (crA id (six P A.val B.val N X Y) qc) ∧ Vr wr (w.heap.size + 1) (ptA p (ex Q) n q (ey Q) m (ef Q)) ∧ Vr wr (w.heap.size + 1 + 1) (ptA none 0 0 none 0 0 false) ∧ Vr wr b7 (ptA po (ex (EC.ml i A (k / 2 ^ j) Q)) no qo (ey (EC.ml i A (k / 2 ^ j) Q)) mo (ef (EC.ml i A (k / 2 ^ j) Q))) ∧ Sl wr po (ex (EC.ml i A (k / 2 ^ j) Q)) ∧ Sl wr qo (ey (EC.ml i A (k / 2 ^ j) Q)))) (fun ia _ => (intOf ia + 1).toNat)
  case atStart =>
    refine ⟨L, none, 0, none, 0, rfl, fun _ => Nat.le_refl _, ?_⟩
    rw [HZ.out ()]
    obtain ⟨h1, h2, h3, h4, h5⟩ := HV.out
    exact ⟨h1, h2, h3, h4, h5, Sl.zero _ _, Sl.zero _ _⟩
  case round =>
    obtain ⟨j, po, no, qo, mo, rfl, HJ, HR⟩ := hrel
    by_cases hpos : 0 < j
    · obtain ⟨i0, rfl⟩ : ∃ i, j = i + 1 := ⟨j - 1, by omega⟩
      have e1 : (((i0 + 1 : Nat) : Int) - 1) = (i0 : Int) := by omega
      rw [e1]
      have j0 : (0 : Int) ≤ (i0 : Int) := by omega
      have j1 : (i0 : Int) < 12800 := by have := HJ.out (); have := HLk.out (); omega
      have HJ2 : i0 ≤ L := by have := HJ.out (); omega
      obtain ⟨R, hR⟩ : ∃ R, EC.ml i A (k / 2 ^ (i0 + 1)) Q = R := ⟨_, rfl⟩
      obtain ⟨R1, hR1⟩ : ∃ R1, EC.pl i A R R = R1 := ⟨_, rfl⟩
      obtain ⟨R2, hR2⟩ : ∃ R2, EC.pl i A R1 Q = R2 := ⟨_, rfl⟩
      rw [hR] at HR
      obtain ⟨G, c1, c2, c3, c7, So, To⟩ := HR.out
      obtain ⟨ne0, ne1, ne2, nb7⟩ := HN.out ()
      replace HQ := fun k => (HQ k).gr G
      replace Sk := Sk.gr G
      replace Sx := Sx.gr G
      replace Sy := Sy.gr G
      have hdiv : ∀ b, k / 2 ^ i0 % 2 = b → k / 2 ^ i0 = k / 2 ^ (i0 + 1) + k / 2 ^ (i0 + 1) + b := fun b hb => by
        rw [Nat.pow_succ, ← Nat.div_div_eq_div_mul]; omega
      have h12 : EC.ml i A (k / 2 ^ (i0 + 1) + k / 2 ^ (i0 + 1)) Q = R1 := by rw [EC.ml_add C hQ, hR, hR1]
      have hbt := fun w' (s : Sl w' pk k) => rbit_any k nk i0 pk w' s (by omega)
      clear HV HR HJ hpos e1
      obtain hb | hb : k / 2 ^ i0 % 2 = 0 ∨ k / 2 ^ i0 % 2 = 1 := by omega
      · have hR3 : R1 = EC.ml i A (k / 2 ^ i0) Q := by rw [hdiv 0 hb, Nat.add_zero, h12]
        have hbit : ∀ w', Sl w' pk k → Calls Tryz.prog 46 #[.slice pk (dl k) nk, .int .i64 (i0 : Int)] w' fun e w'' => e = .returned (.int .i64 0) ∧ w'' = w' := fun w' s => by
          have := hbt w' s
          rw [show bitN k i0 = 0 from hb] at this
          exact this
        clear hb h12 hdiv hbt
        go_upto_region 5 with fail
        refine wp_wTS 4 [.c (.agg (crA id (six P A.val B.val N X Y) qc)), .c (.agg (ptA po (ex R) no qo (ey R) mo (ef R))), .c (.agg (ptA po (ex R) no qo (ey R) mo (ef R))), .pt (ex R1) (ey R1) (ef R1)] [0, 1, 2, 3] ?hs1 ?hf1
        case hs1 =>
         refine .cons (.g 31 0 c1 rfl) ?_
         refine .cons (.g 41 0 c7 rfl) ?_
         refine .cons (.g 41 0 c7 rfl) ?_
         refine .cons (.k (fun yy => #[.agg (crA id (six P A.val B.val N X Y) qc), .agg (ptA po (ex R) no qo (ey R) mo (ef R)), .agg (ptA po (ex R) no qo (ey R) mo (ef R))]) fun yy vv hg hh => RtW.of_pt (hR1 ▸ rplus_any C hd id N X Y qc R R po qo no mo po qo no mo _ (fun k => (HQ k).gr hg) (So.gr hg) (To.gr hg) (So.gr hg) (To.gr hg))) .nil
        refine .s 41 (fun yy => .pointer (some ⟨b7, 0, none⟩)) (fun yy => .agg (ptA (yy 3 0).1 (ex R1) (yy 3 0).2 (yy 3 1).1 (ey R1) (yy 3 1).2 (ef R1))) fun yw5 v1 hg h5 => ?_
        have HT := (c7.gr hg).h
        have FT := (c7.gr hg).f
        refine ⟨setBlk v1 (b7) (ptA (yw5 3 0).1 (ex R1) (yw5 3 0).2 (yw5 3 1).1 (ey R1) (yw5 3 1).2 (ef R1)), by simp [go_sem, exI, HT, FT], ?_⟩
        simp only [FW, putFrom, Act.put, List.setIfInBounds_toArray, List.set_cons_zero, List.set_cons_succ, wvals, kW, List.getD_cons_zero, List.getD_cons_succ, Kw.c, Kw.pt]
        obtain ⟨S5_3, T5_3⟩ : Sl v1 (yw5 3 0).1 (ex R1) ∧ Sl v1 (yw5 3 1).1 (ey R1) := h5 3
        clear h5
        replace G := G.trans hg
        replace c1 := c1.gr hg
        replace c2 := c2.gr hg
        replace c3 := c3.gr hg
        replace c7 := c7.gr hg
        replace HQ := fun k => (HQ k).gr hg
        replace Sk := Sk.gr hg
        replace Sx := Sx.gr hg
        replace Sy := Sy.gr hg
        replace So := So.gr hg
        replace To := To.gr hg
        clear hg
        go_upto_region 6 with fail
        refine gen_w (fun u => Gr w u ∧ Vr u (w.heap.size) (crA id (six P A.val B.val N X Y) qc) ∧ Vr u (w.heap.size + 1) (ptA p (ex Q) n q (ey Q) m (ef Q)) ∧ Vr u (w.heap.size + 1 + 1) (ptA none 0 0 none 0 0 false) ∧ Vr u (b7) (ptA (yw5 3 0).1 (ex R1) (yw5 3 0).2 (yw5 3 1).1 (ey R1) (yw5 3 1).2 (ef R1)) ∧ (∀ k, Sl u (qc k).1 (six P A.val B.val N X Y k)) ∧ Sl u pk (k) ∧ Sl u p (ex Q) ∧ Sl u q (ey Q) ∧ Sl u (yw5 3 0).1 (ex R1) ∧ Sl u (yw5 3 1).1 (ey R1)) ⟨gr_setNew G (by omega), c1.other (ne0), c2.other (ne1), c3.other (ne2), c7.set (by rw [ptA_size]; decide) _, fun k => Sl.set (HQ k) (by rw [HT]; exact ptA_no _ _ _ _ _ _ _), Sl.set Sk (by rw [HT]; exact ptA_no _ _ _ _ _ _ _), Sl.set Sx (by rw [HT]; exact ptA_no _ _ _ _ _ _ _), Sl.set Sy (by rw [HT]; exact ptA_no _ _ _ _ _ _ _), Sl.set S5_3 (by rw [HT]; exact ptA_no _ _ _ _ _ _ _), Sl.set T5_3 (by rw [HT]; exact ptA_no _ _ _ _ _ _ _)⟩ ?_
        clear HT FT
        rintro u5 ⟨G, c1, c2, c3, c7, HQ, Sk, Sx, Sy, S5_3, T5_3⟩
        refine wp_wS [.c (.slice pk (dl (k)) nk), .c (.int .i64 (i0 : Int)), .c (.int .i64 0), .c (.bool false)] [2] ?hs2 ?hf2
        case hs2 =>
         refine .cons (.k (fun yy => #[.slice pk (dl (k)) nk, .int .i64 (i0 : Int)]) fun yy vv hg hh => RtW.of_c (Rt.same (hbit _ (Sk.gr hg)))) .nil
        intro yw6 v2 hg h6
        simp only [FW, putFrom, Act.put, List.setIfInBounds_toArray, List.set_cons_zero, List.set_cons_succ, wvals, kW, List.getD_cons_zero, List.getD_cons_succ, Kw.c]
        clear h6
        replace G := G.trans hg
        replace c1 := c1.gr hg
        replace c2 := c2.gr hg
        replace c3 := c3.gr hg
        replace c7 := c7.gr hg
        replace HQ := fun k => (HQ k).gr hg
        replace Sk := Sk.gr hg
        replace Sx := Sx.gr hg
        replace Sy := Sy.gr hg
        replace S5_3 := S5_3.gr hg
        replace T5_3 := T5_3.gr hg
        clear hg
        go_wp2_with fail
        go_roundw
        case rel =>
          refine ⟨i0, (yw5 3 0).1, (yw5 3 0).2, (yw5 3 1).1, (yw5 3 1).2, by simp, fun _ => HJ2, ?_⟩
          rw [← hR3]
          exact ⟨G, c1, c2, c3, c7, S5_3, T5_3⟩
        case measure => simp [intOf]
      · have hR3 : R2 = EC.ml i A (k / 2 ^ i0) Q := by
          rw [hdiv 1 hb]
          show R2 = EC.pl i A (EC.ml i A (k / 2 ^ (i0 + 1) + k / 2 ^ (i0 + 1)) Q) Q
          rw [h12, hR2]
        have hbit : ∀ w', Sl w' pk k → Calls Tryz.prog 46 #[.slice pk (dl k) nk, .int .i64 (i0 : Int)] w' fun e w'' => e = .returned (.int .i64 1) ∧ w'' = w' := fun w' s => by
          have := hbt w' s
          rw [show bitN k i0 = 1 from hb] at this
          exact this
        clear hb h12 hdiv hbt
        go_upto_region 5 with fail
        refine wp_wTS 4 [.c (.agg (crA id (six P A.val B.val N X Y) qc)), .c (.agg (ptA po (ex R) no qo (ey R) mo (ef R))), .c (.agg (ptA po (ex R) no qo (ey R) mo (ef R))), .pt (ex R1) (ey R1) (ef R1)] [0, 1, 2, 3] ?hs3 ?hf3
        case hs3 =>
         refine .cons (.g 31 0 c1 rfl) ?_
         refine .cons (.g 41 0 c7 rfl) ?_
         refine .cons (.g 41 0 c7 rfl) ?_
         refine .cons (.k (fun yy => #[.agg (crA id (six P A.val B.val N X Y) qc), .agg (ptA po (ex R) no qo (ey R) mo (ef R)), .agg (ptA po (ex R) no qo (ey R) mo (ef R))]) fun yy vv hg hh => RtW.of_pt (hR1 ▸ rplus_any C hd id N X Y qc R R po qo no mo po qo no mo _ (fun k => (HQ k).gr hg) (So.gr hg) (To.gr hg) (So.gr hg) (To.gr hg))) .nil
        refine .s 41 (fun yy => .pointer (some ⟨b7, 0, none⟩)) (fun yy => .agg (ptA (yy 3 0).1 (ex R1) (yy 3 0).2 (yy 3 1).1 (ey R1) (yy 3 1).2 (ef R1))) fun yw5 v1 hg h5 => ?_
        have HT := (c7.gr hg).h
        have FT := (c7.gr hg).f
        refine ⟨setBlk v1 (b7) (ptA (yw5 3 0).1 (ex R1) (yw5 3 0).2 (yw5 3 1).1 (ey R1) (yw5 3 1).2 (ef R1)), by simp [go_sem, exI, HT, FT], ?_⟩
        simp only [FW, putFrom, Act.put, List.setIfInBounds_toArray, List.set_cons_zero, List.set_cons_succ, wvals, kW, List.getD_cons_zero, List.getD_cons_succ, Kw.c, Kw.pt]
        obtain ⟨S5_3, T5_3⟩ : Sl v1 (yw5 3 0).1 (ex R1) ∧ Sl v1 (yw5 3 1).1 (ey R1) := h5 3
        clear h5
        replace G := G.trans hg
        replace c1 := c1.gr hg
        replace c2 := c2.gr hg
        replace c3 := c3.gr hg
        replace c7 := c7.gr hg
        replace HQ := fun k => (HQ k).gr hg
        replace Sk := Sk.gr hg
        replace Sx := Sx.gr hg
        replace Sy := Sy.gr hg
        replace So := So.gr hg
        replace To := To.gr hg
        clear hg
        go_upto_region 6 with fail
        refine gen_w (fun u => Gr w u ∧ Vr u (w.heap.size) (crA id (six P A.val B.val N X Y) qc) ∧ Vr u (w.heap.size + 1) (ptA p (ex Q) n q (ey Q) m (ef Q)) ∧ Vr u (w.heap.size + 1 + 1) (ptA none 0 0 none 0 0 false) ∧ Vr u (b7) (ptA (yw5 3 0).1 (ex R1) (yw5 3 0).2 (yw5 3 1).1 (ey R1) (yw5 3 1).2 (ef R1)) ∧ (∀ k, Sl u (qc k).1 (six P A.val B.val N X Y k)) ∧ Sl u pk (k) ∧ Sl u p (ex Q) ∧ Sl u q (ey Q) ∧ Sl u (yw5 3 0).1 (ex R1) ∧ Sl u (yw5 3 1).1 (ey R1)) ⟨gr_setNew G (by omega), c1.other (ne0), c2.other (ne1), c3.other (ne2), c7.set (by rw [ptA_size]; decide) _, fun k => Sl.set (HQ k) (by rw [HT]; exact ptA_no _ _ _ _ _ _ _), Sl.set Sk (by rw [HT]; exact ptA_no _ _ _ _ _ _ _), Sl.set Sx (by rw [HT]; exact ptA_no _ _ _ _ _ _ _), Sl.set Sy (by rw [HT]; exact ptA_no _ _ _ _ _ _ _), Sl.set S5_3 (by rw [HT]; exact ptA_no _ _ _ _ _ _ _), Sl.set T5_3 (by rw [HT]; exact ptA_no _ _ _ _ _ _ _)⟩ ?_
        clear HT FT
        rintro u5 ⟨G, c1, c2, c3, c7, HQ, Sk, Sx, Sy, S5_3, T5_3⟩
        refine wp_wS [.c (.slice pk (dl (k)) nk), .c (.int .i64 (i0 : Int)), .c (.int .i64 1), .c (.bool true)] [2] ?hs4 ?hf4
        case hs4 =>
         refine .cons (.k (fun yy => #[.slice pk (dl (k)) nk, .int .i64 (i0 : Int)]) fun yy vv hg hh => RtW.of_c (Rt.same (hbit _ (Sk.gr hg)))) .nil
        intro yw6 v2 hg h6
        simp only [FW, putFrom, Act.put, List.setIfInBounds_toArray, List.set_cons_zero, List.set_cons_succ, wvals, kW, List.getD_cons_zero, List.getD_cons_succ, Kw.c]
        clear h6
        replace G := G.trans hg
        replace c1 := c1.gr hg
        replace c2 := c2.gr hg
        replace c3 := c3.gr hg
        replace c7 := c7.gr hg
        replace HQ := fun k => (HQ k).gr hg
        replace Sk := Sk.gr hg
        replace Sx := Sx.gr hg
        replace Sy := Sy.gr hg
        replace S5_3 := S5_3.gr hg
        replace T5_3 := T5_3.gr hg
        clear hg
        go_upto_region 7 with fail
        refine wp_wTS 4 [.c (.agg (crA id (six P A.val B.val N X Y) qc)), .c (.agg (ptA (yw5 3 0).1 (ex R1) (yw5 3 0).2 (yw5 3 1).1 (ey R1) (yw5 3 1).2 (ef R1))), .c (.agg (ptA p (ex Q) n q (ey Q) m (ef Q))), .pt (ex R2) (ey R2) (ef R2)] [0, 1, 2, 3] ?hs5 ?hf5
        case hs5 =>
         refine .cons (.g 31 0 c1 rfl) ?_
         refine .cons (.g 41 0 c7 rfl) ?_
         refine .cons (.g 41 0 c2 rfl) ?_
         refine .cons (.k (fun yy => #[.agg (crA id (six P A.val B.val N X Y) qc), .agg (ptA (yw5 3 0).1 (ex R1) (yw5 3 0).2 (yw5 3 1).1 (ey R1) (yw5 3 1).2 (ef R1)), .agg (ptA p (ex Q) n q (ey Q) m (ef Q))]) fun yy vv hg hh => RtW.of_pt (hR2 ▸ rplus_any C hd id N X Y qc R1 Q (yw5 3 0).1 (yw5 3 1).1 (yw5 3 0).2 (yw5 3 1).2 p q n m _ (fun k => (HQ k).gr hg) (S5_3.gr hg) (T5_3.gr hg) (Sx.gr hg) (Sy.gr hg))) .nil
        refine .s 41 (fun yy => .pointer (some ⟨b7, 0, none⟩)) (fun yy => .agg (ptA (yy 3 0).1 (ex R2) (yy 3 0).2 (yy 3 1).1 (ey R2) (yy 3 1).2 (ef R2))) fun yw7 v3 hg h7 => ?_
        have HT := (c7.gr hg).h
        have FT := (c7.gr hg).f
        refine ⟨setBlk v3 (b7) (ptA (yw7 3 0).1 (ex R2) (yw7 3 0).2 (yw7 3 1).1 (ey R2) (yw7 3 1).2 (ef R2)), by simp [go_sem, exI, HT, FT], ?_⟩
        simp only [FW, putFrom, Act.put, List.setIfInBounds_toArray, List.set_cons_zero, List.set_cons_succ, wvals, kW, List.getD_cons_zero, List.getD_cons_succ, Kw.c, Kw.pt]
        obtain ⟨S7_3, T7_3⟩ : Sl v3 (yw7 3 0).1 (ex R2) ∧ Sl v3 (yw7 3 1).1 (ey R2) := h7 3
        clear h7
        replace G := G.trans hg
        replace c1 := c1.gr hg
        replace c2 := c2.gr hg
        replace c3 := c3.gr hg
        replace c7 := c7.gr hg
        replace HQ := fun k => (HQ k).gr hg
        replace Sk := Sk.gr hg
        replace Sx := Sx.gr hg
        replace Sy := Sy.gr hg
        replace S5_3 := S5_3.gr hg
        replace T5_3 := T5_3.gr hg
        clear hg
        go_wp2_with fail
        go_roundw
        case rel =>
          refine ⟨i0, (yw7 3 0).1, (yw7 3 0).2, (yw7 3 1).1, (yw7 3 1).2, by simp, fun _ => HJ2, ?_⟩
          rw [← hR3]
          exact ⟨gr_setNew G (by omega), c1.other ne0, c2.other ne1, c3.other ne2, c7.set (by rw [ptA_size]; decide) _, Sl.set S7_3 (by rw [HT]; exact ptA_no _ _ _ _ _ _ _), Sl.set T7_3 (by rw [HT]; exact ptA_no _ _ _ _ _ _ _)⟩
        case measure => simp [intOf]
    · obtain rfl : j = 0 := by omega
      rw [Nat.pow_zero, Nat.div_one] at HR
      obtain ⟨R, hR⟩ : ∃ R, EC.ml i A k Q = R := ⟨_, rfl⟩
      rw [hR] at HR
      obtain ⟨G, c1, c2, c3, c7, So, To⟩ := HR.out
      obtain ⟨ne0, ne1, ne2, nb7⟩ := HN.out ()
      have ⟨h3, f3, p3⟩ := c3
      have ⟨h7, f7, p7⟩ := c7
      have n2 : ¬ w.heap.size + 1 + 1 = b7 := fun h => ne2 h.symm
      clear HV HR HJ hpos
      go_wp2_with fail
      refine bodyPost_ret (res_one Tryz.results23 (rd_pt po (ex R) no qo (ey R) mo (ef R) (by rfl) ?_)) rfl ⟨_, rfl, ?_, gr_setNew G (by omega)⟩
      · simp [go_sem, h3]
      · rw [hR]
        exact ⟨_, _, _, _, rfl, Sl.set So (by rw [h3]; exact ptA_no _ _ _ _ _ _ _), Sl.set To (by rw [h3]; exact ptA_no _ _ _ _ _ _ _)⟩
end

end Go.Proofs.YtlbkhhihkomahaaGreat
namespace Go.Proofs.YtlbkhhihkomahaaGreat
/-- n points from P on, each the base point more than the one before: none is infinity. -/
def wlk (k : Nat) : Nat → Q3 → Bool
  | 0, _ => true
  | n + 1, P => !P.2.2 && wlk k n (plQ k P (gQ k))
theorem wlk_is {k : Nat} (h1 : 1 ≤ k) (h2 : k ≤ 15) : ∀ n j, wlk k n (mlQ k j (gQ k)) = true → ∀ i, i < n → (mlQ k (j + i) (gQ k)).2.2 = false
  | 0, _, _, _, h => absurd h (Nat.not_lt_zero _)
  | n + 1, j, h, i, hi => by
    rw [wlk, Bool.and_eq_true] at h
    cases i with
    | zero =>
      rw [Nat.add_zero]
      exact (Bool.not_eq_true' _).mp h.1
    | succ i =>
      rw [show j + (i + 1) = j + 1 + i by omega]
      refine wlk_is h1 h2 n (j + 1) ?_ i (by omega)
      rw [mlQ_add h1 h2 j 1 (gQ_on h1 h2), mlQ_one h1 h2 (gQ_on h1 h2)]
      exact h.2
theorem wlk_T (k : Nat) (h1 : 13 ≤ k) (h2 : k ≤ 15) : wlk k (oN k - 1) (gQ k) = true := by
  obtain rfl | rfl | rfl : k = 13 ∨ k = 14 ∨ k = 15 := by omega
  all_goals decide +kernel
theorem walk_ne {k : Nat} (h1 : 13 ≤ k) (h2 : k ≤ 15) (i : Nat) (hi : 1 ≤ i) (hn : i < oN k) : (mlQ k i (gQ k)).2.2 = false := by
  have h := wlk_is (k := k) (by omega) h2 (oN k - 1) 1 (by rw [mlQ_one (by omega) h2 (gQ_on (by omega) h2)]; exact wlk_T k h1 h2) (i - 1) (by omega)
  rw [show 1 + (i - 1) = i by omega] at h
  exact h
theorem walk_inj {k : Nat} (h13 : 13 ≤ k) (h2 : k ≤ 15) (i j : Nat) (hij : i < j) (hn : j < oN k) : mlQ k i (gQ k) ≠ mlQ k j (gQ k) := fun e => by
  have h1 : 1 ≤ k := by omega
  have hg := gQ_on h1 h2
  have hi := mlQ_on h1 h2 i hg
  have hd := mlQ_on h1 h2 (j - i) hg
  have e1 : mlQ k j (gQ k) = plQ k (mlQ k i (gQ k)) (mlQ k (j - i) (gQ k)) := by rw [← mlQ_add h1 h2 i (j - i) hg, show i + (j - i) = j by omega]
  have hng := ngQ_on h1 h2 hi
  have e2 : plQ k (ngQ k (mlQ k i (gQ k))) (mlQ k i (gQ k)) = inf := by rw [plQ_comm h1 h2 hng hi, plQ_ng h1 h2]
  have e3 : plQ k (ngQ k (mlQ k i (gQ k))) (mlQ k j (gQ k)) = mlQ k (j - i) (gQ k) := by rw [e1, ← plQ_assoc h1 h2 hng hi hd, e2, inf_plQ h1 h2 hd]
  rw [← e, e2] at e3
  have := walk_ne h13 h2 (j - i) (by omega) (by omega)
  rw [← e3] at this
  cases this
theorem tinyP (k : Nat) (h1 : 13 ≤ k) (h2 : k ≤ 15) : pN k ≤ 255 ∧ oN k ≤ 255 ∧ 200 ≤ oN k := by
  obtain rfl | rfl | rfl : k = 13 ∨ k = 14 ∨ k = 15 := by omega
  all_goals decide +kernel
/-- Where the walk marks a point. -/
def atQ (P : Q3) : Nat := P.1 * 256 + P.2.1
theorem fin_bd {k : Nat} (h1 : 13 ≤ k) (h2 : k ≤ 15) {P : Q3} (hP : OnQ k P) : P.1 ≤ 255 ∧ P.2.1 ≤ 255 := by
  have hp := tinyP k h1 h2
  rcases hP.cases with rfl | ⟨x, y, rfl, hx, hy, -⟩
  · exact ⟨Nat.zero_le _, Nat.zero_le _⟩
  · exact ⟨Nat.le_trans (Nat.le_of_lt hx) hp.1, Nat.le_trans (Nat.le_of_lt hy) hp.1⟩
theorem atQ_inj {k : Nat} (h1 : 13 ≤ k) (h2 : k ≤ 15) {P Q : Q3} (hP : OnQ k P) (hQ : OnQ k Q) (fP : P.2.2 = false) (fQ : Q.2.2 = false) (e : atQ P = atQ Q) : P = Q := by
  have b1 := fin_bd h1 h2 hP
  have b2 := fin_bd h1 h2 hQ
  obtain ⟨x, y, f⟩ := P
  obtain ⟨u, v, g⟩ := Q
  simp only [atQ] at e b1 b2 fP fQ
  subst fP fQ
  have hx : x = u := by omega
  have hy : y = v := by omega
  rw [hx, hy]

end Go.Proofs.YtlbkhhihkomahaaGreat
