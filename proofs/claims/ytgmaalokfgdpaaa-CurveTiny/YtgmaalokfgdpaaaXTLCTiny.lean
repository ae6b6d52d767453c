import Derived.Shelf.Bits.Mul64
import Derived.Test.YtgmaalokfgdpaaaXTCW
import Derived.Test.YtgmaalokfgdpaaaXTRPt
import Derived.Test.YtgmaalokfgdpaaaXTSl
import Derived.Test.YtgmaalokfgdpaaaXTCQ
import Derived.Test.YtgmaalokfgdpaaaXTEC
import Derived.Test.YtgmaalokfgdpaaaXTNN
import Derived.Test.YtgmaalokfgdpaaaXTCT
import Derived.Test.YtgmaalokfgdpaaaXTLtC
namespace Go.Proofs.Ytgmaalokfgdpaaa
open Go.RowKit
theorem crA_one (id : Int) (x : Nat → Nat) (q : Nat → Option Addr × Nat) : (crA id x q).all (·.oneCell') = true := by simp [crA, Value.oneCell']
theorem storeCr (w : World) (b : Nat) (id : Int) (x : Nat → Nat) (q : Nat → Option Addr × Nat) (hs : (blk w b).size = 7) (hf : frz w b = (0, 0)) :
    (storeS 36 (.pointer (some ⟨b, 0, none⟩)) (.agg (crA id x q))).run Try.prog w = .ok () (setBlk w b (crA id x q)) :=
  storeS_run 7 (by decide) (by kernel_rfl) w b _ (crA_size id x q) (crA_one id x q) hs hf
end Go.Proofs.Ytgmaalokfgdpaaa
namespace Go.Proofs.Ytgmaalokfgdpaaa
open Go.RowKit
attribute [local go_sem ↓] loadNat_is loadArr_is loadWide_is loadArrW_is storeNat_is storeWide_is
attribute [local go_sem] loadNat loadArr loadWide loadArrW storeNat storeWide idxArr fold9 fold18 nw_size nw_elem pre_self pre_1 pre_2 pre_3 pre_4 pre_5 pre_6 pre_7 pre_8 pre_9 pre_10 pre_11 pre_12 pre_13 pre_14 pre_15 pre_16 pre_17 pre_18 pre_19 pre_20 pre_21 pre_22 pre_23 pre_24 pre_25 pre_26 pre_27 pre_28 pre_29 pre_30 pre_31 pre_32 pre_33 pre_34 pre_35 pre_36 pre_37 pre_38 pre_39 pre_40 gro_size gro_drew gro_drewN drew_gro drewN_gro gro_gro blk_gro frz_gro blk_drew frz_drew blk_drewN frz_drewN blk_alloc_at frz_alloc_at blk_alloc frz_alloc cell_gro frozen_gro cell_alloc_pre frozen_alloc_pre setCell_drewN alloc_drewN setBlk_drew setBlk_drewN setBlk_alloc_at setBlk_alloc setBlk_gro setCell_gro setCell_alloc_pre size_setBlk size_setCell
attribute [local go_sem] ppre_1 ppre_2 ppre_3 ppre_4 ppre_5 ppre_6
attribute [local go_sem ↓] bsl_is loadC_is storeC_is loadPt_is storePt_is zvPt_is buildPt_is loadPn_is storePn_is zvPn_is loadCu_is storeCu_is zvCu_is buildCu_is buildPn_is Go.wp_at_zero Go.wp_at_succ
attribute [local go_sem] loadC storeC0 storeCr crA_size loadPt storePt zvPt ptA_size loadPn storePn zvPn pnt_size loadCu storeCu zvCu cu_size buildCu0 buildPnI buildPn2 loadCP loadCA loadCB loadCN loadCG loadCX loadCY cu_P cu_A cu_B cu_N cu_G cu_X cu_Y frz_setBlk blk_setBlk setBlk_setBlk blk_other
set_option maxRecDepth 100000 in
set_option maxHeartbeats 1600000 in
theorem lctiny_any (id : Int) (w : World) : Calls Try.prog 8 #[.int .i64 id] w fun e w' => e = .returned (.bool true) ∧ Gr w w' := by
  obtain ⟨u, hu, hu2, hk⟩ := idxT_conv id
  have hbd := idxT_bd id
  obtain ⟨k, hkk⟩ : ∃ k, idxT id = k := ⟨_, rfl⟩
  rw [hkk] at hk hbd
  obtain ⟨h13, h2⟩ := hbd
  have h1 : 1 ≤ k := by omega
  have u0 : (0 : Int) ≤ (u : Int) := by omega
  have hk2 : (13 : Int) + (u : Int) % 3 = (k : Int) := by omega
  have hk3 : IntKind.i64.wrap ((u : Int) % 3) = (u : Int) % 3 := by rw [IntKind.wrap_i64]; omega
  have hk4 : IntKind.u64.wrap ((u : Int) % 3) = (u : Int) % 3 := by rw [IntKind.wrap_u64]; omega
  have hk5 : (u : Int).tmod 3 = (u : Int) % 3 := by rw [Int.tmod_eq_emod_of_nonneg (by omega)]
  have k0 : (1 : Int) ≤ (k : Int) := by omega
  have k1 : (k : Int) ≤ 15 := by omega
  have hu3 : id % 18446744073709551616 = (u : Int) := by rw [← hu, IntKind.wrap_u64]
  clear hkk hk
  have HG : Hid (∀ w, Calls Try.prog 9 #[.int .i64 (k : Int)] w fun e w' => e = .returned (.tuple #[.agg (cu (k : Int) (pN k) (aN k) (bN k) (oN k) (xN k) (yN k) (bl (oN k)) (szN k) (lgN k)), .int .i64 0]) ∧ Gr w w') := fun w => get13_yes k h1 h2 w
  have HAW : Hid (∀ w, Calls Try.prog 14 #[] w fun e w' => e = .returned (.bool true) ∧ Gr w w') := fun w => awake13_any w
  obtain ⟨P, hP⟩ : ∃ m, pN k = m := ⟨_, rfl⟩
  obtain ⟨N, hN⟩ : ∃ m, oN k = m := ⟨_, rfl⟩
  have htb := tinyT_bd k h13 h2
  rw [hP, hN] at htb
  obtain ⟨p1, p2, n1, n2, htot⟩ := htb
  have HTOT : Hid (Unit → allT k 256 + 1 = N) := fun _ => htot
  clear htot
  have HPY : Hid (∀ x y, x < 256 → onB k x y false = true → x < P ∧ y < P ∧ y ≠ 0) := fun x y hx h => hP ▸ onT_y k h13 h2 x y hx h
  have hcP : (cu (k : Int) (pN k) (aN k) (bN k) (oN k) (xN k) (yN k) (bl (oN k)) (szN k) (lgN k))[1]? = some (.int .u64 (P : Int)) := by rw [cu_1, hP, wd_small _ (by omega)]
  have hcN : (cu (k : Int) (pN k) (aN k) (bN k) (oN k) (xN k) (yN k) (bl (oN k)) (szN k) (lgN k))[28]? = some (.int .u64 (N : Int)) := by rw [cu_28, hN, wd_small _ (by omega)]
  have P1 : (200 : Int) < (P : Int) := by omega
  have P2 : (P : Int) < 256 := by omega
  have P3 : ¬ (P : Int) > 255 := by omega
  have N1 : (200 : Int) < (N : Int) := by omega
  have N2 : (N : Int) < 256 := by omega
  clear hP hN p1 p2 n1 n2 h13
  have HCP : Hid (Unit → (cu (k : Int) (pN k) (aN k) (bN k) (oN k) (xN k) (yN k) (bl (oN k)) (szN k) (lgN k))[1]? = some (.int .u64 (P : Int))) := fun _ => hcP
  have HCN : Hid (Unit → (cu (k : Int) (pN k) (aN k) (bN k) (oN k) (xN k) (yN k) (bl (oN k)) (szN k) (lgN k))[28]? = some (.int .u64 (N : Int))) := fun _ => hcN
  clear hcP hcN
  go_enter Try.func8, Try.ntmps8
  go_upto_region 4 with (first
    | (go_at_call 14; refine (HAW.out _).mono ?_; rintro e WA ⟨rfl, GA⟩)
    | (go_at_call 9; refine (HG.out _).mono ?_; rintro e WB ⟨rfl, GB⟩))
  obtain ⟨e3, he3⟩ : ∃ b, WB.heap.size = b := ⟨_, rfl⟩
  simp only [he3]
  refine gen_w (fun v => Hid (Gr w v ∧ Vr v e3 (cu (k : Int) (pN k) (aN k) (bN k) (oN k) (xN k) (yN k) (bl (oN k)) (szN k) (lgN k)))) ?_ ?_
  · subst he3
    exact ⟨(GA.trans GB).alloc _, Vr.new WB _ _⟩
  clear he3 GA GB
  intro v0 HV
  have K1 : v0.cell? ⟨e3, 1, none⟩ = some (.int .u64 (P : Int)) := by rw [HV.out.2.cell]; exact HCP.out ()
  clear HG HAW hu hu2 hk2 hk3 hk4 hk5 hu3 u0 k0 k1
  go_wp2_with (go_at_call 13; refine (num_any _ _).mono ?_; rintro e w' ⟨rfl, rfl⟩)
  go_loopw [5, 6] (fun a5 a6 wr => ∃ x c : Nat, a5 = .int .u64 (c : Int) ∧ a6 = .int .u64 (x : Int) ∧ Hid (Unit → x ≤ 256 ∧ allT k x = c) ∧ Hid (Gr w wr ∧ Vr wr e3 (cu (k : Int) (pN k) (aN k) (bN k) (oN k) (xN k) (yN k) (bl (oN k)) (szN k) (lgN k)))) (fun _ a6 _ => 256 - (intOf a6).toNat)
  case atStart => exact ⟨0, 0, rfl, rfl, fun _ => ⟨by decide, rfl⟩, HV⟩
  case round =>
    clear HV K1
    obtain ⟨x, c, rfl, rfl, HX, HV⟩ := hrel
    have x0 : (0 : Int) ≤ (x : Int) := by omega
    have c0 : (0 : Int) ≤ (c : Int) := by omega
    have hcb : c ≤ 65536 := by have := HX.out (); have := allT_le k x; omega
    by_cases hx : x < 256
    · have x1 : (x : Int) < 256 := by omega
      go_wp2_with fail
      go_loopw [5, 7] (fun a5 a7 wr => ∃ y d : Nat, a5 = .int .u64 (d : Int) ∧ a7 = .int .u64 (y : Int) ∧ Hid (Unit → y ≤ 256 ∧ c + rowT k x y = d) ∧ Hid (Gr w wr ∧ Vr wr e3 (cu (k : Int) (pN k) (aN k) (bN k) (oN k) (xN k) (yN k) (bl (oN k)) (szN k) (lgN k)))) (fun _ a7 _ => 256 - (intOf a7).toNat)
      case atStart => exact ⟨0, c, rfl, rfl, fun _ => ⟨by decide, rfl⟩, HV⟩
      case round =>
        clear HV
        obtain ⟨y, d, rfl, rfl, HY, HV⟩ := hrel
        have y0 : (0 : Int) ≤ (y : Int) := by omega
        have d0 : (0 : Int) ≤ (d : Int) := by omega
        have hdb : (d : Int) ≤ 65792 := by have := HY.out (); have := rowT_le k x y; omega
        by_cases hy : y < 256
        · have y1 : (y : Int) < 256 := by omega
          obtain ⟨r, hr⟩ : ∃ r, onB k x y false = r := ⟨_, rfl⟩
          have HON : Hid (∀ w', Calls Try.prog 16 #[.int .i64 (k : Int), .agg (pnt x y false)] w' fun e w'' => e = .returned (.bool r) ∧ Gr w' w'') := fun w' => hr ▸ on13_yes k h1 h2 x y false (lt_M _ (by omega)) (lt_M _ (by omega)) w'
          have ⟨G, c3⟩ := HV.out
          cases r with
          | false =>
            have HY2 : Hid (Unit → y + 1 ≤ 256 ∧ c + rowT k x (y + 1) = d) := fun _ => ⟨hy, by have := (HY.out ()).2; rw [rowT, hr]; exact this⟩
            clear HV
            go_upto_region 13 with fail
            refine wp_region_q (by kernel_rfl) (by kernel_rfl) [.c (.pointer (some ⟨e3, 0, none⟩)), .c (.int .i64 (k : Int)), .c (.int .u64 (x : Int)), .c (.agg (nw 9 x)), .c (.int .u64 (y : Int)), .c (.agg (nw 9 y)), .c (.agg (pnt x y false)), .c (.bool false)] ?hs1 ?hf1
            case hs1 =>
              intro listed vals a1 v1 io oo hg zR zF zo zD
              have Hc3 : blk v1 (e3) = cu (k : Int) (pN k) (aN k) (bN k) (oN k) (xN k) (yN k) (bl (oN k)) (szN k) (lgN k) := (hg.blk _ c3.p).trans c3.h
              have Kc3_0 : v1.cell? ⟨e3, 0, none⟩ = some (.int .i64 (k : Int)) := by rw [cell_blk, Hc3]; exact cu_0 _ _ _ _ _ _ _ _ _ _
              have zi : io < 8 := by simpa using (Array.getElem?_eq_some_iff.1 zo).1
              obtain rfl | rfl | rfl | rfl | rfl | rfl | rfl | rfl := lc8 zi
              · obtain rfl := Option.some.inj zo
                have f0 := zF.old (s := 3) (v := .pointer (some ⟨e3, 0, none⟩)) (by kernel_rfl) rfl
                refine Or.inl ⟨wanted_no rfl, ?_⟩
                exact wp_val (.pointer (some ⟨e3, 0, none⟩)) (by simp [go_sem, f0]) ⟨_, rfl, Gr.refl _, rfl⟩
              · obtain rfl := Option.some.inj zo
                have l0 := on_of zD 0 (by kernel_rfl)
                have f0 := zF.at (s := 37) (i := 0) (by kernel_rfl) (by simp) l0
                have e0 : vals 0 = .pointer (some ⟨e3, 0, none⟩) := zR 0 l0
                rw [e0] at f0
                refine Or.inl ⟨wanted_no rfl, ?_⟩
                exact wp_val (.int .i64 (k : Int)) (by simp [go_sem, f0, Kc3_0]) ⟨_, rfl, Gr.refl _, rfl⟩
              · obtain rfl := Option.some.inj zo
                have f0 := zF.old (s := 6) (v := .int .u64 (x : Int)) (by kernel_rfl) rfl
                refine Or.inl ⟨wanted_no rfl, ?_⟩
                exact wp_val (.int .u64 (x : Int)) (by simp [go_sem, f0]) ⟨_, rfl, Gr.refl _, rfl⟩
              · obtain rfl := Option.some.inj zo
                have l0 := on_of zD 2 (by kernel_rfl)
                have f0 := zF.at (s := 39) (i := 2) (by kernel_rfl) (by simp) l0
                have e0 : vals 2 = .int .u64 (x : Int) := zR 2 l0
                rw [e0] at f0
                refine Or.inl ⟨wanted_no rfl, ?_⟩
                exact wp_retz (k := .c (.agg (nw 9 x))) (by simp [go_sem, f0]) (show Calls Try.prog 34 #[.int .u64 (x : Int)] v1 (Rt (.c (.agg (nw 9 x))) v1) from Rt.c (one_any _ (by omega) _)) (fun u w2 hu hg2 => ⟨_, rfl, hg2, hu⟩)
              · obtain rfl := Option.some.inj zo
                have f0 := zF.old (s := 7) (v := .int .u64 (y : Int)) (by kernel_rfl) rfl
                refine Or.inl ⟨wanted_no rfl, ?_⟩
                exact wp_val (.int .u64 (y : Int)) (by simp [go_sem, f0]) ⟨_, rfl, Gr.refl _, rfl⟩
              · obtain rfl := Option.some.inj zo
                have l0 := on_of zD 4 (by kernel_rfl)
                have f0 := zF.at (s := 41) (i := 4) (by kernel_rfl) (by simp) l0
                have e0 : vals 4 = .int .u64 (y : Int) := zR 4 l0
                rw [e0] at f0
                refine Or.inl ⟨wanted_no rfl, ?_⟩
                exact wp_retz (k := .c (.agg (nw 9 y))) (by simp [go_sem, f0]) (show Calls Try.prog 34 #[.int .u64 (y : Int)] v1 (Rt (.c (.agg (nw 9 y))) v1) from Rt.c (one_any _ (by omega) _)) (fun u w2 hu hg2 => ⟨_, rfl, hg2, hu⟩)
              · obtain rfl := Option.some.inj zo
                have l0 := on_of zD 3 (by kernel_rfl)
                have f0 := zF.at (s := 40) (i := 3) (by kernel_rfl) (by simp) l0
                have e0 : vals 3 = .agg (nw 9 x) := zR 3 l0
                rw [e0] at f0
                have l1 := on_of zD 5 (by kernel_rfl)
                have f1 := zF.at (s := 42) (i := 5) (by kernel_rfl) (by simp) l1
                have e1 : vals 5 = .agg (nw 9 y) := zR 5 l1
                rw [e1] at f1
                refine Or.inl ⟨wanted_no rfl, ?_⟩
                exact wp_val (.agg (pnt x y false)) (by simp [go_sem, f0, f1, buildPn2]) ⟨_, rfl, Gr.refl _, rfl⟩
              · obtain rfl := Option.some.inj zo
                have l0 := on_of zD 1 (by kernel_rfl)
                have f0 := zF.at (s := 38) (i := 1) (by kernel_rfl) (by simp) l0
                have e0 : vals 1 = .int .i64 (k : Int) := zR 1 l0
                rw [e0] at f0
                have l1 := on_of zD 6 (by kernel_rfl)
                have f1 := zF.at (s := 43) (i := 6) (by kernel_rfl) (by simp) l1
                have e1 : vals 6 = .agg (pnt x y false) := zR 6 l1
                rw [e1] at f1
                refine Or.inl ⟨wanted_no rfl, ?_⟩
                exact wp_retz (k := .c (.bool false)) (by simp [go_sem, f0, f1]) (show Calls Try.prog 16 #[.int .i64 (k : Int), .agg (pnt x y false)] v1 (Rt (.c (.bool false)) v1) from Rt.c (HON.out _)) (fun u w2 hu hg2 => ⟨_, rfl, hg2, hu⟩)
            case hf1 =>
              intro vals v1 hg zR
              have e13_0 : vals 0 = .pointer (some ⟨e3, 0, none⟩) := zR 0 (by simp)
              have e13_1 : vals 1 = .int .i64 (k : Int) := zR 1 (by simp)
              have e13_2 : vals 2 = .int .u64 (x : Int) := zR 2 (by simp)
              have e13_3 : vals 3 = .agg (nw 9 x) := zR 3 (by simp)
              have e13_4 : vals 4 = .int .u64 (y : Int) := zR 4 (by simp)
              have e13_5 : vals 5 = .agg (nw 9 y) := zR 5 (by simp)
              have e13_6 : vals 6 = .agg (pnt x y false) := zR 6 (by simp)
              have e13_7 : vals 7 = .bool false := zR 7 (by simp)
              simp only [putFrom, Act.put, List.setIfInBounds_toArray, List.set_cons_zero, List.set_cons_succ, e13_0, e13_1, e13_2, e13_3, e13_4, e13_5, e13_6, e13_7]
              clear zR e13_0 e13_1 e13_2 e13_3 e13_4 e13_5 e13_6 e13_7
              replace G := G.trans hg
              replace c3 := c3.gr hg
              clear hg
              clear hr
              go_wp2_with fail
              go_roundw
              case rel => exact ⟨y + 1, d, rfl, by go_num, HY2.out, G, c3⟩
              case measure => simp [intOf]; omega
          | true =>
            obtain ⟨q1, q2, q3⟩ := HPY.out x y hx hr
            have q4 : ¬ (x : Int) ≥ (P : Int) := by omega
            have q5 : ¬ (y : Int) ≥ (P : Int) := by omega
            have q6 : ¬ (y : Int) = 0 := by omega
            have q7 : ¬ (P : Int) ≤ (x : Int) := by omega
            have q8 : ¬ (P : Int) ≤ (y : Int) := by omega
            have q9 : (x : Int) < (P : Int) := by omega
            have q10 : (y : Int) < (P : Int) := by omega
            have HY2 : Hid (Unit → y + 1 ≤ 256 ∧ c + rowT k x (y + 1) = d + 1) := fun _ => ⟨hy, by have := (HY.out ()).2; rw [rowT, hr]; show c + (rowT k x y + 1) = d + 1; omega⟩
            clear HV
            go_upto_region 13 with fail
            refine wp_region_q (by kernel_rfl) (by kernel_rfl) [.c (.pointer (some ⟨e3, 0, none⟩)), .c (.int .i64 (k : Int)), .c (.int .u64 (x : Int)), .c (.agg (nw 9 x)), .c (.int .u64 (y : Int)), .c (.agg (nw 9 y)), .c (.agg (pnt x y false)), .c (.bool true)] ?hs2 ?hf2
            case hs2 =>
              intro listed vals a1 v1 io oo hg zR zF zo zD
              have Hc3 : blk v1 (e3) = cu (k : Int) (pN k) (aN k) (bN k) (oN k) (xN k) (yN k) (bl (oN k)) (szN k) (lgN k) := (hg.blk _ c3.p).trans c3.h
              have Kc3_0 : v1.cell? ⟨e3, 0, none⟩ = some (.int .i64 (k : Int)) := by rw [cell_blk, Hc3]; exact cu_0 _ _ _ _ _ _ _ _ _ _
              have zi : io < 8 := by simpa using (Array.getElem?_eq_some_iff.1 zo).1
              obtain rfl | rfl | rfl | rfl | rfl | rfl | rfl | rfl := lc8 zi
              · obtain rfl := Option.some.inj zo
                have f0 := zF.old (s := 3) (v := .pointer (some ⟨e3, 0, none⟩)) (by kernel_rfl) rfl
                refine Or.inl ⟨wanted_no rfl, ?_⟩
                exact wp_val (.pointer (some ⟨e3, 0, none⟩)) (by simp [go_sem, f0]) ⟨_, rfl, Gr.refl _, rfl⟩
              · obtain rfl := Option.some.inj zo
                have l0 := on_of zD 0 (by kernel_rfl)
                have f0 := zF.at (s := 37) (i := 0) (by kernel_rfl) (by simp) l0
                have e0 : vals 0 = .pointer (some ⟨e3, 0, none⟩) := zR 0 l0
                rw [e0] at f0
                refine Or.inl ⟨wanted_no rfl, ?_⟩
                exact wp_val (.int .i64 (k : Int)) (by simp [go_sem, f0, Kc3_0]) ⟨_, rfl, Gr.refl _, rfl⟩
              · obtain rfl := Option.some.inj zo
                have f0 := zF.old (s := 6) (v := .int .u64 (x : Int)) (by kernel_rfl) rfl
                refine Or.inl ⟨wanted_no rfl, ?_⟩
                exact wp_val (.int .u64 (x : Int)) (by simp [go_sem, f0]) ⟨_, rfl, Gr.refl _, rfl⟩
              · obtain rfl := Option.some.inj zo
                have l0 := on_of zD 2 (by kernel_rfl)
                have f0 := zF.at (s := 39) (i := 2) (by kernel_rfl) (by simp) l0
                have e0 : vals 2 = .int .u64 (x : Int) := zR 2 l0
                rw [e0] at f0
                refine Or.inl ⟨wanted_no rfl, ?_⟩
                exact wp_retz (k := .c (.agg (nw 9 x))) (by simp [go_sem, f0]) (show Calls Try.prog 34 #[.int .u64 (x : Int)] v1 (Rt (.c (.agg (nw 9 x))) v1) from Rt.c (one_any _ (by omega) _)) (fun u w2 hu hg2 => ⟨_, rfl, hg2, hu⟩)
              · obtain rfl := Option.some.inj zo
                have f0 := zF.old (s := 7) (v := .int .u64 (y : Int)) (by kernel_rfl) rfl
                refine Or.inl ⟨wanted_no rfl, ?_⟩
                exact wp_val (.int .u64 (y : Int)) (by simp [go_sem, f0]) ⟨_, rfl, Gr.refl _, rfl⟩
              · obtain rfl := Option.some.inj zo
                have l0 := on_of zD 4 (by kernel_rfl)
                have f0 := zF.at (s := 41) (i := 4) (by kernel_rfl) (by simp) l0
                have e0 : vals 4 = .int .u64 (y : Int) := zR 4 l0
                rw [e0] at f0
                refine Or.inl ⟨wanted_no rfl, ?_⟩
                exact wp_retz (k := .c (.agg (nw 9 y))) (by simp [go_sem, f0]) (show Calls Try.prog 34 #[.int .u64 (y : Int)] v1 (Rt (.c (.agg (nw 9 y))) v1) from Rt.c (one_any _ (by omega) _)) (fun u w2 hu hg2 => ⟨_, rfl, hg2, hu⟩)
              · obtain rfl := Option.some.inj zo
                have l0 := on_of zD 3 (by kernel_rfl)
                have f0 := zF.at (s := 40) (i := 3) (by kernel_rfl) (by simp) l0
                have e0 : vals 3 = .agg (nw 9 x) := zR 3 l0
                rw [e0] at f0
                have l1 := on_of zD 5 (by kernel_rfl)
                have f1 := zF.at (s := 42) (i := 5) (by kernel_rfl) (by simp) l1
                have e1 : vals 5 = .agg (nw 9 y) := zR 5 l1
                rw [e1] at f1
                refine Or.inl ⟨wanted_no rfl, ?_⟩
                exact wp_val (.agg (pnt x y false)) (by simp [go_sem, f0, f1, buildPn2]) ⟨_, rfl, Gr.refl _, rfl⟩
              · obtain rfl := Option.some.inj zo
                have l0 := on_of zD 1 (by kernel_rfl)
                have f0 := zF.at (s := 38) (i := 1) (by kernel_rfl) (by simp) l0
                have e0 : vals 1 = .int .i64 (k : Int) := zR 1 l0
                rw [e0] at f0
                have l1 := on_of zD 6 (by kernel_rfl)
                have f1 := zF.at (s := 43) (i := 6) (by kernel_rfl) (by simp) l1
                have e1 : vals 6 = .agg (pnt x y false) := zR 6 l1
                rw [e1] at f1
                refine Or.inl ⟨wanted_no rfl, ?_⟩
                exact wp_retz (k := .c (.bool true)) (by simp [go_sem, f0, f1]) (show Calls Try.prog 16 #[.int .i64 (k : Int), .agg (pnt x y false)] v1 (Rt (.c (.bool true)) v1) from Rt.c (HON.out _)) (fun u w2 hu hg2 => ⟨_, rfl, hg2, hu⟩)
            case hf2 =>
              intro vals v1 hg zR
              have e13_0 : vals 0 = .pointer (some ⟨e3, 0, none⟩) := zR 0 (by simp)
              have e13_1 : vals 1 = .int .i64 (k : Int) := zR 1 (by simp)
              have e13_2 : vals 2 = .int .u64 (x : Int) := zR 2 (by simp)
              have e13_3 : vals 3 = .agg (nw 9 x) := zR 3 (by simp)
              have e13_4 : vals 4 = .int .u64 (y : Int) := zR 4 (by simp)
              have e13_5 : vals 5 = .agg (nw 9 y) := zR 5 (by simp)
              have e13_6 : vals 6 = .agg (pnt x y false) := zR 6 (by simp)
              have e13_7 : vals 7 = .bool true := zR 7 (by simp)
              simp only [putFrom, Act.put, List.setIfInBounds_toArray, List.set_cons_zero, List.set_cons_succ, e13_0, e13_1, e13_2, e13_3, e13_4, e13_5, e13_6, e13_7]
              clear zR e13_0 e13_1 e13_2 e13_3 e13_4 e13_5 e13_6 e13_7
              replace G := G.trans hg
              replace c3 := c3.gr hg
              clear hg
              clear hr
              have K1 : v1.cell? ⟨e3, 1, none⟩ = some (.int .u64 (P : Int)) := by rw [c3.cell]; exact HCP.out ()
              go_wp2_with fail
              go_roundw
              case rel => exact ⟨y + 1, d + 1, by go_num, by go_num, HY2.out, G, c3⟩
              case measure => simp [intOf]; omega
        · have hy2 : y = 256 := by have := (HY.out ()).1; omega
          have y1 : ¬ (y : Int) < 256 := by omega
          have HX2 : Hid (Unit → x + 1 ≤ 256 ∧ allT k (x + 1) = d) := fun _ => ⟨hx, by rw [allT, (HX.out ()).2, ← hy2]; exact (HY.out ()).2⟩
          clear hy2
          go_wp2_with fail
          go_roundw
          case rel => exact ⟨x + 1, d, rfl, by go_num, HX2.out, HV⟩
          case measure => simp [intOf]; omega
    · have hx2 : x = 256 := by have := (HX.out ()).1; omega
      have x1 : ¬ (x : Int) < 256 := by omega
      have ⟨G, c3⟩ := HV.out
      have K28 : wr.cell? ⟨e3, 28, none⟩ = some (.int .u64 (N : Int)) := by rw [c3.cell]; exact HCN.out ()
      have hc : (c : Int) = (N : Int) - 1 := by
        have t : c + 1 = N := by rw [← (HX.out ()).2, hx2]; exact HTOT.out ()
        omega

      clear hx2 HV
      go_wp2_with fail
      go_ret
      exact ⟨rfl, G⟩

end Go.Proofs.Ytgmaalokfgdpaaa
