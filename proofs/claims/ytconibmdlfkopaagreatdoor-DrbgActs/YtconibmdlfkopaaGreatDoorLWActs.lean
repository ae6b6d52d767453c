/-
  The statement DrbgActs, walked: it answers true for every number, any three texts and every row of acts.
-/
import Derived.Test.YtconibmdlfkopaaGreatDoorWK
import Derived.BigCall
namespace Go.Proofs.YtconibmdlfkopaaGreatDoor
open Go.RowKit
attribute [local go_sem ↓] ldA_is
set_option maxRecDepth 100000 in
set_option maxHeartbeats 12800000 in
theorem lwacts_any (id : Int) (E N Q : ByteArray) (q : Option Addr) (n cap : Nat) (k s : Nat → Int) (a b : Nat → ByteArray) (hE : E.size ≤ 140737488351232) (hN : N.size ≤ 140737488351232) (hQ : Q.size ≤ 140737488351232) (ha : ∀ i, (a i).size ≤ 140737488351232) (hb : ∀ i, (b i).size ≤ 140737488351232) (hn : n ≤ 4611686018427387904) (w : World) (hA : Ac w q n k s a b) (hK : KK w) :
    Calls Tryz.prog 3 #[.int .i64 id, .string E, .string N, .string Q, .slice q n cap] w fun e w' => e = .returned (.bool true) ∧ Sm w w' := by
  have CN : Hid (∀ x w, Calls Tryz.prog 13 #[.int .i64 x] w fun e w' => e = .returned (.int .i64 x) ∧ w = w') := num7_any
  have CA : Hid (∀ w, KK w → Calls Tryz.prog 14 #[] w fun e w' => e = .returned (.bool true) ∧ Sm w w') := awake11_any
  have HK : Hid (KK w) := hK
  rcases hi_or id with h | ⟨z, kk, h⟩
  · have C1 : Hid (∀ w, Calls Tryz.prog 11 #[.int .i64 id, .string E, .string N, .string Q] w fun e w' => e = .returned (.tuple #[.pointer none, .int .i64 1100]) ∧ Sm w w') := dnew_no id h E N Q
    have C2 : Hid (∀ w, Calls Tryz.prog 12 #[.int .i64 id, .string E, .string N, .string Q] w fun e w' => e = .returned (.tuple #[.pointer none, .int .i64 1100]) ∧ w = w') := rnew_no id h E N Q
    clear h hK hA hE hN hQ ha hb hn
    go_enter Tryz.func3, Tryz.ntmps3
    go_wp2_with (first
      | (go_at_call 11; refine (C1.out _).mono ?_; rintro e w1 ⟨rfl, S1⟩; have x1 := HK.out.sm S1)
      | (go_at_call 12; refine (C2.out _).mono ?_; rintro e w' ⟨rfl, rfl⟩)
      | (go_at_call 14; refine (CA.out _ x1).mono ?_; rintro e w2 ⟨rfl, S2⟩)
      | (go_at_call 13; refine (CN.out _ _).mono ?_; rintro e w' ⟨rfl, rfl⟩))
    go_ret
    exact ⟨rfl, S1.trans S2⟩
  · by_cases hno : No z E N Q
    · have h28 := h.z28
      obtain ⟨z, rfl⟩ := Int.eq_ofNat_of_zero_le (show 0 ≤ z by omega)
      have C1 : Hid (∀ w, KK w → Calls Tryz.prog 11 #[.int .i64 id, .string E, .string N, .string Q] w fun e w' => ∃ d, e = .returned (.tuple #[.pointer (some ⟨d, 0, none⟩), .int .i64 0]) ∧ w.heap.size ≤ d ∧ Dg w' d id (upd id ((E ++ N) ++ Q) (ini z)) 1 ∧ Sm w w') := fun w hw => dnew_ok id kk z h E N Q hno w hw
      have C2 : Hid (∀ w, Calls Tryz.prog 12 #[.int .i64 id, .string E, .string N, .string Q] w fun e w' => ∃ d, e = .returned (.tuple #[.pointer (some ⟨d, 0, none⟩), .int .i64 0]) ∧ w.heap.size ≤ d ∧ Rfg w' d id (upd id ((E ++ N) ++ Q) (ini z)) 1 ∧ Sm w w') := fun w => rnew_ok id kk z h E N Q hno w
      have HW : Hid (Wf z (upd id ((E ++ N) ++ Q) (ini z))) := upd_wf h _ _
      generalize upd id ((E ++ N) ++ Q) (ini z) = p0 at *
      have HH : Hid (Hi id (z : Int) kk) := h
      have HA : Hid (Ac w q n k s a b) := hA
      have HS : Hid (∀ i, (a i).size ≤ 140737488351232 ∧ (b i).size ≤ 140737488351232) := fun i => ⟨ha i, hb i⟩
      have n1 : (n : Int) ≤ 4611686018427387904 := by omega
      clear h hK hA hE hN hQ ha hb hn h28 hno
      go_enter Tryz.func3, Tryz.ntmps3
      go_wp2_with (first
        | (go_at_call 11; refine (C1.out _ HK.out).mono ?_; rintro e w1 ⟨d, rfl, hd, D1, S1⟩; have x1 := HK.out.sm S1; have nd := HK.out.nc hd; have ld := D1.lt)
        | (go_at_call 12; refine (C2.out _).mono ?_; rintro e w2 ⟨r, rfl, hr, R2, S2⟩; have D2 := D1.sm S2)
        | (go_at_call 13; refine (CN.out _ _).mono ?_; rintro e w' ⟨rfl, rfl⟩))
      have hne : r ≠ d := by omega
      have hdw : w.heap.size ≤ d := hd
      have hrw : w.heap.size ≤ r := Nat.le_trans S1.size hr
      have K0 : Kp (Fr w.heap.size) w w2 := (S1.trans S2).kp _
      have hw0 : w.heap.size ≤ w.heap.size := Nat.le_refl _
      have HR : Hid (∀ v u p c, Rfg v r id p c → Kp (At1 d) v u → Rfg u r id p c) := fun v u p c h1 h2 => h1.far h2 hne
      have HD : Hid (∀ v u p c, Dg v d id p c → Kp (At1 r) v u → Dg u d id p c) := fun v u p c h1 h2 => h1.far h2 (Ne.symm hne)
      clear C1 C2 S1 S2 x1 D1 ld hr hd hne
      go_loopw [15] (fun y u => ∃ (j : Nat) (p : ByteArray × ByteArray) (c : Int), j ≤ n ∧ j ≤ 80 ∧ y = .int .i64 (j : Int) ∧ Wf z p ∧ 1 ≤ c ∧ c ≤ 65 ∧ Dg u d id p c ∧ Rfg u r id p c ∧ Kp (Fr w.heap.size) w u) (fun y _ => 80 - (intOf y).toNat)
      case atStart => exact ⟨0, p0, 1, by omega, by omega, rfl, HW.out, by decide, by decide, D2, R2, K0⟩
      case round =>
        clear D2 R2 K0
        obtain ⟨j, p, c, hjn, hj80, rfl, hw, hc1, hc2, D0, R0, K0⟩ := hrel
        have x0 := HK.out.fr K0 hw0
        have j0 : (0 : Int) ≤ (j : Int) := by omega
        by_cases hlt : j < n ∧ j < 80
        · have j1 : (j : Int) < (n : Int) := by omega
          have j2 : (j : Int) < 80 := by omega
          obtain ⟨g, o, rfl, ld⟩ := HA.out.at K0 j hlt.1
          obtain ⟨hsa, hsb⟩ := HS.out j
          have HJ : Hid (j + 1 ≤ n ∧ j + 1 ≤ 80) := show _ ∧ _ from ⟨by omega, by omega⟩
          have B1 := Bk.new wr #[.int .i64 (k j), .int .i64 (s j), .string (a j), .string (b j)] 33
          have S1 := (Sm.refl wr).alloc (.cells #[.int .i64 (k j), .int .i64 (s j), .string (a j), .string (b j)] 33)
          have D1 := D0.sm S1
          have R1 := R0.sm S1
          have x1 := x0.sm S1
          have K1 := K0.trans (S1.kp _)
          have dlt := D0.lt
          have rlt := R0.lt
          have dg : wr.heap.size ≠ d := by omega
          have rg : wr.heap.size ≠ r := by omega
          by_cases ck : k j < 7
          · obtain ⟨T, R, p', c', hw', hc1', hc2', G1, G2⟩ := gen_both d r id kk z HH.out p hw c (s j) (a j) (by omega) hc1 hc2 nd
            have CG : Hid (∀ u, KK u → Dg u d id p c → Calls Tryz.prog 15 #[.pointer (some ⟨d, 0, none⟩), .int .i64 (s j), .string (a j)] u fun e u' => e = .returned (.tuple #[.string T, .int .i64 R]) ∧ Kp (At1 d) u u' ∧ Dg u' d id p' c') := G1
            have CR : Hid (∀ u, Rfg u r id p c → Calls Tryz.prog 16 #[.pointer (some ⟨r, 0, none⟩), .int .i64 (s j), .string (a j)] u fun e u' => e = .returned (.tuple #[.string T, .int .i64 R]) ∧ Kp (At1 r) u u' ∧ Rfg u' r id p' c') := G2
            have CC : Hid (∀ u, Dg u d id p' c' → Calls Tryz.prog 17 #[.pointer (some ⟨d, 0, none⟩)] u fun e u' => e = .returned (.int .i64 c') ∧ u = u') := fun u hu => dcount_any d id c' p' u hu
            have HF : Hid (Wf z p' ∧ 1 ≤ c' ∧ c' ≤ 65) := ⟨hw', hc1', hc2'⟩
            clear G1 G2 hw' hc1' hc2' hw hc1 hc2 hjn hj80 hlt hsa hsb D0 R0 dlt rlt S1
            go_wp2_with (first
              | (go_at_call 15; refine (CG.out _ x1 D1).mono ?_; rintro e u1 ⟨rfl, K2, D2⟩; have R2 := HR.out _ _ _ _ R1 K2; have B2 := B1.kp K2 dg; have y1 : u1.cell? ⟨wr.heap.size, 1, none⟩ = some (.int .i64 (s j)) := B2.cell 1; have y2 : u1.cell? ⟨wr.heap.size, 2, none⟩ = some (.string (a j)) := B2.cell 2)
              | (go_at_call 16; refine (CR.out _ R2).mono ?_; rintro e u2 ⟨rfl, K3, R3⟩; have D3 := HD.out _ _ _ _ D2 K3; have y3 : u2.cell? ⟨r, 3, none⟩ = some (.int .i64 c') := Bk.cell R3 3))
            have K4 := (K1.trans (K2.fr hdw)).trans (K3.fr hrw)
            clear y1 y2 B2 R2 D2 K2 K3 B1 D1 R1 x1 K1
            go_quiet (first
              | (go_at_call 13; exact quiet_eq (CN.out _ _))
              | (go_at_call 17; exact quiet_eq (CC.out _ (Bk.drewN D3 _))))
            go_wp2
            go_roundw
            case rel => exact ⟨j + 1, p', c', HJ.out.1, HJ.out.2, by go_num, HF.out.1, HF.out.2.1, HF.out.2.2, Bk.drewN D3 _, Bk.drewN R3 _, K4.drewN _⟩
            case measure => have := HJ.out.2; simp [intOf]; omega
          · obtain ⟨R, p', c', hw', hc1', hc2', G1, G2⟩ := res_both d r id kk z HH.out p hw c (a j) (b j) (by omega) (by omega) hc1 hc2 nd
            have CG : Hid (∀ u, KK u → Dg u d id p c → Calls Tryz.prog 18 #[.pointer (some ⟨d, 0, none⟩), .string (a j), .string (b j)] u fun e u' => e = .returned (.int .i64 R) ∧ Kp (At1 d) u u' ∧ Dg u' d id p' c') := G1
            have CR : Hid (∀ u, Rfg u r id p c → Calls Tryz.prog 19 #[.pointer (some ⟨r, 0, none⟩), .string (a j), .string (b j)] u fun e u' => e = .returned (.int .i64 R) ∧ Kp (At1 r) u u' ∧ Rfg u' r id p' c') := G2
            have CC : Hid (∀ u, Dg u d id p' c' → Calls Tryz.prog 17 #[.pointer (some ⟨d, 0, none⟩)] u fun e u' => e = .returned (.int .i64 c') ∧ u = u') := fun u hu => dcount_any d id c' p' u hu
            have HF : Hid (Wf z p' ∧ 1 ≤ c' ∧ c' ≤ 65) := ⟨hw', hc1', hc2'⟩
            clear G1 G2 hw' hc1' hc2' hw hc1 hc2 hjn hj80 hlt hsa hsb D0 R0 dlt rlt S1
            go_wp2_with (go_at_call 18; refine (CG.out _ x1 D1).mono ?_; rintro e u1 ⟨rfl, K2, D2⟩; have R2 := HR.out _ _ _ _ R1 K2; have B2 := B1.kp K2 dg)
            have K4 := K1.trans (K2.fr hdw)
            have y1 : u1.drew.cell? ⟨wr.heap.size, 2, none⟩ = some (.string (a j)) := B2.drew.cell 2
            have y2 : u1.drew.cell? ⟨wr.heap.size, 3, none⟩ = some (.string (b j)) := B2.drew.cell 3
            have D3 : Dg u1.drew d id p' c' := Bk.drew D2
            have R3 : Rfg u1.drew r id p c := Bk.drew R2
            have X1 := B2.drew
            clear B2 R2 D2 K2 B1 D1 R1 x1 K1
            go_cut [134] from 117 to 133 (fun x wx => x = .bool false ∧ Dg wx d id p' c' ∧ Rfg wx r id p' c' ∧ Kp (Fr w.heap.size) w wx)
            case first =>
              have HX : Hid (∀ u, Kp (At1 r) u1.drew u → u.cell? ⟨wr.heap.size, 2, none⟩ = some (.string (a j)) ∧ u.cell? ⟨wr.heap.size, 3, none⟩ = some (.string (b j))) := fun u hu => ⟨(hu.cell _ _ X1.lt rg).trans y1, (hu.cell _ _ X1.lt rg).trans y2⟩
              clear X1
              clear HX
              go_region_with (first
                | (go_at_call 13; refine (CN.out _ _).mono ?_; rintro e w' ⟨rfl, rfl⟩)
                | (go_at_call 19; refine (CR.out _ R3).mono ?_; rintro e u2 ⟨rfl, K5, R5⟩; have D5 := HD.out _ _ _ _ D3 K5; have y3 : u2.cell? ⟨r, 3, none⟩ = some (.int .i64 c') := Bk.cell R5 3)
                | (go_at_call 17; refine (CC.out _ D5).mono ?_; rintro e w' ⟨rfl, rfl⟩))
              all_goals
                go_wp2
                go_meet
                exact ⟨rfl, D5, R5, K4.drew.trans (K5.fr hrw)⟩
            case rest =>
              obtain ⟨rfl, D6, R6, K6⟩ := hcut
              go_wp2
              go_roundw
              case rel => exact ⟨j + 1, p', c', HJ.out.1, HJ.out.2, by go_num, HF.out.1, HF.out.2.1, HF.out.2.2, D6, R6, K6⟩
              case measure => have := HJ.out.2; simp [intOf]; omega
        · have fin : (j : Int) < (n : Int) ∧ ¬ (j : Int) < 80 ∨ ¬ (j : Int) < (n : Int) := by omega
          clear hlt hjn hj80 hw hc1 hc2
          rcases fin with ⟨j1, j2⟩ | j1
          all_goals
            go_wp2_with (go_at_call 14; refine (CA.out _ x0).mono ?_; rintro e w3 ⟨rfl, S3⟩)
            go_ret
            exact ⟨rfl, Sm.of (K0.trans (S3.kp _))⟩
    · have C1 : Hid (∀ w, Calls Tryz.prog 11 #[.int .i64 id, .string E, .string N, .string Q] w fun e w' => e = .returned (.tuple #[.pointer none, .int .i64 1101]) ∧ Sm w w') := dnew_bad id z kk h E N Q (by omega) hno
      have C2 : Hid (∀ w, Calls Tryz.prog 12 #[.int .i64 id, .string E, .string N, .string Q] w fun e w' => e = .returned (.tuple #[.pointer none, .int .i64 1101]) ∧ w = w') := rnew_bad id z kk h E N Q (by omega) (by omega) (by omega) hno
      clear h hK hA hE hN hQ ha hb hn hno
      go_enter Tryz.func3, Tryz.ntmps3
      go_wp2_with (first
        | (go_at_call 11; refine (C1.out _).mono ?_; rintro e w1 ⟨rfl, S1⟩; have x1 := HK.out.sm S1)
        | (go_at_call 12; refine (C2.out _).mono ?_; rintro e w' ⟨rfl, rfl⟩)
        | (go_at_call 14; refine (CA.out _ x1).mono ?_; rintro e w2 ⟨rfl, S2⟩)
        | (go_at_call 13; refine (CN.out _ _).mono ?_; rintro e w' ⟨rfl, rfl⟩))
      go_ret
      exact ⟨rfl, S1.trans S2⟩
end Go.Proofs.YtconibmdlfkopaaGreatDoor
