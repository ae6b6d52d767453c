/-
  drbg's checkSeed, New, Reseed.
-/
/-
  drbg's checkRequest, Generate.
-/
import Derived.Test.YtconibmdlfkopaaGreatDoorWC
namespace Go.Proofs.YtconibmdlfkopaaGreatDoor
open Go.RowKit
/-- Entropy that serves. -/
def Eo (z : Int) (E : ByteArray) : Prop := z ≤ 2 * (E.size : Int) ∧ E.size ≤ 256
theorem Hi.half {id z k : Int} (h : Hi id z k) (n : Nat) : ((n : Int) < z / 2 ↔ 2 * (n : Int) < z) := by rcases h with ⟨_, rfl, _⟩ | ⟨_, rfl, _⟩ | ⟨_, rfl, _⟩ | ⟨_, rfl, _⟩ <;> omega
set_option maxRecDepth 100000 in
set_option maxHeartbeats 1600000 in
theorem cks_no (id : Int) (h : id ≤ 0 ∨ 5 ≤ id) (E : ByteArray) (v : Value) (w : World) :
    Calls Tryz.prog 23 #[.int .i64 id, .string E, v] w fun e w' => e = .returned (.int .i64 1100) ∧ Sm w w' := by
  have C1 : Hid (∀ w, Calls Tryz.prog 24 #[.int .i64 id] w fun e w' => e = .returned (.int .i64 0) ∧ Sm w w') := hsize_no id h
  clear h
  go_enter Tryz.func23, Tryz.ntmps23
  go_wp2_with (go_at_call 24; refine (C1.out _).mono ?_; rintro e w1 ⟨rfl, S1⟩)
  go_ret
  exact ⟨rfl, S1⟩
set_option maxRecDepth 100000 in
set_option maxHeartbeats 1600000 in
theorem cks_any (id z kk : Int) (h : Hi id z kk) (E : ByteArray) (hEs : E.size ≤ 1152921504606846976) (q : Option Addr) (n c : Nat) (hn : n ≤ 2) (f : Nat → ByteArray) (w : World) (hP : Ps w q n f) (R : Int)
    (h0 : Eo z E → (∀ i, i < n → (f i).size ≤ 256) → R = 0) (h1 : ¬ Eo z E → R = 1101) (h2 : ∀ i, i < n → 256 < (f i).size → R = 1101) :
    Calls Tryz.prog 23 #[.int .i64 id, .string E, .slice q n c] w fun e w' => e = .returned (.int .i64 R) ∧ Sm w w' := by
  have C1 : Hid (∀ w, Calls Tryz.prog 24 #[.int .i64 id] w fun e w' => e = .returned (.int .i64 z) ∧ Sm w w') := hsize_any id z kk h
  have hh := h.half E.size
  have hz := h.z64
  have hz0 := h.z28
  have z0 : (z == 0) = false := by simp; omega
  have hd : Int.tdiv z 2 = z / 2 := Int.tdiv_eq_ediv_of_nonneg (by omega)
  have H0 : Hid (Eo z E → (∀ i, i < n → (f i).size ≤ 256) → R = 0) := h0
  have H2 : Hid (∀ i, i < n → 256 < (f i).size → R = 1101) := h2
  have HP : Hid (Ps w q n f) := hP
  have n1 : (n : Int) ≤ 2 := by omega
  have e1 : (E.size : Int) ≤ 1152921504606846976 := by omega
  by_cases c1 : 2 * (E.size : Int) < z
  · have c2 : (E.size : Int) < z / 2 := hh.2 c1
    have hR := h1 (fun h => by have := h.1; omega)
    subst hR
    clear h hh h0 h1 h2 hP hEs hn H0 H2 HP
    go_enter Tryz.func23, Tryz.ntmps23
    go_wp2_with (go_at_call 24; refine (C1.out _).mono ?_; rintro e w1 ⟨rfl, S1⟩)
    go_ret
    exact ⟨rfl, S1⟩
  · have c2 : ¬ (E.size : Int) < z / 2 := fun h => c1 (hh.1 h)
    by_cases c3 : 256 < E.size
    · have c4 : (256 : Int) < (E.size : Int) := by omega
      have hR := h1 (fun h => by have := h.2; omega)
      subst hR
      clear h hh h0 h1 h2 hP hEs hn H0 H2 HP c1 c3
      go_enter Tryz.func23, Tryz.ntmps23
      go_wp2_with (go_at_call 24; refine (C1.out _).mono ?_; rintro e w1 ⟨rfl, S1⟩)
      go_ret
      exact ⟨rfl, S1⟩
    · have c4 : ¬ (256 : Int) < (E.size : Int) := by omega
      have HE : Hid (Eo z E) := show Eo z E from ⟨by omega, by omega⟩
      clear h hh h0 h1 h2 hP hEs c1 c3
      go_enter Tryz.func23, Tryz.ntmps23
      go_wp2_with (go_at_call 24; refine (C1.out _).mono ?_; rintro e w1 ⟨rfl, S1⟩)
      have HPu : Hid (∀ i, i < n → ∃ b o, q = some ⟨b, o, none⟩ ∧ w1.cell? ⟨b, o + i, none⟩ = some (.string (f i))) := fun i hi => HP.out.at (S1.kp _) i hi
      go_loopw [26] (fun y u => ∃ k : Nat, k ≤ n ∧ y = .int .i64 (k : Int) ∧ (∀ i, i < k → (f i).size ≤ 256) ∧ u = w1) (fun y _ => 2 - (intOf y).toNat)
      case atStart => exact ⟨0, by omega, rfl, fun i hi => by omega, rfl⟩
      case round =>
        obtain ⟨k, hkn, rfl, hall, rfl⟩ := hrel
        have k0 : (0 : Int) ≤ (k : Int) := by omega
        by_cases hlt : k < n
        · have k1 : (k : Int) < (n : Int) := by omega
          obtain ⟨pb, po, rfl, pc⟩ := HPu.out k hlt
          by_cases cs : 256 < (f k).size
          · have c5 : (256 : Int) < ((f k).size : Int) := by omega
            have hR : R = 1101 := H2.out k hlt cs
            subst hR
            clear hall H0 H2 HPu
            go_wp2
            go_ret
            exact ⟨rfl, S1⟩
          · have c5 : ¬ (256 : Int) < ((f k).size : Int) := by omega
            have hc1 : k + 1 ≤ n := by omega
            have HA : Hid (∀ i, i < k + 1 → (f i).size ≤ 256) := fun i hi => by
              by_cases e : i = k
              · subst e; omega
              · exact hall i (by omega)
            clear hall hkn hlt
            go_wp2
            go_roundw
            case rel => exact ⟨k + 1, hc1, by go_num, HA.out, by trivial⟩
            case measure => simp [intOf]; omega
        · have k1 : ¬ (k : Int) < (n : Int) := by omega
          have hR : R = 0 := H0.out HE.out fun i hi => hall i (by omega)
          subst hR
          clear hall hkn hlt H0 H2 HPu
          go_wp2
          go_ret
          exact ⟨rfl, S1⟩
/-- A row of two texts. -/
theorem f2_ps {w : World} {g : Nat} {a b : ByteArray} {t : TypeId} (h : Bk w g #[.string a, .string b] t) : Ps w (some ⟨g, 0, none⟩) 2 (f3 a b b) :=
  Or.inr ⟨g, 0, rfl, h.lt, fun i hi => by
    rw [h.cell]
    have : i = 0 ∨ i = 1 := by omega
    rcases this with rfl | rfl <;> rfl⟩
/-- Key and value at the beginning. -/
def ini (z : Nat) : ByteArray × ByteArray := (bt (fun _ => 0) z, bt (fun _ => 1) z)
theorem ini_wf (z : Nat) : Wf (z : Int) (ini z) := ⟨by show ((bt (fun _ => 0) z).size : Int) = _; rw [bt_size], by show ((bt (fun _ => 1) z).size : Int) = _; rw [bt_size]⟩
def buildMk (ps : Array (Nat × Value)) : Sem Value := Instr.build 59 ps
theorem bdMk_is (ps : Array (Nat × Value)) : Instr.build 59 ps = buildMk ps := rfl
theorem bdMk (id : Int) (k : ByteArray) (w : World) : (buildMk #[(0, .int .i64 id), (1, .string k)]).run Tryz.prog w = .ok (.agg #[.int .i64 id, .string k]) w := by kernel_rfl
def buildDr (ps : Array (Nat × Value)) : Sem Value := Instr.build 61 ps
theorem bdDr_is (ps : Array (Nat × Value)) : Instr.build 61 ps = buildDr ps := rfl
theorem bdDr (id : Int) (k v : ByteArray) (w : World) : (buildDr #[(0, .agg #[.int .i64 id, .string k]), (1, .string v)]).run Tryz.prog w = .ok (.agg #[.int .i64 id, .string k, .string v, .int .i64 0]) w := by kernel_rfl
attribute [local go_sem ↓] bdMk_is bdDr_is
attribute [local go_sem] bdMk bdDr
set_option maxRecDepth 100000 in
set_option maxHeartbeats 1600000 in
theorem dnew_no (id : Int) (h : id ≤ 0 ∨ 5 ≤ id) (E N Q : ByteArray) (w : World) :
    Calls Tryz.prog 11 #[.int .i64 id, .string E, .string N, .string Q] w fun e w' => e = .returned (.tuple #[.pointer none, .int .i64 1100]) ∧ Sm w w' := by
  have C1 : Hid (∀ v w, Calls Tryz.prog 23 #[.int .i64 id, .string E, v] w fun e w' => e = .returned (.int .i64 1100) ∧ Sm w w') := cks_no id h E
  clear h
  go_enter Tryz.func11, Tryz.ntmps11
  go_wp2_with (go_at_call 23; refine (C1.out _ _).mono ?_; rintro e w1 ⟨rfl, S1⟩)
  go_ret2
  exact ⟨rfl, ((Sm.refl w).alloc _).trans S1⟩
/-- All that New asks. -/
def No (z : Int) (E N Q : ByteArray) : Prop := Eo z E ∧ N.size ≤ 256 ∧ Q.size ≤ 256
set_option maxRecDepth 100000 in
set_option maxHeartbeats 1600000 in
theorem dnew_bad (id z kk : Int) (h : Hi id z kk) (E N Q : ByteArray) (hEs : E.size ≤ 1152921504606846976) (hn : ¬ No z E N Q) (w : World) :
    Calls Tryz.prog 11 #[.int .i64 id, .string E, .string N, .string Q] w fun e w' => e = .returned (.tuple #[.pointer none, .int .i64 1101]) ∧ Sm w w' := by
  have C1 : Hid (∀ g w, Bk w g #[.string N, .string Q] 9 → Calls Tryz.prog 23 #[.int .i64 id, .string E, .slice (some ⟨g, 0, none⟩) 2 2] w fun e w' => e = .returned (.int .i64 1101) ∧ Sm w w') := fun g w hB => cks_any id z kk h E hEs _ 2 2 (by omega) (f3 N Q Q) w (f2_ps hB) 1101 (fun h1 h2 => absurd ⟨h1, h2 0 (by omega), h2 1 (by omega)⟩ hn) (fun _ => rfl) (fun _ _ _ => rfl)
  have B1 := Bk.new w #[.string N, .string Q] 9
  clear h hn hEs
  go_enter Tryz.func11, Tryz.ntmps11
  go_wp2_with (go_at_call 23; refine (C1.out _ _ B1).mono ?_; rintro e w1 ⟨rfl, S1⟩)
  go_ret2
  exact ⟨rfl, ((Sm.refl w).alloc _).trans S1⟩
set_option maxRecDepth 100000 in
set_option maxHeartbeats 1600000 in
theorem dnew_ok (id kk : Int) (z : Nat) (h : Hi id (z : Int) kk) (E N Q : ByteArray) (hn : No z E N Q) (w : World) (hK : KK w) :
    Calls Tryz.prog 11 #[.int .i64 id, .string E, .string N, .string Q] w fun e w' => ∃ d, e = .returned (.tuple #[.pointer (some ⟨d, 0, none⟩), .int .i64 0]) ∧ w.heap.size ≤ d ∧ Dg w' d id (upd id ((E ++ N) ++ Q) (ini z)) 1 ∧ Sm w w' := by
  obtain ⟨⟨hE1, hE2⟩, hN, hQ⟩ := hn
  have hz := h.z64
  have C1 : Hid (∀ g w, Bk w g #[.string N, .string Q] 9 → Calls Tryz.prog 23 #[.int .i64 id, .string E, .slice (some ⟨g, 0, none⟩) 2 2] w fun e w' => e = .returned (.int .i64 0) ∧ Sm w w') := fun g w hB => cks_any id z kk h E (by omega) _ 2 2 (by omega) (f3 N Q Q) w (f2_ps hB) 0 (fun _ _ => rfl) (fun h1 => absurd ⟨hE1, hE2⟩ h1) (fun i hi h2 => by
    have : i = 0 ∨ i = 1 := by omega
    rcases this with rfl | rfl
    · have : 256 < N.size := h2
      omega
    · have : 256 < Q.size := h2
      omega)
  have C2 : Hid (∀ w, Calls Tryz.prog 24 #[.int .i64 id] w fun e w' => e = .returned (.int .i64 (z : Int)) ∧ Sm w w') := hsize_any id z kk h
  have C3 : Hid (∀ w, Calls Tryz.prog 25 #[.string ⟨#[0]⟩, .int .i64 (z : Int)] w fun e w' => e = .returned (.string (bt (fun _ => 0) z)) ∧ Sm w w') := fun w => rep_any 0 z (by omega) w
  have C4 : Hid (∀ w, Calls Tryz.prog 25 #[.string ⟨#[1]⟩, .int .i64 (z : Int)] w fun e w' => e = .returned (.string (bt (fun _ => 1) z)) ∧ Sm w w') := fun w => rep_any 1 z (by omega) w
  have hss : ((E ++ N) ++ Q).size ≤ 900 := by rw [ByteArray.size_append, ByteArray.size_append]; omega
  have C5 : Hid (∀ d w, KK w → Nc d → Dg w d id (ini z) 0 → Calls Tryz.prog 26 #[.pointer (some ⟨d, 0, none⟩), .string ((E ++ N) ++ Q)] w fun e w' => e = .returned (.tuple #[]) ∧ Kp (At1 d) w w' ∧ Dg w' d id (upd id ((E ++ N) ++ Q) (ini z)) 1) := fun d w h1 h2 h3 => dseed_any d id z kk h _ (ini_wf z) 0 _ hss w h1 h2 h3
  have HI : Hid (∀ w d, Bk w d #[.int .i64 id, .string (bt (fun _ => 0) z), .string (bt (fun _ => 1) z), .int .i64 0] 61 → Dg w d id (ini z) 0) := fun w d h => h
  generalize upd id ((E ++ N) ++ Q) (ini z) = U at *
  generalize bt (fun _ => 0) z = z0 at *
  generalize bt (fun _ => 1) z = z1 at *
  have s1 : (E.size : Int) + (N.size : Int) ≤ 600 := by omega
  have s2 : ((E ++ N).size : Int) + (Q.size : Int) ≤ 900 := by rw [ByteArray.size_append]; omega
  have B1 := Bk.new w #[.string N, .string Q] 9
  have HK : Hid (KK w) := hK
  clear h hE1 hE2 hN hQ hz hss hK
  go_enter Tryz.func11, Tryz.ntmps11
  go_wp2_with (first
    | (go_at_call 23; refine (C1.out _ _ B1).mono ?_; rintro e w1 ⟨rfl, S1⟩; have T1 := ((Sm.refl w).alloc (.cells #[.string N, .string Q] 9)).trans S1)
    | (go_at_call 24; refine (C2.out _).mono ?_; rintro e w2 ⟨rfl, S2⟩; have T2 := T1.trans S2)
    | (go_at_call_of 25 (Value.string ⟨#[0]⟩); refine (C3.out _).mono ?_; rintro e w3 ⟨rfl, S3⟩; have T3 := T2.trans S3)
    | (go_at_call_of 25 (Value.string ⟨#[1]⟩); refine (C4.out _).mono ?_; rintro e w4 ⟨rfl, S4⟩; have T4 := T3.trans S4; have D4 := HI.out _ _ (Bk.new w4 #[.int .i64 id, .string z0, .string z1, .int .i64 0] 61); have k4 := HK.out.sm (T4.alloc (.cells #[.int .i64 id, .string z0, .string z1, .int .i64 0] 61)); have n4 := HK.out.nc T4.size)
    | (go_at_call 26; refine (C5.out _ _ k4 n4 D4).mono ?_; rintro e w5 ⟨rfl, K5, D5⟩))
  go_ret2
  exact ⟨_, rfl, T4.size, D5, Sm.of (((T4.kp _).alloc _).trans (K5.fr T4.size))⟩
/-! ### Reseed -/
set_option maxRecDepth 100000 in
set_option maxHeartbeats 1600000 in
theorem dres_bad (d : Nat) (id z kk : Int) (h : Hi id z kk) (p : ByteArray × ByteArray) (c : Int) (E M : ByteArray) (hEs : E.size ≤ 1152921504606846976) (hn : ¬ (Eo z E ∧ M.size ≤ 256)) (w : World) (hD : Dg w d id p c) :
    Calls Tryz.prog 18 #[.pointer (some ⟨d, 0, none⟩), .string E, .string M] w fun e w' => e = .returned (.int .i64 1101) ∧ Sm w w' := by
  have C1 : Hid (∀ g w, Bk w g #[.string M] 9 → Calls Tryz.prog 23 #[.int .i64 id, .string E, .slice (some ⟨g, 0, none⟩) 1 1] w fun e w' => e = .returned (.int .i64 1101) ∧ Sm w w') := fun g w hB => cks_any id z kk h E hEs _ 1 1 (by omega) (f3 M M M) w (f1_ps hB) 1101 (fun h1 h2 => absurd ⟨h1, h2 0 (by omega)⟩ hn) (fun _ => rfl) (fun _ _ _ => rfl)
  have B1 := Bk.new w #[.string M] 9
  have c0 : w.cell? ⟨d, 0, none⟩ = some (.int .i64 id) := Bk.cell hD 0
  clear h hn hEs hD
  go_enter Tryz.func18, Tryz.ntmps18
  go_wp2_with (go_at_call 23; refine (C1.out _ _ B1).mono ?_; rintro e w1 ⟨rfl, S1⟩)
  go_ret
  exact ⟨rfl, ((Sm.refl w).alloc _).trans S1⟩
set_option maxRecDepth 100000 in
set_option maxHeartbeats 1600000 in
theorem dres_ok (d : Nat) (id z kk : Int) (h : Hi id z kk) (p : ByteArray × ByteArray) (hp : Wf z p) (c : Int) (E M : ByteArray) (hE : Eo z E) (hM : M.size ≤ 256) (w : World) (hK : KK w) (hnc : Nc d) (hD : Dg w d id p c) :
    Calls Tryz.prog 18 #[.pointer (some ⟨d, 0, none⟩), .string E, .string M] w fun e w' => e = .returned (.int .i64 0) ∧ Kp (At1 d) w w' ∧ Dg w' d id (upd id (E ++ M) p) 1 := by
  have hE2 := hE.2
  have C1 : Hid (∀ g w, Bk w g #[.string M] 9 → Calls Tryz.prog 23 #[.int .i64 id, .string E, .slice (some ⟨g, 0, none⟩) 1 1] w fun e w' => e = .returned (.int .i64 0) ∧ Sm w w') := fun g w hB => cks_any id z kk h E (by omega) _ 1 1 (by omega) (f3 M M M) w (f1_ps hB) 0 (fun _ _ => rfl) (fun h1 => absurd hE h1) (fun i hi h2 => by
    obtain rfl : i = 0 := by omega
    have : 256 < M.size := h2
    omega)
  have hss : (E ++ M).size ≤ 900 := by rw [ByteArray.size_append]; omega
  have C5 : Hid (∀ w, KK w → Dg w d id p c → Calls Tryz.prog 26 #[.pointer (some ⟨d, 0, none⟩), .string (E ++ M)] w fun e w' => e = .returned (.tuple #[]) ∧ Kp (At1 d) w w' ∧ Dg w' d id (upd id (E ++ M) p) 1) := fun w h1 h3 => dseed_any d id z kk h _ hp c _ hss w h1 hnc h3
  generalize upd id (E ++ M) p = U at *
  have s1 : (E.size : Int) + (M.size : Int) ≤ 600 := by omega
  have B1 := Bk.new w #[.string M] 9
  have c0 : w.cell? ⟨d, 0, none⟩ = some (.int .i64 id) := Bk.cell hD 0
  have HK : Hid (KK w) := hK
  clear h hE hM hE2 hss hK hp hnc
  go_enter Tryz.func18, Tryz.ntmps18
  go_wp2_with (first
    | (go_at_call 23; refine (C1.out _ _ B1).mono ?_; rintro e w1 ⟨rfl, S1⟩; have T1 := ((Sm.refl w).alloc (.cells #[.string M] 9)).trans S1; have k1 := HK.out.sm T1; have D1 := hD.sm T1)
    | (go_at_call 26; refine (C5.out _ k1 D1).mono ?_; rintro e w5 ⟨rfl, K5, D5⟩))
  go_ret
  exact ⟨rfl, (T1.kp _).trans K5, D5⟩
end Go.Proofs.YtconibmdlfkopaaGreatDoor
namespace Go.Proofs.YtconibmdlfkopaaGreatDoor
open Go.RowKit
/-- A request that may be. -/
def Ro (n : Int) (a : ByteArray) : Prop := 0 ≤ n ∧ n ≤ 256 ∧ a.size ≤ 256
set_option maxRecDepth 100000 in
set_option maxHeartbeats 1600000 in
theorem ckr_any (d : Nat) (id z kk : Int) (h : Hi id z kk) (p : ByteArray × ByteArray) (c n : Int) (a : ByteArray) (ha : a.size ≤ 1152921504606846976) (w : World) (hD : Dg w d id p c) (R : Int)
    (h0 : Ro n a → c ≤ 64 → R = 0) (h1 : ¬ Ro n a → R = 1102) (h2 : Ro n a → 64 < c → R = 1103) :
    Calls Tryz.prog 29 #[.pointer (some ⟨d, 0, none⟩), .int .i64 n, .string a] w fun e w' => e = .returned (.int .i64 R) ∧ Sm w w' := by
  have C1 : Hid (∀ w, Calls Tryz.prog 24 #[.int .i64 id] w fun e w' => e = .returned (.int .i64 z) ∧ Sm w w') := hsize_any id z kk h
  have hz0 := h.z28
  have z0 : (z == 0) = false := by simp; omega
  have c0 : w.cell? ⟨d, 0, none⟩ = some (.int .i64 id) := Bk.cell hD 0
  have HC : Hid (∀ w', Sm w w' → w'.cell? ⟨d, 3, none⟩ = some (.int .i64 c)) := fun w' k => Bk.cell (hD.sm k) 3
  have e1 : (a.size : Int) ≤ 1152921504606846976 := by omega
  by_cases k1 : n < 0
  · have hR := h1 fun h => by have := h.1; omega
    subst hR
    clear h h0 h1 h2 ha hD HC hz0
    go_enter Tryz.func29, Tryz.ntmps29
    go_wp2_with (go_at_call 24; refine (C1.out _).mono ?_; rintro e w1 ⟨rfl, S1⟩)
    go_ret
    exact ⟨rfl, S1⟩
  · by_cases k2 : 256 < n
    · have hR := h1 fun h => by have := h.2.1; omega
      subst hR
      clear h h0 h1 h2 ha hD HC hz0
      go_enter Tryz.func29, Tryz.ntmps29
      go_wp2_with (go_at_call 24; refine (C1.out _).mono ?_; rintro e w1 ⟨rfl, S1⟩)
      go_ret
      exact ⟨rfl, S1⟩
    · by_cases k3 : (256 : Int) < (a.size : Int)
      · have hR := h1 fun h => by have := h.2.2; omega
        subst hR
        clear h h0 h1 h2 ha hD HC hz0
        go_enter Tryz.func29, Tryz.ntmps29
        go_wp2_with (go_at_call 24; refine (C1.out _).mono ?_; rintro e w1 ⟨rfl, S1⟩)
        go_ret
        exact ⟨rfl, S1⟩
      · have hr : Ro n a := ⟨by omega, by omega, by omega⟩
        by_cases k4 : 64 < c
        · have hR := h2 hr k4
          subst hR
          clear h h0 h1 h2 ha hD hz0 hr
          go_enter Tryz.func29, Tryz.ntmps29
          go_wp2_with (go_at_call 24; refine (C1.out _).mono ?_; rintro e w1 ⟨rfl, S1⟩; have c3 := HC.out _ S1)
          go_ret
          exact ⟨rfl, S1⟩
        · have hR := h0 hr (by omega)
          subst hR
          clear h h0 h1 h2 ha hD hz0 hr
          go_enter Tryz.func29, Tryz.ntmps29
          go_wp2_with (go_at_call 24; refine (C1.out _).mono ?_; rintro e w1 ⟨rfl, S1⟩; have c3 := HC.out _ S1)
          go_ret
          exact ⟨rfl, S1⟩
/-- Key and value ahead of the bytes. -/
def gp1 (id : Int) (a : ByteArray) (p : ByteArray × ByteArray) : ByteArray × ByteArray := if a.size = 0 then p else upd id a p
/-- The bytes. -/
def gtx (id : Int) (z n : Nat) (a : ByteArray) (p : ByteArray × ByteArray) : ByteArray := gt id z n (gp1 id a p)
/-- Key and value behind them. -/
def gnx (id : Int) (z n : Nat) (a : ByteArray) (p : ByteArray × ByteArray) : ByteArray × ByteArray := upd id a ((gp1 id a p).1, gl id z n (gp1 id a p))
theorem gp1_wf {id z k : Int} (h : Hi id z k) (a : ByteArray) (p : ByteArray × ByteArray) (hp : Wf z p) : Wf z (gp1 id a p) := by
  unfold gp1
  split
  · exact hp
  · exact upd_wf h _ _
theorem gl_size {id k : Int} {z : Nat} (h : Hi id (z : Int) k) (n : Nat) (p : ByteArray × ByteArray) (hp : Wf z p) : ((gl id z n p).size : Int) = z := vi_size h _ _ hp.2 _
theorem gnx_wf {id k : Int} {z : Nat} (h : Hi id (z : Int) k) (n : Nat) (a : ByteArray) (p : ByteArray × ByteArray) : Wf z (gnx id z n a p) := upd_wf h _ _
theorem gt_size {id k : Int} {z : Nat} (h : Hi id (z : Int) k) (n : Nat) (p : ByteArray × ByteArray) (hp : Wf z p) : (gt id z n p).size = n := by
  have h28 := h.z28
  have h2 : p.2.size = z := by have := hp.2; omega
  unfold gt
  rw [ex_sz, vs_size h p.1 p.2 h2]
  unfold rn
  have h3 := Nat.div_add_mod (n + z - 1) z
  have h4 := Nat.mod_lt (n + z - 1) (show 0 < z by omega)
  rw [Nat.mul_comm] at h3
  omega
theorem gtx_size {id k : Int} {z : Nat} (h : Hi id (z : Int) k) (n : Nat) (a : ByteArray) (p : ByteArray × ByteArray) (hp : Wf z p) : (gtx id z n a p).size = n := gt_size h n _ (gp1_wf h a p hp)
theorem dgen_bad (d : Nat) (id z kk : Int) (h : Hi id z kk) (p : ByteArray × ByteArray) (c n : Int) (a : ByteArray) (ha : a.size ≤ 1152921504606846976) (w : World) (hD : Dg w d id p c) (R : Int) (hR : (R == 0) = false) (h1 : ¬ Ro n a → R = 1102) (h2 : Ro n a → 64 < c ∧ R = 1103) :
    Calls Tryz.prog 15 #[.pointer (some ⟨d, 0, none⟩), .int .i64 n, .string a] w fun e w' => e = .returned (.tuple #[.string .empty, .int .i64 R]) ∧ Sm w w' := by
  have C1 : Hid (∀ w, Dg w d id p c → Calls Tryz.prog 29 #[.pointer (some ⟨d, 0, none⟩), .int .i64 n, .string a] w fun e w' => e = .returned (.int .i64 R) ∧ Sm w w') := fun w hw => ckr_any d id z kk h p c n a ha w hw R (fun h3 h4 => by have := (h2 h3).1; omega) h1 (fun h3 _ => (h2 h3).2)
  clear h ha h1 h2
  go_enter Tryz.func15, Tryz.ntmps15
  go_wp2_with (go_at_call 29; refine (C1.out _ hD).mono ?_; rintro e w1 ⟨rfl, S1⟩)
  go_ret2
  exact ⟨rfl, S1⟩
attribute [local go_sem ↓] dldK_is
set_option maxRecDepth 100000 in
set_option maxHeartbeats 3200000 in
theorem dgen_ok (d : Nat) (id kk : Int) (z : Nat) (h : Hi id (z : Int) kk) (p : ByteArray × ByteArray) (hp : Wf z p) (c : Int) (n : Nat) (a : ByteArray) (hn : n ≤ 256) (ha : a.size ≤ 256) (hc0 : 0 ≤ c) (hc : c ≤ 64) (w : World) (hK : KK w) (hnc : Nc d) (hD : Dg w d id p c) :
    Calls Tryz.prog 15 #[.pointer (some ⟨d, 0, none⟩), .int .i64 (n : Int), .string a] w fun e w' => e = .returned (.tuple #[.string (gtx id z n a p), .int .i64 0]) ∧ Kp (At1 d) w w' ∧ Dg w' d id (gnx id z n a p) (c + 1) := by
  have hr : Ro (n : Int) a := ⟨by omega, by omega, ha⟩
  have C1 : Hid (∀ w, Dg w d id p c → Calls Tryz.prog 29 #[.pointer (some ⟨d, 0, none⟩), .int .i64 (n : Int), .string a] w fun e w' => e = .returned (.int .i64 0) ∧ Sm w w') := fun w hw => ckr_any d id z kk h p c n a (by omega) w hw 0 (fun _ _ => rfl) (fun h3 => absurd hr h3) (fun _ _ => by omega)
  have C2 : Hid (∀ w, KK w → Dg w d id p c → Calls Tryz.prog 30 #[.pointer (some ⟨d, 0, none⟩), .string a] w fun e w' => e = .returned (.tuple #[]) ∧ Kp (At1 d) w w' ∧ Dg w' d id (upd id a p) c) := fun w h1 h2 => dupd_any d id z kk h p hp c a (by omega) w h1 hnc h2
  have hg : (a.size = 0 ∧ gp1 id a p = p) ∨ (¬ a.size = 0 ∧ gp1 id a p = upd id a p) := by
    unfold gp1
    by_cases e : a.size = 0
    · exact Or.inl ⟨e, if_pos e⟩
    · exact Or.inr ⟨e, if_neg e⟩
  have hw := gp1_wf h a p hp
  have hX : gtx id z n a p = gt id z n (gp1 id a p) := rfl
  have hY : gnx id z n a p = upd id a ((gp1 id a p).1, gl id z n (gp1 id a p)) := rfl
  rw [hX, hY]
  have hgl := gl_size h n _ hw
  clear hX hY
  generalize gp1 id a p = q at *
  obtain ⟨K, V⟩ := q
  have hw1 : (K.size : Int) = z := hw.1
  have hw2 : (V.size : Int) = z := hw.2
  have C3 : Hid (∀ w, KK w → Calls Tryz.prog 31 #[.func (.func 32) #[.agg #[.int .i64 id, .string K]] #[], .string V, .int .i64 (n : Int)] w fun e w' => e = .returned (.tuple #[.string (gt id z n (K, V)), .string (gl id z n (K, V))]) ∧ Sm w w') := fun w hw => chain_any id kk z h K V (by omega) (by omega) n hn w hw
  generalize gt id z n (K, V) = GT at *
  generalize gl id z n (K, V) = GL at *
  have C4 : Hid (∀ w, KK w → Dg w d id (K, GL) c → Calls Tryz.prog 30 #[.pointer (some ⟨d, 0, none⟩), .string a] w fun e w' => e = .returned (.tuple #[]) ∧ Kp (At1 d) w w' ∧ Dg w' d id (upd id a (K, GL)) c) := fun w h1 h2 => dupd_any d id z kk h _ ⟨hw1, hgl⟩ c a (by omega) w h1 hnc h2
  generalize upd id a (K, GL) = U at *
  have HK : Hid (KK w) := hK
  have HN : Hid (Nc d) := hnc
  have HD : Hid (∀ u, Dg u d id (K, V) c → Bk u.drew d #[.int .i64 id, .string K, .string V, .int .i64 c] 61) := fun u hu => hu
  have HU : Hid (∀ u, Bk u d #[.int .i64 id, .string K, .string GL, .int .i64 c] 61 → Dg u d id (K, GL) c) := fun u hu => hu
  clear hgl hw hw1 hw2 h hn ha hr hK hnc hp
  rcases hg with ⟨e0, hg⟩ | ⟨e0, hg⟩
  · have e1 := no_text e0
    subst e1
    rw [← hg] at C1 hD
    clear C2 e0 hg
    go_enter Tryz.func15, Tryz.ntmps15
    go_wp2_with (go_at_call 29; refine (C1.out _ hD).mono ?_; rintro e w1 ⟨rfl, S1⟩; have D1 := HD.out _ (hD.sm S1); have k1 := HK.out.sm (S1.drew))
    have K1 : Kp (At1 d) w w1.drew := S1.drew.kp _
    have ld1 := dldK D1
    have cv1 : w1.drew.cell? ⟨d, 2, none⟩ = some (.string V) := D1.cell 2
    go_cut [9, 10] from 23 to 36 (fun x y wx => x = .string GT ∧ y = .string GL ∧ Bk wx d #[.int .i64 id, .string K, .string V, .int .i64 c] 61 ∧ Kp (At1 d) w wx)
    case first =>
      go_region_with (go_at_call 31; refine (C3.out _ k1).mono ?_; rintro e w2 ⟨rfl, S2⟩; have D2 := D1.sm S2)
      all_goals
        go_wp2
        go_meet
        exact ⟨rfl, rfl, D2, K1.trans (S2.kp _)⟩
    case rest =>
      obtain ⟨rfl, rfl, D2, K2⟩ := hcut
      clear D1 ld1 cv1 K1 k1 C1 C3 hD HD
      have cc2 : wc.cell? ⟨d, 2, none⟩ = some (.string V) := D2.cell 2
      have ff2 := D2.fz 2
      have D3 := HU.out _ (D2.set 2 (.string GL))
      have K3 := K2.setCell ⟨d, 2, none⟩ (.string GL) rfl
      have k3 := HK.out.at1 K3 HN.out
      go_wp2_with (go_at_call 30; refine (C4.out _ k3 D3).mono ?_; rintro e w4 ⟨rfl, K4, D4⟩; have cc4 : w4.cell? ⟨d, 3, none⟩ = some (.int .i64 c) := (Bk.cell D4 3); have ff4 := Bk.fz D4 3)
      go_ret2
      exact ⟨rfl, (K3.trans K4).setCell _ _ rfl, Bk.set D4 3 _⟩
  · have e1 := ne_text e0
    rw [← hg] at C2
    clear e0 hg
    go_enter Tryz.func15, Tryz.ntmps15
    go_wp2_with (first
      | (go_at_call 29; refine (C1.out _ hD).mono ?_; rintro e w0 ⟨rfl, S0⟩; have k0 := HK.out.sm S0; have D0 := hD.sm S0)
      | (go_at_call 30; refine (C2.out _ k0 D0).mono ?_; rintro e w1 ⟨rfl, K0, D0'⟩; have D1 := HD.out _ D0'; have K1 := ((S0.kp (At1 d)).trans K0).drew; have k1 := HK.out.at1 K1 HN.out))
    clear D0 D0' K0 S0 k0 C2
    have ld1 := dldK D1
    have cv1 : w1.drew.cell? ⟨d, 2, none⟩ = some (.string V) := D1.cell 2
    go_cut [9, 10] from 23 to 36 (fun x y wx => x = .string GT ∧ y = .string GL ∧ Bk wx d #[.int .i64 id, .string K, .string V, .int .i64 c] 61 ∧ Kp (At1 d) w wx)
    case first =>
      go_region_with (go_at_call 31; refine (C3.out _ k1).mono ?_; rintro e w2 ⟨rfl, S2⟩; have D2 := D1.sm S2)
      all_goals
        go_wp2
        go_meet
        exact ⟨rfl, rfl, D2, K1.trans (S2.kp _)⟩
    case rest =>
      obtain ⟨rfl, rfl, D2, K2⟩ := hcut
      clear D1 ld1 cv1 K1 k1 C1 C3 hD HD
      have cc2 : wc.cell? ⟨d, 2, none⟩ = some (.string V) := D2.cell 2
      have ff2 := D2.fz 2
      have D3 := HU.out _ (D2.set 2 (.string GL))
      have K3 := K2.setCell ⟨d, 2, none⟩ (.string GL) rfl
      have k3 := HK.out.at1 K3 HN.out
      go_wp2_with (go_at_call 30; refine (C4.out _ k3 D3).mono ?_; rintro e w4 ⟨rfl, K4, D4⟩; have cc4 : w4.cell? ⟨d, 3, none⟩ = some (.int .i64 c) := (Bk.cell D4 3); have ff4 := Bk.fz D4 3)
      go_ret2
      exact ⟨rfl, (K3.trans K4).setCell _ _ rfl, Bk.set D4 3 _⟩
end Go.Proofs.YtconibmdlfkopaaGreatDoor
