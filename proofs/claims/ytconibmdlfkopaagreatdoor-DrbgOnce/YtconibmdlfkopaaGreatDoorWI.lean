/-
  The documents' NewDrbg, Reseed, Generate.
-/
/-
  The documents' Generate, where it answers bytes.
-/
/-
  The statements' awake, short.
-/
/-
  Masks, and which hash a number is: what the statements of layer 11 share.
-/
import Derived.Test.YtconibmdlfkopaaGreatDoorWR
namespace Go.Proofs.YtconibmdlfkopaaGreatDoor
open Go.RowKit
def buildRf (ps : Array (Nat × Value)) : Sem Value := Instr.build 40 ps
theorem bdRf_is (ps : Array (Nat × Value)) : Instr.build 40 ps = buildRf ps := rfl
theorem bdRf (id : Int) (k v : ByteArray) (w : World) : (buildRf #[(0, .int .i64 id), (1, .string k), (2, .string v), (3, .int .i64 1)]).run Tryz.prog w = .ok (.agg #[.int .i64 id, .string k, .string v, .int .i64 1]) w := by kernel_rfl
attribute [local go_sem ↓] bdRf_is
attribute [local go_sem] bdRf
set_option maxRecDepth 100000 in
set_option maxHeartbeats 1600000 in
theorem rnew_no (id : Int) (h : id ≤ 0 ∨ 5 ≤ id) (E N Q : ByteArray) (w : World) :
    Calls Tryz.prog 12 #[.int .i64 id, .string E, .string N, .string Q] w fun e w' => e = .returned (.tuple #[.pointer none, .int .i64 1100]) ∧ w = w' := by
  have C1 : Hid (∀ w, Calls Tryz.prog 20 #[.int .i64 id] w fun e w' => e = .returned (.int .i64 0) ∧ w = w') := rsize_no id h
  clear h
  go_enter Tryz.func12, Tryz.ntmps12
  go_wp2_with (go_at_call 20; refine (C1.out _).mono ?_; rintro e w' ⟨rfl, rfl⟩)
  go_ret2
  exact ⟨rfl, rfl⟩
set_option maxRecDepth 100000 in
set_option maxHeartbeats 1600000 in
theorem rnew_bad (id z kk : Int) (h : Hi id z kk) (E N Q : ByteArray) (hE : E.size ≤ 1152921504606846976) (hN : N.size ≤ 1152921504606846976) (hQ : Q.size ≤ 1152921504606846976) (hn : ¬ No z E N Q) (w : World) :
    Calls Tryz.prog 12 #[.int .i64 id, .string E, .string N, .string Q] w fun e w' => e = .returned (.tuple #[.pointer none, .int .i64 1101]) ∧ w = w' := by
  have C1 : Hid (∀ w, Calls Tryz.prog 20 #[.int .i64 id] w fun e w' => e = .returned (.int .i64 z) ∧ w = w') := rsizeA_any id z kk h
  have hz0 := h.z28
  have z0 : (z == 0) = false := by simp; omega
  have l1 : (E.size : Int) ≤ 1152921504606846976 := by omega
  have l2 : (N.size : Int) ≤ 1152921504606846976 := by omega
  have l3 : (Q.size : Int) ≤ 1152921504606846976 := by omega
  have hc : (2 * (E.size : Int) < z) ∨ (¬ 2 * (E.size : Int) < z ∧ (256 : Int) < (E.size : Int)) ∨ (¬ 2 * (E.size : Int) < z ∧ ¬ (256 : Int) < (E.size : Int) ∧ (256 : Int) < (N.size : Int)) ∨ (¬ 2 * (E.size : Int) < z ∧ ¬ (256 : Int) < (E.size : Int) ∧ ¬ (256 : Int) < (N.size : Int) ∧ (256 : Int) < (Q.size : Int)) := by
    by_cases a1 : 2 * (E.size : Int) < z
    · exact Or.inl a1
    · by_cases a2 : (256 : Int) < (E.size : Int)
      · exact Or.inr (Or.inl ⟨a1, a2⟩)
      · by_cases a3 : (256 : Int) < (N.size : Int)
        · exact Or.inr (Or.inr (Or.inl ⟨a1, a2, a3⟩))
        · by_cases a4 : (256 : Int) < (Q.size : Int)
          · exact Or.inr (Or.inr (Or.inr ⟨a1, a2, a3, a4⟩))
          · exact absurd ⟨⟨by omega, by omega⟩, by omega, by omega⟩ hn
  clear h hn hE hN hQ hz0
  rcases hc with a1 | ⟨a1, a2⟩ | ⟨a1, a2, a3⟩ | ⟨a1, a2, a3, a4⟩
  all_goals
    go_enter Tryz.func12, Tryz.ntmps12
    go_wp2_with (go_at_call 20; refine (C1.out _).mono ?_; rintro e w' ⟨rfl, rfl⟩)
    go_ret2
    exact ⟨rfl, rfl⟩
set_option maxRecDepth 100000 in
set_option maxHeartbeats 1600000 in
theorem rnew_ok (id kk : Int) (z : Nat) (h : Hi id (z : Int) kk) (E N Q : ByteArray) (hn : No z E N Q) (w : World) :
    Calls Tryz.prog 12 #[.int .i64 id, .string E, .string N, .string Q] w fun e w' => ∃ d, e = .returned (.tuple #[.pointer (some ⟨d, 0, none⟩), .int .i64 0]) ∧ w.heap.size ≤ d ∧ Rfg w' d id (upd id ((E ++ N) ++ Q) (ini z)) 1 ∧ Sm w w' := by
  obtain ⟨⟨hE1, hE2⟩, hN, hQ⟩ := hn
  have hz := h.z64
  have hz0 := h.z28
  have z0 : ((z : Int) == 0) = false := by simp; omega
  have C2 : Hid (∀ w, Calls Tryz.prog 20 #[.int .i64 id] w fun e w' => e = .returned (.int .i64 (z : Int)) ∧ w = w') := rsizeA_any id z kk h
  have C3 : Hid (∀ w, Calls Tryz.prog 27 #[.int .i64 (z : Int), .int .u8 0] w fun e w' => e = .returned (.string (bt (fun _ => 0) z)) ∧ Sm w w') := fun w => rsame_any z 0 (by omega) w
  have C4 : Hid (∀ w, Calls Tryz.prog 27 #[.int .i64 (z : Int), .int .u8 1] w fun e w' => e = .returned (.string (bt (fun _ => 1) z)) ∧ Sm w w') := fun w => rsame_any z 1 (by omega) w
  have hss : ((E ++ N) ++ Q).size ≤ 900 := by rw [ByteArray.size_append, ByteArray.size_append]; omega
  have C5 : Hid (∀ d w, Rfg w d id (ini z) 1 → Calls Tryz.prog 28 #[.pointer (some ⟨d, 0, none⟩), .string ((E ++ N) ++ Q)] w fun e w' => e = .returned (.tuple #[]) ∧ Kp (At1 d) w w' ∧ Rfg w' d id (upd id ((E ++ N) ++ Q) (ini z)) 1) := fun d w h3 => rupd_any d id z kk h _ (ini_wf z) 1 _ hss w h3
  have HI : Hid (∀ w d, Bk w d #[.int .i64 id, .string (bt (fun _ => 0) z), .string (bt (fun _ => 1) z), .int .i64 1] 40 → Rfg w d id (ini z) 1) := fun w d h => h
  generalize upd id ((E ++ N) ++ Q) (ini z) = U at *
  generalize bt (fun _ => 0) z = q0 at *
  generalize bt (fun _ => 1) z = q1 at *
  have s1 : (E.size : Int) + (N.size : Int) ≤ 600 := by omega
  have s2 : ((E ++ N).size : Int) + (Q.size : Int) ≤ 900 := by rw [ByteArray.size_append]; omega
  have a1 : ¬ 2 * (E.size : Int) < (z : Int) := by omega
  have a2 : ¬ (256 : Int) < (E.size : Int) := by omega
  have a3 : ¬ (256 : Int) < (N.size : Int) := by omega
  have a4 : ¬ (256 : Int) < (Q.size : Int) := by omega
  clear h hE1 hE2 hN hQ hz hss hz0
  go_enter Tryz.func12, Tryz.ntmps12
  go_wp2_with (first
    | (go_at_call 20; refine (C2.out _).mono ?_; rintro e w' ⟨rfl, rfl⟩)
    | (go_at_call_of 27 (Value.int IntKind.u8 0); refine (C3.out _).mono ?_; rintro e w3 ⟨rfl, S3⟩)
    | (go_at_call_of 27 (Value.int IntKind.u8 1); refine (C4.out _).mono ?_; rintro e w4 ⟨rfl, S4⟩; have T4 := S3.trans S4; have D4 := HI.out _ _ (Bk.new w4 #[.int .i64 id, .string q0, .string q1, .int .i64 1] 40))
    | (go_at_call 28; refine (C5.out _ _ D4).mono ?_; rintro e w5 ⟨rfl, K5, D5⟩))
  go_ret2
  exact ⟨_, rfl, T4.size, D5, Sm.of (((T4.kp _).alloc _).trans (K5.fr T4.size))⟩
/-! ### Reseed -/
set_option maxRecDepth 100000 in
set_option maxHeartbeats 1600000 in
theorem rres_bad (d : Nat) (id z kk : Int) (h : Hi id z kk) (p : ByteArray × ByteArray) (c : Int) (E M : ByteArray) (hE : E.size ≤ 1152921504606846976) (hM : M.size ≤ 1152921504606846976) (hn : ¬ (Eo z E ∧ M.size ≤ 256)) (w : World) (hD : Rfg w d id p c) :
    Calls Tryz.prog 19 #[.pointer (some ⟨d, 0, none⟩), .string E, .string M] w fun e w' => e = .returned (.int .i64 1101) ∧ w = w' := by
  have C1 : Hid (∀ w, Calls Tryz.prog 20 #[.int .i64 id] w fun e w' => e = .returned (.int .i64 z) ∧ w = w') := rsizeA_any id z kk h
  have c0 : w.cell? ⟨d, 0, none⟩ = some (.int .i64 id) := Bk.cell hD 0
  have l1 : (E.size : Int) ≤ 1152921504606846976 := by omega
  have l2 : (M.size : Int) ≤ 1152921504606846976 := by omega
  have hc : (2 * (E.size : Int) < z) ∨ (¬ 2 * (E.size : Int) < z ∧ (256 : Int) < (E.size : Int)) ∨ (¬ 2 * (E.size : Int) < z ∧ ¬ (256 : Int) < (E.size : Int) ∧ (256 : Int) < (M.size : Int)) := by
    by_cases a1 : 2 * (E.size : Int) < z
    · exact Or.inl a1
    · by_cases a2 : (256 : Int) < (E.size : Int)
      · exact Or.inr (Or.inl ⟨a1, a2⟩)
      · by_cases a3 : (256 : Int) < (M.size : Int)
        · exact Or.inr (Or.inr ⟨a1, a2, a3⟩)
        · exact absurd ⟨⟨by omega, by omega⟩, by omega⟩ hn
  clear h hn hE hM hD
  rcases hc with a1 | ⟨a1, a2⟩ | ⟨a1, a2, a3⟩
  all_goals
    go_enter Tryz.func19, Tryz.ntmps19
    go_wp2_with (go_at_call 20; refine (C1.out _).mono ?_; rintro e w' ⟨rfl, rfl⟩)
    go_ret
    exact ⟨rfl, rfl⟩
set_option maxRecDepth 100000 in
set_option maxHeartbeats 1600000 in
theorem rres_ok (d : Nat) (id z kk : Int) (h : Hi id z kk) (p : ByteArray × ByteArray) (hp : Wf z p) (c : Int) (E M : ByteArray) (hE : Eo z E) (hM : M.size ≤ 256) (w : World) (hD : Rfg w d id p c) :
    Calls Tryz.prog 19 #[.pointer (some ⟨d, 0, none⟩), .string E, .string M] w fun e w' => e = .returned (.int .i64 0) ∧ Kp (At1 d) w w' ∧ Rfg w' d id (upd id (E ++ M) p) 1 := by
  obtain ⟨hE1, hE2⟩ := hE
  have C1 : Hid (∀ w, Calls Tryz.prog 20 #[.int .i64 id] w fun e w' => e = .returned (.int .i64 z) ∧ w = w') := rsizeA_any id z kk h
  have hss : (E ++ M).size ≤ 900 := by rw [ByteArray.size_append]; omega
  have C5 : Hid (∀ w, Rfg w d id p c → Calls Tryz.prog 28 #[.pointer (some ⟨d, 0, none⟩), .string (E ++ M)] w fun e w' => e = .returned (.tuple #[]) ∧ Kp (At1 d) w w' ∧ Rfg w' d id (upd id (E ++ M) p) c) := fun w h3 => rupd_any d id z kk h _ hp c _ hss w h3
  generalize upd id (E ++ M) p = U at *
  have s1 : (E.size : Int) + (M.size : Int) ≤ 600 := by omega
  have c0 : w.cell? ⟨d, 0, none⟩ = some (.int .i64 id) := Bk.cell hD 0
  have a1 : ¬ 2 * (E.size : Int) < z := by omega
  have a2 : ¬ (256 : Int) < (E.size : Int) := by omega
  have a3 : ¬ (256 : Int) < (M.size : Int) := by omega
  clear h hE1 hM hE2 hss hp
  go_enter Tryz.func19, Tryz.ntmps19
  go_wp2_with (first
    | (go_at_call 20; refine (C1.out _).mono ?_; rintro e w' ⟨rfl, rfl⟩)
    | (go_at_call 28; refine (C5.out _ hD).mono ?_; rintro e w5 ⟨rfl, K5, D5⟩; have f5 := Bk.fz D5 3; have c5 : w5.cell? ⟨d, 3, none⟩ = some (.int .i64 c) := Bk.cell D5 3))
  go_ret
  exact ⟨rfl, K5.setCell _ _ rfl, Bk.set D5 3 _⟩
/-! ### Generate -/
set_option maxRecDepth 100000 in
set_option maxHeartbeats 1600000 in
theorem rgen_bad (d : Nat) (id : Int) (p : ByteArray × ByteArray) (c n : Int) (a : ByteArray) (ha : a.size ≤ 1152921504606846976) (w : World) (hD : Rfg w d id p c) (R : Int) (h1 : ¬ Ro n a → R = 1102) (h2 : Ro n a → 64 < c ∧ R = 1103) :
    Calls Tryz.prog 16 #[.pointer (some ⟨d, 0, none⟩), .int .i64 n, .string a] w fun e w' => e = .returned (.tuple #[.string .empty, .int .i64 R]) ∧ w = w' := by
  have c3 : w.cell? ⟨d, 3, none⟩ = some (.int .i64 c) := Bk.cell hD 3
  have l1 : (a.size : Int) ≤ 1152921504606846976 := by omega
  have hc : (n < 0 ∧ R = 1102) ∨ (¬ n < 0 ∧ 256 < n ∧ R = 1102) ∨ (¬ n < 0 ∧ ¬ 256 < n ∧ (256 : Int) < (a.size : Int) ∧ R = 1102) ∨ (¬ n < 0 ∧ ¬ 256 < n ∧ ¬ (256 : Int) < (a.size : Int) ∧ 64 < c ∧ R = 1103) := by
    by_cases a1 : n < 0
    · exact Or.inl ⟨a1, h1 fun h => by have := h.1; omega⟩
    · by_cases a2 : 256 < n
      · exact Or.inr (Or.inl ⟨a1, a2, h1 fun h => by have := h.2.1; omega⟩)
      · by_cases a3 : (256 : Int) < (a.size : Int)
        · exact Or.inr (Or.inr (Or.inl ⟨a1, a2, a3, h1 fun h => by have := h.2.2; omega⟩))
        · exact Or.inr (Or.inr (Or.inr ⟨a1, a2, a3, h2 ⟨by omega, by omega, by omega⟩⟩))
  clear h1 h2 ha hD
  rcases hc with ⟨a1, rfl⟩ | ⟨a1, a2, rfl⟩ | ⟨a1, a2, a3, rfl⟩ | ⟨a1, a2, a3, a4, rfl⟩
  all_goals
    go_enter Tryz.func16, Tryz.ntmps16
    go_wp2
    go_ret2
    exact ⟨rfl, rfl⟩
end Go.Proofs.YtconibmdlfkopaaGreatDoor
namespace Go.Proofs.YtconibmdlfkopaaGreatDoor
open Go.RowKit
/-- How long a text is. -/
def szV (v : Value) : Nat := match v with
  | .string s => s.size
  | _ => 0
theorem szV_is (s : ByteArray) : szV (.string s) = s.size := rfl
set_option maxRecDepth 100000 in
set_option maxHeartbeats 3200000 in
theorem rgen_ok (d : Nat) (id kk : Int) (z : Nat) (h : Hi id (z : Int) kk) (p : ByteArray × ByteArray) (hp : Wf z p) (c : Int) (n : Nat) (a : ByteArray) (hn : n ≤ 256) (ha : a.size ≤ 256) (hc0 : 0 ≤ c) (hc : c ≤ 64) (w : World) (hD : Rfg w d id p c) :
    Calls Tryz.prog 16 #[.pointer (some ⟨d, 0, none⟩), .int .i64 (n : Int), .string a] w fun e w' => e = .returned (.tuple #[.string (gtx id z n a p), .int .i64 0]) ∧ Kp (At1 d) w w' ∧ Rfg w' d id (gnx id z n a p) (c + 1) := by
  have C2 : Hid (∀ w, Rfg w d id p c → Calls Tryz.prog 28 #[.pointer (some ⟨d, 0, none⟩), .string a] w fun e w' => e = .returned (.tuple #[]) ∧ Kp (At1 d) w w' ∧ Rfg w' d id (upd id a p) c) := fun w h2 => rupd_any d id z kk h p hp c a (by omega) w h2
  have hg : (a.size = 0 ∧ gp1 id a p = p) ∨ (¬ a.size = 0 ∧ gp1 id a p = upd id a p) := by
    unfold gp1
    by_cases e : a.size = 0
    · exact Or.inl ⟨e, if_pos e⟩
    · exact Or.inr ⟨e, if_neg e⟩
  have hw := gp1_wf h a p hp
  have hX : gtx id z n a p = gt id z n (gp1 id a p) := rfl
  have hY : gnx id z n a p = upd id a ((gp1 id a p).1, gl id z n (gp1 id a p)) := rfl
  rw [hX, hY]
  have hgl := gl_size h n _ hw
  clear hX hY
  generalize gp1 id a p = q at *
  obtain ⟨K, V⟩ := q
  have hw1 : (K.size : Int) = z := hw.1
  have hw2 : (V.size : Int) = z := hw.2
  have hz := h.z64
  have hz0 := h.z28
  have C3 : Hid (∀ i w, Calls Tryz.prog 33 #[.int .i64 id, .string K, .string (vi id K V i)] w fun e w' => e = .returned (.string (vi id K V (i + 1))) ∧ Sm w w') := fun i w => by
    have hi := vi_size h K V hw2 i
    exact rhmac_any id z kk h K _ (by omega) (by omega) w
  have HI : Hid (∀ i, (vi id K V i).size = z) := fun i => by have := vi_size h K V hw2 i; omega
  have HS : Hid (∀ i, (vs id K V i).size = i * z) := vs_size h K V (by omega)
  have HG : Hid (∀ i, n ≤ i * z → (i = 0 ∨ (i - 1) * z < n) → gt id z n (K, V) = (vs id K V i).extract 0 n ∧ gl id z n (K, V) = vi id K V i) := fun i h1 h2 => by
    have e := rn_is z n i (by omega) h1 h2
    unfold gt gl
    rw [← e]
    exact ⟨rfl, rfl⟩
  have HZ : Hid (28 ≤ z ∧ z ≤ 64) := show 28 ≤ z ∧ z ≤ 64 by omega
  generalize gt id z n (K, V) = GT at *
  generalize gl id z n (K, V) = GL at *
  generalize hvi : vi id K V = f at *
  generalize hvs : vs id K V = g at *
  have HF : Hid (f 0 = V ∧ g 0 = .empty ∧ ∀ i, g (i + 1) = g i ++ f (i + 1)) := show f 0 = V ∧ g 0 = .empty ∧ ∀ i, g (i + 1) = g i ++ f (i + 1) from by
    subst hvi hvs
    exact ⟨rfl, rfl, fun _ => rfl⟩
  have C4 : Hid (∀ w, Rfg w d id (K, GL) c → Calls Tryz.prog 28 #[.pointer (some ⟨d, 0, none⟩), .string a] w fun e w' => e = .returned (.tuple #[]) ∧ Kp (At1 d) w w' ∧ Rfg w' d id (upd id a (K, GL)) c) := fun w h2 => rupd_any d id z kk h _ ⟨hw1, hgl⟩ c a (by omega) w h2
  generalize upd id a (K, GL) = U at *
  have HB : Hid (∀ u, Rfg u d id (K, V) c → Bk u d #[.int .i64 id, .string K, .string V, .int .i64 c] 40) := fun u hu => hu
  have HU : Hid (∀ u, Bk u d #[.int .i64 id, .string K, .string GL, .int .i64 c] 40 → Rfg u d id (K, GL) c) := fun u hu => hu
  have c3 : w.cell? ⟨d, 3, none⟩ = some (.int .i64 c) := Bk.cell hD 3
  have n0 : ¬ (n : Int) < 0 := by omega
  have n1 : ¬ (256 : Int) < (n : Int) := by omega
  have n2 : ¬ (256 : Int) < (a.size : Int) := by omega
  have n3 : ¬ 64 < c := by omega
  have n4 : (n : Int) ≤ 256 := by omega
  clear hgl hw hw1 hw2 h hn ha hp hz hz0 hvi hvs
  rcases hg with ⟨e0, hg⟩ | ⟨e0, hg⟩
  · have e1 := no_text e0
    subst e1
    rw [← hg] at hD
    clear e0 hg C2
    go_enter Tryz.func16, Tryz.ntmps16
    go_wp2_with fail
    have D1 := hD
    have K1 : Kp (At1 d) w w := Kp.refl _ _
    have B1 := HB.out _ D1
    clear D1
    go_loopw [8] (fun x u => ∃ i : Nat, x = .string (g i) ∧ Bk u d #[.int .i64 id, .string K, .string (f i), .int .i64 c] 40 ∧ (i = 0 ∨ (i - 1) * z < n) ∧ Kp (At1 d) w u) (fun x _ => n - szV x)
    case atStart =>
      obtain ⟨e1, e2, _⟩ := HF.out
      exact ⟨0, by rw [e2]; rfl, by rw [e1]; exact B1, Or.inl rfl, K1⟩
    case round =>
      clear B1 K1
      obtain ⟨i, rfl, B1, hi, K1⟩ := hrel
      have hgs := HS.out i
      have hZ := HZ.out
      by_cases cc : i * z < n
      · have HR : Hid (i + 1 = 0 ∨ (i + 1 - 1) * z < n) := Or.inr cc
        have hl1 : ((g i).size : Int) < (n : Int) := by omega
        have hfs := HI.out (i + 1)
        have hl2 : ((g i).size : Int) + ((f (i + 1)).size : Int) ≤ 1000 := by omega
        have HM : Hid (szV (.string (g (i + 1))) = (g i).size + z ∧ szV (.string (g i)) = (g i).size ∧ (g i).size < n ∧ 0 < z) := show _ ∧ _ ∧ _ ∧ _ from ⟨by rw [HF.out.2.2 i, szV_is, ByteArray.size_append, hfs], rfl, by omega, by omega⟩
        have HN : Hid (Unit → g (i + 1) = g i ++ f (i + 1)) := fun _ => HF.out.2.2 i
        have C5 : Hid (∀ w, Calls Tryz.prog 33 #[.int .i64 id, .string K, .string (f i)] w fun e w' => e = .returned (.string (f (i + 1))) ∧ Sm w w') := C3.out i
        clear hi hgs hZ cc hfs C3 C4 HG HI HS HF
        go_wp2_with fail
        go_cut [] from 34 to 49 (fun wx => Bk wx d #[.int .i64 id, .string K, .string (f (i + 1)), .int .i64 c] 40 ∧ Kp (At1 d) w wx)
        case first =>
          have ne := Sx.ne wr
          have y0 : ∀ x : Sx wr, x.to.cell? ⟨d, 0, none⟩ = some (.int .i64 id) := fun x => Sx.cell B1 x 0
          have y1 : ∀ x : Sx wr, x.to.cell? ⟨d, 1, none⟩ = some (.string K) := fun x => Sx.cell B1 x 1
          have y2 : ∀ x : Sx wr, x.to.cell? ⟨d, 2, none⟩ = some (.string (f i)) := fun x => Sx.cell B1 x 2
          refine wp_region_tailC (C := fun u => ∃ x : Sx wr, u = x.to) (by kernel_rfl) (by kernel_rfl) (by kernel_rfl) (Sc.drew wr) ?_
          simp only [swp, nop, lastL]
          repeat (go_big_quiet_step (first | (go_at_call 33; exact Sx.call (C5.out _))))
          refine wpQuiet_nil ?_
          rintro u ⟨x, rfl⟩
          have X1 := B1.sm x.sm
          have X2 := x.sm
          generalize x.to = u at *
          have fx := X1.fz 2
          have cx := X1.cell 2
          clear y0 y1 y2 ne
          go_wp2
          go_meet
          exact ⟨X1.set 2 _, (K1.trans (X2.kp _)).setCell _ _ rfl⟩
        case rest =>
          obtain ⟨E1, L1⟩ := hcut
          have cy : wc.cell? ⟨d, 2, none⟩ = some (.string (f (i + 1))) := E1.cell 2
          go_wp2_with fail
          go_roundw
          case rel => exact ⟨i + 1, by rw [HN.out ()], E1, HR.out, L1⟩
          case measure =>
            rw [← HN.out ()]
            obtain ⟨m1, m2, m3, m4⟩ := HM.out
            omega
      · have HQ := HG.out i (by omega) hi
        have HQ' : Hid (GT = (g i).extract 0 n ∧ GL = f i) := HQ
        have D2 := HU.out _ (by rw [HQ.2]; exact B1)
        have hl1 : ¬ ((g i).size : Int) < (n : Int) := by omega
        have hl2 : (n : Int) ≤ ((g i).size : Int) := by omega
        clear HQ hgs cc hi hZ HG HI HS HF C3
        go_wp2_with (go_at_call 28; refine (C4.out _ D2).mono ?_; rintro e w4 ⟨rfl, K4, D4⟩; have cc4 : w4.cell? ⟨d, 3, none⟩ = some (.int .i64 c) := Bk.cell D4 3; have ff4 := Bk.fz D4 3)
        go_ret2
        exact ⟨by rw [HQ'.out.1]; rfl, (K1.trans K4).setCell _ _ rfl, Bk.set D4 3 _⟩
  · have e1 := ne_text e0
    rw [← hg] at C2
    clear e0 hg
    go_enter Tryz.func16, Tryz.ntmps16
    go_wp2_with (go_at_call 28; refine (C2.out _ hD).mono ?_; rintro e w1 ⟨rfl, K1, D1⟩)
    clear C2
    have B1 := HB.out _ D1
    clear D1
    go_loopw [8] (fun x u => ∃ i : Nat, x = .string (g i) ∧ Bk u d #[.int .i64 id, .string K, .string (f i), .int .i64 c] 40 ∧ (i = 0 ∨ (i - 1) * z < n) ∧ Kp (At1 d) w u) (fun x _ => n - szV x)
    case atStart =>
      obtain ⟨e1, e2, _⟩ := HF.out
      exact ⟨0, by rw [e2]; rfl, by rw [e1]; exact B1, Or.inl rfl, K1⟩
    case round =>
      clear B1 K1
      obtain ⟨i, rfl, B1, hi, K1⟩ := hrel
      have hgs := HS.out i
      have hZ := HZ.out
      by_cases cc : i * z < n
      · have HR : Hid (i + 1 = 0 ∨ (i + 1 - 1) * z < n) := Or.inr cc
        have hl1 : ((g i).size : Int) < (n : Int) := by omega
        have hfs := HI.out (i + 1)
        have hl2 : ((g i).size : Int) + ((f (i + 1)).size : Int) ≤ 1000 := by omega
        have HM : Hid (szV (.string (g (i + 1))) = (g i).size + z ∧ szV (.string (g i)) = (g i).size ∧ (g i).size < n ∧ 0 < z) := show _ ∧ _ ∧ _ ∧ _ from ⟨by rw [HF.out.2.2 i, szV_is, ByteArray.size_append, hfs], rfl, by omega, by omega⟩
        have HN : Hid (Unit → g (i + 1) = g i ++ f (i + 1)) := fun _ => HF.out.2.2 i
        have C5 : Hid (∀ w, Calls Tryz.prog 33 #[.int .i64 id, .string K, .string (f i)] w fun e w' => e = .returned (.string (f (i + 1))) ∧ Sm w w') := C3.out i
        clear hi hgs hZ cc hfs C3 C4 HG HI HS HF
        go_wp2_with fail
        go_cut [] from 34 to 49 (fun wx => Bk wx d #[.int .i64 id, .string K, .string (f (i + 1)), .int .i64 c] 40 ∧ Kp (At1 d) w wx)
        case first =>
          have ne := Sx.ne wr
          have y0 : ∀ x : Sx wr, x.to.cell? ⟨d, 0, none⟩ = some (.int .i64 id) := fun x => Sx.cell B1 x 0
          have y1 : ∀ x : Sx wr, x.to.cell? ⟨d, 1, none⟩ = some (.string K) := fun x => Sx.cell B1 x 1
          have y2 : ∀ x : Sx wr, x.to.cell? ⟨d, 2, none⟩ = some (.string (f i)) := fun x => Sx.cell B1 x 2
          refine wp_region_tailC (C := fun u => ∃ x : Sx wr, u = x.to) (by kernel_rfl) (by kernel_rfl) (by kernel_rfl) (Sc.drew wr) ?_
          simp only [swp, nop, lastL]
          repeat (go_big_quiet_step (first | (go_at_call 33; exact Sx.call (C5.out _))))
          refine wpQuiet_nil ?_
          rintro u ⟨x, rfl⟩
          have X1 := B1.sm x.sm
          have X2 := x.sm
          generalize x.to = u at *
          have fx := X1.fz 2
          have cx := X1.cell 2
          clear y0 y1 y2 ne
          go_wp2
          go_meet
          exact ⟨X1.set 2 _, (K1.trans (X2.kp _)).setCell _ _ rfl⟩
        case rest =>
          obtain ⟨E1, L1⟩ := hcut
          have cy : wc.cell? ⟨d, 2, none⟩ = some (.string (f (i + 1))) := E1.cell 2
          go_wp2_with fail
          go_roundw
          case rel => exact ⟨i + 1, by rw [HN.out ()], E1, HR.out, L1⟩
          case measure =>
            rw [← HN.out ()]
            obtain ⟨m1, m2, m3, m4⟩ := HM.out
            omega
      · have HQ := HG.out i (by omega) hi
        have HQ' : Hid (GT = (g i).extract 0 n ∧ GL = f i) := HQ
        have D2 := HU.out _ (by rw [HQ.2]; exact B1)
        have hl1 : ¬ ((g i).size : Int) < (n : Int) := by omega
        have hl2 : (n : Int) ≤ ((g i).size : Int) := by omega
        clear HQ hgs cc hi hZ HG HI HS HF C3
        go_wp2_with (go_at_call 28; refine (C4.out _ D2).mono ?_; rintro e w4 ⟨rfl, K4, D4⟩; have cc4 : w4.cell? ⟨d, 3, none⟩ = some (.int .i64 c) := Bk.cell D4 3; have ff4 := Bk.fz D4 3)
        go_ret2
        exact ⟨by rw [HQ'.out.1]; rfl, (K1.trans K4).setCell _ _ rfl, Bk.set D4 3 _⟩
end Go.Proofs.YtconibmdlfkopaaGreatDoor
namespace Go.Proofs.YtconibmdlfkopaaGreatDoor
open Go.RowKit
theorem Dg.lt {w : World} {d : Nat} {id : Int} {p : ByteArray × ByteArray} {c : Int} (h : Dg w d id p c) : d < w.heap.size := Bk.lt h
theorem Rfg.lt {w : World} {d : Nat} {id : Int} {p : ByteArray × ByteArray} {c : Int} (h : Rfg w d id p c) : d < w.heap.size := Bk.lt h
/-- The sixteen digits. -/
def e16 : ByteArray := ⟨#[48, 49, 50, 51, 52, 53, 54, 55, 56, 57, 97, 98, 99, 100, 101, 102]⟩
set_option maxRecDepth 100000 in
set_option maxHeartbeats 3200000 in
theorem awake11_any (w : World) (hK : KK w) : Calls Tryz.prog 14 #[] w fun e w' => e = .returned (.bool true) ∧ Sm w w' := by
  have h2 : Hi 2 ((32 : Nat) : Int) 64 := hi2
  have CN : Hid (∀ x w, Calls Tryz.prog 13 #[.int .i64 x] w fun e w' => e = .returned (.int .i64 x) ∧ w = w') := num7_any
  have hno : No ((32 : Nat) : Int) ⟨#[48, 49, 50, 51, 52, 53, 54, 55, 56, 57, 97, 98, 99, 100, 101, 102]⟩ ⟨#[110]⟩ ⟨#[]⟩ := ⟨⟨by decide, by decide⟩, by decide, by decide⟩
  have hbad : ¬ No 32 ⟨#[115, 104, 111, 114, 116]⟩ ⟨#[]⟩ ⟨#[]⟩ := fun h => absurd h.1.1 (by decide)
  have C1 : Hid (∀ w, KK w → Calls Tryz.prog 11 #[.int .i64 2, .string ⟨#[48, 49, 50, 51, 52, 53, 54, 55, 56, 57, 97, 98, 99, 100, 101, 102]⟩, .string ⟨#[110]⟩, .string ⟨#[]⟩] w fun e w' => ∃ d, e = .returned (.tuple #[.pointer (some ⟨d, 0, none⟩), .int .i64 0]) ∧ w.heap.size ≤ d ∧ Dg w' d 2 (upd 2 ((⟨#[48, 49, 50, 51, 52, 53, 54, 55, 56, 57, 97, 98, 99, 100, 101, 102]⟩ ++ ⟨#[110]⟩) ++ ⟨#[]⟩) (ini 32)) 1 ∧ Sm w w') := fun w hw => dnew_ok 2 64 32 h2 _ _ _ hno w hw
  have C2 : Hid (∀ w, Calls Tryz.prog 12 #[.int .i64 2, .string ⟨#[48, 49, 50, 51, 52, 53, 54, 55, 56, 57, 97, 98, 99, 100, 101, 102]⟩, .string ⟨#[110]⟩, .string ⟨#[]⟩] w fun e w' => ∃ d, e = .returned (.tuple #[.pointer (some ⟨d, 0, none⟩), .int .i64 0]) ∧ w.heap.size ≤ d ∧ Rfg w' d 2 (upd 2 ((⟨#[48, 49, 50, 51, 52, 53, 54, 55, 56, 57, 97, 98, 99, 100, 101, 102]⟩ ++ ⟨#[110]⟩) ++ ⟨#[]⟩) (ini 32)) 1 ∧ Sm w w') := fun w => rnew_ok 2 64 32 h2 _ _ _ hno w
  have hwf := upd_wf h2 ((⟨#[48, 49, 50, 51, 52, 53, 54, 55, 56, 57, 97, 98, 99, 100, 101, 102]⟩ ++ ⟨#[110]⟩) ++ ⟨#[]⟩) (ini 32)
  generalize upd 2 ((⟨#[48, 49, 50, 51, 52, 53, 54, 55, 56, 57, 97, 98, 99, 100, 101, 102]⟩ ++ ⟨#[110]⟩) ++ ⟨#[]⟩) (ini 32) = p at *
  have C3 : Hid (∀ d w, KK w → Nc d → Dg w d 2 p 1 → Calls Tryz.prog 15 #[.pointer (some ⟨d, 0, none⟩), .int .i64 40, .string ⟨#[]⟩] w fun e w' => e = .returned (.tuple #[.string (gtx 2 32 40 ⟨#[]⟩ p), .int .i64 0]) ∧ Kp (At1 d) w w' ∧ Dg w' d 2 (gnx 2 32 40 ⟨#[]⟩ p) 2) := fun d w k1 k2 k3 => dgen_ok d 2 64 32 h2 p hwf 1 40 ⟨#[]⟩ (by decide) (by decide) (by decide) (by decide) w k1 k2 k3
  have C4 : Hid (∀ d w, Rfg w d 2 p 1 → Calls Tryz.prog 16 #[.pointer (some ⟨d, 0, none⟩), .int .i64 40, .string ⟨#[]⟩] w fun e w' => e = .returned (.tuple #[.string (gtx 2 32 40 ⟨#[]⟩ p), .int .i64 0]) ∧ Kp (At1 d) w w' ∧ Rfg w' d 2 (gnx 2 32 40 ⟨#[]⟩ p) 2) := fun d w k3 => rgen_ok d 2 64 32 h2 p hwf 1 40 ⟨#[]⟩ (by decide) (by decide) (by decide) (by decide) w k3
  generalize gtx 2 32 40 ⟨#[]⟩ p = T at *
  generalize gnx 2 32 40 ⟨#[]⟩ p = p2 at *
  have C5 : Hid (∀ w, Calls Tryz.prog 11 #[.int .i64 2, .string ⟨#[115, 104, 111, 114, 116]⟩, .string ⟨#[]⟩, .string ⟨#[]⟩] w fun e w' => e = .returned (.tuple #[.pointer none, .int .i64 1101]) ∧ Sm w w') := fun w => dnew_bad 2 32 64 hi2 _ _ _ (by decide) hbad w
  have C6 : Hid (∀ d w, Dg w d 2 p2 2 → Calls Tryz.prog 15 #[.pointer (some ⟨d, 0, none⟩), .int .i64 257, .string ⟨#[]⟩] w fun e w' => e = .returned (.tuple #[.string .empty, .int .i64 1102]) ∧ Sm w w') := fun d w k3 => dgen_bad d 2 32 64 hi2 p2 2 257 ⟨#[]⟩ (by decide) w k3 1102 rfl (fun _ => rfl) (fun h => absurd h.2.1 (by decide))
  have CC : Hid (∀ d w, Dg w d 2 p2 2 → Calls Tryz.prog 17 #[.pointer (some ⟨d, 0, none⟩)] w fun e w' => e = .returned (.int .i64 2) ∧ w = w') := fun d w k => dcount_any d 2 2 p2 w k
  have HK : Hid (KK w) := hK
  clear hK h2 hno hbad hwf
  go_enter Tryz.func14, Tryz.ntmps14
  go_wp2_with (first
    | (go_at_call_of 11 (Value.string ⟨#[115, 104, 111, 114, 116]⟩); refine (C5.out _).mono ?_; rintro e w5 ⟨rfl, S5⟩; have D5 := D4.sm S5)
    | (go_at_call 11; refine (C1.out _ HK.out).mono ?_; rintro e w1 ⟨d, rfl, hd, D1, S1⟩; have nd := HK.out.nc hd; have k1 := HK.out.sm S1; have ld := D1.lt)
    | (go_at_call 12; refine (C2.out _).mono ?_; rintro e w2 ⟨r, rfl, hr, R2, S2⟩; have D2 := D1.sm S2; have k2 := k1.sm S2; have hne : r ≠ d := (by omega); have hrw : w.heap.size ≤ r := Nat.le_trans S1.size hr)
    | (go_at_call_of 15 (Value.int IntKind.i64 257); refine (C6.out _ _ D5).mono ?_; rintro e w6 ⟨rfl, S6⟩; have D6 := D5.sm S6)
    | (go_at_call 15; refine (C3.out _ _ k2 nd D2).mono ?_; rintro e w3 ⟨rfl, K3, D3⟩; have R3 := R2.far K3 hne)
    | (go_at_call 16; refine (C4.out _ _ R3).mono ?_; rintro e w4 ⟨rfl, K4, R4⟩; have D4 := D3.far K4 (Ne.symm hne))
    | (go_at_call 17; refine (CC.out _ _ D6).mono ?_; rintro e w' ⟨rfl, rfl⟩)
    | (go_at_call 13; refine (CN.out _ _).mono ?_; rintro e w' ⟨rfl, rfl⟩))
  go_ret
  exact ⟨rfl, Sm.of ((((((S1.trans S2).kp _).trans (K3.fr hd)).trans (K4.fr hrw)).trans (S5.kp _)).trans (S6.kp _))⟩
/-- At most a hundred bytes of a text. -/
def sh (s : ByteArray) : ByteArray := if 100 < s.size then s.extract 0 100 else s
theorem sh_size (s : ByteArray) : (sh s).size ≤ 100 := by
  unfold sh
  split
  · rw [ex_sz]; omega
  · omega
set_option maxRecDepth 100000 in
set_option maxHeartbeats 800000 in
theorem short_any (s : ByteArray) (hs : s.size ≤ 1152921504606846976) (w : World) : Calls Tryz.prog 21 #[.string s] w fun e w' => e = .returned (.string (sh s)) ∧ w = w' := by
  have l1 : (s.size : Int) ≤ 1152921504606846976 := by omega
  by_cases c : 100 < s.size
  · have e : sh s = s.extract 0 100 := if_pos c
    have c1 : (100 : Int) < (s.size : Int) := by omega
    rw [e]
    clear c e hs
    go_enter Tryz.func21, Tryz.ntmps21
    go_wp2
    go_ret
    exact ⟨rfl, rfl⟩
  · have e : sh s = s := if_neg c
    have c1 : ¬ (100 : Int) < (s.size : Int) := by omega
    rw [e]
    clear c e hs
    go_enter Tryz.func21, Tryz.ntmps21
    go_wp2
    go_ret
    exact ⟨rfl, rfl⟩
end Go.Proofs.YtconibmdlfkopaaGreatDoor
namespace Go.Proofs.YtconibmdlfkopaaGreatDoor
open Go.RowKit
theorem and_7 (i : Int) : ∃ k : Nat, bits .and .i64 i 7 = (k : Int) ∧ k < 8 := by
  have h : (BitVec.ofInt 64 i &&& BitVec.ofInt 64 7).toNat ≤ 7 := by
    rw [BitVec.toNat_and]
    exact Nat.and_le_right
  refine ⟨(BitVec.ofInt 64 i &&& BitVec.ofInt 64 7).toNat, ?_, by omega⟩
  show IntKind.i64.wrap ((BitVec.ofInt 64 i &&& BitVec.ofInt 64 7).toNat : Int) = _
  rw [IntKind.wrap_i64]
  omega
theorem and_127 (i : Int) : ∃ k : Nat, bits .and .i64 i 127 = (k : Int) ∧ k < 128 := by
  have h : (BitVec.ofInt 64 i &&& BitVec.ofInt 64 127).toNat ≤ 127 := by
    rw [BitVec.toNat_and]
    exact Nat.and_le_right
  refine ⟨(BitVec.ofInt 64 i &&& BitVec.ofInt 64 127).toNat, ?_, by omega⟩
  show IntKind.i64.wrap ((BitVec.ofInt 64 i &&& BitVec.ofInt 64 127).toNat : Int) = _
  rw [IntKind.wrap_i64]
  omega
theorem and_511 (i : Int) : ∃ k : Nat, bits .and .i64 i 511 = (k : Int) ∧ k < 512 := by
  have h : (BitVec.ofInt 64 i &&& BitVec.ofInt 64 511).toNat ≤ 511 := by
    rw [BitVec.toNat_and]
    exact Nat.and_le_right
  refine ⟨(BitVec.ofInt 64 i &&& BitVec.ofInt 64 511).toNat, ?_, by omega⟩
  show IntKind.i64.wrap ((BitVec.ofInt 64 i &&& BitVec.ofInt 64 511).toNat : Int) = _
  rw [IntKind.wrap_i64]
  omega
theorem hi_nat (p : Nat) (h : p < 4) : ∃ (z : Nat) (k : Int), Hi (1 + (p : Int)) (z : Int) k := by
  obtain ⟨z, k, hh, _⟩ := hi_of p h
  have h28 := hh.z28
  obtain ⟨n, rfl⟩ := Int.eq_ofNat_of_zero_le (show 0 ≤ z by omega)
  exact ⟨n, k, hh⟩
/-- The thirty-two digits, as the statements' text has them, and a short text behind them. -/
def e32 : ByteArray := ⟨#[48, 49, 50, 51, 52, 53, 54, 55, 56, 57, 97, 98, 99, 100, 101, 102, 48, 49, 50, 51, 52, 53, 54, 55, 56, 57, 97, 98, 99, 100, 101, 102]⟩
theorem e32_size : e32.size = 32 := rfl
theorem eo_32 {id z k : Int} (h : Hi id z k) (E : ByteArray) (h1 : 32 ≤ E.size) (h2 : E.size ≤ 256) : Eo z E := ⟨by have := h.z64; omega, h2⟩
end Go.Proofs.YtconibmdlfkopaaGreatDoor
