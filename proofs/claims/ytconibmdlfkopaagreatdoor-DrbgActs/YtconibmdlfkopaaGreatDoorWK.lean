/-
  A row of acts in memory; both generators under one act.
-/
import Derived.Test.YtconibmdlfkopaaGreatDoorWI
namespace Go.Proofs.YtconibmdlfkopaaGreatDoor
open Go.RowKit
/-- The slice at q holds n acts. -/
def Ac (w : World) (q : Option Addr) (n : Nat) (k s : Nat → Int) (a b : Nat → ByteArray) : Prop := n = 0 ∨ ∃ g o, q = some ⟨g, o, none⟩ ∧ g < w.heap.size ∧ ∀ i, i < n → w.cell? ⟨g, o + i * 4, none⟩ = some (.int .i64 (k i)) ∧ w.cell? ⟨g, o + i * 4 + 1, none⟩ = some (.int .i64 (s i)) ∧ w.cell? ⟨g, o + i * 4 + 2, none⟩ = some (.string (a i)) ∧ w.cell? ⟨g, o + i * 4 + 3, none⟩ = some (.string (b i))
theorem ldA_is (v : Value) : Instr.loadAt 33 v = loadS 33 v := rfl
theorem Ac.at {w w' : World} {q : Option Addr} {n : Nat} {k s : Nat → Int} {a b : Nat → ByteArray} (h : Ac w q n k s a b) (kp : Kp (Fr w.heap.size) w w') (i : Nat) (hi : i < n) : ∃ g o, q = some ⟨g, o, none⟩ ∧ (loadS 33 (.pointer (some ⟨g, o + i * 4, none⟩))).run Tryz.prog w' = .ok (.agg #[.int .i64 (k i), .int .i64 (s i), .string (a i), .string (b i)]) w' := by
  rcases h with h | ⟨g, o, rfl, hg, hc⟩
  · omega
  · refine ⟨g, o, rfl, loadS_part 4 Tryz.underlying33 rfl (by kernel_rfl) rfl fun j hj => ?_⟩
    rw [kp.cell g _ hg (fun e => by have : w.heap.size ≤ g := e; omega)]
    obtain ⟨h0, h1, h2, h3⟩ := hc i hi
    have : j = 0 ∨ j = 1 ∨ j = 2 ∨ j = 3 := by omega
    rcases this with rfl | rfl | rfl | rfl
    · exact h0
    · exact h1
    · exact h2
    · exact h3
/-- A request, of both generators: one answer, and both go on alike. -/
theorem gen_both (d r : Nat) (id kk : Int) (z : Nat) (h : Hi id (z : Int) kk) (p : ByteArray × ByteArray) (hp : Wf z p) (c n : Int) (a : ByteArray) (ha : a.size ≤ 1152921504606846976) (hc1 : 1 ≤ c) (hc2 : c ≤ 65) (hnc : Nc d) :
    ∃ (T : ByteArray) (R : Int) (p' : ByteArray × ByteArray) (c' : Int), Wf z p' ∧ 1 ≤ c' ∧ c' ≤ 65 ∧
      (∀ u, KK u → Dg u d id p c → Calls Tryz.prog 15 #[.pointer (some ⟨d, 0, none⟩), .int .i64 n, .string a] u fun e u' => e = .returned (.tuple #[.string T, .int .i64 R]) ∧ Kp (At1 d) u u' ∧ Dg u' d id p' c') ∧
      (∀ u, Rfg u r id p c → Calls Tryz.prog 16 #[.pointer (some ⟨r, 0, none⟩), .int .i64 n, .string a] u fun e u' => e = .returned (.tuple #[.string T, .int .i64 R]) ∧ Kp (At1 r) u u' ∧ Rfg u' r id p' c') := by
  by_cases hr : Ro n a
  · by_cases h64 : 64 < c
    · exact ⟨.empty, 1103, p, c, hp, hc1, hc2, fun u _ hD => (dgen_bad d id z kk h p c n a ha u hD 1103 rfl (fun h => absurd hr h) (fun _ => ⟨h64, rfl⟩)).mono fun _ _ ⟨h1, h2⟩ => ⟨h1, h2.kp _, hD.sm h2⟩, fun u hD => (rgen_bad r id p c n a ha u hD 1103 (fun h => absurd hr h) (fun _ => ⟨h64, rfl⟩)).mono fun _ _ ⟨h1, h2⟩ => ⟨h1, h2 ▸ Kp.refl _ _, h2 ▸ hD⟩⟩
    · obtain ⟨h0, h1, h2⟩ := hr
      obtain ⟨m, rfl⟩ := Int.eq_ofNat_of_zero_le h0
      exact ⟨gtx id z m a p, 0, gnx id z m a p, c + 1, gnx_wf h _ _ _, by omega, by omega, fun u hk hD => dgen_ok d id kk z h p hp c m a (by omega) h2 (by omega) (by omega) u hk hnc hD, fun u hD => rgen_ok r id kk z h p hp c m a (by omega) h2 (by omega) (by omega) u hD⟩
  · exact ⟨.empty, 1102, p, c, hp, hc1, hc2, fun u _ hD => (dgen_bad d id z kk h p c n a ha u hD 1102 rfl (fun _ => rfl) (fun h => absurd h hr)).mono fun _ _ ⟨h1, h2⟩ => ⟨h1, h2.kp _, hD.sm h2⟩, fun u hD => (rgen_bad r id p c n a ha u hD 1102 (fun _ => rfl) (fun h => absurd h hr)).mono fun _ _ ⟨h1, h2⟩ => ⟨h1, h2 ▸ Kp.refl _ _, h2 ▸ hD⟩⟩
/-- New entropy, of both. -/
theorem res_both (d r : Nat) (id kk : Int) (z : Nat) (h : Hi id (z : Int) kk) (p : ByteArray × ByteArray) (hp : Wf z p) (c : Int) (E M : ByteArray) (hE : E.size ≤ 1152921504606846976) (hM : M.size ≤ 1152921504606846976) (hc1 : 1 ≤ c) (hc2 : c ≤ 65) (hnc : Nc d) :
    ∃ (R : Int) (p' : ByteArray × ByteArray) (c' : Int), Wf z p' ∧ 1 ≤ c' ∧ c' ≤ 65 ∧
      (∀ u, KK u → Dg u d id p c → Calls Tryz.prog 18 #[.pointer (some ⟨d, 0, none⟩), .string E, .string M] u fun e u' => e = .returned (.int .i64 R) ∧ Kp (At1 d) u u' ∧ Dg u' d id p' c') ∧
      (∀ u, Rfg u r id p c → Calls Tryz.prog 19 #[.pointer (some ⟨r, 0, none⟩), .string E, .string M] u fun e u' => e = .returned (.int .i64 R) ∧ Kp (At1 r) u u' ∧ Rfg u' r id p' c') := by
  by_cases ho : Eo (z : Int) E ∧ M.size ≤ 256
  · exact ⟨0, upd id (E ++ M) p, 1, upd_wf h _ _, by decide, by decide, fun u hk hD => dres_ok d id z kk h p hp c E M ho.1 ho.2 u hk hnc hD, fun u hD => rres_ok r id z kk h p hp c E M ho.1 ho.2 u hD⟩
  · exact ⟨1101, p, c, hp, hc1, hc2, fun u _ hD => (dres_bad d id z kk h p c E M hE ho u hD).mono fun _ _ ⟨h1, h2⟩ => ⟨h1, h2.kp _, hD.sm h2⟩, fun u hD => (rres_bad r id z kk h p c E M hE hM ho u hD).mono fun _ _ ⟨h1, h2⟩ => ⟨h1, h2 ▸ Kp.refl _ _, h2 ▸ hD⟩⟩
end Go.Proofs.YtconibmdlfkopaaGreatDoor
