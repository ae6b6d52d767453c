/-
  The statements' own awake (layer 3): it answers true.
-/
import Derived.Test.YtbiobhjafmmdhaaTL
namespace Go.Proofs.Ytbiobhjafmmdhaa
open Go.RowKit

theorem numE_any (x : Int) (w : World) :
    Calls Try.prog 9 #[.int .i64 x] w fun e w' => e = .returned (.int .i64 x) ∧ w = w' := by
  go_enter Try.func9, Try.ntmps9
  go_wp2
  go_ret
  exact ⟨rfl, rfl⟩
/-- From block n on. -/
def Fro (n b : Nat) : Prop := n ≤ b
theorem Rec.fro {w w' : World} {t n : Nat} {v v' : Value} {xs ys : List (Int × Int)} (h : Rec w w' t v v' xs) (ht : Tr w t v ys) (hn : n ≤ t) : Kp (Fro n) w w' :=
  h.kp.mono fun b _ hb => by have := ht.own b hb; unfold Fro; omega
theorem Cp.fro {w w' : World} {v : Value} {xs : List (Int × Int)} (h : Cp w w' v xs) (n : Nat) : Kp (Fro n) w w' := h.kp.mono fun _ _ h => h.elim
theorem Ev.laid {w : World} {ys : List (Int × Int)} {C : Array Value} {t : TypeId} {f : Nat × Nat} {n : Nat} (hn : n = w.heap.size) (hC : C = (evc ys).toArray) : Ev (w.alloc (.cells C t f)) (some ⟨n, 0, none⟩) ys := by
  subst hn hC
  refine Or.inr ⟨_, 0, rfl, by simp, fun i k a hx => ?_⟩
  have h := evc_at ys i k a hx
  have e := heap_alloc_new w (.cells (evc ys).toArray t f)
  rw [cell_of_row _ _ _ _ _ _ e, cell_of_row _ _ _ _ _ _ e, Nat.zero_add]
  simpa using h
theorem Ev.alloc {w : World} {p : Option Addr} {xs : List (Int × Int)} (h : Ev w p xs) (o : Obj) : Ev (w.alloc o) p xs := h.kept ((Kp.refl (fun _ => False) w).alloc o) fun _ _ h => h
theorem Tr.drewN {w : World} {t : Nat} {v : Value} {xs : List (Int × Int)} (h : Tr w t v xs) (n : Nat) : Tr (w.drewN n) t v xs := h.kept ((Kp.refl (fun _ => False) w).drewN n) fun _ _ h => h
set_option maxRecDepth 100000 in
set_option maxHeartbeats 1600000 in
theorem awake3_any (w : World) : Calls Try.prog 18 #[] w fun e w' => e = .returned (.bool true) ∧ Kp (Fro w.heap.size) w w' := by
  go_enter Try.func18, Try.ntmps18
  go_wp2_with (first
    | (go_at_call 7; refine (new_any _).mono ?_; rintro e w0 ⟨rfl, hw0⟩; have t0 : Tr w0 w.heap.size _ [] := hw0 ▸ Tr.new w; have k0 : Kp (Fro w.heap.size) w w0 := hw0 ▸ (Kp.refl _ _).alloc _; clear hw0)
    | (go_at_call 10; refine (Branch_tr _ _ _ _ _ t0 ?_).mono ?_; decide; rintro e w1 ⟨rfl, v1, r1⟩; have k1 := k0.trans (r1.fro t0 (Nat.le_refl _)); have t1 := r1.tr; clear r1 t0 k0)
    | (go_at_call 8; refine (Index_tr _ _ _ _ _ t1 ?_).mono ?_; decide; rintro e w2 ⟨rfl, v2, r2⟩; have k2 := k1.trans (r2.fro t1 (Nat.le_refl _)); have t2 : Tr w2 w.heap.size v2 [(1, 1), (2, 5)] := r2.tr; clear r2 t1 k1)
    | (go_at_call 9; refine (numE_any _ _).mono ?_; rintro e w' ⟨rfl, rfl⟩)
    | (go_at_call 13; refine (Len_tr _ _ _ _ t2).mono ?_; rintro e w' ⟨rfl, rfl⟩)
    | (go_at_call 11; refine (Events_tr _ _ _ _ t2 ?_).mono ?_; decide; rintro e w3 ⟨v, rfl, hc⟩; have k3 := k2.trans (hc.fro _); have e3 := Ev.of_owns hc.row; obtain ⟨p, c, rfl, _, _, _⟩ := owns_parts hc.row; clear hc t2 k2)
    | (go_at_call 12; refine (sameev_any _ _ _ [(1, 1), (2, 5)] [(1, 1), (2, 5)] _ _ ?_ ?_ ?_ ?_).mono ?_; exact e3.alloc _; exact Ev.laid rfl rfl; decide; decide; rintro e w4 ⟨rfl, d4, rfl⟩)
    | (go_at_call 16; refine (same_ev _ _ _ [] [] _ _ ?_ ?_ ?_ ?_).mono ?_; exact Ev.nil _ _; exact Ev.nil _ _; decide; decide; rintro e w5 ⟨rfl, d5, rfl⟩))
  go_ret
  exact ⟨rfl, ((k3.alloc _).drewN _)⟩
end Go.Proofs.Ytbiobhjafmmdhaa
