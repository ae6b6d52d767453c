/-
  The statement TraceNil, walked: it answers true for every int.
-/
import Derived.Test.YtbiobhjafmmdhaaTAw
namespace Go.Proofs.Ytbiobhjafmmdhaa
open Go.RowKit
set_option maxRecDepth 100000 in
set_option maxHeartbeats 1600000 in
theorem tnil_any (i : Int) (w : World) : Calls Try.prog 4 #[.int .i64 i] w fun e w' => e = .returned (.bool true) ∧ Below w.heap.size w w' := by
  go_enter Try.func4, Try.ntmps4
  go_wp2_with (first
    | (go_at_call 18; refine (awake3_any _).mono ?_; rintro e w0 ⟨rfl, k0⟩)
    | (go_at_call 10; refine (Branch_nil _ _).mono ?_; rintro e w1 ⟨rfl, g1⟩)
    | (go_at_call 8; refine (Index_nil _ _).mono ?_; rintro e w2 ⟨rfl, g2⟩)
    | (go_at_call 9; refine (numE_any _ _).mono ?_; rintro e w' ⟨rfl, rfl⟩)
    | (go_at_call 13; refine (Len_nil _).mono ?_; rintro e w' ⟨rfl, rfl⟩)
    | (go_at_call 11; refine (Events_nil _).mono ?_; rintro e w' ⟨rfl, rfl⟩))
  go_ret
  exact ⟨rfl, ((k0.trans (Kp.gr g1 _)).trans (Kp.gr g2 _)).below _ (Nat.le_refl _) fun _ h => h⟩
end Go.Proofs.Ytbiobhjafmmdhaa
