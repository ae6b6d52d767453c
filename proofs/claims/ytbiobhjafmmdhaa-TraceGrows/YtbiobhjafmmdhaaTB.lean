/-
  A recorder's Index and Branch, on a recorder and on none.
-/
import Derived.Test.YtbiobhjafmmdhaaTA
namespace Go.Proofs.Ytbiobhjafmmdhaa
open Go.RowKit

theorem Rec.pre {u w w' : World} {t : Nat} {v v' : Value} {xs : List (Int × Int)} (g : Gr u w) (h : Rec w w' t v v' xs) : Rec u w' t v v' xs := by
  refine ⟨h.tr, (Kp.gr g (Own t v)).trans h.kp, ?_⟩
  have := (Kp.gr g (Own t v)).size
  rcases h.at' with e | ⟨b, e, hb⟩
  · exact Or.inl e
  · exact Or.inr ⟨b, e, by omega⟩
set_option maxRecDepth 100000 in
set_option maxHeartbeats 400000 in
theorem index_tr (w : World) (t : Nat) (v : Value) (xs : List (Int × Int)) (i : Int) (h : Tr w t v xs) (hn : xs.length ≤ 1000000) :
    Calls Try.prog 19 #[.func (.func 20) #[.pointer (some ⟨t, 0, none⟩)] #[], .int .i64 i] w fun e w' => e = .returned (.int .i64 0) ∧ ∃ v', Rec w w' t v v' (xs ++ [(2, i)]) := by
  have H : Hid (Unit → Calls Try.prog 20 #[.pointer (some ⟨t, 0, none⟩), .agg #[.int .i64 2, .int .i64 i]] w fun e w' => e = .returned (.int .i64 0) ∧ ∃ v', Rec w w' t v v' (xs ++ [(2, i)])) := fun _ => add_tr w t v xs 2 i h hn
  clear h hn
  go_enter Try.func19, Try.ntmps19
  go_wp2_with (go_at_call 20; refine (H.out ()).mono ?_; rintro e w' ⟨rfl, v', hr⟩)
  go_ret
  exact ⟨rfl, v', hr⟩
set_option maxRecDepth 100000 in
set_option maxHeartbeats 400000 in
theorem index_nil (w : World) (i : Int) :
    Calls Try.prog 19 #[.func (.func 20) #[.pointer none] #[], .int .i64 i] w fun e w' => e = .returned (.int .i64 1) ∧ Gr w w' := by
  go_enter Try.func19, Try.ntmps19
  go_wp2_with (go_at_call 20; refine (add_nil _ _ _).mono ?_; rintro e w' ⟨rfl, g, rfl⟩)
  go_ret
  exact ⟨rfl, (by repeat (first | exact Gr.refl _ | apply Gr.drewN | apply Gr.drew | apply Gr.alloc | apply Gr.gro))⟩
set_option maxRecDepth 100000 in
set_option maxHeartbeats 400000 in
theorem Index_tr (w : World) (t : Nat) (v : Value) (xs : List (Int × Int)) (i : Int) (h : Tr w t v xs) (hn : xs.length ≤ 1000000) :
    Calls Try.prog 8 #[.pointer (some ⟨t, 0, none⟩), .int .i64 i] w fun e w' => e = .returned (.int .i64 0) ∧ ∃ v', Rec w w' t v v' (xs ++ [(2, i)]) := by
  have H : Hid (Unit → Calls Try.prog 19 #[.func (.func 20) #[.pointer (some ⟨t, 0, none⟩)] #[], .int .i64 i] w fun e w' => e = .returned (.int .i64 0) ∧ ∃ v', Rec w w' t v v' (xs ++ [(2, i)])) := fun _ => index_tr w t v xs i h hn
  clear h hn
  go_enter Try.func8, Try.ntmps8
  go_wp2_with (go_at_call 19; refine (H.out ()).mono ?_; rintro e w' ⟨rfl, v', hr⟩)
  go_ret
  exact ⟨rfl, v', hr⟩
set_option maxRecDepth 100000 in
set_option maxHeartbeats 400000 in
theorem Index_nil (w : World) (i : Int) :
    Calls Try.prog 8 #[.pointer none, .int .i64 i] w fun e w' => e = .returned (.int .i64 1) ∧ Gr w w' := by
  go_enter Try.func8, Try.ntmps8
  go_wp2_with (go_at_call 19; refine (index_nil _ _).mono ?_; rintro e w' ⟨rfl, g, rfl⟩)
  go_ret
  exact ⟨rfl, (by repeat (first | exact Gr.refl _ | apply Gr.drewN | apply Gr.drew | apply Gr.alloc | apply Gr.gro))⟩
/-- What a branch's event says. -/
def tk (b : Bool) : Int := if b then 1 else 0
set_option maxRecDepth 100000 in
set_option maxHeartbeats 400000 in
theorem branch_tr (w : World) (t : Nat) (v : Value) (xs : List (Int × Int)) (b : Bool) (h : Tr w t v xs) (hn : xs.length ≤ 1000000) :
    Calls Try.prog 21 #[.func (.func 20) #[.pointer (some ⟨t, 0, none⟩)] #[], .bool b] w fun e w' => e = .returned (.int .i64 0) ∧ ∃ v', Rec w w' t v v' (xs ++ [(1, tk b)]) := by
  have H : Hid (∀ w1, Gr w w1 → Calls Try.prog 20 #[.pointer (some ⟨t, 0, none⟩), .agg #[.int .i64 1, .int .i64 (tk b)]] w1 fun e w' => e = .returned (.int .i64 0) ∧ ∃ v', Rec w w' t v v' (xs ++ [(1, tk b)])) := fun w1 g => by
    refine (add_tr w1 t v xs 1 (tk b) (h.kept (Kp.gr g (fun _ => False)) fun _ _ h => h) hn).mono ?_
    rintro e w' ⟨rfl, v', hr⟩
    exact ⟨rfl, v', hr.pre g⟩
  clear h hn
  cases b
  · simp only [tk, Bool.false_eq_true, if_false] at H ⊢
    go_enter Try.func21, Try.ntmps21
    go_wp2_with (go_at_call 20; refine (H.out _ ?_).mono ?_; exact (by repeat (first | exact Gr.refl _ | apply Gr.drewN | apply Gr.drew | apply Gr.alloc | apply Gr.gro)); rintro e w' ⟨rfl, v', hr⟩)
    go_ret
    exact ⟨rfl, v', hr⟩
  · simp only [tk, if_true] at H ⊢
    go_enter Try.func21, Try.ntmps21
    go_wp2_with (go_at_call 20; refine (H.out _ ?_).mono ?_; exact (by repeat (first | exact Gr.refl _ | apply Gr.drewN | apply Gr.drew | apply Gr.alloc | apply Gr.gro)); rintro e w' ⟨rfl, v', hr⟩)
    go_ret
    exact ⟨rfl, v', hr⟩
set_option maxRecDepth 100000 in
set_option maxHeartbeats 400000 in
theorem branch_nil (w : World) (b : Bool) :
    Calls Try.prog 21 #[.func (.func 20) #[.pointer none] #[], .bool b] w fun e w' => e = .returned (.int .i64 1) ∧ Gr w w' := by
  cases b
  all_goals
    go_enter Try.func21, Try.ntmps21
    go_wp2_with (go_at_call 20; refine (add_nil _ _ _).mono ?_; rintro e w' ⟨rfl, g, rfl⟩)
    go_ret
    exact ⟨rfl, (by repeat (first | exact Gr.refl _ | apply Gr.drewN | apply Gr.drew | apply Gr.alloc | apply Gr.gro))⟩
set_option maxRecDepth 100000 in
set_option maxHeartbeats 400000 in
theorem Branch_tr (w : World) (t : Nat) (v : Value) (xs : List (Int × Int)) (b : Bool) (h : Tr w t v xs) (hn : xs.length ≤ 1000000) :
    Calls Try.prog 10 #[.pointer (some ⟨t, 0, none⟩), .bool b] w fun e w' => e = .returned (.int .i64 0) ∧ ∃ v', Rec w w' t v v' (xs ++ [(1, tk b)]) := by
  have H : Hid (Unit → Calls Try.prog 21 #[.func (.func 20) #[.pointer (some ⟨t, 0, none⟩)] #[], .bool b] w fun e w' => e = .returned (.int .i64 0) ∧ ∃ v', Rec w w' t v v' (xs ++ [(1, tk b)])) := fun _ => branch_tr w t v xs b h hn
  clear h hn
  go_enter Try.func10, Try.ntmps10
  go_wp2_with (go_at_call 21; refine (H.out ()).mono ?_; rintro e w' ⟨rfl, v', hr⟩)
  go_ret
  exact ⟨rfl, v', hr⟩
set_option maxRecDepth 100000 in
set_option maxHeartbeats 400000 in
theorem Branch_nil (w : World) (b : Bool) :
    Calls Try.prog 10 #[.pointer none, .bool b] w fun e w' => e = .returned (.int .i64 1) ∧ Gr w w' := by
  go_enter Try.func10, Try.ntmps10
  go_wp2_with (go_at_call 21; refine (branch_nil _ _).mono ?_; rintro e w' ⟨rfl, g, rfl⟩)
  go_ret
  exact ⟨rfl, (by repeat (first | exact Gr.refl _ | apply Gr.drewN | apply Gr.drew | apply Gr.alloc | apply Gr.gro))⟩
end Go.Proofs.Ytbiobhjafmmdhaa
