/-
  The statement TraceKinds, walked: it answers true for every int and every bool.
-/
import Derived.Test.YtbiobhjafmmdhaaTAw
namespace Go.Proofs.Ytbiobhjafmmdhaa
open Go.RowKit
/-- Another row than xs, of L events. -/
def Oth (W : World) (q : Option Addr) (xs : List (Int × Int)) (L : Nat) : Prop := ∃ zs : List (Int × Int), zs.length = L ∧ Ev W q zs ∧ L ≤ 4611686018427387904 ∧ decide (xs = zs) = false
set_option maxRecDepth 100000 in
set_option maxHeartbeats 400000 in
theorem tkinds_any (i : Int) (b : Bool) (w : World) : Calls Try.prog 6 #[.int .i64 i, .bool b] w fun e w' => e = .returned (.bool true) ∧ Below w.heap.size w w' := by
  obtain ⟨xs, hx⟩ : ∃ xs : List (Int × Int), [(2, i), (1, tk b)] = xs := ⟨_, rfl⟩
  obtain ⟨ys, hy⟩ : ∃ ys : List (Int × Int), [(1, tk b), (2, i)] = ys := ⟨_, rfl⟩
  have HX : Hid (Unit → [(2, i), (1, tk b)] = xs) := fun _ => hx
  have HY : Hid (Unit → [(1, tk b), (2, i)] = ys) := fun _ => hy
  have HL : Hid (xs.length = 2 ∧ ys.length = 2) := by constructor <;> simp [← hx, ← hy]
  have HN : Hid (decide (xs = ys) = false) := by show decide _ = false; rw [← hx, ← hy]; simp
  have HM : Hid (decide (xs = xs.take 1) = false) := by show decide _ = false; rw [← hx]; simp
  have HT : Hid ((xs.take 1).length = 1) := by show List.length _ = 1; rw [← hx]; rfl
  have H1 : Hid (∀ W p q n m, Ev W p xs → Ev W q xs → Calls Try.prog 12 #[.slice p 2 n, .slice q 2 m] W fun e w' => e = .returned (.bool true) ∧ ∃ k, w' = W.drewN k) := fun W p q n m h1 h2 => by
    have := sameev_any W p q xs xs n m h1 h2 (by rw [HL.out.1]; decide) (by rw [HL.out.1]; decide)
    rwa [HL.out.1, decide_eq_true rfl] at this
  have H2 : Hid (∀ W p q n m, Ev W p xs → Ev W q xs → Calls Try.prog 16 #[.slice p 2 n, .slice q 2 m] W fun e w' => e = .returned (.bool true) ∧ ∃ k, w' = W.drewN k) := fun W p q n m h1 h2 => by
    have := same_ev W p q xs xs n m h1 h2 (by rw [HL.out.1]; decide) (by rw [HL.out.1]; decide)
    rwa [HL.out.1, decide_eq_true rfl] at this
  have H3 : Hid (∀ W p q L n m, Ev W p xs → Oth W q xs L → Calls Try.prog 16 #[.slice p 2 n, .slice q L m] W fun e w' => e = .returned (.bool false) ∧ ∃ k, w' = W.drewN k) := fun W p q L n m h1 h2 => by
    obtain ⟨zs, hz, he, hs, hn⟩ := h2
    have := same_ev W p q xs zs n m h1 he (by rw [HL.out.1]; decide) (by rw [hz]; exact hs)
    rwa [HL.out.1, hz, hn] at this
  have H5 : Hid (∀ W t v, Tr W t v xs → Calls Try.prog 11 #[.pointer (some ⟨t, 0, none⟩)] W fun e w' => ∃ p c, e = .returned (.slice p 2 c) ∧ Ev w' p xs ∧ Kp (fun _ => False) W w') := fun W t v h => by
    refine (Events_tr W t v xs h (by rw [HL.out.1]; decide)).mono ?_
    rintro e w' ⟨v, rfl, hc⟩
    have e := Ev.of_owns hc.row
    obtain ⟨p, c, rfl, _, _, _⟩ := owns_parts hc.row
    exact ⟨p, c, by rw [HL.out.1], e, hc.kp⟩
  have H6 : Hid (∀ W t v, Tr W t v ([] ++ [(2, i)]) → Calls Try.prog 10 #[.pointer (some ⟨t, 0, none⟩), .bool b] W fun e w' => e = .returned (.int .i64 0) ∧ ∃ v', Rec W w' t v v' xs) := fun W t v h => by
    have := Branch_tr W t v _ b h (by simp)
    rwa [show [] ++ [(2, i)] ++ [(1, tk b)] = xs from hx] at this
  clear hx hy
  cases b
  all_goals
    go_enter Try.func6, Try.ntmps6
    go_wp2_with (first
      | (go_at_call 18; refine (awake3_any _).mono ?_; rintro e wa ⟨rfl, ka⟩; have sa := ka.size)
      | (go_at_call 7; refine (new_any _).mono ?_; rintro e w0 ⟨rfl, hw0⟩; have t0 : Tr w0 wa.heap.size _ [] := hw0 ▸ Tr.new wa; have k0 : Kp (Fro w.heap.size) w w0 := hw0 ▸ ka.alloc _; clear hw0)
      | (go_at_call 8; refine (Index_tr _ _ _ _ _ t0 ?_).mono ?_; decide; rintro e w1 ⟨rfl, v1, r1⟩; have k1 := k0.trans (r1.fro t0 sa); have t1 := r1.tr; clear r1 t0 k0)
      | (go_at_call 10; refine (H6.out _ _ _ t1).mono ?_; rintro e w2 ⟨rfl, v2, r2⟩; have k2 := k1.trans (r2.fro t1 sa); have t2 := r2.tr; clear r2 t1 k1)
      | (go_at_call 9; refine (numE_any _ _).mono ?_; rintro e w' ⟨rfl, rfl⟩)
      | (go_at_call 11; refine (H5.out _ _ v2 ?_).mono ?_; exact t2.kept (((Kp.refl (fun _ => False) _).alloc _).alloc _) fun _ _ h => h; rintro e w3 ⟨p3, c3, rfl, e3, k3⟩; have t3 := (t2.kept (((Kp.refl (fun _ => False) _).alloc _).alloc _) fun _ _ h => h).kept k3 fun _ _ h => h; have ex : Ev w3 (some ⟨w2.heap.size, 0, none⟩) xs := ((Ev.laid rfl (by rw [← HX.out ()]; rfl)).alloc _).kept k3 fun _ _ h => h; have ey : Ev w3 (some ⟨w2.heap.size + 1, 0, none⟩) ys := (Ev.laid (by simp) (by rw [← HY.out ()]; rfl)).kept k3 fun _ _ h => h; have kA := (((k2.alloc _).alloc _).trans (k3.mono fun _ _ h => h.elim)))
      | (go_at_call 12; refine (H1.out _ _ _ _ _ e3 ex).mono ?_; rintro e w4 ⟨rfl, d4, rfl⟩)
      | (go_at_call 11; refine (H5.out _ _ v2 (t3.drewN _)).mono ?_; rintro e w5 ⟨p5, c5, rfl, e5, k5⟩; have fx : Ev w5 (some ⟨w2.heap.size, 0, none⟩) xs := (ex.drewN _).kept k5 fun _ _ h => h; have fy : Ev w5 (some ⟨w2.heap.size + 1, 0, none⟩) ys := (ey.drewN _).kept k5 fun _ _ h => h; have kB := (kA.drewN _).trans (k5.mono fun _ _ h => h.elim))
      | (go_at_call_of 16 (Value.slice p5 2 c5); refine (H2.out _ _ _ _ _ fx e5).mono ?_; rintro e w' ⟨rfl, d6, rfl⟩)
      | (go_at_call 16; refine (H3.out _ _ _ _ _ _ (fx.drewN _) ?_).mono ?_; (first | exact ⟨ys, HL.out.2, fy.drewN _, by decide, HN.out⟩ | exact ⟨xs.take 1, HT.out, (fx.drewN _).take 1, by decide, HM.out⟩); rintro e w' ⟨rfl, d7, rfl⟩))
    go_ret
    exact ⟨rfl, (kB.drewN _).below _ (Nat.le_refl _) fun _ h => h⟩
end Go.Proofs.Ytbiobhjafmmdhaa
