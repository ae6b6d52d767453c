/-
  The statement TraceGrows, walked: it answers true for every row of events and every int.
-/
import Derived.Test.YtbiobhjafmmdhaaTAw
import Derived.Deep.QuietTactic
import Derived.BigQuiet
namespace Go.Proofs.Ytbiobhjafmmdhaa
open Go.RowKit
/-- Events, of a recorder of L events. -/
theorem ev_len (W : World) (t : Nat) (v : Value) (xs : List (Int × Int)) (L : Nat) (h : Tr W t v xs) (hL : xs.length = L) (hn : L ≤ 1000000) :
    Calls Try.prog 11 #[.pointer (some ⟨t, 0, none⟩)] W fun e w' => ∃ p c, e = .returned (.slice p L c) ∧ (L : Int) ≤ (c : Int) ∧ Ev w' p xs ∧ Kp (fun _ => False) W w' ∧ ∀ b, At p b → W.heap.size ≤ b := by
  refine (Events_tr W t v xs h (by omega)).mono ?_
  rintro e w' ⟨v, rfl, hc⟩
  have e := Ev.of_owns hc.row
  have hlt := hc.row.lt
  obtain ⟨p, c, rfl, h1, _, _⟩ := owns_parts hc.row
  exact ⟨p, c, by rw [hL], by omega, e, hc.kp, fun b hb => (hlt b (At.own hb)).1⟩
theorem same_len (W : World) (p q : Option Addr) (xs ys : List (Int × Int)) (n m L K : Nat) (b : Bool) (hp : Ev W p xs) (hq : Ev W q ys) (hL : xs.length = L) (hK : ys.length = K) (hl : L ≤ 1000000) (hk : K ≤ 1000000) (hb : decide (xs = ys) = b) :
    Calls Try.prog 16 #[.slice p L n, .slice q K m] W fun e w' => e = .returned (.bool b) ∧ ∃ k, w' = W.drewN k := by
  subst hL hK hb
  exact same_ev W p q xs ys n m hp hq (by omega) (by omega)
theorem len_len (W : World) (t : Nat) (v : Value) (xs : List (Int × Int)) (L : Nat) (h : Tr W t v xs) (hL : xs.length = L) :
    Calls Try.prog 13 #[.pointer (some ⟨t, 0, none⟩)] W fun e w' => e = .returned (.int .i64 (L : Int)) ∧ w' = W := by
  subst hL
  exact (Len_tr W t v xs h).mono fun _ _ ⟨h1, h2⟩ => ⟨h1, h2.symm⟩
/-- A cell of the argument's. -/
theorem at_cell {w w' : World} {N b o : Nat} {x : Value} (k : Kp (Fro N) w w') (hb : b < w.heap.size) (hN : w.heap.size = N) (h : w.cell? ⟨b, o, none⟩ = some x) : w'.cell? ⟨b, o, none⟩ = some x := by
  rw [k.cell b o hb (fun h => by unfold Fro at h; omega)]
  exact h
structure Gw (w wr : World) (ta tb k : Nat) (xs : List (Int × Int)) (v : Value) : Prop where
  ta' : Tr wr ta v xs
  tb' : Tr wr tb (.slice none 0 0) []
  ne : ta ≠ tb ∧ ∀ g, v.ownBlock = some g → g ≠ tb
  len : xs.length = k
  na : w.heap.size ≤ ta ∧ w.heap.size ≤ tb
  kp : Kp (Fro w.heap.size) w wr
theorem Gw.next {w wr w1 w2 w3 : World} {ta tb k : Nat} {xs : List (Int × Int)} {v v' : Value} {x : Int × Int} (h : Gw w wr ta tb k xs v) (k1 : Kp (fun _ => False) wr w1) (r : Rec w1 w2 ta v v' (xs ++ [x])) (k3 : Kp (fun _ => False) w2 w3) (n : Nat) : Gw w (w3.drewN n) ta tb (k + 1) (xs ++ [x]) v' := by
  have t1 : Tr w1 ta v xs := h.ta'.kept k1 fun _ _ h => h
  have k2 : Kp (Fro w.heap.size) w w2 := (h.kp.trans (k1.mono fun _ _ h => h.elim)).trans (r.fro t1 h.na.1)
  refine ⟨(r.tr.kept k3 fun _ _ h => h).drewN n, ?_, ⟨h.ne.1, fun g hg => ?_⟩, by simp [h.len], h.na, (k2.trans (k3.mono fun _ _ h => h.elim)).drewN n⟩
  · refine (((h.tb'.kept k1 fun _ _ h => h).kept r.kp fun b hb hb2 => ?_).kept k3 fun _ _ h => h).drewN n
    rcases hb with rfl | hb
    · rcases hb2 with e | e
      · exact h.ne.1 e.symm
      · exact h.ne.2 _ e rfl
    · cases hb
  · rcases r.at' with e | ⟨g', e, hg'⟩
    · exact h.ne.2 g (e ▸ hg)
    · rw [e] at hg
      cases hg
      have := (h.tb'.kept k1 fun _ _ h => h).lt
      omega
set_option maxRecDepth 100000 in
set_option maxHeartbeats 1600000 in
theorem tgrows_any (w : World) (p : Option Addr) (es : List (Int × Int)) (c : Nat) (i : Int) (he : Ev w p es) (hn : es.length * 16 ≤ 140737488351232) :
    Calls Try.prog 5 #[.slice p es.length c, .int .i64 i] w fun e w' => e = .returned (.bool true) ∧ Below w.heap.size w w' := by
  have HE : Hid (Ev w p es) := he
  obtain ⟨N, hN⟩ : ∃ N, es.length = N := ⟨_, rfl⟩
  rw [hN] at hn ⊢
  have HN : Hid (es.length = N) := hN
  have N0 : (N : Int) ≤ 8796093022208 := by omega
  clear he hN
  go_enter Try.func5, Try.ntmps5
  go_wp2_with (first
    | (go_at_call 18; refine (awake3_any _).mono ?_; rintro e wa ⟨rfl, ka⟩; have sa := ka.size)
    | (go_at_call 7; refine (new_any _).mono ?_; rintro e w' ⟨rfl, rfl⟩))
  have HA : Hid (Kp (Fro w.heap.size) w wa) := ka
  have g0 : Gw w ((wa.alloc (.cells #[.slice none 0 0] 41)).alloc (.cells #[.slice none 0 0] 41)) wa.heap.size (wa.heap.size + 1) 0 [] (.slice none 0 0) :=
    ⟨(Tr.new wa).kept ((Kp.refl (fun _ => False) _).alloc _) fun _ _ h => h, by have := Tr.new (wa.alloc (.cells #[.slice none 0 0] 41)); simpa using this, ⟨by omega, fun g h => by cases h⟩, rfl, ⟨sa, by omega⟩, (ka.alloc _).alloc _⟩
  go_loopw [7] (fun i wr => ∃ k xs v, i = .int .i64 (k : Nat) ∧ k ≤ N ∧ k ≤ 60 ∧ Hid (Gw w wr wa.heap.size (wa.heap.size + 1) k xs v)) (fun i _ => 60 - (intOf i).toNat)
  case atStart => exact ⟨0, [], .slice none 0 0, rfl, by omega, by omega, g0⟩
  case round =>
    obtain ⟨k, xs, v, rfl, hk, hk6, HG⟩ := hrel
    clear g0 ka
    by_cases hlt : k < N ∧ k < 60
    · obtain ⟨h1, h2⟩ := hlt
      have i0 : (0 : Int) ≤ (k : Int) := by omega
      have i1 : (k : Int) < (N : Int) := by omega
      have i2 : (k : Int) < 60 := by omega
      have hx1 : k < es.length := by rw [HN.out]; exact h1
      obtain ⟨⟨a1, a2⟩, ha⟩ : ∃ a, es[k] = a := ⟨_, rfl⟩
      have ha' : es[k]? = some (a1, a2) := by rw [List.getElem?_eq_getElem hx1, ha]
      obtain ⟨b, o, rfl, hb0, hc⟩ : ∃ b o, p = some ⟨b, o, none⟩ ∧ b < w.heap.size ∧ ∀ i k a, es[i]? = some (k, a) → w.cell? ⟨b, o + i * 2, none⟩ = some (.int .i64 k) ∧ w.cell? ⟨b, o + i * 2 + 1, none⟩ = some (.int .i64 a) := by
        rcases HE.out with h | h
        · rw [h] at hx1; simp at hx1
        · exact h
      have HC : Hid (∀ wx, Kp (Fro w.heap.size) w wx → wx.cell? ⟨b, o + k * 2 + 1, none⟩ = some (.int .i64 a2)) := fun wx kx => at_cell kx hb0 rfl (hc k a1 a2 ha').2
      clear hc ha ha' hx1
      go_wp2_with (first
        | (go_at_call 8; refine (Index_tr _ _ _ xs _ t1 ?_).mono ?_; (rw [HG.out.len]; omega); rintro e w2 ⟨rfl, v2, r2⟩; have t2 := r2.tr; have kk2 := kk1.trans (r2.fro t1 HG.out.na.1))
        | (go_at_call 11; refine (ev_len wr _ _ _ k HG.out.ta' HG.out.len (by omega)).mono ?_; rintro e w1 ⟨po, co, rfl, hco, eo, k1, ho⟩; have t1 := HG.out.ta'.kept k1 fun _ _ h => h; have kk1 := HG.out.kp.trans (k1.mono fun _ _ h => h.elim); have c1 := HC.out _ kk1)
        | (go_at_call 11; refine (ev_len _ _ _ (xs ++ [(2, a2)]) (k + 1) t2 ?_ ?_).mono ?_; (rw [List.length_append, HG.out.len]; rfl); omega; rintro e w3 ⟨pn, cn, rfl, hcn, en, k3, hno⟩; clear c1))
      have kk3 := kk2.trans (k3.mono fun _ _ h => h.elim)
      have c3 := HC.out _ kk3
      have eo3 : Hid (Ev w3 po xs) := (eo.kept r2.kp fun b hb h => by have := ho b hb; have := (HG.out.ta'.own b h).2; omega).kept k3 fun _ _ h => h
      have en3 : Hid (Ev w3 pn xs) := by have := en.take xs.length; rwa [List.take_left'] at this; rfl
      have t3 : Hid (Tr w3 wa.heap.size v2 (xs ++ [(2, a2)])) := t2.kept k3 fun _ _ h => h
      have hi : (xs ++ [(2, a2)])[k]? = some (2, a2) := by rw [List.getElem?_append_right (by rw [HG.out.len]; omega), HG.out.len, Nat.sub_self]; rfl
      obtain ⟨bn, on, rfl, hbn, hcc⟩ : ∃ b o, pn = some ⟨b, o, none⟩ ∧ b < w3.heap.size ∧ ∀ i k a, (xs ++ [(2, a2)])[i]? = some (k, a) → w3.cell? ⟨b, o + i * 2, none⟩ = some (.int .i64 k) ∧ w3.cell? ⟨b, o + i * 2 + 1, none⟩ = some (.int .i64 a) := by
        rcases en with h | h
        · simp at h
        · exact h
      have d1 := (hcc k _ _ hi).1
      have d2 := (hcc k _ _ hi).2
      have K1 : Hid (Kp (fun _ => False) wr w1) := k1
      have K3 : Hid (Kp (fun _ => False) w2 w3) := k3
      have R2 : Hid (Rec w1 w2 wa.heap.size v v2 (xs ++ [(2, a2)])) := r2
      have i3 : (k : Int) ≤ (cn : Int) := by omega
      have L1 : Hid (xs.length = k) := HG.out.len
      have L2 : Hid ((xs ++ [(2, a2)]).length = k + 1) := by show List.length _ = _; rw [List.length_append, L1.out]; rfl
      clear en eo k1 k3 r2 t1 t2 kk1 kk2 kk3 hi hcc ho hno hbn
      go_quiet ((first | (go_at_call 16; refine Calls.quiet_of (same_len _ _ _ xs xs _ _ k k true ?_ ?_ L1.out L1.out ?_ ?_ ?_); exact en3.out; exact eo3.out; omega; omega; exact decide_eq_true rfl) | (go_at_call 13; exact Calls.quiet_of_same (len_len _ _ _ _ (k + 1) (t3.out.drewN _) L2.out))))
      go_wp2
      go_roundw
      case rel => exact ⟨k + 1, xs ++ [(2, a2)], v2, by go_num, by omega, by omega, HG.out.next K1.out R2.out K3.out _⟩
      case measure => simp [intOf]; omega
    · have hz : (k : Int) < (N : Int) ∧ ¬ (k : Int) < 60 ∨ ¬ (k : Int) < (N : Int) := by omega
      clear HE HN hlt hk hk6
      rcases hz with ⟨z1, z2⟩ | z1
      all_goals
        go_wp2_with (first
          | (go_at_call 10; refine (Branch_tr _ _ _ _ _ HG.out.tb' ?_).mono ?_; decide; rintro e w2 ⟨rfl, v2, r2⟩; have t2 := r2.tr; have kk2 := HG.out.kp.trans (r2.fro HG.out.tb' HG.out.na.2))
          | (go_at_call 9; refine (numE_any _ _).mono ?_; rintro e w' ⟨rfl, rfl⟩)
          | (go_at_call 13; refine (len_len _ _ _ _ 1 t2 ?_).mono ?_; rfl; rintro e w' ⟨rfl, rfl⟩)
          | (go_at_call 11; refine (ev_len _ _ _ _ 1 t2 ?_ ?_).mono ?_; rfl; decide; rintro e w3 ⟨pn, cn, rfl, hcn, en, k3, hno⟩; have kk3 := kk2.trans (k3.mono fun _ _ h => h.elim))
          | (go_at_call 16; refine (same_len _ _ _ _ [] _ _ 1 0 false en (Ev.nil _ _) ?_ ?_ ?_ ?_ ?_).mono ?_; rfl; rfl; decide; decide; simp; rintro e w' ⟨rfl, d7, rfl⟩))
        go_ret
        exact ⟨rfl, (kk3.drewN _).below _ (Nat.le_refl _) fun _ h => h⟩
end Go.Proofs.Ytbiobhjafmmdhaa
