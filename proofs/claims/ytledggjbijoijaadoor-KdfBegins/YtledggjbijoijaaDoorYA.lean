/-
  hash's table of hashes: kindOf, kinds.
-/
import Derived.Test.YtledggjbijoijaaDoorHH
import Derived.Test.YtledggjbijoijaaDoorGH
namespace Go.Proofs.YtledggjbijoijaaDoor
open Go.RowKit
/-- v begins a stream of layer 7 whose digests have z bytes: a function value and what it holds. -/
def Cl7 (w : World) (z : Int) (v : Value) : Prop :=
  ∃ p q r s, v = .func (.func 49) #[] #[.pointer (some ⟨p, 0, none⟩), .pointer (some ⟨q, 0, none⟩), .pointer (some ⟨r, 0, none⟩), .pointer (some ⟨s, 0, none⟩)] ∧ Bk w p #[.func (.func 42) #[] #[]] 86 ∧ Bk w q #[.int .i64 z] 3 ∧ Bk w r #[.func (.func 43) #[] #[]] 87 ∧ Bk w s #[.func (.func 44) #[] #[]] 89
def Cl8 (w : World) (z : Int) (v : Value) : Prop :=
  ∃ p q r s, v = .func (.func 57) #[] #[.pointer (some ⟨p, 0, none⟩), .pointer (some ⟨q, 0, none⟩), .pointer (some ⟨r, 0, none⟩), .pointer (some ⟨s, 0, none⟩)] ∧ Bk w p #[.func (.func 46) #[] #[]] 97 ∧ Bk w q #[.int .i64 z] 3 ∧ Bk w r #[.func (.func 47) #[] #[]] 98 ∧ Bk w s #[.func (.func 48) #[] #[]] 100
theorem Cl7.sm {w w' : World} {z : Int} {v : Value} (h : Cl7 w z v) (k : Sm w w') : Cl7 w' z v := by
  obtain ⟨p, q, r, s, e, h1, h2, h3, h4⟩ := h
  exact ⟨p, q, r, s, e, h1.sm k, h2.sm k, h3.sm k, h4.sm k⟩
theorem Cl8.sm {w w' : World} {z : Int} {v : Value} (h : Cl8 w z v) (k : Sm w w') : Cl8 w' z v := by
  obtain ⟨p, q, r, s, e, h1, h2, h3, h4⟩ := h
  exact ⟨p, q, r, s, e, h1.sm k, h2.sm k, h3.sm k, h4.sm k⟩
theorem Cl7.one {w : World} {z : Int} {v : Value} (h : Cl7 w z v) : v.oneCell' = true := by
  obtain ⟨p, q, r, s, e, _⟩ := h
  subst e
  rfl
theorem Cl8.one {w : World} {z : Int} {v : Value} (h : Cl8 w z v) : v.oneCell' = true := by
  obtain ⟨p, q, r, s, e, _⟩ := h
  subst e
  rfl
/-- A store over the newest block is the block laid so. -/
theorem setBlk_new (w : World) (c d : Array Value) (t : TypeId) : setBlk (w.alloc (.cells c t)) w.heap.size d = w.alloc (.cells d t) := by
  have e : (w.heap.push (.cells c t)).modify w.heap.size (fun | .cells _ e f => .cells d e f | o => o) = w.heap.push (.cells d t) := by
    apply Array.ext_getElem?
    intro i
    rw [Array.getElem?_modify, Array.getElem?_push, Array.getElem?_push]
    by_cases h : w.heap.size = i
    · subst h
      simp
    · rw [if_neg h, if_neg (Ne.symm h), if_neg (Ne.symm h)]
  show ({ w with heap := (w.heap.push (.cells c t)).modify w.heap.size (fun | .cells _ e f => .cells d e f | o => o) } : World) = { w with heap := w.heap.push (.cells d t) }
  rw [e]
theorem Bk.at {w : World} {c : Array Value} {t : TypeId} {b : Nat} (hb : b = w.heap.size) : Bk (w.alloc (.cells c t)) b c t := by
  subst hb
  exact Bk.new w c t
theorem Bk.ne {w : World} {a b : Nat} {c d : Array Value} {t u : TypeId} (h : Bk w a c t) (k : Bk w b d u) (hn : c.size ≠ d.size) : a ≠ b := fun e => by
  subst e
  have h : w.heap[a]? = some (.cells c t (0, 0)) := h
  have k : w.heap[a]? = some (.cells d u (0, 0)) := k
  rw [h] at k
  cases k
  exact hn rfl
theorem Cl7.put {w : World} {z : Int} {v : Value} {b : Nat} {c : Array Value} {t : TypeId} (h : Cl7 w z v) (k : Bk w b c t) (hn : 1 < c.size) (d : Array Value) : Cl7 (setBlk w b d) z v := by
  obtain ⟨p, q, r, s, e, h1, h2, h3, h4⟩ := h
  have hne : (1 : Nat) ≠ c.size := by omega
  exact ⟨p, q, r, s, e, h1.aside d (h1.ne k hne), h2.aside d (h2.ne k hne), h3.aside d (h3.ne k hne), h4.aside d (h4.ne k hne)⟩
theorem Cl8.put {w : World} {z : Int} {v : Value} {b : Nat} {c : Array Value} {t : TypeId} (h : Cl8 w z v) (k : Bk w b c t) (hn : 1 < c.size) (d : Array Value) : Cl8 (setBlk w b d) z v := by
  obtain ⟨p, q, r, s, e, h1, h2, h3, h4⟩ := h
  have hne : (1 : Nat) ≠ c.size := by omega
  exact ⟨p, q, r, s, e, h1.aside d (h1.ne k hne), h2.aside d (h2.ne k hne), h3.aside d (h3.ne k hne), h4.aside d (h4.ne k hne)⟩
theorem stK_is (p v : Value) : Instr.storeAt 50 p v = storeS 50 p v := rfl
theorem stKn (w : World) (b : Nat) (hb : b = w.heap.size) (z k : Int) (f : Fn) (c : Array Value) :
    (storeS 50 (.pointer (some ⟨b, 0, none⟩)) (.agg #[.int .i64 z, .int .i64 k, .func f #[] c])).run Tryd.prog (w.alloc (.cells #[.int .i64 0, .int .i64 0, .nilFunc] 50)) = .ok () (w.alloc (.cells #[.int .i64 z, .int .i64 k, .func f #[] c] 50)) := by
  subst hb
  rw [storeS_part 3 (by kernel_rfl) (Bk.new w _ _) rfl rfl (by decide) (by simp [Value.oneCell']), setBlk_new]
attribute [local go_sem ↓] stK_is
attribute [local go_sem] stKn
set_option maxRecDepth 100000 in
set_option maxHeartbeats 800000 in
theorem kof7_any (z k : Int) (w : World) :
    Calls Tryd.prog 41 #[.int .i64 z, .int .i64 k, .func (.func 42) #[] #[], .func (.func 43) #[] #[], .func (.func 44) #[] #[]] w fun e w' => ∃ c, e = .returned (.agg #[.int .i64 z, .int .i64 k, c]) ∧ Cl7 w' z c ∧ Sm w w' := by
  go_enter Tryd.func41, Tryd.ntmps41
  go_wp2
  refine bodyPost_ret (res_one Tryd.results41 (rd_row 3 Tryd.underlying50 rfl (by kernel_rfl) (by rfl) (Bk.at (by simp)) (by rfl))) rfl ⟨_, rfl, ⟨_, _, _, _, rfl, ?_, ?_, ?_, ?_⟩, Sm.of (((((((Kp.refl _ _).alloc _).alloc _).alloc _).alloc _).alloc _))⟩
  · exact ((((Bk.at (by simp)).alloc _).alloc _).alloc _)
  · exact (((((Bk.at (by simp)).alloc _).alloc _).alloc _).alloc _)
  · exact (((Bk.at (by simp)).alloc _).alloc _)
  · exact ((Bk.at (by simp)).alloc _)
set_option maxRecDepth 100000 in
set_option maxHeartbeats 800000 in
theorem kof8_any (z k : Int) (w : World) :
    Calls Tryd.prog 45 #[.int .i64 z, .int .i64 k, .func (.func 46) #[] #[], .func (.func 47) #[] #[], .func (.func 48) #[] #[]] w fun e w' => ∃ c, e = .returned (.agg #[.int .i64 z, .int .i64 k, c]) ∧ Cl8 w' z c ∧ Sm w w' := by
  go_enter Tryd.func45, Tryd.ntmps45
  go_wp2
  refine bodyPost_ret (res_one Tryd.results45 (rd_row 3 Tryd.underlying50 rfl (by kernel_rfl) (by rfl) (Bk.at (by simp)) (by rfl))) rfl ⟨_, rfl, ⟨_, _, _, _, rfl, ?_, ?_, ?_, ?_⟩, Sm.of (((((((Kp.refl _ _).alloc _).alloc _).alloc _).alloc _).alloc _))⟩
  · exact ((((Bk.at (by simp)).alloc _).alloc _).alloc _)
  · exact (((((Bk.at (by simp)).alloc _).alloc _).alloc _).alloc _)
  · exact (((Bk.at (by simp)).alloc _).alloc _)
  · exact ((Bk.at (by simp)).alloc _)
def z15 : Array Value := #[.int .i64 0, .int .i64 0, .nilFunc, .int .i64 0, .int .i64 0, .nilFunc, .int .i64 0, .int .i64 0, .nilFunc, .int .i64 0, .int .i64 0, .nilFunc, .int .i64 0, .int .i64 0, .nilFunc]
def k15 (a b c d : Value) : Array Value := #[.int .i64 0, .int .i64 0, .nilFunc, .int .i64 28, .int .i64 64, a, .int .i64 32, .int .i64 64, b, .int .i64 48, .int .i64 128, c, .int .i64 64, .int .i64 128, d]
theorem k15_one {a b c d : Value} (h1 : a.oneCell' = true) (h2 : b.oneCell' = true) (h3 : c.oneCell' = true) (h4 : d.oneCell' = true) : (k15 a b c d).all (·.oneCell') = true := by
  simp [k15, h1, h2, h3, h4]
  decide
/-- The table: each of the four begins what it says. -/
structure Kt (w : World) (a b c d : Value) : Prop where
  a : Cl7 w 28 a
  b : Cl7 w 32 b
  c : Cl8 w 48 c
  d : Cl8 w 64 d
theorem Kt.sm {w w' : World} {a b c d : Value} (h : Kt w a b c d) (k : Sm w w') : Kt w' a b c d := ⟨h.a.sm k, h.b.sm k, h.c.sm k, h.d.sm k⟩
theorem Kt.put {w : World} {a b c d : Value} {g : Nat} {e : Array Value} {t : TypeId} (h : Kt w a b c d) (k : Bk w g e t) (hn : 1 < e.size) (f : Array Value) : Kt (setBlk w g f) a b c d := ⟨h.a.put k hn f, h.b.put k hn f, h.c.put k hn f, h.d.put k hn f⟩
theorem stA_is (p v : Value) : Instr.storeAt 69 p v = storeS 69 p v := rfl
def buildK (ps : Array (Nat × Value)) : Sem Value := Instr.build 69 ps
theorem bdA_is (ps : Array (Nat × Value)) : Instr.build 69 ps = buildK ps := rfl
theorem bdA (a b c d : Value) (w : World) : (buildK #[(1, .agg #[.int .i64 28, .int .i64 64, a]), (2, .agg #[.int .i64 32, .int .i64 64, b]), (3, .agg #[.int .i64 48, .int .i64 128, c]), (4, .agg #[.int .i64 64, .int .i64 128, d])]).run Tryd.prog w = .ok (.agg (k15 a b c d)) w := by kernel_rfl
attribute [local go_sem ↓] stA_is bdA_is
attribute [local go_sem] bdA
set_option maxRecDepth 100000 in
set_option maxHeartbeats 800000 in
theorem kinds_any (w : World) :
    Calls Tryd.prog 35 #[] w fun e w' => ∃ a b c d, e = .returned (.agg (k15 a b c d)) ∧ Kt w' a b c d ∧ Sm w w' := by
  have C7 : Hid (∀ z k w, Calls Tryd.prog 41 #[.int .i64 z, .int .i64 k, .func (.func 42) #[] #[], .func (.func 43) #[] #[], .func (.func 44) #[] #[]] w fun e w' => ∃ c, e = .returned (.agg #[.int .i64 z, .int .i64 k, c]) ∧ Cl7 w' z c ∧ Sm w w') := kof7_any
  have C8 : Hid (∀ z k w, Calls Tryd.prog 45 #[.int .i64 z, .int .i64 k, .func (.func 46) #[] #[], .func (.func 47) #[] #[], .func (.func 48) #[] #[]] w fun e w' => ∃ c, e = .returned (.agg #[.int .i64 z, .int .i64 k, c]) ∧ Cl8 w' z c ∧ Sm w w') := kof8_any
  have HB := Bk.new w z15 69
  go_enter Tryd.func35, Tryd.ntmps35
  go_wp2_with (first
    | (go_at_call_of 41 (Value.int IntKind.i64 28); refine (C7.out _ _ _).mono ?_; rintro e w1 ⟨c1, rfl, H1, S1⟩)
    | (go_at_call_of 41 (Value.int IntKind.i64 32); refine (C7.out _ _ _).mono ?_; rintro e w2 ⟨c2, rfl, H2, S2⟩)
    | (go_at_call_of 45 (Value.int IntKind.i64 48); refine (C8.out _ _ _).mono ?_; rintro e w3 ⟨c3, rfl, H3, S3⟩)
    | (go_at_call_of 45 (Value.int IntKind.i64 64); refine (C8.out _ _ _).mono ?_; rintro e w4 ⟨c4, rfl, H4, S4⟩; have S14 := (((Sm.trans (show Sm _ w1 from S1) S2).trans S3).trans S4); have HB4 := HB.sm S14; have KT : Kt w4 c1 c2 c3 c4 := ⟨((H1.sm S2).sm S3).sm S4, (H2.sm S3).sm S4, H3.sm S4, H4⟩; have st := storeS_part (P := Tryd.prog) (ty := 69) 15 (by kernel_rfl) HB4 rfl (show (k15 c1 c2 c3 c4).size = 15 from rfl) (by decide) (k15_one KT.a.one KT.b.one KT.c.one KT.d.one)))
  exact bodyPost_ret (res_one Tryd.results35 (rd_row 15 Tryd.underlying69 rfl (by kernel_rfl) (by rfl) (HB4.put _) (by rfl))) rfl ⟨_, _, _, _, rfl, KT.put HB4 (by decide) _, Sm.of ((((Kp.refl _ w).alloc _).trans (S14.kp _)).put _ _ (Nat.le_refl _))⟩
/-! ### find -/
theorem ldK_is (v : Value) : Instr.loadAt 50 v = loadS 50 v := rfl
/-- What the table has of the hash of that number: its sizes, and what begins a stream of it. -/
def Fd (w : World) (id z k : Int) (v : Value) : Prop :=
  (id = 1 ∧ z = 28 ∧ k = 64 ∧ Cl7 w 28 v) ∨ (id = 2 ∧ z = 32 ∧ k = 64 ∧ Cl7 w 32 v) ∨ (id = 3 ∧ z = 48 ∧ k = 128 ∧ Cl8 w 48 v) ∨ (id = 4 ∧ z = 64 ∧ k = 128 ∧ Cl8 w 64 v)
theorem Fd.sm {w w' : World} {id z k : Int} {v : Value} (h : Fd w id z k v) (s : Sm w w') : Fd w' id z k v := by
  rcases h with ⟨h1, h2, h3, h⟩ | ⟨h1, h2, h3, h⟩ | ⟨h1, h2, h3, h⟩ | ⟨h1, h2, h3, h⟩
  · exact Or.inl ⟨h1, h2, h3, h.sm s⟩
  · exact Or.inr (Or.inl ⟨h1, h2, h3, h.sm s⟩)
  · exact Or.inr (Or.inr (Or.inl ⟨h1, h2, h3, h.sm s⟩))
  · exact Or.inr (Or.inr (Or.inr ⟨h1, h2, h3, h.sm s⟩))
theorem Fd.one {w : World} {id z k : Int} {v : Value} (h : Fd w id z k v) : v.oneCell' = true := by
  rcases h with ⟨_, _, _, h⟩ | ⟨_, _, _, h⟩ | ⟨_, _, _, h⟩ | ⟨_, _, _, h⟩ <;> exact h.one
theorem Fd.put {w : World} {id z k : Int} {v : Value} {g : Nat} {e : Array Value} {t : TypeId} (h : Fd w id z k v) (b : Bk w g e t) (hn : 1 < e.size) (f : Array Value) : Fd (setBlk w g f) id z k v := by
  rcases h with ⟨h1, h2, h3, h⟩ | ⟨h1, h2, h3, h⟩ | ⟨h1, h2, h3, h⟩ | ⟨h1, h2, h3, h⟩
  · exact Or.inl ⟨h1, h2, h3, h.put b hn f⟩
  · exact Or.inr (Or.inl ⟨h1, h2, h3, h.put b hn f⟩)
  · exact Or.inr (Or.inr (Or.inl ⟨h1, h2, h3, h.put b hn f⟩))
  · exact Or.inr (Or.inr (Or.inr ⟨h1, h2, h3, h.put b hn f⟩))
theorem stAn (w : World) (b : Nat) (hb : b = w.heap.size) (a c d f : Value) (h : Kt w a c d f) :
    (storeS 69 (.pointer (some ⟨b, 0, none⟩)) (.agg (k15 a c d f))).run Tryd.prog (w.alloc (.cells z15 69)) = .ok () (w.alloc (.cells (k15 a c d f) 69)) := by
  subst hb
  rw [storeS_part 15 (by kernel_rfl) (Bk.new w _ _) rfl rfl (by decide) (k15_one h.a.one h.b.one h.c.one h.d.one), setBlk_new]
end Go.Proofs.YtledggjbijoijaaDoor
