/-
  hash's New, Write, Sum, Of, Size, Block: what they hand back, for every number.
-/
import Derived.Test.YtledggjbijoijaaDoorYC
namespace Go.Proofs.YtledggjbijoijaaDoor
open Go.RowKit
/-- Both tables of constants lie as they should. -/
def KK (w : World) : Prop := Kk w ∧ L8.Kk w
/-- b is neither of them. -/
def Nc (b : Nat) : Prop := b ≠ 0 ∧ b ≠ 1
theorem KK.kp {S : Nat → Prop} {w w' : World} (h : KK w) (k : Kp S w w') (h1 : ¬ S 0) (h2 : ¬ S 1) : KK w' := ⟨h.1.kp k h1, h.2.kp k h2⟩
theorem KK.sm {w w' : World} (h : KK w) (k : Sm w w') : KK w' := ⟨h.1.sm k, h.2.sm k⟩
theorem KK.at1 {w w' : World} {b : Nat} (h : KK w) (k : Kp (At1 b) w w') (hb : Nc b) : KK w' := h.kp k (fun e => hb.1 (Eq.symm e)) (fun e => hb.2 (Eq.symm e))
theorem KK.nc {w : World} {b : Nat} (h : KK w) (hb : w.heap.size ≤ b) : Nc b := ⟨by have := h.1.lt; omega, by have := h.2.lt; omega⟩
theorem KK.fr {w w' : World} {n : Nat} (h : KK w) (k : Kp (Fr n) w w') (hn : w.heap.size ≤ n) : KK w' := h.kp k (fun e => by have e : n ≤ 0 := e; have := h.1.lt; omega) (fun e => by have e : n ≤ 1 := e; have := h.2.lt; omega)
/-- The stream at g, of the hash id; its state lies in b; the text t is written. -/
def St (w : World) (g b : Nat) (id : Int) (t : ByteArray) : Prop :=
  (id = 1 ∧ St7 w g b iv224 28 t) ∨ (id = 2 ∧ St7 w g b iv256 32 t) ∨ (id = 3 ∧ St8 w g b L8.iv384 48 t) ∨ (id = 4 ∧ St8 w g b L8.iv512 64 t)
/-- The digest. -/
def dig (id : Int) (t : ByteArray) : ByteArray :=
  if id = 1 then sha iv224 28 t else if id = 2 then sha iv256 32 t else if id = 3 then L8.sha L8.iv384 48 t else L8.sha L8.iv512 64 t
theorem dig_size {id z k : Int} (h : Hi id z k) (t : ByteArray) : ((dig id t).size : Int) = z := by
  rcases h with ⟨rfl, rfl, rfl⟩ | ⟨rfl, rfl, rfl⟩ | ⟨rfl, rfl, rfl⟩ | ⟨rfl, rfl, rfl⟩
  · exact congrArg Nat.cast (bt_size _ 28)
  · exact congrArg Nat.cast (bt_size _ 32)
  · exact congrArg Nat.cast (bt_size _ 48)
  · exact congrArg Nat.cast (bt_size _ 64)
theorem St.sm {w w' : World} {g b : Nat} {id : Int} {t : ByteArray} (h : St w g b id t) (k : Sm w w') : St w' g b id t := by
  rcases h with ⟨e, h⟩ | ⟨e, h⟩ | ⟨e, h⟩ | ⟨e, h⟩
  · exact Or.inl ⟨e, h.sm k⟩
  · exact Or.inr (Or.inl ⟨e, h.sm k⟩)
  · exact Or.inr (Or.inr (Or.inl ⟨e, h.sm k⟩))
  · exact Or.inr (Or.inr (Or.inr ⟨e, h.sm k⟩))
theorem St.big {w : World} {g b : Nat} {id : Int} {t : ByteArray} (h : St w g b id t) : ∃ c u, Bk w b c u ∧ 2 < c.size := by
  rcases h with ⟨e, h⟩ | ⟨e, h⟩ | ⟨e, h⟩ | ⟨e, h⟩ <;> exact h.big
theorem St.blt {w : World} {g b : Nat} {id : Int} {t : ByteArray} (h : St w g b id t) : b < w.heap.size := by
  obtain ⟨c, u, hb, _⟩ := h.big
  exact hb.lt
theorem St.far {w w' : World} {g b a g' : Nat} {id id' : Int} {t t' : ByteArray} (h : St w g b id t) (k : Kp (At1 a) w w') (ha : St w g' a id' t') (hn : b ≠ a) : St w' g b id t := by
  obtain ⟨c, u, hb, hc⟩ := ha.big
  rcases h with ⟨e, h⟩ | ⟨e, h⟩ | ⟨e, h⟩ | ⟨e, h⟩
  · exact Or.inl ⟨e, h.far k hb hc hn⟩
  · exact Or.inr (Or.inl ⟨e, h.far k hb hc hn⟩)
  · exact Or.inr (Or.inr (Or.inl ⟨e, h.far k hb hc hn⟩))
  · exact Or.inr (Or.inr (Or.inr ⟨e, h.far k hb hc hn⟩))
theorem hwrite_any (g b : Nat) (id : Int) (t s : ByteArray) (hl : t.size + s.size < 2305843009213693952) (w : World) (hK : KK w) (h0 : Nc b) (hS : St w g b id t) :
    Calls Tryd.prog 22 #[.pointer (some ⟨g, 0, none⟩), .string s] w fun e w' => e = .returned (.int .i64 0) ∧ Kp (At1 b) w w' ∧ St w' g b id (t ++ s) := by
  rcases hS with ⟨e, h⟩ | ⟨e, h⟩ | ⟨e, h⟩ | ⟨e, h⟩
  · exact (hw7_any g b _ _ t s iv224_lt hl w hK.1 h0.1 h).mono fun _ _ ⟨h1, h2, h3⟩ => ⟨h1, h2, Or.inl ⟨e, h3⟩⟩
  · exact (hw7_any g b _ _ t s iv256_lt hl w hK.1 h0.1 h).mono fun _ _ ⟨h1, h2, h3⟩ => ⟨h1, h2, Or.inr (Or.inl ⟨e, h3⟩)⟩
  · exact (hw8_any g b _ _ t s L8.iv384_lt hl w hK.2 h0.2 h).mono fun _ _ ⟨h1, h2, h3⟩ => ⟨h1, h2, Or.inr (Or.inr (Or.inl ⟨e, h3⟩))⟩
  · exact (hw8_any g b _ _ t s L8.iv512_lt hl w hK.2 h0.2 h).mono fun _ _ ⟨h1, h2, h3⟩ => ⟨h1, h2, Or.inr (Or.inr (Or.inr ⟨e, h3⟩))⟩
theorem hsum_any (g b : Nat) (id : Int) (t : ByteArray) (hl : t.size < 2305843009213693952) (w : World) (hK : KK w) (hS : St w g b id t) :
    Calls Tryd.prog 23 #[.pointer (some ⟨g, 0, none⟩)] w fun e w' => e = .returned (.string (dig id t)) ∧ Sm w w' := by
  rcases hS with ⟨rfl, h⟩ | ⟨rfl, h⟩ | ⟨rfl, h⟩ | ⟨rfl, h⟩
  · exact hs7_any g b _ _ t iv224_lt (by decide) hl w hK.1 h
  · exact hs7_any g b _ _ t iv256_lt (by decide) hl w hK.1 h
  · exact hs8_any g b _ _ t L8.iv384_lt (by decide) hl w hK.2 h
  · exact hs8_any g b _ _ t L8.iv512_lt (by decide) hl w hK.2 h
attribute [local go_sem ↓] stK_is
attribute [local go_sem] stKn
theorem Fd.c1 {w : World} {z k : Int} {v : Value} (h : Fd w 1 z k v) : Cl7 w 28 v := by
  rcases h with ⟨_, _, _, h⟩ | ⟨h, _⟩ | ⟨h, _⟩ | ⟨h, _⟩
  · exact h
  · exact absurd h (by decide)
  · exact absurd h (by decide)
  · exact absurd h (by decide)
set_option maxRecDepth 100000 in
set_option maxHeartbeats 800000 in
theorem hnew1 (w : World) :
    Calls Tryd.prog 21 #[.int .i64 1] w fun e w' => ∃ g b, e = .returned (.tuple #[.pointer (some ⟨g, 0, none⟩), .int .i64 0]) ∧ w.heap.size ≤ g ∧ w.heap.size ≤ b ∧ St w' g b 1 .empty ∧ Sm w w' := by
  have CF : Hid (∀ w, Calls Tryd.prog 20 #[.int .i64 1] w fun e w' => ∃ c, e = .returned (.tuple #[.agg #[.int .i64 28, .int .i64 64, c], .bool true]) ∧ Fd w' 1 28 64 c ∧ Sm w w') := find1
  go_enter Tryd.func21, Tryd.ntmps21
  go_wp2_with (first
    | (go_at_call 20; refine (CF.out _).mono ?_; rintro e w1 ⟨c, rfl, F1, S1⟩; obtain ⟨cs, rfl, CB⟩ := begin224 c (w1.alloc (.cells #[.int .i64 28, .int .i64 64, c] 50)) (F1.c1.sm ((Sm.refl _).alloc _)); have CB : Hid (Unit → _) := fun (_ : Unit) => CB)
    | (go_at_call 49; refine (CB.out ()).mono ?_; rintro e w2 ⟨g, b, rfl, hg, hb, H2, S2⟩))
  go_ret2
  have hs := S1.size
  have hz : (w1.alloc (.cells #[.int .i64 28, .int .i64 64, .func (.func 49) #[] cs] 50)).heap.size = w1.heap.size + 1 := by simp
  rw [hz] at hg hb
  exact ⟨_, _, rfl, by omega, by omega, Or.inl ⟨rfl, H2⟩, (S1.alloc _).trans S2⟩
theorem Fd.c2 {w : World} {z k : Int} {v : Value} (h : Fd w 2 z k v) : Cl7 w 32 v := by
  rcases h with ⟨h, _⟩ | ⟨_, _, _, h⟩ | ⟨h, _⟩ | ⟨h, _⟩
  · exact absurd h (by decide)
  · exact h
  · exact absurd h (by decide)
  · exact absurd h (by decide)
set_option maxRecDepth 100000 in
set_option maxHeartbeats 800000 in
theorem hnew2 (w : World) :
    Calls Tryd.prog 21 #[.int .i64 2] w fun e w' => ∃ g b, e = .returned (.tuple #[.pointer (some ⟨g, 0, none⟩), .int .i64 0]) ∧ w.heap.size ≤ g ∧ w.heap.size ≤ b ∧ St w' g b 2 .empty ∧ Sm w w' := by
  have CF : Hid (∀ w, Calls Tryd.prog 20 #[.int .i64 2] w fun e w' => ∃ c, e = .returned (.tuple #[.agg #[.int .i64 32, .int .i64 64, c], .bool true]) ∧ Fd w' 2 32 64 c ∧ Sm w w') := find2
  go_enter Tryd.func21, Tryd.ntmps21
  go_wp2_with (first
    | (go_at_call 20; refine (CF.out _).mono ?_; rintro e w1 ⟨c, rfl, F1, S1⟩; obtain ⟨cs, rfl, CB⟩ := begin256 c (w1.alloc (.cells #[.int .i64 32, .int .i64 64, c] 50)) (F1.c2.sm ((Sm.refl _).alloc _)); have CB : Hid (Unit → _) := fun (_ : Unit) => CB)
    | (go_at_call 49; refine (CB.out ()).mono ?_; rintro e w2 ⟨g, b, rfl, hg, hb, H2, S2⟩))
  go_ret2
  have hs := S1.size
  have hz : (w1.alloc (.cells #[.int .i64 32, .int .i64 64, .func (.func 49) #[] cs] 50)).heap.size = w1.heap.size + 1 := by simp
  rw [hz] at hg hb
  exact ⟨_, _, rfl, by omega, by omega, Or.inr (Or.inl ⟨rfl, H2⟩), (S1.alloc _).trans S2⟩
theorem Fd.c3 {w : World} {z k : Int} {v : Value} (h : Fd w 3 z k v) : Cl8 w 48 v := by
  rcases h with ⟨h, _⟩ | ⟨h, _⟩ | ⟨_, _, _, h⟩ | ⟨h, _⟩
  · exact absurd h (by decide)
  · exact absurd h (by decide)
  · exact h
  · exact absurd h (by decide)
set_option maxRecDepth 100000 in
set_option maxHeartbeats 800000 in
theorem hnew3 (w : World) :
    Calls Tryd.prog 21 #[.int .i64 3] w fun e w' => ∃ g b, e = .returned (.tuple #[.pointer (some ⟨g, 0, none⟩), .int .i64 0]) ∧ w.heap.size ≤ g ∧ w.heap.size ≤ b ∧ St w' g b 3 .empty ∧ Sm w w' := by
  have CF : Hid (∀ w, Calls Tryd.prog 20 #[.int .i64 3] w fun e w' => ∃ c, e = .returned (.tuple #[.agg #[.int .i64 48, .int .i64 128, c], .bool true]) ∧ Fd w' 3 48 128 c ∧ Sm w w') := find3
  go_enter Tryd.func21, Tryd.ntmps21
  go_wp2_with (first
    | (go_at_call 20; refine (CF.out _).mono ?_; rintro e w1 ⟨c, rfl, F1, S1⟩; obtain ⟨cs, rfl, CB⟩ := begin384 c (w1.alloc (.cells #[.int .i64 48, .int .i64 128, c] 50)) (F1.c3.sm ((Sm.refl _).alloc _)); have CB : Hid (Unit → _) := fun (_ : Unit) => CB)
    | (go_at_call 57; refine (CB.out ()).mono ?_; rintro e w2 ⟨g, b, rfl, hg, hb, H2, S2⟩))
  go_ret2
  have hs := S1.size
  have hz : (w1.alloc (.cells #[.int .i64 48, .int .i64 128, .func (.func 57) #[] cs] 50)).heap.size = w1.heap.size + 1 := by simp
  rw [hz] at hg hb
  exact ⟨_, _, rfl, by omega, by omega, Or.inr (Or.inr (Or.inl ⟨rfl, H2⟩)), (S1.alloc _).trans S2⟩
theorem Fd.c4 {w : World} {z k : Int} {v : Value} (h : Fd w 4 z k v) : Cl8 w 64 v := by
  rcases h with ⟨h, _⟩ | ⟨h, _⟩ | ⟨h, _⟩ | ⟨_, _, _, h⟩
  · exact absurd h (by decide)
  · exact absurd h (by decide)
  · exact absurd h (by decide)
  · exact h
set_option maxRecDepth 100000 in
set_option maxHeartbeats 800000 in
theorem hnew4 (w : World) :
    Calls Tryd.prog 21 #[.int .i64 4] w fun e w' => ∃ g b, e = .returned (.tuple #[.pointer (some ⟨g, 0, none⟩), .int .i64 0]) ∧ w.heap.size ≤ g ∧ w.heap.size ≤ b ∧ St w' g b 4 .empty ∧ Sm w w' := by
  have CF : Hid (∀ w, Calls Tryd.prog 20 #[.int .i64 4] w fun e w' => ∃ c, e = .returned (.tuple #[.agg #[.int .i64 64, .int .i64 128, c], .bool true]) ∧ Fd w' 4 64 128 c ∧ Sm w w') := find4
  go_enter Tryd.func21, Tryd.ntmps21
  go_wp2_with (first
    | (go_at_call 20; refine (CF.out _).mono ?_; rintro e w1 ⟨c, rfl, F1, S1⟩; obtain ⟨cs, rfl, CB⟩ := begin512 c (w1.alloc (.cells #[.int .i64 64, .int .i64 128, c] 50)) (F1.c4.sm ((Sm.refl _).alloc _)); have CB : Hid (Unit → _) := fun (_ : Unit) => CB)
    | (go_at_call 57; refine (CB.out ()).mono ?_; rintro e w2 ⟨g, b, rfl, hg, hb, H2, S2⟩))
  go_ret2
  have hs := S1.size
  have hz : (w1.alloc (.cells #[.int .i64 64, .int .i64 128, .func (.func 57) #[] cs] 50)).heap.size = w1.heap.size + 1 := by simp
  rw [hz] at hg hb
  exact ⟨_, _, rfl, by omega, by omega, Or.inr (Or.inr (Or.inr (⟨rfl, H2⟩))), (S1.alloc _).trans S2⟩
theorem hnew_any (id z k : Int) (h : Hi id z k) (w : World) :
    Calls Tryd.prog 21 #[.int .i64 id] w fun e w' => ∃ g b, e = .returned (.tuple #[.pointer (some ⟨g, 0, none⟩), .int .i64 0]) ∧ w.heap.size ≤ g ∧ w.heap.size ≤ b ∧ St w' g b id .empty ∧ Sm w w' := by
  rcases h with ⟨rfl, rfl, rfl⟩ | ⟨rfl, rfl, rfl⟩ | ⟨rfl, rfl, rfl⟩ | ⟨rfl, rfl, rfl⟩
  · exact hnew1 w
  · exact hnew2 w
  · exact hnew3 w
  · exact hnew4 w
theorem stKz (w : World) (b : Nat) (hb : b = w.heap.size) :
    (storeS 50 (.pointer (some ⟨b, 0, none⟩)) (.agg #[.int .i64 0, .int .i64 0, .nilFunc])).run Tryd.prog (w.alloc (.cells #[.int .i64 0, .int .i64 0, .nilFunc] 50)) = .ok () (w.alloc (.cells #[.int .i64 0, .int .i64 0, .nilFunc] 50)) := by
  subst hb
  rw [storeS_part 3 (by kernel_rfl) (Bk.new w _ _) rfl rfl (by decide) (by simp [Value.oneCell']), setBlk_new]
attribute [local go_sem] stKz
set_option maxRecDepth 100000 in
set_option maxHeartbeats 800000 in
theorem hnew_no (id : Int) (h : id ≤ 0 ∨ 5 ≤ id) (w : World) :
    Calls Tryd.prog 21 #[.int .i64 id] w fun e w' => e = .returned (.tuple #[.pointer none, .int .i64 900]) ∧ Sm w w' := by
  have CF : Hid (∀ w, Calls Tryd.prog 20 #[.int .i64 id] w fun e w' => e = .returned (.tuple #[.agg #[.int .i64 0, .int .i64 0, .nilFunc], .bool false]) ∧ Sm w w') := find_no id h
  clear h
  go_enter Tryd.func21, Tryd.ntmps21
  go_wp2_with (go_at_call 20; refine (CF.out _).mono ?_; rintro e w1 ⟨rfl, S1⟩)
  go_ret2
  exact ⟨rfl, S1.alloc _⟩
theorem Fd.fn {w : World} {id z k : Int} {v : Value} (h : Fd w id z k v) : ∃ f cs, v = .func f #[] cs := by
  rcases h with ⟨_, _, _, _, _, _, _, h, _⟩ | ⟨_, _, _, _, _, _, _, h, _⟩ | ⟨_, _, _, _, _, _, _, h, _⟩ | ⟨_, _, _, _, _, _, _, h, _⟩ <;> exact ⟨_, _, h⟩
set_option maxRecDepth 100000 in
set_option maxHeartbeats 800000 in
theorem hsize_any (id z k : Int) (h : Hi id z k) (w : World) :
    Calls Tryd.prog 11 #[.int .i64 id] w fun e w' => e = .returned (.int .i64 z) ∧ Sm w w' := by
  have CF : Hid (∀ w, Calls Tryd.prog 20 #[.int .i64 id] w fun e w' => ∃ c, e = .returned (.tuple #[.agg #[.int .i64 z, .int .i64 k, c], .bool true]) ∧ Fd w' id z k c ∧ Sm w w') := find_any id z k h
  clear h
  go_enter Tryd.func11, Tryd.ntmps11
  go_wp2_with (go_at_call 20; refine (CF.out _).mono ?_; rintro e w1 ⟨c, rfl, F1, S1⟩; obtain ⟨f, cs, rfl⟩ := F1.fn)
  go_ret
  exact ⟨rfl, S1.alloc _⟩
set_option maxRecDepth 100000 in
set_option maxHeartbeats 800000 in
theorem hsize_no (id : Int) (h : id ≤ 0 ∨ 5 ≤ id) (w : World) :
    Calls Tryd.prog 11 #[.int .i64 id] w fun e w' => e = .returned (.int .i64 0) ∧ Sm w w' := by
  have CF : Hid (∀ w, Calls Tryd.prog 20 #[.int .i64 id] w fun e w' => e = .returned (.tuple #[.agg #[.int .i64 0, .int .i64 0, .nilFunc], .bool false]) ∧ Sm w w') := find_no id h
  clear h
  go_enter Tryd.func11, Tryd.ntmps11
  go_wp2_with (go_at_call 20; refine (CF.out _).mono ?_; rintro e w1 ⟨rfl, S1⟩)
  go_ret
  exact ⟨rfl, S1.alloc _⟩
set_option maxRecDepth 100000 in
set_option maxHeartbeats 800000 in
theorem hof_any (id z k : Int) (s : ByteArray) (h : Hi id z k) (hl : s.size < 2305843009213693952) (w : World) (hK : KK w) :
    Calls Tryd.prog 12 #[.int .i64 id, .string s] w fun e w' => e = .returned (.tuple #[.string (dig id s), .int .i64 0]) ∧ Sm w w' := by
  obtain ⟨A, hA⟩ : ∃ A, dig id s = A := ⟨_, rfl⟩
  have HK : Hid (KK w) := hK
  have C1 : Hid (∀ w, Calls Tryd.prog 21 #[.int .i64 id] w fun e w' => ∃ g b, e = .returned (.tuple #[.pointer (some ⟨g, 0, none⟩), .int .i64 0]) ∧ w.heap.size ≤ g ∧ w.heap.size ≤ b ∧ St w' g b id .empty ∧ Sm w w') := hnew_any id z k h
  have C2 : Hid (∀ g b w, KK w → Nc b → St w g b id .empty → Calls Tryd.prog 22 #[.pointer (some ⟨g, 0, none⟩), .string s] w fun e w' => e = .returned (.int .i64 0) ∧ Kp (At1 b) w w' ∧ St w' g b id s) := fun g b w h1 h2 h3 => by
    have := hwrite_any g b id .empty s (by simpa using hl) w h1 h2 h3
    rwa [app_nil] at this
  have C3 : Hid (∀ g b w, KK w → St w g b id s → Calls Tryd.prog 23 #[.pointer (some ⟨g, 0, none⟩)] w fun e w' => e = .returned (.string A) ∧ Sm w w') := fun g b w h1 h2 => hA ▸ hsum_any g b id s hl w h1 h2
  rw [hA]
  clear h hl hK hA
  go_enter Tryd.func12, Tryd.ntmps12
  go_wp2_with (first
    | (go_at_call 21; refine (C1.out _).mono ?_; rintro e w1 ⟨g, b, rfl, hg, hb, H1, S1⟩; have k1 := HK.out.sm S1; have hn := HK.out.nc hb)
    | (go_at_call 22; refine (C2.out _ _ _ k1 hn H1).mono ?_; rintro e w2 ⟨rfl, K2, H2⟩; have k2 := k1.at1 K2 hn)
    | (go_at_call 23; refine (C3.out _ _ _ k2 H2).mono ?_; rintro e w3 ⟨rfl, S3⟩))
  go_ret2
  exact ⟨rfl, Sm.of (((S1.kp _).trans (K2.fr hb)).trans (S3.kp _))⟩
set_option maxRecDepth 100000 in
set_option maxHeartbeats 800000 in
theorem hof_no (id : Int) (s : ByteArray) (h : id ≤ 0 ∨ 5 ≤ id) (w : World) :
    Calls Tryd.prog 12 #[.int .i64 id, .string s] w fun e w' => e = .returned (.tuple #[.string .empty, .int .i64 900]) ∧ Sm w w' := by
  have C1 : Hid (∀ w, Calls Tryd.prog 21 #[.int .i64 id] w fun e w' => e = .returned (.tuple #[.pointer none, .int .i64 900]) ∧ Sm w w') := hnew_no id h
  clear h
  go_enter Tryd.func12, Tryd.ntmps12
  go_wp2_with (go_at_call 21; refine (C1.out _).mono ?_; rintro e w1 ⟨rfl, S1⟩)
  go_ret2
  exact ⟨rfl, S1⟩
end Go.Proofs.YtledggjbijoijaaDoor
