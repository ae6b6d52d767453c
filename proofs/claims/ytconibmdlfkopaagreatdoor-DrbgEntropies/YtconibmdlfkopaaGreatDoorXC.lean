/-
  A stream that lies inside another object: hmac's Mac holds one by value.
-/
/-
  hmac's keyBlock and pad: the key's block, and its bytes xored with one.
-/
/-
  hmac's New: a mac to which nothing is written.
-/
import Derived.Test.YtconibmdlfkopaaGreatDoorYE
namespace Go.Proofs.YtconibmdlfkopaaGreatDoor
open Go.RowKit
attribute [local go_sem] eqW eqS
/-- Two functions that hold a stream of layer 7; its state lies in block b. -/
def Sv7 (w : World) (f s : Value) (b : Nat) (iv : Nat → Nat) (z : Nat) (t : ByteArray) : Prop :=
  ∃ q r h, f = .func (.func 84) #[] #[.pointer (some ⟨q, 0, none⟩), .pointer (some ⟨h, 0, none⟩)] ∧ s = .func (.func 85) #[] #[.pointer (some ⟨r, 0, none⟩), .pointer (some ⟨h, 0, none⟩)] ∧ Bk w q #[.func (.func 71) #[] #[]] 129 ∧ Bk w r #[.func (.func 72) #[] #[]] 131 ∧ Bk w h #[.pointer (some ⟨b, 0, none⟩)] 130 ∧ Hs w b iv z t
theorem Sv7.sm {w w' : World} {f s : Value} {b : Nat} {iv : Nat → Nat} {z : Nat} {t : ByteArray} (h : Sv7 w f s b iv z t) (k : Sm w w') : Sv7 w' f s b iv z t := by
  obtain ⟨q, r, x, h0, h1, h2, h3, h4, h5⟩ := h
  exact ⟨q, r, x, h0, h1, h2.sm k, h3.sm k, h4.sm k, h5.sm k⟩
theorem Sv7.big {w : World} {f s : Value} {b : Nat} {iv : Nat → Nat} {z : Nat} {t : ByteArray} (h : Sv7 w f s b iv z t) : ∃ c u, Bk w b c u ∧ 4 < c.size := by
  obtain ⟨q, r, x, h0, h1, h2, h3, h4, f, p, _, h5⟩ := h
  exact ⟨_, _, h5, by rw [hc_size]; decide⟩
theorem Sv7.kp {w w' : World} {f s : Value} {b a : Nat} {c : Array Value} {u : TypeId} {iv : Nat → Nat} {z : Nat} {t t' : ByteArray} (h : Sv7 w f s b iv z t) (k : Kp (At1 a) w w') (ha : Bk w a c u) (hc : 4 < c.size) (hs : Hs w b iv z t → Hs w' b iv z t') : Sv7 w' f s b iv z t' := by
  obtain ⟨q, r, x, h0, h1, h2, h3, h4, h5⟩ := h
  have e2 : ∀ v : Value, (#[v] : Array Value).size = 1 := fun _ => rfl
  exact ⟨q, r, x, h0, h1, h2.kp k fun e => h2.ne ha (by rw [e2]; omega) e, h3.kp k fun e => h3.ne ha (by rw [e2]; omega) e, h4.kp k fun e => h4.ne ha (by rw [e2]; omega) e, hs h5⟩
theorem Sv7.one {w : World} {f s : Value} {b : Nat} {iv : Nat → Nat} {z : Nat} {t : ByteArray} (h : Sv7 w f s b iv z t) : ∃ x y p q, f = .func x #[] p ∧ s = .func y #[] q := by
  obtain ⟨q, r, x, h0, h1, _⟩ := h
  exact ⟨_, _, _, _, h0, h1⟩
theorem St7.sv {w : World} {g b : Nat} {iv : Nat → Nat} {z : Nat} {t : ByteArray} (h : St7 w g b iv z t) : ∃ f s, Bk w g #[f, s] 100 ∧ Sv7 w f s b iv z t := by
  obtain ⟨q, r, x, h1, h2, h3, h4, h5⟩ := h
  exact ⟨_, _, h1, q, r, x, rfl, rfl, h2, h3, h4, h5⟩
/-- Two functions that hold a stream of layer 8; its state lies in block b. -/
def Sv8 (w : World) (f s : Value) (b : Nat) (iv : Nat → Nat) (z : Nat) (t : ByteArray) : Prop :=
  ∃ q r h, f = .func (.func 92) #[] #[.pointer (some ⟨q, 0, none⟩), .pointer (some ⟨h, 0, none⟩)] ∧ s = .func (.func 93) #[] #[.pointer (some ⟨r, 0, none⟩), .pointer (some ⟨h, 0, none⟩)] ∧ Bk w q #[.func (.func 75) #[] #[]] 140 ∧ Bk w r #[.func (.func 76) #[] #[]] 142 ∧ Bk w h #[.pointer (some ⟨b, 0, none⟩)] 141 ∧ L8.Hs w b iv z t
theorem Sv8.sm {w w' : World} {f s : Value} {b : Nat} {iv : Nat → Nat} {z : Nat} {t : ByteArray} (h : Sv8 w f s b iv z t) (k : Sm w w') : Sv8 w' f s b iv z t := by
  obtain ⟨q, r, x, h0, h1, h2, h3, h4, h5⟩ := h
  exact ⟨q, r, x, h0, h1, h2.sm k, h3.sm k, h4.sm k, h5.sm k⟩
theorem Sv8.big {w : World} {f s : Value} {b : Nat} {iv : Nat → Nat} {z : Nat} {t : ByteArray} (h : Sv8 w f s b iv z t) : ∃ c u, Bk w b c u ∧ 4 < c.size := by
  obtain ⟨q, r, x, h0, h1, h2, h3, h4, f, p, _, h5⟩ := h
  exact ⟨_, _, h5, by rw [L8.hc_size]; decide⟩
theorem Sv8.kp {w w' : World} {f s : Value} {b a : Nat} {c : Array Value} {u : TypeId} {iv : Nat → Nat} {z : Nat} {t t' : ByteArray} (h : Sv8 w f s b iv z t) (k : Kp (At1 a) w w') (ha : Bk w a c u) (hc : 4 < c.size) (hs : L8.Hs w b iv z t → L8.Hs w' b iv z t') : Sv8 w' f s b iv z t' := by
  obtain ⟨q, r, x, h0, h1, h2, h3, h4, h5⟩ := h
  have e2 : ∀ v : Value, (#[v] : Array Value).size = 1 := fun _ => rfl
  exact ⟨q, r, x, h0, h1, h2.kp k fun e => h2.ne ha (by rw [e2]; omega) e, h3.kp k fun e => h3.ne ha (by rw [e2]; omega) e, h4.kp k fun e => h4.ne ha (by rw [e2]; omega) e, hs h5⟩
theorem Sv8.one {w : World} {f s : Value} {b : Nat} {iv : Nat → Nat} {z : Nat} {t : ByteArray} (h : Sv8 w f s b iv z t) : ∃ x y p q, f = .func x #[] p ∧ s = .func y #[] q := by
  obtain ⟨q, r, x, h0, h1, _⟩ := h
  exact ⟨_, _, _, _, h0, h1⟩
theorem St8.sv {w : World} {g b : Nat} {iv : Nat → Nat} {z : Nat} {t : ByteArray} (h : St8 w g b iv z t) : ∃ f s, Bk w g #[f, s] 100 ∧ Sv8 w f s b iv z t := by
  obtain ⟨q, r, x, h1, h2, h3, h4, h5⟩ := h
  exact ⟨_, _, h1, q, r, x, rfl, rfl, h2, h3, h4, h5⟩
set_option maxRecDepth 100000 in
set_option maxHeartbeats 800000 in
theorem mw7_any (m b : Nat) (f y : Value) (iv : Nat → Nat) (z : Nat) (t s : ByteArray) (hv : ∀ i, iv i < 4294967296) (hl : t.size + s.size < 2305843009213693952) (w : World) (hK : Kk w) (h0 : b ≠ 1) (hm : w.cell? ⟨m, 1, none⟩ = some f) (hS : Sv7 w f y b iv z t) :
    Calls Tryz.prog 49 #[.pointer (some ⟨m, 1, none⟩), .string s] w fun e w' => e = .returned (.int .i64 0) ∧ Kp (At1 b) w w' ∧ Sv7 w' f y b iv z (t ++ s) := by
  obtain ⟨c, u, hb, hc⟩ := hS.big
  have HT : Hid (∀ w', Kp (At1 b) w w' → Hs w' b iv z (t ++ s) → Sv7 w' f y b iv z (t ++ s)) := fun w' k h => hS.kp k hb hc fun _ => h
  obtain ⟨q, r, x, hf, _, h2, h3, h4, h5⟩ := hS
  have C1 : Hid (Unit → Calls Tryz.prog 84 #[.string s, .pointer (some ⟨q, 0, none⟩), .pointer (some ⟨x, 0, none⟩)] w fun e w' => e = .returned (.int .i64 0) ∧ Kp (At1 b) w w' ∧ Hs w' b iv z (t ++ s)) := fun _ => cw7_any q x b iv z t s hv hl w hK h0 h2 h4 h5
  have c1 : w.cell? ⟨m, 1, none⟩ = some (.func (.func 84) #[] #[.pointer (some ⟨q, 0, none⟩), .pointer (some ⟨x, 0, none⟩)]) := hf ▸ hm
  clear hv hl hK h0 h2 h3 h4 h5 hb hc hm hf
  go_enter Tryz.func49, Tryz.ntmps49
  go_wp2_with (go_at_call 84; refine (C1.out ()).mono ?_; rintro e w1 ⟨rfl, K1, H1⟩)
  go_ret
  exact ⟨rfl, K1, HT.out _ K1 H1⟩
set_option maxRecDepth 100000 in
set_option maxHeartbeats 800000 in
theorem ms7_any (m b : Nat) (f y : Value) (iv : Nat → Nat) (z : Nat) (t : ByteArray) (hv : ∀ i, iv i < 4294967296) (hz : z ≤ 32) (hl : t.size < 2305843009213693952) (w : World) (hK : Kk w) (hm : w.cell? ⟨m, 2, none⟩ = some y) (hS : Sv7 w f y b iv z t) :
    Calls Tryz.prog 51 #[.pointer (some ⟨m, 1, none⟩)] w fun e w' => e = .returned (.string (sha iv z t)) ∧ Sm w w' := by
  obtain ⟨q, r, x, _, hf, h2, h3, h4, h5⟩ := hS
  obtain ⟨A, hA⟩ : ∃ A, sha iv z t = A := ⟨_, rfl⟩
  have C1 : Hid (Unit → Calls Tryz.prog 85 #[.pointer (some ⟨r, 0, none⟩), .pointer (some ⟨x, 0, none⟩)] w fun e w' => e = .returned (.string A) ∧ Sm w w') := fun _ => hA ▸ cs7_any r x b iv z t hv hz hl w hK h3 h4 h5
  have c1 : w.cell? ⟨m, 2, none⟩ = some (.func (.func 85) #[] #[.pointer (some ⟨r, 0, none⟩), .pointer (some ⟨x, 0, none⟩)]) := hf ▸ hm
  rw [hA]
  clear hv hl hK hz h2 h3 h4 h5 hA hm hf
  go_enter Tryz.func51, Tryz.ntmps51
  go_wp2_with (go_at_call 85; refine (C1.out ()).mono ?_; rintro e w1 ⟨rfl, S1⟩)
  go_ret
  exact ⟨rfl, S1⟩
set_option maxRecDepth 100000 in
set_option maxHeartbeats 800000 in
theorem mw8_any (m b : Nat) (f y : Value) (iv : Nat → Nat) (z : Nat) (t s : ByteArray) (hv : ∀ i, iv i < 18446744073709551616) (hl : t.size + s.size < 2305843009213693952) (w : World) (hK : L8.Kk w) (h0 : b ≠ 2) (hm : w.cell? ⟨m, 1, none⟩ = some f) (hS : Sv8 w f y b iv z t) :
    Calls Tryz.prog 49 #[.pointer (some ⟨m, 1, none⟩), .string s] w fun e w' => e = .returned (.int .i64 0) ∧ Kp (At1 b) w w' ∧ Sv8 w' f y b iv z (t ++ s) := by
  obtain ⟨c, u, hb, hc⟩ := hS.big
  have HT : Hid (∀ w', Kp (At1 b) w w' → L8.Hs w' b iv z (t ++ s) → Sv8 w' f y b iv z (t ++ s)) := fun w' k h => hS.kp k hb hc fun _ => h
  obtain ⟨q, r, x, hf, _, h2, h3, h4, h5⟩ := hS
  have C1 : Hid (Unit → Calls Tryz.prog 92 #[.string s, .pointer (some ⟨q, 0, none⟩), .pointer (some ⟨x, 0, none⟩)] w fun e w' => e = .returned (.int .i64 0) ∧ Kp (At1 b) w w' ∧ L8.Hs w' b iv z (t ++ s)) := fun _ => cw8_any q x b iv z t s hv hl w hK h0 h2 h4 h5
  have c1 : w.cell? ⟨m, 1, none⟩ = some (.func (.func 92) #[] #[.pointer (some ⟨q, 0, none⟩), .pointer (some ⟨x, 0, none⟩)]) := hf ▸ hm
  clear hv hl hK h0 h2 h3 h4 h5 hb hc hm hf
  go_enter Tryz.func49, Tryz.ntmps49
  go_wp2_with (go_at_call 92; refine (C1.out ()).mono ?_; rintro e w1 ⟨rfl, K1, H1⟩)
  go_ret
  exact ⟨rfl, K1, HT.out _ K1 H1⟩
set_option maxRecDepth 100000 in
set_option maxHeartbeats 800000 in
theorem ms8_any (m b : Nat) (f y : Value) (iv : Nat → Nat) (z : Nat) (t : ByteArray) (hv : ∀ i, iv i < 18446744073709551616) (hz : z ≤ 64) (hl : t.size < 2305843009213693952) (w : World) (hK : L8.Kk w) (hm : w.cell? ⟨m, 2, none⟩ = some y) (hS : Sv8 w f y b iv z t) :
    Calls Tryz.prog 51 #[.pointer (some ⟨m, 1, none⟩)] w fun e w' => e = .returned (.string (L8.sha iv z t)) ∧ Sm w w' := by
  obtain ⟨q, r, x, _, hf, h2, h3, h4, h5⟩ := hS
  obtain ⟨A, hA⟩ : ∃ A, L8.sha iv z t = A := ⟨_, rfl⟩
  have C1 : Hid (Unit → Calls Tryz.prog 93 #[.pointer (some ⟨r, 0, none⟩), .pointer (some ⟨x, 0, none⟩)] w fun e w' => e = .returned (.string A) ∧ Sm w w') := fun _ => hA ▸ cs8_any r x b iv z t hv hz hl w hK h3 h4 h5
  have c1 : w.cell? ⟨m, 2, none⟩ = some (.func (.func 93) #[] #[.pointer (some ⟨r, 0, none⟩), .pointer (some ⟨x, 0, none⟩)]) := hf ▸ hm
  rw [hA]
  clear hv hl hK hz h2 h3 h4 h5 hA hm hf
  go_enter Tryz.func51, Tryz.ntmps51
  go_wp2_with (go_at_call 93; refine (C1.out ()).mono ?_; rintro e w1 ⟨rfl, S1⟩)
  go_ret
  exact ⟨rfl, S1⟩
/-- Two functions that hold a stream of the hash id. -/
def Sv (w : World) (f s : Value) (b : Nat) (id : Int) (t : ByteArray) : Prop :=
  (id = 1 ∧ Sv7 w f s b iv224 28 t) ∨ (id = 2 ∧ Sv7 w f s b iv256 32 t) ∨ (id = 3 ∧ Sv8 w f s b L8.iv384 48 t) ∨ (id = 4 ∧ Sv8 w f s b L8.iv512 64 t)
theorem Sv.sm {w w' : World} {f s : Value} {b : Nat} {id : Int} {t : ByteArray} (h : Sv w f s b id t) (k : Sm w w') : Sv w' f s b id t := by
  rcases h with ⟨e, h⟩ | ⟨e, h⟩ | ⟨e, h⟩ | ⟨e, h⟩
  · exact Or.inl ⟨e, h.sm k⟩
  · exact Or.inr (Or.inl ⟨e, h.sm k⟩)
  · exact Or.inr (Or.inr (Or.inl ⟨e, h.sm k⟩))
  · exact Or.inr (Or.inr (Or.inr ⟨e, h.sm k⟩))
theorem Sv.big {w : World} {f s : Value} {b : Nat} {id : Int} {t : ByteArray} (h : Sv w f s b id t) : ∃ c u, Bk w b c u ∧ 4 < c.size := by
  rcases h with ⟨e, h⟩ | ⟨e, h⟩ | ⟨e, h⟩ | ⟨e, h⟩ <;> exact h.big
theorem Sv.one {w : World} {f s : Value} {b : Nat} {id : Int} {t : ByteArray} (h : Sv w f s b id t) : ∃ x y p q, f = .func x #[] p ∧ s = .func y #[] q := by
  rcases h with ⟨e, h⟩ | ⟨e, h⟩ | ⟨e, h⟩ | ⟨e, h⟩ <;> exact h.one
theorem Sv.far {w w' : World} {f s : Value} {b a : Nat} {c : Array Value} {u : TypeId} {id : Int} {t : ByteArray} (h : Sv w f s b id t) (k : Kp (At1 a) w w') (ha : Bk w a c u) (hc : 4 < c.size) (hn : b ≠ a) : Sv w' f s b id t := by
  rcases h with ⟨e, h⟩ | ⟨e, h⟩ | ⟨e, h⟩ | ⟨e, h⟩
  · exact Or.inl ⟨e, h.kp k ha hc fun h5 => h5.kp k hn⟩
  · exact Or.inr (Or.inl ⟨e, h.kp k ha hc fun h5 => h5.kp k hn⟩)
  · exact Or.inr (Or.inr (Or.inl ⟨e, h.kp k ha hc fun h5 => h5.kp k hn⟩))
  · exact Or.inr (Or.inr (Or.inr ⟨e, h.kp k ha hc fun h5 => h5.kp k hn⟩))
theorem St.sv {w : World} {g b : Nat} {id : Int} {t : ByteArray} (h : St w g b id t) : ∃ f s, Bk w g #[f, s] 100 ∧ Sv w f s b id t := by
  rcases h with ⟨e, h⟩ | ⟨e, h⟩ | ⟨e, h⟩ | ⟨e, h⟩
  · obtain ⟨f, s, h1, h2⟩ := h.sv
    exact ⟨f, s, h1, Or.inl ⟨e, h2⟩⟩
  · obtain ⟨f, s, h1, h2⟩ := h.sv
    exact ⟨f, s, h1, Or.inr (Or.inl ⟨e, h2⟩)⟩
  · obtain ⟨f, s, h1, h2⟩ := h.sv
    exact ⟨f, s, h1, Or.inr (Or.inr (Or.inl ⟨e, h2⟩))⟩
  · obtain ⟨f, s, h1, h2⟩ := h.sv
    exact ⟨f, s, h1, Or.inr (Or.inr (Or.inr ⟨e, h2⟩))⟩
theorem mw_any (m b : Nat) (f y : Value) (id : Int) (t s : ByteArray) (hl : t.size + s.size < 2305843009213693952) (w : World) (hK : KK w) (h0 : Nc b) (hm : w.cell? ⟨m, 1, none⟩ = some f) (hS : Sv w f y b id t) :
    Calls Tryz.prog 49 #[.pointer (some ⟨m, 1, none⟩), .string s] w fun e w' => e = .returned (.int .i64 0) ∧ Kp (At1 b) w w' ∧ Sv w' f y b id (t ++ s) := by
  rcases hS with ⟨e, h⟩ | ⟨e, h⟩ | ⟨e, h⟩ | ⟨e, h⟩
  · exact (mw7_any m b f y _ _ t s iv224_lt hl w hK.1 h0.1 hm h).mono fun _ _ ⟨h1, h2, h3⟩ => ⟨h1, h2, Or.inl ⟨e, h3⟩⟩
  · exact (mw7_any m b f y _ _ t s iv256_lt hl w hK.1 h0.1 hm h).mono fun _ _ ⟨h1, h2, h3⟩ => ⟨h1, h2, Or.inr (Or.inl ⟨e, h3⟩)⟩
  · exact (mw8_any m b f y _ _ t s L8.iv384_lt hl w hK.2 h0.2 hm h).mono fun _ _ ⟨h1, h2, h3⟩ => ⟨h1, h2, Or.inr (Or.inr (Or.inl ⟨e, h3⟩))⟩
  · exact (mw8_any m b f y _ _ t s L8.iv512_lt hl w hK.2 h0.2 hm h).mono fun _ _ ⟨h1, h2, h3⟩ => ⟨h1, h2, Or.inr (Or.inr (Or.inr ⟨e, h3⟩))⟩
theorem ms_any (m b : Nat) (f y : Value) (id : Int) (t : ByteArray) (hl : t.size < 2305843009213693952) (w : World) (hK : KK w) (hm : w.cell? ⟨m, 2, none⟩ = some y) (hS : Sv w f y b id t) :
    Calls Tryz.prog 51 #[.pointer (some ⟨m, 1, none⟩)] w fun e w' => e = .returned (.string (dig id t)) ∧ Sm w w' := by
  rcases hS with ⟨rfl, h⟩ | ⟨rfl, h⟩ | ⟨rfl, h⟩ | ⟨rfl, h⟩
  · exact ms7_any m b f y _ _ t iv224_lt (by decide) hl w hK.1 hm h
  · exact ms7_any m b f y _ _ t iv256_lt (by decide) hl w hK.1 hm h
  · exact ms8_any m b f y _ _ t L8.iv384_lt (by decide) hl w hK.2 hm h
  · exact ms8_any m b f y _ _ t L8.iv512_lt (by decide) hl w hK.2 hm h
/-- The mac at m, of the hash id: its outer pad is o, its inner stream's state lies in b, and t is written there. -/
def Mc (w : World) (m b : Nat) (id : Int) (o t : ByteArray) : Prop := ∃ f s, Bk w m #[.int .i64 id, f, s, .string o] 102 ∧ Sv w f s b id t
theorem Mc.sm {w w' : World} {m b : Nat} {id : Int} {o t : ByteArray} (h : Mc w m b id o t) (k : Sm w w') : Mc w' m b id o t := by
  obtain ⟨f, s, h1, h2⟩ := h
  exact ⟨f, s, h1.sm k, h2.sm k⟩
theorem Mc.big {w : World} {m b : Nat} {id : Int} {o t : ByteArray} (h : Mc w m b id o t) : ∃ c u, Bk w b c u ∧ 4 < c.size := by
  obtain ⟨f, s, h1, h2⟩ := h
  exact h2.big
theorem Mc.blt {w : World} {m b : Nat} {id : Int} {o t : ByteArray} (h : Mc w m b id o t) : b < w.heap.size := by
  obtain ⟨c, u, hb, _⟩ := h.big
  exact hb.lt
theorem Mc.far {w w' : World} {m b a : Nat} {c : Array Value} {u : TypeId} {id : Int} {o t : ByteArray} (h : Mc w m b id o t) (k : Kp (At1 a) w w') (ha : Bk w a c u) (hc : 4 < c.size) (hn : b ≠ a) : Mc w' m b id o t := by
  obtain ⟨f, s, h1, h2⟩ := h
  have e4 : (#[.int .i64 id, f, s, .string o] : Array Value).size = 4 := rfl
  exact ⟨f, s, h1.kp k fun e => h1.ne ha (by rw [e4]; omega) e, h2.far k ha hc hn⟩
set_option maxRecDepth 100000 in
set_option maxHeartbeats 800000 in
theorem mwrite_any (m b : Nat) (id : Int) (o t s : ByteArray) (hl : t.size + s.size < 2305843009213693952) (w : World) (hK : KK w) (h0 : Nc b) (hM : Mc w m b id o t) :
    Calls Tryz.prog 35 #[.pointer (some ⟨m, 0, none⟩), .string s] w fun e w' => e = .returned (.int .i64 0) ∧ Kp (At1 b) w w' ∧ Mc w' m b id o (t ++ s) := by
  obtain ⟨f, y, h1, h2⟩ := hM
  obtain ⟨c, u, hb, hc⟩ := h2.big
  have e4 : (#[.int .i64 id, f, y, .string o] : Array Value).size = 4 := rfl
  have HT : Hid (∀ w', Kp (At1 b) w w' → Sv w' f y b id (t ++ s) → Mc w' m b id o (t ++ s)) := fun w' k h => ⟨f, y, h1.kp k fun e => h1.ne hb (by rw [e4]; omega) e, h⟩
  have C1 : Hid (Unit → Calls Tryz.prog 49 #[.pointer (some ⟨m, 1, none⟩), .string s] w fun e w' => e = .returned (.int .i64 0) ∧ Kp (At1 b) w w' ∧ Sv w' f y b id (t ++ s)) := fun _ => mw_any m b f y id t s hl w hK h0 (h1.cell 1) h2
  clear hl hK h0 h1 h2 hb hc e4
  go_enter Tryz.func35, Tryz.ntmps35
  go_wp2_with (go_at_call 49; refine (C1.out ()).mono ?_; rintro e w1 ⟨rfl, K1, H1⟩)
  go_ret
  exact ⟨rfl, K1, HT.out _ K1 H1⟩
end Go.Proofs.YtconibmdlfkopaaGreatDoor
namespace Go.Proofs.YtconibmdlfkopaaGreatDoor
open Go.RowKit
theorem u8_xor_nat (a b : Nat) (ha : a < 256) (hb : b < 256) : bits .xor .u8 (a : Int) (b : Int) = ((a ^^^ b : Nat) : Int) := by
  have hx : a ^^^ b < 2 ^ 8 := Nat.xor_lt_two_pow (by omega) (by omega)
  have h1 : (BitVec.ofInt 8 (a : Int)).toNat = a := by rw [BitVec.ofInt_natCast, BitVec.toNat_ofNat]; exact Nat.mod_eq_of_lt (by omega)
  have h2 : (BitVec.ofInt 8 (b : Int)).toNat = b := by rw [BitVec.ofInt_natCast, BitVec.toNat_ofNat]; exact Nat.mod_eq_of_lt (by omega)
  show IntKind.u8.wrap ((BitVec.ofInt 8 (a : Int) ^^^ BitVec.ofInt 8 (b : Int)).toNat : Int) = _
  rw [BitVec.toNat_xor, h1, h2]
  have : IntKind.u8.wrap ((a ^^^ b : Nat) : Int) = ((a ^^^ b : Nat) : Int) % 256 := IntKind.wrap_u8 _
  rw [this]
  omega
theorem xor8 {a b : Nat} (ha : a < 256) (hb : b < 256) : a ^^^ b < 256 := Nat.xor_lt_two_pow (n := 8) ha hb
/-- How many bytes a block of the hash id has. -/
def hk (id : Int) : Nat := if id = 1 ∨ id = 2 then 64 else 128
theorem Hi.hk {id z k : Int} (h : Hi id z k) : k = ((hk id : Nat) : Int) := by
  rcases h with ⟨rfl, rfl, rfl⟩ | ⟨rfl, rfl, rfl⟩ | ⟨rfl, rfl, rfl⟩ | ⟨rfl, rfl, rfl⟩ <;> rfl
theorem hk_or (id : Int) : hk id = 64 ∨ hk id = 128 := by
  unfold hk
  split
  · exact Or.inl rfl
  · exact Or.inr rfl
/-- What is laid into the key's block: the key, or its digest. -/
def ky (id : Int) (key : ByteArray) : ByteArray := if hk id < key.size then dig id key else key
/-- The pads. -/
def pd (id : Int) (key : ByteArray) (x : Nat) : ByteArray := bt (fun i => xb (ky id key) i ^^^ x) (hk id)
/-- The mac. -/
def mac (id : Int) (key msg : ByteArray) : ByteArray := dig id (pd id key 92 ++ dig id (pd id key 54 ++ msg))
theorem pd_size (id : Int) (key : ByteArray) (x : Nat) : (pd id key x).size = hk id := bt_size _ _
theorem ky_size {id z k : Int} (h : Hi id z k) (key : ByteArray) : (ky id key).size ≤ hk id := by
  unfold ky
  split
  · have e := dig_size h key
    rcases h with ⟨rfl, rfl, rfl⟩ | ⟨rfl, rfl, rfl⟩ | ⟨rfl, rfl, rfl⟩ | ⟨rfl, rfl, rfl⟩
    · have : hk 1 = 64 := rfl
      omega
    · have : hk 2 = 64 := rfl
      omega
    · have : hk 3 = 128 := rfl
      omega
    · have : hk 4 = 128 := rfl
      omega
  · omega
theorem xb_none (s : ByteArray) (k : Nat) (h : s.size ≤ k) : xb s k = 0 := by
  rw [xb_data, Array.getElem?_eq_none h]
  rfl
/-- A text copied over noughts. -/
theorem setL_key (n : Nat) (K : ByteArray) (h : K.size ≤ n) : setL (br n fun _ => 0) 0 (br K.size (xb K)).toList = br n (xb K) := by
  apply Array.ext_getElem?
  intro j
  rw [setL_get, Array.length_toList, br_size, br_size]
  by_cases c : j < K.size
  · rw [if_pos ⟨by omega, by omega, by omega⟩, Array.getElem?_toList, br_get _ _ _ (by omega), br_get n _ j (by omega), Nat.sub_zero]
  · rw [if_neg (by omega)]
    by_cases c2 : j < n
    · rw [br_get n _ j c2, br_get n _ j c2, xb_none K j (by omega)]
    · rw [br_none n _ j (by omega), br_none n _ j (by omega)]
theorem copy_key (ty : TypeId) (w : World) (b n c : Nat) (t : TypeId) (K : ByteArray) (hb : Bk w b (br n fun _ => 0) t) (hK : K.size ≤ n) (h0 : 0 < n) :
    (copyT ty (.slice (some ⟨b, 0, none⟩) n c) (.string K)).run Tryz.prog w = .ok (goInt ((K.size : Nat) : Int)) (setBlk w b (br n (xb K))) := by
  unfold copyT
  rw [run_copy_min w 46 9 ty 5 b 0 n c K K.size Tryz.underlying46 run_size8 (Nat.min_eq_left hK) (fun j hj => ?_) (fun j _ => hb.fz _), setCells_setBlk _ _ _ _ (by rw [hb.blk, br_size]; exact h0), hb.blk, setL_key n K hK]
  rw [hb.cell, br_get n _ _ (by omega)]
  rfl
attribute [local go_sem ↓] mkS_is cvS_is copyT_is
set_option maxRecDepth 100000 in
set_option maxHeartbeats 800000 in
theorem keyb_any (id z k : Int) (h : Hi id z k) (key : ByteArray) (hl : key.size < 2305843009213693952) (w : World) (hK : KK w) :
    Calls Tryz.prog 48 #[.int .i64 id, .string key] w fun e w' => ∃ g, e = .returned (.slice (some ⟨g, 0, none⟩) (hk id) (hk id)) ∧ w.heap.size ≤ g ∧ Bk w' g (br (hk id) (xb (ky id key))) 5 ∧ Sm w w' := by
  have hs := ky_size h key
  obtain ⟨n, hn⟩ : ∃ n, hk id = n := ⟨_, rfl⟩
  have hk' := h.hk
  rw [hn] at hs hk'
  subst hk'
  have hn2 := hk_or id
  rw [hn] at hn2
  have CB : Hid (∀ w, Calls Tryz.prog 67 #[.int .i64 id] w fun e w' => e = .returned (.int .i64 (n : Int)) ∧ Sm w w') := fun w => hblock_any id z n h w
  have mk := fun w => mkS_run w .i64 .i64 n (by omega)
  have HK : Hid (KK w) := hK
  have n0 : (0 : Int) ≤ (n : Int) := by omega
  have n1 : (n : Int) ≤ 128 := by omega
  have HN : Hid (0 < n) := show 0 < n by omega
  by_cases c : n < key.size
  · obtain ⟨K, hKy⟩ : ∃ K, dig id key = K := ⟨_, rfl⟩
    have e : ky id key = K := by unfold ky; rw [hn, if_pos c, hKy]
    rw [e] at hs
    rw [e, hn]
    have CO : Hid (∀ w, KK w → Calls Tryz.prog 68 #[.int .i64 id, .string key] w fun e w' => e = .returned (.tuple #[.string K, .int .i64 0]) ∧ Sm w w') := fun w hw => hKy ▸ hof_any id z n key h hl w hw
    have HS : Hid (K.size ≤ n) := hs
    have c1 : (n : Int) < (key.size : Int) := by omega
    clear h hl hK hn hn2 hKy e c hs
    go_enter Tryz.func48, Tryz.ntmps48
    go_wp2_with (first
      | (go_at_call 67; refine (CB.out _).mono ?_; rintro e w1 ⟨rfl, S1⟩; have k1 := (HK.out.sm S1).sm ((Sm.refl _).alloc (.cells (br n fun _ => 0) 5)); have b1 := Bk.new w1 (br n fun _ => 0) 5)
      | (go_at_call 68; refine (CO.out _ k1).mono ?_; rintro e w2 ⟨rfl, S2⟩; have b2 := b1.sm S2; have cp := fun ty c => copy_key ty w2 w1.heap.size n c 5 K b2 HS.out HN.out))
    go_ret
    exact ⟨_, rfl, S1.size, b2.put _, Sm.of ((((S1.kp _).alloc _).trans (S2.kp _)).put _ _ S1.size)⟩
  · have e : ky id key = key := by unfold ky; rw [hn, if_neg c]
    rw [e] at hs
    rw [e, hn]
    have HS : Hid (key.size ≤ n) := hs
    have c1 : ¬ (n : Int) < (key.size : Int) := by omega
    clear h hl hK hn hn2 e c hs
    go_enter Tryz.func48, Tryz.ntmps48
    go_wp2_with (go_at_call 67; refine (CB.out _).mono ?_; rintro e w1 ⟨rfl, S1⟩; have b1 := Bk.new w1 (br n fun _ => 0) 5; have cp := fun ty c => copy_key ty _ w1.heap.size n c 5 key b1 HS.out HN.out)
    go_ret
    exact ⟨_, rfl, S1.size, b1.put _, Sm.of (((S1.kp _).alloc _).put _ _ S1.size)⟩
/-- A row of which the first k bytes are done. -/
def px (f : Nat → Nat) (x k : Nat) (j : Nat) : Nat := if j < k then f j ^^^ x else 0
set_option maxRecDepth 100000 in
set_option maxHeartbeats 800000 in
theorem pad_any (g n x : Nat) (f : Nat → Nat) (hf : ∀ i, f i < 256) (hx : x < 256) (hn : n ≤ 128) (w : World) (hb : Bk w g (br n f) 5) :
    Calls Tryz.prog 50 #[.slice (some ⟨g, 0, none⟩) n n, .int .u8 (x : Int)] w fun e w' => e = .returned (.string (bt (fun i => f i ^^^ x) n)) ∧ Sm w w' := by
  have mk := fun w => mkS_run w .i64 .i64 n (by omega)
  have n0 : (0 : Int) ≤ (n : Int) := by omega
  have n1 : (n : Int) ≤ 128 := by omega
  have HF : Hid (∀ i, f i < 256) := hf
  have HX : Hid (x < 256) := hx
  clear hf hx hn
  go_enter Tryz.func50, Tryz.ntmps50
  go_wp2
  have b1 := Bk.new w (br n fun _ => 0) 5
  have S1 := (Sm.refl w).alloc (.cells (br n fun _ => 0) 5)
  generalize w.alloc (.cells (br n fun _ => 0) 5) = v at *
  clear mk
  go_loopw [13] (fun i u => ∃ k : Nat, k ≤ n ∧ i = .int .i64 (k : Int) ∧ Bk u w.heap.size (br n (px f x k)) 5 ∧ Kp (Fr w.heap.size) w u) (fun i _ => n - (intOf i).toNat)
  case atStart => exact ⟨0, by omega, rfl, b1, S1.kp _⟩
  case round =>
    clear b1 S1
    obtain ⟨k, hk, rfl, b1, K1⟩ := hrel
    have hg := hb.lt
    have hb1 := hb.kp K1 (fun e => by have e : w.heap.size ≤ g := e; omega)
    by_cases c : k < n
    · have k0 : (0 : Int) ≤ (k : Int) := by omega
      have k1 : (k : Int) < (n : Int) := by omega
      have c1 := (hb1.cell k).trans (br_get n _ k c)
      have c2 := (b1.cell k).trans (br_get n _ k c)
      have f2 := b1.fz k
      have HE : Hid (Unit → _) := fun (_ : Unit) => u8_xor_nat (f k) x (HF.out k) HX.out
      go_wp2
      go_roundw
      case rel =>
        refine ⟨k + 1, by omega, by go_num, (b1.set k _).cast ?_, K1.setCell _ _ (Nat.le_refl _)⟩
        rw [HE.out ()]
        refine br_put n _ _ k _ ?_ fun i hi hne => ?_
        · unfold px
          rw [if_pos (by omega)]
        · unfold px
          by_cases d : i < k
          · rw [if_pos d, if_pos (by omega)]
          · rw [if_neg d, if_neg (by omega)]
      case measure => simp [intOf]; omega
    · have ki : ¬ (k : Int) < (n : Int) := by omega
      have cv := fun c => cvS_run _ w.heap.size 0 n c (px f x k) fun i hi => by rw [Nat.zero_add]; exact (b1.cell i).trans (br_get n _ i hi)
      have HE : Hid (Unit → bt (px f x k) n = bt (fun i => f i ^^^ x) n) := fun _ => bt_ext _ _ _ fun i hi => by unfold px; rw [if_pos (by omega)]
      clear c hk
      go_wp2
      go_ret
      exact ⟨congrArg (fun z => Ending.returned (Value.string z)) (HE.out ()), Sm.of K1⟩
end Go.Proofs.YtconibmdlfkopaaGreatDoor
namespace Go.Proofs.YtconibmdlfkopaaGreatDoor
open Go.RowKit
theorem ldT_is (v : Value) : Instr.loadAt 100 v = loadS 100 v := rfl
def buildM (ps : Array (Nat × Value)) : Sem Value := Instr.build 102 ps
theorem bdM_is (ps : Array (Nat × Value)) : Instr.build 102 ps = buildM ps := rfl
theorem bdM (id : Int) (x y : Fn) (p q : Array Value) (o : ByteArray) (w : World) : (buildM #[(0, .int .i64 id), (1, .agg #[.func x #[] p, .func y #[] q]), (2, .string o)]).run Tryz.prog w = .ok (.agg #[.int .i64 id, .func x #[] p, .func y #[] q, .string o]) w := by kernel_rfl
theorem ldT {w : World} {g : Nat} {f s : Value} {t : TypeId} (h : Bk w g #[f, s] t) : (loadS 100 (.pointer (some ⟨g, 0, none⟩))).run Tryz.prog w = .ok (.agg #[f, s]) w :=
  loadS_part 2 Tryz.underlying100 rfl (by kernel_rfl) rfl fun i hi => by rw [h.cell, Nat.zero_add]
attribute [local go_sem ↓] ldT_is bdM_is
attribute [local go_sem] bdM
set_option maxRecDepth 100000 in
set_option maxHeartbeats 1600000 in
theorem mnew_any (id z k : Int) (h : Hi id z k) (key : ByteArray) (hl : key.size < 2305843009213693952) (w : World) (hK : KK w) :
    Calls Tryz.prog 34 #[.int .i64 id, .string key] w fun e w' => ∃ m b, e = .returned (.tuple #[.pointer (some ⟨m, 0, none⟩), .int .i64 0]) ∧ w.heap.size ≤ m ∧ w.heap.size ≤ b ∧ Mc w' m b id (pd id key 92) (pd id key 54) ∧ Sm w w' := by
  have HK : Hid (KK w) := hK
  have C1 : Hid (∀ w, Calls Tryz.prog 47 #[.int .i64 id] w fun e w' => ∃ g b, e = .returned (.tuple #[.pointer (some ⟨g, 0, none⟩), .int .i64 0]) ∧ w.heap.size ≤ g ∧ w.heap.size ≤ b ∧ St w' g b id .empty ∧ Sm w w') := hnew_any id z k h
  have C2 : Hid (∀ w, KK w → Calls Tryz.prog 48 #[.int .i64 id, .string key] w fun e w' => ∃ g, e = .returned (.slice (some ⟨g, 0, none⟩) (hk id) (hk id)) ∧ w.heap.size ≤ g ∧ Bk w' g (br (hk id) (xb (ky id key))) 5 ∧ Sm w w') := keyb_any id z k h key hl
  have hn : hk id ≤ 128 := by rcases hk_or id with e | e <;> omega
  obtain ⟨n, hn'⟩ : ∃ n, hk id = n := ⟨_, rfl⟩
  obtain ⟨O, hO⟩ : ∃ O, pd id key 92 = O := ⟨_, rfl⟩
  obtain ⟨I, hI⟩ : ∃ I, pd id key 54 = I := ⟨_, rfl⟩
  have hIs : I.size ≤ 128 := by rw [← hI, pd_size]; exact hn
  have C3 : Hid (∀ g w, Bk w g (br n (xb (ky id key))) 5 → Calls Tryz.prog 50 #[.slice (some ⟨g, 0, none⟩) n n, .int .u8 54] w fun e w' => e = .returned (.string I) ∧ Sm w w') := fun g w hb => by
    rw [← hI, ← hn'] at *
    exact pad_any g _ 54 _ (xb_lt _) (by decide) hn w hb
  have C4 : Hid (∀ g w, Bk w g (br n (xb (ky id key))) 5 → Calls Tryz.prog 50 #[.slice (some ⟨g, 0, none⟩) n n, .int .u8 92] w fun e w' => e = .returned (.string O) ∧ Sm w w') := fun g w hb => by
    rw [← hO, ← hn'] at *
    exact pad_any g _ 92 _ (xb_lt _) (by decide) hn w hb
  have C5 : Hid (∀ g b w, KK w → Nc b → St w g b id .empty → Calls Tryz.prog 49 #[.pointer (some ⟨g, 0, none⟩), .string I] w fun e w' => e = .returned (.int .i64 0) ∧ Kp (At1 b) w w' ∧ St w' g b id I) := fun g b w h1 h2 h3 => by
    have := hwrite_any g b id .empty I (by simp; omega) w h1 h2 h3
    rwa [app_nil] at this
  rw [hO, hI]
  rw [hn'] at C2
  clear h hl hK hn hO hI hIs hn'
  go_enter Tryz.func34, Tryz.ntmps34
  go_wp2_with (first
    | (go_at_call 47; refine (C1.out _).mono ?_; rintro e w1 ⟨g, b, rfl, hg, hb, H1, S1⟩; have k1 := HK.out.sm S1; have hnc := HK.out.nc hb)
    | (go_at_call 48; refine (C2.out _ k1).mono ?_; rintro e w2 ⟨y, rfl, hy, B2, S2⟩; have k2 := k1.sm S2; have H2 := H1.sm S2)
    | (go_at_call_of 50 (Value.int IntKind.u8 54); refine (C3.out _ _ B2).mono ?_; rintro e w3 ⟨rfl, S3⟩; have k3 := k2.sm S3; have H3 := H2.sm S3)
    | (go_at_call 49; refine (C5.out _ _ _ k3 hnc H3).mono ?_; rintro e w4 ⟨rfl, K4, H4⟩))
  have hby : y ≠ b := by have := H1.blt; omega
  have B4 := (B2.sm S3).kp K4 hby
  obtain ⟨f, s, BG, SV⟩ := H4.sv
  obtain ⟨x1, x2, p1, p2, rfl, rfl⟩ := SV.one
  have ld4 := ldT BG.drew
  have B4' := B4.drew
  have HKp : Kp (Fr w.heap.size) w w4 := (((S1.kp _).trans (S2.kp _)).trans (S3.kp _)).trans (K4.fr hb)
  have hs4 := HKp.size
  clear H1 S1 k1 H2 S2 k2 H3 S3 k3 K4 H4 hnc hy hby HK C1 C2 C3 C5 B2
  go_region_with (go_at_call 50; refine (C4.out _ _ B4').mono ?_; rintro e w5 ⟨rfl, S5⟩; have ld5 := ldT (BG.drew.sm S5))
  all_goals
    go_wp2
    go_ret2
    have h5 := S5.size
    have h5' : w4.heap.size ≤ w5.heap.size := h5
    exact ⟨_, b, rfl, by omega, hb, ⟨_, _, Bk.new w5 _ _, (SV.sm ((Sm.refl w4).drew.trans S5)).sm ((Sm.refl _).alloc _)⟩, Sm.of ((HKp.drew.trans (S5.kp _)).alloc _)⟩
set_option maxRecDepth 100000 in
set_option maxHeartbeats 800000 in
theorem mnew_no (id : Int) (key : ByteArray) (h : id ≤ 0 ∨ 5 ≤ id) (w : World) :
    Calls Tryz.prog 34 #[.int .i64 id, .string key] w fun e w' => e = .returned (.tuple #[.pointer none, .int .i64 1000]) ∧ Sm w w' := by
  have C1 : Hid (∀ w, Calls Tryz.prog 47 #[.int .i64 id] w fun e w' => e = .returned (.tuple #[.pointer none, .int .i64 900]) ∧ Sm w w') := hnew_no id h
  clear h
  go_enter Tryz.func34, Tryz.ntmps34
  go_wp2_with (go_at_call 47; refine (C1.out _).mono ?_; rintro e w1 ⟨rfl, S1⟩)
  go_ret2
  exact ⟨rfl, S1⟩
set_option maxRecDepth 100000 in
set_option maxHeartbeats 1600000 in
theorem msum_any (m b : Nat) (id z k : Int) (h : Hi id z k) (o t : ByteArray) (ho : o.size ≤ 128) (hl : t.size < 2305843009213693952) (w : World) (hK : KK w) (hM : Mc w m b id o t) :
    Calls Tryz.prog 36 #[.pointer (some ⟨m, 0, none⟩)] w fun e w' => e = .returned (.string (dig id (o ++ dig id t))) ∧ Sm w w' := by
  have HK : Hid (KK w) := hK
  obtain ⟨A, hA⟩ : ∃ A, dig id t = A := ⟨_, rfl⟩
  have hAz := dig_size h t
  rw [hA] at hAz
  have hAs : A.size ≤ 64 := by rcases h with ⟨_, rfl, _⟩ | ⟨_, rfl, _⟩ | ⟨_, rfl, _⟩ | ⟨_, rfl, _⟩ <;> omega
  have hoA : (o ++ A).size ≤ 192 := by rw [ByteArray.size_append]; omega
  rw [hA]
  obtain ⟨B, hB⟩ : ∃ B, dig id (o ++ A) = B := ⟨_, rfl⟩
  obtain ⟨f, y, h1, h2⟩ := hM
  have C1 : Hid (∀ w, Calls Tryz.prog 47 #[.int .i64 id] w fun e w' => ∃ g b, e = .returned (.tuple #[.pointer (some ⟨g, 0, none⟩), .int .i64 0]) ∧ w.heap.size ≤ g ∧ w.heap.size ≤ b ∧ St w' g b id .empty ∧ Sm w w') := hnew_any id z k h
  have C2 : Hid (∀ g b w, KK w → Nc b → St w g b id .empty → Calls Tryz.prog 49 #[.pointer (some ⟨g, 0, none⟩), .string o] w fun e w' => e = .returned (.int .i64 0) ∧ Kp (At1 b) w w' ∧ St w' g b id o) := fun g b w h1 h2 h3 => by
    have := hwrite_any g b id .empty o (by simp; omega) w h1 h2 h3
    rwa [app_nil] at this
  have C3 : Hid (∀ w', KK w' → w'.cell? ⟨m, 2, none⟩ = some y → Sv w' f y b id t → Calls Tryz.prog 51 #[.pointer (some ⟨m, 1, none⟩)] w' fun e w'' => e = .returned (.string A) ∧ Sm w' w'') := fun w' x1 x2 x3 => hA ▸ ms_any m b f y id t hl w' x1 x2 x3
  have C4 : Hid (∀ g b w, KK w → Nc b → St w g b id o → Calls Tryz.prog 49 #[.pointer (some ⟨g, 0, none⟩), .string A] w fun e w' => e = .returned (.int .i64 0) ∧ Kp (At1 b) w w' ∧ St w' g b id (o ++ A)) := fun g b w h1 h2 h3 => hwrite_any g b id o A (by omega) w h1 h2 h3
  have C5 : Hid (∀ g b w, KK w → St w g b id (o ++ A) → Calls Tryz.prog 51 #[.pointer (some ⟨g, 0, none⟩)] w fun e w' => e = .returned (.string B) ∧ Sm w w') := fun g b w h1 h2 => hB ▸ hsum_any g b id (o ++ A) (by omega) w h1 h2
  rw [hB]
  have hbl : b < w.heap.size := by
    obtain ⟨c, u, hb, _⟩ := h2.big
    exact hb.lt
  have hml := h1.lt
  have c0 : w.cell? ⟨m, 0, none⟩ = some (.int .i64 id) := h1.cell 0
  clear h hl hK hA hAz hAs hoA hB ho
  go_enter Tryz.func36, Tryz.ntmps36
  go_wp2_with (first
    | (go_at_call 47; refine (C1.out _).mono ?_; rintro e w1 ⟨g, a, rfl, hg, ha, H1, S1⟩; have k1 := HK.out.sm S1; have hnc := HK.out.nc ha; have v1 := h2.sm S1; have m1 := h1.sm S1; have c3 : w1.cell? ⟨m, 3, none⟩ = some (.string o) := m1.cell 3)
    | (go_at_call 49; first | (refine (C4.out _ _ _ k3 hnc H3).mono ?_; rintro e w4 ⟨rfl, K4, H4⟩; have k4 := k3.at1 K4 hnc) | (refine (C2.out _ _ _ k1 hnc H1).mono ?_; rintro e w2 ⟨rfl, K2, H2⟩; have k2 := k1.at1 K2 hnc; have hab : b ≠ a := (by omega); have hma : m ≠ a := (by omega); have m2 := m1.kp K2 hma; obtain ⟨bc, bu, bb, bs⟩ : ∃ c u, Bk w1 a c u ∧ 4 < c.size := (H1.sv).elim (fun _ h => h.elim (fun _ h => h.2.big)); have v2 := v1.far K2 bb bs hab; have c2 : w2.cell? ⟨m, 2, none⟩ = some y := m2.cell 2))
    | (go_at_call 51; first | (refine (C5.out _ _ _ k4 H4).mono ?_; rintro e w5 ⟨rfl, S5⟩) | (refine (C3.out _ k2 c2 v2).mono ?_; rintro e w3 ⟨rfl, S3⟩; have k3 := k2.sm S3; have H3 := H2.sm S3)))
  go_ret
  exact ⟨rfl, Sm.of (((((S1.kp _).trans (K2.fr ha)).trans (S3.kp _)).trans (K4.fr ha)).trans (S5.kp _))⟩
end Go.Proofs.YtconibmdlfkopaaGreatDoor
