/-
  A stream that lies inside another object: hmac's Mac holds one by value.
-/
import Derived.Test.YtcdkajfpllpgaaaDoorYE
namespace Go.Proofs.YtcdkajfpllpgaaaDoor
open Go.RowKit
attribute [local go_sem] eqW eqS
/-- Two functions that hold a stream of layer 7; its state lies in block b. -/
def Sv7 (w : World) (f s : Value) (b : Nat) (iv : Nat → Nat) (z : Nat) (t : ByteArray) : Prop :=
  ∃ q r h, f = .func (.func 51) #[] #[.pointer (some ⟨q, 0, none⟩), .pointer (some ⟨h, 0, none⟩)] ∧ s = .func (.func 52) #[] #[.pointer (some ⟨r, 0, none⟩), .pointer (some ⟨h, 0, none⟩)] ∧ Bk w q #[.func (.func 44) #[] #[]] 84 ∧ Bk w r #[.func (.func 45) #[] #[]] 86 ∧ Bk w h #[.pointer (some ⟨b, 0, none⟩)] 85 ∧ Hs w b iv z t
theorem Sv7.sm {w w' : World} {f s : Value} {b : Nat} {iv : Nat → Nat} {z : Nat} {t : ByteArray} (h : Sv7 w f s b iv z t) (k : Sm w w') : Sv7 w' f s b iv z t := by
  obtain ⟨q, r, x, h0, h1, h2, h3, h4, h5⟩ := h
  exact ⟨q, r, x, h0, h1, h2.sm k, h3.sm k, h4.sm k, h5.sm k⟩
theorem Sv7.big {w : World} {f s : Value} {b : Nat} {iv : Nat → Nat} {z : Nat} {t : ByteArray} (h : Sv7 w f s b iv z t) : ∃ c u, Bk w b c u ∧ 4 < c.size := by
  obtain ⟨q, r, x, h0, h1, h2, h3, h4, f, p, _, h5⟩ := h
  exact ⟨_, _, h5, by rw [hc_size]; decide⟩
theorem Sv7.kp {w w' : World} {f s : Value} {b a : Nat} {c : Array Value} {u : TypeId} {iv : Nat → Nat} {z : Nat} {t t' : ByteArray} (h : Sv7 w f s b iv z t) (k : Kp (At1 a) w w') (ha : Bk w a c u) (hc : 4 < c.size) (hs : Hs w b iv z t → Hs w' b iv z t') : Sv7 w' f s b iv z t' := by
  obtain ⟨q, r, x, h0, h1, h2, h3, h4, h5⟩ := h
  have e2 : ∀ v : Value, (#[v] : Array Value).size = 1 := fun _ => rfl
  exact ⟨q, r, x, h0, h1, h2.kp k fun e => h2.ne ha (by rw [e2]; omega) e, h3.kp k fun e => h3.ne ha (by rw [e2]; omega) e, h4.kp k fun e => h4.ne ha (by rw [e2]; omega) e, hs h5⟩
theorem Sv7.one {w : World} {f s : Value} {b : Nat} {iv : Nat → Nat} {z : Nat} {t : ByteArray} (h : Sv7 w f s b iv z t) : ∃ x y p q, f = .func x #[] p ∧ s = .func y #[] q := by
  obtain ⟨q, r, x, h0, h1, _⟩ := h
  exact ⟨_, _, _, _, h0, h1⟩
theorem St7.sv {w : World} {g b : Nat} {iv : Nat → Nat} {z : Nat} {t : ByteArray} (h : St7 w g b iv z t) : ∃ f s, Bk w g #[f, s] 48 ∧ Sv7 w f s b iv z t := by
  obtain ⟨q, r, x, h1, h2, h3, h4, h5⟩ := h
  exact ⟨_, _, h1, q, r, x, rfl, rfl, h2, h3, h4, h5⟩
/-- Two functions that hold a stream of layer 8; its state lies in block b. -/
def Sv8 (w : World) (f s : Value) (b : Nat) (iv : Nat → Nat) (z : Nat) (t : ByteArray) : Prop :=
  ∃ q r h, f = .func (.func 59) #[] #[.pointer (some ⟨q, 0, none⟩), .pointer (some ⟨h, 0, none⟩)] ∧ s = .func (.func 60) #[] #[.pointer (some ⟨r, 0, none⟩), .pointer (some ⟨h, 0, none⟩)] ∧ Bk w q #[.func (.func 48) #[] #[]] 95 ∧ Bk w r #[.func (.func 49) #[] #[]] 97 ∧ Bk w h #[.pointer (some ⟨b, 0, none⟩)] 96 ∧ L8.Hs w b iv z t
theorem Sv8.sm {w w' : World} {f s : Value} {b : Nat} {iv : Nat → Nat} {z : Nat} {t : ByteArray} (h : Sv8 w f s b iv z t) (k : Sm w w') : Sv8 w' f s b iv z t := by
  obtain ⟨q, r, x, h0, h1, h2, h3, h4, h5⟩ := h
  exact ⟨q, r, x, h0, h1, h2.sm k, h3.sm k, h4.sm k, h5.sm k⟩
theorem Sv8.big {w : World} {f s : Value} {b : Nat} {iv : Nat → Nat} {z : Nat} {t : ByteArray} (h : Sv8 w f s b iv z t) : ∃ c u, Bk w b c u ∧ 4 < c.size := by
  obtain ⟨q, r, x, h0, h1, h2, h3, h4, f, p, _, h5⟩ := h
  exact ⟨_, _, h5, by rw [L8.hc_size]; decide⟩
theorem Sv8.kp {w w' : World} {f s : Value} {b a : Nat} {c : Array Value} {u : TypeId} {iv : Nat → Nat} {z : Nat} {t t' : ByteArray} (h : Sv8 w f s b iv z t) (k : Kp (At1 a) w w') (ha : Bk w a c u) (hc : 4 < c.size) (hs : L8.Hs w b iv z t → L8.Hs w' b iv z t') : Sv8 w' f s b iv z t' := by
  obtain ⟨q, r, x, h0, h1, h2, h3, h4, h5⟩ := h
  have e2 : ∀ v : Value, (#[v] : Array Value).size = 1 := fun _ => rfl
  exact ⟨q, r, x, h0, h1, h2.kp k fun e => h2.ne ha (by rw [e2]; omega) e, h3.kp k fun e => h3.ne ha (by rw [e2]; omega) e, h4.kp k fun e => h4.ne ha (by rw [e2]; omega) e, hs h5⟩
theorem Sv8.one {w : World} {f s : Value} {b : Nat} {iv : Nat → Nat} {z : Nat} {t : ByteArray} (h : Sv8 w f s b iv z t) : ∃ x y p q, f = .func x #[] p ∧ s = .func y #[] q := by
  obtain ⟨q, r, x, h0, h1, _⟩ := h
  exact ⟨_, _, _, _, h0, h1⟩
theorem St8.sv {w : World} {g b : Nat} {iv : Nat → Nat} {z : Nat} {t : ByteArray} (h : St8 w g b iv z t) : ∃ f s, Bk w g #[f, s] 48 ∧ Sv8 w f s b iv z t := by
  obtain ⟨q, r, x, h1, h2, h3, h4, h5⟩ := h
  exact ⟨_, _, h1, q, r, x, rfl, rfl, h2, h3, h4, h5⟩
set_option maxRecDepth 100000 in
set_option maxHeartbeats 800000 in
theorem mw7_any (m b : Nat) (f y : Value) (iv : Nat → Nat) (z : Nat) (t s : ByteArray) (hv : ∀ i, iv i < 4294967296) (hl : t.size + s.size < 2305843009213693952) (w : World) (hK : Kk w) (h0 : b ≠ 0) (hm : w.cell? ⟨m, 1, none⟩ = some f) (hS : Sv7 w f y b iv z t) :
    Calls Tryd.prog 22 #[.pointer (some ⟨m, 1, none⟩), .string s] w fun e w' => e = .returned (.int .i64 0) ∧ Kp (At1 b) w w' ∧ Sv7 w' f y b iv z (t ++ s) := by
  obtain ⟨c, u, hb, hc⟩ := hS.big
  have HT : Hid (∀ w', Kp (At1 b) w w' → Hs w' b iv z (t ++ s) → Sv7 w' f y b iv z (t ++ s)) := fun w' k h => hS.kp k hb hc fun _ => h
  obtain ⟨q, r, x, hf, _, h2, h3, h4, h5⟩ := hS
  have C1 : Hid (Unit → Calls Tryd.prog 51 #[.string s, .pointer (some ⟨q, 0, none⟩), .pointer (some ⟨x, 0, none⟩)] w fun e w' => e = .returned (.int .i64 0) ∧ Kp (At1 b) w w' ∧ Hs w' b iv z (t ++ s)) := fun _ => cw7_any q x b iv z t s hv hl w hK h0 h2 h4 h5
  have c1 : w.cell? ⟨m, 1, none⟩ = some (.func (.func 51) #[] #[.pointer (some ⟨q, 0, none⟩), .pointer (some ⟨x, 0, none⟩)]) := hf ▸ hm
  clear hv hl hK h0 h2 h3 h4 h5 hb hc hm hf
  go_enter Tryd.func22, Tryd.ntmps22
  go_wp2_with (go_at_call 51; refine (C1.out ()).mono ?_; rintro e w1 ⟨rfl, K1, H1⟩)
  go_ret
  exact ⟨rfl, K1, HT.out _ K1 H1⟩
set_option maxRecDepth 100000 in
set_option maxHeartbeats 800000 in
theorem ms7_any (m b : Nat) (f y : Value) (iv : Nat → Nat) (z : Nat) (t : ByteArray) (hv : ∀ i, iv i < 4294967296) (hz : z ≤ 32) (hl : t.size < 2305843009213693952) (w : World) (hK : Kk w) (hm : w.cell? ⟨m, 2, none⟩ = some y) (hS : Sv7 w f y b iv z t) :
    Calls Tryd.prog 24 #[.pointer (some ⟨m, 1, none⟩)] w fun e w' => e = .returned (.string (sha iv z t)) ∧ Sm w w' := by
  obtain ⟨q, r, x, _, hf, h2, h3, h4, h5⟩ := hS
  obtain ⟨A, hA⟩ : ∃ A, sha iv z t = A := ⟨_, rfl⟩
  have C1 : Hid (Unit → Calls Tryd.prog 52 #[.pointer (some ⟨r, 0, none⟩), .pointer (some ⟨x, 0, none⟩)] w fun e w' => e = .returned (.string A) ∧ Sm w w') := fun _ => hA ▸ cs7_any r x b iv z t hv hz hl w hK h3 h4 h5
  have c1 : w.cell? ⟨m, 2, none⟩ = some (.func (.func 52) #[] #[.pointer (some ⟨r, 0, none⟩), .pointer (some ⟨x, 0, none⟩)]) := hf ▸ hm
  rw [hA]
  clear hv hl hK hz h2 h3 h4 h5 hA hm hf
  go_enter Tryd.func24, Tryd.ntmps24
  go_wp2_with (go_at_call 52; refine (C1.out ()).mono ?_; rintro e w1 ⟨rfl, S1⟩)
  go_ret
  exact ⟨rfl, S1⟩
set_option maxRecDepth 100000 in
set_option maxHeartbeats 800000 in
theorem mw8_any (m b : Nat) (f y : Value) (iv : Nat → Nat) (z : Nat) (t s : ByteArray) (hv : ∀ i, iv i < 18446744073709551616) (hl : t.size + s.size < 2305843009213693952) (w : World) (hK : L8.Kk w) (h0 : b ≠ 1) (hm : w.cell? ⟨m, 1, none⟩ = some f) (hS : Sv8 w f y b iv z t) :
    Calls Tryd.prog 22 #[.pointer (some ⟨m, 1, none⟩), .string s] w fun e w' => e = .returned (.int .i64 0) ∧ Kp (At1 b) w w' ∧ Sv8 w' f y b iv z (t ++ s) := by
  obtain ⟨c, u, hb, hc⟩ := hS.big
  have HT : Hid (∀ w', Kp (At1 b) w w' → L8.Hs w' b iv z (t ++ s) → Sv8 w' f y b iv z (t ++ s)) := fun w' k h => hS.kp k hb hc fun _ => h
  obtain ⟨q, r, x, hf, _, h2, h3, h4, h5⟩ := hS
  have C1 : Hid (Unit → Calls Tryd.prog 59 #[.string s, .pointer (some ⟨q, 0, none⟩), .pointer (some ⟨x, 0, none⟩)] w fun e w' => e = .returned (.int .i64 0) ∧ Kp (At1 b) w w' ∧ L8.Hs w' b iv z (t ++ s)) := fun _ => cw8_any q x b iv z t s hv hl w hK h0 h2 h4 h5
  have c1 : w.cell? ⟨m, 1, none⟩ = some (.func (.func 59) #[] #[.pointer (some ⟨q, 0, none⟩), .pointer (some ⟨x, 0, none⟩)]) := hf ▸ hm
  clear hv hl hK h0 h2 h3 h4 h5 hb hc hm hf
  go_enter Tryd.func22, Tryd.ntmps22
  go_wp2_with (go_at_call 59; refine (C1.out ()).mono ?_; rintro e w1 ⟨rfl, K1, H1⟩)
  go_ret
  exact ⟨rfl, K1, HT.out _ K1 H1⟩
set_option maxRecDepth 100000 in
set_option maxHeartbeats 800000 in
theorem ms8_any (m b : Nat) (f y : Value) (iv : Nat → Nat) (z : Nat) (t : ByteArray) (hv : ∀ i, iv i < 18446744073709551616) (hz : z ≤ 64) (hl : t.size < 2305843009213693952) (w : World) (hK : L8.Kk w) (hm : w.cell? ⟨m, 2, none⟩ = some y) (hS : Sv8 w f y b iv z t) :
    Calls Tryd.prog 24 #[.pointer (some ⟨m, 1, none⟩)] w fun e w' => e = .returned (.string (L8.sha iv z t)) ∧ Sm w w' := by
  obtain ⟨q, r, x, _, hf, h2, h3, h4, h5⟩ := hS
  obtain ⟨A, hA⟩ : ∃ A, L8.sha iv z t = A := ⟨_, rfl⟩
  have C1 : Hid (Unit → Calls Tryd.prog 60 #[.pointer (some ⟨r, 0, none⟩), .pointer (some ⟨x, 0, none⟩)] w fun e w' => e = .returned (.string A) ∧ Sm w w') := fun _ => hA ▸ cs8_any r x b iv z t hv hz hl w hK h3 h4 h5
  have c1 : w.cell? ⟨m, 2, none⟩ = some (.func (.func 60) #[] #[.pointer (some ⟨r, 0, none⟩), .pointer (some ⟨x, 0, none⟩)]) := hf ▸ hm
  rw [hA]
  clear hv hl hK hz h2 h3 h4 h5 hA hm hf
  go_enter Tryd.func24, Tryd.ntmps24
  go_wp2_with (go_at_call 60; refine (C1.out ()).mono ?_; rintro e w1 ⟨rfl, S1⟩)
  go_ret
  exact ⟨rfl, S1⟩
/-- Two functions that hold a stream of the hash id. -/
def Sv (w : World) (f s : Value) (b : Nat) (id : Int) (t : ByteArray) : Prop :=
  (id = 1 ∧ Sv7 w f s b iv224 28 t) ∨ (id = 2 ∧ Sv7 w f s b iv256 32 t) ∨ (id = 3 ∧ Sv8 w f s b L8.iv384 48 t) ∨ (id = 4 ∧ Sv8 w f s b L8.iv512 64 t)
theorem Sv.sm {w w' : World} {f s : Value} {b : Nat} {id : Int} {t : ByteArray} (h : Sv w f s b id t) (k : Sm w w') : Sv w' f s b id t := by
  rcases h with ⟨e, h⟩ | ⟨e, h⟩ | ⟨e, h⟩ | ⟨e, h⟩
  · exact Or.inl ⟨e, h.sm k⟩
  · exact Or.inr (Or.inl ⟨e, h.sm k⟩)
  · exact Or.inr (Or.inr (Or.inl ⟨e, h.sm k⟩))
  · exact Or.inr (Or.inr (Or.inr ⟨e, h.sm k⟩))
theorem Sv.big {w : World} {f s : Value} {b : Nat} {id : Int} {t : ByteArray} (h : Sv w f s b id t) : ∃ c u, Bk w b c u ∧ 4 < c.size := by
  rcases h with ⟨e, h⟩ | ⟨e, h⟩ | ⟨e, h⟩ | ⟨e, h⟩ <;> exact h.big
theorem Sv.one {w : World} {f s : Value} {b : Nat} {id : Int} {t : ByteArray} (h : Sv w f s b id t) : ∃ x y p q, f = .func x #[] p ∧ s = .func y #[] q := by
  rcases h with ⟨e, h⟩ | ⟨e, h⟩ | ⟨e, h⟩ | ⟨e, h⟩ <;> exact h.one
theorem Sv.far {w w' : World} {f s : Value} {b a : Nat} {c : Array Value} {u : TypeId} {id : Int} {t : ByteArray} (h : Sv w f s b id t) (k : Kp (At1 a) w w') (ha : Bk w a c u) (hc : 4 < c.size) (hn : b ≠ a) : Sv w' f s b id t := by
  rcases h with ⟨e, h⟩ | ⟨e, h⟩ | ⟨e, h⟩ | ⟨e, h⟩
  · exact Or.inl ⟨e, h.kp k ha hc fun h5 => h5.kp k hn⟩
  · exact Or.inr (Or.inl ⟨e, h.kp k ha hc fun h5 => h5.kp k hn⟩)
  · exact Or.inr (Or.inr (Or.inl ⟨e, h.kp k ha hc fun h5 => h5.kp k hn⟩))
  · exact Or.inr (Or.inr (Or.inr ⟨e, h.kp k ha hc fun h5 => h5.kp k hn⟩))
theorem St.sv {w : World} {g b : Nat} {id : Int} {t : ByteArray} (h : St w g b id t) : ∃ f s, Bk w g #[f, s] 48 ∧ Sv w f s b id t := by
  rcases h with ⟨e, h⟩ | ⟨e, h⟩ | ⟨e, h⟩ | ⟨e, h⟩
  · obtain ⟨f, s, h1, h2⟩ := h.sv
    exact ⟨f, s, h1, Or.inl ⟨e, h2⟩⟩
  · obtain ⟨f, s, h1, h2⟩ := h.sv
    exact ⟨f, s, h1, Or.inr (Or.inl ⟨e, h2⟩)⟩
  · obtain ⟨f, s, h1, h2⟩ := h.sv
    exact ⟨f, s, h1, Or.inr (Or.inr (Or.inl ⟨e, h2⟩))⟩
  · obtain ⟨f, s, h1, h2⟩ := h.sv
    exact ⟨f, s, h1, Or.inr (Or.inr (Or.inr ⟨e, h2⟩))⟩
theorem mw_any (m b : Nat) (f y : Value) (id : Int) (t s : ByteArray) (hl : t.size + s.size < 2305843009213693952) (w : World) (hK : KK w) (h0 : Nc b) (hm : w.cell? ⟨m, 1, none⟩ = some f) (hS : Sv w f y b id t) :
    Calls Tryd.prog 22 #[.pointer (some ⟨m, 1, none⟩), .string s] w fun e w' => e = .returned (.int .i64 0) ∧ Kp (At1 b) w w' ∧ Sv w' f y b id (t ++ s) := by
  rcases hS with ⟨e, h⟩ | ⟨e, h⟩ | ⟨e, h⟩ | ⟨e, h⟩
  · exact (mw7_any m b f y _ _ t s iv224_lt hl w hK.1 h0.1 hm h).mono fun _ _ ⟨h1, h2, h3⟩ => ⟨h1, h2, Or.inl ⟨e, h3⟩⟩
  · exact (mw7_any m b f y _ _ t s iv256_lt hl w hK.1 h0.1 hm h).mono fun _ _ ⟨h1, h2, h3⟩ => ⟨h1, h2, Or.inr (Or.inl ⟨e, h3⟩)⟩
  · exact (mw8_any m b f y _ _ t s L8.iv384_lt hl w hK.2 h0.2 hm h).mono fun _ _ ⟨h1, h2, h3⟩ => ⟨h1, h2, Or.inr (Or.inr (Or.inl ⟨e, h3⟩))⟩
  · exact (mw8_any m b f y _ _ t s L8.iv512_lt hl w hK.2 h0.2 hm h).mono fun _ _ ⟨h1, h2, h3⟩ => ⟨h1, h2, Or.inr (Or.inr (Or.inr ⟨e, h3⟩))⟩
theorem ms_any (m b : Nat) (f y : Value) (id : Int) (t : ByteArray) (hl : t.size < 2305843009213693952) (w : World) (hK : KK w) (hm : w.cell? ⟨m, 2, none⟩ = some y) (hS : Sv w f y b id t) :
    Calls Tryd.prog 24 #[.pointer (some ⟨m, 1, none⟩)] w fun e w' => e = .returned (.string (dig id t)) ∧ Sm w w' := by
  rcases hS with ⟨rfl, h⟩ | ⟨rfl, h⟩ | ⟨rfl, h⟩ | ⟨rfl, h⟩
  · exact ms7_any m b f y _ _ t iv224_lt (by decide) hl w hK.1 hm h
  · exact ms7_any m b f y _ _ t iv256_lt (by decide) hl w hK.1 hm h
  · exact ms8_any m b f y _ _ t L8.iv384_lt (by decide) hl w hK.2 hm h
  · exact ms8_any m b f y _ _ t L8.iv512_lt (by decide) hl w hK.2 hm h
/-- The mac at m, of the hash id: its outer pad is o, its inner stream's state lies in b, and t is written there. -/
def Mc (w : World) (m b : Nat) (id : Int) (o t : ByteArray) : Prop := ∃ f s, Bk w m #[.int .i64 id, f, s, .string o] 50 ∧ Sv w f s b id t
theorem Mc.sm {w w' : World} {m b : Nat} {id : Int} {o t : ByteArray} (h : Mc w m b id o t) (k : Sm w w') : Mc w' m b id o t := by
  obtain ⟨f, s, h1, h2⟩ := h
  exact ⟨f, s, h1.sm k, h2.sm k⟩
theorem Mc.big {w : World} {m b : Nat} {id : Int} {o t : ByteArray} (h : Mc w m b id o t) : ∃ c u, Bk w b c u ∧ 4 < c.size := by
  obtain ⟨f, s, h1, h2⟩ := h
  exact h2.big
theorem Mc.blt {w : World} {m b : Nat} {id : Int} {o t : ByteArray} (h : Mc w m b id o t) : b < w.heap.size := by
  obtain ⟨c, u, hb, _⟩ := h.big
  exact hb.lt
theorem Mc.far {w w' : World} {m b a : Nat} {c : Array Value} {u : TypeId} {id : Int} {o t : ByteArray} (h : Mc w m b id o t) (k : Kp (At1 a) w w') (ha : Bk w a c u) (hc : 4 < c.size) (hn : b ≠ a) : Mc w' m b id o t := by
  obtain ⟨f, s, h1, h2⟩ := h
  have e4 : (#[.int .i64 id, f, s, .string o] : Array Value).size = 4 := rfl
  exact ⟨f, s, h1.kp k fun e => h1.ne ha (by rw [e4]; omega) e, h2.far k ha hc hn⟩
set_option maxRecDepth 100000 in
set_option maxHeartbeats 800000 in
theorem mwrite_any (m b : Nat) (id : Int) (o t s : ByteArray) (hl : t.size + s.size < 2305843009213693952) (w : World) (hK : KK w) (h0 : Nc b) (hM : Mc w m b id o t) :
    Calls Tryd.prog 13 #[.pointer (some ⟨m, 0, none⟩), .string s] w fun e w' => e = .returned (.int .i64 0) ∧ Kp (At1 b) w w' ∧ Mc w' m b id o (t ++ s) := by
  obtain ⟨f, y, h1, h2⟩ := hM
  obtain ⟨c, u, hb, hc⟩ := h2.big
  have e4 : (#[.int .i64 id, f, y, .string o] : Array Value).size = 4 := rfl
  have HT : Hid (∀ w', Kp (At1 b) w w' → Sv w' f y b id (t ++ s) → Mc w' m b id o (t ++ s)) := fun w' k h => ⟨f, y, h1.kp k fun e => h1.ne hb (by rw [e4]; omega) e, h⟩
  have C1 : Hid (Unit → Calls Tryd.prog 22 #[.pointer (some ⟨m, 1, none⟩), .string s] w fun e w' => e = .returned (.int .i64 0) ∧ Kp (At1 b) w w' ∧ Sv w' f y b id (t ++ s)) := fun _ => mw_any m b f y id t s hl w hK h0 (h1.cell 1) h2
  clear hl hK h0 h1 h2 hb hc e4
  go_enter Tryd.func13, Tryd.ntmps13
  go_wp2_with (go_at_call 22; refine (C1.out ()).mono ?_; rintro e w1 ⟨rfl, K1, H1⟩)
  go_ret
  exact ⟨rfl, K1, HT.out _ K1 H1⟩
end Go.Proofs.YtcdkajfpllpgaaaDoor
