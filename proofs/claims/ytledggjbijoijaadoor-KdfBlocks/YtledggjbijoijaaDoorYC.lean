/-
  hash's streams: the functions that they hold.
-/
import Derived.Test.YtledggjbijoijaaDoorYB
import Derived.Test.YtledggjbijoijaaDoorHW
import Derived.Test.YtledggjbijoijaaDoorGW
namespace Go.Proofs.YtledggjbijoijaaDoor
open Go.RowKit
theorem eqW (f : Fn) (c : Array Value) (w : World) : (binOp .eql 56 (.func f #[] c) .nilFunc).run Tryd.prog w = .ok (.bool false) w := by kernel_rfl
theorem eqS (f : Fn) (c : Array Value) (w : World) : (binOp .eql 46 (.func f #[] c) .nilFunc).run Tryd.prog w = .ok (.bool false) w := by kernel_rfl
attribute [local go_sem] eqW eqS
/-- The stream at g, of layer 7: its two functions and what they hold; its state lies in block b. -/
def St7 (w : World) (g b : Nat) (iv : Nat → Nat) (z : Nat) (t : ByteArray) : Prop :=
  ∃ q r h, Bk w g #[.func (.func 50) #[] #[.pointer (some ⟨q, 0, none⟩), .pointer (some ⟨h, 0, none⟩)], .func (.func 51) #[] #[.pointer (some ⟨r, 0, none⟩), .pointer (some ⟨h, 0, none⟩)]] 72 ∧ Bk w q #[.func (.func 43) #[] #[]] 87 ∧ Bk w r #[.func (.func 44) #[] #[]] 89 ∧ Bk w h #[.pointer (some ⟨b, 0, none⟩)] 88 ∧ Hs w b iv z t
theorem St7.sm {w w' : World} {g b : Nat} {iv : Nat → Nat} {z : Nat} {t : ByteArray} (h : St7 w g b iv z t) (k : Sm w w') : St7 w' g b iv z t := by
  obtain ⟨q, r, x, h1, h2, h3, h4, h5⟩ := h
  exact ⟨q, r, x, h1.sm k, h2.sm k, h3.sm k, h4.sm k, h5.sm k⟩
theorem St7.big {w : World} {g b : Nat} {iv : Nat → Nat} {z : Nat} {t : ByteArray} (h : St7 w g b iv z t) : ∃ c u, Bk w b c u ∧ 2 < c.size := by
  obtain ⟨q, r, x, h1, h2, h3, h4, f, p, _, h5⟩ := h
  exact ⟨_, _, h5, by rw [hc_size]; decide⟩
/-- Another stream's state turned, or this one's. -/
theorem St7.kp {w w' : World} {g b a : Nat} {c : Array Value} {u : TypeId} {iv : Nat → Nat} {z : Nat} {t t' : ByteArray} (h : St7 w g b iv z t) (k : Kp (At1 a) w w') (ha : Bk w a c u) (hc : 2 < c.size) (hs : Hs w b iv z t → Hs w' b iv z t') : St7 w' g b iv z t' := by
  obtain ⟨q, r, x, h1, h2, h3, h4, h5⟩ := h
  have e1 : (#[.func (.func 50) #[] #[.pointer (some ⟨q, 0, none⟩), .pointer (some ⟨x, 0, none⟩)], .func (.func 51) #[] #[.pointer (some ⟨r, 0, none⟩), .pointer (some ⟨x, 0, none⟩)]] : Array Value).size = 2 := rfl
  have e2 : ∀ v : Value, (#[v] : Array Value).size = 1 := fun _ => rfl
  exact ⟨q, r, x, h1.kp k fun e => h1.ne ha (by rw [e1]; omega) e, h2.kp k fun e => h2.ne ha (by rw [e2]; omega) e, h3.kp k fun e => h3.ne ha (by rw [e2]; omega) e, h4.kp k fun e => h4.ne ha (by rw [e2]; omega) e, hs h5⟩
theorem St7.far {w w' : World} {g b a : Nat} {c : Array Value} {u : TypeId} {iv : Nat → Nat} {z : Nat} {t : ByteArray} (h : St7 w g b iv z t) (k : Kp (At1 a) w w') (ha : Bk w a c u) (hc : 2 < c.size) (hn : b ≠ a) : St7 w' g b iv z t :=
  h.kp k ha hc fun h5 => h5.kp k hn
/-- The stream at g, of layer 8: its two functions and what they hold; its state lies in block b. -/
def St8 (w : World) (g b : Nat) (iv : Nat → Nat) (z : Nat) (t : ByteArray) : Prop :=
  ∃ q r h, Bk w g #[.func (.func 58) #[] #[.pointer (some ⟨q, 0, none⟩), .pointer (some ⟨h, 0, none⟩)], .func (.func 59) #[] #[.pointer (some ⟨r, 0, none⟩), .pointer (some ⟨h, 0, none⟩)]] 72 ∧ Bk w q #[.func (.func 47) #[] #[]] 98 ∧ Bk w r #[.func (.func 48) #[] #[]] 100 ∧ Bk w h #[.pointer (some ⟨b, 0, none⟩)] 99 ∧ L8.Hs w b iv z t
theorem St8.sm {w w' : World} {g b : Nat} {iv : Nat → Nat} {z : Nat} {t : ByteArray} (h : St8 w g b iv z t) (k : Sm w w') : St8 w' g b iv z t := by
  obtain ⟨q, r, x, h1, h2, h3, h4, h5⟩ := h
  exact ⟨q, r, x, h1.sm k, h2.sm k, h3.sm k, h4.sm k, h5.sm k⟩
theorem St8.big {w : World} {g b : Nat} {iv : Nat → Nat} {z : Nat} {t : ByteArray} (h : St8 w g b iv z t) : ∃ c u, Bk w b c u ∧ 2 < c.size := by
  obtain ⟨q, r, x, h1, h2, h3, h4, f, p, _, h5⟩ := h
  exact ⟨_, _, h5, by rw [L8.hc_size]; decide⟩
/-- Another stream's state turned, or this one's. -/
theorem St8.kp {w w' : World} {g b a : Nat} {c : Array Value} {u : TypeId} {iv : Nat → Nat} {z : Nat} {t t' : ByteArray} (h : St8 w g b iv z t) (k : Kp (At1 a) w w') (ha : Bk w a c u) (hc : 2 < c.size) (hs : L8.Hs w b iv z t → L8.Hs w' b iv z t') : St8 w' g b iv z t' := by
  obtain ⟨q, r, x, h1, h2, h3, h4, h5⟩ := h
  have e1 : (#[.func (.func 58) #[] #[.pointer (some ⟨q, 0, none⟩), .pointer (some ⟨x, 0, none⟩)], .func (.func 59) #[] #[.pointer (some ⟨r, 0, none⟩), .pointer (some ⟨x, 0, none⟩)]] : Array Value).size = 2 := rfl
  have e2 : ∀ v : Value, (#[v] : Array Value).size = 1 := fun _ => rfl
  exact ⟨q, r, x, h1.kp k fun e => h1.ne ha (by rw [e1]; omega) e, h2.kp k fun e => h2.ne ha (by rw [e2]; omega) e, h3.kp k fun e => h3.ne ha (by rw [e2]; omega) e, h4.kp k fun e => h4.ne ha (by rw [e2]; omega) e, hs h5⟩
theorem St8.far {w w' : World} {g b a : Nat} {c : Array Value} {u : TypeId} {iv : Nat → Nat} {z : Nat} {t : ByteArray} (h : St8 w g b iv z t) (k : Kp (At1 a) w w') (ha : Bk w a c u) (hc : 2 < c.size) (hn : b ≠ a) : St8 w' g b iv z t :=
  h.kp k ha hc fun h5 => h5.kp k hn
set_option maxRecDepth 100000 in
set_option maxHeartbeats 800000 in
theorem begin224 (v : Value) (w : World) (hv : Cl7 w 28 v) : ∃ cs, v = .func (.func 49) #[] cs ∧
    Calls Tryd.prog 49 cs w fun e w' => ∃ g b, e = .returned (.pointer (some ⟨g, 0, none⟩)) ∧ w.heap.size ≤ g ∧ w.heap.size ≤ b ∧ St7 w' g b iv224 28 .empty ∧ Sm w w' := by
  obtain ⟨p, q, r, s, rfl, h1, h2, h3, h4⟩ := hv
  refine ⟨_, rfl, ?_⟩
  have C1 : Hid (∀ w, Calls Tryd.prog 42 #[.int .i64 224] w fun e w' => ∃ b, e = .returned (.tuple #[.pointer (some ⟨b, 0, none⟩), .int .i64 0]) ∧ w.heap.size ≤ b ∧ Hs w' b iv224 28 .empty ∧ Sm w w') := fun w => New_any 224 iv224 28 kd224 w
  have c1 : w.cell? ⟨p, 0, none⟩ = some (.func (.func 42) #[] #[]) := h1.cell 0
  have c2 : w.cell? ⟨q, 0, none⟩ = some (.int .i64 28) := h2.cell 0
  have l3 := h3.lt
  have l4 := h4.lt
  go_enter Tryd.func49, Tryd.ntmps49
  go_wp2_with (go_at_call 42; refine (C1.out _).mono ?_; rintro e w1 ⟨b, rfl, hb, H1, S1⟩)
  go_ret
  have hs := S1.size
  exact ⟨_, _, rfl, by omega, hb, ⟨_, _, _, Bk.at (by simp), (((h3.sm S1).alloc _).alloc _), (((h4.sm S1).alloc _).alloc _), (Bk.at rfl).alloc _, (H1.sm (((Sm.refl _).alloc _).alloc _))⟩, (S1.alloc _).alloc _⟩
set_option maxRecDepth 100000 in
set_option maxHeartbeats 800000 in
theorem begin256 (v : Value) (w : World) (hv : Cl7 w 32 v) : ∃ cs, v = .func (.func 49) #[] cs ∧
    Calls Tryd.prog 49 cs w fun e w' => ∃ g b, e = .returned (.pointer (some ⟨g, 0, none⟩)) ∧ w.heap.size ≤ g ∧ w.heap.size ≤ b ∧ St7 w' g b iv256 32 .empty ∧ Sm w w' := by
  obtain ⟨p, q, r, s, rfl, h1, h2, h3, h4⟩ := hv
  refine ⟨_, rfl, ?_⟩
  have C1 : Hid (∀ w, Calls Tryd.prog 42 #[.int .i64 256] w fun e w' => ∃ b, e = .returned (.tuple #[.pointer (some ⟨b, 0, none⟩), .int .i64 0]) ∧ w.heap.size ≤ b ∧ Hs w' b iv256 32 .empty ∧ Sm w w') := fun w => New_any 256 iv256 32 kd256 w
  have c1 : w.cell? ⟨p, 0, none⟩ = some (.func (.func 42) #[] #[]) := h1.cell 0
  have c2 : w.cell? ⟨q, 0, none⟩ = some (.int .i64 32) := h2.cell 0
  have l3 := h3.lt
  have l4 := h4.lt
  go_enter Tryd.func49, Tryd.ntmps49
  go_wp2_with (go_at_call 42; refine (C1.out _).mono ?_; rintro e w1 ⟨b, rfl, hb, H1, S1⟩)
  go_ret
  have hs := S1.size
  exact ⟨_, _, rfl, by omega, hb, ⟨_, _, _, Bk.at (by simp), (((h3.sm S1).alloc _).alloc _), (((h4.sm S1).alloc _).alloc _), (Bk.at rfl).alloc _, (H1.sm (((Sm.refl _).alloc _).alloc _))⟩, (S1.alloc _).alloc _⟩
set_option maxRecDepth 100000 in
set_option maxHeartbeats 800000 in
theorem begin384 (v : Value) (w : World) (hv : Cl8 w 48 v) : ∃ cs, v = .func (.func 57) #[] cs ∧
    Calls Tryd.prog 57 cs w fun e w' => ∃ g b, e = .returned (.pointer (some ⟨g, 0, none⟩)) ∧ w.heap.size ≤ g ∧ w.heap.size ≤ b ∧ St8 w' g b L8.iv384 48 .empty ∧ Sm w w' := by
  obtain ⟨p, q, r, s, rfl, h1, h2, h3, h4⟩ := hv
  refine ⟨_, rfl, ?_⟩
  have C1 : Hid (∀ w, Calls Tryd.prog 46 #[.int .i64 384] w fun e w' => ∃ b, e = .returned (.tuple #[.pointer (some ⟨b, 0, none⟩), .int .i64 0]) ∧ w.heap.size ≤ b ∧ L8.Hs w' b L8.iv384 48 .empty ∧ Sm w w') := fun w => L8.New_any 384 L8.iv384 48 L8.kd384 w
  have c1 : w.cell? ⟨p, 0, none⟩ = some (.func (.func 46) #[] #[]) := h1.cell 0
  have c2 : w.cell? ⟨q, 0, none⟩ = some (.int .i64 48) := h2.cell 0
  have l3 := h3.lt
  have l4 := h4.lt
  go_enter Tryd.func57, Tryd.ntmps57
  go_wp2_with (go_at_call 46; refine (C1.out _).mono ?_; rintro e w1 ⟨b, rfl, hb, H1, S1⟩)
  go_ret
  have hs := S1.size
  exact ⟨_, _, rfl, by omega, hb, ⟨_, _, _, Bk.at (by simp), (((h3.sm S1).alloc _).alloc _), (((h4.sm S1).alloc _).alloc _), (Bk.at rfl).alloc _, (H1.sm (((Sm.refl _).alloc _).alloc _))⟩, (S1.alloc _).alloc _⟩
set_option maxRecDepth 100000 in
set_option maxHeartbeats 800000 in
theorem begin512 (v : Value) (w : World) (hv : Cl8 w 64 v) : ∃ cs, v = .func (.func 57) #[] cs ∧
    Calls Tryd.prog 57 cs w fun e w' => ∃ g b, e = .returned (.pointer (some ⟨g, 0, none⟩)) ∧ w.heap.size ≤ g ∧ w.heap.size ≤ b ∧ St8 w' g b L8.iv512 64 .empty ∧ Sm w w' := by
  obtain ⟨p, q, r, s, rfl, h1, h2, h3, h4⟩ := hv
  refine ⟨_, rfl, ?_⟩
  have C1 : Hid (∀ w, Calls Tryd.prog 46 #[.int .i64 512] w fun e w' => ∃ b, e = .returned (.tuple #[.pointer (some ⟨b, 0, none⟩), .int .i64 0]) ∧ w.heap.size ≤ b ∧ L8.Hs w' b L8.iv512 64 .empty ∧ Sm w w') := fun w => L8.New_any 512 L8.iv512 64 L8.kd512 w
  have c1 : w.cell? ⟨p, 0, none⟩ = some (.func (.func 46) #[] #[]) := h1.cell 0
  have c2 : w.cell? ⟨q, 0, none⟩ = some (.int .i64 64) := h2.cell 0
  have l3 := h3.lt
  have l4 := h4.lt
  go_enter Tryd.func57, Tryd.ntmps57
  go_wp2_with (go_at_call 46; refine (C1.out _).mono ?_; rintro e w1 ⟨b, rfl, hb, H1, S1⟩)
  go_ret
  have hs := S1.size
  exact ⟨_, _, rfl, by omega, hb, ⟨_, _, _, Bk.at (by simp), (((h3.sm S1).alloc _).alloc _), (((h4.sm S1).alloc _).alloc _), (Bk.at rfl).alloc _, (H1.sm (((Sm.refl _).alloc _).alloc _))⟩, (S1.alloc _).alloc _⟩
set_option maxRecDepth 100000 in
set_option maxHeartbeats 800000 in
theorem cw7_any (q h b : Nat) (iv : Nat → Nat) (z : Nat) (t s : ByteArray) (hv : ∀ i, iv i < 4294967296) (hl : t.size + s.size < 2305843009213693952) (w : World) (hK : Kk w) (h0 : b ≠ 0) (h1 : Bk w q #[.func (.func 43) #[] #[]] 87) (h2 : Bk w h #[.pointer (some ⟨b, 0, none⟩)] 88) (hH : Hs w b iv z t) :
    Calls Tryd.prog 50 #[.string s, .pointer (some ⟨q, 0, none⟩), .pointer (some ⟨h, 0, none⟩)] w fun e w' => e = .returned (.int .i64 0) ∧ Kp (At1 b) w w' ∧ Hs w' b iv z (t ++ s) := by
  have C1 : Hid (Unit → Calls Tryd.prog 43 #[.pointer (some ⟨b, 0, none⟩), .string s] w fun e w' => e = .returned (.int .i64 0) ∧ Kp (At1 b) w w' ∧ Hs w' b iv z (t ++ s)) := fun _ => Write_any b iv z t s hv hl w hK h0 hH
  have c1 : w.cell? ⟨q, 0, none⟩ = some (.func (.func 43) #[] #[]) := h1.cell 0
  have c2 : w.cell? ⟨h, 0, none⟩ = some (.pointer (some ⟨b, 0, none⟩)) := h2.cell 0
  clear hv hl hK h0 hH h1 h2
  go_enter Tryd.func50, Tryd.ntmps50
  go_wp2_with (go_at_call 43; refine (C1.out ()).mono ?_; rintro e w1 ⟨rfl, K1, H1⟩)
  go_ret
  exact ⟨rfl, K1, H1⟩
set_option maxRecDepth 100000 in
set_option maxHeartbeats 800000 in
theorem cs7_any (r h b : Nat) (iv : Nat → Nat) (z : Nat) (t : ByteArray) (hv : ∀ i, iv i < 4294967296) (hz : z ≤ 32) (hl : t.size < 2305843009213693952) (w : World) (hK : Kk w) (h1 : Bk w r #[.func (.func 44) #[] #[]] 89) (h2 : Bk w h #[.pointer (some ⟨b, 0, none⟩)] 88) (hH : Hs w b iv z t) :
    Calls Tryd.prog 51 #[.pointer (some ⟨r, 0, none⟩), .pointer (some ⟨h, 0, none⟩)] w fun e w' => e = .returned (.string (sha iv z t)) ∧ Sm w w' := by
  obtain ⟨A, hA⟩ : ∃ A, sha iv z t = A := ⟨_, rfl⟩
  have C1 : Hid (Unit → Calls Tryd.prog 44 #[.pointer (some ⟨b, 0, none⟩)] w fun e w' => e = .returned (.string A) ∧ Sm w w') := fun _ => hA ▸ Sum_any b iv z t hv hz hl w hK hH
  have c1 : w.cell? ⟨r, 0, none⟩ = some (.func (.func 44) #[] #[]) := h1.cell 0
  have c2 : w.cell? ⟨h, 0, none⟩ = some (.pointer (some ⟨b, 0, none⟩)) := h2.cell 0
  rw [hA]
  clear hv hl hK hz hH h1 h2 hA
  go_enter Tryd.func51, Tryd.ntmps51
  go_wp2_with (go_at_call 44; refine (C1.out ()).mono ?_; rintro e w1 ⟨rfl, S1⟩)
  go_ret
  exact ⟨rfl, S1⟩
set_option maxRecDepth 100000 in
set_option maxHeartbeats 800000 in
theorem hw7_any (g b : Nat) (iv : Nat → Nat) (z : Nat) (t s : ByteArray) (hv : ∀ i, iv i < 4294967296) (hl : t.size + s.size < 2305843009213693952) (w : World) (hK : Kk w) (h0 : b ≠ 0) (hS : St7 w g b iv z t) :
    Calls Tryd.prog 22 #[.pointer (some ⟨g, 0, none⟩), .string s] w fun e w' => e = .returned (.int .i64 0) ∧ Kp (At1 b) w w' ∧ St7 w' g b iv z (t ++ s) := by
  obtain ⟨c, u, hb, hc⟩ := hS.big
  have HT : Hid (∀ w', Kp (At1 b) w w' → Hs w' b iv z (t ++ s) → St7 w' g b iv z (t ++ s)) := fun w' k h => hS.kp k hb hc fun _ => h
  obtain ⟨q, r, x, h1, h2, h3, h4, h5⟩ := hS
  have C1 : Hid (Unit → Calls Tryd.prog 50 #[.string s, .pointer (some ⟨q, 0, none⟩), .pointer (some ⟨x, 0, none⟩)] w fun e w' => e = .returned (.int .i64 0) ∧ Kp (At1 b) w w' ∧ Hs w' b iv z (t ++ s)) := fun _ => cw7_any q x b iv z t s hv hl w hK h0 h2 h4 h5
  have c1 : w.cell? ⟨g, 0, none⟩ = some (.func (.func 50) #[] #[.pointer (some ⟨q, 0, none⟩), .pointer (some ⟨x, 0, none⟩)]) := h1.cell 0
  clear hv hl hK h0 h1 h2 h3 h4 h5 hb hc
  go_enter Tryd.func22, Tryd.ntmps22
  go_wp2_with (go_at_call 50; refine (C1.out ()).mono ?_; rintro e w1 ⟨rfl, K1, H1⟩)
  go_ret
  exact ⟨rfl, K1, HT.out _ K1 H1⟩
set_option maxRecDepth 100000 in
set_option maxHeartbeats 800000 in
theorem hs7_any (g b : Nat) (iv : Nat → Nat) (z : Nat) (t : ByteArray) (hv : ∀ i, iv i < 4294967296) (hz : z ≤ 32) (hl : t.size < 2305843009213693952) (w : World) (hK : Kk w) (hS : St7 w g b iv z t) :
    Calls Tryd.prog 23 #[.pointer (some ⟨g, 0, none⟩)] w fun e w' => e = .returned (.string (sha iv z t)) ∧ Sm w w' := by
  obtain ⟨q, r, x, h1, h2, h3, h4, h5⟩ := hS
  obtain ⟨A, hA⟩ : ∃ A, sha iv z t = A := ⟨_, rfl⟩
  have C1 : Hid (Unit → Calls Tryd.prog 51 #[.pointer (some ⟨r, 0, none⟩), .pointer (some ⟨x, 0, none⟩)] w fun e w' => e = .returned (.string A) ∧ Sm w w') := fun _ => hA ▸ cs7_any r x b iv z t hv hz hl w hK h3 h4 h5
  have c1 : w.cell? ⟨g, 1, none⟩ = some (.func (.func 51) #[] #[.pointer (some ⟨r, 0, none⟩), .pointer (some ⟨x, 0, none⟩)]) := h1.cell 1
  rw [hA]
  clear hv hl hK hz h1 h2 h3 h4 h5 hA
  go_enter Tryd.func23, Tryd.ntmps23
  go_wp2_with (go_at_call 51; refine (C1.out ()).mono ?_; rintro e w1 ⟨rfl, S1⟩)
  go_ret
  exact ⟨rfl, S1⟩
set_option maxRecDepth 100000 in
set_option maxHeartbeats 800000 in
theorem cw8_any (q h b : Nat) (iv : Nat → Nat) (z : Nat) (t s : ByteArray) (hv : ∀ i, iv i < 18446744073709551616) (hl : t.size + s.size < 2305843009213693952) (w : World) (hK : L8.Kk w) (h0 : b ≠ 1) (h1 : Bk w q #[.func (.func 47) #[] #[]] 98) (h2 : Bk w h #[.pointer (some ⟨b, 0, none⟩)] 99) (hH : L8.Hs w b iv z t) :
    Calls Tryd.prog 58 #[.string s, .pointer (some ⟨q, 0, none⟩), .pointer (some ⟨h, 0, none⟩)] w fun e w' => e = .returned (.int .i64 0) ∧ Kp (At1 b) w w' ∧ L8.Hs w' b iv z (t ++ s) := by
  have C1 : Hid (Unit → Calls Tryd.prog 47 #[.pointer (some ⟨b, 0, none⟩), .string s] w fun e w' => e = .returned (.int .i64 0) ∧ Kp (At1 b) w w' ∧ L8.Hs w' b iv z (t ++ s)) := fun _ => L8.Write_any b iv z t s hv hl w hK h0 hH
  have c1 : w.cell? ⟨q, 0, none⟩ = some (.func (.func 47) #[] #[]) := h1.cell 0
  have c2 : w.cell? ⟨h, 0, none⟩ = some (.pointer (some ⟨b, 0, none⟩)) := h2.cell 0
  clear hv hl hK h0 hH h1 h2
  go_enter Tryd.func58, Tryd.ntmps58
  go_wp2_with (go_at_call 47; refine (C1.out ()).mono ?_; rintro e w1 ⟨rfl, K1, H1⟩)
  go_ret
  exact ⟨rfl, K1, H1⟩
set_option maxRecDepth 100000 in
set_option maxHeartbeats 800000 in
theorem cs8_any (r h b : Nat) (iv : Nat → Nat) (z : Nat) (t : ByteArray) (hv : ∀ i, iv i < 18446744073709551616) (hz : z ≤ 64) (hl : t.size < 2305843009213693952) (w : World) (hK : L8.Kk w) (h1 : Bk w r #[.func (.func 48) #[] #[]] 100) (h2 : Bk w h #[.pointer (some ⟨b, 0, none⟩)] 99) (hH : L8.Hs w b iv z t) :
    Calls Tryd.prog 59 #[.pointer (some ⟨r, 0, none⟩), .pointer (some ⟨h, 0, none⟩)] w fun e w' => e = .returned (.string (L8.sha iv z t)) ∧ Sm w w' := by
  obtain ⟨A, hA⟩ : ∃ A, L8.sha iv z t = A := ⟨_, rfl⟩
  have C1 : Hid (Unit → Calls Tryd.prog 48 #[.pointer (some ⟨b, 0, none⟩)] w fun e w' => e = .returned (.string A) ∧ Sm w w') := fun _ => hA ▸ L8.Sum_any b iv z t hv hz hl w hK hH
  have c1 : w.cell? ⟨r, 0, none⟩ = some (.func (.func 48) #[] #[]) := h1.cell 0
  have c2 : w.cell? ⟨h, 0, none⟩ = some (.pointer (some ⟨b, 0, none⟩)) := h2.cell 0
  rw [hA]
  clear hv hl hK hz hH h1 h2 hA
  go_enter Tryd.func59, Tryd.ntmps59
  go_wp2_with (go_at_call 48; refine (C1.out ()).mono ?_; rintro e w1 ⟨rfl, S1⟩)
  go_ret
  exact ⟨rfl, S1⟩
set_option maxRecDepth 100000 in
set_option maxHeartbeats 800000 in
theorem hw8_any (g b : Nat) (iv : Nat → Nat) (z : Nat) (t s : ByteArray) (hv : ∀ i, iv i < 18446744073709551616) (hl : t.size + s.size < 2305843009213693952) (w : World) (hK : L8.Kk w) (h0 : b ≠ 1) (hS : St8 w g b iv z t) :
    Calls Tryd.prog 22 #[.pointer (some ⟨g, 0, none⟩), .string s] w fun e w' => e = .returned (.int .i64 0) ∧ Kp (At1 b) w w' ∧ St8 w' g b iv z (t ++ s) := by
  obtain ⟨c, u, hb, hc⟩ := hS.big
  have HT : Hid (∀ w', Kp (At1 b) w w' → L8.Hs w' b iv z (t ++ s) → St8 w' g b iv z (t ++ s)) := fun w' k h => hS.kp k hb hc fun _ => h
  obtain ⟨q, r, x, h1, h2, h3, h4, h5⟩ := hS
  have C1 : Hid (Unit → Calls Tryd.prog 58 #[.string s, .pointer (some ⟨q, 0, none⟩), .pointer (some ⟨x, 0, none⟩)] w fun e w' => e = .returned (.int .i64 0) ∧ Kp (At1 b) w w' ∧ L8.Hs w' b iv z (t ++ s)) := fun _ => cw8_any q x b iv z t s hv hl w hK h0 h2 h4 h5
  have c1 : w.cell? ⟨g, 0, none⟩ = some (.func (.func 58) #[] #[.pointer (some ⟨q, 0, none⟩), .pointer (some ⟨x, 0, none⟩)]) := h1.cell 0
  clear hv hl hK h0 h1 h2 h3 h4 h5 hb hc
  go_enter Tryd.func22, Tryd.ntmps22
  go_wp2_with (go_at_call 58; refine (C1.out ()).mono ?_; rintro e w1 ⟨rfl, K1, H1⟩)
  go_ret
  exact ⟨rfl, K1, HT.out _ K1 H1⟩
set_option maxRecDepth 100000 in
set_option maxHeartbeats 800000 in
theorem hs8_any (g b : Nat) (iv : Nat → Nat) (z : Nat) (t : ByteArray) (hv : ∀ i, iv i < 18446744073709551616) (hz : z ≤ 64) (hl : t.size < 2305843009213693952) (w : World) (hK : L8.Kk w) (hS : St8 w g b iv z t) :
    Calls Tryd.prog 23 #[.pointer (some ⟨g, 0, none⟩)] w fun e w' => e = .returned (.string (L8.sha iv z t)) ∧ Sm w w' := by
  obtain ⟨q, r, x, h1, h2, h3, h4, h5⟩ := hS
  obtain ⟨A, hA⟩ : ∃ A, L8.sha iv z t = A := ⟨_, rfl⟩
  have C1 : Hid (Unit → Calls Tryd.prog 59 #[.pointer (some ⟨r, 0, none⟩), .pointer (some ⟨x, 0, none⟩)] w fun e w' => e = .returned (.string A) ∧ Sm w w') := fun _ => hA ▸ cs8_any r x b iv z t hv hz hl w hK h3 h4 h5
  have c1 : w.cell? ⟨g, 1, none⟩ = some (.func (.func 59) #[] #[.pointer (some ⟨r, 0, none⟩), .pointer (some ⟨x, 0, none⟩)]) := h1.cell 1
  rw [hA]
  clear hv hl hK hz h1 h2 h3 h4 h5 hA
  go_enter Tryd.func23, Tryd.ntmps23
  go_wp2_with (go_at_call 59; refine (C1.out ()).mono ?_; rintro e w1 ⟨rfl, S1⟩)
  go_ret
  exact ⟨rfl, S1⟩
end Go.Proofs.YtledggjbijoijaaDoor
