/-
  hmac's New: a mac to which nothing is written.
-/
import Derived.Test.YtcdkajfpllpgaaaDoorXB
namespace Go.Proofs.YtcdkajfpllpgaaaDoor
open Go.RowKit
theorem ldT_is (v : Value) : Instr.loadAt 48 v = loadS 48 v := rfl
def buildM (ps : Array (Nat × Value)) : Sem Value := Instr.build 50 ps
theorem bdM_is (ps : Array (Nat × Value)) : Instr.build 50 ps = buildM ps := rfl
theorem bdM (id : Int) (x y : Fn) (p q : Array Value) (o : ByteArray) (w : World) : (buildM #[(0, .int .i64 id), (1, .agg #[.func x #[] p, .func y #[] q]), (2, .string o)]).run Tryd.prog w = .ok (.agg #[.int .i64 id, .func x #[] p, .func y #[] q, .string o]) w := by kernel_rfl
theorem ldT {w : World} {g : Nat} {f s : Value} {t : TypeId} (h : Bk w g #[f, s] t) : (loadS 48 (.pointer (some ⟨g, 0, none⟩))).run Tryd.prog w = .ok (.agg #[f, s]) w :=
  loadS_part 2 Tryd.underlying48 rfl (by kernel_rfl) rfl fun i hi => by rw [h.cell, Nat.zero_add]
attribute [local go_sem ↓] ldT_is bdM_is
attribute [local go_sem] bdM
set_option maxRecDepth 100000 in
set_option maxHeartbeats 1600000 in
theorem mnew_any (id z k : Int) (h : Hi id z k) (key : ByteArray) (hl : key.size < 2305843009213693952) (w : World) (hK : KK w) :
    Calls Tryd.prog 9 #[.int .i64 id, .string key] w fun e w' => ∃ m b, e = .returned (.tuple #[.pointer (some ⟨m, 0, none⟩), .int .i64 0]) ∧ w.heap.size ≤ m ∧ w.heap.size ≤ b ∧ Mc w' m b id (pd id key 92) (pd id key 54) ∧ Sm w w' := by
  have HK : Hid (KK w) := hK
  have C1 : Hid (∀ w, Calls Tryd.prog 20 #[.int .i64 id] w fun e w' => ∃ g b, e = .returned (.tuple #[.pointer (some ⟨g, 0, none⟩), .int .i64 0]) ∧ w.heap.size ≤ g ∧ w.heap.size ≤ b ∧ St w' g b id .empty ∧ Sm w w') := hnew_any id z k h
  have C2 : Hid (∀ w, KK w → Calls Tryd.prog 21 #[.int .i64 id, .string key] w fun e w' => ∃ g, e = .returned (.slice (some ⟨g, 0, none⟩) (hk id) (hk id)) ∧ w.heap.size ≤ g ∧ Bk w' g (br (hk id) (xb (ky id key))) 5 ∧ Sm w w') := keyb_any id z k h key hl
  have hn : hk id ≤ 128 := by rcases hk_or id with e | e <;> omega
  obtain ⟨n, hn'⟩ : ∃ n, hk id = n := ⟨_, rfl⟩
  obtain ⟨O, hO⟩ : ∃ O, pd id key 92 = O := ⟨_, rfl⟩
  obtain ⟨I, hI⟩ : ∃ I, pd id key 54 = I := ⟨_, rfl⟩
  have hIs : I.size ≤ 128 := by rw [← hI, pd_size]; exact hn
  have C3 : Hid (∀ g w, Bk w g (br n (xb (ky id key))) 5 → Calls Tryd.prog 23 #[.slice (some ⟨g, 0, none⟩) n n, .int .u8 54] w fun e w' => e = .returned (.string I) ∧ Sm w w') := fun g w hb => by
    rw [← hI, ← hn'] at *
    exact pad_any g _ 54 _ (xb_lt _) (by decide) hn w hb
  have C4 : Hid (∀ g w, Bk w g (br n (xb (ky id key))) 5 → Calls Tryd.prog 23 #[.slice (some ⟨g, 0, none⟩) n n, .int .u8 92] w fun e w' => e = .returned (.string O) ∧ Sm w w') := fun g w hb => by
    rw [← hO, ← hn'] at *
    exact pad_any g _ 92 _ (xb_lt _) (by decide) hn w hb
  have C5 : Hid (∀ g b w, KK w → Nc b → St w g b id .empty → Calls Tryd.prog 22 #[.pointer (some ⟨g, 0, none⟩), .string I] w fun e w' => e = .returned (.int .i64 0) ∧ Kp (At1 b) w w' ∧ St w' g b id I) := fun g b w h1 h2 h3 => by
    have := hwrite_any g b id .empty I (by simp; omega) w h1 h2 h3
    rwa [app_nil] at this
  rw [hO, hI]
  rw [hn'] at C2
  clear h hl hK hn hO hI hIs hn'
  go_enter Tryd.func9, Tryd.ntmps9
  go_wp2_with (first
    | (go_at_call 20; refine (C1.out _).mono ?_; rintro e w1 ⟨g, b, rfl, hg, hb, H1, S1⟩; have k1 := HK.out.sm S1; have hnc := HK.out.nc hb)
    | (go_at_call 21; refine (C2.out _ k1).mono ?_; rintro e w2 ⟨y, rfl, hy, B2, S2⟩; have k2 := k1.sm S2; have H2 := H1.sm S2)
    | (go_at_call_of 23 (Value.int IntKind.u8 54); refine (C3.out _ _ B2).mono ?_; rintro e w3 ⟨rfl, S3⟩; have k3 := k2.sm S3; have H3 := H2.sm S3)
    | (go_at_call 22; refine (C5.out _ _ _ k3 hnc H3).mono ?_; rintro e w4 ⟨rfl, K4, H4⟩))
  have hby : y ≠ b := by have := H1.blt; omega
  have B4 := (B2.sm S3).kp K4 hby
  obtain ⟨f, s, BG, SV⟩ := H4.sv
  obtain ⟨x1, x2, p1, p2, rfl, rfl⟩ := SV.one
  have ld4 := ldT BG.drew
  have B4' := B4.drew
  have HKp : Kp (Fr w.heap.size) w w4 := (((S1.kp _).trans (S2.kp _)).trans (S3.kp _)).trans (K4.fr hb)
  have hs4 := HKp.size
  clear H1 S1 k1 H2 S2 k2 H3 S3 k3 K4 H4 hnc hy hby HK C1 C2 C3 C5 B2
  go_region_with (go_at_call 23; refine (C4.out _ _ B4').mono ?_; rintro e w5 ⟨rfl, S5⟩; have ld5 := ldT (BG.drew.sm S5))
  all_goals
    go_wp2
    go_ret2
    have h5 := S5.size
    have h5' : w4.heap.size ≤ w5.heap.size := h5
    exact ⟨_, b, rfl, by omega, hb, ⟨_, _, Bk.new w5 _ _, (SV.sm ((Sm.refl w4).drew.trans S5)).sm ((Sm.refl _).alloc _)⟩, Sm.of ((HKp.drew.trans (S5.kp _)).alloc _)⟩
set_option maxRecDepth 100000 in
set_option maxHeartbeats 800000 in
theorem mnew_no (id : Int) (key : ByteArray) (h : id ≤ 0 ∨ 5 ≤ id) (w : World) :
    Calls Tryd.prog 9 #[.int .i64 id, .string key] w fun e w' => e = .returned (.tuple #[.pointer none, .int .i64 1000]) ∧ Sm w w' := by
  have C1 : Hid (∀ w, Calls Tryd.prog 20 #[.int .i64 id] w fun e w' => e = .returned (.tuple #[.pointer none, .int .i64 900]) ∧ Sm w w') := hnew_no id h
  clear h
  go_enter Tryd.func9, Tryd.ntmps9
  go_wp2_with (go_at_call 20; refine (C1.out _).mono ?_; rintro e w1 ⟨rfl, S1⟩)
  go_ret2
  exact ⟨rfl, S1⟩
set_option maxRecDepth 100000 in
set_option maxHeartbeats 1600000 in
theorem msum_any (m b : Nat) (id z k : Int) (h : Hi id z k) (o t : ByteArray) (ho : o.size ≤ 128) (hl : t.size < 2305843009213693952) (w : World) (hK : KK w) (hM : Mc w m b id o t) :
    Calls Tryd.prog 14 #[.pointer (some ⟨m, 0, none⟩)] w fun e w' => e = .returned (.string (dig id (o ++ dig id t))) ∧ Sm w w' := by
  have HK : Hid (KK w) := hK
  obtain ⟨A, hA⟩ : ∃ A, dig id t = A := ⟨_, rfl⟩
  have hAz := dig_size h t
  rw [hA] at hAz
  have hAs : A.size ≤ 64 := by rcases h with ⟨_, rfl, _⟩ | ⟨_, rfl, _⟩ | ⟨_, rfl, _⟩ | ⟨_, rfl, _⟩ <;> omega
  have hoA : (o ++ A).size ≤ 192 := by rw [ByteArray.size_append]; omega
  rw [hA]
  obtain ⟨B, hB⟩ : ∃ B, dig id (o ++ A) = B := ⟨_, rfl⟩
  obtain ⟨f, y, h1, h2⟩ := hM
  have C1 : Hid (∀ w, Calls Tryd.prog 20 #[.int .i64 id] w fun e w' => ∃ g b, e = .returned (.tuple #[.pointer (some ⟨g, 0, none⟩), .int .i64 0]) ∧ w.heap.size ≤ g ∧ w.heap.size ≤ b ∧ St w' g b id .empty ∧ Sm w w') := hnew_any id z k h
  have C2 : Hid (∀ g b w, KK w → Nc b → St w g b id .empty → Calls Tryd.prog 22 #[.pointer (some ⟨g, 0, none⟩), .string o] w fun e w' => e = .returned (.int .i64 0) ∧ Kp (At1 b) w w' ∧ St w' g b id o) := fun g b w h1 h2 h3 => by
    have := hwrite_any g b id .empty o (by simp; omega) w h1 h2 h3
    rwa [app_nil] at this
  have C3 : Hid (∀ w', KK w' → w'.cell? ⟨m, 2, none⟩ = some y → Sv w' f y b id t → Calls Tryd.prog 24 #[.pointer (some ⟨m, 1, none⟩)] w' fun e w'' => e = .returned (.string A) ∧ Sm w' w'') := fun w' x1 x2 x3 => hA ▸ ms_any m b f y id t hl w' x1 x2 x3
  have C4 : Hid (∀ g b w, KK w → Nc b → St w g b id o → Calls Tryd.prog 22 #[.pointer (some ⟨g, 0, none⟩), .string A] w fun e w' => e = .returned (.int .i64 0) ∧ Kp (At1 b) w w' ∧ St w' g b id (o ++ A)) := fun g b w h1 h2 h3 => hwrite_any g b id o A (by omega) w h1 h2 h3
  have C5 : Hid (∀ g b w, KK w → St w g b id (o ++ A) → Calls Tryd.prog 24 #[.pointer (some ⟨g, 0, none⟩)] w fun e w' => e = .returned (.string B) ∧ Sm w w') := fun g b w h1 h2 => hB ▸ hsum_any g b id (o ++ A) (by omega) w h1 h2
  rw [hB]
  have hbl : b < w.heap.size := by
    obtain ⟨c, u, hb, _⟩ := h2.big
    exact hb.lt
  have hml := h1.lt
  have c0 : w.cell? ⟨m, 0, none⟩ = some (.int .i64 id) := h1.cell 0
  clear h hl hK hA hAz hAs hoA hB ho
  go_enter Tryd.func14, Tryd.ntmps14
  go_wp2_with (first
    | (go_at_call 20; refine (C1.out _).mono ?_; rintro e w1 ⟨g, a, rfl, hg, ha, H1, S1⟩; have k1 := HK.out.sm S1; have hnc := HK.out.nc ha; have v1 := h2.sm S1; have m1 := h1.sm S1; have c3 : w1.cell? ⟨m, 3, none⟩ = some (.string o) := m1.cell 3)
    | (go_at_call 22; first | (refine (C4.out _ _ _ k3 hnc H3).mono ?_; rintro e w4 ⟨rfl, K4, H4⟩; have k4 := k3.at1 K4 hnc) | (refine (C2.out _ _ _ k1 hnc H1).mono ?_; rintro e w2 ⟨rfl, K2, H2⟩; have k2 := k1.at1 K2 hnc; have hab : b ≠ a := (by omega); have hma : m ≠ a := (by omega); have m2 := m1.kp K2 hma; obtain ⟨bc, bu, bb, bs⟩ : ∃ c u, Bk w1 a c u ∧ 4 < c.size := (H1.sv).elim (fun _ h => h.elim (fun _ h => h.2.big)); have v2 := v1.far K2 bb bs hab; have c2 : w2.cell? ⟨m, 2, none⟩ = some y := m2.cell 2))
    | (go_at_call 24; first | (refine (C5.out _ _ _ k4 H4).mono ?_; rintro e w5 ⟨rfl, S5⟩) | (refine (C3.out _ k2 c2 v2).mono ?_; rintro e w3 ⟨rfl, S3⟩; have k3 := k2.sm S3; have H3 := H2.sm S3)))
  go_ret
  exact ⟨rfl, Sm.of (((((S1.kp _).trans (K2.fr ha)).trans (S3.kp _)).trans (K4.fr ha)).trans (S5.kp _))⟩
end Go.Proofs.YtcdkajfpllpgaaaDoor
