/-
  The statement HashKnown, walked: it answers true.
-/
import Derived.Test.YtoplcdcjclbckaaDoorYE
namespace Go.Proofs.YtoplcdcjclbckaaDoor
open Go.RowKit
def idxS (x i : Value) : Sem Value := Instr.index 9 x i
theorem idxS_is (x i : Value) : Instr.index 9 x i = idxS x i := rfl
theorem xb_get (s : ByteArray) (j : Nat) (h : j < s.size) : (s[j]'h).toNat = xb s j := by
  rw [xb_data, Array.getElem?_eq_getElem (show j < s.data.size from h)]
  rfl
theorem idxS_run (s : ByteArray) (k : IntKind) (j : Nat) (h : j < s.size) (w : World) : (idxS (.string s) (.int k (j : Int))).run Tryd.prog w = .ok (.int .u8 ((xb s j : Nat) : Int)) w := by
  unfold idxS
  have hj : (0 : Int) ≤ (j : Int) ∧ (j : Int) < (s.size : Int) := ⟨by omega, by omega⟩
  rw [run_index_string w 9 s k (j : Int) Tryd.underlying9, dif_pos hj]
  exact congrArg (fun x : Nat => Result.ok (Value.int .u8 (x : Int)) w) (xb_get s j h)
/-- A hexadecimal digit's letter; the letters of a text's bytes. -/
def hxc (n : Nat) : Nat := if n < 10 then 48 + n else 87 + n
def hxd (D : ByteArray) (i : Nat) : Nat := if i % 2 = 0 then hxc (xb D (i / 2) / 16) else hxc (xb D (i / 2) % 16)
def hexT (D : ByteArray) : ByteArray := bt (hxd D) (2 * D.size)
def all16 : ByteArray := ⟨#[48, 49, 50, 51, 52, 53, 54, 55, 56, 57, 97, 98, 99, 100, 101, 102]⟩
theorem all16_at : ∀ n, n < 16 → xb all16 n = hxc n := by decide
theorem hxd_even (D : ByteArray) (k : Nat) : hxd D (2 * k) = hxc (xb D k / 16) := by unfold hxd; rw [if_pos (by omega), show 2 * k / 2 = k by omega]
theorem hxd_odd (D : ByteArray) (k : Nat) : hxd D (2 * k + 1) = hxc (xb D k % 16) := by unfold hxd; rw [if_neg (by omega), show (2 * k + 1) / 2 = k by omega]
theorem hxc_lt (n : Nat) (h : n < 16) : hxc n < 256 := by unfold hxc; split <;> omega
attribute [local go_sem ↓] ap1_is cvS_is idxS_is
set_option maxRecDepth 100000 in
set_option maxHeartbeats 1600000 in
theorem same9_any (id z k : Int) (s D want : ByteArray) (h : Hi id z k) (hD : dig id s = D) (hx : hexT D = want) (h0 : 0 < D.size) (hs : s.size ≤ 1000) (w : World) (hK : KK w) :
    Calls Tryd.prog 18 #[.int .i64 id, .string s, .string want] w fun e w' => e = .returned (.bool true) ∧ Sm w w' := by
  have CN : Hid (∀ x w, Calls Tryd.prog 13 #[.int .i64 x] w fun e w' => e = .returned (.int .i64 x) ∧ w = w') := num7_any
  have C1 : Hid (Unit → Calls Tryd.prog 7 #[.int .i64 id, .string s] w fun e w' => e = .returned (.tuple #[.string D, .int .i64 0]) ∧ Sm w w') := fun _ => hD ▸ hof_any id z k s h (by omega) w hK
  have HZ : Hid (D.size ≤ 64) := show D.size ≤ 64 by
    have := dig_size h s
    rw [hD] at this
    rcases h with ⟨_, h, _⟩ | ⟨_, h, _⟩ | ⟨_, h, _⟩ | ⟨_, h, _⟩ <;> omega
  have HX : Hid (bt (hxd D) (2 * D.size) = want) := hx
  have H0 : Hid (0 < D.size) := h0
  clear h hD hx hs hK h0
  obtain ⟨n, hn⟩ : ∃ n, D.size = n := ⟨_, rfl⟩
  rw [hn] at HX HZ H0
  have HN : Hid (D.size = n) := hn
  go_enter Tryd.func18, Tryd.ntmps18
  go_wp2_with (go_at_call 7; refine (C1.out ()).mono ?_; rintro e v ⟨rfl, S1⟩)
  go_loopw [10, 11] (fun x y u => ∃ k : Nat, k ≤ n ∧ y = .int .i64 (k : Int) ∧ Rv u v.heap.size x (2 * k) (hxd D) ∧ Kp (Fr v.heap.size) v u) (fun _ y _ => n - (intOf y).toNat)
  case atStart => exact ⟨0, by omega, rfl, Or.inl ⟨rfl, rfl⟩, Kp.refl _ _⟩
  case round =>
    obtain ⟨k, hk, rfl, HR, HK⟩ := hrel
    have hz := HZ.out
    by_cases hlt : k < n
    · have k0 : (0 : Int) ≤ (k : Int) := by omega
      have k1 : (k : Int) < (n : Int) := by omega
      have k2 : (k : Int) ≤ 64 := by omega
      have i1 := fun w => idxS_run D .i64 k (by rw [hn]; exact hlt) w
      obtain ⟨x, hxx⟩ : ∃ x, xb D k = x := ⟨_, rfl⟩
      have xl : x < 256 := hxx ▸ xb_lt D k
      have g0 := hxd_even D k
      have g1 := hxd_odd D k
      rw [hxx] at i1 g0 g1
      have i2 := fun w => idxS_run all16 .u8 (x / 16) (show x / 16 < 16 by omega) w
      have i3 := fun w => idxS_run all16 .u8 (x % 16) (show x % 16 < 16 by omega) w
      rw [all16_at _ (by omega)] at i2 i3
      have m0 := hxc_lt (x / 16) (by omega)
      have m1 := hxc_lt (x % 16) (by omega)
      obtain ⟨q, hq⟩ : ∃ q, x / 16 = q := ⟨_, rfl⟩
      obtain ⟨r, hr⟩ : ∃ r, x % 16 = r := ⟨_, rfl⟩
      have e0 : (x : Int) / 16 = (q : Int) := by omega
      have e1 : (x : Int) % 16 = (r : Int) := by omega
      have e2 : Int.tdiv (x : Int) 16 = (q : Int) := by rw [Int.tdiv_eq_ediv_of_nonneg (by omega)]; exact e0
      have e3 : Int.tmod (x : Int) 16 = (r : Int) := by rw [Int.tmod_eq_emod_of_nonneg (by omega)]; exact e1
      have q1 : (q : Int) < 16 := by omega
      have r1 : (r : Int) < 16 := by omega
      have x1 : (x : Int) < 256 := by omega
      rw [hq] at g0 i2 m0
      rw [hr] at g1 i3 m1
      generalize hxc q = d0 at *
      generalize hxc r = d1 at *
      unfold all16 at i2 i3
      have hsz := HK.size
      obtain ⟨N, hN⟩ : ∃ N, 2 * k = N := ⟨_, rfl⟩
      rw [hN] at HR g0 g1
      have hNb := Bk.new wr #[.int .u8 (d0 : Int), .int .u8 (d1 : Int)] 5
      obtain ⟨g', cap', u2, hap, hg', HR2, K2⟩ := ap1_run (World.drew (World.alloc wr (.cells #[.int .u8 (d0 : Int), .int .u8 (d1 : Int)] 5))) v.heap.size wr.heap.size N 2 2 _ (hxd D) (HR.sm (((Sm.refl _).alloc _).drew)) (fun j hj => by
        refine (hNb.cell j).trans ?_
        match j, hj with
        | 0, _ => rw [Nat.add_zero, g0]; rfl
        | 1, _ => rw [g1]; rfl) (by omega) (by omega) (by simp; omega)
      have HK2 := (HK.alloc (.cells #[.int .u8 (d0 : Int), .int .u8 (d1 : Int)] 5)).drew.trans K2
      clear HR HK g0 g1 hNb hq hr hxx xl hz
      go_wp2
      go_big_region
      go_wp2
      go_roundw
      case rel => exact ⟨k + 1, by omega, by go_num, Or.inr ⟨g', cap', by rw [show 2 * (k + 1) = N + 2 by omega], hg', by rw [show 2 * (k + 1) = N + 2 by omega]; exact HR2⟩, HK2⟩
      case measure => simp [intOf]; omega
    · have ki : ¬ (k : Int) < (n : Int) := by omega
      have hp := H0.out
      obtain ⟨g2, cap2, rfl, hg2, HRb⟩ : ∃ g cap, _ ∧ _ ∧ _ := HR.resolve_left (fun h => by omega)
      have hkn : k = n := by omega
      rw [hkn] at HRb ⊢
      have cv := fun c => cvS_run _ g2 0 (2 * n) c (hxd D) fun i hi => by rw [Nat.zero_add]; exact HRb.cell i hi
      rw [HX.out] at cv
      have ki' : ¬ (n : Int) < (n : Int) := by omega
      have Kend := (S1.kp (Fr w.heap.size)).trans (HK.mono fun j _ h => by have h1 : v.heap.size ≤ j := h; have := S1.size; show w.heap.size ≤ j; omega)
      clear hlt hk hz hp HRb HR HK ki hkn
      go_wp2_with (go_at_call 13; refine (CN.out _ _).mono ?_; rintro e w' ⟨rfl, rfl⟩)
      go_ret
      exact ⟨rfl, Sm.of Kend⟩
theorem known0 (w : World) (hK : KK w) : Calls Tryd.prog 18 #[.int .i64 1, .string ⟨#[97, 98, 99]⟩, .string ⟨#[50, 51, 48, 57, 55, 100, 50, 50, 51, 52, 48, 53, 100, 56, 50, 50, 56, 54, 52, 50, 97, 52, 55, 55, 98, 100, 97, 50, 53, 53, 98, 51, 50, 97, 97, 100, 98, 99, 101, 52, 98, 100, 97, 48, 98, 51, 102, 55, 101, 51, 54, 99, 57, 100, 97, 55]⟩] w fun e w' => e = .returned (.bool true) ∧ Sm w w' :=
  same9_any 1 _ _ ⟨#[97, 98, 99]⟩ ⟨#[35, 9, 125, 34, 52, 5, 216, 34, 134, 66, 164, 119, 189, 162, 85, 179, 42, 173, 188, 228, 189, 160, 179, 247, 227, 108, 157, 167]⟩ ⟨#[50, 51, 48, 57, 55, 100, 50, 50, 51, 52, 48, 53, 100, 56, 50, 50, 56, 54, 52, 50, 97, 52, 55, 55, 98, 100, 97, 50, 53, 53, 98, 51, 50, 97, 97, 100, 98, 99, 101, 52, 98, 100, 97, 48, 98, 51, 102, 55, 101, 51, 54, 99, 57, 100, 97, 55]⟩ hi1 (by kernel_rfl) (by kernel_rfl) (by decide) (by decide) w hK
theorem known1 (w : World) (hK : KK w) : Calls Tryd.prog 18 #[.int .i64 2, .string ⟨#[97, 98, 99]⟩, .string ⟨#[98, 97, 55, 56, 49, 54, 98, 102, 56, 102, 48, 49, 99, 102, 101, 97, 52, 49, 52, 49, 52, 48, 100, 101, 53, 100, 97, 101, 50, 50, 50, 51, 98, 48, 48, 51, 54, 49, 97, 51, 57, 54, 49, 55, 55, 97, 57, 99, 98, 52, 49, 48, 102, 102, 54, 49, 102, 50, 48, 48, 49, 53, 97, 100]⟩] w fun e w' => e = .returned (.bool true) ∧ Sm w w' :=
  same9_any 2 _ _ ⟨#[97, 98, 99]⟩ ⟨#[186, 120, 22, 191, 143, 1, 207, 234, 65, 65, 64, 222, 93, 174, 34, 35, 176, 3, 97, 163, 150, 23, 122, 156, 180, 16, 255, 97, 242, 0, 21, 173]⟩ ⟨#[98, 97, 55, 56, 49, 54, 98, 102, 56, 102, 48, 49, 99, 102, 101, 97, 52, 49, 52, 49, 52, 48, 100, 101, 53, 100, 97, 101, 50, 50, 50, 51, 98, 48, 48, 51, 54, 49, 97, 51, 57, 54, 49, 55, 55, 97, 57, 99, 98, 52, 49, 48, 102, 102, 54, 49, 102, 50, 48, 48, 49, 53, 97, 100]⟩ hi2 (by kernel_rfl) (by kernel_rfl) (by decide) (by decide) w hK
theorem known2 (w : World) (hK : KK w) : Calls Tryd.prog 18 #[.int .i64 2, .string ⟨#[]⟩, .string ⟨#[101, 51, 98, 48, 99, 52, 52, 50, 57, 56, 102, 99, 49, 99, 49, 52, 57, 97, 102, 98, 102, 52, 99, 56, 57, 57, 54, 102, 98, 57, 50, 52, 50, 55, 97, 101, 52, 49, 101, 52, 54, 52, 57, 98, 57, 51, 52, 99, 97, 52, 57, 53, 57, 57, 49, 98, 55, 56, 53, 50, 98, 56, 53, 53]⟩] w fun e w' => e = .returned (.bool true) ∧ Sm w w' :=
  same9_any 2 _ _ ⟨#[]⟩ ⟨#[227, 176, 196, 66, 152, 252, 28, 20, 154, 251, 244, 200, 153, 111, 185, 36, 39, 174, 65, 228, 100, 155, 147, 76, 164, 149, 153, 27, 120, 82, 184, 85]⟩ ⟨#[101, 51, 98, 48, 99, 52, 52, 50, 57, 56, 102, 99, 49, 99, 49, 52, 57, 97, 102, 98, 102, 52, 99, 56, 57, 57, 54, 102, 98, 57, 50, 52, 50, 55, 97, 101, 52, 49, 101, 52, 54, 52, 57, 98, 57, 51, 52, 99, 97, 52, 57, 53, 57, 57, 49, 98, 55, 56, 53, 50, 98, 56, 53, 53]⟩ hi2 (by kernel_rfl) (by kernel_rfl) (by decide) (by decide) w hK
theorem known3 (w : World) (hK : KK w) : Calls Tryd.prog 18 #[.int .i64 3, .string ⟨#[97, 98, 99]⟩, .string ⟨#[99, 98, 48, 48, 55, 53, 51, 102, 52, 53, 97, 51, 53, 101, 56, 98, 98, 53, 97, 48, 51, 100, 54, 57, 57, 97, 99, 54, 53, 48, 48, 55, 50, 55, 50, 99, 51, 50, 97, 98, 48, 101, 100, 101, 100, 49, 54, 51, 49, 97, 56, 98, 54, 48, 53, 97, 52, 51, 102, 102, 53, 98, 101, 100, 56, 48, 56, 54, 48, 55, 50, 98, 97, 49, 101, 55, 99, 99, 50, 51, 53, 56, 98, 97, 101, 99, 97, 49, 51, 52, 99, 56, 50, 53, 97, 55]⟩] w fun e w' => e = .returned (.bool true) ∧ Sm w w' :=
  same9_any 3 _ _ ⟨#[97, 98, 99]⟩ ⟨#[203, 0, 117, 63, 69, 163, 94, 139, 181, 160, 61, 105, 154, 198, 80, 7, 39, 44, 50, 171, 14, 222, 209, 99, 26, 139, 96, 90, 67, 255, 91, 237, 128, 134, 7, 43, 161, 231, 204, 35, 88, 186, 236, 161, 52, 200, 37, 167]⟩ ⟨#[99, 98, 48, 48, 55, 53, 51, 102, 52, 53, 97, 51, 53, 101, 56, 98, 98, 53, 97, 48, 51, 100, 54, 57, 57, 97, 99, 54, 53, 48, 48, 55, 50, 55, 50, 99, 51, 50, 97, 98, 48, 101, 100, 101, 100, 49, 54, 51, 49, 97, 56, 98, 54, 48, 53, 97, 52, 51, 102, 102, 53, 98, 101, 100, 56, 48, 56, 54, 48, 55, 50, 98, 97, 49, 101, 55, 99, 99, 50, 51, 53, 56, 98, 97, 101, 99, 97, 49, 51, 52, 99, 56, 50, 53, 97, 55]⟩ hi3 (by kernel_rfl) (by kernel_rfl) (by decide) (by decide) w hK
theorem known4 (w : World) (hK : KK w) : Calls Tryd.prog 18 #[.int .i64 4, .string ⟨#[97, 98, 99]⟩, .string ⟨#[100, 100, 97, 102, 51, 53, 97, 49, 57, 51, 54, 49, 55, 97, 98, 97, 99, 99, 52, 49, 55, 51, 52, 57, 97, 101, 50, 48, 52, 49, 51, 49, 49, 50, 101, 54, 102, 97, 52, 101, 56, 57, 97, 57, 55, 101, 97, 50, 48, 97, 57, 101, 101, 101, 101, 54, 52, 98, 53, 53, 100, 51, 57, 97, 50, 49, 57, 50, 57, 57, 50, 97, 50, 55, 52, 102, 99, 49, 97, 56, 51, 54, 98, 97, 51, 99, 50, 51, 97, 51, 102, 101, 101, 98, 98, 100, 52, 53, 52, 100, 52, 52, 50, 51, 54, 52, 51, 99, 101, 56, 48, 101, 50, 97, 57, 97, 99, 57, 52, 102, 97, 53, 52, 99, 97, 52, 57, 102]⟩] w fun e w' => e = .returned (.bool true) ∧ Sm w w' :=
  same9_any 4 _ _ ⟨#[97, 98, 99]⟩ ⟨#[221, 175, 53, 161, 147, 97, 122, 186, 204, 65, 115, 73, 174, 32, 65, 49, 18, 230, 250, 78, 137, 169, 126, 162, 10, 158, 238, 230, 75, 85, 211, 154, 33, 146, 153, 42, 39, 79, 193, 168, 54, 186, 60, 35, 163, 254, 235, 189, 69, 77, 68, 35, 100, 60, 232, 14, 42, 154, 201, 79, 165, 76, 164, 159]⟩ ⟨#[100, 100, 97, 102, 51, 53, 97, 49, 57, 51, 54, 49, 55, 97, 98, 97, 99, 99, 52, 49, 55, 51, 52, 57, 97, 101, 50, 48, 52, 49, 51, 49, 49, 50, 101, 54, 102, 97, 52, 101, 56, 57, 97, 57, 55, 101, 97, 50, 48, 97, 57, 101, 101, 101, 101, 54, 52, 98, 53, 53, 100, 51, 57, 97, 50, 49, 57, 50, 57, 57, 50, 97, 50, 55, 52, 102, 99, 49, 97, 56, 51, 54, 98, 97, 51, 99, 50, 51, 97, 51, 102, 101, 101, 98, 98, 100, 52, 53, 52, 100, 52, 52, 50, 51, 54, 52, 51, 99, 101, 56, 48, 101, 50, 97, 57, 97, 99, 57, 52, 102, 97, 53, 52, 99, 97, 52, 57, 102]⟩ hi4 (by kernel_rfl) (by kernel_rfl) (by decide) (by decide) w hK
set_option maxRecDepth 100000 in
set_option maxHeartbeats 1600000 in
theorem lyknown_any (w : World) (hK : KK w) : Calls Tryd.prog 5 #[] w fun e w' => e = .returned (.bool true) ∧ Sm w w' := by
  have HK : Hid (KK w) := hK
  clear hK
  go_enter Tryd.func5, Tryd.ntmps5
  go_wp2_with (first
    | (go_at_call_of 18 (Value.int IntKind.i64 1); refine (known0 _ HK.out).mono ?_; rintro e w1 ⟨rfl, S1⟩; have k1 := HK.out.sm S1)
    | (go_at_call_of 18 (Value.int IntKind.i64 3); refine (known3 _ k3).mono ?_; rintro e w4 ⟨rfl, S4⟩; have k4 := k3.sm S4)
    | (go_at_call_of 18 (Value.int IntKind.i64 4); refine (known4 _ k4).mono ?_; rintro e w5 ⟨rfl, S5⟩)
    | (go_at_call 18; first | (refine (known2 _ k2).mono ?_; rintro e w3 ⟨rfl, S3⟩; have k3 := k2.sm S3) | (refine (known1 _ k1).mono ?_; rintro e w2 ⟨rfl, S2⟩; have k2 := k1.sm S2)))
  go_ret
  exact ⟨rfl, (((S1.trans S2).trans S3).trans S4).trans S5⟩
end Go.Proofs.YtoplcdcjclbckaaDoor
