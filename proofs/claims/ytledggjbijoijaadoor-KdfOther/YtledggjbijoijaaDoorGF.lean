/-
  math/bits.Mul64 of a number and 8: no carry beyond one word below 2^61.
-/
/-
  sha512's appendWord and padding: a word's bytes behind a text, the end of a text.
-/
import Derived.Test.YtledggjbijoijaaDoorGE
import Derived.Test.YtledggjbijoijaaDoorHF
import Derived.Test.YtledggjbijoijaaDoorRCg
namespace Go.Proofs.YtledggjbijoijaaDoor.L8
open Go.RowKit
theorem low32 (x : Nat) (hx : x < 18446744073709551616) : bits .and .u64 (x : Int) 4294967295 = ((x % 4294967296 : Nat) : Int) := by
  rw [show (4294967295 : Int) = ((4294967295 : Nat) : Int) from rfl, u64_and_nat _ _ hx (by decide)]
  exact congrArg _ (Nat.and_two_pow_sub_one_eq_mod x 32)
set_option maxRecDepth 100000 in
set_option maxHeartbeats 1000000 in
theorem mul8_any (x : Nat) (hx : x < 2305843009213693952) (w : World) :
    Calls Tryd.prog 69 #[.int .u64 (x : Int), .int .u64 8] w fun e w' => e = .returned (.tuple #[.int .u64 0, .int .u64 ((x * 8 : Nat) : Int)]) ∧ w = w' := by
  have x1 : (x : Int) < 2305843009213693952 := by omega
  have h8 : bits .and .u64 8 4294967295 = 8 := low32 8 (by decide)
  obtain ⟨a, ha⟩ : ∃ a, x % 4294967296 = a := ⟨_, rfl⟩
  have hx0 := low32 x (by omega)
  rw [ha] at hx0
  obtain ⟨T, hT⟩ : ∃ T, x / 4294967296 * 8 + a * 8 / 4294967296 = T := ⟨_, rfl⟩
  have HT : IntKind.u64.wrap ((x : Int) / 4294967296 * 8 + IntKind.u64.wrap ((a : Int) * 8) / 4294967296) = (T : Int) := by
    rw [IntKind.wrap_u64, IntKind.wrap_u64]; omega
  have hT1 : T < 4294967296 := by omega
  have hT0 := low32 T (by omega)
  rw [Nat.mod_eq_of_lt hT1] at hT0
  have hT3 : (T : Int) < 4294967296 := by omega
  have hT2 : (T : Int) / 4294967296 = 0 := by omega
  have HE : Hid (Unit → (x : Int) * 8 = ((x * 8 : Nat) : Int)) := fun _ => by omega
  clear hx ha hT
  go_enter Tryd.func69, Tryd.ntmps69
  go_wp2
  go_ret2
  refine ⟨?_, rfl⟩
  rw [← HE.out ()]
  first | rfl | trace_state
end Go.Proofs.YtledggjbijoijaaDoor.L8
namespace Go.Proofs.YtledggjbijoijaaDoor.L8
open Go.RowKit
attribute [local go_sem ↓] ap1_is mkS_is cvS_is
set_option maxRecDepth 100000 in
set_option maxHeartbeats 1600000 in
theorem appendWord_any (lo g n cap : Nat) (P : Nat → Nat) (x : Nat) (hP : ∀ k, k < 8 → P (n + k) = x / 2 ^ (56 - 8 * k) % 256) (hn : n + 8 ≤ 140737488355328) (w : World) (hlo : lo ≤ w.heap.size) (hg : lo ≤ g) (h : Rb w g n cap P) :
    Calls Tryd.prog 70 #[.slice (some ⟨g, 0, none⟩) n cap, .int .u64 (x : Int)] w fun e w' => ∃ g' cap', e = .returned (.slice (some ⟨g', 0, none⟩) (n + 8) cap') ∧ lo ≤ g' ∧ Rb w' g' (n + 8) cap' P ∧ Kp (Fr lo) w w' := by
  have HP : Hid (∀ k, k < 8 → P (n + k) = x / 2 ^ (56 - 8 * k) % 256) := hP
  clear hP
  go_enter Tryd.func70, Tryd.ntmps70
  go_wp2
  go_loopw [0, 6] (fun v i u => ∃ k g cap : Nat, k ≤ 8 ∧ i = .int .i64 (k : Int) ∧ v = .slice (some ⟨g, 0, none⟩) (n + k) cap ∧ lo ≤ g ∧ Rb u g (n + k) cap P ∧ Kp (Fr lo) w u) (fun _ i _ => 8 - (intOf i).toNat)
  case atStart => exact ⟨0, g, cap, by omega, rfl, rfl, hg, h, Kp.refl _ _⟩
  case round =>
    clear h hg
    obtain ⟨k, g, cap, hk, rfl, rfl, hg, HR, HK⟩ := hrel
    by_cases hlt : k < 8
    · have k0 : (0 : Int) ≤ (k : Int) := by omega
      have k1 : (k : Int) < 8 := by omega
      have hp := HP.out k hlt
      obtain ⟨p, hpp⟩ : ∃ p, x / 2 ^ (56 - 8 * k) % 256 = p := ⟨_, rfl⟩
      have p1 : (p : Int) < 256 := by have := Nat.mod_lt (x / 2 ^ (56 - 8 * k)) (show 0 < 256 by decide); omega
      have ha := byte_cast x (56 - 8 * k)
      rw [hpp] at ha hp
      have hsz := HK.size
      obtain ⟨M, hM⟩ : ∃ M, n + k = M := ⟨_, rfl⟩
      rw [hM] at HR hp ⊢
      obtain ⟨g2, cap2, u2, hap, hg2, HR2, K2⟩ := ap1_run (World.alloc wr (.cells #[.int .u8 (p : Int)] 5)) lo wr.heap.size M 1 1 (.slice (some ⟨g, 0, none⟩) M cap) P (Or.inr ⟨_, _, rfl, hg, HR.sm ((Sm.refl _).alloc _)⟩) (fun j hj => by
        obtain rfl : j = 0 := by omega
        rw [(Bk.new _ #[.int .u8 (p : Int)] 5).cell 0, Nat.add_zero, hp]
        rfl) (by omega) (by omega) (by simp; omega)
      have HK2 := (HK.alloc (.cells #[.int .u8 (p : Int)] 5)).trans K2
      obtain ⟨M1, hM1⟩ : ∃ M1, M + 1 = M1 := ⟨_, rfl⟩
      rw [hM1] at hap HR2
      clear HR HK hp hpp
      go_wp2
      go_roundw
      case rel => exact ⟨k + 1, g2, cap2, by omega, by go_num, by rw [show n + (k + 1) = M1 by omega], hg2, by rw [show n + (k + 1) = M1 by omega]; exact HR2, HK2⟩
      case measure => simp [intOf]; omega
    · have ki : ¬ (k : Int) < 8 := by omega
      have hk8 : n + k = n + 8 := by omega
      rw [hk8] at HR ⊢
      clear hlt hk hk8
      go_wp2
      go_ret
      exact ⟨g, cap, rfl, hg, HR, HK⟩

/-! ### the end of a text -/
theorem mkR_run (w : World) (k1 k2 : IntKind) (n c : Nat) (hnc : n ≤ c) (hc : c ≤ 281474976710656) : (mkS (.int k1 (n : Int)) (.int k2 (c : Int))).run Tryd.prog w = .ok (.slice (some ⟨w.heap.size, 0, none⟩) n c) (w.alloc (.cells (br c fun _ => 0) 5)) := by
  obtain ⟨i0, hi0, hz0, hz1, hz2⟩ := info_parts Tryd.info8
  unfold mkS
  rw [run_make w 33 5 i0 _ Tryd.underlying33 hi0 hz0 k1 k2 (n : Int) (c : Int) (by omega) (by omega) (by rw [hz2]; omega) (by omega), hz1, Int.toNat_natCast, Int.toNat_natCast, made_br]
/-- A new row whose first n cells hold the first n bytes of P. -/
theorem rb_new (w : World) (n c : Nat) (f P : Nat → Nat) (hnc : n ≤ c) (h : ∀ i, i < n → f i = P i) : Rb (w.alloc (.cells (br c f) 5)) w.heap.size n c P := by
  have hN := Bk.new w (br c f) 5
  refine ⟨hN.lt, hnc, fun i hi => ?_, fun i hi => ⟨?_, hN.fz i⟩⟩
  · rw [hN.cell i, br_get c f i (by omega), h i hi]
  · rw [hN.cell i, br_get c f i hi]
    rfl
/-- The bytes behind a text of n bytes. -/
def pdT (n : Nat) : ByteArray := bt (fun k => pf n (fun _ => 0) (n + k)) (128 * nb n - n)
theorem pad_len (n : Nat) : 128 * nb n - n = 1 + (239 - n % 128) % 128 + 16 := by unfold nb; omega
/-- Byte k behind the text: a bit 1, noughts, the length. -/
theorem pd_at (n L : Nat) (hL : 128 * nb n - n = L) (k : Nat) : pf n (fun _ => 0) (n + k) = if k = 0 then 128 else if k < L - 8 then 0 else n * 8 / 2 ^ (8 * (L - 1 - k)) % 256 := by
  have hn : 128 * nb n = n + L := by unfold nb at hL ⊢; omega
  unfold pf
  rw [hn, if_neg (show ¬ n + k < n by omega)]
  by_cases c0 : k = 0
  · rw [if_pos c0, if_pos (show n + k = n by omega)]
  · rw [if_neg c0, if_neg (show ¬ n + k = n by omega)]
    by_cases c : k < L - 8
    · rw [if_pos c, if_pos (show n + k < n + L - 8 by omega)]
    · rw [if_neg c, if_neg (show ¬ n + k < n + L - 8 by omega), show n + L - 1 - (n + k) = L - 1 - k by omega]
set_option maxRecDepth 100000 in
set_option maxHeartbeats 1600000 in
theorem padding_any (n : Nat) (hn : n < 2305843009213693952) (w : World) :
    Calls Tryd.prog 63 #[.int .u64 (n : Int)] w fun e w' => e = .returned (.string (pdT n)) ∧ Sm w w' := by
  obtain ⟨L, hL⟩ : ∃ L, 128 * nb n - n = L := ⟨_, rfl⟩
  have hL2 := pad_len n
  rw [hL] at hL2
  have hP := pd_at n L hL
  obtain ⟨B, hB⟩ : ∃ B, n * 8 = B := ⟨_, rfl⟩
  obtain ⟨q, hq⟩ : ∃ q, (239 - n % 128) % 128 = q := ⟨_, rfl⟩
  rw [hq] at hL2
  rw [hB] at hP
  obtain ⟨L0, hL0⟩ : ∃ L0, 1 + q = L0 := ⟨_, rfl⟩
  have hr : ((239 : Int) - (n : Int) % 128) % 128 = (q : Int) := by omega
  have CM : Hid (∀ w, Calls Tryd.prog 69 #[.int .u64 (n : Int), .int .u64 8] w fun e w' => e = .returned (.tuple #[.int .u64 0, .int .u64 (B : Int)]) ∧ w = w') := fun w => by rw [← hB]; exact mul8_any n hn w
  obtain ⟨P, hPP⟩ : ∃ P, (fun k => pf n (fun _ => 0) (n + k)) = P := ⟨_, rfl⟩
  have HX : Hid (pdT n = bt P L) := show pdT n = _ by unfold pdT; rw [hL, hPP]
  have hP : ∀ k, P k = if k = 0 then 128 else if k < L - 8 then 0 else B / 2 ^ (8 * (L - 1 - k)) % 256 := fun k => by rw [← hPP]; exact hP k
  have mk := fun w => mkR_run w .u64 .u64 L0 L (by omega) (by omega)
  have g0 := br_get L (fun _ => 0) 0 (by omega)
  have q1 : (q : Int) < 128 := by omega
  have w0 : IntKind.u64.wrap ((1 : Int) + (q : Int)) = (L0 : Int) := by rw [IntKind.wrap_u64]; omega
  have w1 : (1 : Int) + (q : Int) = (L0 : Int) := by omega
  have w2 : IntKind.u64.wrap ((L0 : Int) + 16) = (L : Int) := by rw [IntKind.wrap_u64]; omega
  have w3 : (L0 : Int) + 16 = (L : Int) := by omega
  have l0 : (0 : Int) < (L0 : Int) := by omega
  have hset : (br L fun _ => 0).setIfInBounds 0 (.int .u8 128) = br L (fun k => if k = 0 then 128 else 0) := br_put L _ _ 0 128 (by rfl) fun j hj h0 => if_neg h0
  have HR0 : Rb (w.alloc (Obj.cells ((br L fun _ => 0).setIfInBounds 0 (.int .u8 128)) 5)) w.heap.size L0 L P := by
    rw [hset]
    refine rb_new w L0 L _ P (by omega) fun i hi => ?_
    rw [hP i]
    by_cases c : i = 0
    · rw [if_pos c, if_pos c]
    · rw [if_neg c, if_neg c, if_pos (by omega)]
  have K0 : Kp (Fr w.heap.size) w (w.alloc (Obj.cells ((br L fun _ => 0).setIfInBounds 0 (.int .u8 128)) 5)) := (Kp.refl _ _).alloc _
  have CA : Hid (∀ w' g, w.heap.size ≤ w'.heap.size → w.heap.size ≤ g → Rb w' g L0 L P → Calls Tryd.prog 70 #[.slice (some ⟨g, 0, none⟩) L0 L, .int .u64 0] w' fun e w'' => ∃ g' cap', e = .returned (.slice (some ⟨g', 0, none⟩) (L0 + 8) cap') ∧ w.heap.size ≤ g' ∧ Rb w'' g' (L0 + 8) cap' P ∧ Kp (Fr w.heap.size) w' w'') := fun w' g h1 h2 h3 =>
    appendWord_any w.heap.size g L0 L P 0 (fun k hk => by rw [hP, if_neg (by omega), if_pos (by omega)]; simp) (by omega) w' h1 h2 h3
  have CB : Hid (∀ w' g cap, w.heap.size ≤ w'.heap.size → w.heap.size ≤ g → Rb w' g (L0 + 8) cap P → Calls Tryd.prog 70 #[.slice (some ⟨g, 0, none⟩) (L0 + 8) cap, .int .u64 (B : Int)] w' fun e w'' => ∃ g' cap', e = .returned (.slice (some ⟨g', 0, none⟩) L cap') ∧ w.heap.size ≤ g' ∧ Rb w'' g' L cap' P ∧ Kp (Fr w.heap.size) w' w'') := fun w' g cap h1 h2 h3 => by
    have := appendWord_any w.heap.size g (L0 + 8) cap P B (fun k hk => by rw [hP, if_neg (by omega), if_neg (by omega), show 8 * (L - 1 - (L0 + 8 + k)) = 56 - 8 * k by omega]) (by omega) w' h1 h2 h3
    rw [show L0 + 8 + 8 = L by omega] at this
    exact this
  clear hL2 hL hB hq hn hP hset hL0 hPP
  go_enter Tryd.func63, Tryd.ntmps63
  go_wp2_with (first
    | (go_at_call 69; refine (CM.out _).mono ?_; rintro e w' ⟨rfl, rfl⟩)
    | (go_at_call_of 70 (Value.int IntKind.u64 0); refine (CA.out _ _ K0.size (Nat.le_refl _) HR0).mono ?_; rintro e v1 ⟨g1, cap1, rfl, hg1, HR1, K1⟩; have K1' := K0.trans K1)
    | (go_at_call_of 70 (Value.int IntKind.u64 ↑B); refine (CB.out _ _ _ K1'.size hg1 HR1).mono ?_; rintro e v2 ⟨g2, cap2, rfl, hg2, HR2, K2⟩; have cv := fun c => cvS_run v2 g2 0 L c P fun i hi => (by rw [Nat.zero_add]; exact HR2.cell i hi)))
  go_ret
  exact ⟨congrArg (fun z => Ending.returned (Value.string z)) HX.out.symm, Sm.of (K1'.trans K2)⟩
end Go.Proofs.YtledggjbijoijaaDoor.L8
