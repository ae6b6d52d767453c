/-
  The small functions of package sha256 and the documents' rot32: what they hand back.
-/
import Derived.Test.YtledggjbijoijaaDoorHN
import Derived.WalkKit
import Derived.WalkSpells
import Derived.WalkLawsBesides
import Derived.StillTactics
import Derived.BigQuiet
namespace Go.Proofs.YtledggjbijoijaaDoor
open Go.RowKit

theorem sgn32 : IntKind.u32.signed = false := rfl
attribute [local go_sem] sgn32
set_option maxRecDepth 100000 in
theorem rl_any (x k : Nat) (hx : x < 4294967296) (hk : 0 < k) (hk2 : k < 32) (w : World) :
    Calls Tryd.prog 87 #[.int .u32 (x : Int), .int .i64 (-(k : Int))] w fun e w' => e = .returned (.int .u32 ((rr x k : Nat) : Int)) ∧ w = w' := by
  have h := neg_and k hk hk2
  obtain ⟨m, hm⟩ : ∃ m, 32 - k = m := ⟨_, rfl⟩
  have hkm : 32 - m = k := by omega
  rw [hm] at h
  have m1 : (m : Int) < 32 := by omega
  have HE : Hid (Unit → bits BinOp.or IntKind.u32 ((x : Int) * 2 ^ m % 4294967296) ((x : Int) / 2 ^ (32 - m)) = ((rr x k : Nat) : Int)) := fun _ => by
    rw [shl_cast, shr_cast, u32_or_nat _ _ (mod32 _) (div32 _ hx), Nat.or_comm, hkm, ← hm]; rfl
  clear hkm hm hk hk2 hx
  go_enter Tryd.func87, Tryd.ntmps87
  go_wp2
  go_ret
  exact ⟨congrArg (fun z => Ending.returned (Value.int .u32 z)) (HE.out ()), rfl⟩
set_option maxRecDepth 100000 in
theorem rotate_any (x k : Nat) (hx : x < 4294967296) (hk : 0 < k) (hk2 : k < 32) (w : World) :
    Calls Tryd.prog 85 #[.int .u32 (x : Int), .int .i64 (k : Int)] w fun e w' => e = .returned (.int .u32 ((rr x k : Nat) : Int)) ∧ w = w' := by
  have H : Hid (∀ w, Calls Tryd.prog 87 #[.int .u32 (x : Int), .int .i64 (-(k : Int))] w fun e w' => e = .returned (.int .u32 ((rr x k : Nat) : Int)) ∧ w = w') := fun w => rl_any x k hx hk hk2 w
  have k1 : (k : Int) < 32 := by omega
  go_enter Tryd.func85, Tryd.ntmps85
  go_wp2_with (go_at_call 87; refine (H.out _).mono ?_; rintro e w' ⟨rfl, rfl⟩)
  go_ret
  exact ⟨rfl, rfl⟩
set_option maxRecDepth 100000 in
theorem rot_any (x k : Nat) (hx : x < 4294967296) (hk : 0 < k) (hk2 : k < 32) (w : World) :
    Calls Tryd.prog 38 #[.int .u32 (x : Int), .int .i64 (k : Int)] w fun e w' => e = .returned (.int .u32 ((rr x k : Nat) : Int)) ∧ ∃ n, w' = w.drewN n := by
  have HE : Hid (Unit → bits BinOp.or IntKind.u32 ((x : Int) / 2 ^ k) ((x : Int) * 2 ^ (32 - k) % 4294967296) = ((rr x k : Nat) : Int)) := fun _ => by
    rw [shl_cast, shr_cast, u32_or_nat _ _ (div32 _ hx) (mod32 _)]; rfl
  go_enter Tryd.func38, Tryd.ntmps38
  go_wp2
  go_quiet (fail)
  go_wp2
  go_ret
  exact ⟨congrArg (fun z => Ending.returned (Value.int .u32 z)) (HE.out ()), _, rfl⟩
set_option maxRecDepth 100000 in
theorem choose_any (x y z : Nat) (hx : x < 4294967296) (hy : y < 4294967296) (hz : z < 4294967296) (w : World) :
    Calls Tryd.prog 72 #[.int .u32 (x : Int), .int .u32 (y : Int), .int .u32 (z : Int)] w fun e w' => e = .returned (.int .u32 ((chN x y z : Nat) : Int)) ∧ w = w' := by
  have HE : Hid (Unit → bits BinOp.xor IntKind.u32 (bits BinOp.and IntKind.u32 (x : Int) (y : Int)) (bits BinOp.and IntKind.u32 (bits BinOp.xor IntKind.u32 IntKind.u32.max (x : Int)) (z : Int)) = ((chN x y z : Nat) : Int)) := fun _ => by
    rw [not32 x hx, u32_and_nat _ _ hx hy, u32_and_nat _ _ (xor32 (by decide) hx) hz, u32_xor_nat _ _ (and32 _ hy) (and32 _ hz)]; rfl
  clear hx hy hz
  go_enter Tryd.func72, Tryd.ntmps72
  go_wp2
  go_ret
  exact ⟨congrArg (fun z => Ending.returned (Value.int .u32 z)) (HE.out ()), rfl⟩
set_option maxRecDepth 100000 in
theorem majority_any (x y z : Nat) (hx : x < 4294967296) (hy : y < 4294967296) (hz : z < 4294967296) (w : World) :
    Calls Tryd.prog 74 #[.int .u32 (x : Int), .int .u32 (y : Int), .int .u32 (z : Int)] w fun e w' => e = .returned (.int .u32 ((mjN x y z : Nat) : Int)) ∧ w = w' := by
  have HE : Hid (Unit → bits BinOp.xor IntKind.u32 (bits BinOp.xor IntKind.u32 (bits BinOp.and IntKind.u32 (x : Int) (y : Int)) (bits BinOp.and IntKind.u32 (x : Int) (z : Int))) (bits BinOp.and IntKind.u32 (y : Int) (z : Int)) = ((mjN x y z : Nat) : Int)) := fun _ => by
    rw [u32_and_nat _ _ hx hy, u32_and_nat _ _ hx hz, u32_and_nat _ _ hy hz, u32_xor_nat _ _ (and32 _ hy) (and32 _ hz), u32_xor_nat _ _ (xor32 (and32 _ hy) (and32 _ hz)) (and32 _ hz)]; rfl
  clear hx hy hz
  go_enter Tryd.func74, Tryd.ntmps74
  go_wp2
  go_ret
  exact ⟨congrArg (fun z => Ending.returned (Value.int .u32 z)) (HE.out ()), rfl⟩
theorem xor3 (x i j k : Nat) (hx : x < 4294967296) : bits BinOp.xor IntKind.u32 (bits BinOp.xor IntKind.u32 ((rr x i : Nat) : Int) ((rr x j : Nat) : Int)) ((rr x k : Nat) : Int) = (((rr x i ^^^ rr x j) ^^^ rr x k : Nat) : Int) := by
  rw [u32_xor_nat _ _ (rr_lt _ hx) (rr_lt _ hx), u32_xor_nat _ _ (xor32 (rr_lt _ hx) (rr_lt _ hx)) (rr_lt _ hx)]
theorem xor2 (x i j k : Nat) (hx : x < 4294967296) : bits BinOp.xor IntKind.u32 (bits BinOp.xor IntKind.u32 ((rr x i : Nat) : Int) ((rr x j : Nat) : Int)) ((x : Int) / (k : Int)) = (((rr x i ^^^ rr x j) ^^^ (x / k) : Nat) : Int) := by
  rw [← Int.natCast_ediv, u32_xor_nat _ _ (rr_lt _ hx) (rr_lt _ hx), u32_xor_nat _ _ (xor32 (rr_lt _ hx) (rr_lt _ hx)) (div32 _ hx)]
set_option maxRecDepth 100000 in
theorem highSum_any (x : Nat) (hx : x < 4294967296) (w : World) :
    Calls Tryd.prog 71 #[.int .u32 (x : Int)] w fun e w' => e = .returned (.int .u32 ((S1 x : Nat) : Int)) ∧ w = w' := by
  have H : Hid (∀ (z : Int) w, 0 < z → z < 32 → Calls Tryd.prog 85 #[.int .u32 (x : Int), .int .i64 z] w fun e w' => e = .returned (.int .u32 ((rr x z.toNat : Nat) : Int)) ∧ w = w') := fun z w h1 h2 => by
    obtain ⟨k, rfl⟩ := Int.eq_ofNat_of_zero_le (Int.le_of_lt h1)
    exact rotate_any x k hx (by omega) (by omega) w
  have HE : Hid (Unit → _) := fun (_ : Unit) => xor3 x 6 11 25 hx
  clear hx
  go_enter Tryd.func71, Tryd.ntmps71
  go_wp2_with (go_at_call 85; refine (H.out _ _ (by decide) (by decide)).mono ?_; rintro e w' ⟨rfl, rfl⟩)
  go_ret
  exact ⟨congrArg (fun z => Ending.returned (Value.int .u32 z)) (HE.out ()), rfl⟩
set_option maxRecDepth 100000 in
theorem lowSum_any (x : Nat) (hx : x < 4294967296) (w : World) :
    Calls Tryd.prog 73 #[.int .u32 (x : Int)] w fun e w' => e = .returned (.int .u32 ((S0 x : Nat) : Int)) ∧ w = w' := by
  have H : Hid (∀ (z : Int) w, 0 < z → z < 32 → Calls Tryd.prog 85 #[.int .u32 (x : Int), .int .i64 z] w fun e w' => e = .returned (.int .u32 ((rr x z.toNat : Nat) : Int)) ∧ w = w') := fun z w h1 h2 => by
    obtain ⟨k, rfl⟩ := Int.eq_ofNat_of_zero_le (Int.le_of_lt h1)
    exact rotate_any x k hx (by omega) (by omega) w
  have HE : Hid (Unit → _) := fun (_ : Unit) => xor3 x 2 13 22 hx
  clear hx
  go_enter Tryd.func73, Tryd.ntmps73
  go_wp2_with (go_at_call 85; refine (H.out _ _ (by decide) (by decide)).mono ?_; rintro e w' ⟨rfl, rfl⟩)
  go_ret
  exact ⟨congrArg (fun z => Ending.returned (Value.int .u32 z)) (HE.out ()), rfl⟩
set_option maxRecDepth 100000 in
theorem earlySum_any (x : Nat) (hx : x < 4294967296) (w : World) :
    Calls Tryd.prog 77 #[.int .u32 (x : Int)] w fun e w' => e = .returned (.int .u32 ((s0 x : Nat) : Int)) ∧ w = w' := by
  have H : Hid (∀ (z : Int) w, 0 < z → z < 32 → Calls Tryd.prog 85 #[.int .u32 (x : Int), .int .i64 z] w fun e w' => e = .returned (.int .u32 ((rr x z.toNat : Nat) : Int)) ∧ w = w') := fun z w h1 h2 => by
    obtain ⟨k, rfl⟩ := Int.eq_ofNat_of_zero_le (Int.le_of_lt h1)
    exact rotate_any x k hx (by omega) (by omega) w
  have HE : Hid (Unit → _) := fun (_ : Unit) => xor2 x 7 18 8 hx
  clear hx
  go_enter Tryd.func77, Tryd.ntmps77
  go_wp2_with (go_at_call 85; refine (H.out _ _ (by decide) (by decide)).mono ?_; rintro e w' ⟨rfl, rfl⟩)
  go_ret
  exact ⟨congrArg (fun z => Ending.returned (Value.int .u32 z)) (HE.out ()), rfl⟩
set_option maxRecDepth 100000 in
theorem lateSum_any (x : Nat) (hx : x < 4294967296) (w : World) :
    Calls Tryd.prog 76 #[.int .u32 (x : Int)] w fun e w' => e = .returned (.int .u32 ((s1 x : Nat) : Int)) ∧ w = w' := by
  have H : Hid (∀ (z : Int) w, 0 < z → z < 32 → Calls Tryd.prog 85 #[.int .u32 (x : Int), .int .i64 z] w fun e w' => e = .returned (.int .u32 ((rr x z.toNat : Nat) : Int)) ∧ w = w') := fun z w h1 h2 => by
    obtain ⟨k, rfl⟩ := Int.eq_ofNat_of_zero_le (Int.le_of_lt h1)
    exact rotate_any x k hx (by omega) (by omega) w
  have HE : Hid (Unit → _) := fun (_ : Unit) => xor2 x 17 19 1024 hx
  clear hx
  go_enter Tryd.func76, Tryd.ntmps76
  go_wp2_with (go_at_call 85; refine (H.out _ _ (by decide) (by decide)).mono ?_; rintro e w' ⟨rfl, rfl⟩)
  go_ret
  exact ⟨congrArg (fun z => Ending.returned (Value.int .u32 z)) (HE.out ()), rfl⟩
end Go.Proofs.YtledggjbijoijaaDoor
