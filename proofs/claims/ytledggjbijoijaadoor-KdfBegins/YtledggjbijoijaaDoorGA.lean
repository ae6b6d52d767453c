/-
  The small functions of package sha512 and the documents' rot64: what they hand back.
-/
import Derived.Test.YtledggjbijoijaaDoorGN
import Derived.WalkKit
import Derived.WalkSpells
import Derived.WalkLawsBesides
import Derived.StillTactics
import Derived.BigQuiet
namespace Go.Proofs.YtledggjbijoijaaDoor.L8
open Go.RowKit

theorem sgn64 : IntKind.u64.signed = false := rfl
attribute [local go_sem] sgn64
set_option maxRecDepth 100000 in
theorem rl_any (x k : Nat) (hx : x < 18446744073709551616) (hk : 0 < k) (hk2 : k < 64) (w : World) :
    Calls Tryd.prog 88 #[.int .u64 (x : Int), .int .i64 (-(k : Int))] w fun e w' => e = .returned (.int .u64 ((rr x k : Nat) : Int)) ∧ w = w' := by
  have h := neg_and k hk hk2
  obtain ⟨m, hm⟩ : ∃ m, 64 - k = m := ⟨_, rfl⟩
  have hkm : 64 - m = k := by omega
  rw [hm] at h
  have m1 : (m : Int) < 64 := by omega
  have HE : Hid (Unit → bits BinOp.or IntKind.u64 ((x : Int) * 2 ^ m % 18446744073709551616) ((x : Int) / 2 ^ (64 - m)) = ((rr x k : Nat) : Int)) := fun _ => by
    rw [shl_cast, shr_cast, u64_or_nat _ _ (mod64 _) (div64 _ hx), Nat.or_comm, hkm, ← hm]; rfl
  clear hkm hm hk hk2 hx
  go_enter Tryd.func88, Tryd.ntmps88
  go_wp2
  go_ret
  exact ⟨congrArg (fun z => Ending.returned (Value.int .u64 z)) (HE.out ()), rfl⟩
set_option maxRecDepth 100000 in
theorem rotate_any (x k : Nat) (hx : x < 18446744073709551616) (hk : 0 < k) (hk2 : k < 64) (w : World) :
    Calls Tryd.prog 86 #[.int .u64 (x : Int), .int .i64 (k : Int)] w fun e w' => e = .returned (.int .u64 ((rr x k : Nat) : Int)) ∧ w = w' := by
  have H : Hid (∀ w, Calls Tryd.prog 88 #[.int .u64 (x : Int), .int .i64 (-(k : Int))] w fun e w' => e = .returned (.int .u64 ((rr x k : Nat) : Int)) ∧ w = w') := fun w => rl_any x k hx hk hk2 w
  have k1 : (k : Int) < 64 := by omega
  go_enter Tryd.func86, Tryd.ntmps86
  go_wp2_with (go_at_call 88; refine (H.out _).mono ?_; rintro e w' ⟨rfl, rfl⟩)
  go_ret
  exact ⟨rfl, rfl⟩
set_option maxRecDepth 100000 in
theorem rot_any (x k : Nat) (hx : x < 18446744073709551616) (hk : 0 < k) (hk2 : k < 64) (w : World) :
    Calls Tryd.prog 40 #[.int .u64 (x : Int), .int .i64 (k : Int)] w fun e w' => e = .returned (.int .u64 ((rr x k : Nat) : Int)) ∧ ∃ n, w' = w.drewN n := by
  have HE : Hid (Unit → bits BinOp.or IntKind.u64 ((x : Int) / 2 ^ k) ((x : Int) * 2 ^ (64 - k) % 18446744073709551616) = ((rr x k : Nat) : Int)) := fun _ => by
    rw [shl_cast, shr_cast, u64_or_nat _ _ (div64 _ hx) (mod64 _)]; rfl
  go_enter Tryd.func40, Tryd.ntmps40
  go_wp2
  go_quiet (fail)
  go_wp2
  go_ret
  exact ⟨congrArg (fun z => Ending.returned (Value.int .u64 z)) (HE.out ()), _, rfl⟩
set_option maxRecDepth 100000 in
theorem choose_any (x y z : Nat) (hx : x < 18446744073709551616) (hy : y < 18446744073709551616) (hz : z < 18446744073709551616) (w : World) :
    Calls Tryd.prog 79 #[.int .u64 (x : Int), .int .u64 (y : Int), .int .u64 (z : Int)] w fun e w' => e = .returned (.int .u64 ((chN x y z : Nat) : Int)) ∧ w = w' := by
  have HE : Hid (Unit → bits BinOp.xor IntKind.u64 (bits BinOp.and IntKind.u64 (x : Int) (y : Int)) (bits BinOp.and IntKind.u64 (bits BinOp.xor IntKind.u64 IntKind.u64.max (x : Int)) (z : Int)) = ((chN x y z : Nat) : Int)) := fun _ => by
    rw [not64 x hx, u64_and_nat _ _ hx hy, u64_and_nat _ _ (xor64 (by decide) hx) hz, u64_xor_nat _ _ (and64 _ hy) (and64 _ hz)]; rfl
  clear hx hy hz
  go_enter Tryd.func79, Tryd.ntmps79
  go_wp2
  go_ret
  exact ⟨congrArg (fun z => Ending.returned (Value.int .u64 z)) (HE.out ()), rfl⟩
set_option maxRecDepth 100000 in
theorem majority_any (x y z : Nat) (hx : x < 18446744073709551616) (hy : y < 18446744073709551616) (hz : z < 18446744073709551616) (w : World) :
    Calls Tryd.prog 81 #[.int .u64 (x : Int), .int .u64 (y : Int), .int .u64 (z : Int)] w fun e w' => e = .returned (.int .u64 ((mjN x y z : Nat) : Int)) ∧ w = w' := by
  have HE : Hid (Unit → bits BinOp.xor IntKind.u64 (bits BinOp.xor IntKind.u64 (bits BinOp.and IntKind.u64 (x : Int) (y : Int)) (bits BinOp.and IntKind.u64 (x : Int) (z : Int))) (bits BinOp.and IntKind.u64 (y : Int) (z : Int)) = ((mjN x y z : Nat) : Int)) := fun _ => by
    rw [u64_and_nat _ _ hx hy, u64_and_nat _ _ hx hz, u64_and_nat _ _ hy hz, u64_xor_nat _ _ (and64 _ hy) (and64 _ hz), u64_xor_nat _ _ (xor64 (and64 _ hy) (and64 _ hz)) (and64 _ hz)]; rfl
  clear hx hy hz
  go_enter Tryd.func81, Tryd.ntmps81
  go_wp2
  go_ret
  exact ⟨congrArg (fun z => Ending.returned (Value.int .u64 z)) (HE.out ()), rfl⟩
theorem xor3 (x i j k : Nat) (hx : x < 18446744073709551616) : bits BinOp.xor IntKind.u64 (bits BinOp.xor IntKind.u64 ((rr x i : Nat) : Int) ((rr x j : Nat) : Int)) ((rr x k : Nat) : Int) = (((rr x i ^^^ rr x j) ^^^ rr x k : Nat) : Int) := by
  rw [u64_xor_nat _ _ (rr_lt _ hx) (rr_lt _ hx), u64_xor_nat _ _ (xor64 (rr_lt _ hx) (rr_lt _ hx)) (rr_lt _ hx)]
theorem xor2 (x i j k : Nat) (hx : x < 18446744073709551616) : bits BinOp.xor IntKind.u64 (bits BinOp.xor IntKind.u64 ((rr x i : Nat) : Int) ((rr x j : Nat) : Int)) ((x : Int) / (k : Int)) = (((rr x i ^^^ rr x j) ^^^ (x / k) : Nat) : Int) := by
  rw [← Int.natCast_ediv, u64_xor_nat _ _ (rr_lt _ hx) (rr_lt _ hx), u64_xor_nat _ _ (xor64 (rr_lt _ hx) (rr_lt _ hx)) (div64 _ hx)]
set_option maxRecDepth 100000 in
theorem highSum_any (x : Nat) (hx : x < 18446744073709551616) (w : World) :
    Calls Tryd.prog 78 #[.int .u64 (x : Int)] w fun e w' => e = .returned (.int .u64 ((S1 x : Nat) : Int)) ∧ w = w' := by
  have H : Hid (∀ (z : Int) w, 0 < z → z < 64 → Calls Tryd.prog 86 #[.int .u64 (x : Int), .int .i64 z] w fun e w' => e = .returned (.int .u64 ((rr x z.toNat : Nat) : Int)) ∧ w = w') := fun z w h1 h2 => by
    obtain ⟨k, rfl⟩ := Int.eq_ofNat_of_zero_le (Int.le_of_lt h1)
    exact rotate_any x k hx (by omega) (by omega) w
  have HE : Hid (Unit → _) := fun (_ : Unit) => xor3 x 14 18 41 hx
  clear hx
  go_enter Tryd.func78, Tryd.ntmps78
  go_wp2_with (go_at_call 86; refine (H.out _ _ (by decide) (by decide)).mono ?_; rintro e w' ⟨rfl, rfl⟩)
  go_ret
  exact ⟨congrArg (fun z => Ending.returned (Value.int .u64 z)) (HE.out ()), rfl⟩
set_option maxRecDepth 100000 in
theorem lowSum_any (x : Nat) (hx : x < 18446744073709551616) (w : World) :
    Calls Tryd.prog 80 #[.int .u64 (x : Int)] w fun e w' => e = .returned (.int .u64 ((S0 x : Nat) : Int)) ∧ w = w' := by
  have H : Hid (∀ (z : Int) w, 0 < z → z < 64 → Calls Tryd.prog 86 #[.int .u64 (x : Int), .int .i64 z] w fun e w' => e = .returned (.int .u64 ((rr x z.toNat : Nat) : Int)) ∧ w = w') := fun z w h1 h2 => by
    obtain ⟨k, rfl⟩ := Int.eq_ofNat_of_zero_le (Int.le_of_lt h1)
    exact rotate_any x k hx (by omega) (by omega) w
  have HE : Hid (Unit → _) := fun (_ : Unit) => xor3 x 28 34 39 hx
  clear hx
  go_enter Tryd.func80, Tryd.ntmps80
  go_wp2_with (go_at_call 86; refine (H.out _ _ (by decide) (by decide)).mono ?_; rintro e w' ⟨rfl, rfl⟩)
  go_ret
  exact ⟨congrArg (fun z => Ending.returned (Value.int .u64 z)) (HE.out ()), rfl⟩
set_option maxRecDepth 100000 in
theorem earlySum_any (x : Nat) (hx : x < 18446744073709551616) (w : World) :
    Calls Tryd.prog 84 #[.int .u64 (x : Int)] w fun e w' => e = .returned (.int .u64 ((s0 x : Nat) : Int)) ∧ w = w' := by
  have H : Hid (∀ (z : Int) w, 0 < z → z < 64 → Calls Tryd.prog 86 #[.int .u64 (x : Int), .int .i64 z] w fun e w' => e = .returned (.int .u64 ((rr x z.toNat : Nat) : Int)) ∧ w = w') := fun z w h1 h2 => by
    obtain ⟨k, rfl⟩ := Int.eq_ofNat_of_zero_le (Int.le_of_lt h1)
    exact rotate_any x k hx (by omega) (by omega) w
  have HE : Hid (Unit → _) := fun (_ : Unit) => xor2 x 1 8 128 hx
  clear hx
  go_enter Tryd.func84, Tryd.ntmps84
  go_wp2_with (go_at_call 86; refine (H.out _ _ (by decide) (by decide)).mono ?_; rintro e w' ⟨rfl, rfl⟩)
  go_ret
  exact ⟨congrArg (fun z => Ending.returned (Value.int .u64 z)) (HE.out ()), rfl⟩
set_option maxRecDepth 100000 in
theorem lateSum_any (x : Nat) (hx : x < 18446744073709551616) (w : World) :
    Calls Tryd.prog 83 #[.int .u64 (x : Int)] w fun e w' => e = .returned (.int .u64 ((s1 x : Nat) : Int)) ∧ w = w' := by
  have H : Hid (∀ (z : Int) w, 0 < z → z < 64 → Calls Tryd.prog 86 #[.int .u64 (x : Int), .int .i64 z] w fun e w' => e = .returned (.int .u64 ((rr x z.toNat : Nat) : Int)) ∧ w = w') := fun z w h1 h2 => by
    obtain ⟨k, rfl⟩ := Int.eq_ofNat_of_zero_le (Int.le_of_lt h1)
    exact rotate_any x k hx (by omega) (by omega) w
  have HE : Hid (Unit → _) := fun (_ : Unit) => xor2 x 19 61 64 hx
  clear hx
  go_enter Tryd.func83, Tryd.ntmps83
  go_wp2_with (go_at_call 86; refine (H.out _ _ (by decide) (by decide)).mono ?_; rintro e w' ⟨rfl, rfl⟩)
  go_ret
  exact ⟨congrArg (fun z => Ending.returned (Value.int .u64 z)) (HE.out ()), rfl⟩
end Go.Proofs.YtledggjbijoijaaDoor.L8
