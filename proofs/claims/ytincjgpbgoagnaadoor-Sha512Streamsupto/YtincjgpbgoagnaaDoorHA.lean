/-
  The small functions of package sha256 and the documents' rot32: what they hand back.
-/
import Derived.Test.YtincjgpbgoagnaaDoorHN
import Derived.WalkKit
import Derived.WalkSpells
import Derived.WalkLawsBesides
import Derived.StillTactics
import Derived.BigQuiet
namespace Go.Proofs.YtincjgpbgoagnaaDoor
open Go.RowKit

theorem sgn32 : IntKind.u32.signed = false := rfl
attribute [local go_sem] sgn32
set_option maxRecDepth 100000 in
theorem rot_any (x k : Nat) (hx : x < 4294967296) (hk : 0 < k) (hk2 : k < 32) (w : World) :
    Calls Tryd.prog 32 #[.int .u32 (x : Int), .int .i64 (k : Int)] w fun e w' => e = .returned (.int .u32 ((rr x k : Nat) : Int)) ∧ ∃ n, w' = w.drewN n := by
  have HE : Hid (Unit → bits BinOp.or IntKind.u32 ((x : Int) / 2 ^ k) ((x : Int) * 2 ^ (32 - k) % 4294967296) = ((rr x k : Nat) : Int)) := fun _ => by
    rw [shl_cast, shr_cast, u32_or_nat _ _ (div32 _ hx) (mod32 _)]; rfl
  go_enter Tryd.func32, Tryd.ntmps32
  go_wp2
  go_quiet (fail)
  go_wp2
  go_ret
  exact ⟨congrArg (fun z => Ending.returned (Value.int .u32 z)) (HE.out ()), _, rfl⟩
theorem xor3 (x i j k : Nat) (hx : x < 4294967296) : bits BinOp.xor IntKind.u32 (bits BinOp.xor IntKind.u32 ((rr x i : Nat) : Int) ((rr x j : Nat) : Int)) ((rr x k : Nat) : Int) = (((rr x i ^^^ rr x j) ^^^ rr x k : Nat) : Int) := by
  rw [u32_xor_nat _ _ (rr_lt _ hx) (rr_lt _ hx), u32_xor_nat _ _ (xor32 (rr_lt _ hx) (rr_lt _ hx)) (rr_lt _ hx)]
theorem xor2 (x i j k : Nat) (hx : x < 4294967296) : bits BinOp.xor IntKind.u32 (bits BinOp.xor IntKind.u32 ((rr x i : Nat) : Int) ((rr x j : Nat) : Int)) ((x : Int) / (k : Int)) = (((rr x i ^^^ rr x j) ^^^ (x / k) : Nat) : Int) := by
  rw [← Int.natCast_ediv, u32_xor_nat _ _ (rr_lt _ hx) (rr_lt _ hx), u32_xor_nat _ _ (xor32 (rr_lt _ hx) (rr_lt _ hx)) (div32 _ hx)]
end Go.Proofs.YtincjgpbgoagnaaDoor
