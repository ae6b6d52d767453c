/-
  sha512's Of: what it hands back.
-/
/-
  The statements' small functions of layer 8: Num, id, awake.
-/
import Derived.Test.YtledggjbijoijaaDoorGH
import Derived.Test.YtledggjbijoijaaDoorLG7
import Derived.Test.YtledggjbijoijaaDoorRE8
namespace Go.Proofs.YtledggjbijoijaaDoor.L8
open Go.RowKit
end Go.Proofs.YtledggjbijoijaaDoor.L8
namespace Go.Proofs.YtledggjbijoijaaDoor.L8
open Go.RowKit
set_option maxRecDepth 100000 in
theorem num8_any (x : Int) (w : World) : Calls Tryd.prog 9 #[.int .i64 x] w fun e w' => e = .returned (.int .i64 x) ∧ w = w' := by
  go_enter Tryd.func9, Tryd.ntmps9
  go_wp2
  go_ret
  exact ⟨rfl, rfl⟩
/-- The documents' number of a hash of so many bits. -/
def idN (bits : Int) : Int := if bits = 384 then 3 else if bits = 512 then 4 else 0
def abc : ByteArray := ⟨#[97, 98, 99]⟩
theorem kd384 : Kd 384 iv384 48 := ⟨Or.inl ⟨rfl, rfl, rfl⟩⟩
theorem kd512 : Kd 512 iv512 64 := ⟨Or.inr ⟨rfl, rfl, rfl⟩⟩
theorem kr384 : Kr 3 iv384 48 := ⟨Or.inl ⟨rfl, rfl, rfl⟩⟩
theorem kr512 : Kr 4 iv512 64 := ⟨Or.inr ⟨rfl, rfl, rfl⟩⟩
end Go.Proofs.YtledggjbijoijaaDoor.L8
