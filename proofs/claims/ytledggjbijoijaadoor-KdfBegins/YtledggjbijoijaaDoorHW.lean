/-
  sha256's Of: what it hands back.
-/
/-
  The statements' small functions of layer 7: Num, id, awake.
-/
import Derived.Test.YtledggjbijoijaaDoorHH
import Derived.Test.YtledggjbijoijaaDoorLG7
import Derived.Test.YtledggjbijoijaaDoorRE7
namespace Go.Proofs.YtledggjbijoijaaDoor
open Go.RowKit
end Go.Proofs.YtledggjbijoijaaDoor
namespace Go.Proofs.YtledggjbijoijaaDoor
open Go.RowKit
set_option maxRecDepth 100000 in
theorem num7_any (x : Int) (w : World) : Calls Tryd.prog 9 #[.int .i64 x] w fun e w' => e = .returned (.int .i64 x) ∧ w = w' := by
  go_enter Tryd.func9, Tryd.ntmps9
  go_wp2
  go_ret
  exact ⟨rfl, rfl⟩
/-- The documents' number of a hash of so many bits. -/
def idN (bits : Int) : Int := if bits = 224 then 1 else if bits = 256 then 2 else 0
def abc : ByteArray := ⟨#[97, 98, 99]⟩
theorem kd224 : Kd 224 iv224 28 := ⟨Or.inl ⟨rfl, rfl, rfl⟩⟩
theorem kd256 : Kd 256 iv256 32 := ⟨Or.inr ⟨rfl, rfl, rfl⟩⟩
theorem kr224 : Kr 1 iv224 28 := ⟨Or.inl ⟨rfl, rfl, rfl⟩⟩
theorem kr256 : Kr 2 iv256 32 := ⟨Or.inr ⟨rfl, rfl, rfl⟩⟩
end Go.Proofs.YtledggjbijoijaaDoor
