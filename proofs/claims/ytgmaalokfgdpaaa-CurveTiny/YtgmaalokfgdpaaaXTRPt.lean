import Derived.Deep.AppendSrc
import Derived.Shelf.Bits.Mul64
import Derived.Test.YtgmaalokfgdpaaaXTRMod
import Derived.Test.YtgmaalokfgdpaaaXTEC
import Derived.Test.YtgmaalokfgdpaaaXTCQ
import Derived.Test.YtgmaalokfgdpaaaXTROf
import Derived.Test.YtgmaalokfgdpaaaXTSl
import Derived.Test.YtgmaalokfgdpaaaXTSmC
import Derived.Test.YtgmaalokfgdpaaaXTCT
namespace Go.Proofs.Ytgmaalokfgdpaaa
open Go.RowKit
attribute [local go_sem ↓] loadNat_is loadArr_is loadWide_is loadArrW_is storeNat_is storeWide_is
attribute [local go_sem] loadNat loadArr loadWide loadArrW storeNat storeWide idxArr fold9 fold18 nw_size nw_elem pre_self pre_1 pre_2 pre_3 pre_4 pre_5 pre_6 pre_7 pre_8 pre_9 pre_10 pre_11 pre_12 pre_13 pre_14 pre_15 pre_16 pre_17 pre_18 pre_19 pre_20 pre_21 pre_22 pre_23 pre_24 pre_25 pre_26 pre_27 pre_28 pre_29 pre_30 pre_31 pre_32 pre_33 pre_34 pre_35 pre_36 pre_37 pre_38 pre_39 pre_40 gro_size gro_drew gro_drewN drew_gro drewN_gro gro_gro blk_gro frz_gro blk_drew frz_drew blk_drewN frz_drewN blk_alloc_at frz_alloc_at blk_alloc frz_alloc cell_gro frozen_gro cell_alloc_pre frozen_alloc_pre setCell_drewN alloc_drewN setBlk_drew setBlk_drewN setBlk_alloc_at setBlk_alloc setBlk_gro setCell_gro setCell_alloc_pre size_setBlk size_setCell
attribute [local go_sem ↓] bsl_is
/-- append of one row of digits to another, shut. -/
def appS (ty : TypeId) (xs : Array Value) : Sem Value := Builtin.append_ #[34, 34] ty xs
theorem app_is (ty : TypeId) (xs : Array Value) : Builtin.append_ #[34, 34] ty xs = appS ty xs := rfl
theorem subM_is (t c m : Nat) (ht : t < m) (hc : c < m) : subM t c m < m ∧ ∃ k : Int, (subM t c m : Int) = t - c + k * m := by
  unfold subM
  split
  · exact ⟨by omega, 0, by omega⟩
  · exact ⟨by omega, 1, by omega⟩
structure RI (a m r s t u : Nat) : Prop where
  rm : r ≤ m
  sm : s ≤ m
  tm : t < m
  um : u < m
  d1 : (m : Int) ∣ (a : Int) * t - r
  d2 : (m : Int) ∣ (a : Int) * u - s
  g : Nat.gcd r s = Nat.gcd m a
theorem RI.start (a m : Nat) (h : 1 < m) : RI a m m (a % m) 0 1 := by
  refine ⟨Nat.le_refl _, Nat.le_of_lt (Nat.mod_lt _ (by omega)), by omega, h, ⟨-1, by simp⟩, ⟨((a / m : Nat) : Int), ?_⟩, ?_⟩
  · have h1 := Nat.div_add_mod a m
    obtain ⟨q, hq⟩ : ∃ q, a / m = q := ⟨_, rfl⟩
    obtain ⟨v, hv⟩ : ∃ q, a % m = q := ⟨_, rfl⟩
    rw [hq, hv] at h1 ⊢
    have h2 : (m : Int) * q + v = a := by exact_mod_cast h1
    rw [← h2]
    grind
  · rw [Nat.gcd_comm, ← Nat.gcd_rec]
theorem RI.step {a m r s t u : Nat} (h : RI a m r s t u) (h0 : 0 < s) (q v c x : Nat) (hq : r / s = q) (hv : r % s = v) (hc : q % m * u % m = c) (hx : subM t c m = x) : RI a m s v u x ∧ v < s := by
  have hm : 0 < m := by have := h.tm; omega
  have hvs : v < s := by rw [← hv]; exact Nat.mod_lt _ h0
  have hcm : c < m := by rw [← hc]; exact Nat.mod_lt _ hm
  obtain ⟨h1, k, h2⟩ := subM_is t c m h.tm hcm
  rw [hx] at h1 h2
  refine ⟨⟨h.sm, by have := h.sm; omega, h.um, h1, h.d2, ?_, ?_⟩, hvs⟩
  · obtain ⟨c1, e1⟩ := h.d1
    obtain ⟨c2, e2⟩ := h.d2
    have h3 := Nat.div_add_mod r s
    rw [hq, hv] at h3
    have h4 : (s : Int) * q + v = r := by exact_mod_cast h3
    rw [pow_mul] at hc
    have h5 := Nat.div_add_mod (q * u) m
    rw [hc] at h5
    obtain ⟨k', hk⟩ : ∃ k', q * u / m = k' := ⟨_, rfl⟩
    rw [hk] at h5
    have h6 : (m : Int) * k' + c = q * u := by exact_mod_cast h5
    refine ⟨c1 - q * c2 + a * k' + a * k, ?_⟩
    rw [h2]
    grind
  · rw [← h.g, ← hv, Nat.gcd_comm, ← Nat.gcd_rec, Nat.gcd_comm]
theorem RI.last {a m r t u : Nat} (h : RI a m r 0 t u) (h1 : 1 < m) : r = Nat.gcd m a ∧ 0 < r ∧ (r = 1 → a * t % m = 1) := by
  have hg := h.g
  rw [Nat.gcd_zero_right] at hg
  have hp : 0 < Nat.gcd m a := Nat.gcd_pos_of_pos_left _ (by omega)
  refine ⟨hg, by omega, fun e => ?_⟩
  obtain ⟨c, hc⟩ := h.d1
  rw [e] at hc
  obtain ⟨k, hk⟩ := inv_pos (a * t) m c h1 (by rw [← hc]; simp)
  rw [hk, Nat.add_mul_mod_self_left, Nat.mod_eq_of_lt h1]
attribute [local go_sem ↓] app_is
end Go.Proofs.Ytgmaalokfgdpaaa
namespace Go.Proofs.Ytgmaalokfgdpaaa
open Go.RowKit
section
variable (p : Option Addr) (x n : Nat) (q : Option Addr) (y m : Nat) (f : Bool)
theorem ptA_size : (ptA p x n q y m f).size = 3 := rfl
theorem ptA_one : (ptA p x n q y m f).all (·.oneCell') = true := by simp [ptA, Value.oneCell']
theorem loadPt_is (v : Value) : Instr.loadAt 49 v = loadS 49 v := rfl
theorem storePt_is (p v : Value) : Instr.storeAt 49 p v = storeS 49 p v := rfl
theorem loadPt (w : World) (b : Nat) (hs : (blk w b).size = 3) : (loadS 49 (.pointer (some ⟨b, 0, none⟩))).run Try.prog w = .ok (.agg (blk w b)) w :=
  loadS_run 3 Try.underlying49 rfl (by kernel_rfl) w b hs
theorem storePt (w : World) (b : Nat) (hs : (blk w b).size = 3) (hf : frz w b = (0, 0)) : (storeS 49 (.pointer (some ⟨b, 0, none⟩)) (.agg (ptA p x n q y m f))).run Try.prog w = .ok () (setBlk w b (ptA p x n q y m f)) :=
  storeS_run 3 (by decide) (by kernel_rfl) w b _ (ptA_size p x n q y m f) (ptA_one p x n q y m f) hs hf
theorem zvPt_is : zeroValue 49 = zvS 49 := rfl
theorem zvPt (w : World) : (zvS 49).run Try.prog w = .ok (.agg (ptA none 0 0 none 0 0 false)) w := by kernel_rfl
theorem buildPt_is (p : Array (Nat × Value)) : Instr.build 49 p = buildF 49 p := rfl
end
theorem crA_size (id : Int) (x : Nat → Nat) (q : Nat → Option Addr × Nat) : (crA id x q).size = 7 := rfl

end Go.Proofs.Ytgmaalokfgdpaaa
