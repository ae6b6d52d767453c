import Derived.Deep.DrawnRows
import Derived.Deep.RegionWith
import Derived.BigRegion
import Derived.Deep.CutBlock
import Derived.Deep.QuietTactic
import Derived.BigQuiet
import Derived.Test.YtgmaalokfgdpaaaXTROf
import Derived.Test.YtgmaalokfgdpaaaXTKr
import Derived.Test.YtgmaalokfgdpaaaXTEC
import Derived.Test.YtgmaalokfgdpaaaXTNN
import Derived.Test.YtgmaalokfgdpaaaXTQt
import Derived.Test.YtgmaalokfgdpaaaXTMixG
namespace Go.Proofs.Ytgmaalokfgdpaaa
open Go.RowKit
attribute [local go_sem ↓] loadNat_is loadArr_is loadWide_is loadArrW_is storeNat_is storeWide_is
attribute [local go_sem] loadNat loadArr loadWide loadArrW storeNat storeWide idxArr fold9 fold18 nw_size nw_elem pre_self pre_1 pre_2 pre_3 pre_4 pre_5 pre_6 pre_7 pre_8 pre_9 pre_10 pre_11 pre_12 pre_13 pre_14 pre_15 pre_16 pre_17 pre_18 pre_19 pre_20 pre_21 pre_22 pre_23 pre_24 pre_25 pre_26 pre_27 pre_28 pre_29 pre_30 pre_31 pre_32 pre_33 pre_34 pre_35 pre_36 pre_37 pre_38 pre_39 pre_40 gro_size gro_drew gro_drewN drew_gro drewN_gro gro_gro blk_gro frz_gro blk_drew frz_drew blk_drewN frz_drewN blk_alloc_at frz_alloc_at blk_alloc frz_alloc cell_gro frozen_gro cell_alloc_pre frozen_alloc_pre setCell_drewN alloc_drewN setBlk_drew setBlk_drewN setBlk_alloc_at setBlk_alloc setBlk_gro setCell_gro setCell_alloc_pre size_setBlk size_setCell
theorem Sl.some {w : World} {p : Option Addr} {x : Nat} (h : Sl w p x) (h0 : 0 < dl x) : ∃ c, p = .some ⟨c, 0, .none⟩ ∧ Pre (c + 1) w.heap.size ∧ ∀ i, i < dl x → (blk w c)[i]? = .some (.int .u32 ((dg x i : Nat) : Int)) := by
  obtain ⟨c, h1, h2, _⟩ := h 0 h0
  refine ⟨c, h1, h2, fun i hi => ?_⟩
  obtain ⟨c', h3, _, h4⟩ := h i hi
  rw [h1] at h3
  cases h3
  exact h4
/-- What the loop of Div keeps. -/
structure DW (w v : World) (b b2 c K V L Lq Z Q : Nat) : Prop where
  g : Gr w v
  hb : blk v b = nd L Z
  fb : frz v b = (0, 0)
  pb : Pre (b + 1) v.heap.size
  h2 : blk v b2 = nd Lq Q
  f2 : frz v b2 = (0, 0)
  p2 : Pre (b2 + 1) v.heap.size
  hc : ∀ i, i < K → (blk v c)[i]? = some (.int .u32 ((dg V i : Nat) : Int))
  pc : Pre (c + 1) v.heap.size
  qb : w.heap.size ≤ b
  qc : c < b
  q2 : b < b2
theorem DW.gr {w v v' : World} {b b2 c K V L Lq Z Q : Nat} (h : DW w v b b2 c K V L Lq Z Q) (k : Gr v v') : DW w v' b b2 c K V L Lq Z Q := by
  have hs := k.below.size
  have pr : ∀ {x}, Pre x v.heap.size → Pre x v'.heap.size := fun h => Nat.le_trans h hs
  exact ⟨h.g.trans k, by rw [k.blk _ h.pb]; exact h.hb, by rw [k.frz _ h.pb]; exact h.fb, pr h.pb, by rw [k.blk _ h.p2]; exact h.h2, by rw [k.frz _ h.p2]; exact h.f2, pr h.p2,
    fun i hi => by rw [k.blk _ h.pc]; exact h.hc i hi, pr h.pc, h.qb, h.qc, h.q2⟩
theorem DW.start {w W : World} {b c K V L Q Y : Nat} {t : TypeId} (g : Gr w W) (hb : blk W b = nd L 0) (fb : frz W b = (0, 0)) (pb : Pre (b + 1) W.heap.size) (hc : ∀ i, i < K → (blk W c)[i]? = some (.int .u32 ((dg V i : Nat) : Int))) (pc : Pre (c + 1) W.heap.size) (qb : w.heap.size ≤ b) (qc : c < b) (hL : 0 < L) :
    DW w ((setBlk W b (nd L Y)).alloc (.cells (nd Q 0) t)) b W.heap.size c K V L Q Y 0 := by
  have hsz : (setBlk W b (nd L Y)).heap.size = W.heap.size := size_setBlk _ _ _
  have pb' : Pre (b + 1) (setBlk W b (nd L Y)).heap.size := by rw [hsz]; exact pb
  have pc' : Pre (c + 1) (setBlk W b (nd L Y)).heap.size := by rw [hsz]; exact pc
  have ha : ∀ {x}, Pre x (setBlk W b (nd L Y)).heap.size → Pre x ((setBlk W b (nd L Y)).alloc (.cells (nd Q 0) t)).heap.size := fun h => Nat.le_trans h ((Gr.refl _).alloc _).below.size
  refine ⟨(gr_setNew g qb).alloc _, ?_, ?_, ha pb', blk_alloc_at _ _ _ _ _ hsz.symm, frz_alloc_at _ _ _ _ _ hsz.symm, ?_, fun i hi => ?_, ha pc', qb, qc, pb⟩
  · rw [blk_alloc _ _ _ pb', blk_setBlk _ _ _ (by rw [hb, nd_size]; exact hL)]
  · rw [frz_alloc _ _ _ pb', frz_setBlk]; exact fb
  · show W.heap.size + 1 ≤ _
    simp [hsz]
  · rw [blk_alloc _ _ _ pc', blk_other _ _ _ _ (by omega)]; exact hc i hi

end Go.Proofs.Ytgmaalokfgdpaaa
