import Derived.Laws.MakeOwn
import Derived.Test.YtgmaalokfgdpaaaXTAdd
import Derived.Test.YtgmaalokfgdpaaaXTDig
namespace Go.Proofs.Ytgmaalokfgdpaaa
open Go.RowKit
attribute [local go_sem ↓] loadNat_is loadArr_is loadWide_is loadArrW_is storeNat_is storeWide_is
attribute [local go_sem] loadNat loadArr loadWide loadArrW storeNat storeWide idxArr fold9 fold18 nw_size nw_elem pre_self pre_1 pre_2 pre_3 pre_4 pre_5 pre_6 pre_7 pre_8 pre_9 pre_10 pre_11 pre_12 pre_13 pre_14 pre_15 pre_16 pre_17 pre_18 pre_19 pre_20 pre_21 pre_22 pre_23 pre_24 pre_25 pre_26 pre_27 pre_28 pre_29 pre_30 pre_31 pre_32 pre_33 pre_34 pre_35 pre_36 pre_37 pre_38 pre_39 pre_40 gro_size gro_drew gro_drewN drew_gro drewN_gro gro_gro blk_gro frz_gro blk_drew frz_drew blk_drewN frz_drewN blk_alloc_at frz_alloc_at blk_alloc frz_alloc cell_gro frozen_gro cell_alloc_pre frozen_alloc_pre setCell_drewN alloc_drewN setBlk_drew setBlk_drewN setBlk_alloc_at setBlk_alloc setBlk_gro setCell_gro setCell_alloc_pre size_setBlk size_setCell

/-- What a slice's address holds: the digits of x, as many as it has. -/
def Sl (w : World) (p : Option Addr) (x : Nat) : Prop :=
  ∀ i, i < dl x → ∃ b, p = some ⟨b, 0, none⟩ ∧ Pre (b + 1) w.heap.size ∧ (blk w b)[i]? = some (.int .u32 ((dg x i : Nat) : Int))
theorem Sl.gr {w v : World} {p : Option Addr} {x : Nat} (h : Sl w p x) (g : Gr w v) : Sl v p x := fun i hi => by
  obtain ⟨b, h1, h2, h3⟩ := h i hi
  obtain ⟨k, rfl⟩ := g
  exact ⟨b, h1, by rw [gro_size]; exact pre_add _ _ _ h2, by rw [blk_gro w k b h2]; exact h3⟩
theorem Sl.zero (w : World) (p : Option Addr) : Sl w p 0 := fun i hi => by rw [dl_zero] at hi; omega
/-- A slice all of whose cells are digits of x. -/
theorem Sl.of_blk {w : World} {b n x : Nat} (hb : Pre (b + 1) w.heap.size) (hc : blk w b = nd n x) (hx : x < pq n) : Sl w (some ⟨b, 0, none⟩) x := fun i hi =>
  ⟨b, rfl, hb, by rw [hc]; exact nd_get n x i (Nat.lt_of_lt_of_le hi ((dl_le x n).2 hx))⟩

/-- A call hands back a slice that holds x. -/
def Nm (x : Nat) (w : World) (e : Ending) (w' : World) : Prop := ∃ p n, e = .returned (.slice p (dl x) n) ∧ Sl w' p x ∧ Gr w w'
theorem Nm.mk {x V b n : Nat} {w w' : World} (e : V = x) (hV : V < pq n) (hb : Pre (b + 1) w'.heap.size) (hc : blk w' b = nd n V) (hg : Gr w w') : Nm x w (.returned (.slice (some ⟨b, 0, none⟩) (dl V) n)) w' := by
  subst e
  exact ⟨_, n, rfl, Sl.of_blk hb hc hV, hg⟩

end Go.Proofs.Ytgmaalokfgdpaaa
