/-
  divide.PowMod: what it hands back.
-/
import Derived.Test.YtleckbdhebjfkaaZDF
import Derived.Test.YtleckbdhebjfkaaZLawA
namespace Go.Proofs.Ytleckbdhebjfkaa
open Go.RowKit
attribute [local go_sem ↓] loadNat_is loadArr_is loadWide_is loadArrW_is storeNat_is storeWide_is
attribute [local go_sem] loadNat loadArr loadWide loadArrW storeNat storeWide idxArr fold9 fold18 nw_size nw_elem pre_self pre_1 pre_2 pre_3 pre_4 pre_5 pre_6 pre_7 pre_8 pre_9 pre_10 pre_11 pre_12 pre_13 pre_14 pre_15 pre_16 pre_17 pre_18 pre_19 pre_20 pre_21 pre_22 pre_23 pre_24 pre_25 pre_26 pre_27 pre_28 pre_29 pre_30 pre_31 pre_32 pre_33 pre_34 pre_35 pre_36 pre_37 pre_38 pre_39 pre_40 gro_size gro_drew gro_drewN drew_gro drewN_gro gro_gro blk_gro frz_gro blk_drew frz_drew blk_drewN frz_drewN blk_alloc_at frz_alloc_at blk_alloc frz_alloc cell_gro frozen_gro cell_alloc_pre frozen_alloc_pre setCell_drewN alloc_drewN setBlk_drew setBlk_drewN setBlk_alloc_at setBlk_alloc setBlk_gro setCell_gro setCell_alloc_pre size_setBlk size_setCell
attribute [local go_sem ↓] loadDv_is load19_is storeDv_is store19_is copy_is
attribute [local go_sem] idx18 loadDv load19 storeDv store19 dv_size dv_9 dv_10 dv_e9 dv_e10 dv_elem fold11 fold19 setCell_in cell_in frozen_in frz_setBlk blk_setBlk setBlk_setBlk copy_run cpA_nw ones_nw

attribute [local go_sem ↓] Go.wp_at_zero Go.wp_at_succ
attribute [local go_sem] blk_other

/-! ### powers -/
theorem pow_half (a e i : Nat) : a ^ (e / 2 ^ i) = a ^ (e / 2 ^ (i + 1)) * a ^ (e / 2 ^ (i + 1)) * a ^ bitN e i := by
  have h : e / 2 ^ i = e / 2 ^ (i + 1) + e / 2 ^ (i + 1) + bitN e i := by
    unfold bitN
    rw [Nat.pow_succ, ← Nat.div_div_eq_div_mul]
    omega
  rw [← Nat.pow_add, ← Nat.pow_add, ← h]
theorem pow_sq (x m : Nat) : x % m * (x % m) % m = x * x % m := (Nat.mul_mod x x m).symm
theorem pow_mul (x a m : Nat) : x % m * a % m = x * a % m := Nat.mod_mul_mod x a m

/-- What the loop of PowMod keeps. -/
structure PW (w v : World) (a e P D n u b8 b9 : Nat) : Prop where
  g : Gr w v
  ha : blk v (w.heap.size) = nw 9 a
  pa : Pre (w.heap.size + 1) v.heap.size
  he : blk v (w.heap.size + 1) = nw 9 e
  pe : Pre (w.heap.size + 1 + 1) v.heap.size
  hr : blk v (w.heap.size + 1 + 1 + 1) = nw 9 0
  fr : frz v (w.heap.size + 1 + 1 + 1) = (0, 0)
  pr : Pre (w.heap.size + 1 + 1 + 1 + 1) v.heap.size
  h8 : blk v b8 = dv D (n + 1) u
  p8 : Pre (b8 + 1) v.heap.size
  h9 : blk v b9 = nw 9 P
  f9 : frz v b9 = (0, 0)
  p9 : Pre (b9 + 1) v.heap.size
  q9 : w.heap.size + 1 + 1 + 1 + 1 ≤ b9
  q8 : b8 < b9
theorem PW.gr {w v v' : World} {a e P D n u b8 b9 : Nat} (h : PW w v a e P D n u b8 b9) (k : Gr v v') : PW w v' a e P D n u b8 b9 := by
  have hs := k.below.size
  have pr : ∀ {x}, Pre x v.heap.size → Pre x v'.heap.size := fun h => Nat.le_trans h hs
  exact ⟨h.g.trans k, by rw [k.blk _ h.pa]; exact h.ha, pr h.pa, by rw [k.blk _ h.pe]; exact h.he, pr h.pe, by rw [k.blk _ h.pr]; exact h.hr, by rw [k.frz _ h.pr]; exact h.fr, pr h.pr,
    by rw [k.blk _ h.p8]; exact h.h8, pr h.p8, by rw [k.blk _ h.p9]; exact h.h9, by rw [k.frz _ h.p9]; exact h.f9, pr h.p9, h.q9, h.q8⟩
theorem PW.set {w v : World} {a e P D n u b8 b9 : Nat} (h : PW w v a e P D n u b8 b9) (Q : Nat) : PW w (setBlk v b9 (nw 9 Q)) a e Q D n u b8 b9 := by
  have q := h.q9
  have q8 := h.q8
  have pr : ∀ {x}, Pre x v.heap.size → Pre x (setBlk v b9 (nw 9 Q)).heap.size := fun h => by rw [size_setBlk]; exact h
  exact ⟨gr_setNew h.g (by omega), by rw [blk_other _ _ _ _ (by omega)]; exact h.ha, pr h.pa, by rw [blk_other _ _ _ _ (by omega)]; exact h.he, pr h.pe, by rw [blk_other _ _ _ _ (by omega)]; exact h.hr, by rw [frz_setBlk]; exact h.fr, pr h.pr,
    by rw [blk_other _ _ _ _ (by omega)]; exact h.h8, pr h.p8, blk_setBlk _ _ _ (by rw [h.h9, nw_size]; decide), by rw [frz_setBlk]; exact h.f9, pr h.p9, h.q9, h.q8⟩
end Go.Proofs.Ytleckbdhebjfkaa
