import Derived.Test.YtgmaalokfgdpaaaXFRAdd
import Derived.Test.YtgmaalokfgdpaaaXFQt
namespace Go.Proofs.Ytgmaalokfgdpaaa
open Go.RowKit
attribute [local go_sem ↓] loadNat_is loadArr_is loadWide_is loadArrW_is storeNat_is storeWide_is
attribute [local go_sem] loadNat loadArr loadWide loadArrW storeNat storeWide idxArr fold9 fold18 nw_size nw_elem pre_self pre_1 pre_2 pre_3 pre_4 pre_5 pre_6 pre_7 pre_8 pre_9 pre_10 pre_11 pre_12 pre_13 pre_14 pre_15 pre_16 pre_17 pre_18 pre_19 pre_20 pre_21 pre_22 pre_23 pre_24 pre_25 pre_26 pre_27 pre_28 pre_29 pre_30 pre_31 pre_32 pre_33 pre_34 pre_35 pre_36 pre_37 pre_38 pre_39 pre_40 gro_size gro_drew gro_drewN drew_gro drewN_gro gro_gro blk_gro frz_gro blk_drew frz_drew blk_drewN frz_drewN blk_alloc_at frz_alloc_at blk_alloc frz_alloc cell_gro frozen_gro cell_alloc_pre frozen_alloc_pre setCell_drewN alloc_drewN setBlk_drew setBlk_drewN setBlk_alloc_at setBlk_alloc setBlk_gro setCell_gro setCell_alloc_pre size_setBlk size_setCell
theorem ddiv_step (a j : Nat) : a / pq j = a / pq (j + 1) * 4294967296 + dg a j := by
  unfold dg
  rw [pq_succ, ← Nat.div_div_eq_div_mul]
  have := Nat.div_add_mod (a / pq j) 4294967296
  omega
theorem dcmp_lt (a b j : Nat) (h : a / pq (j + 1) = b / pq (j + 1)) (hw : dg a j < dg b j) : cmpZ a b = -1 := by
  have := lt_of_div a b (pq j) (by rw [ddiv_step a, ddiv_step b, h]; omega)
  unfold cmpZ
  rw [if_pos this]
theorem dcmp_gt (a b j : Nat) (h : a / pq (j + 1) = b / pq (j + 1)) (hw : dg b j < dg a j) : cmpZ a b = 1 := by
  have := lt_of_div b a (pq j) (by rw [ddiv_step a, ddiv_step b, h]; omega)
  unfold cmpZ
  rw [if_neg (by omega), if_pos this]
theorem dcmp_short (a b : Nat) (h : dl a < dl b) : a < b := by
  have h1 := dl_lt a
  have h2 : ¬ b < pq (dl a) := fun hb => by have := (dl_le b (dl a)).2 hb; omega
  omega
set_option maxRecDepth 100000 in
set_option maxHeartbeats 800000 in
theorem rcmp_any (x y n m : Nat) (p q : Option Addr) (w : World) (hp : Sl w p x) (hq : Sl w q y) (hx : dl x ≤ 50000) (hy : dl y ≤ 50000) :
    Calls Try.prog 26 #[.slice p (dl x) n, .slice q (dl y) m] w fun e w' => e = .returned (.int .i64 (cmpZ x y)) ∧ Gr w w' := by
  have lx := dl_lt x
  have ly := dl_lt y
  have sx := dcmp_short x y
  have sy := dcmp_short y x
  unfold Sl at hp hq
  obtain ⟨X, hX⟩ : ∃ L, dl x = L := ⟨_, rfl⟩
  obtain ⟨Y, hY⟩ : ∃ L, dl y = L := ⟨_, rfl⟩
  rw [hX] at lx hx hp sx sy ⊢
  rw [hY] at ly hy hq sx sy ⊢
  have x1 : (X : Int) ≤ 50000 := by omega
  have y1 : (Y : Int) ≤ 50000 := by omega
  clear hX hY
  rcases Nat.lt_trichotomy X Y with hc | hc | hc
  · have HC : Hid (Unit → cmpZ x y = -1) := fun _ => by unfold cmpZ; rw [if_pos (sx hc)]
    have h1 : (X : Int) < (Y : Int) := by omega
    have h2 : ¬ (X : Int) = (Y : Int) := by omega
    clear lx ly sx sy hp hq hc
    go_enter Try.func26, Try.ntmps26
    go_wp2
    go_ret
    exact ⟨congrArg (fun z => Ending.returned (Value.int IntKind.i64 z)) (HC.out ()).symm, (by repeat (first | exact Gr.refl _ | apply Gr.drewN | apply Gr.drew | apply Gr.alloc | apply Gr.gro))⟩
  · subst hc
    have HP : Hid (∀ i, i < X → ∃ b, p = some ⟨b, 0, none⟩ ∧ Pre (b + 1) w.heap.size ∧ (blk w b)[i]? = some (.int .u32 ((dg x i : Nat) : Int))) := hp
    have HQ : Hid (∀ i, i < X → ∃ b, q = some ⟨b, 0, none⟩ ∧ Pre (b + 1) w.heap.size ∧ (blk w b)[i]? = some (.int .u32 ((dg y i : Nat) : Int))) := hq
    have HS : Hid (Unit → x / pq X = y / pq X) := fun _ => by rw [Nat.div_eq_of_lt lx, Nat.div_eq_of_lt ly]
    clear lx ly sx sy hp hq
    go_enter Try.func26, Try.ntmps26
    go_wp2
    go_loopw [5] (fun i wr => ∃ k : Nat, k ≤ X ∧ i = .int .i64 ((k : Int) - 1) ∧ Hid (Unit → x / pq k = y / pq k) ∧ ∃ n, wr = w.drewN n) (fun i _ => (intOf i + 1).toNat)
    case atStart => exact ⟨X, by omega, rfl, HS, 0, rfl⟩
    case round =>
      obtain ⟨k, hk, rfl, HE, d, rfl⟩ := hrel
      clear HS
      by_cases hpos : 0 < k
      · obtain ⟨j, rfl⟩ : ∃ j, k = j + 1 := ⟨k - 1, by omega⟩
        have hj : j < X := by omega
        obtain ⟨b, rfl, _, gb⟩ := HP.out j hj
        obtain ⟨c, rfl, _, gc⟩ := HQ.out j hj
        have e1 : (((j + 1 : Nat) : Int) - 1) = (j : Int) := by omega
        rw [e1]
        have hj0 : (0 : Int) ≤ (j : Int) := by omega
        have hj1 : (j : Int) < (X : Int) := by omega
        have g1 : w.cell? ⟨b, j, none⟩ = some (.int .u32 ((dg x j : Nat) : Int)) := by rw [cell_blk]; exact gb
        have g2 : w.cell? ⟨c, j, none⟩ = some (.int .u32 ((dg y j : Nat) : Int)) := by rw [cell_blk]; exact gc
        have g1' : (w.drewN d).cell? ⟨b, j, none⟩ = some (.int .u32 ((dg x j : Nat) : Int)) := g1
        have g2' : (w.drewN d).cell? ⟨c, j, none⟩ = some (.int .u32 ((dg y j : Nat) : Int)) := g2
        have g1'' : ∀ d, (w.drewN d).cell? ⟨b, j, none⟩ = some (.int .u32 ((dg x j : Nat) : Int)) := fun _ => g1
        have g2'' : ∀ d, (w.drewN d).cell? ⟨c, j, none⟩ = some (.int .u32 ((dg y j : Nat) : Int)) := fun _ => g2
        clear e1 hk hpos HP HQ gb gc
        rcases Nat.lt_trichotomy (dg x j) (dg y j) with hc | hc | hc
        · have hci : ((dg x j : Nat) : Int) < (dg y j : Nat) := by omega
          have hne : (((dg x j : Nat) : Int) == ((dg y j : Nat) : Int)) = false := by rw [beq_eq_false_iff_ne]; omega
          have HC : Hid (Unit → cmpZ x y = -1) := fun _ => dcmp_lt x y j (HE.out ()) hc
          clear hc
          go_wp2
          go_quiet (fail)
          go_wp2
          go_quiet (fail)
          go_wp2
          go_ret
          exact ⟨congrArg (fun z => Ending.returned (Value.int IntKind.i64 z)) (HC.out ()).symm, (by repeat (first | exact Gr.refl _ | apply Gr.drewN | apply Gr.drew | apply Gr.alloc | apply Gr.gro))⟩
        · have HC : Hid (Unit → x / pq j = y / pq j) := fun _ => by rw [ddiv_step x, ddiv_step y, HE.out (), hc]
          rw [hc] at g1 g1' g1''
          clear hc
          go_wp2
          go_quiet (fail)
          go_wp2
          go_roundw
          case rel => exact ⟨j, by omega, rfl, HC, _, rfl⟩
          case measure => simp [intOf]
        · have hci : ¬ ((dg x j : Nat) : Int) < (dg y j : Nat) := by omega
          have hne : (((dg x j : Nat) : Int) == ((dg y j : Nat) : Int)) = false := by rw [beq_eq_false_iff_ne]; omega
          have HC : Hid (Unit → cmpZ x y = 1) := fun _ => dcmp_gt x y j (HE.out ()) hc
          clear hc
          go_wp2
          go_quiet (fail)
          go_wp2
          go_quiet (fail)
          go_wp2
          go_ret
          exact ⟨congrArg (fun z => Ending.returned (Value.int IntKind.i64 z)) (HC.out ()).symm, (by repeat (first | exact Gr.refl _ | apply Gr.drewN | apply Gr.drew | apply Gr.alloc | apply Gr.gro))⟩
      · obtain rfl : k = 0 := by omega
        have HC : Hid (Unit → cmpZ x y = 0) := fun _ => by
          have e := HE.out ()
          rw [pq_zero, Nat.div_one, Nat.div_one] at e
          rw [e]
          exact cmpZ_eq y
        clear hk hpos HP HQ
        go_wp2
        go_ret
        exact ⟨congrArg (fun z => Ending.returned (Value.int IntKind.i64 z)) (HC.out ()).symm, (by repeat (first | exact Gr.refl _ | apply Gr.drewN | apply Gr.drew | apply Gr.alloc | apply Gr.gro))⟩
  · have HC : Hid (Unit → cmpZ x y = 1) := fun _ => by unfold cmpZ; rw [if_neg (by have := sy hc; omega), if_pos (sy hc)]
    have h1 : ¬ (X : Int) < (Y : Int) := by omega
    have h2 : ¬ (X : Int) = (Y : Int) := by omega
    clear lx ly sx sy hp hq hc
    go_enter Try.func26, Try.ntmps26
    go_wp2
    go_ret
    exact ⟨congrArg (fun z => Ending.returned (Value.int IntKind.i64 z)) (HC.out ()).symm, (by repeat (first | exact Gr.refl _ | apply Gr.drewN | apply Gr.drew | apply Gr.alloc | apply Gr.gro))⟩

end Go.Proofs.Ytgmaalokfgdpaaa
