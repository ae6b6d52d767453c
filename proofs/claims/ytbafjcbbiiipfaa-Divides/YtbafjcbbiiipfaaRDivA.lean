/-
  The documents' numbers: Cmp and Bits.
-/
/-
  The documents' numbers: Bits.
-/
/-
  The documents' numbers: Div where nothing is to be divided, and by one digit; what its loop keeps.
-/
import Derived.Test.YtbafjcbbiiipfaaRNat
import Derived.Test.YtbafjcbbiiipfaaSmB
import Derived.Test.YtbafjcbbiiipfaaRShort
import Derived.Test.YtbafjcbbiiipfaaRShr
import Derived.Test.YtbafjcbbiiipfaaMixG
import Derived.Deep.DrawnRows
import Derived.Deep.RegionWith
namespace Go.Proofs.Ytbafjcbbiiipfaa
open Go.RowKit
attribute [local go_sem ↓] loadNat_is loadArr_is loadWide_is loadArrW_is storeNat_is storeWide_is
attribute [local go_sem] loadNat loadArr loadWide loadArrW storeNat storeWide idxArr fold9 fold18 nw_size nw_elem pre_self pre_1 pre_2 pre_3 pre_4 pre_5 pre_6 pre_7 pre_8 pre_9 pre_10 pre_11 pre_12 pre_13 pre_14 pre_15 pre_16 pre_17 pre_18 pre_19 pre_20 pre_21 pre_22 pre_23 pre_24 pre_25 pre_26 pre_27 pre_28 pre_29 pre_30 pre_31 pre_32 pre_33 pre_34 pre_35 pre_36 pre_37 pre_38 pre_39 pre_40 gro_size gro_drew gro_drewN drew_gro drewN_gro gro_gro blk_gro frz_gro blk_drew frz_drew blk_drewN frz_drewN blk_alloc_at frz_alloc_at blk_alloc frz_alloc cell_gro frozen_gro cell_alloc_pre frozen_alloc_pre setCell_drewN alloc_drewN setBlk_drew setBlk_drewN setBlk_alloc_at setBlk_alloc setBlk_gro setCell_gro setCell_alloc_pre size_setBlk size_setCell
theorem ddiv_step (a j : Nat) : a / pq j = a / pq (j + 1) * 4294967296 + dg a j := by
  unfold dg
  rw [pq_succ, ← Nat.div_div_eq_div_mul]
  have := Nat.div_add_mod (a / pq j) 4294967296
  omega
theorem dcmp_lt (a b j : Nat) (h : a / pq (j + 1) = b / pq (j + 1)) (hw : dg a j < dg b j) : cmpZ a b = -1 := by
  have := lt_of_div a b (pq j) (by rw [ddiv_step a, ddiv_step b, h]; omega)
  unfold cmpZ
  rw [if_pos this]
theorem dcmp_gt (a b j : Nat) (h : a / pq (j + 1) = b / pq (j + 1)) (hw : dg b j < dg a j) : cmpZ a b = 1 := by
  have := lt_of_div b a (pq j) (by rw [ddiv_step a, ddiv_step b, h]; omega)
  unfold cmpZ
  rw [if_neg (by omega), if_pos this]
theorem dcmp_short (a b : Nat) (h : dl a < dl b) : a < b := by
  have h1 := dl_lt a
  have h2 : ¬ b < pq (dl a) := fun hb => by have := (dl_le b (dl a)).2 hb; omega
  omega
set_option maxRecDepth 100000 in
set_option maxHeartbeats 800000 in
theorem rcmp_any (x y n m : Nat) (p q : Option Addr) (w : World) (hp : Sl w p x) (hq : Sl w q y) (hx : dl x ≤ 50000) (hy : dl y ≤ 50000) :
    Calls Try.prog 39 #[.slice p (dl x) n, .slice q (dl y) m] w fun e w' => e = .returned (.int .i64 (cmpZ x y)) ∧ Gr w w' := by
  have lx := dl_lt x
  have ly := dl_lt y
  have sx := dcmp_short x y
  have sy := dcmp_short y x
  unfold Sl at hp hq
  obtain ⟨X, hX⟩ : ∃ L, dl x = L := ⟨_, rfl⟩
  obtain ⟨Y, hY⟩ : ∃ L, dl y = L := ⟨_, rfl⟩
  rw [hX] at lx hx hp sx sy ⊢
  rw [hY] at ly hy hq sx sy ⊢
  have x1 : (X : Int) ≤ 50000 := by omega
  have y1 : (Y : Int) ≤ 50000 := by omega
  clear hX hY
  rcases Nat.lt_trichotomy X Y with hc | hc | hc
  · have HC : Hid (Unit → cmpZ x y = -1) := fun _ => by unfold cmpZ; rw [if_pos (sx hc)]
    have h1 : (X : Int) < (Y : Int) := by omega
    have h2 : ¬ (X : Int) = (Y : Int) := by omega
    clear lx ly sx sy hp hq hc
    go_enter Try.func39, Try.ntmps39
    go_wp2
    go_ret
    exact ⟨congrArg (fun z => Ending.returned (Value.int IntKind.i64 z)) (HC.out ()).symm, (by repeat (first | exact Gr.refl _ | apply Gr.drewN | apply Gr.drew | apply Gr.alloc | apply Gr.gro))⟩
  · subst hc
    have HP : Hid (∀ i, i < X → ∃ b, p = some ⟨b, 0, none⟩ ∧ Pre (b + 1) w.heap.size ∧ (blk w b)[i]? = some (.int .u32 ((dg x i : Nat) : Int))) := hp
    have HQ : Hid (∀ i, i < X → ∃ b, q = some ⟨b, 0, none⟩ ∧ Pre (b + 1) w.heap.size ∧ (blk w b)[i]? = some (.int .u32 ((dg y i : Nat) : Int))) := hq
    have HS : Hid (Unit → x / pq X = y / pq X) := fun _ => by rw [Nat.div_eq_of_lt lx, Nat.div_eq_of_lt ly]
    clear lx ly sx sy hp hq
    go_enter Try.func39, Try.ntmps39
    go_wp2
    go_loopw [5] (fun i wr => ∃ k : Nat, k ≤ X ∧ i = .int .i64 ((k : Int) - 1) ∧ Hid (Unit → x / pq k = y / pq k) ∧ ∃ n, wr = w.drewN n) (fun i _ => (intOf i + 1).toNat)
    case atStart => exact ⟨X, by omega, rfl, HS, 0, rfl⟩
    case round =>
      obtain ⟨k, hk, rfl, HE, d, rfl⟩ := hrel
      clear HS
      by_cases hpos : 0 < k
      · obtain ⟨j, rfl⟩ : ∃ j, k = j + 1 := ⟨k - 1, by omega⟩
        have hj : j < X := by omega
        obtain ⟨b, rfl, _, gb⟩ := HP.out j hj
        obtain ⟨c, rfl, _, gc⟩ := HQ.out j hj
        have e1 : (((j + 1 : Nat) : Int) - 1) = (j : Int) := by omega
        rw [e1]
        have hj0 : (0 : Int) ≤ (j : Int) := by omega
        have hj1 : (j : Int) < (X : Int) := by omega
        have g1 : w.cell? ⟨b, j, none⟩ = some (.int .u32 ((dg x j : Nat) : Int)) := by rw [cell_blk]; exact gb
        have g2 : w.cell? ⟨c, j, none⟩ = some (.int .u32 ((dg y j : Nat) : Int)) := by rw [cell_blk]; exact gc
        have g1' : (w.drewN d).cell? ⟨b, j, none⟩ = some (.int .u32 ((dg x j : Nat) : Int)) := g1
        have g2' : (w.drewN d).cell? ⟨c, j, none⟩ = some (.int .u32 ((dg y j : Nat) : Int)) := g2
        have g1'' : ∀ d, (w.drewN d).cell? ⟨b, j, none⟩ = some (.int .u32 ((dg x j : Nat) : Int)) := fun _ => g1
        have g2'' : ∀ d, (w.drewN d).cell? ⟨c, j, none⟩ = some (.int .u32 ((dg y j : Nat) : Int)) := fun _ => g2
        clear e1 hk hpos HP HQ gb gc
        rcases Nat.lt_trichotomy (dg x j) (dg y j) with hc | hc | hc
        · have hci : ((dg x j : Nat) : Int) < (dg y j : Nat) := by omega
          have hne : (((dg x j : Nat) : Int) == ((dg y j : Nat) : Int)) = false := by rw [beq_eq_false_iff_ne]; omega
          have HC : Hid (Unit → cmpZ x y = -1) := fun _ => dcmp_lt x y j (HE.out ()) hc
          clear hc
          go_wp2
          go_quiet (fail)
          go_wp2
          go_quiet (fail)
          go_wp2
          go_ret
          exact ⟨congrArg (fun z => Ending.returned (Value.int IntKind.i64 z)) (HC.out ()).symm, (by repeat (first | exact Gr.refl _ | apply Gr.drewN | apply Gr.drew | apply Gr.alloc | apply Gr.gro))⟩
        · have HC : Hid (Unit → x / pq j = y / pq j) := fun _ => by rw [ddiv_step x, ddiv_step y, HE.out (), hc]
          rw [hc] at g1 g1' g1''
          clear hc
          go_wp2
          go_quiet (fail)
          go_wp2
          go_roundw
          case rel => exact ⟨j, by omega, rfl, HC, _, rfl⟩
          case measure => simp [intOf]
        · have hci : ¬ ((dg x j : Nat) : Int) < (dg y j : Nat) := by omega
          have hne : (((dg x j : Nat) : Int) == ((dg y j : Nat) : Int)) = false := by rw [beq_eq_false_iff_ne]; omega
          have HC : Hid (Unit → cmpZ x y = 1) := fun _ => dcmp_gt x y j (HE.out ()) hc
          clear hc
          go_wp2
          go_quiet (fail)
          go_wp2
          go_quiet (fail)
          go_wp2
          go_ret
          exact ⟨congrArg (fun z => Ending.returned (Value.int IntKind.i64 z)) (HC.out ()).symm, (by repeat (first | exact Gr.refl _ | apply Gr.drewN | apply Gr.drew | apply Gr.alloc | apply Gr.gro))⟩
      · obtain rfl : k = 0 := by omega
        have HC : Hid (Unit → cmpZ x y = 0) := fun _ => by
          have e := HE.out ()
          rw [pq_zero, Nat.div_one, Nat.div_one] at e
          rw [e]
          exact cmpZ_eq y
        clear hk hpos HP HQ
        go_wp2
        go_ret
        exact ⟨congrArg (fun z => Ending.returned (Value.int IntKind.i64 z)) (HC.out ()).symm, (by repeat (first | exact Gr.refl _ | apply Gr.drewN | apply Gr.drew | apply Gr.alloc | apply Gr.gro))⟩
  · have HC : Hid (Unit → cmpZ x y = 1) := fun _ => by unfold cmpZ; rw [if_neg (by have := sy hc; omega), if_pos (sy hc)]
    have h1 : ¬ (X : Int) < (Y : Int) := by omega
    have h2 : ¬ (X : Int) = (Y : Int) := by omega
    clear lx ly sx sy hp hq hc
    go_enter Try.func39, Try.ntmps39
    go_wp2
    go_ret
    exact ⟨congrArg (fun z => Ending.returned (Value.int IntKind.i64 z)) (HC.out ()).symm, (by repeat (first | exact Gr.refl _ | apply Gr.drewN | apply Gr.drew | apply Gr.alloc | apply Gr.gro))⟩

end Go.Proofs.Ytbafjcbbiiipfaa
namespace Go.Proofs.Ytbafjcbbiiipfaa
open Go.RowKit
attribute [local go_sem ↓] loadNat_is loadArr_is loadWide_is loadArrW_is storeNat_is storeWide_is
attribute [local go_sem] loadNat loadArr loadWide loadArrW storeNat storeWide idxArr fold9 fold18 nw_size nw_elem pre_self pre_1 pre_2 pre_3 pre_4 pre_5 pre_6 pre_7 pre_8 pre_9 pre_10 pre_11 pre_12 pre_13 pre_14 pre_15 pre_16 pre_17 pre_18 pre_19 pre_20 pre_21 pre_22 pre_23 pre_24 pre_25 pre_26 pre_27 pre_28 pre_29 pre_30 pre_31 pre_32 pre_33 pre_34 pre_35 pre_36 pre_37 pre_38 pre_39 pre_40 gro_size gro_drew gro_drewN drew_gro drewN_gro gro_gro blk_gro frz_gro blk_drew frz_drew blk_drewN frz_drewN blk_alloc_at frz_alloc_at blk_alloc frz_alloc cell_gro frozen_gro cell_alloc_pre frozen_alloc_pre setCell_drewN alloc_drewN setBlk_drew setBlk_drewN setBlk_alloc_at setBlk_alloc setBlk_gro setCell_gro setCell_alloc_pre size_setBlk size_setCell
theorem dbl_top (x j : Nat) (hx : x < pq (j + 1)) (h : dg x j ≠ 0) : bl x = 32 * j + bl (dg x j) := by
  have e : x / 2 ^ (32 * j) = dg x j := by
    unfold dg
    show x / pq j = _
    rw [Nat.mod_eq_of_lt]
    rw [pq_succ] at hx
    rw [Nat.div_lt_iff_lt_mul (pq_pos j), Nat.mul_comm]
    exact hx
  rw [← e]
  refine bl_shift x (32 * j) ?_
  by_cases hl : 2 ^ (32 * j) ≤ x
  · exact hl
  · exfalso
    apply h
    rw [← e, Nat.div_eq_of_lt (by omega)]
set_option maxRecDepth 100000 in
set_option maxHeartbeats 800000 in
theorem rbits_any (x n : Nat) (p : Option Addr) (w : World) (hp : Sl w p x) (hx : dl x ≤ 50000) :
    Calls Try.prog 41 #[.slice p (dl x) n] w fun e w' => e = .returned (.int .i64 ((bl x : Nat) : Int)) ∧ w' = w := by
  obtain hz | ⟨j, hj⟩ : dl x = 0 ∨ ∃ j, dl x = j + 1 := by
    cases dl x with
    | zero => exact Or.inl rfl
    | succ j => exact Or.inr ⟨j, rfl⟩
  · have hx0 := dl_eq_zero x hz
    subst hx0
    rw [hz]
    clear hp
    go_enter Try.func41, Try.ntmps41
    go_wp2
    go_ret
    exact ⟨rfl, rfl⟩
  · obtain ⟨b, rfl, hb, hc⟩ := hp j (by omega)
    have hlx := dl_lt x
    rw [hj] at hx hlx ⊢
    have hne : dg x j ≠ 0 := fun h0 => by
      have := (dl_le x j).2 (dl_top_zero x j hlx h0)
      omega
    have hB := dbl_top x j hlx hne
    have hl := dg_lt x j
    have hb32 : bl (dg x j) ≤ 32 := (bl_le _ 32).2 hl
    have hg : w.cell? ⟨b, j, none⟩ = some (.int .u32 ((dg x j : Nat) : Int)) := by rw [cell_blk]; exact hc
    have j0 : (0 : Int) ≤ (j : Int) := by omega
    have j1 : (j : Int) < 50000 := by omega
    obtain ⟨L, hL⟩ : ∃ L, j + 1 = L := ⟨_, rfl⟩
    rw [hL]
    have e1 : (L : Int) - 1 = (j : Int) := by omega
    have e3 : ((L : Int) == 0) = false := by rw [beq_eq_false_iff_ne]; omega
    have e4 : (j : Int) < (L : Int) := by omega
    obtain ⟨D, hD⟩ : ∃ D, dg x j = D := ⟨_, rfl⟩
    obtain ⟨B, hBx⟩ : ∃ B, bl x = B := ⟨_, rfl⟩
    rw [hD] at hB hl hg hb32
    rw [hBx] at hB ⊢
    have HB : Hid (Unit → B = 32 * j + bl D) := fun _ => hB
    have HL : Hid (Unit → bl D ≤ 32) := fun _ => hb32
    have HX : Hid (Unit → j < 50000) := fun _ => by omega
    clear hB hBx hD hc hne hlx hj hb32 hp hx hL
    go_enter Try.func41, Try.ntmps41
    go_wp2
    go_loopw [3, 4] (fun k v wr => ∃ K V : Nat, k = .int .i64 (K : Int) ∧ v = .int .u32 (V : Int) ∧ (V : Int) < 4294967296 ∧ (K : Int) ≤ 1700000 ∧ Hid (Unit → K + bl V = B) ∧ wr = w) (fun _ v _ => (intOf v).toNat)
    case atStart => exact ⟨32 * j, D, by go_num, rfl, by omega, by have := HX.out (); omega, fun _ => (HB.out ()).symm, rfl⟩
    case round =>
      obtain ⟨K, V, rfl, rfl, hV, hK, HE, rfl⟩ := hrel
      by_cases h0 : V = 0
      · subst h0
        have HK : Hid (Unit → K = B) := fun _ => by have := HE.out (); rw [bl_zero] at this; omega
        clear HE HB HL
        go_wp2
        go_ret
        exact ⟨by rw [HK.out ()]; rfl, rfl⟩
      · have v0 : (0 : Int) < (V : Int) := by omega
        have HN : Hid (Unit → K + 1 + bl (V / 2) = B) := fun _ => by have := HE.out (); rw [bl_half V h0] at this; omega
        have HW : Hid (Unit → V < 4294967296) := fun _ => by omega
        clear hV HE h0 e1 e3 e4 j0 j1 hl hb hg
        go_wp2
        go_roundw
        case rel => exact ⟨K + 1, V / 2, by go_num, by go_num, by have := HW.out (); omega, by have := HN.out (); have := HB.out (); have := HL.out (); have := HX.out (); omega, HN, trivial⟩
        case measure => simp [intOf]; omega

end Go.Proofs.Ytbafjcbbiiipfaa
namespace Go.Proofs.Ytbafjcbbiiipfaa
open Go.RowKit
attribute [local go_sem ↓] loadNat_is loadArr_is loadWide_is loadArrW_is storeNat_is storeWide_is
attribute [local go_sem] loadNat loadArr loadWide loadArrW storeNat storeWide idxArr fold9 fold18 nw_size nw_elem pre_self pre_1 pre_2 pre_3 pre_4 pre_5 pre_6 pre_7 pre_8 pre_9 pre_10 pre_11 pre_12 pre_13 pre_14 pre_15 pre_16 pre_17 pre_18 pre_19 pre_20 pre_21 pre_22 pre_23 pre_24 pre_25 pre_26 pre_27 pre_28 pre_29 pre_30 pre_31 pre_32 pre_33 pre_34 pre_35 pre_36 pre_37 pre_38 pre_39 pre_40 gro_size gro_drew gro_drewN drew_gro drewN_gro gro_gro blk_gro frz_gro blk_drew frz_drew blk_drewN frz_drewN blk_alloc_at frz_alloc_at blk_alloc frz_alloc cell_gro frozen_gro cell_alloc_pre frozen_alloc_pre setCell_drewN alloc_drewN setBlk_drew setBlk_drewN setBlk_alloc_at setBlk_alloc setBlk_gro setCell_gro setCell_alloc_pre size_setBlk size_setCell
theorem Sl.some {w : World} {p : Option Addr} {x : Nat} (h : Sl w p x) (h0 : 0 < dl x) : ∃ c, p = .some ⟨c, 0, .none⟩ ∧ Pre (c + 1) w.heap.size ∧ ∀ i, i < dl x → (blk w c)[i]? = .some (.int .u32 ((dg x i : Nat) : Int)) := by
  obtain ⟨c, h1, h2, _⟩ := h 0 h0
  refine ⟨c, h1, h2, fun i hi => ?_⟩
  obtain ⟨c', h3, _, h4⟩ := h i hi
  rw [h1] at h3
  cases h3
  exact h4
theorem copyD (ty : TypeId) (w : World) (b N c k c' X : Nat) (p : Option Addr) (hS : Sl w p X) (hk : dl X = k) (h0 : 0 < k) (hkN : k ≤ N) (hb : blk w b = nd N 0) (hf : frz w b = (0, 0)) :
    (Builtin.copy_ #[36, 36] ty #[.slice (some ⟨b, 0, none⟩) N c, .slice p k c']).run Try.prog w = .ok (goInt (k : Int)) (setBlk w b (nd N X)) := by
  obtain ⟨a, rfl, _, hc⟩ := hS.some (by omega)
  rw [hk] at hc
  have hl : ((List.range k).map fun i => Value.int .u32 ((dg X i : Nat) : Int)).length = k := by simp
  have hadd : ∀ j, (⟨a, 0, none⟩ : Addr).add j = ⟨a, 0 + j, none⟩ := fun j => by unfold Addr.add; split <;> simp_all
  rw [run_copy_cells w 36 36 ty 70 b 0 N c ⟨a, 0, none⟩ k c' ((List.range k).map fun i => Value.int .u32 ((dg X i : Nat) : Int)) Try.underlying36 (by kernel_rfl) (by rw [hl]; exact (Nat.min_eq_left hkN).symm)
    (fun j v hv => ?_) (fun j hj => ?_) (fun j hj => ?_) (fun v hv => ?_), setCells_setBlk _ _ _ _ (by rw [hb, nd_size]; omega)]
  · rw [hl]
    refine congrArg (Result.ok _) (congrArg (setBlk w b) ?_)
    apply Array.ext_getElem?
    intro j
    rw [setL_get, hl, hb, nd_size]
    by_cases hj : j < N
    · rw [nd_get N X j hj]
      by_cases hjk : j < k
      · rw [if_pos ⟨by omega, by omega, hj⟩, Nat.sub_zero]
        simp [hjk]
      · rw [if_neg (by omega), nd_get N 0 j hj, dg_zero, dg_beyond X j (by omega)]
    · rw [if_neg (by omega), Array.getElem?_eq_none (by rw [nd_size]; omega), Array.getElem?_eq_none (by rw [nd_size]; omega)]
  · have hj : j < k := by
      by_cases h : j < k
      · exact h
      · rw [List.getElem?_eq_none (by rw [hl]; omega)] at hv; cases hv
    have hv' : v = .int .u32 ((dg X j : Nat) : Int) := by
      simp [hj] at hv
      exact hv.symm
    rw [hadd, Nat.zero_add, cell_blk, hv']
    exact hc j hj
  · rw [hl] at hj
    rw [Nat.zero_add, cell_blk, hb, nd_get N 0 j (by omega)]
    rfl
  · exact frozen_frz _ _ _ hf
  · simp only [List.mem_map] at hv
    obtain ⟨i, _, rfl⟩ := hv
    rfl
set_option maxRecDepth 100000 in
set_option maxHeartbeats 800000 in
theorem rdiv_less (x m n n' : Nat) (p q : Option Addr) (w : World) (hp : Sl w p x) (hq : Sl w q m) (hx : dl x ≤ 1000) (hm : dl m ≤ 1000) (h : x < m) :
    Calls Try.prog 18 #[.slice p (dl x) n, .slice q (dl m) n'] w (Nm2 (x / m) (x % m) w) := by
  have hc := rcmp_any x m n n' p q w hp hq (by omega) (by omega)
  rw [show cmpZ x m = -1 by unfold cmpZ; rw [if_pos h]] at hc
  rw [Nat.div_eq_of_lt h, Nat.mod_eq_of_lt h]
  have HC : Hid (Unit → Calls Try.prog 39 #[.slice p (dl x) n, .slice q (dl m) n'] w fun e w' => e = .returned (.int .i64 (-1)) ∧ Gr w w') := fun _ => hc
  have HP : Hid (Sl w p x) := hp
  obtain ⟨X, hX⟩ : ∃ L, dl x = L := ⟨_, rfl⟩
  obtain ⟨K, hK⟩ : ∃ L, dl m = L := ⟨_, rfl⟩
  rw [hX, hK] at HC ⊢
  have HX : Hid (Unit → dl x = X) := fun _ => hX
  clear hc hp hq hx hm h hX hK
  go_enter Try.func18, Try.ntmps18
  go_wp2_with (go_at_call 39; refine (HC.out ()).mono ?_; rintro e w' ⟨rfl, g, rfl⟩)
  go_ret2
  exact ⟨none, 0, p, n, by rw [dl_zero, HX.out ()]; rfl, Sl.zero _ _, HP.out.gr ⟨g, rfl⟩, ⟨g, rfl⟩⟩
set_option maxRecDepth 100000 in
set_option maxHeartbeats 800000 in
theorem rdiv_one (x m n n' : Nat) (p q : Option Addr) (w : World) (hp : Sl w p x) (hq : Sl w q m) (hx : dl x ≤ 1000) (hm : dl m = 1) (h0 : 0 < m) (h : m ≤ x) :
    Calls Try.prog 18 #[.slice p (dl x) n, .slice q (dl m) n'] w (Nm2 (x / m) (x % m) w) := by
  have hc := rcmp_any x m n n' p q w hp hq (by omega) (by omega)
  have hz : (0 : Int) ≤ cmpZ x m := by unfold cmpZ; rw [if_neg (by omega)]; split <;> decide
  obtain ⟨z, hz'⟩ : ∃ z, cmpZ x m = z := ⟨_, rfl⟩
  rw [hz'] at hc hz
  have z1 : ¬ z < 0 := by omega
  have z2 : decide (z < 0) = false := decide_eq_false z1
  obtain ⟨c, rfl, hcp, hcd⟩ := hq.some (by omega)
  have hml : m < 4294967296 := by have := dl_lt m; rw [hm, pq_one] at this; exact this
  have hd0 : dg m 0 = m := by unfold dg; rw [pq_zero, Nat.div_one, Nat.mod_eq_of_lt hml]
  have gc := hcd 0 (by omega)
  rw [hd0] at gc
  have gm : w.cell? ⟨c, 0, none⟩ = some (.int .u32 (m : Int)) := by rw [cell_blk]; exact gc
  have wm : IntKind.u64.wrap (m : Int) = (m : Int) := by rw [IntKind.wrap_u64]; omega
  have HS : Hid (∀ w', Gr w w' → Calls Try.prog 40 #[.slice p (dl x) n, .int .u64 (m : Int)] w' (Nm2 (x / m) (x % m) w')) := fun w' g => short_any x m n p w' (hp.gr g) (by omega) h0 hml
  rw [hm] at hc ⊢
  have HC : Hid (Unit → Calls Try.prog 39 #[.slice p (dl x) n, .slice (some ⟨c, 0, none⟩) 1 n'] w fun e w' => e = .returned (.int .i64 z) ∧ Gr w w') := fun _ => hc
  obtain ⟨X, hX⟩ : ∃ L, dl x = L := ⟨_, rfl⟩
  rw [hX] at HC HS ⊢
  clear hc hp hq hx hm h hX hz hz' hcd gc hd0 h0 hml
  go_enter Try.func18, Try.ntmps18
  go_wp2_with (first
    | (go_at_call 39; refine (HC.out ()).mono ?_; rintro e w' ⟨rfl, g, rfl⟩)
    | (go_at_call 40; refine (HS.out _ ⟨g, rfl⟩).mono ?_; rintro e w' ⟨p1, n1, p2, n2, rfl, S1, S2, g2, rfl⟩))
  go_ret2
  exact ⟨p1, n1, p2, n2, rfl, by rw [← gro_gro]; exact S1, by rw [← gro_gro]; exact S2, (by repeat (first | exact Gr.refl _ | apply Gr.drewN | apply Gr.drew | apply Gr.alloc | apply Gr.gro))⟩

/-- What the loop of Div keeps. -/
structure DW (w v : World) (b b2 c K V L Lq Z Q : Nat) : Prop where
  g : Gr w v
  hb : blk v b = nd L Z
  fb : frz v b = (0, 0)
  pb : Pre (b + 1) v.heap.size
  h2 : blk v b2 = nd Lq Q
  f2 : frz v b2 = (0, 0)
  p2 : Pre (b2 + 1) v.heap.size
  hc : ∀ i, i < K → (blk v c)[i]? = some (.int .u32 ((dg V i : Nat) : Int))
  pc : Pre (c + 1) v.heap.size
  qb : w.heap.size ≤ b
  qc : c < b
  q2 : b < b2
theorem DW.gr {w v v' : World} {b b2 c K V L Lq Z Q : Nat} (h : DW w v b b2 c K V L Lq Z Q) (k : Gr v v') : DW w v' b b2 c K V L Lq Z Q := by
  have hs := k.below.size
  have pr : ∀ {x}, Pre x v.heap.size → Pre x v'.heap.size := fun h => Nat.le_trans h hs
  exact ⟨h.g.trans k, by rw [k.blk _ h.pb]; exact h.hb, by rw [k.frz _ h.pb]; exact h.fb, pr h.pb, by rw [k.blk _ h.p2]; exact h.h2, by rw [k.frz _ h.p2]; exact h.f2, pr h.p2,
    fun i hi => by rw [k.blk _ h.pc]; exact h.hc i hi, pr h.pc, h.qb, h.qc, h.q2⟩
theorem DW.setB {w v : World} {b b2 c K V L Lq Z Q : Nat} (h : DW w v b b2 c K V L Lq Z Q) (hL : 0 < L) (Y : Nat) : DW w (setBlk v b (nd L Y)) b b2 c K V L Lq Y Q := by
  have q := h.qb
  have q1 := h.qc
  have q3 := h.q2
  have pr : ∀ {x}, Pre x v.heap.size → Pre x (setBlk v b (nd L Y)).heap.size := fun h => by rw [size_setBlk]; exact h
  exact ⟨gr_setNew h.g (by omega), blk_setBlk _ _ _ (by rw [h.hb, nd_size]; exact hL), by rw [frz_setBlk]; exact h.fb, pr h.pb, by rw [blk_other _ _ _ _ (by omega)]; exact h.h2, by rw [frz_setBlk]; exact h.f2, pr h.p2,
    fun i hi => by rw [blk_other _ _ _ _ (by omega)]; exact h.hc i hi, pr h.pc, h.qb, h.qc, h.q2⟩
theorem DW.set2 {w v : World} {b b2 c K V L Lq Z Q : Nat} (h : DW w v b b2 c K V L Lq Z Q) (hL : 0 < Lq) (Y : Nat) : DW w (setBlk v b2 (nd Lq Y)) b b2 c K V L Lq Z Y := by
  have q := h.qb
  have q1 := h.qc
  have q3 := h.q2
  have pr : ∀ {x}, Pre x v.heap.size → Pre x (setBlk v b2 (nd Lq Y)).heap.size := fun h => by rw [size_setBlk]; exact h
  exact ⟨gr_setNew h.g (by omega), by rw [blk_other _ _ _ _ (by omega)]; exact h.hb, by rw [frz_setBlk]; exact h.fb, pr h.pb, blk_setBlk _ _ _ (by rw [h.h2, nd_size]; exact hL), by rw [frz_setBlk]; exact h.f2, pr h.p2,
    fun i hi => by rw [blk_other _ _ _ _ (by omega)]; exact h.hc i hi, pr h.pc, h.qb, h.qc, h.q2⟩
theorem DW.start {w W : World} {b c K V L Q Y : Nat} {t : TypeId} (g : Gr w W) (hb : blk W b = nd L 0) (fb : frz W b = (0, 0)) (pb : Pre (b + 1) W.heap.size) (hc : ∀ i, i < K → (blk W c)[i]? = some (.int .u32 ((dg V i : Nat) : Int))) (pc : Pre (c + 1) W.heap.size) (qb : w.heap.size ≤ b) (qc : c < b) (hL : 0 < L) :
    DW w ((setBlk W b (nd L Y)).alloc (.cells (nd Q 0) t)) b W.heap.size c K V L Q Y 0 := by
  have hsz : (setBlk W b (nd L Y)).heap.size = W.heap.size := size_setBlk _ _ _
  have pb' : Pre (b + 1) (setBlk W b (nd L Y)).heap.size := by rw [hsz]; exact pb
  have pc' : Pre (c + 1) (setBlk W b (nd L Y)).heap.size := by rw [hsz]; exact pc
  have ha : ∀ {x}, Pre x (setBlk W b (nd L Y)).heap.size → Pre x ((setBlk W b (nd L Y)).alloc (.cells (nd Q 0) t)).heap.size := fun h => Nat.le_trans h ((Gr.refl _).alloc _).below.size
  refine ⟨(gr_setNew g qb).alloc _, ?_, ?_, ha pb', blk_alloc_at _ _ _ _ _ hsz.symm, frz_alloc_at _ _ _ _ _ hsz.symm, ?_, fun i hi => ?_, ha pc', qb, qc, pb⟩
  · rw [blk_alloc _ _ _ pb', blk_setBlk _ _ _ (by rw [hb, nd_size]; exact hL)]
  · rw [frz_alloc _ _ _ pb', frz_setBlk]; exact fb
  · show W.heap.size + 1 ≤ _
    simp [hsz]
  · rw [blk_alloc _ _ _ pc', blk_other _ _ _ _ (by omega)]; exact hc i hi

end Go.Proofs.Ytbafjcbbiiipfaa
