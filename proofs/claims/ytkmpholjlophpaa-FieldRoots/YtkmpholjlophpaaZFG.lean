/-
  field.modulusFor: what it hands back.
-/
/-
  field.ofTwo, field.ofOne.
-/
import Derived.Test.YtkmpholjlophpaaZFC
import Derived.Test.YtkmpholjlophpaaZPC
import Derived.Test.YtkmpholjlophpaaZSmB
import Derived.Test.YtkmpholjlophpaaZQt
namespace Go.Proofs.Ytkmpholjlophpaa
open Go.RowKit
attribute [local go_sem ↓] loadNat_is loadArr_is loadWide_is loadArrW_is storeNat_is storeWide_is
attribute [local go_sem] loadNat loadArr loadWide loadArrW storeNat storeWide idxArr fold9 fold18 nw_size nw_elem pre_self pre_1 pre_2 pre_3 pre_4 pre_5 pre_6 pre_7 pre_8 pre_9 pre_10 pre_11 pre_12 pre_13 pre_14 pre_15 pre_16 pre_17 pre_18 pre_19 pre_20 pre_21 pre_22 pre_23 pre_24 pre_25 pre_26 pre_27 pre_28 pre_29 pre_30 pre_31 pre_32 pre_33 pre_34 pre_35 pre_36 pre_37 pre_38 pre_39 pre_40 gro_size gro_drew gro_drewN drew_gro drewN_gro gro_gro blk_gro frz_gro blk_drew frz_drew blk_drewN frz_drewN blk_alloc_at frz_alloc_at blk_alloc frz_alloc cell_gro frozen_gro cell_alloc_pre frozen_alloc_pre setCell_drewN alloc_drewN setBlk_drew setBlk_drewN setBlk_alloc_at setBlk_alloc setBlk_gro setCell_gro setCell_alloc_pre size_setBlk size_setCell
attribute [local go_sem ↓] loadDv_is load19_is storeDv_is store19_is copy_is
attribute [local go_sem] idx18 loadDv load19 storeDv store19 dv_size dv_9 dv_10 dv_e9 dv_e10 dv_elem fold11 fold19 setCell_in cell_in frozen_in frz_setBlk blk_setBlk setBlk_setBlk copy_run cpA_nw ones_nw

attribute [local go_sem ↓] loadMd_is storeMd_is buildMd_is Go.wp_at_zero Go.wp_at_succ
attribute [local go_sem] loadMd storeMd buildMd0 buildMd1 blk_other loadLo loadHi ext_lo ext_hi

theorem pre_up {b n : Nat} (h : Pre b n) : (∀ k, Pre b (n + k)) ∧ (∀ k l, Pre b (n + k + l)) ∧ (∀ k l j, Pre b (n + k + l + j)) := by
  unfold Pre at *
  exact ⟨fun k => by omega, fun k l => by omega, fun k l j => by omega⟩
set_option maxRecDepth 100000 in
set_option maxHeartbeats 1600000 in
theorem mfor_no (x : Int) (h : x < 1 ∨ 15 < x) (v : Value) (w : World) :
    Calls Try.prog 63 #[.int .i64 x, v] w fun e w' => e = .returned (.tuple #[.agg (nw 9 0), .int .i64 500]) ∧ Gr w w' := by
  have HO : Hid (∀ w, Calls Try.prog 42 #[.int .i64 x] w fun e w' => e = .returned (.tuple #[.agg (nw 9 0), .bool false]) ∧ Gr w w') := fun w => of_no x h w
  clear h
  go_enter Try.func63, Try.ntmps63
  go_wp2_with (go_at_call 42; refine (HO.out _).mono ?_; rintro e w' ⟨rfl, g, rfl⟩)
  refine bodyPost_ret (res_two Try.results63 (rd_md (x := 0) (by rfl) ?_) (rd_tmp (by rfl))) rfl ⟨rfl, (by repeat (first | exact Gr.refl _ | apply Gr.drewN | apply Gr.drew | apply Gr.alloc | apply Gr.gro))⟩
  simp [go_sem]

set_option maxRecDepth 100000 in
set_option maxHeartbeats 1600000 in
theorem mfor_one (i m a b : Nat) (h1 : 1 ≤ i) (h2 : i ≤ 15) (hm : pN i = m) (hmM : m < M) (ha : a < M) (w : World) (hb : blk w b = nw 9 a) (hp : Pre (b + 1) w.heap.size) :
    Calls Try.prog 63 #[.int .i64 (i : Int), .slice (some ⟨b, 0, none⟩) 1 1] w fun e w' => e = .returned (.tuple #[.agg (nw 9 (if a < m then m else 0)), .int .i64 (if a < m then 0 else 501)]) ∧ Gr w w' := by
  have HO : Hid (∀ w, Calls Try.prog 42 #[.int .i64 (i : Int)] w fun e w' => e = .returned (.tuple #[.agg (nw 9 m), .bool true]) ∧ Gr w w') := fun w => hm ▸ of_yes i h1 h2 w
  obtain ⟨z, hz⟩ : ∃ z, cmpZ a m = z := ⟨_, rfl⟩
  have HC : Hid (∀ w, Calls Try.prog 76 #[.agg (nw 9 a), .agg (nw 9 m)] w fun e w' => e = .returned (.int .i64 z) ∧ Gr w w') := fun w => hz ▸ cmp_any a m ha hmM w
  have pp : ∀ k, Pre (b + 1) (w.heap.size + k) := fun k => by unfold Pre at *; omega
  have pp2 : ∀ k l, Pre (b + 1) (w.heap.size + k + l) := fun k l => by unfold Pre at *; omega
  have pp3 : ∀ k l j, Pre (b + 1) (w.heap.size + k + l + j) := fun k l j => by unfold Pre at *; omega
  have hbn : b < w.heap.size := hp
  by_cases hl : a < m
  · have hz1 : z = -1 := by rw [← hz]; unfold cmpZ; rw [if_pos hl]
    subst hz1
    rw [if_pos hl, if_pos hl]
    clear hz hl hm hmM ha h1 h2
    go_enter Try.func63, Try.ntmps63
    go_wp2_with (go_at_call 42; refine (HO.out _).mono ?_; rintro e w' ⟨rfl, g, rfl⟩)
    obtain ⟨b6, hb6⟩ : ∃ x, w.heap.size + 1 + g.os.length = x := ⟨_, rfl⟩
    rw [hb6]
    go_loopw [20] (fun j wr => ∃ k : Nat, k ≤ 1 ∧ j = .int .i64 (k : Int) ∧ Hid (Gr w wr ∧ Cl wr w.heap.size 0 ∧ Cl wr b6 m)) (fun j _ => ((1 : Int) - intOf j).toNat)
    case atStart =>
      subst hb6
      exact ⟨0, by decide, rfl, (by repeat (first | exact Gr.refl _ | apply Gr.drewN | apply Gr.drew | apply Gr.alloc | apply Gr.gro)), ⟨by simp [go_sem], by simp [go_sem], by simp [go_sem]⟩, ⟨by simp [go_sem], by simp [go_sem], by simp [go_sem]⟩⟩
    case round =>
      obtain ⟨k, hk, rfl, HV⟩ := hrel
      obtain ⟨G, ⟨h1, f1, p1⟩, ⟨h2, f2, p2⟩⟩ := HV.out
      have h3 : blk wr b = nw 9 a := by rw [G.blk _ hbn]; exact hb
      have p3 : Pre (b + 1) wr.heap.size := Nat.le_trans hp G.below.size
      have n1 : ¬ wr.heap.size = w.heap.size := by have : w.heap.size + 1 ≤ wr.heap.size := p1; omega
      clear G hb hp pp pp2 pp3
      obtain rfl | rfl : k = 0 ∨ k = 1 := by omega
      · go_wp2_with (go_at_call 76; refine (HC.out _).mono ?_; rintro e w' ⟨rfl, g2, rfl⟩)
        go_roundw
        case rel =>
          refine ⟨1, by decide, by go_num, ?_⟩
          obtain ⟨G, c1, c2⟩ := HV.out
          refine ⟨?_, c1.gr (by repeat (first | exact Gr.refl _ | apply Gr.drewN | apply Gr.drew | apply Gr.alloc | apply Gr.gro)), c2.gr (by repeat (first | exact Gr.refl _ | apply Gr.drewN | apply Gr.drew | apply Gr.alloc | apply Gr.gro))⟩
          repeat (first | exact G | apply Gr.drewN | apply Gr.drew | apply Gr.alloc | apply Gr.gro | (refine gr_setNew ?_ (by omega)))
        case measure => simp [intOf]
      · go_wp2_with fail
        refine bodyPost_ret (res_two Try.results63 (rd_md (x := m) (by rfl) ?_) (rd_tmp (by rfl))) rfl ⟨rfl, ?_⟩
        · simp [go_sem, *]
        · have hg := HV.out.1
          repeat (first | exact hg | apply Gr.drewN | apply Gr.drew | apply Gr.alloc | apply Gr.gro | (refine gr_setNew ?_ (by omega)))
  · have hz1 : 0 ≤ z := by rw [← hz]; unfold cmpZ; rw [if_neg hl]; split <;> omega
    rw [if_neg hl, if_neg hl]
    clear hz hl hm hmM ha h1 h2
    go_enter Try.func63, Try.ntmps63
    go_wp2_with (go_at_call 42; refine (HO.out _).mono ?_; rintro e w' ⟨rfl, g, rfl⟩)
    obtain ⟨b6, hb6⟩ : ∃ x, w.heap.size + 1 + g.os.length = x := ⟨_, rfl⟩
    rw [hb6]
    go_loopw [20] (fun j wr => j = .int .i64 0 ∧ Hid (Gr w wr ∧ Cl wr w.heap.size 0 ∧ Cl wr b6 m)) (fun j _ => ((1 : Int) - intOf j).toNat)
    case atStart =>
      subst hb6
      exact ⟨rfl, (by repeat (first | exact Gr.refl _ | apply Gr.drewN | apply Gr.drew | apply Gr.alloc | apply Gr.gro)), ⟨by simp [go_sem], by simp [go_sem], by simp [go_sem]⟩, ⟨by simp [go_sem], by simp [go_sem], by simp [go_sem]⟩⟩
    case round =>
      obtain ⟨rfl, HV⟩ := hrel
      obtain ⟨G, ⟨h1, f1, p1⟩, ⟨h2, f2, p2⟩⟩ := HV.out
      have h3 : blk wr b = nw 9 a := by rw [G.blk _ hbn]; exact hb
      have p3 : Pre (b + 1) wr.heap.size := Nat.le_trans hp G.below.size
      obtain ⟨P1, P2, P3⟩ := pre_up p1
      obtain ⟨Q1, Q2, Q3⟩ := pre_up p2
      obtain ⟨R1, R2, R3⟩ := pre_up p3
      clear G hb hp pp pp2 pp3
      go_wp2_with (go_at_call 76; refine (HC.out _).mono ?_; rintro e w' ⟨rfl, g2, rfl⟩)
      · refine bodyPost_ret (res_two Try.results63 (rd_md (x := 0) (by rfl) ?_) (rd_tmp (by rfl))) rfl ⟨rfl, ?_⟩
        · simp [go_sem, *]
        · have hg := HV.out.1
          repeat (first | exact hg | apply Gr.drewN | apply Gr.drew | apply Gr.alloc | apply Gr.gro | (refine gr_setNew ?_ (by omega)))

set_option maxRecDepth 100000 in
set_option maxHeartbeats 1600000 in
theorem mfor_two (i m a c b X : Nat) (h1 : 1 ≤ i) (h2 : i ≤ 15) (hm : pN i = m) (hmM : m < M) (ha : a < M) (hc : c < M) (hX : X = mvN a c) (w : World) (hb : blk w b = nw 18 X) (hp : Pre (b + 1) w.heap.size) :
    Calls Try.prog 63 #[.int .i64 (i : Int), .slice (some ⟨b, 0, none⟩) 2 2] w fun e w' => e = .returned (.tuple #[.agg (nw 9 (if a < m ∧ c < m then m else 0)), .int .i64 (if a < m ∧ c < m then 0 else 501)]) ∧ Gr w w' := by
  have HO : Hid (∀ w, Calls Try.prog 42 #[.int .i64 (i : Int)] w fun e w' => e = .returned (.tuple #[.agg (nw 9 m), .bool true]) ∧ Gr w w') := fun w => hm ▸ of_yes i h1 h2 w
  have elo : nw 9 X = nw 9 a := by rw [hX]; exact mv_lo a c ha
  have ehi : nw 9 (X / pw 9) = nw 9 c := by rw [hX]; exact mv_hi a c ha
  obtain ⟨z, hz⟩ : ∃ z, cmpZ a m = z := ⟨_, rfl⟩
  have HC0 : Hid (∀ w, Calls Try.prog 76 #[.agg (nw 9 a), .agg (nw 9 m)] w fun e w' => e = .returned (.int .i64 z) ∧ Gr w w') := fun w => hz ▸ cmp_any a m ha hmM w
  obtain ⟨y, hy⟩ : ∃ z, cmpZ c m = z := ⟨_, rfl⟩
  have HC1 : Hid (∀ w, Calls Try.prog 76 #[.agg (nw 9 c), .agg (nw 9 m)] w fun e w' => e = .returned (.int .i64 y) ∧ Gr w w') := fun w => hy ▸ cmp_any c m hc hmM w
  have hbn : b < w.heap.size := hp
  by_cases hl : a < m
  · have hz1 : z = -1 := by rw [← hz]; unfold cmpZ; rw [if_pos hl]
    subst hz1
    by_cases hr : c < m
    · have hy1 : y = -1 := by rw [← hy]; unfold cmpZ; rw [if_pos hr]
      subst hy1
      rw [if_pos ⟨hl, hr⟩, if_pos ⟨hl, hr⟩]
      clear hz hy hl hr hm hmM ha hc hX h1 h2
      go_enter Try.func63, Try.ntmps63
      go_wp2_with (go_at_call 42; refine (HO.out _).mono ?_; rintro e w' ⟨rfl, g, rfl⟩)
      obtain ⟨b6, hb6⟩ : ∃ x, w.heap.size + 1 + g.os.length = x := ⟨_, rfl⟩
      rw [hb6]
      go_loopw [20] (fun j wr => ∃ k : Nat, k ≤ 2 ∧ j = .int .i64 (k : Int) ∧ Hid (Gr w wr ∧ Cl wr w.heap.size 0 ∧ Cl wr b6 m)) (fun j _ => ((2 : Int) - intOf j).toNat)
      case atStart =>
        subst hb6
        exact ⟨0, by decide, rfl, (by repeat (first | exact Gr.refl _ | apply Gr.drewN | apply Gr.drew | apply Gr.alloc | apply Gr.gro)), ⟨by simp [go_sem], by simp [go_sem], by simp [go_sem]⟩, ⟨by simp [go_sem], by simp [go_sem], by simp [go_sem]⟩⟩
      case round =>
        obtain ⟨k, hk, rfl, HV⟩ := hrel
        obtain ⟨G, ⟨h1, f1, p1⟩, ⟨h2, f2, p2⟩⟩ := HV.out
        have h3 : blk wr b = nw 18 X := by rw [G.blk _ hbn]; exact hb
        have p3 : Pre (b + 1) wr.heap.size := Nat.le_trans hp G.below.size
        obtain ⟨P1, P2, P3⟩ := pre_up p1
        obtain ⟨Q1, Q2, Q3⟩ := pre_up p2
        obtain ⟨R1, R2, R3⟩ := pre_up p3
        clear G hb hp
        obtain rfl | rfl | rfl : k = 0 ∨ k = 1 ∨ k = 2 := by omega
        · go_wp2_with (go_at_call 76; refine (HC0.out _).mono ?_; rintro e w' ⟨rfl, g2, rfl⟩)
          go_roundw
          case rel =>
            refine ⟨1, by decide, by go_num, ?_⟩
            obtain ⟨G, c1, c2⟩ := HV.out
            refine ⟨?_, c1.gr (by repeat (first | exact Gr.refl _ | apply Gr.drewN | apply Gr.drew | apply Gr.alloc | apply Gr.gro)), c2.gr (by repeat (first | exact Gr.refl _ | apply Gr.drewN | apply Gr.drew | apply Gr.alloc | apply Gr.gro))⟩
            repeat (first | exact G | apply Gr.drewN | apply Gr.drew | apply Gr.alloc | apply Gr.gro | (refine gr_setNew ?_ (by omega)))
          case measure => simp [intOf]
        · go_wp2_with (go_at_call 76; refine (HC1.out _).mono ?_; rintro e w' ⟨rfl, g2, rfl⟩)
          go_roundw
          case rel =>
            refine ⟨2, by decide, by go_num, ?_⟩
            obtain ⟨G, c1, c2⟩ := HV.out
            refine ⟨?_, c1.gr (by repeat (first | exact Gr.refl _ | apply Gr.drewN | apply Gr.drew | apply Gr.alloc | apply Gr.gro)), c2.gr (by repeat (first | exact Gr.refl _ | apply Gr.drewN | apply Gr.drew | apply Gr.alloc | apply Gr.gro))⟩
            repeat (first | exact G | apply Gr.drewN | apply Gr.drew | apply Gr.alloc | apply Gr.gro | (refine gr_setNew ?_ (by omega)))
          case measure => simp [intOf]
        · go_wp2_with fail
          refine bodyPost_ret (res_two Try.results63 (rd_md (x := m) (by rfl) ?_) (rd_tmp (by rfl))) rfl ⟨rfl, ?_⟩
          · simp [go_sem, *]
          · have hg := HV.out.1
            repeat (first | exact hg | apply Gr.drewN | apply Gr.drew | apply Gr.alloc | apply Gr.gro | (refine gr_setNew ?_ (by omega)))
    · have hy1 : 0 ≤ y := by rw [← hy]; unfold cmpZ; rw [if_neg hr]; split <;> omega
      rw [if_neg (fun h => hr h.2), if_neg (fun h => hr h.2)]
      clear hz hy hl hr hm hmM ha hc hX h1 h2
      go_enter Try.func63, Try.ntmps63
      go_wp2_with (go_at_call 42; refine (HO.out _).mono ?_; rintro e w' ⟨rfl, g, rfl⟩)
      obtain ⟨b6, hb6⟩ : ∃ x, w.heap.size + 1 + g.os.length = x := ⟨_, rfl⟩
      rw [hb6]
      go_loopw [20] (fun j wr => ∃ k : Nat, k ≤ 1 ∧ j = .int .i64 (k : Int) ∧ Hid (Gr w wr ∧ Cl wr w.heap.size 0 ∧ Cl wr b6 m)) (fun j _ => ((2 : Int) - intOf j).toNat)
      case atStart =>
        subst hb6
        exact ⟨0, by decide, rfl, (by repeat (first | exact Gr.refl _ | apply Gr.drewN | apply Gr.drew | apply Gr.alloc | apply Gr.gro)), ⟨by simp [go_sem], by simp [go_sem], by simp [go_sem]⟩, ⟨by simp [go_sem], by simp [go_sem], by simp [go_sem]⟩⟩
      case round =>
        obtain ⟨k, hk, rfl, HV⟩ := hrel
        obtain ⟨G, ⟨h1, f1, p1⟩, ⟨h2, f2, p2⟩⟩ := HV.out
        have h3 : blk wr b = nw 18 X := by rw [G.blk _ hbn]; exact hb
        have p3 : Pre (b + 1) wr.heap.size := Nat.le_trans hp G.below.size
        obtain ⟨P1, P2, P3⟩ := pre_up p1
        obtain ⟨Q1, Q2, Q3⟩ := pre_up p2
        obtain ⟨R1, R2, R3⟩ := pre_up p3
        clear G hb hp
        obtain rfl | rfl : k = 0 ∨ k = 1 := by omega
        · go_wp2_with (go_at_call 76; refine (HC0.out _).mono ?_; rintro e w' ⟨rfl, g2, rfl⟩)
          go_roundw
          case rel =>
            refine ⟨1, by decide, by go_num, ?_⟩
            obtain ⟨G, c1, c2⟩ := HV.out
            refine ⟨?_, c1.gr (by repeat (first | exact Gr.refl _ | apply Gr.drewN | apply Gr.drew | apply Gr.alloc | apply Gr.gro)), c2.gr (by repeat (first | exact Gr.refl _ | apply Gr.drewN | apply Gr.drew | apply Gr.alloc | apply Gr.gro))⟩
            repeat (first | exact G | apply Gr.drewN | apply Gr.drew | apply Gr.alloc | apply Gr.gro | (refine gr_setNew ?_ (by omega)))
          case measure => simp [intOf]
        · go_wp2_with (go_at_call 76; refine (HC1.out _).mono ?_; rintro e w' ⟨rfl, g2, rfl⟩)
          refine bodyPost_ret (res_two Try.results63 (rd_md (x := 0) (by rfl) ?_) (rd_tmp (by rfl))) rfl ⟨rfl, ?_⟩
          · simp [go_sem, *]
          · have hg := HV.out.1
            repeat (first | exact hg | apply Gr.drewN | apply Gr.drew | apply Gr.alloc | apply Gr.gro | (refine gr_setNew ?_ (by omega)))
  · have hz1 : 0 ≤ z := by rw [← hz]; unfold cmpZ; rw [if_neg hl]; split <;> omega
    rw [if_neg (fun h => hl h.1), if_neg (fun h => hl h.1)]
    clear hz hy hl hm hmM ha hc hX h1 h2
    go_enter Try.func63, Try.ntmps63
    go_wp2_with (go_at_call 42; refine (HO.out _).mono ?_; rintro e w' ⟨rfl, g, rfl⟩)
    obtain ⟨b6, hb6⟩ : ∃ x, w.heap.size + 1 + g.os.length = x := ⟨_, rfl⟩
    rw [hb6]
    go_loopw [20] (fun j wr => ∃ k : Nat, k ≤ 0 ∧ j = .int .i64 (k : Int) ∧ Hid (Gr w wr ∧ Cl wr w.heap.size 0 ∧ Cl wr b6 m)) (fun j _ => ((2 : Int) - intOf j).toNat)
    case atStart =>
      subst hb6
      exact ⟨0, by decide, rfl, (by repeat (first | exact Gr.refl _ | apply Gr.drewN | apply Gr.drew | apply Gr.alloc | apply Gr.gro)), ⟨by simp [go_sem], by simp [go_sem], by simp [go_sem]⟩, ⟨by simp [go_sem], by simp [go_sem], by simp [go_sem]⟩⟩
    case round =>
      obtain ⟨k, hk, rfl, HV⟩ := hrel
      obtain ⟨G, ⟨h1, f1, p1⟩, ⟨h2, f2, p2⟩⟩ := HV.out
      have h3 : blk wr b = nw 18 X := by rw [G.blk _ hbn]; exact hb
      have p3 : Pre (b + 1) wr.heap.size := Nat.le_trans hp G.below.size
      obtain ⟨P1, P2, P3⟩ := pre_up p1
      obtain ⟨Q1, Q2, Q3⟩ := pre_up p2
      obtain ⟨R1, R2, R3⟩ := pre_up p3
      clear G hb hp
      obtain rfl : k = 0 := by omega
      go_wp2_with (go_at_call 76; refine (HC0.out _).mono ?_; rintro e w' ⟨rfl, g2, rfl⟩)
      · refine bodyPost_ret (res_two Try.results63 (rd_md (x := 0) (by rfl) ?_) (rd_tmp (by rfl))) rfl ⟨rfl, ?_⟩
        · simp [go_sem, *]
        · have hg := HV.out.1
          repeat (first | exact hg | apply Gr.drewN | apply Gr.drew | apply Gr.alloc | apply Gr.gro | (refine gr_setNew ?_ (by omega)))

end Go.Proofs.Ytkmpholjlophpaa
namespace Go.Proofs.Ytkmpholjlophpaa
open Go.RowKit
def fnT (n : Nat) : Value := .func (.func n) #[] #[]
def tab2 : Array Value := #[fnT 77, fnT 78, fnT 79]
def tab1 : Array Value := #[fnT 80, fnT 81]
theorem tab2_is : #[Value.func (.func 77) #[] #[], Value.func (.func 78) #[] #[], Value.func (.func 79) #[] #[]] = tab2 := rfl
theorem tab1_is : #[Value.func (.func 80) #[] #[], Value.func (.func 81) #[] #[]] = tab1 := rfl
theorem storeT2_is (p v : Value) : Instr.storeAt 96 p v = storeS 96 p v := rfl
theorem storeT1_is (p v : Value) : Instr.storeAt 103 p v = storeS 103 p v := rfl
theorem storeT2 (w : World) (b : Nat) (hs : (blk w b).size = 3) (hf : frz w b = (0, 0)) : (storeS 96 (.pointer (some ⟨b, 0, none⟩)) (.agg tab2)).run Try.prog w = .ok () (setBlk w b tab2) :=
  storeS_run 3 (by decide) (by kernel_rfl) w b tab2 rfl (by simp [tab2, fnT, Value.oneCell']) hs hf
theorem storeT1 (w : World) (b : Nat) (hs : (blk w b).size = 2) (hf : frz w b = (0, 0)) : (storeS 103 (.pointer (some ⟨b, 0, none⟩)) (.agg tab1)).run Try.prog w = .ok () (setBlk w b tab1) :=
  storeS_run 2 (by decide) (by kernel_rfl) w b tab1 rfl (by simp [tab1, fnT, Value.oneCell']) hs hf
theorem idx2_0 (w : World) : (Instr.index 96 (.agg tab2) (.int .i64 0)).run Try.prog w = .ok (.func (.func 77) #[] #[]) w := by kernel_rfl
theorem idx2_1 (w : World) : (Instr.index 96 (.agg tab2) (.int .i64 1)).run Try.prog w = .ok (.func (.func 78) #[] #[]) w := by kernel_rfl
theorem idx2_2 (w : World) : (Instr.index 96 (.agg tab2) (.int .i64 2)).run Try.prog w = .ok (.func (.func 79) #[] #[]) w := by kernel_rfl
theorem idx1_0 (w : World) : (Instr.index 103 (.agg tab1) (.int .i64 0)).run Try.prog w = .ok (.func (.func 80) #[] #[]) w := by kernel_rfl
theorem idx1_1 (w : World) : (Instr.index 103 (.agg tab1) (.int .i64 1)).run Try.prog w = .ok (.func (.func 81) #[] #[]) w := by kernel_rfl
attribute [local go_sem ↓] loadNat_is loadArr_is loadWide_is loadArrW_is storeNat_is storeWide_is
attribute [local go_sem] loadNat loadArr loadWide loadArrW storeNat storeWide idxArr fold9 fold18 nw_size nw_elem pre_self pre_1 pre_2 pre_3 pre_4 pre_5 pre_6 pre_7 pre_8 pre_9 pre_10 pre_11 pre_12 pre_13 pre_14 pre_15 pre_16 pre_17 pre_18 pre_19 pre_20 pre_21 pre_22 pre_23 pre_24 pre_25 pre_26 pre_27 pre_28 pre_29 pre_30 pre_31 pre_32 pre_33 pre_34 pre_35 pre_36 pre_37 pre_38 pre_39 pre_40 gro_size gro_drew gro_drewN drew_gro drewN_gro gro_gro blk_gro frz_gro blk_drew frz_drew blk_drewN frz_drewN blk_alloc_at frz_alloc_at blk_alloc frz_alloc cell_gro frozen_gro cell_alloc_pre frozen_alloc_pre setCell_drewN alloc_drewN setBlk_drew setBlk_drewN setBlk_alloc_at setBlk_alloc setBlk_gro setCell_gro setCell_alloc_pre size_setBlk size_setCell
attribute [local go_sem ↓] loadDv_is load19_is storeDv_is store19_is copy_is
attribute [local go_sem] idx18 loadDv load19 storeDv store19 dv_size dv_9 dv_10 dv_e9 dv_e10 dv_elem fold11 fold19 setCell_in cell_in frozen_in frz_setBlk blk_setBlk setBlk_setBlk copy_run cpA_nw ones_nw

attribute [local go_sem ↓] storeT2_is storeT1_is
attribute [local go_sem] storeT2 storeT1 tab2_is tab1_is
set_option maxRecDepth 100000 in
set_option maxHeartbeats 400000 in
theorem ofTwo_any (w : World) :
    Calls Try.prog 64 #[] w fun e w' => e = .returned (.agg tab2) ∧ Gr w w' := by
  go_enter Try.func64, Try.ntmps64
  go_wp2
  refine bodyPost_ret (res_one Try.results64 (rd_cell (c := tab2) 3 Try.underlying96 rfl (by kernel_rfl) (by rfl) ?_ rfl)) rfl ⟨rfl, (by repeat (first | exact Gr.refl _ | apply Gr.drewN | apply Gr.drew | apply Gr.alloc | apply Gr.gro))⟩
  simp [go_sem]
set_option maxRecDepth 100000 in
set_option maxHeartbeats 400000 in
theorem ofOne_any (w : World) :
    Calls Try.prog 70 #[] w fun e w' => e = .returned (.agg tab1) ∧ Gr w w' := by
  go_enter Try.func70, Try.ntmps70
  go_wp2
  refine bodyPost_ret (res_one Try.results70 (rd_cell (c := tab1) 2 Try.underlying103 rfl (by kernel_rfl) (by rfl) ?_ rfl)) rfl ⟨rfl, (by repeat (first | exact Gr.refl _ | apply Gr.drewN | apply Gr.drew | apply Gr.alloc | apply Gr.gro))⟩
  simp [go_sem]

end Go.Proofs.Ytkmpholjlophpaa
