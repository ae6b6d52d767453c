import Derived.Shelf.Bits.Mul64
import Derived.Test.YtgmaalokfgdpaaaXFSl
import Derived.Test.YtgmaalokfgdpaaaXFEJ
import Derived.Test.YtgmaalokfgdpaaaXFKr
namespace Go.Proofs.Ytgmaalokfgdpaaa
open Go.RowKit
attribute [local go_sem ↓] loadNat_is loadArr_is loadWide_is loadArrW_is storeNat_is storeWide_is
attribute [local go_sem] loadNat loadArr loadWide loadArrW storeNat storeWide idxArr fold9 fold18 nw_size nw_elem pre_self pre_1 pre_2 pre_3 pre_4 pre_5 pre_6 pre_7 pre_8 pre_9 pre_10 pre_11 pre_12 pre_13 pre_14 pre_15 pre_16 pre_17 pre_18 pre_19 pre_20 pre_21 pre_22 pre_23 pre_24 pre_25 pre_26 pre_27 pre_28 pre_29 pre_30 pre_31 pre_32 pre_33 pre_34 pre_35 pre_36 pre_37 pre_38 pre_39 pre_40 gro_size gro_drew gro_drewN drew_gro drewN_gro gro_gro blk_gro frz_gro blk_drew frz_drew blk_drewN frz_drewN blk_alloc_at frz_alloc_at blk_alloc frz_alloc cell_gro frozen_gro cell_alloc_pre frozen_alloc_pre setCell_drewN alloc_drewN setBlk_drew setBlk_drewN setBlk_alloc_at setBlk_alloc setBlk_gro setCell_gro setCell_alloc_pre size_setBlk size_setCell
theorem digits_in (w : World) (p : Option Addr) (x n : Nat) (h : Sl w p x) : ∀ (i : Int) (j : Nat) (v : World), i = (j : Int) → Gr w v → Calls Try.prog 45 #[.slice p (dl x) n, .int .i64 i] v fun e w' => e = .returned (.int .u64 ((dg x j : Nat) : Int)) ∧ w' = v := fun i j v e g => by
  subst e
  exact digit_any v p x n j (h.gr g)
theorem wd_mod (x n k : Nat) (h : k < n) : wd (x % pw n) k = wd x k := by
  obtain ⟨d, rfl⟩ : ∃ d, n = k + 1 + d := ⟨n - (k + 1), by omega⟩
  unfold wd
  rw [pw_add, pow_succ64, Nat.mul_assoc, Nat.mod_mul_right_div_self, Nat.mod_mul_right_mod]
theorem nw_mod (x n : Nat) : nw n (x % pw n) = nw n x := by
  apply Array.ext_getElem?
  intro j
  by_cases hj : j < n
  · rw [nw_get _ _ _ hj, nw_get _ _ _ hj, wd_mod x n j hj]
  · rw [Array.getElem?_eq_none (by rw [nw_size]; omega), Array.getElem?_eq_none (by rw [nw_size]; omega)]
end Go.Proofs.Ytgmaalokfgdpaaa
namespace Go.Proofs.Ytgmaalokfgdpaaa
open Go.RowKit
attribute [local go_sem ↓] loadNat_is loadArr_is loadWide_is loadArrW_is storeNat_is storeWide_is
attribute [local go_sem] loadNat loadArr loadWide loadArrW storeNat storeWide idxArr fold9 fold18 nw_size nw_elem pre_self pre_1 pre_2 pre_3 pre_4 pre_5 pre_6 pre_7 pre_8 pre_9 pre_10 pre_11 pre_12 pre_13 pre_14 pre_15 pre_16 pre_17 pre_18 pre_19 pre_20 pre_21 pre_22 pre_23 pre_24 pre_25 pre_26 pre_27 pre_28 pre_29 pre_30 pre_31 pre_32 pre_33 pre_34 pre_35 pre_36 pre_37 pre_38 pre_39 pre_40 gro_size gro_drew gro_drewN drew_gro drewN_gro gro_gro blk_gro frz_gro blk_drew frz_drew blk_drewN frz_drewN blk_alloc_at frz_alloc_at blk_alloc frz_alloc cell_gro frozen_gro cell_alloc_pre frozen_alloc_pre setCell_drewN alloc_drewN setBlk_drew setBlk_drewN setBlk_alloc_at setBlk_alloc setBlk_gro setCell_gro setCell_alloc_pre size_setBlk size_setCell
theorem dg_i (x k : Nat) : ((dg x k : Nat) : Int) % 4294967296 = ((dg x k : Nat) : Int) := by have := dg_lt x k; omega
theorem mask_wd (a k : Nat) : bits BinOp.and IntKind.u64 ((wd a k : Nat) : Int) 4294967295 = ((dg a (2 * k) : Nat) : Int) := by
  rw [Mul64.maskN _ (wd_lt a k), dg_even]
theorem half_wd (a k : Nat) : ((wd a k : Nat) : Int) / 4294967296 = ((dg a (2 * k + 1) : Nat) : Int) := by
  rw [dg_odd]; omega
theorem pq_M : pq 18 = M := pq_two 9
set_option maxRecDepth 100000 in
set_option maxHeartbeats 800000 in
theorem from_any (a : Nat) (ha : a < M) (w : World) : Calls Try.prog 20 #[.agg (nw 9 a)] w (Nm a w) := by
  have hmk : ∀ w, (Instr.makeSlice 34 (.int .i64 18) (.int .i64 18)).run Try.prog w = .ok (.slice (some ⟨w.heap.size, 0, none⟩) 18 18) (w.alloc (.cells (nd 18 0) 55)) := fun w => make_digits 18 (by decide) w
  have HA : Hid (Unit → a < M) := fun _ => ha
  clear ha
  go_enter Try.func20, Try.ntmps20
  go_wp2
  clear hmk
  go_loopw [4] (fun i wr => ∃ k : Nat, k ≤ 9 ∧ i = .int .i64 (k : Int) ∧ wr = (w.alloc (.cells (nw 9 a) 25)).alloc (.cells (nd 18 (a % pq (2 * k))) 55)) (fun i _ => 9 - (intOf i).toNat)
  case atStart => exact ⟨0, by omega, rfl, by rw [Nat.mul_zero, pq_zero, Nat.mod_one]⟩
  case round =>
    obtain ⟨k, hk, rfl, rfl⟩ := hrel
    by_cases hlt : k < 9
    · have k0 : (0 : Int) ≤ (k : Int) := by omega
      have k1 : (k : Int) < 9 := by omega
      have ga := nw_get 9 a k hlt
      have m1 := mask_wd a k
      have m2 := half_wd a k
      have m3 := dg_i a (2 * k)
      have m4 := dg_i a (2 * k + 1)
      have s1 := nd_next 18 a (2 * k)
      have s2 := nd_next 18 a (2 * k + 1)
      obtain ⟨V, hV⟩ : ∃ V, a % pq (2 * k) = V := ⟨_, rfl⟩
      obtain ⟨V1, hV1⟩ : ∃ V, a % pq (2 * k + 1) = V := ⟨_, rfl⟩
      obtain ⟨V2, hV2⟩ : ∃ V, a % pq (2 * k + 1 + 1) = V := ⟨_, rfl⟩
      rw [hV, hV1] at s1
      rw [hV1, hV2] at s2
      rw [hV]
      have gV := nd_get 18 V (2 * k) (by omega)
      have gV1 := nd_get 18 V1 (2 * k + 1) (by omega)
      have HV : Hid (Unit → V2 = a % pq (2 * (k + 1))) := fun _ => hV2.symm
      clear hV hV1 hV2
      go_wp2
      go_roundw
      case rel => exact ⟨k + 1, by omega, by go_num, by rw [← HV.out ()]⟩
      case measure => simp [intOf]; omega
    · have hk9 : Hid (Unit → k = 9) := fun _ => by omega
      obtain ⟨V, hV⟩ : ∃ V, a % pq (2 * k) = V := ⟨_, rfl⟩
      have HV : Hid (Unit → V = a) := fun _ => by rw [← hV, hk9.out (), pq_M, Nat.mod_eq_of_lt (HA.out ())]
      have ki : ¬ (k : Int) < 9 := by omega
      rw [hV]
      clear hV hlt hk
      have hVq : V < pq 18 := by rw [HV.out (), pq_M]; exact HA.out ()
      have HQ : Hid (Unit → V < pq 18) := fun _ => hVq
      clear hVq
      go_wp2_with (go_at_call 44; refine (trim_nd _ _ 18 V (by decide) (HQ.out ()) (by simp [go_sem])).mono ?_; rintro e w' ⟨rfl, rfl⟩)
      go_ret
      exact Nm.mk (HV.out ()) (HQ.out ()) (by simp [go_sem]) (by simp [go_sem]) (by repeat (first | exact Gr.refl _ | apply Gr.drewN | apply Gr.drew | apply Gr.alloc | apply Gr.gro))

end Go.Proofs.Ytgmaalokfgdpaaa
namespace Go.Proofs.Ytgmaalokfgdpaaa
open Go.RowKit
attribute [local go_sem ↓] loadNat_is loadArr_is loadWide_is loadArrW_is storeNat_is storeWide_is
attribute [local go_sem] loadNat loadArr loadWide loadArrW storeNat storeWide idxArr fold9 fold18 nw_size nw_elem pre_self pre_1 pre_2 pre_3 pre_4 pre_5 pre_6 pre_7 pre_8 pre_9 pre_10 pre_11 pre_12 pre_13 pre_14 pre_15 pre_16 pre_17 pre_18 pre_19 pre_20 pre_21 pre_22 pre_23 pre_24 pre_25 pre_26 pre_27 pre_28 pre_29 pre_30 pre_31 pre_32 pre_33 pre_34 pre_35 pre_36 pre_37 pre_38 pre_39 pre_40 gro_size gro_drew gro_drewN drew_gro drewN_gro gro_gro blk_gro frz_gro blk_drew frz_drew blk_drewN frz_drewN blk_alloc_at frz_alloc_at blk_alloc frz_alloc cell_gro frozen_gro cell_alloc_pre frozen_alloc_pre setCell_drewN alloc_drewN setBlk_drew setBlk_drewN setBlk_alloc_at setBlk_alloc setBlk_gro setCell_gro setCell_alloc_pre size_setBlk size_setCell
/-- A slice of one digit that is made. -/
def bslS (t : TypeId) (n : Nat) (p : Array (Nat × Value)) : Sem Value := Instr.buildSlice t n p
theorem bsl_is (n : Nat) (p : Array (Nat × Value)) : Instr.buildSlice 34 n p = bslS 34 n p := rfl
end Go.Proofs.Ytgmaalokfgdpaaa
namespace Go.Proofs.Ytgmaalokfgdpaaa
open Go.RowKit
attribute [local go_sem ↓] loadNat_is loadArr_is loadWide_is loadArrW_is storeNat_is storeWide_is
attribute [local go_sem] loadNat loadArr loadWide loadArrW storeNat storeWide idxArr fold9 fold18 nw_size nw_elem pre_self pre_1 pre_2 pre_3 pre_4 pre_5 pre_6 pre_7 pre_8 pre_9 pre_10 pre_11 pre_12 pre_13 pre_14 pre_15 pre_16 pre_17 pre_18 pre_19 pre_20 pre_21 pre_22 pre_23 pre_24 pre_25 pre_26 pre_27 pre_28 pre_29 pre_30 pre_31 pre_32 pre_33 pre_34 pre_35 pre_36 pre_37 pre_38 pre_39 pre_40 gro_size gro_drew gro_drewN drew_gro drewN_gro gro_gro blk_gro frz_gro blk_drew frz_drew blk_drewN frz_drewN blk_alloc_at frz_alloc_at blk_alloc frz_alloc cell_gro frozen_gro cell_alloc_pre frozen_alloc_pre setCell_drewN alloc_drewN setBlk_drew setBlk_drewN setBlk_alloc_at setBlk_alloc setBlk_gro setCell_gro setCell_alloc_pre size_setBlk size_setCell
theorem dadd_all (x y k : Nat) (hx : x < pq k) (hy : y < pq k) : daddS x y k + daddC x y k * pq k = x + y := by
  unfold daddS daddC
  rw [Nat.mod_eq_of_lt hx, Nat.mod_eq_of_lt hy, Nat.mul_comm, Nat.add_comm]
  exact Nat.div_add_mod (x + y) (pq k)
theorem dadd_lt (x y k : Nat) (hx : x < pq k) (hy : y < pq k) : x + y < pq (k + 1) := by
  rw [pq_succ]
  omega
set_option maxRecDepth 100000 in
set_option maxHeartbeats 800000 in
theorem radd_any (x y n m : Nat) (p q : Option Addr) (w : World) (hp : Sl w p x) (hq : Sl w q y) (hx : dl x ≤ 50000) (hy : dl y ≤ 50000) :
    Calls Try.prog 30 #[.slice p (dl x) n, .slice q (dl y) m] w (Nm (x + y) w) := by
  have cx := digits_in w p x n hp
  have cy := digits_in w q y m hq
  have lx := dl_lt x
  have ly := dl_lt y
  obtain ⟨X, hX⟩ : ∃ L, dl x = L := ⟨_, rfl⟩
  obtain ⟨Y, hY⟩ : ∃ L, dl y = L := ⟨_, rfl⟩
  rw [hX] at cx lx hx ⊢
  rw [hY] at cy ly hy ⊢
  have hmx : ∀ w, (Instr.makeSlice 34 (.int .i64 ((X : Int) + 1)) (.int .i64 ((X : Int) + 1))).run Try.prog w = .ok (.slice (some ⟨w.heap.size, 0, none⟩) (X + 1) (X + 1)) (w.alloc (.cells (nd (X + 1) 0) 55)) := fun w => make_digits (X + 1) (by omega) w
  have hmy : ∀ w, (Instr.makeSlice 34 (.int .i64 ((Y : Int) + 1)) (.int .i64 ((Y : Int) + 1))).run Try.prog w = .ok (.slice (some ⟨w.heap.size, 0, none⟩) (Y + 1) (Y + 1)) (w.alloc (.cells (nd (Y + 1) 0) 55)) := fun w => make_digits (Y + 1) (by omega) w
  have x1 : (X : Int) ≤ 50000 := by omega
  have y1 : (Y : Int) ≤ 50000 := by omega
  have CX : Hid (∀ (i : Int) (j : Nat) (v : World), i = (j : Int) → Gr w v → Calls Try.prog 45 #[.slice p X n, .int .i64 i] v fun e w' => e = .returned (.int .u64 ((dg x j : Nat) : Int)) ∧ w' = v) := cx
  have CY : Hid (∀ (i : Int) (j : Nat) (v : World), i = (j : Int) → Gr w v → Calls Try.prog 45 #[.slice q Y m, .int .i64 i] v fun e w' => e = .returned (.int .u64 ((dg y j : Nat) : Int)) ∧ w' = v) := cy
  have HX : Hid (Unit → x < pq X) := fun _ => lx
  have HY : Hid (Unit → y < pq Y) := fun _ => ly
  clear cx cy hp hq hX hY lx ly
  go_enter Try.func30, Try.ntmps30
  go_wp2
  · have HX1 : Hid (Unit → x < pq Y) := fun _ => Nat.lt_of_lt_of_le (HX.out ()) (pq_mono X Y (by omega))
    have HY1 := HY
    go_loopw [7, 8] (fun c i wr => ∃ k : Nat, k ≤ Y ∧ i = .int .i64 (k : Int) ∧ c = .int .u64 ((daddC x y k : Nat) : Int) ∧ wr = w.alloc (.cells (nd (Y + 1) (daddS x y k)) 55)) (fun _ i _ => Y - (intOf i).toNat)
    case atStart => exact ⟨0, by omega, rfl, by rw [daddC_zero]; rfl, by rw [daddS_zero]⟩
    case round =>
      obtain ⟨k, hk, rfl, rfl, rfl⟩ := hrel
      by_cases hlt : k < Y
      · have k0 : (0 : Int) ≤ (k : Int) := by omega
        have k1 : (k : Int) < (Y : Int) := by omega
        obtain ⟨s, hs⟩ : ∃ s, dg x k + dg y k + daddC x y k = s := ⟨_, rfl⟩
        have c1 := daddC_le x y k
        have d1 := dg_lt x k
        have e1 := dg_lt y k
        have hs' : ((dg x k : Nat) : Int) + ((dg y k : Nat) : Int) + ((daddC x y k : Nat) : Int) = (s : Int) := by omega
        have s0 : (0 : Int) ≤ (s : Int) := by omega
        have s1 : (s : Int) < 18446744073709551616 := by omega
        have hm : bits BinOp.and IntKind.u64 (s : Int) 4294967295 = ((s % 4294967296 : Nat) : Int) := Mul64.maskN s (by omega)
        have hm2 : ((s % 4294967296 : Nat) : Int) % 4294967296 = ((s % 4294967296 : Nat) : Int) := by omega
        have gV := nd_get (Y + 1) (daddS x y k) k (by omega)
        have HS : Hid (Unit → dg x k + dg y k + daddC x y k = s) := fun _ => hs
        clear hs c1 d1 e1
        obtain ⟨t, ht⟩ : ∃ t, s % 4294967296 = t := ⟨_, rfl⟩
        rw [ht] at hm hm2
        have HT : Hid (Unit → s % 4294967296 = t) := fun _ => ht
        clear ht
        go_wp2_with (first
          | (go_at_call_of 45 (Value.slice p X n); refine (CX.out _ k _ ?_ ?_).mono ?_; rfl; exact (by repeat (first | exact Gr.refl _ | apply Gr.drewN | apply Gr.drew | apply Gr.alloc | apply Gr.gro)); rintro e w' ⟨rfl, rfl⟩)
          | (go_at_call 45; refine (CY.out _ k _ ?_ ?_).mono ?_; rfl; exact (by repeat (first | exact Gr.refl _ | apply Gr.drewN | apply Gr.drew | apply Gr.alloc | apply Gr.gro)); rintro e w' ⟨rfl, rfl⟩))
        go_roundw
        case rel =>
          refine ⟨k + 1, by omega, by go_num, ?_, ?_⟩
          · exact congrArg (Value.int .u64) (by rw [daddC_succ, HS.out ()]; omega)
          · rw [nd_set_top _ _ k t (by rw [← HT.out ()]; exact Nat.mod_lt _ (by decide)) (daddS_lt x y k), daddS_succ, HS.out (), HT.out ()]
        case measure => simp [intOf]; omega
      · have hkK : k = Y := by omega
        have c1 := daddC_le x y k
        have hv := dadd_all x y k (by rw [hkK]; exact HX1.out ()) (by rw [hkK]; exact HY1.out ())
        have ki : ¬ (k : Int) < (Y : Int) := by omega
        have hset := nd_set_top (Y + 1) (daddS x y k) k (daddC x y k) (by omega) (daddS_lt x y k)
        rw [hv] at hset
        obtain ⟨V, hV⟩ : ∃ V, daddS x y k = V := ⟨_, rfl⟩
        obtain ⟨c, hc⟩ : ∃ c, daddC x y k = c := ⟨_, rfl⟩
        rw [hV] at hset ⊢
        rw [hc] at hset c1 ⊢
        have hcm : (c : Int) % 4294967296 = (c : Int) := by omega
        have gV := nd_get (Y + 1) V Y (by omega)
        rw [hkK] at hset
        have HQ : Hid (Unit → x + y < pq (Y + 1)) := fun _ => dadd_lt x y Y (HX1.out ()) (HY1.out ())
        have kb : Y + 1 ≤ 100000 := by omega
        clear hv hV hc hlt hk
        go_wp2_with (go_at_call 44; refine (trim_nd _ _ (Y + 1) (x + y) kb (HQ.out ()) (by simp [go_sem])).mono ?_; rintro e w' ⟨rfl, rfl⟩)
        go_ret
        exact Nm.mk rfl (HQ.out ()) (by simp [go_sem]) (by simp [go_sem]) (by repeat (first | exact Gr.refl _ | apply Gr.drewN | apply Gr.drew | apply Gr.alloc | apply Gr.gro))
  · have HX1 := HX
    have HY1 : Hid (Unit → y < pq X) := fun _ => Nat.lt_of_lt_of_le (HY.out ()) (pq_mono Y X (by omega))
    go_loopw [7, 8] (fun c i wr => ∃ k : Nat, k ≤ X ∧ i = .int .i64 (k : Int) ∧ c = .int .u64 ((daddC x y k : Nat) : Int) ∧ wr = w.alloc (.cells (nd (X + 1) (daddS x y k)) 55)) (fun _ i _ => X - (intOf i).toNat)
    case atStart => exact ⟨0, by omega, rfl, by rw [daddC_zero]; rfl, by rw [daddS_zero]⟩
    case round =>
      obtain ⟨k, hk, rfl, rfl, rfl⟩ := hrel
      by_cases hlt : k < X
      · have k0 : (0 : Int) ≤ (k : Int) := by omega
        have k1 : (k : Int) < (X : Int) := by omega
        obtain ⟨s, hs⟩ : ∃ s, dg x k + dg y k + daddC x y k = s := ⟨_, rfl⟩
        have c1 := daddC_le x y k
        have d1 := dg_lt x k
        have e1 := dg_lt y k
        have hs' : ((dg x k : Nat) : Int) + ((dg y k : Nat) : Int) + ((daddC x y k : Nat) : Int) = (s : Int) := by omega
        have s0 : (0 : Int) ≤ (s : Int) := by omega
        have s1 : (s : Int) < 18446744073709551616 := by omega
        have hm : bits BinOp.and IntKind.u64 (s : Int) 4294967295 = ((s % 4294967296 : Nat) : Int) := Mul64.maskN s (by omega)
        have hm2 : ((s % 4294967296 : Nat) : Int) % 4294967296 = ((s % 4294967296 : Nat) : Int) := by omega
        have gV := nd_get (X + 1) (daddS x y k) k (by omega)
        have HS : Hid (Unit → dg x k + dg y k + daddC x y k = s) := fun _ => hs
        clear hs c1 d1 e1
        obtain ⟨t, ht⟩ : ∃ t, s % 4294967296 = t := ⟨_, rfl⟩
        rw [ht] at hm hm2
        have HT : Hid (Unit → s % 4294967296 = t) := fun _ => ht
        clear ht
        go_wp2_with (first
          | (go_at_call_of 45 (Value.slice p X n); refine (CX.out _ k _ ?_ ?_).mono ?_; rfl; exact (by repeat (first | exact Gr.refl _ | apply Gr.drewN | apply Gr.drew | apply Gr.alloc | apply Gr.gro)); rintro e w' ⟨rfl, rfl⟩)
          | (go_at_call 45; refine (CY.out _ k _ ?_ ?_).mono ?_; rfl; exact (by repeat (first | exact Gr.refl _ | apply Gr.drewN | apply Gr.drew | apply Gr.alloc | apply Gr.gro)); rintro e w' ⟨rfl, rfl⟩))
        go_roundw
        case rel =>
          refine ⟨k + 1, by omega, by go_num, ?_, ?_⟩
          · exact congrArg (Value.int .u64) (by rw [daddC_succ, HS.out ()]; omega)
          · rw [nd_set_top _ _ k t (by rw [← HT.out ()]; exact Nat.mod_lt _ (by decide)) (daddS_lt x y k), daddS_succ, HS.out (), HT.out ()]
        case measure => simp [intOf]; omega
      · have hkK : k = X := by omega
        have c1 := daddC_le x y k
        have hv := dadd_all x y k (by rw [hkK]; exact HX1.out ()) (by rw [hkK]; exact HY1.out ())
        have ki : ¬ (k : Int) < (X : Int) := by omega
        have hset := nd_set_top (X + 1) (daddS x y k) k (daddC x y k) (by omega) (daddS_lt x y k)
        rw [hv] at hset
        obtain ⟨V, hV⟩ : ∃ V, daddS x y k = V := ⟨_, rfl⟩
        obtain ⟨c, hc⟩ : ∃ c, daddC x y k = c := ⟨_, rfl⟩
        rw [hV] at hset ⊢
        rw [hc] at hset c1 ⊢
        have hcm : (c : Int) % 4294967296 = (c : Int) := by omega
        have gV := nd_get (X + 1) V X (by omega)
        rw [hkK] at hset
        have HQ : Hid (Unit → x + y < pq (X + 1)) := fun _ => dadd_lt x y X (HX1.out ()) (HY1.out ())
        have kb : X + 1 ≤ 100000 := by omega
        clear hv hV hc hlt hk
        go_wp2_with (go_at_call 44; refine (trim_nd _ _ (X + 1) (x + y) kb (HQ.out ()) (by simp [go_sem])).mono ?_; rintro e w' ⟨rfl, rfl⟩)
        go_ret
        exact Nm.mk rfl (HQ.out ()) (by simp [go_sem]) (by simp [go_sem]) (by repeat (first | exact Gr.refl _ | apply Gr.drewN | apply Gr.drew | apply Gr.alloc | apply Gr.gro))

end Go.Proofs.Ytgmaalokfgdpaaa
