/-
  The documents' numbers: Sub.
-/
import Derived.Test.YtleckbdhebjfkaaZRNat
namespace Go.Proofs.Ytleckbdhebjfkaa
open Go.RowKit
attribute [local go_sem ↓] loadNat_is loadArr_is loadWide_is loadArrW_is storeNat_is storeWide_is
attribute [local go_sem] loadNat loadArr loadWide loadArrW storeNat storeWide idxArr fold9 fold18 nw_size nw_elem pre_self pre_1 pre_2 pre_3 pre_4 pre_5 pre_6 pre_7 pre_8 pre_9 pre_10 pre_11 pre_12 pre_13 pre_14 pre_15 pre_16 pre_17 pre_18 pre_19 pre_20 pre_21 pre_22 pre_23 pre_24 pre_25 pre_26 pre_27 pre_28 pre_29 pre_30 pre_31 pre_32 pre_33 pre_34 pre_35 pre_36 pre_37 pre_38 pre_39 pre_40 gro_size gro_drew gro_drewN drew_gro drewN_gro gro_gro blk_gro frz_gro blk_drew frz_drew blk_drewN frz_drewN blk_alloc_at frz_alloc_at blk_alloc frz_alloc cell_gro frozen_gro cell_alloc_pre frozen_alloc_pre setCell_drewN alloc_drewN setBlk_drew setBlk_drewN setBlk_alloc_at setBlk_alloc setBlk_gro setCell_gro setCell_alloc_pre size_setBlk size_setCell
theorem dsub_all (x y k : Nat) (hx : x < pq k) (h : y ≤ x) : dsubS x y k = x - y := by
  unfold dsubS dsubC
  rw [Nat.mod_eq_of_lt hx, Nat.mod_eq_of_lt (show y < pq k by omega), if_neg (by omega), Nat.zero_mul, Nat.add_zero]
theorem dsubC_bit (x y k s : Nat) (h : dg x k + 4294967296 - dg y k - dsubC x y k = s) : (1 : Int) - (s : Int) / 4294967296 = ((dsubC x y (k + 1) : Nat) : Int) := by
  have h1 := dg_lt x k
  have h2 := dg_lt y k
  have h3 := dsubC_le x y k
  rw [dsubC_succ]
  split <;> omega
set_option maxRecDepth 100000 in
set_option maxHeartbeats 800000 in
theorem rsub_any (x y n m : Nat) (p q : Option Addr) (w : World) (hp : Sl w p x) (hq : Sl w q y) (hx : dl x ≤ 50000) (hyx : y ≤ x) :
    Calls Try.prog 60 #[.slice p (dl x) n, .slice q (dl y) m] w (Nm (x - y) w) := by
  have cx := digits_in w p x n hp
  have cy := digits_in w q y m hq
  have lx := dl_lt x
  obtain ⟨X, hX⟩ : ∃ L, dl x = L := ⟨_, rfl⟩
  obtain ⟨Y, hY⟩ : ∃ L, dl y = L := ⟨_, rfl⟩
  rw [hX] at cx lx hx ⊢
  rw [hY] at cy ⊢
  have hmx : ∀ w, (Instr.makeSlice 31 (.int .i64 (X : Int)) (.int .i64 (X : Int))).run Try.prog w = .ok (.slice (some ⟨w.heap.size, 0, none⟩) X X) (w.alloc (.cells (nd X 0) 35)) := fun w => make_digits X (by omega) w
  have x1 : (X : Int) ≤ 50000 := by omega
  have CX : Hid (∀ (i : Int) (j : Nat) (v : World), i = (j : Int) → Gr w v → Calls Try.prog 38 #[.slice p X n, .int .i64 i] v fun e w' => e = .returned (.int .u64 ((dg x j : Nat) : Int)) ∧ w' = v) := cx
  have CY : Hid (∀ (i : Int) (j : Nat) (v : World), i = (j : Int) → Gr w v → Calls Try.prog 38 #[.slice q Y m, .int .i64 i] v fun e w' => e = .returned (.int .u64 ((dg y j : Nat) : Int)) ∧ w' = v) := cy
  have HX : Hid (Unit → x < pq X) := fun _ => lx
  have HYX : Hid (Unit → y ≤ x) := fun _ => hyx
  clear cx cy hp hq hX hY lx hyx
  go_enter Try.func60, Try.ntmps60
  go_wp2
  clear hmx
  go_loopw [6, 7] (fun c i wr => ∃ k : Nat, k ≤ X ∧ i = .int .i64 (k : Int) ∧ c = .int .u64 ((dsubC x y k : Nat) : Int) ∧ wr = w.alloc (.cells (nd X (dsubS x y k)) 35)) (fun _ i _ => X - (intOf i).toNat)
  case atStart => exact ⟨0, by omega, rfl, by rw [dsubC_zero]; rfl, by rw [dsubS_zero]⟩
  case round =>
    obtain ⟨k, hk, rfl, rfl, rfl⟩ := hrel
    by_cases hlt : k < X
    · have k0 : (0 : Int) ≤ (k : Int) := by omega
      have k1 : (k : Int) < (X : Int) := by omega
      obtain ⟨s, hs⟩ : ∃ s, dg x k + 4294967296 - dg y k - dsubC x y k = s := ⟨_, rfl⟩
      have c1 := dsubC_le x y k
      have d1 := dg_lt x k
      have e1 := dg_lt y k
      have hs' : ((dg x k : Nat) : Int) + 4294967296 - ((dg y k : Nat) : Int) - ((dsubC x y k : Nat) : Int) = (s : Int) := by omega
      have s0 : (0 : Int) ≤ (s : Int) := by omega
      have s1 : (s : Int) < 8589934592 := by omega
      have hb := dsubC_bit x y k s hs
      have hm : bits BinOp.and IntKind.u64 (s : Int) 4294967295 = ((s % 4294967296 : Nat) : Int) := Mul64.maskN s (by omega)
      have hm2 : ((s % 4294967296 : Nat) : Int) % 4294967296 = ((s % 4294967296 : Nat) : Int) := by omega
      have gV := nd_get X (dsubS x y k) k (by omega)
      have HS : Hid (Unit → dg x k + 4294967296 - dg y k - dsubC x y k = s) := fun _ => hs
      clear hs
      obtain ⟨t, ht⟩ : ∃ t, s % 4294967296 = t := ⟨_, rfl⟩
      rw [ht] at hm hm2
      have HT : Hid (Unit → s % 4294967296 = t) := fun _ => ht
      clear ht
      go_wp2_with (first
        | (go_at_call_of 38 (Value.slice p X n); refine (CX.out _ k _ ?_ ?_).mono ?_; rfl; exact (by repeat (first | exact Gr.refl _ | apply Gr.drewN | apply Gr.drew | apply Gr.alloc | apply Gr.gro)); rintro e w' ⟨rfl, rfl⟩)
        | (go_at_call 38; refine (CY.out _ k _ ?_ ?_).mono ?_; rfl; exact (by repeat (first | exact Gr.refl _ | apply Gr.drewN | apply Gr.drew | apply Gr.alloc | apply Gr.gro)); rintro e w' ⟨rfl, rfl⟩))
      go_roundw
      case rel =>
        refine ⟨k + 1, by omega, by go_num, rfl, ?_⟩
        rw [nd_set_top _ _ k t (by rw [← HT.out ()]; exact Nat.mod_lt _ (by decide)) (dsubS_lt x y k), dsubS_succ, HS.out (), HT.out ()]
      case measure => simp [intOf]; omega
    · have hkK : k = X := by omega
      have hv := dsub_all x y k (by rw [hkK]; exact HX.out ()) (HYX.out ())
      have ki : ¬ (k : Int) < (X : Int) := by omega
      rw [hv]
      obtain ⟨V, hV⟩ : ∃ V, x - y = V := ⟨_, rfl⟩
      have HQ : Hid (Unit → V < pq X) := fun _ => by rw [← hV]; exact Nat.lt_of_le_of_lt (Nat.sub_le _ _) (HX.out ())
      rw [hV]
      have HV : Hid (Unit → V = x - y) := fun _ => hV.symm
      have kb : X ≤ 100000 := by omega
      clear hv hV hlt hk hkK
      go_wp2_with (go_at_call 37; refine (trim_nd _ _ X V kb (HQ.out ()) (by simp [go_sem])).mono ?_; rintro e w' ⟨rfl, rfl⟩)
      go_ret
      exact Nm.mk (HV.out ()) (HQ.out ()) (by simp [go_sem]) (by simp [go_sem]) (by repeat (first | exact Gr.refl _ | apply Gr.drewN | apply Gr.drew | apply Gr.alloc | apply Gr.gro))

end Go.Proofs.Ytleckbdhebjfkaa
