/-
  The statement Monts, walked: the second number is not below the modulus.
-/
/-
  The statement Monts, walked: the first number has no inverse.
-/
import Derived.Test.YtleckbdhebjfkaaZMtW
import Derived.Test.YtleckbdhebjfkaaZMtE
namespace Go.Proofs.Ytleckbdhebjfkaa
open Go.RowKit
attribute [local go_sem ↓] loadNat_is loadArr_is loadWide_is loadArrW_is storeNat_is storeWide_is
attribute [local go_sem] loadNat loadArr loadWide loadArrW storeNat storeWide idxArr fold9 fold18 nw_size nw_elem pre_self pre_1 pre_2 pre_3 pre_4 pre_5 pre_6 pre_7 pre_8 pre_9 pre_10 pre_11 pre_12 pre_13 pre_14 pre_15 pre_16 pre_17 pre_18 pre_19 pre_20 pre_21 pre_22 pre_23 pre_24 pre_25 pre_26 pre_27 pre_28 pre_29 pre_30 pre_31 pre_32 pre_33 pre_34 pre_35 pre_36 pre_37 pre_38 pre_39 pre_40 gro_size gro_drew gro_drewN drew_gro drewN_gro gro_gro blk_gro frz_gro blk_drew frz_drew blk_drewN frz_drewN blk_alloc_at frz_alloc_at blk_alloc frz_alloc cell_gro frozen_gro cell_alloc_pre frozen_alloc_pre setCell_drewN alloc_drewN setBlk_drew setBlk_drewN setBlk_alloc_at setBlk_alloc setBlk_gro setCell_gro setCell_alloc_pre size_setBlk size_setCell
attribute [local go_sem] nw_ext9 nw_ext18 eqArr9 eqArr18

attribute [local go_sem] loadNat2 loadArr2 loadWide2 loadK_nw ppre_1 ppre_2 ppre_3 ppre_4 ppre_5 ppre_6 ppre_7 ppre_8 ppre_9 ppre_10 ppre_11 ppre_12 ppre_13 ppre_14 ppre_15 ppre_16 ppre_17 ppre_18 ppre_19 ppre_20

attribute [local go_sem ↓] Go.wp_at_zero Go.wp_at_succ bsl_is
attribute [local go_sem] eqN_self frz_setBlk blk_setBlk setBlk_setBlk blk_other
set_option maxRecDepth 100000 in
set_option maxHeartbeats 8000000 in
theorem monts_bgreat (m a b0 : Nat) (hmM : m < M) (haM : a < M) (hb0M : b0 < M) (h2 : m % 2 = 1) (h3 : 3 ≤ m) (ha : a < m) (hb : ¬ b0 < m) (w : World) :
    Calls Try.prog 3 #[.agg (nw 9 m), .agg (nw 9 a), .agg (nw 9 b0)] w fun e w' => e = .returned (.bool true) ∧ Gr w w' := by
  have h3' : 1 < m := by omega
  have hm0 : 0 < m := by omega
  obtain ⟨k1, k9, hlt⟩ := kw_facts m hm0 hmM
  obtain ⟨u, ho, HN0⟩ := New_ok m h2 h3 hmM
  obtain ⟨k, hk⟩ : ∃ k, kw m = k := ⟨_, rfl⟩
  rw [hk] at ho HN0 k1 k9 hlt
  obtain ⟨q0, hq0⟩ : ∃ q, bl m = q := ⟨_, rfl⟩
  have q9 : q0 ≤ 576 := by rw [← hq0]; exact bl_pwk m 9 hmM
  have hkq : k = (q0 + 63) / 64 := by rw [← hk, ← hq0]; rfl
  obtain ⟨e0, he0⟩ : ∃ e, q0 + 63 = e := ⟨_, rfl⟩
  have s1 : (q0 : Int) + 63 = (e0 : Int) := by omega
  have s2 : (e0 : Int).tdiv 64 = (k : Int) := by rw [Int.tdiv_eq_ediv_of_nonneg (by omega)]; omega
  have s3 : (e0 : Int) / 64 = (k : Int) := by omega
  have q00 : (0 : Int) ≤ (q0 : Int) := by omega
  have q10 : (q0 : Int) ≤ 576 := by omega
  have k00 : (0 : Int) ≤ (k : Int) := by omega
  have k90 : (k : Int) ≤ 9 := by omega
  have FM : Hid (∀ w, Calls Try.prog 9 #[.agg (nw 9 m)] w (Nm m w)) := fun w => from_any m hmM w
  have FA : Hid (∀ w, Calls Try.prog 9 #[.agg (nw 9 a)] w (Nm a w)) := fun w => from_any a haM w
  have FB0 : Hid (∀ w, Calls Try.prog 9 #[.agg (nw 9 b0)] w (Nm b0 w)) := fun w => from_any b0 hb0M w
  have HBit : Hid (∀ w' p' n', Sl w' p' m → Calls Try.prog 10 #[.slice p' (dl m) n', .int .i64 0] w' fun e w'' => e = .returned (.int .i64 1) ∧ Gr w' w'') := fun w' p' n' h => (rbit_any m n' 0 p' w' h (by decide)).mono fun e w'' h1 => ⟨by rw [h1.1]; unfold bitN; rw [Nat.pow_zero, Nat.div_one, h2]; rfl, by rw [h1.2]; exact Gr.refl _⟩
  obtain ⟨c3, hc3⟩ : ∃ z, cmpZ m 3 = z := ⟨_, rfl⟩
  have HC3 : Hid (∀ w' p' n' q' k', Sl w' p' m → Sl w' q' 3 → Calls Try.prog 11 #[.slice p' (dl m) n', .slice q' 1 k'] w' fun e w'' => e = .returned (.int .i64 c3) ∧ Gr w' w'') := fun w' p' n' q' k' h h' => hc3 ▸ rcmp_any m 3 n' k' p' q' w' h h' (by have := dl_M m hmM; omega) (by decide)
  have hb3 : ∀ w, (bslS 31 1 #[(0, .int .u32 3)]).run Try.prog w = .ok (.slice (some ⟨w.heap.size, 0, none⟩) 1 1) (w.alloc (.cells (nd 1 3) 35)) := fun w => build1 3 (by decide) w
  have c30 : 0 ≤ c3 := by rw [← hc3]; unfold cmpZ; rw [if_neg (by omega)]; split <;> decide
  have HBits : Hid (∀ w' p' n', Sl w' p' m → Calls Try.prog 14 #[.slice p' (dl m) n'] w' fun e w'' => e = .returned (.int .i64 (q0 : Int)) ∧ Gr w' w'') := fun w' p' n' h => (rbits_any m n' p' w' h (by have := dl_M m hmM; omega)).mono fun e w'' h1 => ⟨by rw [h1.1, hq0], by rw [h1.2]; exact Gr.refl _⟩
  obtain ⟨c1, hc1⟩ : ∃ z, cmpZ a m = z := ⟨_, rfl⟩
  have HCa : Hid (∀ w' p' n' q' k', Sl w' p' a → Sl w' q' m → Calls Try.prog 11 #[.slice p' (dl a) n', .slice q' (dl m) k'] w' fun e w'' => e = .returned (.int .i64 c1) ∧ Gr w' w'') := fun w' p' n' q' k' h h' => hc1 ▸ rcmp_any a m n' k' p' q' w' h h' (by have := dl_M a haM; omega) (by have := dl_M m hmM; omega)
  have c10 : c1 < 0 := by rw [← hc1]; unfold cmpZ; rw [if_pos ha]; decide
  obtain ⟨P, hP⟩ : ∃ P, pw k = P := ⟨_, rfl⟩
  obtain ⟨R, hR⟩ : ∃ R, P % m = R := ⟨_, rfl⟩
  have hRm : R < m := by rw [← hR]; exact Nat.mod_lt _ hm0
  have hRM : R < M := by omega
  have hum := ho.ul
  have huM : u < M := by omega
  have hPd : dl P ≤ 400 := by rw [← hP]; exact dl_pw k (by omega)
  obtain ⟨k6, hk6⟩ : ∃ k6, 64 * k = k6 := ⟨_, rfl⟩
  have hk6i : (64 : Int) * (k : Int) = (k6 : Int) := by omega
  have hk6w : IntKind.i64.wrap ((64 : Int) * (k : Int)) = (k6 : Int) := by rw [IntKind.wrap_i64]; omega
  have hP6 : 1 * 2 ^ k6 = P := by rw [← hP, ← hk6, Nat.one_mul]; rfl
  have hb1 : ∀ w, (bslS 31 1 #[(0, .int .u32 1)]).run Try.prog w = .ok (.slice (some ⟨w.heap.size, 0, none⟩) 1 1) (w.alloc (.cells (nd 1 1) 35)) := fun w => build1 1 (by decide) w
  have HSh : Hid (∀ w' p' n', Sl w' p' 1 → Calls Try.prog 21 #[.slice p' 1 n', .int .i64 (k6 : Int)] w' (Nm P w')) := fun w' p' n' h => hP6 ▸ rshl_any 1 n' k6 p' w' h (by decide) (by omega)
  have HMd : Hid (∀ w' p' n' q' k', Sl w' p' P → Sl w' q' m → Calls Try.prog 20 #[.slice p' (dl P) n', .slice q' (dl m) k'] w' (Nm R w')) := fun w' p' n' q' k' h h' => hR ▸ rmod_any P m n' k' p' q' w' h h' (by omega) (by have := dl_M m hmM; omega) hm0
  have hRu : R * u % m = 1 := by rw [← hR, ← hP, mod_mul1]; exact ho.inv
  have HIu : Hid (∀ w' p' n' q' k', Sl w' p' R → Sl w' q' m → Calls Try.prog 22 #[.slice p' (dl R) n', .slice q' (dl m) k'] w' (NtM u w')) := fun w' p' n' q' k' h h' => rinv_is R m u n' k' p' q' w' h h' (by have := dl_M R hRM; omega) (by have := dl_M m hmM; omega) h3' hum hRu
  obtain ⟨t, ht⟩ : ∃ t, a * pw k % m = t := ⟨_, rfl⟩
  obtain ⟨fr, hfr⟩ : ∃ f, a * u % m = f := ⟨_, rfl⟩
  have htR : a * R % m = t := by rw [← ht, ← hR, ← hP, mod_mul2]
  have MMt : Hid (∀ w' p' n' q' k' r' j', Sl w' p' a → Sl w' q' R → Sl w' r' m → Calls Try.prog 24 #[.slice p' (dl a) n', .slice q' (dl R) k', .slice r' (dl m) j'] w' (Nm t w')) := fun w' p' n' q' k' r' j' h h' h'' => htR ▸ rmulmod_any a R m n' k' j' p' q' r' w' h h' h'' (by have := dl_M a haM; omega) (by have := dl_M R hRM; omega) (by have := dl_M m hmM; omega) (by omega)
  have MMf : Hid (∀ w' p' n' q' k' r' j', Sl w' p' a → Sl w' q' u → Sl w' r' m → Calls Try.prog 24 #[.slice p' (dl a) n', .slice q' (dl u) k', .slice r' (dl m) j'] w' (Nm fr w')) := fun w' p' n' q' k' r' j' h h' h'' => hfr ▸ rmulmod_any a u m n' k' j' p' q' r' w' h h' h'' (by have := dl_M a haM; omega) (by have := dl_M u huM; omega) (by have := dl_M m hmM; omega) (by omega)
  have NTt : Hid (∀ w' p' n', Sl w' p' t → Calls Try.prog 23 #[.slice p' (dl t) n'] w' fun e w'' => e = .returned (.agg (nw 9 t)) ∧ Gr w' w'') := fun w' p' n' h => rnat_any t n' p' w' h
  have NTf : Hid (∀ w' p' n', Sl w' p' fr → Calls Try.prog 23 #[.slice p' (dl fr) n'] w' fun e w'' => e = .returned (.agg (nw 9 fr)) ∧ Gr w' w'') := fun w' p' n' h => rnat_any fr n' p' w' h
  obtain ⟨c2, hc2⟩ : ∃ z, cmpZ b0 m = z := ⟨_, rfl⟩
  have HCb : Hid (∀ w' p' n' q' k', Sl w' p' b0 → Sl w' q' m → Calls Try.prog 11 #[.slice p' (dl b0) n', .slice q' (dl m) k'] w' fun e w'' => e = .returned (.int .i64 c2) ∧ Gr w' w'') := fun w' p' n' q' k' h h' => hc2 ▸ rcmp_any b0 m n' k' p' q' w' h h' (by have := dl_M b0 hb0M; omega) (by have := dl_M m hmM; omega)
  have c20 : 0 ≤ c2 := by rw [← hc2]; unfold cmpZ; rw [if_neg hb]; split <;> decide
  obtain ⟨xi, ei, HI0⟩ := inv_either m k u a haM ha hmM h3'
  have W1 : Hid (∀ (b : Nat) w', Mn w' b m k u → Calls Try.prog 19 #[.pointer (some ⟨b, 0, none⟩)] w' fun e w'' => e = .returned (.int .i64 (k : Int)) ∧ Gr w' w'') := fun b w' h => Words_any b m k u w' h
  have T1 : Hid (∀ (b : Nat) w', Mn w' b m k u → Calls Try.prog 15 #[.pointer (some ⟨b, 0, none⟩), .agg (nw 9 a)] w' fun e w'' => e = .returned (.tuple #[.agg (nw 9 t), .int .i64 0]) ∧ Gr w' w'') := fun b w' h => ht ▸ To_ok b m k u a w' h ha
  have F1 : Hid (∀ (b : Nat) w', Mn w' b m k u → Calls Try.prog 16 #[.pointer (some ⟨b, 0, none⟩), .agg (nw 9 a)] w' fun e w'' => e = .returned (.tuple #[.agg (nw 9 fr), .int .i64 0]) ∧ Gr w' w'') := fun b w' h => hfr ▸ From_ok b m k u a w' h ha
  have M1 : Hid (∀ (b : Nat) w', Mn w' b m k u → Calls Try.prog 17 #[.pointer (some ⟨b, 0, none⟩), .agg (nw 9 a), .agg (nw 9 b0)] w' fun e w'' => e = .returned (.tuple #[.agg (nw 9 0), .int .i64 601]) ∧ Gr w' w'') := fun b w' h => Mul_no b m k u a b0 w' h haM hb0M (fun h => hb h.2)
  have I1 : Hid (∀ (b : Nat) w', Mn w' b m k u → Calls Try.prog 18 #[.pointer (some ⟨b, 0, none⟩), .agg (nw 9 a)] w' fun e w'' => e = .returned (.tuple #[.agg (nw 9 xi), .int .i64 ei]) ∧ Gr w' w'') := fun b w' h => HI0 b w' h
  have HN : Hid (∀ w, Calls Try.prog 8 #[.agg (nw 9 m)] w fun e w' => ∃ b, e = .returned (.tuple #[.pointer (some ⟨b, 0, none⟩), .int .i64 0]) ∧ Mn w' b m k u ∧ Gr w w') := HN0
  clear HN0 hc1 hc3 he0 hkq q9 hq0 hk k1 k9 hlt h2 h3 h3' hm0 hc2 htR ht hfr hRu hP6 hk6 hPd huM hum hRM hRm hR hP HI0 ho ha haM hb0M hmM hb
  go_enter Try.func3, Try.ntmps3
  go_upto_region 1 with fail
  refine gen_w (fun v => Hid (Gr w v ∧ Cl v (w.heap.size) m ∧ Cl v (w.heap.size + 1) a ∧ Cl v (w.heap.size + 1 + 1) b0)) ⟨(by repeat (first | exact Gr.refl _ | apply Gr.drewN | apply Gr.drew | apply Gr.alloc | apply Gr.gro)), ⟨by simp [go_sem], by simp [go_sem], by simp [go_sem]⟩, ⟨by simp [go_sem], by simp [go_sem], by simp [go_sem]⟩, ⟨by simp [go_sem], by simp [go_sem], by simp [go_sem]⟩⟩ ?_
  intro v0 HV
  go_cut [7, 8] from 26 to 30 (fun a0 a1 wx => ∃ bx : Nat, a0 = .pointer (some ⟨bx, 0, none⟩) ∧ a1 = .int .i64 0 ∧ Hid (Gr w wx ∧ Cl wx (w.heap.size) m ∧ Cl wx (w.heap.size + 1) a ∧ Cl wx (w.heap.size + 1 + 1) b0 ∧ Mn wx bx m k u))
  case first =>
    have ⟨G, c_w_heap_size, c__w_heap_size_1_, c__w_heap_size_1_1_⟩ := HV.out
    have ⟨hc_w_heap_size, fc_w_heap_size, pc_w_heap_size⟩ := c_w_heap_size
    have ⟨hc__w_heap_size_1_, fc__w_heap_size_1_, pc__w_heap_size_1_⟩ := c__w_heap_size_1_
    have ⟨hc__w_heap_size_1_1_, fc__w_heap_size_1_1_, pc__w_heap_size_1_1_⟩ := c__w_heap_size_1_1_
    go_wp2_with (go_at_call 8; refine (HN.out _).mono ?_; rintro e W1 ⟨bx, rfl, S1, G1⟩)
    go_meet
    exact ⟨bx, rfl, rfl, G.trans ((Gr.trans (by repeat (first | exact Gr.refl _ | apply Gr.drewN | apply Gr.drew | apply Gr.alloc | apply Gr.gro)) G1).trans (by repeat (first | exact Gr.refl _ | apply Gr.drewN | apply Gr.drew | apply Gr.alloc | apply Gr.gro))), c_w_heap_size.gr ((Gr.trans (by repeat (first | exact Gr.refl _ | apply Gr.drewN | apply Gr.drew | apply Gr.alloc | apply Gr.gro)) G1).trans (by repeat (first | exact Gr.refl _ | apply Gr.drewN | apply Gr.drew | apply Gr.alloc | apply Gr.gro))), c__w_heap_size_1_.gr ((Gr.trans (by repeat (first | exact Gr.refl _ | apply Gr.drewN | apply Gr.drew | apply Gr.alloc | apply Gr.gro)) G1).trans (by repeat (first | exact Gr.refl _ | apply Gr.drewN | apply Gr.drew | apply Gr.alloc | apply Gr.gro))), c__w_heap_size_1_1_.gr ((Gr.trans (by repeat (first | exact Gr.refl _ | apply Gr.drewN | apply Gr.drew | apply Gr.alloc | apply Gr.gro)) G1).trans (by repeat (first | exact Gr.refl _ | apply Gr.drewN | apply Gr.drew | apply Gr.alloc | apply Gr.gro))), S1.gr (by repeat (first | exact Gr.refl _ | apply Gr.drewN | apply Gr.drew | apply Gr.alloc | apply Gr.gro))⟩
  clear HV
  obtain ⟨bx, rfl, rfl, HV⟩ := hcut
  go_upto_region 2 with fail
  go_cut [9] from 31 to 32 (fun a0 wx => ∃ (px : Option Addr) (nx : Nat), a0 = .slice px (dl m) nx ∧ Hid (Gr w wx ∧ Cl wx (w.heap.size) m ∧ Cl wx (w.heap.size + 1) a ∧ Cl wx (w.heap.size + 1 + 1) b0 ∧ Mn wx bx m k u ∧ Sl wx px m))
  case first =>
    have ⟨G, c_w_heap_size, c__w_heap_size_1_, c__w_heap_size_1_1_, S_x⟩ := HV.out
    have ⟨hc_w_heap_size, fc_w_heap_size, pc_w_heap_size⟩ := c_w_heap_size
    have ⟨hc__w_heap_size_1_, fc__w_heap_size_1_, pc__w_heap_size_1_⟩ := c__w_heap_size_1_
    have ⟨hc__w_heap_size_1_1_, fc__w_heap_size_1_1_, pc__w_heap_size_1_1_⟩ := c__w_heap_size_1_1_
    go_wp2_with (go_at_call 9; refine (FM.out _).mono ?_; rintro e W1 ⟨px, nx, rfl, S1, G1⟩)
    go_meet
    exact ⟨px, nx, rfl, G.trans ((Gr.trans (by repeat (first | exact Gr.refl _ | apply Gr.drewN | apply Gr.drew | apply Gr.alloc | apply Gr.gro)) G1).trans (by repeat (first | exact Gr.refl _ | apply Gr.drewN | apply Gr.drew | apply Gr.alloc | apply Gr.gro))), c_w_heap_size.gr ((Gr.trans (by repeat (first | exact Gr.refl _ | apply Gr.drewN | apply Gr.drew | apply Gr.alloc | apply Gr.gro)) G1).trans (by repeat (first | exact Gr.refl _ | apply Gr.drewN | apply Gr.drew | apply Gr.alloc | apply Gr.gro))), c__w_heap_size_1_.gr ((Gr.trans (by repeat (first | exact Gr.refl _ | apply Gr.drewN | apply Gr.drew | apply Gr.alloc | apply Gr.gro)) G1).trans (by repeat (first | exact Gr.refl _ | apply Gr.drewN | apply Gr.drew | apply Gr.alloc | apply Gr.gro))), c__w_heap_size_1_1_.gr ((Gr.trans (by repeat (first | exact Gr.refl _ | apply Gr.drewN | apply Gr.drew | apply Gr.alloc | apply Gr.gro)) G1).trans (by repeat (first | exact Gr.refl _ | apply Gr.drewN | apply Gr.drew | apply Gr.alloc | apply Gr.gro))), S_x.gr ((Gr.trans (by repeat (first | exact Gr.refl _ | apply Gr.drewN | apply Gr.drew | apply Gr.alloc | apply Gr.gro)) G1).trans (by repeat (first | exact Gr.refl _ | apply Gr.drewN | apply Gr.drew | apply Gr.alloc | apply Gr.gro))), S1.gr (by repeat (first | exact Gr.refl _ | apply Gr.drewN | apply Gr.drew | apply Gr.alloc | apply Gr.gro))⟩
  clear HV
  obtain ⟨pz, nz, rfl, HV⟩ := hcut
  have ⟨G, c_w_heap_size, c__w_heap_size_1_, c__w_heap_size_1_1_, S_x, S_pz⟩ := HV.out
  have ⟨hc_w_heap_size, fc_w_heap_size, pc_w_heap_size⟩ := c_w_heap_size
  have ⟨hc__w_heap_size_1_, fc__w_heap_size_1_, pc__w_heap_size_1_⟩ := c__w_heap_size_1_
  have ⟨hc__w_heap_size_1_1_, fc__w_heap_size_1_1_, pc__w_heap_size_1_1_⟩ := c__w_heap_size_1_1_
  go_upto_region 8 with (first
      | (go_at_call 10; refine (HBit.out _ pz nz (S_pz.gr (by repeat (first | exact Gr.refl _ | apply Gr.drewN | apply Gr.drew | apply Gr.alloc | apply Gr.gro)))).mono ?_; rintro e w' ⟨rfl, gb, rfl⟩)
      | (go_at_call 11; refine (HC3.out _ pz nz _ _ (S_pz.gr (by repeat (first | exact Gr.refl _ | apply Gr.drewN | apply Gr.drew | apply Gr.alloc | apply Gr.gro))) (Sl.of_blk (n := 1) (by simp [go_sem]) (by simp [go_sem]) (by decide))).mono ?_; rintro e w' ⟨rfl, gc, rfl⟩)
      | (go_at_call 12; refine (num_any _ _).mono ?_; rintro e w' ⟨rfl, rfl⟩)
      | (go_at_call 14; refine (HBits.out _ pz nz (S_pz.gr (by repeat (first | exact Gr.refl _ | apply Gr.drewN | apply Gr.drew | apply Gr.alloc | apply Gr.gro)))).mono ?_; rintro e w' ⟨rfl, gl, rfl⟩))
  refine gen_w (fun v => Hid (Gr w v ∧ Cl v (w.heap.size) m ∧ Cl v (w.heap.size + 1) a ∧ Cl v (w.heap.size + 1 + 1) b0 ∧ Mn v bx m k u ∧ Sl v pz m)) ⟨G.trans (by repeat (first | exact Gr.refl _ | apply Gr.drewN | apply Gr.drew | apply Gr.alloc | apply Gr.gro)), c_w_heap_size.gr (by repeat (first | exact Gr.refl _ | apply Gr.drewN | apply Gr.drew | apply Gr.alloc | apply Gr.gro)), c__w_heap_size_1_.gr (by repeat (first | exact Gr.refl _ | apply Gr.drewN | apply Gr.drew | apply Gr.alloc | apply Gr.gro)), c__w_heap_size_1_1_.gr (by repeat (first | exact Gr.refl _ | apply Gr.drewN | apply Gr.drew | apply Gr.alloc | apply Gr.gro)), S_x.gr (by repeat (first | exact Gr.refl _ | apply Gr.drewN | apply Gr.drew | apply Gr.alloc | apply Gr.gro)), S_pz.gr (by repeat (first | exact Gr.refl _ | apply Gr.drewN | apply Gr.drew | apply Gr.alloc | apply Gr.gro))⟩ ?_
  clear HV G c_w_heap_size c__w_heap_size_1_ c__w_heap_size_1_1_ S_x S_pz
  intro v8 HV
  have ⟨G, c_w_heap_size, c__w_heap_size_1_, c__w_heap_size_1_1_, S_x, S_pz⟩ := HV.out
  refine wp_region_pred (by kernel_rfl) (by kernel_rfl) [.c (.agg (nw 9 a)), .n (a), .c (.agg (nw 9 b0)), .n (b0), .n (a), .n (b0)] ?hs ?hf
  case hs =>
    intro listed vals a1 vA i o hg hR hF ho hd
    have Hc_w_heap_size : blk vA (w.heap.size) = nw 9 m := (hg.blk _ c_w_heap_size.p).trans c_w_heap_size.h
    have Hc__w_heap_size_1_ : blk vA (w.heap.size + 1) = nw 9 a := (hg.blk _ c__w_heap_size_1_.p).trans c__w_heap_size_1_.h
    have Hc__w_heap_size_1_1_ : blk vA (w.heap.size + 1 + 1) = nw 9 b0 := (hg.blk _ c__w_heap_size_1_1_.p).trans c__w_heap_size_1_1_.h
    have hi : i < 6 := by simpa using (Array.getElem?_eq_some_iff.1 ho).1
    obtain rfl | rfl | rfl | rfl | rfl | rfl : i = 0 ∨ i = 1 ∨ i = 2 ∨ i = 3 ∨ i = 4 ∨ i = 5 := by omega
    · obtain rfl := Option.some.inj ho
      have f0 := hF.old (s := 4) (v := .pointer (some ⟨(w.heap.size + 1), 0, none⟩)) (by kernel_rfl) rfl
      refine Or.inl ⟨wanted_no rfl, ?_⟩
      exact wp_val (.agg (nw 9 a)) (by simp [go_sem, f0, Hc__w_heap_size_1_]) ⟨_, rfl, Gr.refl _, rfl⟩
    · obtain rfl := Option.some.inj ho
      have l0 := on_of hd 0 (by kernel_rfl)
      have f0 := hF.at (s := 63) (i := 0) (by kernel_rfl) (by simp) l0
      rw [show vals 0 = .agg (nw 9 a) from hR 0 l0] at f0
      refine Or.inl ⟨wanted_no rfl, ?_⟩
      exact wp_retN (by simp [go_sem, f0]) (FA.out _) (fun p n w2 hS hg2 => ⟨_, rfl, hg2, p, n, rfl, hS⟩)
    · obtain rfl := Option.some.inj ho
      have f0 := hF.old (s := 5) (v := .pointer (some ⟨(w.heap.size + 1 + 1), 0, none⟩)) (by kernel_rfl) rfl
      refine Or.inl ⟨wanted_no rfl, ?_⟩
      exact wp_val (.agg (nw 9 b0)) (by simp [go_sem, f0, Hc__w_heap_size_1_1_]) ⟨_, rfl, Gr.refl _, rfl⟩
    · obtain rfl := Option.some.inj ho
      have l0 := on_of hd 2 (by kernel_rfl)
      have f0 := hF.at (s := 65) (i := 2) (by kernel_rfl) (by simp) l0
      rw [show vals 2 = .agg (nw 9 b0) from hR 2 l0] at f0
      refine Or.inl ⟨wanted_no rfl, ?_⟩
      exact wp_retN (by simp [go_sem, f0]) (FB0.out _) (fun p n w2 hS hg2 => ⟨_, rfl, hg2, p, n, rfl, hS⟩)
    · obtain rfl := Option.some.inj ho
      have l0 := on_of hd 1 (by kernel_rfl)
      have f0 := hF.at (s := 64) (i := 1) (by kernel_rfl) (by simp) l0
      obtain ⟨p0, n0, e0, S0⟩ := (show ∃ p n, vals 1 = Value.slice p (dl (a)) n ∧ Sl vA p (a) from hR 1 l0)
      rw [e0] at f0
      refine Or.inl ⟨wanted_no rfl, ?_⟩
      exact wp_val (.slice p0 (dl (a)) n0) (by simp [go_sem, f0]) ⟨_, rfl, Gr.refl _, _, _, rfl, S0⟩
    · obtain rfl := Option.some.inj ho
      have l0 := on_of hd 3 (by kernel_rfl)
      have f0 := hF.at (s := 66) (i := 3) (by kernel_rfl) (by simp) l0
      obtain ⟨p0, n0, e0, S0⟩ := (show ∃ p n, vals 3 = Value.slice p (dl (b0)) n ∧ Sl vA p (b0) from hR 3 l0)
      rw [e0] at f0
      refine Or.inl ⟨wanted_no rfl, ?_⟩
      exact wp_val (.slice p0 (dl (b0)) n0) (by simp [go_sem, f0]) ⟨_, rfl, Gr.refl _, _, _, rfl, S0⟩
  case hf =>
    intro vals vA hg hR
    have x0 : vals 0 = .agg (nw 9 a) := hR 0 (by simp)
    obtain ⟨p1, n1, x1, S1⟩ := (show ∃ p n, vals 1 = Value.slice p (dl (a)) n ∧ Sl vA p (a) from hR 1 (by simp))
    have x2 : vals 2 = .agg (nw 9 b0) := hR 2 (by simp)
    obtain ⟨p3, n3, x3, S3⟩ := (show ∃ p n, vals 3 = Value.slice p (dl (b0)) n ∧ Sl vA p (b0) from hR 3 (by simp))
    obtain ⟨p4, n4, x4, S4⟩ := (show ∃ p n, vals 4 = Value.slice p (dl (a)) n ∧ Sl vA p (a) from hR 4 (by simp))
    obtain ⟨p5, n5, x5, S5⟩ := (show ∃ p n, vals 5 = Value.slice p (dl (b0)) n ∧ Sl vA p (b0) from hR 5 (by simp))
    simp only [putFrom, Act.put, List.setIfInBounds_toArray, List.set_cons_zero, List.set_cons_succ, x0, x1, x2, x3, x4, x5]
    clear hR x0 x1 x2 x3 x4 x5
    have HW : Hid (Gr w vA ∧ Cl vA (w.heap.size) m ∧ Cl vA (w.heap.size + 1) a ∧ Cl vA (w.heap.size + 1 + 1) b0 ∧ Mn vA bx m k u ∧ Sl vA pz m ∧ Sl vA p4 a ∧ Sl vA p5 b0) := ⟨G.trans hg, c_w_heap_size.gr hg, c__w_heap_size_1_.gr hg, c__w_heap_size_1_1_.gr hg, S_x.gr hg, S_pz.gr hg, S4, S5⟩
    clear HV hg S4 S5 S1 S3 G c_w_heap_size c__w_heap_size_1_ c__w_heap_size_1_1_ S_x S_pz
    have HV := HW
    clear HW
    go_upto_region 9 with fail
    go_cut [13, 14] from 67 to 72 (fun a0 a1 wx => ∃ e13 : Nat, a0 = .pointer (some ⟨e13, 0, none⟩) ∧ a1 = .int .i64 0 ∧ Hid (Gr w wx ∧ Cl wx (w.heap.size) m ∧ Cl wx (w.heap.size + 1) a ∧ Cl wx (w.heap.size + 1 + 1) b0 ∧ Cl wx e13 t ∧ Mn wx bx m k u ∧ Sl wx pz m ∧ Sl wx p4 a ∧ Sl wx p5 b0))
    case first =>
      have ⟨G, c_w_heap_size, c__w_heap_size_1_, c__w_heap_size_1_1_, S_x, S_pz, S_p4, S_p5⟩ := HV.out
      have ⟨hc_w_heap_size, fc_w_heap_size, pc_w_heap_size⟩ := c_w_heap_size
      have ⟨hc__w_heap_size_1_, fc__w_heap_size_1_, pc__w_heap_size_1_⟩ := c__w_heap_size_1_
      have ⟨hc__w_heap_size_1_1_, fc__w_heap_size_1_1_, pc__w_heap_size_1_1_⟩ := c__w_heap_size_1_1_
      go_wp2_with (first
          | (go_at_call_of 15 ((#[.pointer (some ⟨bx, 0, none⟩), .agg (nw 9 a)] : Array Value)); refine (T1.out bx _ (S_x.gr (by repeat (first | exact Gr.refl _ | apply Gr.drewN | apply Gr.drew | apply Gr.alloc | apply Gr.gro)))).mono ?_; rintro e w' ⟨rfl, g1, rfl⟩)
          | (go_at_call 12; refine (num_any _ _).mono ?_; rintro e w' ⟨rfl, rfl⟩))
      go_meet
      exact ⟨_, rfl, rfl, G.trans (by repeat (first | exact Gr.refl _ | apply Gr.drewN | apply Gr.drew | apply Gr.alloc | apply Gr.gro)), c_w_heap_size.gr (by repeat (first | exact Gr.refl _ | apply Gr.drewN | apply Gr.drew | apply Gr.alloc | apply Gr.gro)), c__w_heap_size_1_.gr (by repeat (first | exact Gr.refl _ | apply Gr.drewN | apply Gr.drew | apply Gr.alloc | apply Gr.gro)), c__w_heap_size_1_1_.gr (by repeat (first | exact Gr.refl _ | apply Gr.drewN | apply Gr.drew | apply Gr.alloc | apply Gr.gro)), ⟨by simp [go_sem], by simp [go_sem], by simp [go_sem]⟩, S_x.gr (by repeat (first | exact Gr.refl _ | apply Gr.drewN | apply Gr.drew | apply Gr.alloc | apply Gr.gro)), S_pz.gr (by repeat (first | exact Gr.refl _ | apply Gr.drewN | apply Gr.drew | apply Gr.alloc | apply Gr.gro)), S_p4.gr (by repeat (first | exact Gr.refl _ | apply Gr.drewN | apply Gr.drew | apply Gr.alloc | apply Gr.gro)), S_p5.gr (by repeat (first | exact Gr.refl _ | apply Gr.drewN | apply Gr.drew | apply Gr.alloc | apply Gr.gro))⟩
    clear HV
    obtain ⟨e13, rfl, rfl, HV⟩ := hcut
    go_upto_region 10 with fail
    go_cut [15, 16] from 73 to 78 (fun a0 a1 wx => ∃ e15 : Nat, a0 = .pointer (some ⟨e15, 0, none⟩) ∧ a1 = .int .i64 0 ∧ Hid (Gr w wx ∧ Cl wx (w.heap.size) m ∧ Cl wx (w.heap.size + 1) a ∧ Cl wx (w.heap.size + 1 + 1) b0 ∧ Cl wx e13 t ∧ Cl wx e15 fr ∧ Mn wx bx m k u ∧ Sl wx pz m ∧ Sl wx p4 a ∧ Sl wx p5 b0))
    case first =>
      have ⟨G, c_w_heap_size, c__w_heap_size_1_, c__w_heap_size_1_1_, c_e13, S_x, S_pz, S_p4, S_p5⟩ := HV.out
      have ⟨hc_w_heap_size, fc_w_heap_size, pc_w_heap_size⟩ := c_w_heap_size
      have ⟨hc__w_heap_size_1_, fc__w_heap_size_1_, pc__w_heap_size_1_⟩ := c__w_heap_size_1_
      have ⟨hc__w_heap_size_1_1_, fc__w_heap_size_1_1_, pc__w_heap_size_1_1_⟩ := c__w_heap_size_1_1_
      have ⟨hc_e13, fc_e13, pc_e13⟩ := c_e13
      go_wp2_with (first
          | (go_at_call_of 16 ((#[.pointer (some ⟨bx, 0, none⟩), .agg (nw 9 a)] : Array Value)); refine (F1.out bx _ (S_x.gr (by repeat (first | exact Gr.refl _ | apply Gr.drewN | apply Gr.drew | apply Gr.alloc | apply Gr.gro)))).mono ?_; rintro e w' ⟨rfl, g2, rfl⟩)
          | (go_at_call 12; refine (num_any _ _).mono ?_; rintro e w' ⟨rfl, rfl⟩))
      go_meet
      exact ⟨_, rfl, rfl, G.trans (by repeat (first | exact Gr.refl _ | apply Gr.drewN | apply Gr.drew | apply Gr.alloc | apply Gr.gro)), c_w_heap_size.gr (by repeat (first | exact Gr.refl _ | apply Gr.drewN | apply Gr.drew | apply Gr.alloc | apply Gr.gro)), c__w_heap_size_1_.gr (by repeat (first | exact Gr.refl _ | apply Gr.drewN | apply Gr.drew | apply Gr.alloc | apply Gr.gro)), c__w_heap_size_1_1_.gr (by repeat (first | exact Gr.refl _ | apply Gr.drewN | apply Gr.drew | apply Gr.alloc | apply Gr.gro)), c_e13.gr (by repeat (first | exact Gr.refl _ | apply Gr.drewN | apply Gr.drew | apply Gr.alloc | apply Gr.gro)), ⟨by simp [go_sem], by simp [go_sem], by simp [go_sem]⟩, S_x.gr (by repeat (first | exact Gr.refl _ | apply Gr.drewN | apply Gr.drew | apply Gr.alloc | apply Gr.gro)), S_pz.gr (by repeat (first | exact Gr.refl _ | apply Gr.drewN | apply Gr.drew | apply Gr.alloc | apply Gr.gro)), S_p4.gr (by repeat (first | exact Gr.refl _ | apply Gr.drewN | apply Gr.drew | apply Gr.alloc | apply Gr.gro)), S_p5.gr (by repeat (first | exact Gr.refl _ | apply Gr.drewN | apply Gr.drew | apply Gr.alloc | apply Gr.gro))⟩
    clear HV
    obtain ⟨e15, rfl, rfl, HV⟩ := hcut
    go_upto_region 11 with fail
    go_cut [17, 18] from 79 to 85 (fun a0 a1 wx => ∃ e17 : Nat, a0 = .pointer (some ⟨e17, 0, none⟩) ∧ a1 = .int .i64 601 ∧ Hid (Gr w wx ∧ Cl wx (w.heap.size) m ∧ Cl wx (w.heap.size + 1) a ∧ Cl wx (w.heap.size + 1 + 1) b0 ∧ Cl wx e13 t ∧ Cl wx e15 fr ∧ Cl wx e17 0 ∧ Mn wx bx m k u ∧ Sl wx pz m ∧ Sl wx p4 a ∧ Sl wx p5 b0))
    case first =>
      have ⟨G, c_w_heap_size, c__w_heap_size_1_, c__w_heap_size_1_1_, c_e13, c_e15, S_x, S_pz, S_p4, S_p5⟩ := HV.out
      have ⟨hc_w_heap_size, fc_w_heap_size, pc_w_heap_size⟩ := c_w_heap_size
      have ⟨hc__w_heap_size_1_, fc__w_heap_size_1_, pc__w_heap_size_1_⟩ := c__w_heap_size_1_
      have ⟨hc__w_heap_size_1_1_, fc__w_heap_size_1_1_, pc__w_heap_size_1_1_⟩ := c__w_heap_size_1_1_
      have ⟨hc_e13, fc_e13, pc_e13⟩ := c_e13
      have ⟨hc_e15, fc_e15, pc_e15⟩ := c_e15
      go_wp2_with (first
          | (go_at_call_of 17 ((#[.pointer (some ⟨bx, 0, none⟩), .agg (nw 9 a), .agg (nw 9 b0)] : Array Value)); refine (M1.out bx _ (S_x.gr (by repeat (first | exact Gr.refl _ | apply Gr.drewN | apply Gr.drew | apply Gr.alloc | apply Gr.gro)))).mono ?_; rintro e w' ⟨rfl, g3, rfl⟩)
          | (go_at_call 12; refine (num_any _ _).mono ?_; rintro e w' ⟨rfl, rfl⟩))
      go_meet
      exact ⟨_, rfl, rfl, G.trans (by repeat (first | exact Gr.refl _ | apply Gr.drewN | apply Gr.drew | apply Gr.alloc | apply Gr.gro)), c_w_heap_size.gr (by repeat (first | exact Gr.refl _ | apply Gr.drewN | apply Gr.drew | apply Gr.alloc | apply Gr.gro)), c__w_heap_size_1_.gr (by repeat (first | exact Gr.refl _ | apply Gr.drewN | apply Gr.drew | apply Gr.alloc | apply Gr.gro)), c__w_heap_size_1_1_.gr (by repeat (first | exact Gr.refl _ | apply Gr.drewN | apply Gr.drew | apply Gr.alloc | apply Gr.gro)), c_e13.gr (by repeat (first | exact Gr.refl _ | apply Gr.drewN | apply Gr.drew | apply Gr.alloc | apply Gr.gro)), c_e15.gr (by repeat (first | exact Gr.refl _ | apply Gr.drewN | apply Gr.drew | apply Gr.alloc | apply Gr.gro)), ⟨by simp [go_sem], by simp [go_sem], by simp [go_sem]⟩, S_x.gr (by repeat (first | exact Gr.refl _ | apply Gr.drewN | apply Gr.drew | apply Gr.alloc | apply Gr.gro)), S_pz.gr (by repeat (first | exact Gr.refl _ | apply Gr.drewN | apply Gr.drew | apply Gr.alloc | apply Gr.gro)), S_p4.gr (by repeat (first | exact Gr.refl _ | apply Gr.drewN | apply Gr.drew | apply Gr.alloc | apply Gr.gro)), S_p5.gr (by repeat (first | exact Gr.refl _ | apply Gr.drewN | apply Gr.drew | apply Gr.alloc | apply Gr.gro))⟩
    clear HV
    obtain ⟨e17, rfl, rfl, HV⟩ := hcut
    go_upto_region 12 with fail
    go_cut [19, 20] from 86 to 91 (fun a0 a1 wx => ∃ e19 : Nat, a0 = .pointer (some ⟨e19, 0, none⟩) ∧ a1 = .int .i64 ei ∧ Hid (Gr w wx ∧ Cl wx (w.heap.size) m ∧ Cl wx (w.heap.size + 1) a ∧ Cl wx (w.heap.size + 1 + 1) b0 ∧ Cl wx e13 t ∧ Cl wx e15 fr ∧ Cl wx e17 0 ∧ Cl wx e19 xi ∧ Mn wx bx m k u ∧ Sl wx pz m ∧ Sl wx p4 a ∧ Sl wx p5 b0))
    case first =>
      have ⟨G, c_w_heap_size, c__w_heap_size_1_, c__w_heap_size_1_1_, c_e13, c_e15, c_e17, S_x, S_pz, S_p4, S_p5⟩ := HV.out
      have ⟨hc_w_heap_size, fc_w_heap_size, pc_w_heap_size⟩ := c_w_heap_size
      have ⟨hc__w_heap_size_1_, fc__w_heap_size_1_, pc__w_heap_size_1_⟩ := c__w_heap_size_1_
      have ⟨hc__w_heap_size_1_1_, fc__w_heap_size_1_1_, pc__w_heap_size_1_1_⟩ := c__w_heap_size_1_1_
      have ⟨hc_e13, fc_e13, pc_e13⟩ := c_e13
      have ⟨hc_e15, fc_e15, pc_e15⟩ := c_e15
      have ⟨hc_e17, fc_e17, pc_e17⟩ := c_e17
      go_wp2_with (first
          | (go_at_call_of 18 ((#[.pointer (some ⟨bx, 0, none⟩), .agg (nw 9 a)] : Array Value)); refine (I1.out bx _ (S_x.gr (by repeat (first | exact Gr.refl _ | apply Gr.drewN | apply Gr.drew | apply Gr.alloc | apply Gr.gro)))).mono ?_; rintro e w' ⟨rfl, g4, rfl⟩)
          | (go_at_call 12; refine (num_any _ _).mono ?_; rintro e w' ⟨rfl, rfl⟩))
      go_meet
      exact ⟨_, rfl, rfl, G.trans (by repeat (first | exact Gr.refl _ | apply Gr.drewN | apply Gr.drew | apply Gr.alloc | apply Gr.gro)), c_w_heap_size.gr (by repeat (first | exact Gr.refl _ | apply Gr.drewN | apply Gr.drew | apply Gr.alloc | apply Gr.gro)), c__w_heap_size_1_.gr (by repeat (first | exact Gr.refl _ | apply Gr.drewN | apply Gr.drew | apply Gr.alloc | apply Gr.gro)), c__w_heap_size_1_1_.gr (by repeat (first | exact Gr.refl _ | apply Gr.drewN | apply Gr.drew | apply Gr.alloc | apply Gr.gro)), c_e13.gr (by repeat (first | exact Gr.refl _ | apply Gr.drewN | apply Gr.drew | apply Gr.alloc | apply Gr.gro)), c_e15.gr (by repeat (first | exact Gr.refl _ | apply Gr.drewN | apply Gr.drew | apply Gr.alloc | apply Gr.gro)), c_e17.gr (by repeat (first | exact Gr.refl _ | apply Gr.drewN | apply Gr.drew | apply Gr.alloc | apply Gr.gro)), ⟨by simp [go_sem], by simp [go_sem], by simp [go_sem]⟩, S_x.gr (by repeat (first | exact Gr.refl _ | apply Gr.drewN | apply Gr.drew | apply Gr.alloc | apply Gr.gro)), S_pz.gr (by repeat (first | exact Gr.refl _ | apply Gr.drewN | apply Gr.drew | apply Gr.alloc | apply Gr.gro)), S_p4.gr (by repeat (first | exact Gr.refl _ | apply Gr.drewN | apply Gr.drew | apply Gr.alloc | apply Gr.gro)), S_p5.gr (by repeat (first | exact Gr.refl _ | apply Gr.drewN | apply Gr.drew | apply Gr.alloc | apply Gr.gro))⟩
    clear HV
    obtain ⟨e19, rfl, rfl, HV⟩ := hcut
    have ⟨G, c_w_heap_size, c__w_heap_size_1_, c__w_heap_size_1_1_, c_e13, c_e15, c_e17, c_e19, S_x, S_pz, S_p4, S_p5⟩ := HV.out
    have ⟨hc_w_heap_size, fc_w_heap_size, pc_w_heap_size⟩ := c_w_heap_size
    have ⟨hc__w_heap_size_1_, fc__w_heap_size_1_, pc__w_heap_size_1_⟩ := c__w_heap_size_1_
    have ⟨hc__w_heap_size_1_1_, fc__w_heap_size_1_1_, pc__w_heap_size_1_1_⟩ := c__w_heap_size_1_1_
    have ⟨hc_e13, fc_e13, pc_e13⟩ := c_e13
    have ⟨hc_e15, fc_e15, pc_e15⟩ := c_e15
    have ⟨hc_e17, fc_e17, pc_e17⟩ := c_e17
    have ⟨hc_e19, fc_e19, pc_e19⟩ := c_e19
    go_upto_region 17 with (first
      | (go_at_call 11; refine (HCa.out _ p4 n4 pz nz (S_p4.gr (by repeat (first | exact Gr.refl _ | apply Gr.drewN | apply Gr.drew | apply Gr.alloc | apply Gr.gro))) (S_pz.gr (by repeat (first | exact Gr.refl _ | apply Gr.drewN | apply Gr.drew | apply Gr.alloc | apply Gr.gro)))).mono ?_; rintro e w' ⟨rfl, gca, rfl⟩)
      | (first
        | (go_at_call_of 19 ((#[.pointer (some ⟨bx, 0, none⟩)] : Array Value)); refine (W1.out bx _ (S_x.gr (by repeat (first | exact Gr.refl _ | apply Gr.drewN | apply Gr.drew | apply Gr.alloc | apply Gr.gro)))).mono ?_; rintro e w' ⟨rfl, g5, rfl⟩)
        | (go_at_call 12; refine (num_any _ _).mono ?_; rintro e w' ⟨rfl, rfl⟩)))
    refine gen_w (fun v => Hid (Gr w v ∧ Cl v (w.heap.size) m ∧ Cl v (w.heap.size + 1) a ∧ Cl v (w.heap.size + 1 + 1) b0 ∧ Cl v e13 t ∧ Cl v e15 fr ∧ Cl v e17 0 ∧ Cl v e19 xi ∧ Mn v bx m k u ∧ Sl v pz m ∧ Sl v p4 a ∧ Sl v p5 b0)) ⟨G.trans (by repeat (first | exact Gr.refl _ | apply Gr.drewN | apply Gr.drew | apply Gr.alloc | apply Gr.gro)), c_w_heap_size.gr (by repeat (first | exact Gr.refl _ | apply Gr.drewN | apply Gr.drew | apply Gr.alloc | apply Gr.gro)), c__w_heap_size_1_.gr (by repeat (first | exact Gr.refl _ | apply Gr.drewN | apply Gr.drew | apply Gr.alloc | apply Gr.gro)), c__w_heap_size_1_1_.gr (by repeat (first | exact Gr.refl _ | apply Gr.drewN | apply Gr.drew | apply Gr.alloc | apply Gr.gro)), c_e13.gr (by repeat (first | exact Gr.refl _ | apply Gr.drewN | apply Gr.drew | apply Gr.alloc | apply Gr.gro)), c_e15.gr (by repeat (first | exact Gr.refl _ | apply Gr.drewN | apply Gr.drew | apply Gr.alloc | apply Gr.gro)), c_e17.gr (by repeat (first | exact Gr.refl _ | apply Gr.drewN | apply Gr.drew | apply Gr.alloc | apply Gr.gro)), c_e19.gr (by repeat (first | exact Gr.refl _ | apply Gr.drewN | apply Gr.drew | apply Gr.alloc | apply Gr.gro)), S_x.gr (by repeat (first | exact Gr.refl _ | apply Gr.drewN | apply Gr.drew | apply Gr.alloc | apply Gr.gro)), S_pz.gr (by repeat (first | exact Gr.refl _ | apply Gr.drewN | apply Gr.drew | apply Gr.alloc | apply Gr.gro)), S_p4.gr (by repeat (first | exact Gr.refl _ | apply Gr.drewN | apply Gr.drew | apply Gr.alloc | apply Gr.gro)), S_p5.gr (by repeat (first | exact Gr.refl _ | apply Gr.drewN | apply Gr.drew | apply Gr.alloc | apply Gr.gro))⟩ ?_
    clear HV G c_w_heap_size c__w_heap_size_1_ c__w_heap_size_1_1_ c_e13 c_e15 c_e17 c_e19 S_x S_pz S_p4 S_p5
    intro v17 HV
    go_cut [21] from 131 to 136 (fun a0 wx => ∃ (px : Option Addr) (nx : Nat), a0 = .slice px (dl R) nx ∧ Hid (Gr w wx ∧ Cl wx (w.heap.size) m ∧ Cl wx (w.heap.size + 1) a ∧ Cl wx (w.heap.size + 1 + 1) b0 ∧ Cl wx e13 t ∧ Cl wx e15 fr ∧ Cl wx e17 0 ∧ Cl wx e19 xi ∧ Mn wx bx m k u ∧ Sl wx pz m ∧ Sl wx p4 a ∧ Sl wx p5 b0 ∧ Sl wx px R))
    case first =>
      have ⟨G, c_w_heap_size, c__w_heap_size_1_, c__w_heap_size_1_1_, c_e13, c_e15, c_e17, c_e19, S_x, S_pz, S_p4, S_p5⟩ := HV.out
      have ⟨hc_w_heap_size, fc_w_heap_size, pc_w_heap_size⟩ := c_w_heap_size
      have ⟨hc__w_heap_size_1_, fc__w_heap_size_1_, pc__w_heap_size_1_⟩ := c__w_heap_size_1_
      have ⟨hc__w_heap_size_1_1_, fc__w_heap_size_1_1_, pc__w_heap_size_1_1_⟩ := c__w_heap_size_1_1_
      have ⟨hc_e13, fc_e13, pc_e13⟩ := c_e13
      have ⟨hc_e15, fc_e15, pc_e15⟩ := c_e15
      have ⟨hc_e17, fc_e17, pc_e17⟩ := c_e17
      have ⟨hc_e19, fc_e19, pc_e19⟩ := c_e19
      go_wp2_with (first | (go_at_call 21; refine (HSh.out _ _ _ (Sl.of_blk (n := 1) (by simp [go_sem]) (by simp [go_sem]) (by decide))).mono ?_; rintro e W0 ⟨p0, n0, rfl, S0, ⟨g0, rfl⟩⟩) | (go_at_call 20; refine (HMd.out _ p0 n0 pz nz (S0.gr (by repeat (first | exact Gr.refl _ | apply Gr.drewN | apply Gr.drew | apply Gr.alloc | apply Gr.gro))) (S_pz.gr (by repeat (first | exact Gr.refl _ | apply Gr.drewN | apply Gr.drew | apply Gr.alloc | apply Gr.gro)))).mono ?_; rintro e W1 ⟨px, nx, rfl, S1, G1⟩))
      go_meet
      exact ⟨px, nx, rfl, G.trans ((Gr.trans (by repeat (first | exact Gr.refl _ | apply Gr.drewN | apply Gr.drew | apply Gr.alloc | apply Gr.gro)) G1).trans (by repeat (first | exact Gr.refl _ | apply Gr.drewN | apply Gr.drew | apply Gr.alloc | apply Gr.gro))), c_w_heap_size.gr ((Gr.trans (by repeat (first | exact Gr.refl _ | apply Gr.drewN | apply Gr.drew | apply Gr.alloc | apply Gr.gro)) G1).trans (by repeat (first | exact Gr.refl _ | apply Gr.drewN | apply Gr.drew | apply Gr.alloc | apply Gr.gro))), c__w_heap_size_1_.gr ((Gr.trans (by repeat (first | exact Gr.refl _ | apply Gr.drewN | apply Gr.drew | apply Gr.alloc | apply Gr.gro)) G1).trans (by repeat (first | exact Gr.refl _ | apply Gr.drewN | apply Gr.drew | apply Gr.alloc | apply Gr.gro))), c__w_heap_size_1_1_.gr ((Gr.trans (by repeat (first | exact Gr.refl _ | apply Gr.drewN | apply Gr.drew | apply Gr.alloc | apply Gr.gro)) G1).trans (by repeat (first | exact Gr.refl _ | apply Gr.drewN | apply Gr.drew | apply Gr.alloc | apply Gr.gro))), c_e13.gr ((Gr.trans (by repeat (first | exact Gr.refl _ | apply Gr.drewN | apply Gr.drew | apply Gr.alloc | apply Gr.gro)) G1).trans (by repeat (first | exact Gr.refl _ | apply Gr.drewN | apply Gr.drew | apply Gr.alloc | apply Gr.gro))), c_e15.gr ((Gr.trans (by repeat (first | exact Gr.refl _ | apply Gr.drewN | apply Gr.drew | apply Gr.alloc | apply Gr.gro)) G1).trans (by repeat (first | exact Gr.refl _ | apply Gr.drewN | apply Gr.drew | apply Gr.alloc | apply Gr.gro))), c_e17.gr ((Gr.trans (by repeat (first | exact Gr.refl _ | apply Gr.drewN | apply Gr.drew | apply Gr.alloc | apply Gr.gro)) G1).trans (by repeat (first | exact Gr.refl _ | apply Gr.drewN | apply Gr.drew | apply Gr.alloc | apply Gr.gro))), c_e19.gr ((Gr.trans (by repeat (first | exact Gr.refl _ | apply Gr.drewN | apply Gr.drew | apply Gr.alloc | apply Gr.gro)) G1).trans (by repeat (first | exact Gr.refl _ | apply Gr.drewN | apply Gr.drew | apply Gr.alloc | apply Gr.gro))), S_x.gr ((Gr.trans (by repeat (first | exact Gr.refl _ | apply Gr.drewN | apply Gr.drew | apply Gr.alloc | apply Gr.gro)) G1).trans (by repeat (first | exact Gr.refl _ | apply Gr.drewN | apply Gr.drew | apply Gr.alloc | apply Gr.gro))), S_pz.gr ((Gr.trans (by repeat (first | exact Gr.refl _ | apply Gr.drewN | apply Gr.drew | apply Gr.alloc | apply Gr.gro)) G1).trans (by repeat (first | exact Gr.refl _ | apply Gr.drewN | apply Gr.drew | apply Gr.alloc | apply Gr.gro))), S_p4.gr ((Gr.trans (by repeat (first | exact Gr.refl _ | apply Gr.drewN | apply Gr.drew | apply Gr.alloc | apply Gr.gro)) G1).trans (by repeat (first | exact Gr.refl _ | apply Gr.drewN | apply Gr.drew | apply Gr.alloc | apply Gr.gro))), S_p5.gr ((Gr.trans (by repeat (first | exact Gr.refl _ | apply Gr.drewN | apply Gr.drew | apply Gr.alloc | apply Gr.gro)) G1).trans (by repeat (first | exact Gr.refl _ | apply Gr.drewN | apply Gr.drew | apply Gr.alloc | apply Gr.gro))), S1.gr (by repeat (first | exact Gr.refl _ | apply Gr.drewN | apply Gr.drew | apply Gr.alloc | apply Gr.gro))⟩
    clear HV
    obtain ⟨pr, nr, rfl, HV⟩ := hcut
    go_upto_region 18 with fail
    go_cut [22, 23] from 137 to 142 (fun a0 a1 wx => ∃ (px : Option Addr) (nx : Nat), a0 = .slice px (dl u) nx ∧ a1 = .bool true ∧ Hid (Gr w wx ∧ Cl wx (w.heap.size) m ∧ Cl wx (w.heap.size + 1) a ∧ Cl wx (w.heap.size + 1 + 1) b0 ∧ Cl wx e13 t ∧ Cl wx e15 fr ∧ Cl wx e17 0 ∧ Cl wx e19 xi ∧ Mn wx bx m k u ∧ Sl wx pz m ∧ Sl wx p4 a ∧ Sl wx p5 b0 ∧ Sl wx pr R ∧ Sl wx px u))
    case first =>
      have ⟨G, c_w_heap_size, c__w_heap_size_1_, c__w_heap_size_1_1_, c_e13, c_e15, c_e17, c_e19, S_x, S_pz, S_p4, S_p5, S_pr⟩ := HV.out
      have ⟨hc_w_heap_size, fc_w_heap_size, pc_w_heap_size⟩ := c_w_heap_size
      have ⟨hc__w_heap_size_1_, fc__w_heap_size_1_, pc__w_heap_size_1_⟩ := c__w_heap_size_1_
      have ⟨hc__w_heap_size_1_1_, fc__w_heap_size_1_1_, pc__w_heap_size_1_1_⟩ := c__w_heap_size_1_1_
      have ⟨hc_e13, fc_e13, pc_e13⟩ := c_e13
      have ⟨hc_e15, fc_e15, pc_e15⟩ := c_e15
      have ⟨hc_e17, fc_e17, pc_e17⟩ := c_e17
      have ⟨hc_e19, fc_e19, pc_e19⟩ := c_e19
      go_wp2_with (go_at_call 22; refine (HIu.out _ pr nr pz nz (S_pr.gr (by repeat (first | exact Gr.refl _ | apply Gr.drewN | apply Gr.drew | apply Gr.alloc | apply Gr.gro))) (S_pz.gr (by repeat (first | exact Gr.refl _ | apply Gr.drewN | apply Gr.drew | apply Gr.alloc | apply Gr.gro)))).mono ?_; rintro e W1 ⟨px, nx, rfl, S1, G1⟩)
      go_meet
      exact ⟨px, nx, rfl, rfl, G.trans ((Gr.trans (by repeat (first | exact Gr.refl _ | apply Gr.drewN | apply Gr.drew | apply Gr.alloc | apply Gr.gro)) G1).trans (by repeat (first | exact Gr.refl _ | apply Gr.drewN | apply Gr.drew | apply Gr.alloc | apply Gr.gro))), c_w_heap_size.gr ((Gr.trans (by repeat (first | exact Gr.refl _ | apply Gr.drewN | apply Gr.drew | apply Gr.alloc | apply Gr.gro)) G1).trans (by repeat (first | exact Gr.refl _ | apply Gr.drewN | apply Gr.drew | apply Gr.alloc | apply Gr.gro))), c__w_heap_size_1_.gr ((Gr.trans (by repeat (first | exact Gr.refl _ | apply Gr.drewN | apply Gr.drew | apply Gr.alloc | apply Gr.gro)) G1).trans (by repeat (first | exact Gr.refl _ | apply Gr.drewN | apply Gr.drew | apply Gr.alloc | apply Gr.gro))), c__w_heap_size_1_1_.gr ((Gr.trans (by repeat (first | exact Gr.refl _ | apply Gr.drewN | apply Gr.drew | apply Gr.alloc | apply Gr.gro)) G1).trans (by repeat (first | exact Gr.refl _ | apply Gr.drewN | apply Gr.drew | apply Gr.alloc | apply Gr.gro))), c_e13.gr ((Gr.trans (by repeat (first | exact Gr.refl _ | apply Gr.drewN | apply Gr.drew | apply Gr.alloc | apply Gr.gro)) G1).trans (by repeat (first | exact Gr.refl _ | apply Gr.drewN | apply Gr.drew | apply Gr.alloc | apply Gr.gro))), c_e15.gr ((Gr.trans (by repeat (first | exact Gr.refl _ | apply Gr.drewN | apply Gr.drew | apply Gr.alloc | apply Gr.gro)) G1).trans (by repeat (first | exact Gr.refl _ | apply Gr.drewN | apply Gr.drew | apply Gr.alloc | apply Gr.gro))), c_e17.gr ((Gr.trans (by repeat (first | exact Gr.refl _ | apply Gr.drewN | apply Gr.drew | apply Gr.alloc | apply Gr.gro)) G1).trans (by repeat (first | exact Gr.refl _ | apply Gr.drewN | apply Gr.drew | apply Gr.alloc | apply Gr.gro))), c_e19.gr ((Gr.trans (by repeat (first | exact Gr.refl _ | apply Gr.drewN | apply Gr.drew | apply Gr.alloc | apply Gr.gro)) G1).trans (by repeat (first | exact Gr.refl _ | apply Gr.drewN | apply Gr.drew | apply Gr.alloc | apply Gr.gro))), S_x.gr ((Gr.trans (by repeat (first | exact Gr.refl _ | apply Gr.drewN | apply Gr.drew | apply Gr.alloc | apply Gr.gro)) G1).trans (by repeat (first | exact Gr.refl _ | apply Gr.drewN | apply Gr.drew | apply Gr.alloc | apply Gr.gro))), S_pz.gr ((Gr.trans (by repeat (first | exact Gr.refl _ | apply Gr.drewN | apply Gr.drew | apply Gr.alloc | apply Gr.gro)) G1).trans (by repeat (first | exact Gr.refl _ | apply Gr.drewN | apply Gr.drew | apply Gr.alloc | apply Gr.gro))), S_p4.gr ((Gr.trans (by repeat (first | exact Gr.refl _ | apply Gr.drewN | apply Gr.drew | apply Gr.alloc | apply Gr.gro)) G1).trans (by repeat (first | exact Gr.refl _ | apply Gr.drewN | apply Gr.drew | apply Gr.alloc | apply Gr.gro))), S_p5.gr ((Gr.trans (by repeat (first | exact Gr.refl _ | apply Gr.drewN | apply Gr.drew | apply Gr.alloc | apply Gr.gro)) G1).trans (by repeat (first | exact Gr.refl _ | apply Gr.drewN | apply Gr.drew | apply Gr.alloc | apply Gr.gro))), S_pr.gr ((Gr.trans (by repeat (first | exact Gr.refl _ | apply Gr.drewN | apply Gr.drew | apply Gr.alloc | apply Gr.gro)) G1).trans (by repeat (first | exact Gr.refl _ | apply Gr.drewN | apply Gr.drew | apply Gr.alloc | apply Gr.gro))), S1.gr (by repeat (first | exact Gr.refl _ | apply Gr.drewN | apply Gr.drew | apply Gr.alloc | apply Gr.gro))⟩
    clear HV
    obtain ⟨pu, nu, rfl, rfl, HV⟩ := hcut
    go_upto_region 19 with fail
    have ⟨G, c_w_heap_size, c__w_heap_size_1_, c__w_heap_size_1_1_, c_e13, c_e15, c_e17, c_e19, S_x, S_pz, S_p4, S_p5, S_pr, S_pu⟩ := HV.out
    refine wp_region_pred (by kernel_rfl) (by kernel_rfl) [.c (.int .i64 0), .c (.int .i64 0), .c (.bool false), .c (.bool false), .c (.agg (nw 9 t)), .c (.slice p4 (dl a) n4), .c (.slice pr (dl R) nr), .c (.slice pz (dl m) nz), .n (t), .c (.agg (nw 9 t)), .c (.bool false), .c (.bool false), .c (.bool false), .c (.int .i64 0), .c (.int .i64 0), .c (.bool false), .c (.bool false), .c (.bool false), .c (.agg (nw 9 fr)), .c (.slice p4 (dl a) n4), .c (.slice pu (dl u) nu), .c (.slice pz (dl m) nz), .n (fr), .c (.agg (nw 9 fr)), .c (.bool false), .c (.bool false)] ?hs ?hf
    case hs =>
      intro listed vals a1 vB i o hg hR hF ho hd
      have Hc_w_heap_size : blk vB (w.heap.size) = nw 9 m := (hg.blk _ c_w_heap_size.p).trans c_w_heap_size.h
      have Hc__w_heap_size_1_ : blk vB (w.heap.size + 1) = nw 9 a := (hg.blk _ c__w_heap_size_1_.p).trans c__w_heap_size_1_.h
      have Hc__w_heap_size_1_1_ : blk vB (w.heap.size + 1 + 1) = nw 9 b0 := (hg.blk _ c__w_heap_size_1_1_.p).trans c__w_heap_size_1_1_.h
      have Hc_e13 : blk vB e13 = nw 9 t := (hg.blk _ c_e13.p).trans c_e13.h
      have Hc_e15 : blk vB e15 = nw 9 fr := (hg.blk _ c_e15.p).trans c_e15.h
      have Hc_e17 : blk vB e17 = nw 9 0 := (hg.blk _ c_e17.p).trans c_e17.h
      have Hc_e19 : blk vB e19 = nw 9 xi := (hg.blk _ c_e19.p).trans c_e19.h
      have hi : i < 26 := by simpa using (Array.getElem?_eq_some_iff.1 ho).1
      obtain rfl | rfl | rfl | rfl | rfl | rfl | rfl | rfl | rfl | rfl | rfl | rfl | rfl | rfl | rfl | rfl | rfl | rfl | rfl | rfl | rfl | rfl | rfl | rfl | rfl | rfl : i = 0 ∨ i = 1 ∨ i = 2 ∨ i = 3 ∨ i = 4 ∨ i = 5 ∨ i = 6 ∨ i = 7 ∨ i = 8 ∨ i = 9 ∨ i = 10 ∨ i = 11 ∨ i = 12 ∨ i = 13 ∨ i = 14 ∨ i = 15 ∨ i = 16 ∨ i = 17 ∨ i = 18 ∨ i = 19 ∨ i = 20 ∨ i = 21 ∨ i = 22 ∨ i = 23 ∨ i = 24 ∨ i = 25 := by omega
      · obtain rfl := Option.some.inj ho
        have f0 := hF.old (s := 14) (v := .int .i64 0) (by kernel_rfl) rfl
        refine Or.inl ⟨wanted_no rfl, ?_⟩
        exact wp_val (.int .i64 0) (by simp [go_sem, f0]) ⟨_, rfl, Gr.refl _, rfl⟩
      · obtain rfl := Option.some.inj ho
        have l0 := on_of hd 0 (by kernel_rfl)
        have f0 := hF.at (s := 143) (i := 0) (by kernel_rfl) (by simp) l0
        rw [show vals 0 = .int .i64 0 from hR 0 l0] at f0
        refine Or.inl ⟨wanted_no rfl, ?_⟩
        exact wp_ret (.int .i64 0) (by simp [go_sem, f0]) (num5_gr _ _) (fun w2 hg2 => ⟨_, rfl, hg2, rfl⟩)
      · obtain rfl := Option.some.inj ho
        have l0 := on_of hd 1 (by kernel_rfl)
        have f0 := hF.at (s := 144) (i := 1) (by kernel_rfl) (by simp) l0
        rw [show vals 1 = .int .i64 0 from hR 1 l0] at f0
        refine Or.inl ⟨wanted_no rfl, ?_⟩
        exact wp_val (.bool false) (by simp [go_sem, f0]) ⟨_, rfl, Gr.refl _, rfl⟩
      · obtain rfl := Option.some.inj ho
        have l0 := on_of hd 2 (by kernel_rfl)
        have f0 := hF.at (s := 145) (i := 2) (by kernel_rfl) (by simp) l0
        rw [show vals 2 = .bool false from hR 2 l0] at f0
        refine Or.inl ⟨wanted_no rfl, ?_⟩
        exact wp_val (.bool false) (by simp [go_sem, f0]) ⟨_, rfl, Gr.refl _, rfl⟩
      · obtain rfl := Option.some.inj ho
        have lg := on_of hd 3 (by kernel_rfl)
        have fg := hF.at (s := 146) (i := 3) (by kernel_rfl) (by simp) lg
        rw [show vals 3 = .bool false from hR 3 lg] at fg
        have f0 := hF.old (s := 13) (v := .pointer (some ⟨e13, 0, none⟩)) (by kernel_rfl) rfl
        refine Or.inl ⟨wanted_at (j := 3) (s := 146) rfl rfl rfl fg, ?_⟩
        exact wp_val (.agg (nw 9 t)) (by simp [go_sem, f0, Hc_e13]) ⟨_, rfl, Gr.refl _, rfl⟩
      · obtain rfl := Option.some.inj ho
        have lg := on_of hd 3 (by kernel_rfl)
        have fg := hF.at (s := 146) (i := 3) (by kernel_rfl) (by simp) lg
        rw [show vals 3 = .bool false from hR 3 lg] at fg
        have f0 := hF.old (s := 11) (v := .slice p4 (dl a) n4) (by kernel_rfl) rfl
        refine Or.inl ⟨wanted_at (j := 3) (s := 146) rfl rfl rfl fg, ?_⟩
        exact wp_val (.slice p4 (dl a) n4) (by simp [go_sem, f0]) ⟨_, rfl, Gr.refl _, rfl⟩
      · obtain rfl := Option.some.inj ho
        have lg := on_of hd 3 (by kernel_rfl)
        have fg := hF.at (s := 146) (i := 3) (by kernel_rfl) (by simp) lg
        rw [show vals 3 = .bool false from hR 3 lg] at fg
        have f0 := hF.old (s := 21) (v := .slice pr (dl R) nr) (by kernel_rfl) rfl
        refine Or.inl ⟨wanted_at (j := 3) (s := 146) rfl rfl rfl fg, ?_⟩
        exact wp_val (.slice pr (dl R) nr) (by simp [go_sem, f0]) ⟨_, rfl, Gr.refl _, rfl⟩
      · obtain rfl := Option.some.inj ho
        have lg := on_of hd 3 (by kernel_rfl)
        have fg := hF.at (s := 146) (i := 3) (by kernel_rfl) (by simp) lg
        rw [show vals 3 = .bool false from hR 3 lg] at fg
        have f0 := hF.old (s := 9) (v := .slice pz (dl m) nz) (by kernel_rfl) rfl
        refine Or.inl ⟨wanted_at (j := 3) (s := 146) rfl rfl rfl fg, ?_⟩
        exact wp_val (.slice pz (dl m) nz) (by simp [go_sem, f0]) ⟨_, rfl, Gr.refl _, rfl⟩
      · obtain rfl := Option.some.inj ho
        have lg := on_of hd 3 (by kernel_rfl)
        have fg := hF.at (s := 146) (i := 3) (by kernel_rfl) (by simp) lg
        rw [show vals 3 = .bool false from hR 3 lg] at fg
        have l0 := on_of hd 5 (by kernel_rfl)
        have f0 := hF.at (s := 148) (i := 5) (by kernel_rfl) (by simp) l0
        rw [show vals 5 = .slice p4 (dl a) n4 from hR 5 l0] at f0
        have l1 := on_of hd 6 (by kernel_rfl)
        have f1 := hF.at (s := 149) (i := 6) (by kernel_rfl) (by simp) l1
        rw [show vals 6 = .slice pr (dl R) nr from hR 6 l1] at f1
        have l2 := on_of hd 7 (by kernel_rfl)
        have f2 := hF.at (s := 150) (i := 7) (by kernel_rfl) (by simp) l2
        rw [show vals 7 = .slice pz (dl m) nz from hR 7 l2] at f2
        refine Or.inl ⟨wanted_at (j := 3) (s := 146) rfl rfl rfl fg, ?_⟩
        exact wp_retN (by simp [go_sem, f0, f1, f2]) (MMt.out _ p4 n4 pr nr pz nz (S_p4.gr hg) (S_pr.gr hg) (S_pz.gr hg)) (fun p n w2 hS hg2 => ⟨_, rfl, hg2, p, n, rfl, hS⟩)
      · obtain rfl := Option.some.inj ho
        have lg := on_of hd 3 (by kernel_rfl)
        have fg := hF.at (s := 146) (i := 3) (by kernel_rfl) (by simp) lg
        rw [show vals 3 = .bool false from hR 3 lg] at fg
        have l0 := on_of hd 8 (by kernel_rfl)
        have f0 := hF.at (s := 151) (i := 8) (by kernel_rfl) (by simp) l0
        obtain ⟨p0, n0, e0, S0⟩ := (show ∃ p n, vals 8 = Value.slice p (dl (t)) n ∧ Sl vB p (t) from hR 8 l0)
        rw [e0] at f0
        refine Or.inl ⟨wanted_at (j := 3) (s := 146) rfl rfl rfl fg, ?_⟩
        exact wp_ret (.agg (nw 9 t)) (by simp [go_sem, f0]) (NTt.out _ p0 n0 S0) (fun w2 hg2 => ⟨_, rfl, hg2, rfl⟩)
      · obtain rfl := Option.some.inj ho
        have lg := on_of hd 3 (by kernel_rfl)
        have fg := hF.at (s := 146) (i := 3) (by kernel_rfl) (by simp) lg
        rw [show vals 3 = .bool false from hR 3 lg] at fg
        have l0 := on_of hd 4 (by kernel_rfl)
        have f0 := hF.at (s := 147) (i := 4) (by kernel_rfl) (by simp) l0
        rw [show vals 4 = .agg (nw 9 t) from hR 4 l0] at f0
        have l1 := on_of hd 9 (by kernel_rfl)
        have f1 := hF.at (s := 152) (i := 9) (by kernel_rfl) (by simp) l1
        rw [show vals 9 = .agg (nw 9 t) from hR 9 l1] at f1
        refine Or.inl ⟨wanted_at (j := 3) (s := 146) rfl rfl rfl fg, ?_⟩
        exact wp_val (.bool false) (by simp [go_sem, f0, f1, eqN_self]) ⟨_, rfl, Gr.refl _, rfl⟩
      · obtain rfl := Option.some.inj ho
        have l0 := on_of hd 3 (by kernel_rfl)
        have f0 := hF.at (s := 146) (i := 3) (by kernel_rfl) (by simp) l0
        rw [show vals 3 = .bool false from hR 3 l0] at f0
        have l1 := on_of hd 10 (by kernel_rfl)
        have f1 := hF.at (s := 153) (i := 10) (by kernel_rfl) (by simp) l1
        rw [show vals 10 = .bool false from hR 10 l1] at f1
        refine Or.inl ⟨wanted_no rfl, ?_⟩
        exact wp_val (.bool false) (by simp [go_sem, f0, f1]) ⟨_, rfl, Gr.refl _, rfl⟩
      · obtain rfl := Option.some.inj ho
        have l0 := on_of hd 11 (by kernel_rfl)
        have f0 := hF.at (s := 154) (i := 11) (by kernel_rfl) (by simp) l0
        rw [show vals 11 = .bool false from hR 11 l0] at f0
        refine Or.inl ⟨wanted_no rfl, ?_⟩
        exact wp_val (.bool false) (by simp [go_sem, f0]) ⟨_, rfl, Gr.refl _, rfl⟩
      · obtain rfl := Option.some.inj ho
        have lg := on_of hd 12 (by kernel_rfl)
        have fg := hF.at (s := 155) (i := 12) (by kernel_rfl) (by simp) lg
        rw [show vals 12 = .bool false from hR 12 lg] at fg
        have f0 := hF.old (s := 16) (v := .int .i64 0) (by kernel_rfl) rfl
        refine Or.inl ⟨wanted_at (j := 12) (s := 155) rfl rfl rfl fg, ?_⟩
        exact wp_val (.int .i64 0) (by simp [go_sem, f0]) ⟨_, rfl, Gr.refl _, rfl⟩
      · obtain rfl := Option.some.inj ho
        have lg := on_of hd 12 (by kernel_rfl)
        have fg := hF.at (s := 155) (i := 12) (by kernel_rfl) (by simp) lg
        rw [show vals 12 = .bool false from hR 12 lg] at fg
        have l0 := on_of hd 13 (by kernel_rfl)
        have f0 := hF.at (s := 156) (i := 13) (by kernel_rfl) (by simp) l0
        rw [show vals 13 = .int .i64 0 from hR 13 l0] at f0
        refine Or.inl ⟨wanted_at (j := 12) (s := 155) rfl rfl rfl fg, ?_⟩
        exact wp_ret (.int .i64 0) (by simp [go_sem, f0]) (num5_gr _ _) (fun w2 hg2 => ⟨_, rfl, hg2, rfl⟩)
      · obtain rfl := Option.some.inj ho
        have lg := on_of hd 12 (by kernel_rfl)
        have fg := hF.at (s := 155) (i := 12) (by kernel_rfl) (by simp) lg
        rw [show vals 12 = .bool false from hR 12 lg] at fg
        have l0 := on_of hd 14 (by kernel_rfl)
        have f0 := hF.at (s := 157) (i := 14) (by kernel_rfl) (by simp) l0
        rw [show vals 14 = .int .i64 0 from hR 14 l0] at f0
        refine Or.inl ⟨wanted_at (j := 12) (s := 155) rfl rfl rfl fg, ?_⟩
        exact wp_val (.bool false) (by simp [go_sem, f0]) ⟨_, rfl, Gr.refl _, rfl⟩
      · obtain rfl := Option.some.inj ho
        have l0 := on_of hd 12 (by kernel_rfl)
        have f0 := hF.at (s := 155) (i := 12) (by kernel_rfl) (by simp) l0
        rw [show vals 12 = .bool false from hR 12 l0] at f0
        have l1 := on_of hd 15 (by kernel_rfl)
        have f1 := hF.at (s := 158) (i := 15) (by kernel_rfl) (by simp) l1
        rw [show vals 15 = .bool false from hR 15 l1] at f1
        refine Or.inl ⟨wanted_no rfl, ?_⟩
        exact wp_val (.bool false) (by simp [go_sem, f0, f1]) ⟨_, rfl, Gr.refl _, rfl⟩
      · obtain rfl := Option.some.inj ho
        have l0 := on_of hd 16 (by kernel_rfl)
        have f0 := hF.at (s := 159) (i := 16) (by kernel_rfl) (by simp) l0
        rw [show vals 16 = .bool false from hR 16 l0] at f0
        refine Or.inl ⟨wanted_no rfl, ?_⟩
        exact wp_val (.bool false) (by simp [go_sem, f0]) ⟨_, rfl, Gr.refl _, rfl⟩
      · obtain rfl := Option.some.inj ho
        have lg := on_of hd 17 (by kernel_rfl)
        have fg := hF.at (s := 160) (i := 17) (by kernel_rfl) (by simp) lg
        rw [show vals 17 = .bool false from hR 17 lg] at fg
        have f0 := hF.old (s := 15) (v := .pointer (some ⟨e15, 0, none⟩)) (by kernel_rfl) rfl
        refine Or.inl ⟨wanted_at (j := 17) (s := 160) rfl rfl rfl fg, ?_⟩
        exact wp_val (.agg (nw 9 fr)) (by simp [go_sem, f0, Hc_e15]) ⟨_, rfl, Gr.refl _, rfl⟩
      · obtain rfl := Option.some.inj ho
        have lg := on_of hd 17 (by kernel_rfl)
        have fg := hF.at (s := 160) (i := 17) (by kernel_rfl) (by simp) lg
        rw [show vals 17 = .bool false from hR 17 lg] at fg
        have f0 := hF.old (s := 11) (v := .slice p4 (dl a) n4) (by kernel_rfl) rfl
        refine Or.inl ⟨wanted_at (j := 17) (s := 160) rfl rfl rfl fg, ?_⟩
        exact wp_val (.slice p4 (dl a) n4) (by simp [go_sem, f0]) ⟨_, rfl, Gr.refl _, rfl⟩
      · obtain rfl := Option.some.inj ho
        have lg := on_of hd 17 (by kernel_rfl)
        have fg := hF.at (s := 160) (i := 17) (by kernel_rfl) (by simp) lg
        rw [show vals 17 = .bool false from hR 17 lg] at fg
        have f0 := hF.old (s := 22) (v := .slice pu (dl u) nu) (by kernel_rfl) rfl
        refine Or.inl ⟨wanted_at (j := 17) (s := 160) rfl rfl rfl fg, ?_⟩
        exact wp_val (.slice pu (dl u) nu) (by simp [go_sem, f0]) ⟨_, rfl, Gr.refl _, rfl⟩
      · obtain rfl := Option.some.inj ho
        have lg := on_of hd 17 (by kernel_rfl)
        have fg := hF.at (s := 160) (i := 17) (by kernel_rfl) (by simp) lg
        rw [show vals 17 = .bool false from hR 17 lg] at fg
        have f0 := hF.old (s := 9) (v := .slice pz (dl m) nz) (by kernel_rfl) rfl
        refine Or.inl ⟨wanted_at (j := 17) (s := 160) rfl rfl rfl fg, ?_⟩
        exact wp_val (.slice pz (dl m) nz) (by simp [go_sem, f0]) ⟨_, rfl, Gr.refl _, rfl⟩
      · obtain rfl := Option.some.inj ho
        have lg := on_of hd 17 (by kernel_rfl)
        have fg := hF.at (s := 160) (i := 17) (by kernel_rfl) (by simp) lg
        rw [show vals 17 = .bool false from hR 17 lg] at fg
        have l0 := on_of hd 19 (by kernel_rfl)
        have f0 := hF.at (s := 162) (i := 19) (by kernel_rfl) (by simp) l0
        rw [show vals 19 = .slice p4 (dl a) n4 from hR 19 l0] at f0
        have l1 := on_of hd 20 (by kernel_rfl)
        have f1 := hF.at (s := 163) (i := 20) (by kernel_rfl) (by simp) l1
        rw [show vals 20 = .slice pu (dl u) nu from hR 20 l1] at f1
        have l2 := on_of hd 21 (by kernel_rfl)
        have f2 := hF.at (s := 164) (i := 21) (by kernel_rfl) (by simp) l2
        rw [show vals 21 = .slice pz (dl m) nz from hR 21 l2] at f2
        refine Or.inl ⟨wanted_at (j := 17) (s := 160) rfl rfl rfl fg, ?_⟩
        exact wp_retN (by simp [go_sem, f0, f1, f2]) (MMf.out _ p4 n4 pu nu pz nz (S_p4.gr hg) (S_pu.gr hg) (S_pz.gr hg)) (fun p n w2 hS hg2 => ⟨_, rfl, hg2, p, n, rfl, hS⟩)
      · obtain rfl := Option.some.inj ho
        have lg := on_of hd 17 (by kernel_rfl)
        have fg := hF.at (s := 160) (i := 17) (by kernel_rfl) (by simp) lg
        rw [show vals 17 = .bool false from hR 17 lg] at fg
        have l0 := on_of hd 22 (by kernel_rfl)
        have f0 := hF.at (s := 165) (i := 22) (by kernel_rfl) (by simp) l0
        obtain ⟨p0, n0, e0, S0⟩ := (show ∃ p n, vals 22 = Value.slice p (dl (fr)) n ∧ Sl vB p (fr) from hR 22 l0)
        rw [e0] at f0
        refine Or.inl ⟨wanted_at (j := 17) (s := 160) rfl rfl rfl fg, ?_⟩
        exact wp_ret (.agg (nw 9 fr)) (by simp [go_sem, f0]) (NTf.out _ p0 n0 S0) (fun w2 hg2 => ⟨_, rfl, hg2, rfl⟩)
      · obtain rfl := Option.some.inj ho
        have lg := on_of hd 17 (by kernel_rfl)
        have fg := hF.at (s := 160) (i := 17) (by kernel_rfl) (by simp) lg
        rw [show vals 17 = .bool false from hR 17 lg] at fg
        have l0 := on_of hd 18 (by kernel_rfl)
        have f0 := hF.at (s := 161) (i := 18) (by kernel_rfl) (by simp) l0
        rw [show vals 18 = .agg (nw 9 fr) from hR 18 l0] at f0
        have l1 := on_of hd 23 (by kernel_rfl)
        have f1 := hF.at (s := 166) (i := 23) (by kernel_rfl) (by simp) l1
        rw [show vals 23 = .agg (nw 9 fr) from hR 23 l1] at f1
        refine Or.inl ⟨wanted_at (j := 17) (s := 160) rfl rfl rfl fg, ?_⟩
        exact wp_val (.bool false) (by simp [go_sem, f0, f1, eqN_self]) ⟨_, rfl, Gr.refl _, rfl⟩
      · obtain rfl := Option.some.inj ho
        have l0 := on_of hd 17 (by kernel_rfl)
        have f0 := hF.at (s := 160) (i := 17) (by kernel_rfl) (by simp) l0
        rw [show vals 17 = .bool false from hR 17 l0] at f0
        have l1 := on_of hd 24 (by kernel_rfl)
        have f1 := hF.at (s := 167) (i := 24) (by kernel_rfl) (by simp) l1
        rw [show vals 24 = .bool false from hR 24 l1] at f1
        refine Or.inl ⟨wanted_no rfl, ?_⟩
        exact wp_val (.bool false) (by simp [go_sem, f0, f1]) ⟨_, rfl, Gr.refl _, rfl⟩
    case hf =>
      intro vals vB hg hR
      have x0 : vals 0 = .int .i64 0 := hR 0 (by simp)
      have x1 : vals 1 = .int .i64 0 := hR 1 (by simp)
      have x2 : vals 2 = .bool false := hR 2 (by simp)
      have x3 : vals 3 = .bool false := hR 3 (by simp)
      have x4 : vals 4 = .agg (nw 9 t) := hR 4 (by simp)
      have x5 : vals 5 = .slice p4 (dl a) n4 := hR 5 (by simp)
      have x6 : vals 6 = .slice pr (dl R) nr := hR 6 (by simp)
      have x7 : vals 7 = .slice pz (dl m) nz := hR 7 (by simp)
      obtain ⟨p8, n8, x8, S8⟩ := (show ∃ p n, vals 8 = Value.slice p (dl (t)) n ∧ Sl vB p (t) from hR 8 (by simp))
      have x9 : vals 9 = .agg (nw 9 t) := hR 9 (by simp)
      have x10 : vals 10 = .bool false := hR 10 (by simp)
      have x11 : vals 11 = .bool false := hR 11 (by simp)
      have x12 : vals 12 = .bool false := hR 12 (by simp)
      have x13 : vals 13 = .int .i64 0 := hR 13 (by simp)
      have x14 : vals 14 = .int .i64 0 := hR 14 (by simp)
      have x15 : vals 15 = .bool false := hR 15 (by simp)
      have x16 : vals 16 = .bool false := hR 16 (by simp)
      have x17 : vals 17 = .bool false := hR 17 (by simp)
      have x18 : vals 18 = .agg (nw 9 fr) := hR 18 (by simp)
      have x19 : vals 19 = .slice p4 (dl a) n4 := hR 19 (by simp)
      have x20 : vals 20 = .slice pu (dl u) nu := hR 20 (by simp)
      have x21 : vals 21 = .slice pz (dl m) nz := hR 21 (by simp)
      obtain ⟨p22, n22, x22, S22⟩ := (show ∃ p n, vals 22 = Value.slice p (dl (fr)) n ∧ Sl vB p (fr) from hR 22 (by simp))
      have x23 : vals 23 = .agg (nw 9 fr) := hR 23 (by simp)
      have x24 : vals 24 = .bool false := hR 24 (by simp)
      have x25 : vals 25 = .bool false := hR 25 (by simp)
      simp only [putFrom, Act.put, List.setIfInBounds_toArray, List.set_cons_zero, List.set_cons_succ, x0, x1, x2, x3, x4, x5, x6, x7, x8, x9, x10, x11, x12, x13, x14, x15, x16, x17, x18, x19, x20, x21, x22, x23, x24, x25]
      clear hR x0 x1 x2 x3 x4 x5 x6 x7 x8 x9 x10 x11 x12 x13 x14 x15 x16 x17 x18 x19 x20 x21 x22 x23 x24 x25
      have HW : Hid (Gr w vB ∧ Cl vB (w.heap.size) m ∧ Cl vB (w.heap.size + 1) a ∧ Cl vB (w.heap.size + 1 + 1) b0 ∧ Cl vB e13 t ∧ Cl vB e15 fr ∧ Cl vB e17 0 ∧ Cl vB e19 xi ∧ Mn vB bx m k u ∧ Sl vB pz m ∧ Sl vB p4 a ∧ Sl vB p5 b0 ∧ Sl vB pr R ∧ Sl vB pu u) := ⟨G.trans hg, c_w_heap_size.gr hg, c__w_heap_size_1_.gr hg, c__w_heap_size_1_1_.gr hg, c_e13.gr hg, c_e15.gr hg, c_e17.gr hg, c_e19.gr hg, S_x.gr hg, S_pz.gr hg, S_p4.gr hg, S_p5.gr hg, S_pr.gr hg, S_pu.gr hg⟩
      clear HV hg G c_w_heap_size c__w_heap_size_1_ c__w_heap_size_1_1_ c_e13 c_e15 c_e17 c_e19 S_x S_pz S_p4 S_p5 S_pr S_pu
      have HV := HW
      clear HW
      have ⟨G, c_w_heap_size, c__w_heap_size_1_, c__w_heap_size_1_1_, c_e13, c_e15, c_e17, c_e19, S_x, S_pz, S_p4, S_p5, S_pr, S_pu⟩ := HV.out
      have ⟨hc_w_heap_size, fc_w_heap_size, pc_w_heap_size⟩ := c_w_heap_size
      have ⟨hc__w_heap_size_1_, fc__w_heap_size_1_, pc__w_heap_size_1_⟩ := c__w_heap_size_1_
      have ⟨hc__w_heap_size_1_1_, fc__w_heap_size_1_1_, pc__w_heap_size_1_1_⟩ := c__w_heap_size_1_1_
      have ⟨hc_e13, fc_e13, pc_e13⟩ := c_e13
      have ⟨hc_e15, fc_e15, pc_e15⟩ := c_e15
      have ⟨hc_e17, fc_e17, pc_e17⟩ := c_e17
      have ⟨hc_e19, fc_e19, pc_e19⟩ := c_e19
      go_upto_region 22 with (go_at_call 11; refine (HCb.out _ p5 n5 pz nz (S_p5.gr (by repeat (first | exact Gr.refl _ | apply Gr.drewN | apply Gr.drew | apply Gr.alloc | apply Gr.gro))) (S_pz.gr (by repeat (first | exact Gr.refl _ | apply Gr.drewN | apply Gr.drew | apply Gr.alloc | apply Gr.gro)))).mono ?_; rintro e w' ⟨rfl, gcb, rfl⟩)
      clear HV
      go_wp2_with (first
      | (go_at_call 12; refine (num_any _ _).mono ?_; rintro e w' ⟨rfl, rfl⟩)
      | (go_at_call 13; refine (awake6_any _).mono ?_; rintro e w' ⟨rfl, gaw, rfl⟩))
      go_ret
      refine ⟨rfl, ?_⟩
      repeat (first | exact G | apply Gr.drewN | apply Gr.drew | apply Gr.alloc | apply Gr.gro)

end Go.Proofs.Ytleckbdhebjfkaa
namespace Go.Proofs.Ytleckbdhebjfkaa
open Go.RowKit
attribute [local go_sem ↓] loadNat_is loadArr_is loadWide_is loadArrW_is storeNat_is storeWide_is
attribute [local go_sem] loadNat loadArr loadWide loadArrW storeNat storeWide idxArr fold9 fold18 nw_size nw_elem pre_self pre_1 pre_2 pre_3 pre_4 pre_5 pre_6 pre_7 pre_8 pre_9 pre_10 pre_11 pre_12 pre_13 pre_14 pre_15 pre_16 pre_17 pre_18 pre_19 pre_20 pre_21 pre_22 pre_23 pre_24 pre_25 pre_26 pre_27 pre_28 pre_29 pre_30 pre_31 pre_32 pre_33 pre_34 pre_35 pre_36 pre_37 pre_38 pre_39 pre_40 gro_size gro_drew gro_drewN drew_gro drewN_gro gro_gro blk_gro frz_gro blk_drew frz_drew blk_drewN frz_drewN blk_alloc_at frz_alloc_at blk_alloc frz_alloc cell_gro frozen_gro cell_alloc_pre frozen_alloc_pre setCell_drewN alloc_drewN setBlk_drew setBlk_drewN setBlk_alloc_at setBlk_alloc setBlk_gro setCell_gro setCell_alloc_pre size_setBlk size_setCell
attribute [local go_sem] nw_ext9 nw_ext18 eqArr9 eqArr18

attribute [local go_sem] loadNat2 loadArr2 loadWide2 loadK_nw ppre_1 ppre_2 ppre_3 ppre_4 ppre_5 ppre_6 ppre_7 ppre_8 ppre_9 ppre_10 ppre_11 ppre_12 ppre_13 ppre_14 ppre_15 ppre_16 ppre_17 ppre_18 ppre_19 ppre_20

attribute [local go_sem ↓] Go.wp_at_zero Go.wp_at_succ bsl_is
attribute [local go_sem] eqN_self frz_setBlk blk_setBlk setBlk_setBlk blk_other
set_option maxRecDepth 100000 in
set_option maxHeartbeats 8000000 in
theorem monts_none (m a b0 : Nat) (hmM : m < M) (haM : a < M) (hb0M : b0 < M) (h2 : m % 2 = 1) (h3 : 3 ≤ m) (ha : a < m) (hb : b0 < m) (hgc : Nat.gcd m a ≠ 1) (w : World) :
    Calls Try.prog 3 #[.agg (nw 9 m), .agg (nw 9 a), .agg (nw 9 b0)] w fun e w' => e = .returned (.bool true) ∧ Gr w w' := by
  have h3' : 1 < m := by omega
  have hm0 : 0 < m := by omega
  obtain ⟨k1, k9, hlt⟩ := kw_facts m hm0 hmM
  obtain ⟨u, ho, HN0⟩ := New_ok m h2 h3 hmM
  obtain ⟨k, hk⟩ : ∃ k, kw m = k := ⟨_, rfl⟩
  rw [hk] at ho HN0 k1 k9 hlt
  obtain ⟨q0, hq0⟩ : ∃ q, bl m = q := ⟨_, rfl⟩
  have q9 : q0 ≤ 576 := by rw [← hq0]; exact bl_pwk m 9 hmM
  have hkq : k = (q0 + 63) / 64 := by rw [← hk, ← hq0]; rfl
  obtain ⟨e0, he0⟩ : ∃ e, q0 + 63 = e := ⟨_, rfl⟩
  have s1 : (q0 : Int) + 63 = (e0 : Int) := by omega
  have s2 : (e0 : Int).tdiv 64 = (k : Int) := by rw [Int.tdiv_eq_ediv_of_nonneg (by omega)]; omega
  have s3 : (e0 : Int) / 64 = (k : Int) := by omega
  have q00 : (0 : Int) ≤ (q0 : Int) := by omega
  have q10 : (q0 : Int) ≤ 576 := by omega
  have k00 : (0 : Int) ≤ (k : Int) := by omega
  have k90 : (k : Int) ≤ 9 := by omega
  have FM : Hid (∀ w, Calls Try.prog 9 #[.agg (nw 9 m)] w (Nm m w)) := fun w => from_any m hmM w
  have FA : Hid (∀ w, Calls Try.prog 9 #[.agg (nw 9 a)] w (Nm a w)) := fun w => from_any a haM w
  have FB0 : Hid (∀ w, Calls Try.prog 9 #[.agg (nw 9 b0)] w (Nm b0 w)) := fun w => from_any b0 hb0M w
  have HBit : Hid (∀ w' p' n', Sl w' p' m → Calls Try.prog 10 #[.slice p' (dl m) n', .int .i64 0] w' fun e w'' => e = .returned (.int .i64 1) ∧ Gr w' w'') := fun w' p' n' h => (rbit_any m n' 0 p' w' h (by decide)).mono fun e w'' h1 => ⟨by rw [h1.1]; unfold bitN; rw [Nat.pow_zero, Nat.div_one, h2]; rfl, by rw [h1.2]; exact Gr.refl _⟩
  obtain ⟨c3, hc3⟩ : ∃ z, cmpZ m 3 = z := ⟨_, rfl⟩
  have HC3 : Hid (∀ w' p' n' q' k', Sl w' p' m → Sl w' q' 3 → Calls Try.prog 11 #[.slice p' (dl m) n', .slice q' 1 k'] w' fun e w'' => e = .returned (.int .i64 c3) ∧ Gr w' w'') := fun w' p' n' q' k' h h' => hc3 ▸ rcmp_any m 3 n' k' p' q' w' h h' (by have := dl_M m hmM; omega) (by decide)
  have hb3 : ∀ w, (bslS 31 1 #[(0, .int .u32 3)]).run Try.prog w = .ok (.slice (some ⟨w.heap.size, 0, none⟩) 1 1) (w.alloc (.cells (nd 1 3) 35)) := fun w => build1 3 (by decide) w
  have c30 : 0 ≤ c3 := by rw [← hc3]; unfold cmpZ; rw [if_neg (by omega)]; split <;> decide
  have HBits : Hid (∀ w' p' n', Sl w' p' m → Calls Try.prog 14 #[.slice p' (dl m) n'] w' fun e w'' => e = .returned (.int .i64 (q0 : Int)) ∧ Gr w' w'') := fun w' p' n' h => (rbits_any m n' p' w' h (by have := dl_M m hmM; omega)).mono fun e w'' h1 => ⟨by rw [h1.1, hq0], by rw [h1.2]; exact Gr.refl _⟩
  obtain ⟨c1, hc1⟩ : ∃ z, cmpZ a m = z := ⟨_, rfl⟩
  have HCa : Hid (∀ w' p' n' q' k', Sl w' p' a → Sl w' q' m → Calls Try.prog 11 #[.slice p' (dl a) n', .slice q' (dl m) k'] w' fun e w'' => e = .returned (.int .i64 c1) ∧ Gr w' w'') := fun w' p' n' q' k' h h' => hc1 ▸ rcmp_any a m n' k' p' q' w' h h' (by have := dl_M a haM; omega) (by have := dl_M m hmM; omega)
  have c10 : c1 < 0 := by rw [← hc1]; unfold cmpZ; rw [if_pos ha]; decide
  obtain ⟨P, hP⟩ : ∃ P, pw k = P := ⟨_, rfl⟩
  obtain ⟨R, hR⟩ : ∃ R, P % m = R := ⟨_, rfl⟩
  have hRm : R < m := by rw [← hR]; exact Nat.mod_lt _ hm0
  have hRM : R < M := by omega
  have hum := ho.ul
  have huM : u < M := by omega
  have hPd : dl P ≤ 400 := by rw [← hP]; exact dl_pw k (by omega)
  obtain ⟨k6, hk6⟩ : ∃ k6, 64 * k = k6 := ⟨_, rfl⟩
  have hk6i : (64 : Int) * (k : Int) = (k6 : Int) := by omega
  have hk6w : IntKind.i64.wrap ((64 : Int) * (k : Int)) = (k6 : Int) := by rw [IntKind.wrap_i64]; omega
  have hP6 : 1 * 2 ^ k6 = P := by rw [← hP, ← hk6, Nat.one_mul]; rfl
  have hb1 : ∀ w, (bslS 31 1 #[(0, .int .u32 1)]).run Try.prog w = .ok (.slice (some ⟨w.heap.size, 0, none⟩) 1 1) (w.alloc (.cells (nd 1 1) 35)) := fun w => build1 1 (by decide) w
  have HSh : Hid (∀ w' p' n', Sl w' p' 1 → Calls Try.prog 21 #[.slice p' 1 n', .int .i64 (k6 : Int)] w' (Nm P w')) := fun w' p' n' h => hP6 ▸ rshl_any 1 n' k6 p' w' h (by decide) (by omega)
  have HMd : Hid (∀ w' p' n' q' k', Sl w' p' P → Sl w' q' m → Calls Try.prog 20 #[.slice p' (dl P) n', .slice q' (dl m) k'] w' (Nm R w')) := fun w' p' n' q' k' h h' => hR ▸ rmod_any P m n' k' p' q' w' h h' (by omega) (by have := dl_M m hmM; omega) hm0
  have hRu : R * u % m = 1 := by rw [← hR, ← hP, mod_mul1]; exact ho.inv
  have HIu : Hid (∀ w' p' n' q' k', Sl w' p' R → Sl w' q' m → Calls Try.prog 22 #[.slice p' (dl R) n', .slice q' (dl m) k'] w' (NtM u w')) := fun w' p' n' q' k' h h' => rinv_is R m u n' k' p' q' w' h h' (by have := dl_M R hRM; omega) (by have := dl_M m hmM; omega) h3' hum hRu
  obtain ⟨t, ht⟩ : ∃ t, a * pw k % m = t := ⟨_, rfl⟩
  obtain ⟨fr, hfr⟩ : ∃ f, a * u % m = f := ⟨_, rfl⟩
  have htR : a * R % m = t := by rw [← ht, ← hR, ← hP, mod_mul2]
  have MMt : Hid (∀ w' p' n' q' k' r' j', Sl w' p' a → Sl w' q' R → Sl w' r' m → Calls Try.prog 24 #[.slice p' (dl a) n', .slice q' (dl R) k', .slice r' (dl m) j'] w' (Nm t w')) := fun w' p' n' q' k' r' j' h h' h'' => htR ▸ rmulmod_any a R m n' k' j' p' q' r' w' h h' h'' (by have := dl_M a haM; omega) (by have := dl_M R hRM; omega) (by have := dl_M m hmM; omega) (by omega)
  have MMf : Hid (∀ w' p' n' q' k' r' j', Sl w' p' a → Sl w' q' u → Sl w' r' m → Calls Try.prog 24 #[.slice p' (dl a) n', .slice q' (dl u) k', .slice r' (dl m) j'] w' (Nm fr w')) := fun w' p' n' q' k' r' j' h h' h'' => hfr ▸ rmulmod_any a u m n' k' j' p' q' r' w' h h' h'' (by have := dl_M a haM; omega) (by have := dl_M u huM; omega) (by have := dl_M m hmM; omega) (by omega)
  have NTt : Hid (∀ w' p' n', Sl w' p' t → Calls Try.prog 23 #[.slice p' (dl t) n'] w' fun e w'' => e = .returned (.agg (nw 9 t)) ∧ Gr w' w'') := fun w' p' n' h => rnat_any t n' p' w' h
  have NTf : Hid (∀ w' p' n', Sl w' p' fr → Calls Try.prog 23 #[.slice p' (dl fr) n'] w' fun e w'' => e = .returned (.agg (nw 9 fr)) ∧ Gr w' w'') := fun w' p' n' h => rnat_any fr n' p' w' h
  obtain ⟨c2, hc2⟩ : ∃ z, cmpZ b0 m = z := ⟨_, rfl⟩
  have HCb : Hid (∀ w' p' n' q' k', Sl w' p' b0 → Sl w' q' m → Calls Try.prog 11 #[.slice p' (dl b0) n', .slice q' (dl m) k'] w' fun e w'' => e = .returned (.int .i64 c2) ∧ Gr w' w'') := fun w' p' n' q' k' h h' => hc2 ▸ rcmp_any b0 m n' k' p' q' w' h h' (by have := dl_M b0 hb0M; omega) (by have := dl_M m hmM; omega)
  have c20 : c2 < 0 := by rw [← hc2]; unfold cmpZ; rw [if_pos hb]; decide
  obtain ⟨d1, hd1⟩ : ∃ d, a * b0 % m = d := ⟨_, rfl⟩
  have hd1M : d1 < M := Nat.lt_trans (by rw [← hd1]; exact Nat.mod_lt _ hm0) hmM
  obtain ⟨gm, hgm⟩ : ∃ g, a * b0 * u % m = g := ⟨_, rfl⟩
  have hgd : d1 * u % m = gm := by rw [← hd1, mod_mul1]; exact hgm
  have MMd : Hid (∀ w' p' n' q' k' r' j', Sl w' p' a → Sl w' q' b0 → Sl w' r' m → Calls Try.prog 24 #[.slice p' (dl a) n', .slice q' (dl b0) k', .slice r' (dl m) j'] w' (Nm d1 w')) := fun w' p' n' q' k' r' j' h h' h'' => hd1 ▸ rmulmod_any a b0 m n' k' j' p' q' r' w' h h' h'' (by have := dl_M a haM; omega) (by have := dl_M b0 hb0M; omega) (by have := dl_M m hmM; omega) (by omega)
  have MMg : Hid (∀ w' p' n' q' k' r' j', Sl w' p' d1 → Sl w' q' u → Sl w' r' m → Calls Try.prog 24 #[.slice p' (dl d1) n', .slice q' (dl u) k', .slice r' (dl m) j'] w' (Nm gm w')) := fun w' p' n' q' k' r' j' h h' h'' => hgd ▸ rmulmod_any d1 u m n' k' j' p' q' r' w' h h' h'' (by have := dl_M d1 hd1M; omega) (by have := dl_M u huM; omega) (by have := dl_M m hmM; omega) (by omega)
  have NTg : Hid (∀ w' p' n', Sl w' p' gm → Calls Try.prog 23 #[.slice p' (dl gm) n'] w' fun e w'' => e = .returned (.agg (nw 9 gm)) ∧ Gr w' w'') := fun w' p' n' h => rnat_any gm n' p' w' h
  have hI := fun w => inv_none a m haM h3' hmM hgc w
  have HIx : Hid (∀ w' p' n' q' k', Sl w' p' a → Sl w' q' m → Calls Try.prog 22 #[.slice p' (dl a) n', .slice q' (dl m) k'] w' (fun e w'' => e = .returned (.tuple #[.slice none 0 0, .bool false]) ∧ Gr w' w'')) := fun w' p' n' q' k' h h' => rinv_not a m n' k' p' q' w' h h' (by have := dl_M a haM; omega) (by have := dl_M m hmM; omega) h3' hgc
  have W1 : Hid (∀ (b : Nat) w', Mn w' b m k u → Calls Try.prog 19 #[.pointer (some ⟨b, 0, none⟩)] w' fun e w'' => e = .returned (.int .i64 (k : Int)) ∧ Gr w' w'') := fun b w' h => Words_any b m k u w' h
  have T1 : Hid (∀ (b : Nat) w', Mn w' b m k u → Calls Try.prog 15 #[.pointer (some ⟨b, 0, none⟩), .agg (nw 9 a)] w' fun e w'' => e = .returned (.tuple #[.agg (nw 9 t), .int .i64 0]) ∧ Gr w' w'') := fun b w' h => ht ▸ To_ok b m k u a w' h ha
  have F1 : Hid (∀ (b : Nat) w', Mn w' b m k u → Calls Try.prog 16 #[.pointer (some ⟨b, 0, none⟩), .agg (nw 9 a)] w' fun e w'' => e = .returned (.tuple #[.agg (nw 9 fr), .int .i64 0]) ∧ Gr w' w'') := fun b w' h => hfr ▸ From_ok b m k u a w' h ha
  have M1 : Hid (∀ (b : Nat) w', Mn w' b m k u → Calls Try.prog 17 #[.pointer (some ⟨b, 0, none⟩), .agg (nw 9 a), .agg (nw 9 b0)] w' fun e w'' => e = .returned (.tuple #[.agg (nw 9 gm), .int .i64 0]) ∧ Gr w' w'') := fun b w' h => hgm ▸ Mul_ok b m k u a b0 w' h ⟨ha, hb⟩
  have I1 : Hid (∀ (b : Nat) w', Mn w' b m k u → Calls Try.prog 18 #[.pointer (some ⟨b, 0, none⟩), .agg (nw 9 a)] w' fun e w'' => e = .returned (.tuple #[.agg (nw 9 0), .int .i64 401]) ∧ Gr w' w'') := fun b w' h => Inv_none b m k u a w' h hI ha
  have HN : Hid (∀ w, Calls Try.prog 8 #[.agg (nw 9 m)] w fun e w' => ∃ b, e = .returned (.tuple #[.pointer (some ⟨b, 0, none⟩), .int .i64 0]) ∧ Mn w' b m k u ∧ Gr w w') := HN0
  clear HN0 hc1 hc3 he0 hkq q9 hq0 hk k1 k9 hlt h2 h3 h3' hm0 hc2 htR ht hfr hRu hP6 hk6 hPd huM hum hRM hRm hR hP hgd hgm hd1 hd1M hI hgc ho ha haM hb0M hmM hb
  go_enter Try.func3, Try.ntmps3
  go_upto_region 1 with fail
  refine gen_w (fun v => Hid (Gr w v ∧ Cl v (w.heap.size) m ∧ Cl v (w.heap.size + 1) a ∧ Cl v (w.heap.size + 1 + 1) b0)) ⟨(by repeat (first | exact Gr.refl _ | apply Gr.drewN | apply Gr.drew | apply Gr.alloc | apply Gr.gro)), ⟨by simp [go_sem], by simp [go_sem], by simp [go_sem]⟩, ⟨by simp [go_sem], by simp [go_sem], by simp [go_sem]⟩, ⟨by simp [go_sem], by simp [go_sem], by simp [go_sem]⟩⟩ ?_
  intro v0 HV
  go_cut [7, 8] from 26 to 30 (fun a0 a1 wx => ∃ bx : Nat, a0 = .pointer (some ⟨bx, 0, none⟩) ∧ a1 = .int .i64 0 ∧ Hid (Gr w wx ∧ Cl wx (w.heap.size) m ∧ Cl wx (w.heap.size + 1) a ∧ Cl wx (w.heap.size + 1 + 1) b0 ∧ Mn wx bx m k u))
  case first =>
    have ⟨G, c_w_heap_size, c__w_heap_size_1_, c__w_heap_size_1_1_⟩ := HV.out
    have ⟨hc_w_heap_size, fc_w_heap_size, pc_w_heap_size⟩ := c_w_heap_size
    have ⟨hc__w_heap_size_1_, fc__w_heap_size_1_, pc__w_heap_size_1_⟩ := c__w_heap_size_1_
    have ⟨hc__w_heap_size_1_1_, fc__w_heap_size_1_1_, pc__w_heap_size_1_1_⟩ := c__w_heap_size_1_1_
    go_wp2_with (go_at_call 8; refine (HN.out _).mono ?_; rintro e W1 ⟨bx, rfl, S1, G1⟩)
    go_meet
    exact ⟨bx, rfl, rfl, G.trans ((Gr.trans (by repeat (first | exact Gr.refl _ | apply Gr.drewN | apply Gr.drew | apply Gr.alloc | apply Gr.gro)) G1).trans (by repeat (first | exact Gr.refl _ | apply Gr.drewN | apply Gr.drew | apply Gr.alloc | apply Gr.gro))), c_w_heap_size.gr ((Gr.trans (by repeat (first | exact Gr.refl _ | apply Gr.drewN | apply Gr.drew | apply Gr.alloc | apply Gr.gro)) G1).trans (by repeat (first | exact Gr.refl _ | apply Gr.drewN | apply Gr.drew | apply Gr.alloc | apply Gr.gro))), c__w_heap_size_1_.gr ((Gr.trans (by repeat (first | exact Gr.refl _ | apply Gr.drewN | apply Gr.drew | apply Gr.alloc | apply Gr.gro)) G1).trans (by repeat (first | exact Gr.refl _ | apply Gr.drewN | apply Gr.drew | apply Gr.alloc | apply Gr.gro))), c__w_heap_size_1_1_.gr ((Gr.trans (by repeat (first | exact Gr.refl _ | apply Gr.drewN | apply Gr.drew | apply Gr.alloc | apply Gr.gro)) G1).trans (by repeat (first | exact Gr.refl _ | apply Gr.drewN | apply Gr.drew | apply Gr.alloc | apply Gr.gro))), S1.gr (by repeat (first | exact Gr.refl _ | apply Gr.drewN | apply Gr.drew | apply Gr.alloc | apply Gr.gro))⟩
  clear HV
  obtain ⟨bx, rfl, rfl, HV⟩ := hcut
  go_upto_region 2 with fail
  go_cut [9] from 31 to 32 (fun a0 wx => ∃ (px : Option Addr) (nx : Nat), a0 = .slice px (dl m) nx ∧ Hid (Gr w wx ∧ Cl wx (w.heap.size) m ∧ Cl wx (w.heap.size + 1) a ∧ Cl wx (w.heap.size + 1 + 1) b0 ∧ Mn wx bx m k u ∧ Sl wx px m))
  case first =>
    have ⟨G, c_w_heap_size, c__w_heap_size_1_, c__w_heap_size_1_1_, S_x⟩ := HV.out
    have ⟨hc_w_heap_size, fc_w_heap_size, pc_w_heap_size⟩ := c_w_heap_size
    have ⟨hc__w_heap_size_1_, fc__w_heap_size_1_, pc__w_heap_size_1_⟩ := c__w_heap_size_1_
    have ⟨hc__w_heap_size_1_1_, fc__w_heap_size_1_1_, pc__w_heap_size_1_1_⟩ := c__w_heap_size_1_1_
    go_wp2_with (go_at_call 9; refine (FM.out _).mono ?_; rintro e W1 ⟨px, nx, rfl, S1, G1⟩)
    go_meet
    exact ⟨px, nx, rfl, G.trans ((Gr.trans (by repeat (first | exact Gr.refl _ | apply Gr.drewN | apply Gr.drew | apply Gr.alloc | apply Gr.gro)) G1).trans (by repeat (first | exact Gr.refl _ | apply Gr.drewN | apply Gr.drew | apply Gr.alloc | apply Gr.gro))), c_w_heap_size.gr ((Gr.trans (by repeat (first | exact Gr.refl _ | apply Gr.drewN | apply Gr.drew | apply Gr.alloc | apply Gr.gro)) G1).trans (by repeat (first | exact Gr.refl _ | apply Gr.drewN | apply Gr.drew | apply Gr.alloc | apply Gr.gro))), c__w_heap_size_1_.gr ((Gr.trans (by repeat (first | exact Gr.refl _ | apply Gr.drewN | apply Gr.drew | apply Gr.alloc | apply Gr.gro)) G1).trans (by repeat (first | exact Gr.refl _ | apply Gr.drewN | apply Gr.drew | apply Gr.alloc | apply Gr.gro))), c__w_heap_size_1_1_.gr ((Gr.trans (by repeat (first | exact Gr.refl _ | apply Gr.drewN | apply Gr.drew | apply Gr.alloc | apply Gr.gro)) G1).trans (by repeat (first | exact Gr.refl _ | apply Gr.drewN | apply Gr.drew | apply Gr.alloc | apply Gr.gro))), S_x.gr ((Gr.trans (by repeat (first | exact Gr.refl _ | apply Gr.drewN | apply Gr.drew | apply Gr.alloc | apply Gr.gro)) G1).trans (by repeat (first | exact Gr.refl _ | apply Gr.drewN | apply Gr.drew | apply Gr.alloc | apply Gr.gro))), S1.gr (by repeat (first | exact Gr.refl _ | apply Gr.drewN | apply Gr.drew | apply Gr.alloc | apply Gr.gro))⟩
  clear HV
  obtain ⟨pz, nz, rfl, HV⟩ := hcut
  have ⟨G, c_w_heap_size, c__w_heap_size_1_, c__w_heap_size_1_1_, S_x, S_pz⟩ := HV.out
  have ⟨hc_w_heap_size, fc_w_heap_size, pc_w_heap_size⟩ := c_w_heap_size
  have ⟨hc__w_heap_size_1_, fc__w_heap_size_1_, pc__w_heap_size_1_⟩ := c__w_heap_size_1_
  have ⟨hc__w_heap_size_1_1_, fc__w_heap_size_1_1_, pc__w_heap_size_1_1_⟩ := c__w_heap_size_1_1_
  go_upto_region 8 with (first
      | (go_at_call 10; refine (HBit.out _ pz nz (S_pz.gr (by repeat (first | exact Gr.refl _ | apply Gr.drewN | apply Gr.drew | apply Gr.alloc | apply Gr.gro)))).mono ?_; rintro e w' ⟨rfl, gb, rfl⟩)
      | (go_at_call 11; refine (HC3.out _ pz nz _ _ (S_pz.gr (by repeat (first | exact Gr.refl _ | apply Gr.drewN | apply Gr.drew | apply Gr.alloc | apply Gr.gro))) (Sl.of_blk (n := 1) (by simp [go_sem]) (by simp [go_sem]) (by decide))).mono ?_; rintro e w' ⟨rfl, gc, rfl⟩)
      | (go_at_call 12; refine (num_any _ _).mono ?_; rintro e w' ⟨rfl, rfl⟩)
      | (go_at_call 14; refine (HBits.out _ pz nz (S_pz.gr (by repeat (first | exact Gr.refl _ | apply Gr.drewN | apply Gr.drew | apply Gr.alloc | apply Gr.gro)))).mono ?_; rintro e w' ⟨rfl, gl, rfl⟩))
  refine gen_w (fun v => Hid (Gr w v ∧ Cl v (w.heap.size) m ∧ Cl v (w.heap.size + 1) a ∧ Cl v (w.heap.size + 1 + 1) b0 ∧ Mn v bx m k u ∧ Sl v pz m)) ⟨G.trans (by repeat (first | exact Gr.refl _ | apply Gr.drewN | apply Gr.drew | apply Gr.alloc | apply Gr.gro)), c_w_heap_size.gr (by repeat (first | exact Gr.refl _ | apply Gr.drewN | apply Gr.drew | apply Gr.alloc | apply Gr.gro)), c__w_heap_size_1_.gr (by repeat (first | exact Gr.refl _ | apply Gr.drewN | apply Gr.drew | apply Gr.alloc | apply Gr.gro)), c__w_heap_size_1_1_.gr (by repeat (first | exact Gr.refl _ | apply Gr.drewN | apply Gr.drew | apply Gr.alloc | apply Gr.gro)), S_x.gr (by repeat (first | exact Gr.refl _ | apply Gr.drewN | apply Gr.drew | apply Gr.alloc | apply Gr.gro)), S_pz.gr (by repeat (first | exact Gr.refl _ | apply Gr.drewN | apply Gr.drew | apply Gr.alloc | apply Gr.gro))⟩ ?_
  clear HV G c_w_heap_size c__w_heap_size_1_ c__w_heap_size_1_1_ S_x S_pz
  intro v8 HV
  have ⟨G, c_w_heap_size, c__w_heap_size_1_, c__w_heap_size_1_1_, S_x, S_pz⟩ := HV.out
  refine wp_region_pred (by kernel_rfl) (by kernel_rfl) [.c (.agg (nw 9 a)), .n (a), .c (.agg (nw 9 b0)), .n (b0), .n (a), .n (b0)] ?hs ?hf
  case hs =>
    intro listed vals a1 vA i o hg hR hF ho hd
    have Hc_w_heap_size : blk vA (w.heap.size) = nw 9 m := (hg.blk _ c_w_heap_size.p).trans c_w_heap_size.h
    have Hc__w_heap_size_1_ : blk vA (w.heap.size + 1) = nw 9 a := (hg.blk _ c__w_heap_size_1_.p).trans c__w_heap_size_1_.h
    have Hc__w_heap_size_1_1_ : blk vA (w.heap.size + 1 + 1) = nw 9 b0 := (hg.blk _ c__w_heap_size_1_1_.p).trans c__w_heap_size_1_1_.h
    have hi : i < 6 := by simpa using (Array.getElem?_eq_some_iff.1 ho).1
    obtain rfl | rfl | rfl | rfl | rfl | rfl : i = 0 ∨ i = 1 ∨ i = 2 ∨ i = 3 ∨ i = 4 ∨ i = 5 := by omega
    · obtain rfl := Option.some.inj ho
      have f0 := hF.old (s := 4) (v := .pointer (some ⟨(w.heap.size + 1), 0, none⟩)) (by kernel_rfl) rfl
      refine Or.inl ⟨wanted_no rfl, ?_⟩
      exact wp_val (.agg (nw 9 a)) (by simp [go_sem, f0, Hc__w_heap_size_1_]) ⟨_, rfl, Gr.refl _, rfl⟩
    · obtain rfl := Option.some.inj ho
      have l0 := on_of hd 0 (by kernel_rfl)
      have f0 := hF.at (s := 63) (i := 0) (by kernel_rfl) (by simp) l0
      rw [show vals 0 = .agg (nw 9 a) from hR 0 l0] at f0
      refine Or.inl ⟨wanted_no rfl, ?_⟩
      exact wp_retN (by simp [go_sem, f0]) (FA.out _) (fun p n w2 hS hg2 => ⟨_, rfl, hg2, p, n, rfl, hS⟩)
    · obtain rfl := Option.some.inj ho
      have f0 := hF.old (s := 5) (v := .pointer (some ⟨(w.heap.size + 1 + 1), 0, none⟩)) (by kernel_rfl) rfl
      refine Or.inl ⟨wanted_no rfl, ?_⟩
      exact wp_val (.agg (nw 9 b0)) (by simp [go_sem, f0, Hc__w_heap_size_1_1_]) ⟨_, rfl, Gr.refl _, rfl⟩
    · obtain rfl := Option.some.inj ho
      have l0 := on_of hd 2 (by kernel_rfl)
      have f0 := hF.at (s := 65) (i := 2) (by kernel_rfl) (by simp) l0
      rw [show vals 2 = .agg (nw 9 b0) from hR 2 l0] at f0
      refine Or.inl ⟨wanted_no rfl, ?_⟩
      exact wp_retN (by simp [go_sem, f0]) (FB0.out _) (fun p n w2 hS hg2 => ⟨_, rfl, hg2, p, n, rfl, hS⟩)
    · obtain rfl := Option.some.inj ho
      have l0 := on_of hd 1 (by kernel_rfl)
      have f0 := hF.at (s := 64) (i := 1) (by kernel_rfl) (by simp) l0
      obtain ⟨p0, n0, e0, S0⟩ := (show ∃ p n, vals 1 = Value.slice p (dl (a)) n ∧ Sl vA p (a) from hR 1 l0)
      rw [e0] at f0
      refine Or.inl ⟨wanted_no rfl, ?_⟩
      exact wp_val (.slice p0 (dl (a)) n0) (by simp [go_sem, f0]) ⟨_, rfl, Gr.refl _, _, _, rfl, S0⟩
    · obtain rfl := Option.some.inj ho
      have l0 := on_of hd 3 (by kernel_rfl)
      have f0 := hF.at (s := 66) (i := 3) (by kernel_rfl) (by simp) l0
      obtain ⟨p0, n0, e0, S0⟩ := (show ∃ p n, vals 3 = Value.slice p (dl (b0)) n ∧ Sl vA p (b0) from hR 3 l0)
      rw [e0] at f0
      refine Or.inl ⟨wanted_no rfl, ?_⟩
      exact wp_val (.slice p0 (dl (b0)) n0) (by simp [go_sem, f0]) ⟨_, rfl, Gr.refl _, _, _, rfl, S0⟩
  case hf =>
    intro vals vA hg hR
    have x0 : vals 0 = .agg (nw 9 a) := hR 0 (by simp)
    obtain ⟨p1, n1, x1, S1⟩ := (show ∃ p n, vals 1 = Value.slice p (dl (a)) n ∧ Sl vA p (a) from hR 1 (by simp))
    have x2 : vals 2 = .agg (nw 9 b0) := hR 2 (by simp)
    obtain ⟨p3, n3, x3, S3⟩ := (show ∃ p n, vals 3 = Value.slice p (dl (b0)) n ∧ Sl vA p (b0) from hR 3 (by simp))
    obtain ⟨p4, n4, x4, S4⟩ := (show ∃ p n, vals 4 = Value.slice p (dl (a)) n ∧ Sl vA p (a) from hR 4 (by simp))
    obtain ⟨p5, n5, x5, S5⟩ := (show ∃ p n, vals 5 = Value.slice p (dl (b0)) n ∧ Sl vA p (b0) from hR 5 (by simp))
    simp only [putFrom, Act.put, List.setIfInBounds_toArray, List.set_cons_zero, List.set_cons_succ, x0, x1, x2, x3, x4, x5]
    clear hR x0 x1 x2 x3 x4 x5
    have HW : Hid (Gr w vA ∧ Cl vA (w.heap.size) m ∧ Cl vA (w.heap.size + 1) a ∧ Cl vA (w.heap.size + 1 + 1) b0 ∧ Mn vA bx m k u ∧ Sl vA pz m ∧ Sl vA p4 a ∧ Sl vA p5 b0) := ⟨G.trans hg, c_w_heap_size.gr hg, c__w_heap_size_1_.gr hg, c__w_heap_size_1_1_.gr hg, S_x.gr hg, S_pz.gr hg, S4, S5⟩
    clear HV hg S4 S5 S1 S3 G c_w_heap_size c__w_heap_size_1_ c__w_heap_size_1_1_ S_x S_pz
    have HV := HW
    clear HW
    go_upto_region 9 with fail
    go_cut [13, 14] from 67 to 72 (fun a0 a1 wx => ∃ e13 : Nat, a0 = .pointer (some ⟨e13, 0, none⟩) ∧ a1 = .int .i64 0 ∧ Hid (Gr w wx ∧ Cl wx (w.heap.size) m ∧ Cl wx (w.heap.size + 1) a ∧ Cl wx (w.heap.size + 1 + 1) b0 ∧ Cl wx e13 t ∧ Mn wx bx m k u ∧ Sl wx pz m ∧ Sl wx p4 a ∧ Sl wx p5 b0))
    case first =>
      have ⟨G, c_w_heap_size, c__w_heap_size_1_, c__w_heap_size_1_1_, S_x, S_pz, S_p4, S_p5⟩ := HV.out
      have ⟨hc_w_heap_size, fc_w_heap_size, pc_w_heap_size⟩ := c_w_heap_size
      have ⟨hc__w_heap_size_1_, fc__w_heap_size_1_, pc__w_heap_size_1_⟩ := c__w_heap_size_1_
      have ⟨hc__w_heap_size_1_1_, fc__w_heap_size_1_1_, pc__w_heap_size_1_1_⟩ := c__w_heap_size_1_1_
      go_wp2_with (first
          | (go_at_call_of 15 ((#[.pointer (some ⟨bx, 0, none⟩), .agg (nw 9 a)] : Array Value)); refine (T1.out bx _ (S_x.gr (by repeat (first | exact Gr.refl _ | apply Gr.drewN | apply Gr.drew | apply Gr.alloc | apply Gr.gro)))).mono ?_; rintro e w' ⟨rfl, g1, rfl⟩)
          | (go_at_call 12; refine (num_any _ _).mono ?_; rintro e w' ⟨rfl, rfl⟩))
      go_meet
      exact ⟨_, rfl, rfl, G.trans (by repeat (first | exact Gr.refl _ | apply Gr.drewN | apply Gr.drew | apply Gr.alloc | apply Gr.gro)), c_w_heap_size.gr (by repeat (first | exact Gr.refl _ | apply Gr.drewN | apply Gr.drew | apply Gr.alloc | apply Gr.gro)), c__w_heap_size_1_.gr (by repeat (first | exact Gr.refl _ | apply Gr.drewN | apply Gr.drew | apply Gr.alloc | apply Gr.gro)), c__w_heap_size_1_1_.gr (by repeat (first | exact Gr.refl _ | apply Gr.drewN | apply Gr.drew | apply Gr.alloc | apply Gr.gro)), ⟨by simp [go_sem], by simp [go_sem], by simp [go_sem]⟩, S_x.gr (by repeat (first | exact Gr.refl _ | apply Gr.drewN | apply Gr.drew | apply Gr.alloc | apply Gr.gro)), S_pz.gr (by repeat (first | exact Gr.refl _ | apply Gr.drewN | apply Gr.drew | apply Gr.alloc | apply Gr.gro)), S_p4.gr (by repeat (first | exact Gr.refl _ | apply Gr.drewN | apply Gr.drew | apply Gr.alloc | apply Gr.gro)), S_p5.gr (by repeat (first | exact Gr.refl _ | apply Gr.drewN | apply Gr.drew | apply Gr.alloc | apply Gr.gro))⟩
    clear HV
    obtain ⟨e13, rfl, rfl, HV⟩ := hcut
    go_upto_region 10 with fail
    go_cut [15, 16] from 73 to 78 (fun a0 a1 wx => ∃ e15 : Nat, a0 = .pointer (some ⟨e15, 0, none⟩) ∧ a1 = .int .i64 0 ∧ Hid (Gr w wx ∧ Cl wx (w.heap.size) m ∧ Cl wx (w.heap.size + 1) a ∧ Cl wx (w.heap.size + 1 + 1) b0 ∧ Cl wx e13 t ∧ Cl wx e15 fr ∧ Mn wx bx m k u ∧ Sl wx pz m ∧ Sl wx p4 a ∧ Sl wx p5 b0))
    case first =>
      have ⟨G, c_w_heap_size, c__w_heap_size_1_, c__w_heap_size_1_1_, c_e13, S_x, S_pz, S_p4, S_p5⟩ := HV.out
      have ⟨hc_w_heap_size, fc_w_heap_size, pc_w_heap_size⟩ := c_w_heap_size
      have ⟨hc__w_heap_size_1_, fc__w_heap_size_1_, pc__w_heap_size_1_⟩ := c__w_heap_size_1_
      have ⟨hc__w_heap_size_1_1_, fc__w_heap_size_1_1_, pc__w_heap_size_1_1_⟩ := c__w_heap_size_1_1_
      have ⟨hc_e13, fc_e13, pc_e13⟩ := c_e13
      go_wp2_with (first
          | (go_at_call_of 16 ((#[.pointer (some ⟨bx, 0, none⟩), .agg (nw 9 a)] : Array Value)); refine (F1.out bx _ (S_x.gr (by repeat (first | exact Gr.refl _ | apply Gr.drewN | apply Gr.drew | apply Gr.alloc | apply Gr.gro)))).mono ?_; rintro e w' ⟨rfl, g2, rfl⟩)
          | (go_at_call 12; refine (num_any _ _).mono ?_; rintro e w' ⟨rfl, rfl⟩))
      go_meet
      exact ⟨_, rfl, rfl, G.trans (by repeat (first | exact Gr.refl _ | apply Gr.drewN | apply Gr.drew | apply Gr.alloc | apply Gr.gro)), c_w_heap_size.gr (by repeat (first | exact Gr.refl _ | apply Gr.drewN | apply Gr.drew | apply Gr.alloc | apply Gr.gro)), c__w_heap_size_1_.gr (by repeat (first | exact Gr.refl _ | apply Gr.drewN | apply Gr.drew | apply Gr.alloc | apply Gr.gro)), c__w_heap_size_1_1_.gr (by repeat (first | exact Gr.refl _ | apply Gr.drewN | apply Gr.drew | apply Gr.alloc | apply Gr.gro)), c_e13.gr (by repeat (first | exact Gr.refl _ | apply Gr.drewN | apply Gr.drew | apply Gr.alloc | apply Gr.gro)), ⟨by simp [go_sem], by simp [go_sem], by simp [go_sem]⟩, S_x.gr (by repeat (first | exact Gr.refl _ | apply Gr.drewN | apply Gr.drew | apply Gr.alloc | apply Gr.gro)), S_pz.gr (by repeat (first | exact Gr.refl _ | apply Gr.drewN | apply Gr.drew | apply Gr.alloc | apply Gr.gro)), S_p4.gr (by repeat (first | exact Gr.refl _ | apply Gr.drewN | apply Gr.drew | apply Gr.alloc | apply Gr.gro)), S_p5.gr (by repeat (first | exact Gr.refl _ | apply Gr.drewN | apply Gr.drew | apply Gr.alloc | apply Gr.gro))⟩
    clear HV
    obtain ⟨e15, rfl, rfl, HV⟩ := hcut
    go_upto_region 11 with fail
    go_cut [17, 18] from 79 to 85 (fun a0 a1 wx => ∃ e17 : Nat, a0 = .pointer (some ⟨e17, 0, none⟩) ∧ a1 = .int .i64 0 ∧ Hid (Gr w wx ∧ Cl wx (w.heap.size) m ∧ Cl wx (w.heap.size + 1) a ∧ Cl wx (w.heap.size + 1 + 1) b0 ∧ Cl wx e13 t ∧ Cl wx e15 fr ∧ Cl wx e17 gm ∧ Mn wx bx m k u ∧ Sl wx pz m ∧ Sl wx p4 a ∧ Sl wx p5 b0))
    case first =>
      have ⟨G, c_w_heap_size, c__w_heap_size_1_, c__w_heap_size_1_1_, c_e13, c_e15, S_x, S_pz, S_p4, S_p5⟩ := HV.out
      have ⟨hc_w_heap_size, fc_w_heap_size, pc_w_heap_size⟩ := c_w_heap_size
      have ⟨hc__w_heap_size_1_, fc__w_heap_size_1_, pc__w_heap_size_1_⟩ := c__w_heap_size_1_
      have ⟨hc__w_heap_size_1_1_, fc__w_heap_size_1_1_, pc__w_heap_size_1_1_⟩ := c__w_heap_size_1_1_
      have ⟨hc_e13, fc_e13, pc_e13⟩ := c_e13
      have ⟨hc_e15, fc_e15, pc_e15⟩ := c_e15
      go_wp2_with (first
          | (go_at_call_of 17 ((#[.pointer (some ⟨bx, 0, none⟩), .agg (nw 9 a), .agg (nw 9 b0)] : Array Value)); refine (M1.out bx _ (S_x.gr (by repeat (first | exact Gr.refl _ | apply Gr.drewN | apply Gr.drew | apply Gr.alloc | apply Gr.gro)))).mono ?_; rintro e w' ⟨rfl, g3, rfl⟩)
          | (go_at_call 12; refine (num_any _ _).mono ?_; rintro e w' ⟨rfl, rfl⟩))
      go_meet
      exact ⟨_, rfl, rfl, G.trans (by repeat (first | exact Gr.refl _ | apply Gr.drewN | apply Gr.drew | apply Gr.alloc | apply Gr.gro)), c_w_heap_size.gr (by repeat (first | exact Gr.refl _ | apply Gr.drewN | apply Gr.drew | apply Gr.alloc | apply Gr.gro)), c__w_heap_size_1_.gr (by repeat (first | exact Gr.refl _ | apply Gr.drewN | apply Gr.drew | apply Gr.alloc | apply Gr.gro)), c__w_heap_size_1_1_.gr (by repeat (first | exact Gr.refl _ | apply Gr.drewN | apply Gr.drew | apply Gr.alloc | apply Gr.gro)), c_e13.gr (by repeat (first | exact Gr.refl _ | apply Gr.drewN | apply Gr.drew | apply Gr.alloc | apply Gr.gro)), c_e15.gr (by repeat (first | exact Gr.refl _ | apply Gr.drewN | apply Gr.drew | apply Gr.alloc | apply Gr.gro)), ⟨by simp [go_sem], by simp [go_sem], by simp [go_sem]⟩, S_x.gr (by repeat (first | exact Gr.refl _ | apply Gr.drewN | apply Gr.drew | apply Gr.alloc | apply Gr.gro)), S_pz.gr (by repeat (first | exact Gr.refl _ | apply Gr.drewN | apply Gr.drew | apply Gr.alloc | apply Gr.gro)), S_p4.gr (by repeat (first | exact Gr.refl _ | apply Gr.drewN | apply Gr.drew | apply Gr.alloc | apply Gr.gro)), S_p5.gr (by repeat (first | exact Gr.refl _ | apply Gr.drewN | apply Gr.drew | apply Gr.alloc | apply Gr.gro))⟩
    clear HV
    obtain ⟨e17, rfl, rfl, HV⟩ := hcut
    go_upto_region 12 with fail
    go_cut [19, 20] from 86 to 91 (fun a0 a1 wx => ∃ e19 : Nat, a0 = .pointer (some ⟨e19, 0, none⟩) ∧ a1 = .int .i64 401 ∧ Hid (Gr w wx ∧ Cl wx (w.heap.size) m ∧ Cl wx (w.heap.size + 1) a ∧ Cl wx (w.heap.size + 1 + 1) b0 ∧ Cl wx e13 t ∧ Cl wx e15 fr ∧ Cl wx e17 gm ∧ Cl wx e19 0 ∧ Mn wx bx m k u ∧ Sl wx pz m ∧ Sl wx p4 a ∧ Sl wx p5 b0))
    case first =>
      have ⟨G, c_w_heap_size, c__w_heap_size_1_, c__w_heap_size_1_1_, c_e13, c_e15, c_e17, S_x, S_pz, S_p4, S_p5⟩ := HV.out
      have ⟨hc_w_heap_size, fc_w_heap_size, pc_w_heap_size⟩ := c_w_heap_size
      have ⟨hc__w_heap_size_1_, fc__w_heap_size_1_, pc__w_heap_size_1_⟩ := c__w_heap_size_1_
      have ⟨hc__w_heap_size_1_1_, fc__w_heap_size_1_1_, pc__w_heap_size_1_1_⟩ := c__w_heap_size_1_1_
      have ⟨hc_e13, fc_e13, pc_e13⟩ := c_e13
      have ⟨hc_e15, fc_e15, pc_e15⟩ := c_e15
      have ⟨hc_e17, fc_e17, pc_e17⟩ := c_e17
      go_wp2_with (first
          | (go_at_call_of 18 ((#[.pointer (some ⟨bx, 0, none⟩), .agg (nw 9 a)] : Array Value)); refine (I1.out bx _ (S_x.gr (by repeat (first | exact Gr.refl _ | apply Gr.drewN | apply Gr.drew | apply Gr.alloc | apply Gr.gro)))).mono ?_; rintro e w' ⟨rfl, g4, rfl⟩)
          | (go_at_call 12; refine (num_any _ _).mono ?_; rintro e w' ⟨rfl, rfl⟩))
      go_meet
      exact ⟨_, rfl, rfl, G.trans (by repeat (first | exact Gr.refl _ | apply Gr.drewN | apply Gr.drew | apply Gr.alloc | apply Gr.gro)), c_w_heap_size.gr (by repeat (first | exact Gr.refl _ | apply Gr.drewN | apply Gr.drew | apply Gr.alloc | apply Gr.gro)), c__w_heap_size_1_.gr (by repeat (first | exact Gr.refl _ | apply Gr.drewN | apply Gr.drew | apply Gr.alloc | apply Gr.gro)), c__w_heap_size_1_1_.gr (by repeat (first | exact Gr.refl _ | apply Gr.drewN | apply Gr.drew | apply Gr.alloc | apply Gr.gro)), c_e13.gr (by repeat (first | exact Gr.refl _ | apply Gr.drewN | apply Gr.drew | apply Gr.alloc | apply Gr.gro)), c_e15.gr (by repeat (first | exact Gr.refl _ | apply Gr.drewN | apply Gr.drew | apply Gr.alloc | apply Gr.gro)), c_e17.gr (by repeat (first | exact Gr.refl _ | apply Gr.drewN | apply Gr.drew | apply Gr.alloc | apply Gr.gro)), ⟨by simp [go_sem], by simp [go_sem], by simp [go_sem]⟩, S_x.gr (by repeat (first | exact Gr.refl _ | apply Gr.drewN | apply Gr.drew | apply Gr.alloc | apply Gr.gro)), S_pz.gr (by repeat (first | exact Gr.refl _ | apply Gr.drewN | apply Gr.drew | apply Gr.alloc | apply Gr.gro)), S_p4.gr (by repeat (first | exact Gr.refl _ | apply Gr.drewN | apply Gr.drew | apply Gr.alloc | apply Gr.gro)), S_p5.gr (by repeat (first | exact Gr.refl _ | apply Gr.drewN | apply Gr.drew | apply Gr.alloc | apply Gr.gro))⟩
    clear HV
    obtain ⟨e19, rfl, rfl, HV⟩ := hcut
    have ⟨G, c_w_heap_size, c__w_heap_size_1_, c__w_heap_size_1_1_, c_e13, c_e15, c_e17, c_e19, S_x, S_pz, S_p4, S_p5⟩ := HV.out
    have ⟨hc_w_heap_size, fc_w_heap_size, pc_w_heap_size⟩ := c_w_heap_size
    have ⟨hc__w_heap_size_1_, fc__w_heap_size_1_, pc__w_heap_size_1_⟩ := c__w_heap_size_1_
    have ⟨hc__w_heap_size_1_1_, fc__w_heap_size_1_1_, pc__w_heap_size_1_1_⟩ := c__w_heap_size_1_1_
    have ⟨hc_e13, fc_e13, pc_e13⟩ := c_e13
    have ⟨hc_e15, fc_e15, pc_e15⟩ := c_e15
    have ⟨hc_e17, fc_e17, pc_e17⟩ := c_e17
    have ⟨hc_e19, fc_e19, pc_e19⟩ := c_e19
    go_upto_region 17 with (first
      | (go_at_call 11; refine (HCa.out _ p4 n4 pz nz (S_p4.gr (by repeat (first | exact Gr.refl _ | apply Gr.drewN | apply Gr.drew | apply Gr.alloc | apply Gr.gro))) (S_pz.gr (by repeat (first | exact Gr.refl _ | apply Gr.drewN | apply Gr.drew | apply Gr.alloc | apply Gr.gro)))).mono ?_; rintro e w' ⟨rfl, gca, rfl⟩)
      | (first
        | (go_at_call_of 19 ((#[.pointer (some ⟨bx, 0, none⟩)] : Array Value)); refine (W1.out bx _ (S_x.gr (by repeat (first | exact Gr.refl _ | apply Gr.drewN | apply Gr.drew | apply Gr.alloc | apply Gr.gro)))).mono ?_; rintro e w' ⟨rfl, g5, rfl⟩)
        | (go_at_call 12; refine (num_any _ _).mono ?_; rintro e w' ⟨rfl, rfl⟩)))
    refine gen_w (fun v => Hid (Gr w v ∧ Cl v (w.heap.size) m ∧ Cl v (w.heap.size + 1) a ∧ Cl v (w.heap.size + 1 + 1) b0 ∧ Cl v e13 t ∧ Cl v e15 fr ∧ Cl v e17 gm ∧ Cl v e19 0 ∧ Mn v bx m k u ∧ Sl v pz m ∧ Sl v p4 a ∧ Sl v p5 b0)) ⟨G.trans (by repeat (first | exact Gr.refl _ | apply Gr.drewN | apply Gr.drew | apply Gr.alloc | apply Gr.gro)), c_w_heap_size.gr (by repeat (first | exact Gr.refl _ | apply Gr.drewN | apply Gr.drew | apply Gr.alloc | apply Gr.gro)), c__w_heap_size_1_.gr (by repeat (first | exact Gr.refl _ | apply Gr.drewN | apply Gr.drew | apply Gr.alloc | apply Gr.gro)), c__w_heap_size_1_1_.gr (by repeat (first | exact Gr.refl _ | apply Gr.drewN | apply Gr.drew | apply Gr.alloc | apply Gr.gro)), c_e13.gr (by repeat (first | exact Gr.refl _ | apply Gr.drewN | apply Gr.drew | apply Gr.alloc | apply Gr.gro)), c_e15.gr (by repeat (first | exact Gr.refl _ | apply Gr.drewN | apply Gr.drew | apply Gr.alloc | apply Gr.gro)), c_e17.gr (by repeat (first | exact Gr.refl _ | apply Gr.drewN | apply Gr.drew | apply Gr.alloc | apply Gr.gro)), c_e19.gr (by repeat (first | exact Gr.refl _ | apply Gr.drewN | apply Gr.drew | apply Gr.alloc | apply Gr.gro)), S_x.gr (by repeat (first | exact Gr.refl _ | apply Gr.drewN | apply Gr.drew | apply Gr.alloc | apply Gr.gro)), S_pz.gr (by repeat (first | exact Gr.refl _ | apply Gr.drewN | apply Gr.drew | apply Gr.alloc | apply Gr.gro)), S_p4.gr (by repeat (first | exact Gr.refl _ | apply Gr.drewN | apply Gr.drew | apply Gr.alloc | apply Gr.gro)), S_p5.gr (by repeat (first | exact Gr.refl _ | apply Gr.drewN | apply Gr.drew | apply Gr.alloc | apply Gr.gro))⟩ ?_
    clear HV G c_w_heap_size c__w_heap_size_1_ c__w_heap_size_1_1_ c_e13 c_e15 c_e17 c_e19 S_x S_pz S_p4 S_p5
    intro v17 HV
    go_cut [21] from 131 to 136 (fun a0 wx => ∃ (px : Option Addr) (nx : Nat), a0 = .slice px (dl R) nx ∧ Hid (Gr w wx ∧ Cl wx (w.heap.size) m ∧ Cl wx (w.heap.size + 1) a ∧ Cl wx (w.heap.size + 1 + 1) b0 ∧ Cl wx e13 t ∧ Cl wx e15 fr ∧ Cl wx e17 gm ∧ Cl wx e19 0 ∧ Mn wx bx m k u ∧ Sl wx pz m ∧ Sl wx p4 a ∧ Sl wx p5 b0 ∧ Sl wx px R))
    case first =>
      have ⟨G, c_w_heap_size, c__w_heap_size_1_, c__w_heap_size_1_1_, c_e13, c_e15, c_e17, c_e19, S_x, S_pz, S_p4, S_p5⟩ := HV.out
      have ⟨hc_w_heap_size, fc_w_heap_size, pc_w_heap_size⟩ := c_w_heap_size
      have ⟨hc__w_heap_size_1_, fc__w_heap_size_1_, pc__w_heap_size_1_⟩ := c__w_heap_size_1_
      have ⟨hc__w_heap_size_1_1_, fc__w_heap_size_1_1_, pc__w_heap_size_1_1_⟩ := c__w_heap_size_1_1_
      have ⟨hc_e13, fc_e13, pc_e13⟩ := c_e13
      have ⟨hc_e15, fc_e15, pc_e15⟩ := c_e15
      have ⟨hc_e17, fc_e17, pc_e17⟩ := c_e17
      have ⟨hc_e19, fc_e19, pc_e19⟩ := c_e19
      go_wp2_with (first | (go_at_call 21; refine (HSh.out _ _ _ (Sl.of_blk (n := 1) (by simp [go_sem]) (by simp [go_sem]) (by decide))).mono ?_; rintro e W0 ⟨p0, n0, rfl, S0, ⟨g0, rfl⟩⟩) | (go_at_call 20; refine (HMd.out _ p0 n0 pz nz (S0.gr (by repeat (first | exact Gr.refl _ | apply Gr.drewN | apply Gr.drew | apply Gr.alloc | apply Gr.gro))) (S_pz.gr (by repeat (first | exact Gr.refl _ | apply Gr.drewN | apply Gr.drew | apply Gr.alloc | apply Gr.gro)))).mono ?_; rintro e W1 ⟨px, nx, rfl, S1, G1⟩))
      go_meet
      exact ⟨px, nx, rfl, G.trans ((Gr.trans (by repeat (first | exact Gr.refl _ | apply Gr.drewN | apply Gr.drew | apply Gr.alloc | apply Gr.gro)) G1).trans (by repeat (first | exact Gr.refl _ | apply Gr.drewN | apply Gr.drew | apply Gr.alloc | apply Gr.gro))), c_w_heap_size.gr ((Gr.trans (by repeat (first | exact Gr.refl _ | apply Gr.drewN | apply Gr.drew | apply Gr.alloc | apply Gr.gro)) G1).trans (by repeat (first | exact Gr.refl _ | apply Gr.drewN | apply Gr.drew | apply Gr.alloc | apply Gr.gro))), c__w_heap_size_1_.gr ((Gr.trans (by repeat (first | exact Gr.refl _ | apply Gr.drewN | apply Gr.drew | apply Gr.alloc | apply Gr.gro)) G1).trans (by repeat (first | exact Gr.refl _ | apply Gr.drewN | apply Gr.drew | apply Gr.alloc | apply Gr.gro))), c__w_heap_size_1_1_.gr ((Gr.trans (by repeat (first | exact Gr.refl _ | apply Gr.drewN | apply Gr.drew | apply Gr.alloc | apply Gr.gro)) G1).trans (by repeat (first | exact Gr.refl _ | apply Gr.drewN | apply Gr.drew | apply Gr.alloc | apply Gr.gro))), c_e13.gr ((Gr.trans (by repeat (first | exact Gr.refl _ | apply Gr.drewN | apply Gr.drew | apply Gr.alloc | apply Gr.gro)) G1).trans (by repeat (first | exact Gr.refl _ | apply Gr.drewN | apply Gr.drew | apply Gr.alloc | apply Gr.gro))), c_e15.gr ((Gr.trans (by repeat (first | exact Gr.refl _ | apply Gr.drewN | apply Gr.drew | apply Gr.alloc | apply Gr.gro)) G1).trans (by repeat (first | exact Gr.refl _ | apply Gr.drewN | apply Gr.drew | apply Gr.alloc | apply Gr.gro))), c_e17.gr ((Gr.trans (by repeat (first | exact Gr.refl _ | apply Gr.drewN | apply Gr.drew | apply Gr.alloc | apply Gr.gro)) G1).trans (by repeat (first | exact Gr.refl _ | apply Gr.drewN | apply Gr.drew | apply Gr.alloc | apply Gr.gro))), c_e19.gr ((Gr.trans (by repeat (first | exact Gr.refl _ | apply Gr.drewN | apply Gr.drew | apply Gr.alloc | apply Gr.gro)) G1).trans (by repeat (first | exact Gr.refl _ | apply Gr.drewN | apply Gr.drew | apply Gr.alloc | apply Gr.gro))), S_x.gr ((Gr.trans (by repeat (first | exact Gr.refl _ | apply Gr.drewN | apply Gr.drew | apply Gr.alloc | apply Gr.gro)) G1).trans (by repeat (first | exact Gr.refl _ | apply Gr.drewN | apply Gr.drew | apply Gr.alloc | apply Gr.gro))), S_pz.gr ((Gr.trans (by repeat (first | exact Gr.refl _ | apply Gr.drewN | apply Gr.drew | apply Gr.alloc | apply Gr.gro)) G1).trans (by repeat (first | exact Gr.refl _ | apply Gr.drewN | apply Gr.drew | apply Gr.alloc | apply Gr.gro))), S_p4.gr ((Gr.trans (by repeat (first | exact Gr.refl _ | apply Gr.drewN | apply Gr.drew | apply Gr.alloc | apply Gr.gro)) G1).trans (by repeat (first | exact Gr.refl _ | apply Gr.drewN | apply Gr.drew | apply Gr.alloc | apply Gr.gro))), S_p5.gr ((Gr.trans (by repeat (first | exact Gr.refl _ | apply Gr.drewN | apply Gr.drew | apply Gr.alloc | apply Gr.gro)) G1).trans (by repeat (first | exact Gr.refl _ | apply Gr.drewN | apply Gr.drew | apply Gr.alloc | apply Gr.gro))), S1.gr (by repeat (first | exact Gr.refl _ | apply Gr.drewN | apply Gr.drew | apply Gr.alloc | apply Gr.gro))⟩
    clear HV
    obtain ⟨pr, nr, rfl, HV⟩ := hcut
    go_upto_region 18 with fail
    go_cut [22, 23] from 137 to 142 (fun a0 a1 wx => ∃ (px : Option Addr) (nx : Nat), a0 = .slice px (dl u) nx ∧ a1 = .bool true ∧ Hid (Gr w wx ∧ Cl wx (w.heap.size) m ∧ Cl wx (w.heap.size + 1) a ∧ Cl wx (w.heap.size + 1 + 1) b0 ∧ Cl wx e13 t ∧ Cl wx e15 fr ∧ Cl wx e17 gm ∧ Cl wx e19 0 ∧ Mn wx bx m k u ∧ Sl wx pz m ∧ Sl wx p4 a ∧ Sl wx p5 b0 ∧ Sl wx pr R ∧ Sl wx px u))
    case first =>
      have ⟨G, c_w_heap_size, c__w_heap_size_1_, c__w_heap_size_1_1_, c_e13, c_e15, c_e17, c_e19, S_x, S_pz, S_p4, S_p5, S_pr⟩ := HV.out
      have ⟨hc_w_heap_size, fc_w_heap_size, pc_w_heap_size⟩ := c_w_heap_size
      have ⟨hc__w_heap_size_1_, fc__w_heap_size_1_, pc__w_heap_size_1_⟩ := c__w_heap_size_1_
      have ⟨hc__w_heap_size_1_1_, fc__w_heap_size_1_1_, pc__w_heap_size_1_1_⟩ := c__w_heap_size_1_1_
      have ⟨hc_e13, fc_e13, pc_e13⟩ := c_e13
      have ⟨hc_e15, fc_e15, pc_e15⟩ := c_e15
      have ⟨hc_e17, fc_e17, pc_e17⟩ := c_e17
      have ⟨hc_e19, fc_e19, pc_e19⟩ := c_e19
      go_wp2_with (go_at_call 22; refine (HIu.out _ pr nr pz nz (S_pr.gr (by repeat (first | exact Gr.refl _ | apply Gr.drewN | apply Gr.drew | apply Gr.alloc | apply Gr.gro))) (S_pz.gr (by repeat (first | exact Gr.refl _ | apply Gr.drewN | apply Gr.drew | apply Gr.alloc | apply Gr.gro)))).mono ?_; rintro e W1 ⟨px, nx, rfl, S1, G1⟩)
      go_meet
      exact ⟨px, nx, rfl, rfl, G.trans ((Gr.trans (by repeat (first | exact Gr.refl _ | apply Gr.drewN | apply Gr.drew | apply Gr.alloc | apply Gr.gro)) G1).trans (by repeat (first | exact Gr.refl _ | apply Gr.drewN | apply Gr.drew | apply Gr.alloc | apply Gr.gro))), c_w_heap_size.gr ((Gr.trans (by repeat (first | exact Gr.refl _ | apply Gr.drewN | apply Gr.drew | apply Gr.alloc | apply Gr.gro)) G1).trans (by repeat (first | exact Gr.refl _ | apply Gr.drewN | apply Gr.drew | apply Gr.alloc | apply Gr.gro))), c__w_heap_size_1_.gr ((Gr.trans (by repeat (first | exact Gr.refl _ | apply Gr.drewN | apply Gr.drew | apply Gr.alloc | apply Gr.gro)) G1).trans (by repeat (first | exact Gr.refl _ | apply Gr.drewN | apply Gr.drew | apply Gr.alloc | apply Gr.gro))), c__w_heap_size_1_1_.gr ((Gr.trans (by repeat (first | exact Gr.refl _ | apply Gr.drewN | apply Gr.drew | apply Gr.alloc | apply Gr.gro)) G1).trans (by repeat (first | exact Gr.refl _ | apply Gr.drewN | apply Gr.drew | apply Gr.alloc | apply Gr.gro))), c_e13.gr ((Gr.trans (by repeat (first | exact Gr.refl _ | apply Gr.drewN | apply Gr.drew | apply Gr.alloc | apply Gr.gro)) G1).trans (by repeat (first | exact Gr.refl _ | apply Gr.drewN | apply Gr.drew | apply Gr.alloc | apply Gr.gro))), c_e15.gr ((Gr.trans (by repeat (first | exact Gr.refl _ | apply Gr.drewN | apply Gr.drew | apply Gr.alloc | apply Gr.gro)) G1).trans (by repeat (first | exact Gr.refl _ | apply Gr.drewN | apply Gr.drew | apply Gr.alloc | apply Gr.gro))), c_e17.gr ((Gr.trans (by repeat (first | exact Gr.refl _ | apply Gr.drewN | apply Gr.drew | apply Gr.alloc | apply Gr.gro)) G1).trans (by repeat (first | exact Gr.refl _ | apply Gr.drewN | apply Gr.drew | apply Gr.alloc | apply Gr.gro))), c_e19.gr ((Gr.trans (by repeat (first | exact Gr.refl _ | apply Gr.drewN | apply Gr.drew | apply Gr.alloc | apply Gr.gro)) G1).trans (by repeat (first | exact Gr.refl _ | apply Gr.drewN | apply Gr.drew | apply Gr.alloc | apply Gr.gro))), S_x.gr ((Gr.trans (by repeat (first | exact Gr.refl _ | apply Gr.drewN | apply Gr.drew | apply Gr.alloc | apply Gr.gro)) G1).trans (by repeat (first | exact Gr.refl _ | apply Gr.drewN | apply Gr.drew | apply Gr.alloc | apply Gr.gro))), S_pz.gr ((Gr.trans (by repeat (first | exact Gr.refl _ | apply Gr.drewN | apply Gr.drew | apply Gr.alloc | apply Gr.gro)) G1).trans (by repeat (first | exact Gr.refl _ | apply Gr.drewN | apply Gr.drew | apply Gr.alloc | apply Gr.gro))), S_p4.gr ((Gr.trans (by repeat (first | exact Gr.refl _ | apply Gr.drewN | apply Gr.drew | apply Gr.alloc | apply Gr.gro)) G1).trans (by repeat (first | exact Gr.refl _ | apply Gr.drewN | apply Gr.drew | apply Gr.alloc | apply Gr.gro))), S_p5.gr ((Gr.trans (by repeat (first | exact Gr.refl _ | apply Gr.drewN | apply Gr.drew | apply Gr.alloc | apply Gr.gro)) G1).trans (by repeat (first | exact Gr.refl _ | apply Gr.drewN | apply Gr.drew | apply Gr.alloc | apply Gr.gro))), S_pr.gr ((Gr.trans (by repeat (first | exact Gr.refl _ | apply Gr.drewN | apply Gr.drew | apply Gr.alloc | apply Gr.gro)) G1).trans (by repeat (first | exact Gr.refl _ | apply Gr.drewN | apply Gr.drew | apply Gr.alloc | apply Gr.gro))), S1.gr (by repeat (first | exact Gr.refl _ | apply Gr.drewN | apply Gr.drew | apply Gr.alloc | apply Gr.gro))⟩
    clear HV
    obtain ⟨pu, nu, rfl, rfl, HV⟩ := hcut
    go_upto_region 19 with fail
    have ⟨G, c_w_heap_size, c__w_heap_size_1_, c__w_heap_size_1_1_, c_e13, c_e15, c_e17, c_e19, S_x, S_pz, S_p4, S_p5, S_pr, S_pu⟩ := HV.out
    refine wp_region_pred (by kernel_rfl) (by kernel_rfl) [.c (.int .i64 0), .c (.int .i64 0), .c (.bool false), .c (.bool false), .c (.agg (nw 9 t)), .c (.slice p4 (dl a) n4), .c (.slice pr (dl R) nr), .c (.slice pz (dl m) nz), .n (t), .c (.agg (nw 9 t)), .c (.bool false), .c (.bool false), .c (.bool false), .c (.int .i64 0), .c (.int .i64 0), .c (.bool false), .c (.bool false), .c (.bool false), .c (.agg (nw 9 fr)), .c (.slice p4 (dl a) n4), .c (.slice pu (dl u) nu), .c (.slice pz (dl m) nz), .n (fr), .c (.agg (nw 9 fr)), .c (.bool false), .c (.bool false)] ?hs ?hf
    case hs =>
      intro listed vals a1 vB i o hg hR hF ho hd
      have Hc_w_heap_size : blk vB (w.heap.size) = nw 9 m := (hg.blk _ c_w_heap_size.p).trans c_w_heap_size.h
      have Hc__w_heap_size_1_ : blk vB (w.heap.size + 1) = nw 9 a := (hg.blk _ c__w_heap_size_1_.p).trans c__w_heap_size_1_.h
      have Hc__w_heap_size_1_1_ : blk vB (w.heap.size + 1 + 1) = nw 9 b0 := (hg.blk _ c__w_heap_size_1_1_.p).trans c__w_heap_size_1_1_.h
      have Hc_e13 : blk vB e13 = nw 9 t := (hg.blk _ c_e13.p).trans c_e13.h
      have Hc_e15 : blk vB e15 = nw 9 fr := (hg.blk _ c_e15.p).trans c_e15.h
      have Hc_e17 : blk vB e17 = nw 9 gm := (hg.blk _ c_e17.p).trans c_e17.h
      have Hc_e19 : blk vB e19 = nw 9 0 := (hg.blk _ c_e19.p).trans c_e19.h
      have hi : i < 26 := by simpa using (Array.getElem?_eq_some_iff.1 ho).1
      obtain rfl | rfl | rfl | rfl | rfl | rfl | rfl | rfl | rfl | rfl | rfl | rfl | rfl | rfl | rfl | rfl | rfl | rfl | rfl | rfl | rfl | rfl | rfl | rfl | rfl | rfl : i = 0 ∨ i = 1 ∨ i = 2 ∨ i = 3 ∨ i = 4 ∨ i = 5 ∨ i = 6 ∨ i = 7 ∨ i = 8 ∨ i = 9 ∨ i = 10 ∨ i = 11 ∨ i = 12 ∨ i = 13 ∨ i = 14 ∨ i = 15 ∨ i = 16 ∨ i = 17 ∨ i = 18 ∨ i = 19 ∨ i = 20 ∨ i = 21 ∨ i = 22 ∨ i = 23 ∨ i = 24 ∨ i = 25 := by omega
      · obtain rfl := Option.some.inj ho
        have f0 := hF.old (s := 14) (v := .int .i64 0) (by kernel_rfl) rfl
        refine Or.inl ⟨wanted_no rfl, ?_⟩
        exact wp_val (.int .i64 0) (by simp [go_sem, f0]) ⟨_, rfl, Gr.refl _, rfl⟩
      · obtain rfl := Option.some.inj ho
        have l0 := on_of hd 0 (by kernel_rfl)
        have f0 := hF.at (s := 143) (i := 0) (by kernel_rfl) (by simp) l0
        rw [show vals 0 = .int .i64 0 from hR 0 l0] at f0
        refine Or.inl ⟨wanted_no rfl, ?_⟩
        exact wp_ret (.int .i64 0) (by simp [go_sem, f0]) (num5_gr _ _) (fun w2 hg2 => ⟨_, rfl, hg2, rfl⟩)
      · obtain rfl := Option.some.inj ho
        have l0 := on_of hd 1 (by kernel_rfl)
        have f0 := hF.at (s := 144) (i := 1) (by kernel_rfl) (by simp) l0
        rw [show vals 1 = .int .i64 0 from hR 1 l0] at f0
        refine Or.inl ⟨wanted_no rfl, ?_⟩
        exact wp_val (.bool false) (by simp [go_sem, f0]) ⟨_, rfl, Gr.refl _, rfl⟩
      · obtain rfl := Option.some.inj ho
        have l0 := on_of hd 2 (by kernel_rfl)
        have f0 := hF.at (s := 145) (i := 2) (by kernel_rfl) (by simp) l0
        rw [show vals 2 = .bool false from hR 2 l0] at f0
        refine Or.inl ⟨wanted_no rfl, ?_⟩
        exact wp_val (.bool false) (by simp [go_sem, f0]) ⟨_, rfl, Gr.refl _, rfl⟩
      · obtain rfl := Option.some.inj ho
        have lg := on_of hd 3 (by kernel_rfl)
        have fg := hF.at (s := 146) (i := 3) (by kernel_rfl) (by simp) lg
        rw [show vals 3 = .bool false from hR 3 lg] at fg
        have f0 := hF.old (s := 13) (v := .pointer (some ⟨e13, 0, none⟩)) (by kernel_rfl) rfl
        refine Or.inl ⟨wanted_at (j := 3) (s := 146) rfl rfl rfl fg, ?_⟩
        exact wp_val (.agg (nw 9 t)) (by simp [go_sem, f0, Hc_e13]) ⟨_, rfl, Gr.refl _, rfl⟩
      · obtain rfl := Option.some.inj ho
        have lg := on_of hd 3 (by kernel_rfl)
        have fg := hF.at (s := 146) (i := 3) (by kernel_rfl) (by simp) lg
        rw [show vals 3 = .bool false from hR 3 lg] at fg
        have f0 := hF.old (s := 11) (v := .slice p4 (dl a) n4) (by kernel_rfl) rfl
        refine Or.inl ⟨wanted_at (j := 3) (s := 146) rfl rfl rfl fg, ?_⟩
        exact wp_val (.slice p4 (dl a) n4) (by simp [go_sem, f0]) ⟨_, rfl, Gr.refl _, rfl⟩
      · obtain rfl := Option.some.inj ho
        have lg := on_of hd 3 (by kernel_rfl)
        have fg := hF.at (s := 146) (i := 3) (by kernel_rfl) (by simp) lg
        rw [show vals 3 = .bool false from hR 3 lg] at fg
        have f0 := hF.old (s := 21) (v := .slice pr (dl R) nr) (by kernel_rfl) rfl
        refine Or.inl ⟨wanted_at (j := 3) (s := 146) rfl rfl rfl fg, ?_⟩
        exact wp_val (.slice pr (dl R) nr) (by simp [go_sem, f0]) ⟨_, rfl, Gr.refl _, rfl⟩
      · obtain rfl := Option.some.inj ho
        have lg := on_of hd 3 (by kernel_rfl)
        have fg := hF.at (s := 146) (i := 3) (by kernel_rfl) (by simp) lg
        rw [show vals 3 = .bool false from hR 3 lg] at fg
        have f0 := hF.old (s := 9) (v := .slice pz (dl m) nz) (by kernel_rfl) rfl
        refine Or.inl ⟨wanted_at (j := 3) (s := 146) rfl rfl rfl fg, ?_⟩
        exact wp_val (.slice pz (dl m) nz) (by simp [go_sem, f0]) ⟨_, rfl, Gr.refl _, rfl⟩
      · obtain rfl := Option.some.inj ho
        have lg := on_of hd 3 (by kernel_rfl)
        have fg := hF.at (s := 146) (i := 3) (by kernel_rfl) (by simp) lg
        rw [show vals 3 = .bool false from hR 3 lg] at fg
        have l0 := on_of hd 5 (by kernel_rfl)
        have f0 := hF.at (s := 148) (i := 5) (by kernel_rfl) (by simp) l0
        rw [show vals 5 = .slice p4 (dl a) n4 from hR 5 l0] at f0
        have l1 := on_of hd 6 (by kernel_rfl)
        have f1 := hF.at (s := 149) (i := 6) (by kernel_rfl) (by simp) l1
        rw [show vals 6 = .slice pr (dl R) nr from hR 6 l1] at f1
        have l2 := on_of hd 7 (by kernel_rfl)
        have f2 := hF.at (s := 150) (i := 7) (by kernel_rfl) (by simp) l2
        rw [show vals 7 = .slice pz (dl m) nz from hR 7 l2] at f2
        refine Or.inl ⟨wanted_at (j := 3) (s := 146) rfl rfl rfl fg, ?_⟩
        exact wp_retN (by simp [go_sem, f0, f1, f2]) (MMt.out _ p4 n4 pr nr pz nz (S_p4.gr hg) (S_pr.gr hg) (S_pz.gr hg)) (fun p n w2 hS hg2 => ⟨_, rfl, hg2, p, n, rfl, hS⟩)
      · obtain rfl := Option.some.inj ho
        have lg := on_of hd 3 (by kernel_rfl)
        have fg := hF.at (s := 146) (i := 3) (by kernel_rfl) (by simp) lg
        rw [show vals 3 = .bool false from hR 3 lg] at fg
        have l0 := on_of hd 8 (by kernel_rfl)
        have f0 := hF.at (s := 151) (i := 8) (by kernel_rfl) (by simp) l0
        obtain ⟨p0, n0, e0, S0⟩ := (show ∃ p n, vals 8 = Value.slice p (dl (t)) n ∧ Sl vB p (t) from hR 8 l0)
        rw [e0] at f0
        refine Or.inl ⟨wanted_at (j := 3) (s := 146) rfl rfl rfl fg, ?_⟩
        exact wp_ret (.agg (nw 9 t)) (by simp [go_sem, f0]) (NTt.out _ p0 n0 S0) (fun w2 hg2 => ⟨_, rfl, hg2, rfl⟩)
      · obtain rfl := Option.some.inj ho
        have lg := on_of hd 3 (by kernel_rfl)
        have fg := hF.at (s := 146) (i := 3) (by kernel_rfl) (by simp) lg
        rw [show vals 3 = .bool false from hR 3 lg] at fg
        have l0 := on_of hd 4 (by kernel_rfl)
        have f0 := hF.at (s := 147) (i := 4) (by kernel_rfl) (by simp) l0
        rw [show vals 4 = .agg (nw 9 t) from hR 4 l0] at f0
        have l1 := on_of hd 9 (by kernel_rfl)
        have f1 := hF.at (s := 152) (i := 9) (by kernel_rfl) (by simp) l1
        rw [show vals 9 = .agg (nw 9 t) from hR 9 l1] at f1
        refine Or.inl ⟨wanted_at (j := 3) (s := 146) rfl rfl rfl fg, ?_⟩
        exact wp_val (.bool false) (by simp [go_sem, f0, f1, eqN_self]) ⟨_, rfl, Gr.refl _, rfl⟩
      · obtain rfl := Option.some.inj ho
        have l0 := on_of hd 3 (by kernel_rfl)
        have f0 := hF.at (s := 146) (i := 3) (by kernel_rfl) (by simp) l0
        rw [show vals 3 = .bool false from hR 3 l0] at f0
        have l1 := on_of hd 10 (by kernel_rfl)
        have f1 := hF.at (s := 153) (i := 10) (by kernel_rfl) (by simp) l1
        rw [show vals 10 = .bool false from hR 10 l1] at f1
        refine Or.inl ⟨wanted_no rfl, ?_⟩
        exact wp_val (.bool false) (by simp [go_sem, f0, f1]) ⟨_, rfl, Gr.refl _, rfl⟩
      · obtain rfl := Option.some.inj ho
        have l0 := on_of hd 11 (by kernel_rfl)
        have f0 := hF.at (s := 154) (i := 11) (by kernel_rfl) (by simp) l0
        rw [show vals 11 = .bool false from hR 11 l0] at f0
        refine Or.inl ⟨wanted_no rfl, ?_⟩
        exact wp_val (.bool false) (by simp [go_sem, f0]) ⟨_, rfl, Gr.refl _, rfl⟩
      · obtain rfl := Option.some.inj ho
        have lg := on_of hd 12 (by kernel_rfl)
        have fg := hF.at (s := 155) (i := 12) (by kernel_rfl) (by simp) lg
        rw [show vals 12 = .bool false from hR 12 lg] at fg
        have f0 := hF.old (s := 16) (v := .int .i64 0) (by kernel_rfl) rfl
        refine Or.inl ⟨wanted_at (j := 12) (s := 155) rfl rfl rfl fg, ?_⟩
        exact wp_val (.int .i64 0) (by simp [go_sem, f0]) ⟨_, rfl, Gr.refl _, rfl⟩
      · obtain rfl := Option.some.inj ho
        have lg := on_of hd 12 (by kernel_rfl)
        have fg := hF.at (s := 155) (i := 12) (by kernel_rfl) (by simp) lg
        rw [show vals 12 = .bool false from hR 12 lg] at fg
        have l0 := on_of hd 13 (by kernel_rfl)
        have f0 := hF.at (s := 156) (i := 13) (by kernel_rfl) (by simp) l0
        rw [show vals 13 = .int .i64 0 from hR 13 l0] at f0
        refine Or.inl ⟨wanted_at (j := 12) (s := 155) rfl rfl rfl fg, ?_⟩
        exact wp_ret (.int .i64 0) (by simp [go_sem, f0]) (num5_gr _ _) (fun w2 hg2 => ⟨_, rfl, hg2, rfl⟩)
      · obtain rfl := Option.some.inj ho
        have lg := on_of hd 12 (by kernel_rfl)
        have fg := hF.at (s := 155) (i := 12) (by kernel_rfl) (by simp) lg
        rw [show vals 12 = .bool false from hR 12 lg] at fg
        have l0 := on_of hd 14 (by kernel_rfl)
        have f0 := hF.at (s := 157) (i := 14) (by kernel_rfl) (by simp) l0
        rw [show vals 14 = .int .i64 0 from hR 14 l0] at f0
        refine Or.inl ⟨wanted_at (j := 12) (s := 155) rfl rfl rfl fg, ?_⟩
        exact wp_val (.bool false) (by simp [go_sem, f0]) ⟨_, rfl, Gr.refl _, rfl⟩
      · obtain rfl := Option.some.inj ho
        have l0 := on_of hd 12 (by kernel_rfl)
        have f0 := hF.at (s := 155) (i := 12) (by kernel_rfl) (by simp) l0
        rw [show vals 12 = .bool false from hR 12 l0] at f0
        have l1 := on_of hd 15 (by kernel_rfl)
        have f1 := hF.at (s := 158) (i := 15) (by kernel_rfl) (by simp) l1
        rw [show vals 15 = .bool false from hR 15 l1] at f1
        refine Or.inl ⟨wanted_no rfl, ?_⟩
        exact wp_val (.bool false) (by simp [go_sem, f0, f1]) ⟨_, rfl, Gr.refl _, rfl⟩
      · obtain rfl := Option.some.inj ho
        have l0 := on_of hd 16 (by kernel_rfl)
        have f0 := hF.at (s := 159) (i := 16) (by kernel_rfl) (by simp) l0
        rw [show vals 16 = .bool false from hR 16 l0] at f0
        refine Or.inl ⟨wanted_no rfl, ?_⟩
        exact wp_val (.bool false) (by simp [go_sem, f0]) ⟨_, rfl, Gr.refl _, rfl⟩
      · obtain rfl := Option.some.inj ho
        have lg := on_of hd 17 (by kernel_rfl)
        have fg := hF.at (s := 160) (i := 17) (by kernel_rfl) (by simp) lg
        rw [show vals 17 = .bool false from hR 17 lg] at fg
        have f0 := hF.old (s := 15) (v := .pointer (some ⟨e15, 0, none⟩)) (by kernel_rfl) rfl
        refine Or.inl ⟨wanted_at (j := 17) (s := 160) rfl rfl rfl fg, ?_⟩
        exact wp_val (.agg (nw 9 fr)) (by simp [go_sem, f0, Hc_e15]) ⟨_, rfl, Gr.refl _, rfl⟩
      · obtain rfl := Option.some.inj ho
        have lg := on_of hd 17 (by kernel_rfl)
        have fg := hF.at (s := 160) (i := 17) (by kernel_rfl) (by simp) lg
        rw [show vals 17 = .bool false from hR 17 lg] at fg
        have f0 := hF.old (s := 11) (v := .slice p4 (dl a) n4) (by kernel_rfl) rfl
        refine Or.inl ⟨wanted_at (j := 17) (s := 160) rfl rfl rfl fg, ?_⟩
        exact wp_val (.slice p4 (dl a) n4) (by simp [go_sem, f0]) ⟨_, rfl, Gr.refl _, rfl⟩
      · obtain rfl := Option.some.inj ho
        have lg := on_of hd 17 (by kernel_rfl)
        have fg := hF.at (s := 160) (i := 17) (by kernel_rfl) (by simp) lg
        rw [show vals 17 = .bool false from hR 17 lg] at fg
        have f0 := hF.old (s := 22) (v := .slice pu (dl u) nu) (by kernel_rfl) rfl
        refine Or.inl ⟨wanted_at (j := 17) (s := 160) rfl rfl rfl fg, ?_⟩
        exact wp_val (.slice pu (dl u) nu) (by simp [go_sem, f0]) ⟨_, rfl, Gr.refl _, rfl⟩
      · obtain rfl := Option.some.inj ho
        have lg := on_of hd 17 (by kernel_rfl)
        have fg := hF.at (s := 160) (i := 17) (by kernel_rfl) (by simp) lg
        rw [show vals 17 = .bool false from hR 17 lg] at fg
        have f0 := hF.old (s := 9) (v := .slice pz (dl m) nz) (by kernel_rfl) rfl
        refine Or.inl ⟨wanted_at (j := 17) (s := 160) rfl rfl rfl fg, ?_⟩
        exact wp_val (.slice pz (dl m) nz) (by simp [go_sem, f0]) ⟨_, rfl, Gr.refl _, rfl⟩
      · obtain rfl := Option.some.inj ho
        have lg := on_of hd 17 (by kernel_rfl)
        have fg := hF.at (s := 160) (i := 17) (by kernel_rfl) (by simp) lg
        rw [show vals 17 = .bool false from hR 17 lg] at fg
        have l0 := on_of hd 19 (by kernel_rfl)
        have f0 := hF.at (s := 162) (i := 19) (by kernel_rfl) (by simp) l0
        rw [show vals 19 = .slice p4 (dl a) n4 from hR 19 l0] at f0
        have l1 := on_of hd 20 (by kernel_rfl)
        have f1 := hF.at (s := 163) (i := 20) (by kernel_rfl) (by simp) l1
        rw [show vals 20 = .slice pu (dl u) nu from hR 20 l1] at f1
        have l2 := on_of hd 21 (by kernel_rfl)
        have f2 := hF.at (s := 164) (i := 21) (by kernel_rfl) (by simp) l2
        rw [show vals 21 = .slice pz (dl m) nz from hR 21 l2] at f2
        refine Or.inl ⟨wanted_at (j := 17) (s := 160) rfl rfl rfl fg, ?_⟩
        exact wp_retN (by simp [go_sem, f0, f1, f2]) (MMf.out _ p4 n4 pu nu pz nz (S_p4.gr hg) (S_pu.gr hg) (S_pz.gr hg)) (fun p n w2 hS hg2 => ⟨_, rfl, hg2, p, n, rfl, hS⟩)
      · obtain rfl := Option.some.inj ho
        have lg := on_of hd 17 (by kernel_rfl)
        have fg := hF.at (s := 160) (i := 17) (by kernel_rfl) (by simp) lg
        rw [show vals 17 = .bool false from hR 17 lg] at fg
        have l0 := on_of hd 22 (by kernel_rfl)
        have f0 := hF.at (s := 165) (i := 22) (by kernel_rfl) (by simp) l0
        obtain ⟨p0, n0, e0, S0⟩ := (show ∃ p n, vals 22 = Value.slice p (dl (fr)) n ∧ Sl vB p (fr) from hR 22 l0)
        rw [e0] at f0
        refine Or.inl ⟨wanted_at (j := 17) (s := 160) rfl rfl rfl fg, ?_⟩
        exact wp_ret (.agg (nw 9 fr)) (by simp [go_sem, f0]) (NTf.out _ p0 n0 S0) (fun w2 hg2 => ⟨_, rfl, hg2, rfl⟩)
      · obtain rfl := Option.some.inj ho
        have lg := on_of hd 17 (by kernel_rfl)
        have fg := hF.at (s := 160) (i := 17) (by kernel_rfl) (by simp) lg
        rw [show vals 17 = .bool false from hR 17 lg] at fg
        have l0 := on_of hd 18 (by kernel_rfl)
        have f0 := hF.at (s := 161) (i := 18) (by kernel_rfl) (by simp) l0
        rw [show vals 18 = .agg (nw 9 fr) from hR 18 l0] at f0
        have l1 := on_of hd 23 (by kernel_rfl)
        have f1 := hF.at (s := 166) (i := 23) (by kernel_rfl) (by simp) l1
        rw [show vals 23 = .agg (nw 9 fr) from hR 23 l1] at f1
        refine Or.inl ⟨wanted_at (j := 17) (s := 160) rfl rfl rfl fg, ?_⟩
        exact wp_val (.bool false) (by simp [go_sem, f0, f1, eqN_self]) ⟨_, rfl, Gr.refl _, rfl⟩
      · obtain rfl := Option.some.inj ho
        have l0 := on_of hd 17 (by kernel_rfl)
        have f0 := hF.at (s := 160) (i := 17) (by kernel_rfl) (by simp) l0
        rw [show vals 17 = .bool false from hR 17 l0] at f0
        have l1 := on_of hd 24 (by kernel_rfl)
        have f1 := hF.at (s := 167) (i := 24) (by kernel_rfl) (by simp) l1
        rw [show vals 24 = .bool false from hR 24 l1] at f1
        refine Or.inl ⟨wanted_no rfl, ?_⟩
        exact wp_val (.bool false) (by simp [go_sem, f0, f1]) ⟨_, rfl, Gr.refl _, rfl⟩
    case hf =>
      intro vals vB hg hR
      have x0 : vals 0 = .int .i64 0 := hR 0 (by simp)
      have x1 : vals 1 = .int .i64 0 := hR 1 (by simp)
      have x2 : vals 2 = .bool false := hR 2 (by simp)
      have x3 : vals 3 = .bool false := hR 3 (by simp)
      have x4 : vals 4 = .agg (nw 9 t) := hR 4 (by simp)
      have x5 : vals 5 = .slice p4 (dl a) n4 := hR 5 (by simp)
      have x6 : vals 6 = .slice pr (dl R) nr := hR 6 (by simp)
      have x7 : vals 7 = .slice pz (dl m) nz := hR 7 (by simp)
      obtain ⟨p8, n8, x8, S8⟩ := (show ∃ p n, vals 8 = Value.slice p (dl (t)) n ∧ Sl vB p (t) from hR 8 (by simp))
      have x9 : vals 9 = .agg (nw 9 t) := hR 9 (by simp)
      have x10 : vals 10 = .bool false := hR 10 (by simp)
      have x11 : vals 11 = .bool false := hR 11 (by simp)
      have x12 : vals 12 = .bool false := hR 12 (by simp)
      have x13 : vals 13 = .int .i64 0 := hR 13 (by simp)
      have x14 : vals 14 = .int .i64 0 := hR 14 (by simp)
      have x15 : vals 15 = .bool false := hR 15 (by simp)
      have x16 : vals 16 = .bool false := hR 16 (by simp)
      have x17 : vals 17 = .bool false := hR 17 (by simp)
      have x18 : vals 18 = .agg (nw 9 fr) := hR 18 (by simp)
      have x19 : vals 19 = .slice p4 (dl a) n4 := hR 19 (by simp)
      have x20 : vals 20 = .slice pu (dl u) nu := hR 20 (by simp)
      have x21 : vals 21 = .slice pz (dl m) nz := hR 21 (by simp)
      obtain ⟨p22, n22, x22, S22⟩ := (show ∃ p n, vals 22 = Value.slice p (dl (fr)) n ∧ Sl vB p (fr) from hR 22 (by simp))
      have x23 : vals 23 = .agg (nw 9 fr) := hR 23 (by simp)
      have x24 : vals 24 = .bool false := hR 24 (by simp)
      have x25 : vals 25 = .bool false := hR 25 (by simp)
      simp only [putFrom, Act.put, List.setIfInBounds_toArray, List.set_cons_zero, List.set_cons_succ, x0, x1, x2, x3, x4, x5, x6, x7, x8, x9, x10, x11, x12, x13, x14, x15, x16, x17, x18, x19, x20, x21, x22, x23, x24, x25]
      clear hR x0 x1 x2 x3 x4 x5 x6 x7 x8 x9 x10 x11 x12 x13 x14 x15 x16 x17 x18 x19 x20 x21 x22 x23 x24 x25
      have HW : Hid (Gr w vB ∧ Cl vB (w.heap.size) m ∧ Cl vB (w.heap.size + 1) a ∧ Cl vB (w.heap.size + 1 + 1) b0 ∧ Cl vB e13 t ∧ Cl vB e15 fr ∧ Cl vB e17 gm ∧ Cl vB e19 0 ∧ Mn vB bx m k u ∧ Sl vB pz m ∧ Sl vB p4 a ∧ Sl vB p5 b0 ∧ Sl vB pr R ∧ Sl vB pu u) := ⟨G.trans hg, c_w_heap_size.gr hg, c__w_heap_size_1_.gr hg, c__w_heap_size_1_1_.gr hg, c_e13.gr hg, c_e15.gr hg, c_e17.gr hg, c_e19.gr hg, S_x.gr hg, S_pz.gr hg, S_p4.gr hg, S_p5.gr hg, S_pr.gr hg, S_pu.gr hg⟩
      clear HV hg G c_w_heap_size c__w_heap_size_1_ c__w_heap_size_1_1_ c_e13 c_e15 c_e17 c_e19 S_x S_pz S_p4 S_p5 S_pr S_pu
      have HV := HW
      clear HW
      have ⟨G, c_w_heap_size, c__w_heap_size_1_, c__w_heap_size_1_1_, c_e13, c_e15, c_e17, c_e19, S_x, S_pz, S_p4, S_p5, S_pr, S_pu⟩ := HV.out
      have ⟨hc_w_heap_size, fc_w_heap_size, pc_w_heap_size⟩ := c_w_heap_size
      have ⟨hc__w_heap_size_1_, fc__w_heap_size_1_, pc__w_heap_size_1_⟩ := c__w_heap_size_1_
      have ⟨hc__w_heap_size_1_1_, fc__w_heap_size_1_1_, pc__w_heap_size_1_1_⟩ := c__w_heap_size_1_1_
      have ⟨hc_e13, fc_e13, pc_e13⟩ := c_e13
      have ⟨hc_e15, fc_e15, pc_e15⟩ := c_e15
      have ⟨hc_e17, fc_e17, pc_e17⟩ := c_e17
      have ⟨hc_e19, fc_e19, pc_e19⟩ := c_e19
      go_upto_region 23 with (go_at_call 11; refine (HCb.out _ p5 n5 pz nz (S_p5.gr (by repeat (first | exact Gr.refl _ | apply Gr.drewN | apply Gr.drew | apply Gr.alloc | apply Gr.gro))) (S_pz.gr (by repeat (first | exact Gr.refl _ | apply Gr.drewN | apply Gr.drew | apply Gr.alloc | apply Gr.gro)))).mono ?_; rintro e w' ⟨rfl, gcb, rfl⟩)
      refine gen_w (fun v => Hid (Gr w v ∧ Cl v (w.heap.size) m ∧ Cl v (w.heap.size + 1) a ∧ Cl v (w.heap.size + 1 + 1) b0 ∧ Cl v e13 t ∧ Cl v e15 fr ∧ Cl v e17 gm ∧ Cl v e19 0 ∧ Mn v bx m k u ∧ Sl v pz m ∧ Sl v p4 a ∧ Sl v p5 b0 ∧ Sl v pr R ∧ Sl v pu u)) ⟨G.trans (by repeat (first | exact Gr.refl _ | apply Gr.drewN | apply Gr.drew | apply Gr.alloc | apply Gr.gro)), c_w_heap_size.gr (by repeat (first | exact Gr.refl _ | apply Gr.drewN | apply Gr.drew | apply Gr.alloc | apply Gr.gro)), c__w_heap_size_1_.gr (by repeat (first | exact Gr.refl _ | apply Gr.drewN | apply Gr.drew | apply Gr.alloc | apply Gr.gro)), c__w_heap_size_1_1_.gr (by repeat (first | exact Gr.refl _ | apply Gr.drewN | apply Gr.drew | apply Gr.alloc | apply Gr.gro)), c_e13.gr (by repeat (first | exact Gr.refl _ | apply Gr.drewN | apply Gr.drew | apply Gr.alloc | apply Gr.gro)), c_e15.gr (by repeat (first | exact Gr.refl _ | apply Gr.drewN | apply Gr.drew | apply Gr.alloc | apply Gr.gro)), c_e17.gr (by repeat (first | exact Gr.refl _ | apply Gr.drewN | apply Gr.drew | apply Gr.alloc | apply Gr.gro)), c_e19.gr (by repeat (first | exact Gr.refl _ | apply Gr.drewN | apply Gr.drew | apply Gr.alloc | apply Gr.gro)), S_x.gr (by repeat (first | exact Gr.refl _ | apply Gr.drewN | apply Gr.drew | apply Gr.alloc | apply Gr.gro)), S_pz.gr (by repeat (first | exact Gr.refl _ | apply Gr.drewN | apply Gr.drew | apply Gr.alloc | apply Gr.gro)), S_p4.gr (by repeat (first | exact Gr.refl _ | apply Gr.drewN | apply Gr.drew | apply Gr.alloc | apply Gr.gro)), S_p5.gr (by repeat (first | exact Gr.refl _ | apply Gr.drewN | apply Gr.drew | apply Gr.alloc | apply Gr.gro)), S_pr.gr (by repeat (first | exact Gr.refl _ | apply Gr.drewN | apply Gr.drew | apply Gr.alloc | apply Gr.gro)), S_pu.gr (by repeat (first | exact Gr.refl _ | apply Gr.drewN | apply Gr.drew | apply Gr.alloc | apply Gr.gro))⟩ ?_
      clear HV G c_w_heap_size c__w_heap_size_1_ c__w_heap_size_1_1_ c_e13 c_e15 c_e17 c_e19 S_x S_pz S_p4 S_p5 S_pr S_pu
      intro v23 HV
      have ⟨G, c_w_heap_size, c__w_heap_size_1_, c__w_heap_size_1_1_, c_e13, c_e15, c_e17, c_e19, S_x, S_pz, S_p4, S_p5, S_pr, S_pu⟩ := HV.out
      refine wp_region_pred (by kernel_rfl) (by kernel_rfl) [.c (.int .i64 0), .c (.int .i64 0), .c (.bool false), .c (.bool false), .c (.agg (nw 9 gm)), .c (.slice p4 (dl a) n4), .c (.slice p5 (dl b0) n5), .c (.slice pz (dl m) nz), .n (d1), .c (.slice pu (dl u) nu), .c (.slice pz (dl m) nz), .n (gm), .c (.agg (nw 9 gm)), .c (.bool false), .c (.bool false)] ?hs ?hf
      case hs =>
        intro listed vals a1 vC i o hg hR hF ho hd
        have Hc_w_heap_size : blk vC (w.heap.size) = nw 9 m := (hg.blk _ c_w_heap_size.p).trans c_w_heap_size.h
        have Hc__w_heap_size_1_ : blk vC (w.heap.size + 1) = nw 9 a := (hg.blk _ c__w_heap_size_1_.p).trans c__w_heap_size_1_.h
        have Hc__w_heap_size_1_1_ : blk vC (w.heap.size + 1 + 1) = nw 9 b0 := (hg.blk _ c__w_heap_size_1_1_.p).trans c__w_heap_size_1_1_.h
        have Hc_e13 : blk vC e13 = nw 9 t := (hg.blk _ c_e13.p).trans c_e13.h
        have Hc_e15 : blk vC e15 = nw 9 fr := (hg.blk _ c_e15.p).trans c_e15.h
        have Hc_e17 : blk vC e17 = nw 9 gm := (hg.blk _ c_e17.p).trans c_e17.h
        have Hc_e19 : blk vC e19 = nw 9 0 := (hg.blk _ c_e19.p).trans c_e19.h
        have hi : i < 15 := by simpa using (Array.getElem?_eq_some_iff.1 ho).1
        obtain rfl | rfl | rfl | rfl | rfl | rfl | rfl | rfl | rfl | rfl | rfl | rfl | rfl | rfl | rfl : i = 0 ∨ i = 1 ∨ i = 2 ∨ i = 3 ∨ i = 4 ∨ i = 5 ∨ i = 6 ∨ i = 7 ∨ i = 8 ∨ i = 9 ∨ i = 10 ∨ i = 11 ∨ i = 12 ∨ i = 13 ∨ i = 14 := by omega
        · obtain rfl := Option.some.inj ho
          have f0 := hF.old (s := 18) (v := .int .i64 0) (by kernel_rfl) rfl
          refine Or.inl ⟨wanted_no rfl, ?_⟩
          exact wp_val (.int .i64 0) (by simp [go_sem, f0]) ⟨_, rfl, Gr.refl _, rfl⟩
        · obtain rfl := Option.some.inj ho
          have l0 := on_of hd 0 (by kernel_rfl)
          have f0 := hF.at (s := 184) (i := 0) (by kernel_rfl) (by simp) l0
          rw [show vals 0 = .int .i64 0 from hR 0 l0] at f0
          refine Or.inl ⟨wanted_no rfl, ?_⟩
          exact wp_ret (.int .i64 0) (by simp [go_sem, f0]) (num5_gr _ _) (fun w2 hg2 => ⟨_, rfl, hg2, rfl⟩)
        · obtain rfl := Option.some.inj ho
          have l0 := on_of hd 1 (by kernel_rfl)
          have f0 := hF.at (s := 185) (i := 1) (by kernel_rfl) (by simp) l0
          rw [show vals 1 = .int .i64 0 from hR 1 l0] at f0
          refine Or.inl ⟨wanted_no rfl, ?_⟩
          exact wp_val (.bool false) (by simp [go_sem, f0]) ⟨_, rfl, Gr.refl _, rfl⟩
        · obtain rfl := Option.some.inj ho
          have l0 := on_of hd 2 (by kernel_rfl)
          have f0 := hF.at (s := 186) (i := 2) (by kernel_rfl) (by simp) l0
          rw [show vals 2 = .bool false from hR 2 l0] at f0
          refine Or.inl ⟨wanted_no rfl, ?_⟩
          exact wp_val (.bool false) (by simp [go_sem, f0]) ⟨_, rfl, Gr.refl _, rfl⟩
        · obtain rfl := Option.some.inj ho
          have lg := on_of hd 3 (by kernel_rfl)
          have fg := hF.at (s := 187) (i := 3) (by kernel_rfl) (by simp) lg
          rw [show vals 3 = .bool false from hR 3 lg] at fg
          have f0 := hF.old (s := 17) (v := .pointer (some ⟨e17, 0, none⟩)) (by kernel_rfl) rfl
          refine Or.inl ⟨wanted_at (j := 3) (s := 187) rfl rfl rfl fg, ?_⟩
          exact wp_val (.agg (nw 9 gm)) (by simp [go_sem, f0, Hc_e17]) ⟨_, rfl, Gr.refl _, rfl⟩
        · obtain rfl := Option.some.inj ho
          have lg := on_of hd 3 (by kernel_rfl)
          have fg := hF.at (s := 187) (i := 3) (by kernel_rfl) (by simp) lg
          rw [show vals 3 = .bool false from hR 3 lg] at fg
          have f0 := hF.old (s := 11) (v := .slice p4 (dl a) n4) (by kernel_rfl) rfl
          refine Or.inl ⟨wanted_at (j := 3) (s := 187) rfl rfl rfl fg, ?_⟩
          exact wp_val (.slice p4 (dl a) n4) (by simp [go_sem, f0]) ⟨_, rfl, Gr.refl _, rfl⟩
        · obtain rfl := Option.some.inj ho
          have lg := on_of hd 3 (by kernel_rfl)
          have fg := hF.at (s := 187) (i := 3) (by kernel_rfl) (by simp) lg
          rw [show vals 3 = .bool false from hR 3 lg] at fg
          have f0 := hF.old (s := 12) (v := .slice p5 (dl b0) n5) (by kernel_rfl) rfl
          refine Or.inl ⟨wanted_at (j := 3) (s := 187) rfl rfl rfl fg, ?_⟩
          exact wp_val (.slice p5 (dl b0) n5) (by simp [go_sem, f0]) ⟨_, rfl, Gr.refl _, rfl⟩
        · obtain rfl := Option.some.inj ho
          have lg := on_of hd 3 (by kernel_rfl)
          have fg := hF.at (s := 187) (i := 3) (by kernel_rfl) (by simp) lg
          rw [show vals 3 = .bool false from hR 3 lg] at fg
          have f0 := hF.old (s := 9) (v := .slice pz (dl m) nz) (by kernel_rfl) rfl
          refine Or.inl ⟨wanted_at (j := 3) (s := 187) rfl rfl rfl fg, ?_⟩
          exact wp_val (.slice pz (dl m) nz) (by simp [go_sem, f0]) ⟨_, rfl, Gr.refl _, rfl⟩
        · obtain rfl := Option.some.inj ho
          have lg := on_of hd 3 (by kernel_rfl)
          have fg := hF.at (s := 187) (i := 3) (by kernel_rfl) (by simp) lg
          rw [show vals 3 = .bool false from hR 3 lg] at fg
          have l0 := on_of hd 5 (by kernel_rfl)
          have f0 := hF.at (s := 189) (i := 5) (by kernel_rfl) (by simp) l0
          rw [show vals 5 = .slice p4 (dl a) n4 from hR 5 l0] at f0
          have l1 := on_of hd 6 (by kernel_rfl)
          have f1 := hF.at (s := 190) (i := 6) (by kernel_rfl) (by simp) l1
          rw [show vals 6 = .slice p5 (dl b0) n5 from hR 6 l1] at f1
          have l2 := on_of hd 7 (by kernel_rfl)
          have f2 := hF.at (s := 191) (i := 7) (by kernel_rfl) (by simp) l2
          rw [show vals 7 = .slice pz (dl m) nz from hR 7 l2] at f2
          refine Or.inl ⟨wanted_at (j := 3) (s := 187) rfl rfl rfl fg, ?_⟩
          exact wp_retN (by simp [go_sem, f0, f1, f2]) (MMd.out _ p4 n4 p5 n5 pz nz (S_p4.gr hg) (S_p5.gr hg) (S_pz.gr hg)) (fun p n w2 hS hg2 => ⟨_, rfl, hg2, p, n, rfl, hS⟩)
        · obtain rfl := Option.some.inj ho
          have lg := on_of hd 3 (by kernel_rfl)
          have fg := hF.at (s := 187) (i := 3) (by kernel_rfl) (by simp) lg
          rw [show vals 3 = .bool false from hR 3 lg] at fg
          have f0 := hF.old (s := 22) (v := .slice pu (dl u) nu) (by kernel_rfl) rfl
          refine Or.inl ⟨wanted_at (j := 3) (s := 187) rfl rfl rfl fg, ?_⟩
          exact wp_val (.slice pu (dl u) nu) (by simp [go_sem, f0]) ⟨_, rfl, Gr.refl _, rfl⟩
        · obtain rfl := Option.some.inj ho
          have lg := on_of hd 3 (by kernel_rfl)
          have fg := hF.at (s := 187) (i := 3) (by kernel_rfl) (by simp) lg
          rw [show vals 3 = .bool false from hR 3 lg] at fg
          have f0 := hF.old (s := 9) (v := .slice pz (dl m) nz) (by kernel_rfl) rfl
          refine Or.inl ⟨wanted_at (j := 3) (s := 187) rfl rfl rfl fg, ?_⟩
          exact wp_val (.slice pz (dl m) nz) (by simp [go_sem, f0]) ⟨_, rfl, Gr.refl _, rfl⟩
        · obtain rfl := Option.some.inj ho
          have lg := on_of hd 3 (by kernel_rfl)
          have fg := hF.at (s := 187) (i := 3) (by kernel_rfl) (by simp) lg
          rw [show vals 3 = .bool false from hR 3 lg] at fg
          have l0 := on_of hd 8 (by kernel_rfl)
          have f0 := hF.at (s := 192) (i := 8) (by kernel_rfl) (by simp) l0
          obtain ⟨p0, n0, e0, S0⟩ := (show ∃ p n, vals 8 = Value.slice p (dl (d1)) n ∧ Sl vC p (d1) from hR 8 l0)
          rw [e0] at f0
          have l1 := on_of hd 9 (by kernel_rfl)
          have f1 := hF.at (s := 193) (i := 9) (by kernel_rfl) (by simp) l1
          rw [show vals 9 = .slice pu (dl u) nu from hR 9 l1] at f1
          have l2 := on_of hd 10 (by kernel_rfl)
          have f2 := hF.at (s := 194) (i := 10) (by kernel_rfl) (by simp) l2
          rw [show vals 10 = .slice pz (dl m) nz from hR 10 l2] at f2
          refine Or.inl ⟨wanted_at (j := 3) (s := 187) rfl rfl rfl fg, ?_⟩
          exact wp_retN (by simp [go_sem, f0, f1, f2]) (MMg.out _ p0 n0 pu nu pz nz S0 (S_pu.gr hg) (S_pz.gr hg)) (fun p n w2 hS hg2 => ⟨_, rfl, hg2, p, n, rfl, hS⟩)
        · obtain rfl := Option.some.inj ho
          have lg := on_of hd 3 (by kernel_rfl)
          have fg := hF.at (s := 187) (i := 3) (by kernel_rfl) (by simp) lg
          rw [show vals 3 = .bool false from hR 3 lg] at fg
          have l0 := on_of hd 11 (by kernel_rfl)
          have f0 := hF.at (s := 195) (i := 11) (by kernel_rfl) (by simp) l0
          obtain ⟨p0, n0, e0, S0⟩ := (show ∃ p n, vals 11 = Value.slice p (dl (gm)) n ∧ Sl vC p (gm) from hR 11 l0)
          rw [e0] at f0
          refine Or.inl ⟨wanted_at (j := 3) (s := 187) rfl rfl rfl fg, ?_⟩
          exact wp_ret (.agg (nw 9 gm)) (by simp [go_sem, f0]) (NTg.out _ p0 n0 S0) (fun w2 hg2 => ⟨_, rfl, hg2, rfl⟩)
        · obtain rfl := Option.some.inj ho
          have lg := on_of hd 3 (by kernel_rfl)
          have fg := hF.at (s := 187) (i := 3) (by kernel_rfl) (by simp) lg
          rw [show vals 3 = .bool false from hR 3 lg] at fg
          have l0 := on_of hd 4 (by kernel_rfl)
          have f0 := hF.at (s := 188) (i := 4) (by kernel_rfl) (by simp) l0
          rw [show vals 4 = .agg (nw 9 gm) from hR 4 l0] at f0
          have l1 := on_of hd 12 (by kernel_rfl)
          have f1 := hF.at (s := 196) (i := 12) (by kernel_rfl) (by simp) l1
          rw [show vals 12 = .agg (nw 9 gm) from hR 12 l1] at f1
          refine Or.inl ⟨wanted_at (j := 3) (s := 187) rfl rfl rfl fg, ?_⟩
          exact wp_val (.bool false) (by simp [go_sem, f0, f1, eqN_self]) ⟨_, rfl, Gr.refl _, rfl⟩
        · obtain rfl := Option.some.inj ho
          have l0 := on_of hd 3 (by kernel_rfl)
          have f0 := hF.at (s := 187) (i := 3) (by kernel_rfl) (by simp) l0
          rw [show vals 3 = .bool false from hR 3 l0] at f0
          have l1 := on_of hd 13 (by kernel_rfl)
          have f1 := hF.at (s := 197) (i := 13) (by kernel_rfl) (by simp) l1
          rw [show vals 13 = .bool false from hR 13 l1] at f1
          refine Or.inl ⟨wanted_no rfl, ?_⟩
          exact wp_val (.bool false) (by simp [go_sem, f0, f1]) ⟨_, rfl, Gr.refl _, rfl⟩
      case hf =>
        intro vals vC hg hR
        have x0 : vals 0 = .int .i64 0 := hR 0 (by simp)
        have x1 : vals 1 = .int .i64 0 := hR 1 (by simp)
        have x2 : vals 2 = .bool false := hR 2 (by simp)
        have x3 : vals 3 = .bool false := hR 3 (by simp)
        have x4 : vals 4 = .agg (nw 9 gm) := hR 4 (by simp)
        have x5 : vals 5 = .slice p4 (dl a) n4 := hR 5 (by simp)
        have x6 : vals 6 = .slice p5 (dl b0) n5 := hR 6 (by simp)
        have x7 : vals 7 = .slice pz (dl m) nz := hR 7 (by simp)
        obtain ⟨p8, n8, x8, S8⟩ := (show ∃ p n, vals 8 = Value.slice p (dl (d1)) n ∧ Sl vC p (d1) from hR 8 (by simp))
        have x9 : vals 9 = .slice pu (dl u) nu := hR 9 (by simp)
        have x10 : vals 10 = .slice pz (dl m) nz := hR 10 (by simp)
        obtain ⟨p11, n11, x11, S11⟩ := (show ∃ p n, vals 11 = Value.slice p (dl (gm)) n ∧ Sl vC p (gm) from hR 11 (by simp))
        have x12 : vals 12 = .agg (nw 9 gm) := hR 12 (by simp)
        have x13 : vals 13 = .bool false := hR 13 (by simp)
        have x14 : vals 14 = .bool false := hR 14 (by simp)
        simp only [putFrom, Act.put, List.setIfInBounds_toArray, List.set_cons_zero, List.set_cons_succ, x0, x1, x2, x3, x4, x5, x6, x7, x8, x9, x10, x11, x12, x13, x14]
        clear hR x0 x1 x2 x3 x4 x5 x6 x7 x8 x9 x10 x11 x12 x13 x14
        have HW : Hid (Gr w vC ∧ Cl vC (w.heap.size) m ∧ Cl vC (w.heap.size + 1) a ∧ Cl vC (w.heap.size + 1 + 1) b0 ∧ Cl vC e13 t ∧ Cl vC e15 fr ∧ Cl vC e17 gm ∧ Cl vC e19 0 ∧ Mn vC bx m k u ∧ Sl vC pz m ∧ Sl vC p4 a ∧ Sl vC p5 b0 ∧ Sl vC pr R ∧ Sl vC pu u) := ⟨G.trans hg, c_w_heap_size.gr hg, c__w_heap_size_1_.gr hg, c__w_heap_size_1_1_.gr hg, c_e13.gr hg, c_e15.gr hg, c_e17.gr hg, c_e19.gr hg, S_x.gr hg, S_pz.gr hg, S_p4.gr hg, S_p5.gr hg, S_pr.gr hg, S_pu.gr hg⟩
        clear HV hg G c_w_heap_size c__w_heap_size_1_ c__w_heap_size_1_1_ c_e13 c_e15 c_e17 c_e19 S_x S_pz S_p4 S_p5 S_pr S_pu
        have HV := HW
        clear HW
        go_upto_region 25 with fail
        go_cut [24, 25] from 199 to 204 (fun a0 a1 wx => a0 = .slice none 0 0 ∧ a1 = .bool false ∧ Hid (Gr w wx ∧ Cl wx (w.heap.size) m ∧ Cl wx (w.heap.size + 1) a ∧ Cl wx (w.heap.size + 1 + 1) b0 ∧ Cl wx e13 t ∧ Cl wx e15 fr ∧ Cl wx e17 gm ∧ Cl wx e19 0 ∧ Mn wx bx m k u ∧ Sl wx pz m ∧ Sl wx p4 a ∧ Sl wx p5 b0 ∧ Sl wx pr R ∧ Sl wx pu u))
        case first =>
          have ⟨G, c_w_heap_size, c__w_heap_size_1_, c__w_heap_size_1_1_, c_e13, c_e15, c_e17, c_e19, S_x, S_pz, S_p4, S_p5, S_pr, S_pu⟩ := HV.out
          have ⟨hc_w_heap_size, fc_w_heap_size, pc_w_heap_size⟩ := c_w_heap_size
          have ⟨hc__w_heap_size_1_, fc__w_heap_size_1_, pc__w_heap_size_1_⟩ := c__w_heap_size_1_
          have ⟨hc__w_heap_size_1_1_, fc__w_heap_size_1_1_, pc__w_heap_size_1_1_⟩ := c__w_heap_size_1_1_
          have ⟨hc_e13, fc_e13, pc_e13⟩ := c_e13
          have ⟨hc_e15, fc_e15, pc_e15⟩ := c_e15
          have ⟨hc_e17, fc_e17, pc_e17⟩ := c_e17
          have ⟨hc_e19, fc_e19, pc_e19⟩ := c_e19
          go_wp2_with (go_at_call 22; refine (HIx.out _ p4 n4 pz nz (S_p4.gr (by repeat (first | exact Gr.refl _ | apply Gr.drewN | apply Gr.drew | apply Gr.alloc | apply Gr.gro))) (S_pz.gr (by repeat (first | exact Gr.refl _ | apply Gr.drewN | apply Gr.drew | apply Gr.alloc | apply Gr.gro)))).mono ?_; rintro e W1 ⟨rfl, G1⟩)
          go_meet
          exact ⟨rfl, rfl, G.trans ((Gr.trans (by repeat (first | exact Gr.refl _ | apply Gr.drewN | apply Gr.drew | apply Gr.alloc | apply Gr.gro)) G1).trans (by repeat (first | exact Gr.refl _ | apply Gr.drewN | apply Gr.drew | apply Gr.alloc | apply Gr.gro))), c_w_heap_size.gr ((Gr.trans (by repeat (first | exact Gr.refl _ | apply Gr.drewN | apply Gr.drew | apply Gr.alloc | apply Gr.gro)) G1).trans (by repeat (first | exact Gr.refl _ | apply Gr.drewN | apply Gr.drew | apply Gr.alloc | apply Gr.gro))), c__w_heap_size_1_.gr ((Gr.trans (by repeat (first | exact Gr.refl _ | apply Gr.drewN | apply Gr.drew | apply Gr.alloc | apply Gr.gro)) G1).trans (by repeat (first | exact Gr.refl _ | apply Gr.drewN | apply Gr.drew | apply Gr.alloc | apply Gr.gro))), c__w_heap_size_1_1_.gr ((Gr.trans (by repeat (first | exact Gr.refl _ | apply Gr.drewN | apply Gr.drew | apply Gr.alloc | apply Gr.gro)) G1).trans (by repeat (first | exact Gr.refl _ | apply Gr.drewN | apply Gr.drew | apply Gr.alloc | apply Gr.gro))), c_e13.gr ((Gr.trans (by repeat (first | exact Gr.refl _ | apply Gr.drewN | apply Gr.drew | apply Gr.alloc | apply Gr.gro)) G1).trans (by repeat (first | exact Gr.refl _ | apply Gr.drewN | apply Gr.drew | apply Gr.alloc | apply Gr.gro))), c_e15.gr ((Gr.trans (by repeat (first | exact Gr.refl _ | apply Gr.drewN | apply Gr.drew | apply Gr.alloc | apply Gr.gro)) G1).trans (by repeat (first | exact Gr.refl _ | apply Gr.drewN | apply Gr.drew | apply Gr.alloc | apply Gr.gro))), c_e17.gr ((Gr.trans (by repeat (first | exact Gr.refl _ | apply Gr.drewN | apply Gr.drew | apply Gr.alloc | apply Gr.gro)) G1).trans (by repeat (first | exact Gr.refl _ | apply Gr.drewN | apply Gr.drew | apply Gr.alloc | apply Gr.gro))), c_e19.gr ((Gr.trans (by repeat (first | exact Gr.refl _ | apply Gr.drewN | apply Gr.drew | apply Gr.alloc | apply Gr.gro)) G1).trans (by repeat (first | exact Gr.refl _ | apply Gr.drewN | apply Gr.drew | apply Gr.alloc | apply Gr.gro))), S_x.gr ((Gr.trans (by repeat (first | exact Gr.refl _ | apply Gr.drewN | apply Gr.drew | apply Gr.alloc | apply Gr.gro)) G1).trans (by repeat (first | exact Gr.refl _ | apply Gr.drewN | apply Gr.drew | apply Gr.alloc | apply Gr.gro))), S_pz.gr ((Gr.trans (by repeat (first | exact Gr.refl _ | apply Gr.drewN | apply Gr.drew | apply Gr.alloc | apply Gr.gro)) G1).trans (by repeat (first | exact Gr.refl _ | apply Gr.drewN | apply Gr.drew | apply Gr.alloc | apply Gr.gro))), S_p4.gr ((Gr.trans (by repeat (first | exact Gr.refl _ | apply Gr.drewN | apply Gr.drew | apply Gr.alloc | apply Gr.gro)) G1).trans (by repeat (first | exact Gr.refl _ | apply Gr.drewN | apply Gr.drew | apply Gr.alloc | apply Gr.gro))), S_p5.gr ((Gr.trans (by repeat (first | exact Gr.refl _ | apply Gr.drewN | apply Gr.drew | apply Gr.alloc | apply Gr.gro)) G1).trans (by repeat (first | exact Gr.refl _ | apply Gr.drewN | apply Gr.drew | apply Gr.alloc | apply Gr.gro))), S_pr.gr ((Gr.trans (by repeat (first | exact Gr.refl _ | apply Gr.drewN | apply Gr.drew | apply Gr.alloc | apply Gr.gro)) G1).trans (by repeat (first | exact Gr.refl _ | apply Gr.drewN | apply Gr.drew | apply Gr.alloc | apply Gr.gro))), S_pu.gr ((Gr.trans (by repeat (first | exact Gr.refl _ | apply Gr.drewN | apply Gr.drew | apply Gr.alloc | apply Gr.gro)) G1).trans (by repeat (first | exact Gr.refl _ | apply Gr.drewN | apply Gr.drew | apply Gr.alloc | apply Gr.gro)))⟩
        clear HV
        obtain ⟨rfl, rfl, HV⟩ := hcut
        go_upto_region 27 with fail
        have ⟨G, c_w_heap_size, c__w_heap_size_1_, c__w_heap_size_1_1_, c_e13, c_e15, c_e17, c_e19, S_x, S_pz, S_p4, S_p5, S_pr, S_pu⟩ := HV.out
        have ⟨hc_w_heap_size, fc_w_heap_size, pc_w_heap_size⟩ := c_w_heap_size
        have ⟨hc__w_heap_size_1_, fc__w_heap_size_1_, pc__w_heap_size_1_⟩ := c__w_heap_size_1_
        have ⟨hc__w_heap_size_1_1_, fc__w_heap_size_1_1_, pc__w_heap_size_1_1_⟩ := c__w_heap_size_1_1_
        have ⟨hc_e13, fc_e13, pc_e13⟩ := c_e13
        have ⟨hc_e15, fc_e15, pc_e15⟩ := c_e15
        have ⟨hc_e17, fc_e17, pc_e17⟩ := c_e17
        have ⟨hc_e19, fc_e19, pc_e19⟩ := c_e19
        clear HV
        go_wp2_with (first
      | (go_at_call 12; refine (num_any _ _).mono ?_; rintro e w' ⟨rfl, rfl⟩)
      | (go_at_call 13; refine (awake6_any _).mono ?_; rintro e w' ⟨rfl, gaw, rfl⟩))
        go_ret
        refine ⟨rfl, ?_⟩
        repeat (first | exact G | apply Gr.drewN | apply Gr.drew | apply Gr.alloc | apply Gr.gro)

end Go.Proofs.Ytleckbdhebjfkaa
