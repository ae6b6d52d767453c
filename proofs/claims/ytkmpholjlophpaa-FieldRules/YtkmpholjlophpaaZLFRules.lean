/-
  The statement FieldRules, walked: it answers true for every id and every three numbers.
-/
import Derived.Test.YtkmpholjlophpaaZFAw
import Derived.Test.YtkmpholjlophpaaZFL
import Derived.Test.YtkmpholjlophpaaZPC
namespace Go.Proofs.Ytkmpholjlophpaa
open Go.RowKit
attribute [local go_sem ↓] loadNat_is loadArr_is loadWide_is loadArrW_is storeNat_is storeWide_is
attribute [local go_sem] loadNat loadArr loadWide loadArrW storeNat storeWide idxArr fold9 fold18 nw_size nw_elem pre_self pre_1 pre_2 pre_3 pre_4 pre_5 pre_6 pre_7 pre_8 pre_9 pre_10 pre_11 pre_12 pre_13 pre_14 pre_15 pre_16 pre_17 pre_18 pre_19 pre_20 pre_21 pre_22 pre_23 pre_24 pre_25 pre_26 pre_27 pre_28 pre_29 pre_30 pre_31 pre_32 pre_33 pre_34 pre_35 pre_36 pre_37 pre_38 pre_39 pre_40 gro_size gro_drew gro_drewN drew_gro drewN_gro gro_gro blk_gro frz_gro blk_drew frz_drew blk_drewN frz_drewN blk_alloc_at frz_alloc_at blk_alloc frz_alloc cell_gro frozen_gro cell_alloc_pre frozen_alloc_pre setCell_drewN alloc_drewN setBlk_drew setBlk_drewN setBlk_alloc_at setBlk_alloc setBlk_gro setCell_gro setCell_alloc_pre size_setBlk size_setCell
attribute [local go_sem] nw_ext9 nw_ext18 eqArr9 eqArr18

attribute [local go_sem] loadNat2 loadArr2 loadWide2 loadK_nw ppre_1 ppre_2 ppre_3 ppre_4 ppre_5 ppre_6 ppre_7 ppre_8 ppre_9 ppre_10 ppre_11 ppre_12 ppre_13 ppre_14 ppre_15 ppre_16 ppre_17 ppre_18 ppre_19 ppre_20

attribute [local go_sem ↓] loadC_is storeC_is Go.wp_at_zero Go.wp_at_succ
attribute [local go_sem] eqN_self loadC storeCv cvA_size frz_setBlk blk_setBlk setBlk_setBlk blk_other
set_option maxRecDepth 100000 in
set_option maxHeartbeats 4000000 in
theorem frules_k (id : Int) (k a b c : Nat) (hidx : idx id = k) (h1 : 1 ≤ k) (h2 : k ≤ 15) (ha : a < M) (hb : b < M) (hc : c < M) (w : World) :
    Calls Try.prog 5 #[.int .i64 id, .agg (nw 9 a), .agg (nw 9 b), .agg (nw 9 c)] w fun e w' => e = .returned (.bool true) ∧ Gr w w' := by
  have HO : ∀ w, Calls Try.prog 13 #[.int .i64 (k : Int)] w fun e w' => ∃ p n q, e = .returned (.tuple #[.agg (cvA (k : Int) p (dl (pN k)) n q), .bool true]) ∧ Sl w' p (pN k) ∧ Gr w w' := fun w => get_yes k h1 h2 w
  obtain ⟨u, hu, hu2, hk⟩ := idx_conv id
  rw [hidx] at hk
  have u0 : (0 : Int) ≤ (u : Int) := by omega
  have hk2 : (1 : Int) + (u : Int) % 15 = (k : Int) := by omega
  have hk3 : IntKind.i64.wrap ((u : Int) % 15) = (u : Int) % 15 := by rw [IntKind.wrap_i64]; omega
  have hk4 : IntKind.u64.wrap ((u : Int) % 15) = (u : Int) % 15 := by rw [IntKind.wrap_u64]; omega
  have hk5 : (u : Int).tmod 15 = (u : Int) % 15 := by rw [Int.tmod_eq_emod_of_nonneg (by omega)]
  have k0 : (1 : Int) ≤ (k : Int) := by omega
  have k1 : (k : Int) ≤ 15 := by omega
  have hu3 : id % 18446744073709551616 = (u : Int) := by rw [← hu, IntKind.wrap_u64]
  have hB := pN_bd k h1 h2
  have hdl := pN_dl k h1 h2
  have hprm := prm_pN k h1 h2
  obtain ⟨m, hm⟩ : ∃ m, pN k = m := ⟨_, rfl⟩
  have FA := fun a b ha hb w => fAdd_ok k a b h1 h2 ha hb w
  have FSu := fun a b ha hb w => fSub_ok k a b h1 h2 ha hb w
  have FR := fun W hW w => fReduce_ok k W h1 h2 hW w
  have FM := fun a b ha hb w => fMul_ok k a b h1 h2 ha hb w
  have FI := fun a h0 ha hg => fInv_ok k a h1 h2 h0 ha hg
  have FZ := fun w => fInv_zero k h1 h2 w
  rw [hm] at hB hdl hprm FA FSu FR FM FI HO
  obtain ⟨x, hx⟩ : ∃ y0, a % m = y0 := ⟨_, rfl⟩
  have hxm : x < m := by rw [← hx]; exact Nat.mod_lt _ (by omega)
  obtain ⟨y, hy⟩ : ∃ y0, b % m = y0 := ⟨_, rfl⟩
  have hym : y < m := by rw [← hy]; exact Nat.mod_lt _ (by omega)
  obtain ⟨z, hz⟩ : ∃ y0, c % m = y0 := ⟨_, rfl⟩
  have hzm : z < m := by rw [← hz]; exact Nat.mod_lt _ (by omega)
  obtain ⟨s, hs⟩ : ∃ y0, (x + y) % m = y0 := ⟨_, rfl⟩
  have hsm : s < m := by rw [← hs]; exact Nat.mod_lt _ (by omega)
  obtain ⟨t, ht⟩ : ∃ y0, s * z % m = y0 := ⟨_, rfl⟩
  have htm : t < m := by rw [← ht]; exact Nat.mod_lt _ (by omega)
  obtain ⟨f, hf⟩ : ∃ y0, x * z % m = y0 := ⟨_, rfl⟩
  have hfm : f < m := by rw [← hf]; exact Nat.mod_lt _ (by omega)
  obtain ⟨g, hgg⟩ : ∃ g, y * z % m = g := ⟨_, rfl⟩
  have hgm : g < m := by rw [← hgg]; exact Nat.mod_lt _ (by omega)
  have hft : (f + g) % m = t := by rw [← hf, ← hgg, ← Nat.add_mod, ← Nat.add_mul, ← ht, ← hs, Nat.mod_mul_mod]
  have hsx : (s + m - y) % m = x := by
    by_cases hl : x + y < m
    · have e : s = x + y := by rw [← hs]; exact Nat.mod_eq_of_lt hl
      rw [show s + m - y = x + m by omega, Nat.add_mod_right]; exact Nat.mod_eq_of_lt hxm
    · have e : s = x + y - m := by rw [← hs, Nat.mod_eq_sub_mod (by omega)]; exact Nat.mod_eq_of_lt (by omega)
      rw [show s + m - y = x by omega]; exact Nat.mod_eq_of_lt hxm
  have B1 : Hid (∀ (p : Option Addr) (n : Nat) (q : Nat → Option Addr × Nat × Nat) w', Sl w' p m → Calls Try.prog 32 #[.agg (cvA k p (dl m) n q), .agg (nw 9 a)] w' fun e w'' => e = .returned (.agg (nw 9 x)) ∧ Gr w' w'') := fun p n q w' h => hx ▸ below_any k m a n p q (by omega) hdl ha w' h
  have B2 : Hid (∀ (p : Option Addr) (n : Nat) (q : Nat → Option Addr × Nat × Nat) w', Sl w' p m → Calls Try.prog 32 #[.agg (cvA k p (dl m) n q), .agg (nw 9 b)] w' fun e w'' => e = .returned (.agg (nw 9 y)) ∧ Gr w' w'') := fun p n q w' h => hy ▸ below_any k m b n p q (by omega) hdl hb w' h
  have B3 : Hid (∀ (p : Option Addr) (n : Nat) (q : Nat → Option Addr × Nat × Nat) w', Sl w' p m → Calls Try.prog 32 #[.agg (cvA k p (dl m) n q), .agg (nw 9 c)] w' fun e w'' => e = .returned (.agg (nw 9 z)) ∧ Gr w' w'') := fun p n q w' h => hz ▸ below_any k m c n p q (by omega) hdl hc w' h
  have A1 : Hid (∀ w', Calls Try.prog 14 #[.int .i64 k, .agg (nw 9 x), .agg (nw 9 y)] w' fun e w'' => e = .returned (.tuple #[.agg (nw 9 s), .int .i64 0]) ∧ Gr w' w'') := fun w => hs ▸ FA x y hxm hym w
  have M1 : Hid (∀ w', Calls Try.prog 16 #[.int .i64 k, .agg (nw 9 s), .agg (nw 9 z)] w' fun e w'' => e = .returned (.tuple #[.agg (nw 9 t), .int .i64 0]) ∧ Gr w' w'') := fun w => ht ▸ FM s z hsm hzm w
  have M2 : Hid (∀ w', Calls Try.prog 16 #[.int .i64 k, .agg (nw 9 x), .agg (nw 9 z)] w' fun e w'' => e = .returned (.tuple #[.agg (nw 9 f), .int .i64 0]) ∧ Gr w' w'') := fun w => hf ▸ FM x z hxm hzm w
  have M3 : Hid (∀ w', Calls Try.prog 16 #[.int .i64 k, .agg (nw 9 y), .agg (nw 9 z)] w' fun e w'' => e = .returned (.tuple #[.agg (nw 9 g), .int .i64 0]) ∧ Gr w' w'') := fun w => hgg ▸ FM y z hym hzm w
  have A2 : Hid (∀ w', Calls Try.prog 14 #[.int .i64 k, .agg (nw 9 f), .agg (nw 9 g)] w' fun e w'' => e = .returned (.tuple #[.agg (nw 9 t), .int .i64 0]) ∧ Gr w' w'') := fun w => hft ▸ FA f g hfm hgm w
  have S1 : Hid (∀ w', Calls Try.prog 15 #[.int .i64 k, .agg (nw 9 s), .agg (nw 9 y)] w' fun e w'' => e = .returned (.tuple #[.agg (nw 9 x), .int .i64 0]) ∧ Gr w' w'') := fun w => by
    have := FSu s y hsm hym w
    rw [hsx] at this
    exact this
  have HO' : Hid (∀ w, Calls Try.prog 13 #[.int .i64 (k : Int)] w fun e w' => ∃ p n q, e = .returned (.tuple #[.agg (cvA (k : Int) p (dl m) n q), .bool true]) ∧ Sl w' p m ∧ Gr w w') := HO
  clear HO FA FSu FR FM FI FZ hprm hB hdl hm h1 h2 hidx hk ha hb hc hx hxm hy hym hz hzm hs hsm ht htm hf hfm hgg hgm hft hsx
  go_enter Try.func5, Try.ntmps5
  go_upto_region 3 with (go_at_call 19; refine (awake5_any _).mono ?_; rintro e w' ⟨rfl, gaw, rfl⟩)
  refine gen_w (fun v => Hid (Gr w v ∧ Cl v w.heap.size a ∧ Cl v (w.heap.size + 1) b ∧ Cl v (w.heap.size + 1 + 1) c)) ⟨(by repeat (first | exact Gr.refl _ | apply Gr.drewN | apply Gr.drew | apply Gr.alloc | apply Gr.gro)), ⟨by simp [go_sem], by simp [go_sem], by simp [go_sem]⟩, ⟨by simp [go_sem], by simp [go_sem], by simp [go_sem]⟩, ⟨by simp [go_sem], by simp [go_sem], by simp [go_sem]⟩⟩ ?_
  intro v0 HV
  go_cut [9, 10] from 28 to 36 (fun a0 a1 wx => ∃ (e9 : Nat) (p : Option Addr) (n : Nat) (q : Nat → Option Addr × Nat × Nat), a0 = .pointer (some ⟨e9, 0, none⟩) ∧ a1 = .bool true ∧ Hid (Gr w wx ∧ Cl wx w.heap.size a ∧ Cl wx (w.heap.size + 1) b ∧ Cl wx (w.heap.size + 1 + 1) c ∧ Cv wx e9 k p (dl m) n q ∧ Sl wx p m))
  case first =>
    have ⟨G, c0, c1, c2⟩ := HV.out
    go_wp2_with (go_at_call 13; refine (HO'.out _).mono ?_; rintro e W1 ⟨p, n, q, rfl, S1, G1⟩)
    go_meet
    exact ⟨_, p, n, q, rfl, rfl, G.trans (G1.trans (by repeat (first | exact Gr.refl _ | apply Gr.drewN | apply Gr.drew | apply Gr.alloc | apply Gr.gro))), c0.gr (G1.trans (by repeat (first | exact Gr.refl _ | apply Gr.drewN | apply Gr.drew | apply Gr.alloc | apply Gr.gro))), c1.gr (G1.trans (by repeat (first | exact Gr.refl _ | apply Gr.drewN | apply Gr.drew | apply Gr.alloc | apply Gr.gro))), c2.gr (G1.trans (by repeat (first | exact Gr.refl _ | apply Gr.drewN | apply Gr.drew | apply Gr.alloc | apply Gr.gro))), ⟨by simp [go_sem], by simp [go_sem], by simp [go_sem]⟩, S1.gr (by repeat (first | exact Gr.refl _ | apply Gr.drewN | apply Gr.drew | apply Gr.alloc | apply Gr.gro))⟩
  clear HV
  obtain ⟨e9, p, n, q, rfl, rfl, HV⟩ := hcut
  have ⟨G, c_w_heap_size, c__w_heap_size_1_, c__w_heap_size_1_1_, c_e9, S_p⟩ := HV.out
  have ⟨hc_w_heap_size, fc_w_heap_size, pc_w_heap_size⟩ := c_w_heap_size
  have ⟨hc__w_heap_size_1_, fc__w_heap_size_1_, pc__w_heap_size_1_⟩ := c__w_heap_size_1_
  have ⟨hc__w_heap_size_1_1_, fc__w_heap_size_1_1_, pc__w_heap_size_1_1_⟩ := c__w_heap_size_1_1_
  have ⟨hc_e9, fc_e9, pc_e9⟩ := c_e9
  have h0c_e9 := (c_e9).at0
  have h1c_e9 := (c_e9).at1
  go_upto_region 6 with (first
      | (go_at_call 18; refine (num_any _ _).mono ?_; rintro e w' ⟨rfl, rfl⟩))
  go_cut [11, 12, 13] from 39 to 47 (fun a0 a1 a2 wx => ∃ e11 e12 e13 : Nat, a0 = .pointer (some ⟨e11, 0, none⟩) ∧ a1 = .pointer (some ⟨e12, 0, none⟩) ∧ a2 = .pointer (some ⟨e13, 0, none⟩) ∧ Hid (Gr w wx ∧ Cl wx (w.heap.size) a ∧ Cl wx (w.heap.size + 1) b ∧ Cl wx (w.heap.size + 1 + 1) c ∧ Cv wx e9 k p (dl m) n q ∧ Cl wx e11 x ∧ Cl wx e12 y ∧ Cl wx e13 z ∧ Sl wx p m))
  case first =>
    have ⟨G, c_w_heap_size, c__w_heap_size_1_, c__w_heap_size_1_1_, c_e9, S_p⟩ := HV.out
    have ⟨hc_w_heap_size, fc_w_heap_size, pc_w_heap_size⟩ := c_w_heap_size
    have ⟨hc__w_heap_size_1_, fc__w_heap_size_1_, pc__w_heap_size_1_⟩ := c__w_heap_size_1_
    have ⟨hc__w_heap_size_1_1_, fc__w_heap_size_1_1_, pc__w_heap_size_1_1_⟩ := c__w_heap_size_1_1_
    have ⟨hc_e9, fc_e9, pc_e9⟩ := c_e9
    have h0c_e9 := (c_e9).at0
    have h1c_e9 := (c_e9).at1
    refine wp_region_mix (by kernel_rfl) (by kernel_rfl) (RG _ (fun i => match i with | 0 => some (.agg (cvA k p (dl m) n q)) | 1 => some (.agg (nw 9 a)) | 2 => some (.agg (nw 9 x)) | 3 => some (.agg (cvA k p (dl m) n q)) | 4 => some (.agg (nw 9 b)) | 5 => some (.agg (nw 9 y)) | 6 => some (.agg (cvA k p (dl m) n q)) | 7 => some (.agg (nw 9 c)) | 8 => some (.agg (nw 9 z)) | _ => none) (fun i => match i with | 9 => some (nw 9 0) | 10 => some (nw 9 0) | 11 => some (nw 9 0) | _ => none) (fun i => match i with | 9 => some (12, nw 9 x) | 10 => some (13, nw 9 y) | 11 => some (14, nw 9 z) | _ => none)) (RG.start _ _ _ _ _ _) ?hs ?hf
    case hs =>
      intro listed vals a1 v1 i o hz hR hF ho hl hd
      have hks : ∀ (j k : Nat) (r : Array Value), (match j with | 9 => some (12, nw 9 x) | 10 => some (13, nw 9 y) | 11 => some (14, nw 9 z) | _ => (none : Option (Nat × Array Value))) = some (k, r) → (j = 9 ∧ k = 12) ∨ (j = 10 ∧ k = 13) ∨ (j = 11 ∧ k = 14) := fun j k r h => by
        split at h <;> simp_all
      have Hc_w_heap_size : blk v1 (w.heap.size) = nw 9 a := (blk_of _ _ _ (hR.1.below.block (w.heap.size) (c_w_heap_size.p))).trans (c_w_heap_size.h)
      have Hc__w_heap_size_1_ : blk v1 ((w.heap.size + 1)) = nw 9 b := (blk_of _ _ _ (hR.1.below.block ((w.heap.size + 1)) (c__w_heap_size_1_.p))).trans (c__w_heap_size_1_.h)
      have Hc__w_heap_size_1_1_ : blk v1 ((w.heap.size + 1 + 1)) = nw 9 c := (blk_of _ _ _ (hR.1.below.block ((w.heap.size + 1 + 1)) (c__w_heap_size_1_1_.p))).trans (c__w_heap_size_1_1_.h)
      have Hc_e9 : blk v1 (e9) = cvA k p (dl m) n q := (blk_of _ _ _ (hR.1.below.block (e9) (c_e9.p))).trans (c_e9.h)
      have hi : i < 15 := by simpa using (Array.getElem?_eq_some_iff.1 ho).1
      have hil : i < listed.size := by rw [hz]; simpa using hi
      obtain rfl | rfl | rfl | rfl | rfl | rfl | rfl | rfl | rfl | rfl | rfl | rfl | rfl | rfl | rfl : i = 0 ∨ i = 1 ∨ i = 2 ∨ i = 3 ∨ i = 4 ∨ i = 5 ∨ i = 6 ∨ i = 7 ∨ i = 8 ∨ i = 9 ∨ i = 10 ∨ i = 11 ∨ i = 12 ∨ i = 13 ∨ i = 14 := by omega
      · obtain rfl := Option.some.inj ho
        have f0 := hF.old (s := 9) (v := .pointer (some ⟨e9, 0, none⟩)) (by kernel_rfl) rfl
        exact wp_val (.agg (cvA k p (dl m) n q)) (by simp [go_sem, f0, Hc_e9]) ⟨_, rfl, RG.quiet 0 _ hil rfl rfl (fun j k r h => by have := hks j k r h; omega) (Gr.refl _) hR⟩
      · obtain rfl := Option.some.inj ho
        have f0 := hF.old (s := 5) (v := .pointer (some ⟨w.heap.size, 0, none⟩)) (by kernel_rfl) rfl
        exact wp_val (.agg (nw 9 a)) (by simp [go_sem, f0, Hc_w_heap_size]) ⟨_, rfl, RG.quiet 1 _ hil rfl rfl (fun j k r h => by have := hks j k r h; omega) (Gr.refl _) hR⟩
      · obtain rfl := Option.some.inj ho
        have l0 := hd ⟨0, .data⟩ (by simp) rfl
        have f0 := hF.at (s := 39) (i := 0) (by kernel_rfl) (by simp) l0
        rw [hR.2.1 0 _ l0 rfl] at f0
        have l1 := hd ⟨1, .data⟩ (by simp) rfl
        have f1 := hF.at (s := 40) (i := 1) (by kernel_rfl) (by simp) l1
        rw [hR.2.1 1 _ l1 rfl] at f1
        exact wp_ret (.agg (nw 9 x)) (by simp [go_sem, f0, f1]) (B1.out p n q _ (S_p.gr hR.1)) (fun w2 hg => ⟨_, rfl, RG.quiet 2 _ hil rfl rfl (fun j k r h => by have := hks j k r h; omega) hg hR⟩)
      · obtain rfl := Option.some.inj ho
        have f0 := hF.old (s := 9) (v := .pointer (some ⟨e9, 0, none⟩)) (by kernel_rfl) rfl
        exact wp_val (.agg (cvA k p (dl m) n q)) (by simp [go_sem, f0, Hc_e9]) ⟨_, rfl, RG.quiet 3 _ hil rfl rfl (fun j k r h => by have := hks j k r h; omega) (Gr.refl _) hR⟩
      · obtain rfl := Option.some.inj ho
        have f0 := hF.old (s := 6) (v := .pointer (some ⟨(w.heap.size + 1), 0, none⟩)) (by kernel_rfl) rfl
        exact wp_val (.agg (nw 9 b)) (by simp [go_sem, f0, Hc__w_heap_size_1_]) ⟨_, rfl, RG.quiet 4 _ hil rfl rfl (fun j k r h => by have := hks j k r h; omega) (Gr.refl _) hR⟩
      · obtain rfl := Option.some.inj ho
        have l0 := hd ⟨3, .data⟩ (by simp) rfl
        have f0 := hF.at (s := 42) (i := 3) (by kernel_rfl) (by simp) l0
        rw [hR.2.1 3 _ l0 rfl] at f0
        have l1 := hd ⟨4, .data⟩ (by simp) rfl
        have f1 := hF.at (s := 43) (i := 4) (by kernel_rfl) (by simp) l1
        rw [hR.2.1 4 _ l1 rfl] at f1
        exact wp_ret (.agg (nw 9 y)) (by simp [go_sem, f0, f1]) (B2.out p n q _ (S_p.gr hR.1)) (fun w2 hg => ⟨_, rfl, RG.quiet 5 _ hil rfl rfl (fun j k r h => by have := hks j k r h; omega) hg hR⟩)
      · obtain rfl := Option.some.inj ho
        have f0 := hF.old (s := 9) (v := .pointer (some ⟨e9, 0, none⟩)) (by kernel_rfl) rfl
        exact wp_val (.agg (cvA k p (dl m) n q)) (by simp [go_sem, f0, Hc_e9]) ⟨_, rfl, RG.quiet 6 _ hil rfl rfl (fun j k r h => by have := hks j k r h; omega) (Gr.refl _) hR⟩
      · obtain rfl := Option.some.inj ho
        have f0 := hF.old (s := 7) (v := .pointer (some ⟨(w.heap.size + 1 + 1), 0, none⟩)) (by kernel_rfl) rfl
        exact wp_val (.agg (nw 9 c)) (by simp [go_sem, f0, Hc__w_heap_size_1_1_]) ⟨_, rfl, RG.quiet 7 _ hil rfl rfl (fun j k r h => by have := hks j k r h; omega) (Gr.refl _) hR⟩
      · obtain rfl := Option.some.inj ho
        have l0 := hd ⟨6, .data⟩ (by simp) rfl
        have f0 := hF.at (s := 45) (i := 6) (by kernel_rfl) (by simp) l0
        rw [hR.2.1 6 _ l0 rfl] at f0
        have l1 := hd ⟨7, .data⟩ (by simp) rfl
        have f1 := hF.at (s := 46) (i := 7) (by kernel_rfl) (by simp) l1
        rw [hR.2.1 7 _ l1 rfl] at f1
        exact wp_ret (.agg (nw 9 z)) (by simp [go_sem, f0, f1]) (B3.out p n q _ (S_p.gr hR.1)) (fun w2 hg => ⟨_, rfl, RG.quiet 8 _ hil rfl rfl (fun j k r h => by have := hks j k r h; omega) hg hR⟩)
      · obtain rfl := Option.some.inj ho
        exact wp_val (.pointer (some ⟨v1.heap.size, 0, none⟩)) (w' := v1.alloc (.cells (nw 9 0) 25)) (by simp [go_sem]) ⟨_, rfl, RG.alloc 9 (nw 9 0) 25 hil hl rfl rfl (fun j k r h => by have := hks j k r h; omega) hR⟩
      · obtain rfl := Option.some.inj ho
        exact wp_val (.pointer (some ⟨v1.heap.size, 0, none⟩)) (w' := v1.alloc (.cells (nw 9 0) 25)) (by simp [go_sem]) ⟨_, rfl, RG.alloc 10 (nw 9 0) 25 hil hl rfl rfl (fun j k r h => by have := hks j k r h; omega) hR⟩
      · obtain rfl := Option.some.inj ho
        exact wp_val (.pointer (some ⟨v1.heap.size, 0, none⟩)) (w' := v1.alloc (.cells (nw 9 0) 25)) (by simp [go_sem]) ⟨_, rfl, RG.alloc 11 (nw 9 0) 25 hil hl rfl rfl (fun j k r h => by have := hks j k r h; omega) hR⟩
      · obtain rfl := Option.some.inj ho
        have l0 := hd ⟨9, .data⟩ (by simp) rfl
        have l1 := hd ⟨2, .data⟩ (by simp) rfl
        obtain ⟨B, h4, h5⟩ := hR.2.2.2
        obtain ⟨e1, e2, e3, e4, e5⟩ := h4 9 (nw 9 0) l0 rfl
        simp only [hl] at e5
        replace e5 : blk v1 (B 9) = nw 9 0 := e5
        have f0 := hF.at (s := 11) (i := 9) (by kernel_rfl) (by simp) l0
        rw [e1] at f0
        have f1 := hF.at (s := 41) (i := 2) (by kernel_rfl) (by simp) l1
        rw [hR.2.1 2 _ l1 rfl] at f1
        exact wp_skip (w' := setBlk v1 (B 9) (nw 9 x)) (by simp [go_sem, f0, f1, e4, e5]) ⟨undef, rfl, RG.store 12 9 (nw 9 0) (nw 9 x) (B 9) hil hl rfl rfl rfl l0 rfl (by rw [nw_size]; decide) e1 (fun k r h => by have := hks k _ r h; omega) hR⟩
      · obtain rfl := Option.some.inj ho
        have l0 := hd ⟨10, .data⟩ (by simp) rfl
        have l1 := hd ⟨5, .data⟩ (by simp) rfl
        obtain ⟨B, h4, h5⟩ := hR.2.2.2
        obtain ⟨e1, e2, e3, e4, e5⟩ := h4 10 (nw 9 0) l0 rfl
        simp only [hl] at e5
        replace e5 : blk v1 (B 10) = nw 9 0 := e5
        have f0 := hF.at (s := 12) (i := 10) (by kernel_rfl) (by simp) l0
        rw [e1] at f0
        have f1 := hF.at (s := 44) (i := 5) (by kernel_rfl) (by simp) l1
        rw [hR.2.1 5 _ l1 rfl] at f1
        exact wp_skip (w' := setBlk v1 (B 10) (nw 9 y)) (by simp [go_sem, f0, f1, e4, e5]) ⟨undef, rfl, RG.store 13 10 (nw 9 0) (nw 9 y) (B 10) hil hl rfl rfl rfl l0 rfl (by rw [nw_size]; decide) e1 (fun k r h => by have := hks k _ r h; omega) hR⟩
      · obtain rfl := Option.some.inj ho
        have l0 := hd ⟨11, .data⟩ (by simp) rfl
        have l1 := hd ⟨8, .data⟩ (by simp) rfl
        obtain ⟨B, h4, h5⟩ := hR.2.2.2
        obtain ⟨e1, e2, e3, e4, e5⟩ := h4 11 (nw 9 0) l0 rfl
        simp only [hl] at e5
        replace e5 : blk v1 (B 11) = nw 9 0 := e5
        have f0 := hF.at (s := 13) (i := 11) (by kernel_rfl) (by simp) l0
        rw [e1] at f0
        have f1 := hF.at (s := 47) (i := 8) (by kernel_rfl) (by simp) l1
        rw [hR.2.1 8 _ l1 rfl] at f1
        exact wp_skip (w' := setBlk v1 (B 11) (nw 9 z)) (by simp [go_sem, f0, f1, e4, e5]) ⟨undef, rfl, RG.store 14 11 (nw 9 0) (nw 9 z) (B 11) hil hl rfl rfl rfl l0 rfl (by rw [nw_size]; decide) e1 (fun k r h => by have := hks k _ r h; omega) hR⟩
    case hf =>
      intro listed vals a1 v1 hall hR hF
      have Hc_w_heap_size : blk v1 (w.heap.size) = nw 9 a := (blk_of _ _ _ (hR.1.below.block (w.heap.size) (c_w_heap_size.p))).trans (c_w_heap_size.h)
      have pHc_w_heap_size : Pre (w.heap.size + 1) v1.heap.size := Nat.le_trans (show w.heap.size + 1 ≤ _ from c_w_heap_size.p) hR.1.below.size
      have Hc__w_heap_size_1_ : blk v1 ((w.heap.size + 1)) = nw 9 b := (blk_of _ _ _ (hR.1.below.block ((w.heap.size + 1)) (c__w_heap_size_1_.p))).trans (c__w_heap_size_1_.h)
      have pHc__w_heap_size_1_ : Pre ((w.heap.size + 1) + 1) v1.heap.size := Nat.le_trans (show (w.heap.size + 1) + 1 ≤ _ from c__w_heap_size_1_.p) hR.1.below.size
      have Hc__w_heap_size_1_1_ : blk v1 ((w.heap.size + 1 + 1)) = nw 9 c := (blk_of _ _ _ (hR.1.below.block ((w.heap.size + 1 + 1)) (c__w_heap_size_1_1_.p))).trans (c__w_heap_size_1_1_.h)
      have pHc__w_heap_size_1_1_ : Pre ((w.heap.size + 1 + 1) + 1) v1.heap.size := Nat.le_trans (show (w.heap.size + 1 + 1) + 1 ≤ _ from c__w_heap_size_1_1_.p) hR.1.below.size
      have Hc_e9 : blk v1 (e9) = cvA k p (dl m) n q := (blk_of _ _ _ (hR.1.below.block (e9) (c_e9.p))).trans (c_e9.h)
      have pHc_e9 : Pre (e9 + 1) v1.heap.size := Nat.le_trans (show e9 + 1 ≤ _ from c_e9.p) hR.1.below.size
      have hV := hR.2.1
      obtain ⟨B, h4, h5⟩ := hR.2.2.2
      have x0 := hV 0 _ (hall 0 (by simp)) rfl
      have x1 := hV 1 _ (hall 1 (by simp)) rfl
      have x2 := hV 2 _ (hall 2 (by simp)) rfl
      have x3 := hV 3 _ (hall 3 (by simp)) rfl
      have x4 := hV 4 _ (hall 4 (by simp)) rfl
      have x5 := hV 5 _ (hall 5 (by simp)) rfl
      have x6 := hV 6 _ (hall 6 (by simp)) rfl
      have x7 := hV 7 _ (hall 7 (by simp)) rfl
      have x8 := hV 8 _ (hall 8 (by simp)) rfl
      obtain ⟨x9, q9, p9, z9, y9⟩ := h4 9 _ (hall 9 (by simp)) rfl
      simp only [hall 12 (by simp), if_true] at y9
      replace p9 : Pre (B 9 + 1) v1.heap.size := p9
      replace y9 : blk v1 (B 9) = nw 9 x := y9
      obtain ⟨x10, q10, p10, z10, y10⟩ := h4 10 _ (hall 10 (by simp)) rfl
      simp only [hall 13 (by simp), if_true] at y10
      replace p10 : Pre (B 10 + 1) v1.heap.size := p10
      replace y10 : blk v1 (B 10) = nw 9 y := y10
      obtain ⟨x11, q11, p11, z11, y11⟩ := h4 11 _ (hall 11 (by simp)) rfl
      simp only [hall 14 (by simp), if_true] at y11
      replace p11 : Pre (B 11 + 1) v1.heap.size := p11
      replace y11 : blk v1 (B 11) = nw 9 z := y11
      have hb1 := hR.1
      rw [hF.final (by kernel_rfl) hall]
      simp only [putFrom, Act.put, List.setIfInBounds_toArray, List.set_cons_zero, List.set_cons_succ, x0, x1, x2, x3, x4, x5, x6, x7, x8, x9, x10, x11]
      generalize B 9 = b9 at *
      generalize B 10 = b10 at *
      generalize B 11 = b11 at *
      clear hV h4 h5 hR hF hall x0 x1 x2 x3 x4 x5 x6 x7 x8 x9 x10 x11
      go_wp2_with fail
      go_meet
      exact ⟨b9, b10, b11, rfl, rfl, rfl, G.trans hb1, c_w_heap_size.gr hb1, c__w_heap_size_1_.gr hb1, c__w_heap_size_1_1_.gr hb1, c_e9.gr hb1, ⟨y9, z9, p9⟩, ⟨y10, z10, p10⟩, ⟨y11, z11, p11⟩, S_p.gr hb1⟩
  clear HV
  obtain ⟨e11, e12, e13, rfl, rfl, rfl, HV⟩ := hcut
  go_upto_region 7 with fail
  go_cut [14, 15] from 48 to 55 (fun a0 a1 wx => ∃ e14 : Nat, a0 = .pointer (some ⟨e14, 0, none⟩) ∧ a1 = .int .i64 0 ∧ Hid (Gr w wx ∧ Cl wx (w.heap.size) a ∧ Cl wx (w.heap.size + 1) b ∧ Cl wx (w.heap.size + 1 + 1) c ∧ Cv wx e9 k p (dl m) n q ∧ Cl wx e11 x ∧ Cl wx e12 y ∧ Cl wx e13 z ∧ Cl wx e14 s ∧ Sl wx p m))
  case first =>
    have ⟨G, c_w_heap_size, c__w_heap_size_1_, c__w_heap_size_1_1_, c_e9, c_e11, c_e12, c_e13, S_p⟩ := HV.out
    have ⟨hc_w_heap_size, fc_w_heap_size, pc_w_heap_size⟩ := c_w_heap_size
    have ⟨hc__w_heap_size_1_, fc__w_heap_size_1_, pc__w_heap_size_1_⟩ := c__w_heap_size_1_
    have ⟨hc__w_heap_size_1_1_, fc__w_heap_size_1_1_, pc__w_heap_size_1_1_⟩ := c__w_heap_size_1_1_
    have ⟨hc_e9, fc_e9, pc_e9⟩ := c_e9
    have h0c_e9 := (c_e9).at0
    have h1c_e9 := (c_e9).at1
    have ⟨hc_e11, fc_e11, pc_e11⟩ := c_e11
    have ⟨hc_e12, fc_e12, pc_e12⟩ := c_e12
    have ⟨hc_e13, fc_e13, pc_e13⟩ := c_e13
    go_wp2_with (first
        | (go_at_call_of 14 ((#[.int .i64 k, .agg (nw 9 x), .agg (nw 9 y)] : Array Value)); refine (A1.out _).mono ?_; rintro e w' ⟨rfl, g1, rfl⟩)
        | (go_at_call 18; refine (num_any _ _).mono ?_; rintro e w' ⟨rfl, rfl⟩))
    go_meet
    exact ⟨_, rfl, rfl, G.trans (by repeat (first | exact Gr.refl _ | apply Gr.drewN | apply Gr.drew | apply Gr.alloc | apply Gr.gro)), c_w_heap_size.gr (by repeat (first | exact Gr.refl _ | apply Gr.drewN | apply Gr.drew | apply Gr.alloc | apply Gr.gro)), c__w_heap_size_1_.gr (by repeat (first | exact Gr.refl _ | apply Gr.drewN | apply Gr.drew | apply Gr.alloc | apply Gr.gro)), c__w_heap_size_1_1_.gr (by repeat (first | exact Gr.refl _ | apply Gr.drewN | apply Gr.drew | apply Gr.alloc | apply Gr.gro)), c_e9.gr (by repeat (first | exact Gr.refl _ | apply Gr.drewN | apply Gr.drew | apply Gr.alloc | apply Gr.gro)), c_e11.gr (by repeat (first | exact Gr.refl _ | apply Gr.drewN | apply Gr.drew | apply Gr.alloc | apply Gr.gro)), c_e12.gr (by repeat (first | exact Gr.refl _ | apply Gr.drewN | apply Gr.drew | apply Gr.alloc | apply Gr.gro)), c_e13.gr (by repeat (first | exact Gr.refl _ | apply Gr.drewN | apply Gr.drew | apply Gr.alloc | apply Gr.gro)), ⟨by simp [go_sem], by simp [go_sem], by simp [go_sem]⟩, S_p.gr (by repeat (first | exact Gr.refl _ | apply Gr.drewN | apply Gr.drew | apply Gr.alloc | apply Gr.gro))⟩
  clear HV
  obtain ⟨e14, rfl, rfl, HV⟩ := hcut
  go_upto_region 8 with fail
  go_cut [16, 17] from 56 to 63 (fun a0 a1 wx => ∃ e16 : Nat, a0 = .pointer (some ⟨e16, 0, none⟩) ∧ a1 = .int .i64 0 ∧ Hid (Gr w wx ∧ Cl wx (w.heap.size) a ∧ Cl wx (w.heap.size + 1) b ∧ Cl wx (w.heap.size + 1 + 1) c ∧ Cv wx e9 k p (dl m) n q ∧ Cl wx e11 x ∧ Cl wx e12 y ∧ Cl wx e13 z ∧ Cl wx e14 s ∧ Cl wx e16 t ∧ Sl wx p m))
  case first =>
    have ⟨G, c_w_heap_size, c__w_heap_size_1_, c__w_heap_size_1_1_, c_e9, c_e11, c_e12, c_e13, c_e14, S_p⟩ := HV.out
    have ⟨hc_w_heap_size, fc_w_heap_size, pc_w_heap_size⟩ := c_w_heap_size
    have ⟨hc__w_heap_size_1_, fc__w_heap_size_1_, pc__w_heap_size_1_⟩ := c__w_heap_size_1_
    have ⟨hc__w_heap_size_1_1_, fc__w_heap_size_1_1_, pc__w_heap_size_1_1_⟩ := c__w_heap_size_1_1_
    have ⟨hc_e9, fc_e9, pc_e9⟩ := c_e9
    have h0c_e9 := (c_e9).at0
    have h1c_e9 := (c_e9).at1
    have ⟨hc_e11, fc_e11, pc_e11⟩ := c_e11
    have ⟨hc_e12, fc_e12, pc_e12⟩ := c_e12
    have ⟨hc_e13, fc_e13, pc_e13⟩ := c_e13
    have ⟨hc_e14, fc_e14, pc_e14⟩ := c_e14
    go_wp2_with (first
        | (go_at_call_of 16 ((#[.int .i64 k, .agg (nw 9 s), .agg (nw 9 z)] : Array Value)); refine (M1.out _).mono ?_; rintro e w' ⟨rfl, g2, rfl⟩)
        | (go_at_call 18; refine (num_any _ _).mono ?_; rintro e w' ⟨rfl, rfl⟩))
    go_meet
    exact ⟨_, rfl, rfl, G.trans (by repeat (first | exact Gr.refl _ | apply Gr.drewN | apply Gr.drew | apply Gr.alloc | apply Gr.gro)), c_w_heap_size.gr (by repeat (first | exact Gr.refl _ | apply Gr.drewN | apply Gr.drew | apply Gr.alloc | apply Gr.gro)), c__w_heap_size_1_.gr (by repeat (first | exact Gr.refl _ | apply Gr.drewN | apply Gr.drew | apply Gr.alloc | apply Gr.gro)), c__w_heap_size_1_1_.gr (by repeat (first | exact Gr.refl _ | apply Gr.drewN | apply Gr.drew | apply Gr.alloc | apply Gr.gro)), c_e9.gr (by repeat (first | exact Gr.refl _ | apply Gr.drewN | apply Gr.drew | apply Gr.alloc | apply Gr.gro)), c_e11.gr (by repeat (first | exact Gr.refl _ | apply Gr.drewN | apply Gr.drew | apply Gr.alloc | apply Gr.gro)), c_e12.gr (by repeat (first | exact Gr.refl _ | apply Gr.drewN | apply Gr.drew | apply Gr.alloc | apply Gr.gro)), c_e13.gr (by repeat (first | exact Gr.refl _ | apply Gr.drewN | apply Gr.drew | apply Gr.alloc | apply Gr.gro)), c_e14.gr (by repeat (first | exact Gr.refl _ | apply Gr.drewN | apply Gr.drew | apply Gr.alloc | apply Gr.gro)), ⟨by simp [go_sem], by simp [go_sem], by simp [go_sem]⟩, S_p.gr (by repeat (first | exact Gr.refl _ | apply Gr.drewN | apply Gr.drew | apply Gr.alloc | apply Gr.gro))⟩
  clear HV
  obtain ⟨e16, rfl, rfl, HV⟩ := hcut
  go_upto_region 9 with fail
  go_cut [18, 19] from 64 to 71 (fun a0 a1 wx => ∃ e18 : Nat, a0 = .pointer (some ⟨e18, 0, none⟩) ∧ a1 = .int .i64 0 ∧ Hid (Gr w wx ∧ Cl wx (w.heap.size) a ∧ Cl wx (w.heap.size + 1) b ∧ Cl wx (w.heap.size + 1 + 1) c ∧ Cv wx e9 k p (dl m) n q ∧ Cl wx e11 x ∧ Cl wx e12 y ∧ Cl wx e13 z ∧ Cl wx e14 s ∧ Cl wx e16 t ∧ Cl wx e18 f ∧ Sl wx p m))
  case first =>
    have ⟨G, c_w_heap_size, c__w_heap_size_1_, c__w_heap_size_1_1_, c_e9, c_e11, c_e12, c_e13, c_e14, c_e16, S_p⟩ := HV.out
    have ⟨hc_w_heap_size, fc_w_heap_size, pc_w_heap_size⟩ := c_w_heap_size
    have ⟨hc__w_heap_size_1_, fc__w_heap_size_1_, pc__w_heap_size_1_⟩ := c__w_heap_size_1_
    have ⟨hc__w_heap_size_1_1_, fc__w_heap_size_1_1_, pc__w_heap_size_1_1_⟩ := c__w_heap_size_1_1_
    have ⟨hc_e9, fc_e9, pc_e9⟩ := c_e9
    have h0c_e9 := (c_e9).at0
    have h1c_e9 := (c_e9).at1
    have ⟨hc_e11, fc_e11, pc_e11⟩ := c_e11
    have ⟨hc_e12, fc_e12, pc_e12⟩ := c_e12
    have ⟨hc_e13, fc_e13, pc_e13⟩ := c_e13
    have ⟨hc_e14, fc_e14, pc_e14⟩ := c_e14
    have ⟨hc_e16, fc_e16, pc_e16⟩ := c_e16
    go_wp2_with (first
        | (go_at_call_of 16 ((#[.int .i64 k, .agg (nw 9 x), .agg (nw 9 z)] : Array Value)); refine (M2.out _).mono ?_; rintro e w' ⟨rfl, g3, rfl⟩)
        | (go_at_call 18; refine (num_any _ _).mono ?_; rintro e w' ⟨rfl, rfl⟩))
    go_meet
    exact ⟨_, rfl, rfl, G.trans (by repeat (first | exact Gr.refl _ | apply Gr.drewN | apply Gr.drew | apply Gr.alloc | apply Gr.gro)), c_w_heap_size.gr (by repeat (first | exact Gr.refl _ | apply Gr.drewN | apply Gr.drew | apply Gr.alloc | apply Gr.gro)), c__w_heap_size_1_.gr (by repeat (first | exact Gr.refl _ | apply Gr.drewN | apply Gr.drew | apply Gr.alloc | apply Gr.gro)), c__w_heap_size_1_1_.gr (by repeat (first | exact Gr.refl _ | apply Gr.drewN | apply Gr.drew | apply Gr.alloc | apply Gr.gro)), c_e9.gr (by repeat (first | exact Gr.refl _ | apply Gr.drewN | apply Gr.drew | apply Gr.alloc | apply Gr.gro)), c_e11.gr (by repeat (first | exact Gr.refl _ | apply Gr.drewN | apply Gr.drew | apply Gr.alloc | apply Gr.gro)), c_e12.gr (by repeat (first | exact Gr.refl _ | apply Gr.drewN | apply Gr.drew | apply Gr.alloc | apply Gr.gro)), c_e13.gr (by repeat (first | exact Gr.refl _ | apply Gr.drewN | apply Gr.drew | apply Gr.alloc | apply Gr.gro)), c_e14.gr (by repeat (first | exact Gr.refl _ | apply Gr.drewN | apply Gr.drew | apply Gr.alloc | apply Gr.gro)), c_e16.gr (by repeat (first | exact Gr.refl _ | apply Gr.drewN | apply Gr.drew | apply Gr.alloc | apply Gr.gro)), ⟨by simp [go_sem], by simp [go_sem], by simp [go_sem]⟩, S_p.gr (by repeat (first | exact Gr.refl _ | apply Gr.drewN | apply Gr.drew | apply Gr.alloc | apply Gr.gro))⟩
  clear HV
  obtain ⟨e18, rfl, rfl, HV⟩ := hcut
  go_upto_region 10 with fail
  go_cut [20, 21] from 72 to 79 (fun a0 a1 wx => ∃ e20 : Nat, a0 = .pointer (some ⟨e20, 0, none⟩) ∧ a1 = .int .i64 0 ∧ Hid (Gr w wx ∧ Cl wx (w.heap.size) a ∧ Cl wx (w.heap.size + 1) b ∧ Cl wx (w.heap.size + 1 + 1) c ∧ Cv wx e9 k p (dl m) n q ∧ Cl wx e11 x ∧ Cl wx e12 y ∧ Cl wx e13 z ∧ Cl wx e14 s ∧ Cl wx e16 t ∧ Cl wx e18 f ∧ Cl wx e20 g ∧ Sl wx p m))
  case first =>
    have ⟨G, c_w_heap_size, c__w_heap_size_1_, c__w_heap_size_1_1_, c_e9, c_e11, c_e12, c_e13, c_e14, c_e16, c_e18, S_p⟩ := HV.out
    have ⟨hc_w_heap_size, fc_w_heap_size, pc_w_heap_size⟩ := c_w_heap_size
    have ⟨hc__w_heap_size_1_, fc__w_heap_size_1_, pc__w_heap_size_1_⟩ := c__w_heap_size_1_
    have ⟨hc__w_heap_size_1_1_, fc__w_heap_size_1_1_, pc__w_heap_size_1_1_⟩ := c__w_heap_size_1_1_
    have ⟨hc_e9, fc_e9, pc_e9⟩ := c_e9
    have h0c_e9 := (c_e9).at0
    have h1c_e9 := (c_e9).at1
    have ⟨hc_e11, fc_e11, pc_e11⟩ := c_e11
    have ⟨hc_e12, fc_e12, pc_e12⟩ := c_e12
    have ⟨hc_e13, fc_e13, pc_e13⟩ := c_e13
    have ⟨hc_e14, fc_e14, pc_e14⟩ := c_e14
    have ⟨hc_e16, fc_e16, pc_e16⟩ := c_e16
    have ⟨hc_e18, fc_e18, pc_e18⟩ := c_e18
    go_wp2_with (first
        | (go_at_call_of 16 ((#[.int .i64 k, .agg (nw 9 y), .agg (nw 9 z)] : Array Value)); refine (M3.out _).mono ?_; rintro e w' ⟨rfl, g4, rfl⟩)
        | (go_at_call 18; refine (num_any _ _).mono ?_; rintro e w' ⟨rfl, rfl⟩))
    go_meet
    exact ⟨_, rfl, rfl, G.trans (by repeat (first | exact Gr.refl _ | apply Gr.drewN | apply Gr.drew | apply Gr.alloc | apply Gr.gro)), c_w_heap_size.gr (by repeat (first | exact Gr.refl _ | apply Gr.drewN | apply Gr.drew | apply Gr.alloc | apply Gr.gro)), c__w_heap_size_1_.gr (by repeat (first | exact Gr.refl _ | apply Gr.drewN | apply Gr.drew | apply Gr.alloc | apply Gr.gro)), c__w_heap_size_1_1_.gr (by repeat (first | exact Gr.refl _ | apply Gr.drewN | apply Gr.drew | apply Gr.alloc | apply Gr.gro)), c_e9.gr (by repeat (first | exact Gr.refl _ | apply Gr.drewN | apply Gr.drew | apply Gr.alloc | apply Gr.gro)), c_e11.gr (by repeat (first | exact Gr.refl _ | apply Gr.drewN | apply Gr.drew | apply Gr.alloc | apply Gr.gro)), c_e12.gr (by repeat (first | exact Gr.refl _ | apply Gr.drewN | apply Gr.drew | apply Gr.alloc | apply Gr.gro)), c_e13.gr (by repeat (first | exact Gr.refl _ | apply Gr.drewN | apply Gr.drew | apply Gr.alloc | apply Gr.gro)), c_e14.gr (by repeat (first | exact Gr.refl _ | apply Gr.drewN | apply Gr.drew | apply Gr.alloc | apply Gr.gro)), c_e16.gr (by repeat (first | exact Gr.refl _ | apply Gr.drewN | apply Gr.drew | apply Gr.alloc | apply Gr.gro)), c_e18.gr (by repeat (first | exact Gr.refl _ | apply Gr.drewN | apply Gr.drew | apply Gr.alloc | apply Gr.gro)), ⟨by simp [go_sem], by simp [go_sem], by simp [go_sem]⟩, S_p.gr (by repeat (first | exact Gr.refl _ | apply Gr.drewN | apply Gr.drew | apply Gr.alloc | apply Gr.gro))⟩
  clear HV
  obtain ⟨e20, rfl, rfl, HV⟩ := hcut
  go_upto_region 11 with fail
  go_cut [22, 23] from 80 to 87 (fun a0 a1 wx => ∃ e22 : Nat, a0 = .pointer (some ⟨e22, 0, none⟩) ∧ a1 = .int .i64 0 ∧ Hid (Gr w wx ∧ Cl wx (w.heap.size) a ∧ Cl wx (w.heap.size + 1) b ∧ Cl wx (w.heap.size + 1 + 1) c ∧ Cv wx e9 k p (dl m) n q ∧ Cl wx e11 x ∧ Cl wx e12 y ∧ Cl wx e13 z ∧ Cl wx e14 s ∧ Cl wx e16 t ∧ Cl wx e18 f ∧ Cl wx e20 g ∧ Cl wx e22 t ∧ Sl wx p m))
  case first =>
    have ⟨G, c_w_heap_size, c__w_heap_size_1_, c__w_heap_size_1_1_, c_e9, c_e11, c_e12, c_e13, c_e14, c_e16, c_e18, c_e20, S_p⟩ := HV.out
    have ⟨hc_w_heap_size, fc_w_heap_size, pc_w_heap_size⟩ := c_w_heap_size
    have ⟨hc__w_heap_size_1_, fc__w_heap_size_1_, pc__w_heap_size_1_⟩ := c__w_heap_size_1_
    have ⟨hc__w_heap_size_1_1_, fc__w_heap_size_1_1_, pc__w_heap_size_1_1_⟩ := c__w_heap_size_1_1_
    have ⟨hc_e9, fc_e9, pc_e9⟩ := c_e9
    have h0c_e9 := (c_e9).at0
    have h1c_e9 := (c_e9).at1
    have ⟨hc_e11, fc_e11, pc_e11⟩ := c_e11
    have ⟨hc_e12, fc_e12, pc_e12⟩ := c_e12
    have ⟨hc_e13, fc_e13, pc_e13⟩ := c_e13
    have ⟨hc_e14, fc_e14, pc_e14⟩ := c_e14
    have ⟨hc_e16, fc_e16, pc_e16⟩ := c_e16
    have ⟨hc_e18, fc_e18, pc_e18⟩ := c_e18
    have ⟨hc_e20, fc_e20, pc_e20⟩ := c_e20
    go_wp2_with (first
        | (go_at_call_of 14 ((#[.int .i64 k, .agg (nw 9 f), .agg (nw 9 g)] : Array Value)); refine (A2.out _).mono ?_; rintro e w' ⟨rfl, g5, rfl⟩)
        | (go_at_call 18; refine (num_any _ _).mono ?_; rintro e w' ⟨rfl, rfl⟩))
    go_meet
    exact ⟨_, rfl, rfl, G.trans (by repeat (first | exact Gr.refl _ | apply Gr.drewN | apply Gr.drew | apply Gr.alloc | apply Gr.gro)), c_w_heap_size.gr (by repeat (first | exact Gr.refl _ | apply Gr.drewN | apply Gr.drew | apply Gr.alloc | apply Gr.gro)), c__w_heap_size_1_.gr (by repeat (first | exact Gr.refl _ | apply Gr.drewN | apply Gr.drew | apply Gr.alloc | apply Gr.gro)), c__w_heap_size_1_1_.gr (by repeat (first | exact Gr.refl _ | apply Gr.drewN | apply Gr.drew | apply Gr.alloc | apply Gr.gro)), c_e9.gr (by repeat (first | exact Gr.refl _ | apply Gr.drewN | apply Gr.drew | apply Gr.alloc | apply Gr.gro)), c_e11.gr (by repeat (first | exact Gr.refl _ | apply Gr.drewN | apply Gr.drew | apply Gr.alloc | apply Gr.gro)), c_e12.gr (by repeat (first | exact Gr.refl _ | apply Gr.drewN | apply Gr.drew | apply Gr.alloc | apply Gr.gro)), c_e13.gr (by repeat (first | exact Gr.refl _ | apply Gr.drewN | apply Gr.drew | apply Gr.alloc | apply Gr.gro)), c_e14.gr (by repeat (first | exact Gr.refl _ | apply Gr.drewN | apply Gr.drew | apply Gr.alloc | apply Gr.gro)), c_e16.gr (by repeat (first | exact Gr.refl _ | apply Gr.drewN | apply Gr.drew | apply Gr.alloc | apply Gr.gro)), c_e18.gr (by repeat (first | exact Gr.refl _ | apply Gr.drewN | apply Gr.drew | apply Gr.alloc | apply Gr.gro)), c_e20.gr (by repeat (first | exact Gr.refl _ | apply Gr.drewN | apply Gr.drew | apply Gr.alloc | apply Gr.gro)), ⟨by simp [go_sem], by simp [go_sem], by simp [go_sem]⟩, S_p.gr (by repeat (first | exact Gr.refl _ | apply Gr.drewN | apply Gr.drew | apply Gr.alloc | apply Gr.gro))⟩
  clear HV
  obtain ⟨e22, rfl, rfl, HV⟩ := hcut
  go_upto_region 12 with fail
  go_cut [24, 25] from 88 to 95 (fun a0 a1 wx => ∃ e24 : Nat, a0 = .pointer (some ⟨e24, 0, none⟩) ∧ a1 = .int .i64 0 ∧ Hid (Gr w wx ∧ Cl wx (w.heap.size) a ∧ Cl wx (w.heap.size + 1) b ∧ Cl wx (w.heap.size + 1 + 1) c ∧ Cv wx e9 k p (dl m) n q ∧ Cl wx e11 x ∧ Cl wx e12 y ∧ Cl wx e13 z ∧ Cl wx e14 s ∧ Cl wx e16 t ∧ Cl wx e18 f ∧ Cl wx e20 g ∧ Cl wx e22 t ∧ Cl wx e24 x ∧ Sl wx p m))
  case first =>
    have ⟨G, c_w_heap_size, c__w_heap_size_1_, c__w_heap_size_1_1_, c_e9, c_e11, c_e12, c_e13, c_e14, c_e16, c_e18, c_e20, c_e22, S_p⟩ := HV.out
    have ⟨hc_w_heap_size, fc_w_heap_size, pc_w_heap_size⟩ := c_w_heap_size
    have ⟨hc__w_heap_size_1_, fc__w_heap_size_1_, pc__w_heap_size_1_⟩ := c__w_heap_size_1_
    have ⟨hc__w_heap_size_1_1_, fc__w_heap_size_1_1_, pc__w_heap_size_1_1_⟩ := c__w_heap_size_1_1_
    have ⟨hc_e9, fc_e9, pc_e9⟩ := c_e9
    have h0c_e9 := (c_e9).at0
    have h1c_e9 := (c_e9).at1
    have ⟨hc_e11, fc_e11, pc_e11⟩ := c_e11
    have ⟨hc_e12, fc_e12, pc_e12⟩ := c_e12
    have ⟨hc_e13, fc_e13, pc_e13⟩ := c_e13
    have ⟨hc_e14, fc_e14, pc_e14⟩ := c_e14
    have ⟨hc_e16, fc_e16, pc_e16⟩ := c_e16
    have ⟨hc_e18, fc_e18, pc_e18⟩ := c_e18
    have ⟨hc_e20, fc_e20, pc_e20⟩ := c_e20
    have ⟨hc_e22, fc_e22, pc_e22⟩ := c_e22
    go_wp2_with (first
        | (go_at_call_of 15 ((#[.int .i64 k, .agg (nw 9 s), .agg (nw 9 y)] : Array Value)); refine (S1.out _).mono ?_; rintro e w' ⟨rfl, g6, rfl⟩)
        | (go_at_call 18; refine (num_any _ _).mono ?_; rintro e w' ⟨rfl, rfl⟩))
    go_meet
    exact ⟨_, rfl, rfl, G.trans (by repeat (first | exact Gr.refl _ | apply Gr.drewN | apply Gr.drew | apply Gr.alloc | apply Gr.gro)), c_w_heap_size.gr (by repeat (first | exact Gr.refl _ | apply Gr.drewN | apply Gr.drew | apply Gr.alloc | apply Gr.gro)), c__w_heap_size_1_.gr (by repeat (first | exact Gr.refl _ | apply Gr.drewN | apply Gr.drew | apply Gr.alloc | apply Gr.gro)), c__w_heap_size_1_1_.gr (by repeat (first | exact Gr.refl _ | apply Gr.drewN | apply Gr.drew | apply Gr.alloc | apply Gr.gro)), c_e9.gr (by repeat (first | exact Gr.refl _ | apply Gr.drewN | apply Gr.drew | apply Gr.alloc | apply Gr.gro)), c_e11.gr (by repeat (first | exact Gr.refl _ | apply Gr.drewN | apply Gr.drew | apply Gr.alloc | apply Gr.gro)), c_e12.gr (by repeat (first | exact Gr.refl _ | apply Gr.drewN | apply Gr.drew | apply Gr.alloc | apply Gr.gro)), c_e13.gr (by repeat (first | exact Gr.refl _ | apply Gr.drewN | apply Gr.drew | apply Gr.alloc | apply Gr.gro)), c_e14.gr (by repeat (first | exact Gr.refl _ | apply Gr.drewN | apply Gr.drew | apply Gr.alloc | apply Gr.gro)), c_e16.gr (by repeat (first | exact Gr.refl _ | apply Gr.drewN | apply Gr.drew | apply Gr.alloc | apply Gr.gro)), c_e18.gr (by repeat (first | exact Gr.refl _ | apply Gr.drewN | apply Gr.drew | apply Gr.alloc | apply Gr.gro)), c_e20.gr (by repeat (first | exact Gr.refl _ | apply Gr.drewN | apply Gr.drew | apply Gr.alloc | apply Gr.gro)), c_e22.gr (by repeat (first | exact Gr.refl _ | apply Gr.drewN | apply Gr.drew | apply Gr.alloc | apply Gr.gro)), ⟨by simp [go_sem], by simp [go_sem], by simp [go_sem]⟩, S_p.gr (by repeat (first | exact Gr.refl _ | apply Gr.drewN | apply Gr.drew | apply Gr.alloc | apply Gr.gro))⟩
  clear HV
  obtain ⟨e24, rfl, rfl, HV⟩ := hcut
  go_upto_region 13 with fail
  have ⟨G, c_w_heap_size, c__w_heap_size_1_, c__w_heap_size_1_1_, c_e9, c_e11, c_e12, c_e13, c_e14, c_e16, c_e18, c_e20, c_e22, c_e24, S_p⟩ := HV.out
  have ⟨hc_w_heap_size, fc_w_heap_size, pc_w_heap_size⟩ := c_w_heap_size
  have ⟨hc__w_heap_size_1_, fc__w_heap_size_1_, pc__w_heap_size_1_⟩ := c__w_heap_size_1_
  have ⟨hc__w_heap_size_1_1_, fc__w_heap_size_1_1_, pc__w_heap_size_1_1_⟩ := c__w_heap_size_1_1_
  have ⟨hc_e9, fc_e9, pc_e9⟩ := c_e9
  have h0c_e9 := (c_e9).at0
  have h1c_e9 := (c_e9).at1
  have ⟨hc_e11, fc_e11, pc_e11⟩ := c_e11
  have ⟨hc_e12, fc_e12, pc_e12⟩ := c_e12
  have ⟨hc_e13, fc_e13, pc_e13⟩ := c_e13
  have ⟨hc_e14, fc_e14, pc_e14⟩ := c_e14
  have ⟨hc_e16, fc_e16, pc_e16⟩ := c_e16
  have ⟨hc_e18, fc_e18, pc_e18⟩ := c_e18
  have ⟨hc_e20, fc_e20, pc_e20⟩ := c_e20
  have ⟨hc_e22, fc_e22, pc_e22⟩ := c_e22
  have ⟨hc_e24, fc_e24, pc_e24⟩ := c_e24
  clear HV
  go_wp2_with (first
      | (go_at_call_of 32 ((#[.agg (cvA k p (dl m) n q), .agg (nw 9 a)] : Array Value)); refine (B1.out p n q _ (S_p.gr (by repeat (first | exact Gr.refl _ | apply Gr.drewN | apply Gr.drew | apply Gr.alloc | apply Gr.gro)))).mono ?_; rintro e w' ⟨rfl, g7, rfl⟩)
      | (go_at_call_of 32 ((#[.agg (cvA k p (dl m) n q), .agg (nw 9 b)] : Array Value)); refine (B2.out p n q _ (S_p.gr (by repeat (first | exact Gr.refl _ | apply Gr.drewN | apply Gr.drew | apply Gr.alloc | apply Gr.gro)))).mono ?_; rintro e w' ⟨rfl, g8, rfl⟩)
      | (go_at_call_of 32 ((#[.agg (cvA k p (dl m) n q), .agg (nw 9 c)] : Array Value)); refine (B3.out p n q _ (S_p.gr (by repeat (first | exact Gr.refl _ | apply Gr.drewN | apply Gr.drew | apply Gr.alloc | apply Gr.gro)))).mono ?_; rintro e w' ⟨rfl, g9, rfl⟩)
      | (go_at_call_of 14 ((#[.int .i64 k, .agg (nw 9 x), .agg (nw 9 y)] : Array Value)); refine (A1.out _).mono ?_; rintro e w' ⟨rfl, g10, rfl⟩)
      | (go_at_call_of 16 ((#[.int .i64 k, .agg (nw 9 s), .agg (nw 9 z)] : Array Value)); refine (M1.out _).mono ?_; rintro e w' ⟨rfl, g11, rfl⟩)
      | (go_at_call_of 16 ((#[.int .i64 k, .agg (nw 9 x), .agg (nw 9 z)] : Array Value)); refine (M2.out _).mono ?_; rintro e w' ⟨rfl, g12, rfl⟩)
      | (go_at_call_of 16 ((#[.int .i64 k, .agg (nw 9 y), .agg (nw 9 z)] : Array Value)); refine (M3.out _).mono ?_; rintro e w' ⟨rfl, g13, rfl⟩)
      | (go_at_call_of 14 ((#[.int .i64 k, .agg (nw 9 f), .agg (nw 9 g)] : Array Value)); refine (A2.out _).mono ?_; rintro e w' ⟨rfl, g14, rfl⟩)
      | (go_at_call_of 15 ((#[.int .i64 k, .agg (nw 9 s), .agg (nw 9 y)] : Array Value)); refine (S1.out _).mono ?_; rintro e w' ⟨rfl, g15, rfl⟩)
      | (go_at_call 18; refine (num_any _ _).mono ?_; rintro e w' ⟨rfl, rfl⟩))
  go_ret
  refine ⟨rfl, ?_⟩
  repeat (first | exact G | apply Gr.drewN | apply Gr.drew | apply Gr.alloc | apply Gr.gro)
theorem frules_any (id : Int) (a b c : Nat) (ha : a < M) (hb : b < M) (hc : c < M) (w : World) :
    Calls Try.prog 5 #[.int .i64 id, .agg (nw 9 a), .agg (nw 9 b), .agg (nw 9 c)] w fun e w' => e = .returned (.bool true) ∧ Gr w w' :=
  frules_k id (idx id) a b c rfl (idx_bd id).1 (idx_bd id).2 ha hb hc w

end Go.Proofs.Ytkmpholjlophpaa
