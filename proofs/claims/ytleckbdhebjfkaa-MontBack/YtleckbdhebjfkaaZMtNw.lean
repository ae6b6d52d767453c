/-
  mont's Mont.To, From, Mul, Inv: what they hand back.
-/
/-
  mont.squareOf, mont.New: what they hand back.
-/
import Derived.Test.YtleckbdhebjfkaaZMtK
import Derived.Test.YtleckbdhebjfkaaZLawA
import Derived.Test.YtleckbdhebjfkaaZDF
namespace Go.Proofs.Ytleckbdhebjfkaa
open Go.RowKit
def bslF (t : TypeId) (n : Nat) (p : Array (Nat × Value)) : Sem Value := Instr.buildSlice t n p
theorem bslN_is (n : Nat) (p : Array (Nat × Value)) : Instr.buildSlice 92 n p = bslF 92 n p := rfl
theorem bsl2 (a b : Nat) (w : World) : (bslF 92 2 #[(0, .agg (nw 9 a)), (1, .agg (nw 9 b))]).run Try.prog w = .ok (.slice (some ⟨w.heap.size, 0, none⟩) 2 2) (w.alloc (.cells (nw 9 a ++ nw 9 b) 25)) := by kernel_rfl
theorem bsl1 (a : Nat) (w : World) : (bslF 92 1 #[(0, .agg (nw 9 a))]).run Try.prog w = .ok (.slice (some ⟨w.heap.size, 0, none⟩) 1 1) (w.alloc (.cells (nw 9 a) 25)) := by kernel_rfl
attribute [local go_sem ↓] loadNat_is loadArr_is loadWide_is loadArrW_is storeNat_is storeWide_is
attribute [local go_sem] loadNat loadArr loadWide loadArrW storeNat storeWide idxArr fold9 fold18 nw_size nw_elem pre_self pre_1 pre_2 pre_3 pre_4 pre_5 pre_6 pre_7 pre_8 pre_9 pre_10 pre_11 pre_12 pre_13 pre_14 pre_15 pre_16 pre_17 pre_18 pre_19 pre_20 pre_21 pre_22 pre_23 pre_24 pre_25 pre_26 pre_27 pre_28 pre_29 pre_30 pre_31 pre_32 pre_33 pre_34 pre_35 pre_36 pre_37 pre_38 pre_39 pre_40 gro_size gro_drew gro_drewN drew_gro drewN_gro gro_gro blk_gro frz_gro blk_drew frz_drew blk_drewN frz_drewN blk_alloc_at frz_alloc_at blk_alloc frz_alloc cell_gro frozen_gro cell_alloc_pre frozen_alloc_pre setCell_drewN alloc_drewN setBlk_drew setBlk_drewN setBlk_alloc_at setBlk_alloc setBlk_gro setCell_gro setCell_alloc_pre size_setBlk size_setCell
attribute [local go_sem ↓] loadDv_is load19_is storeDv_is store19_is copy_is
attribute [local go_sem] idx18 loadDv load19 storeDv store19 dv_size dv_9 dv_10 dv_e9 dv_e10 dv_elem fold11 fold19 setCell_in cell_in frozen_in frz_setBlk blk_setBlk setBlk_setBlk copy_run cpA_nw ones_nw

attribute [local go_sem ↓] bslN_is Go.wp_at_zero Go.wp_at_succ
attribute [local go_sem] loadM0 loadM10 mt_size mt_lo mt_sq mt_9 mt_19 blk_other bsl2 bsl1

/-- A Mont that New made. -/
def Mn (w : World) (b m k u : Nat) : Prop := ∃ s f, Mt w b m k s f ∧ Mo m k u ∧ Fac m f ∧ s = pw k % m * (pw k % m) % m
theorem Mn.gr {w v : World} {b m k u : Nat} (h : Mn w b m k u) (g : Gr w v) : Mn v b m k u := by
  obtain ⟨s, f, h1, h2⟩ := h
  exact ⟨s, f, h1.gr g, h2⟩
theorem Mn.ge {w : World} {b m k u : Nat} (h : Mn w b m k u) : 3 ≤ m := by
  obtain ⟨s, f, h1, h2, h3⟩ := h
  exact h2.ge
theorem Mn.mo {w : World} {b m k u : Nat} (h : Mn w b m k u) : Mo m k u := by
  obtain ⟨s, f, h1, h2, h3⟩ := h
  exact h2
theorem Words_any (b m k u : Nat) (w : World) (h : Mn w b m k u) :
    Calls Try.prog 19 #[.pointer (some ⟨b, 0, none⟩)] w fun e w' => e = .returned (.int .i64 (k : Int)) ∧ Gr w w' := by
  obtain ⟨s, f, h1, h2⟩ := h
  exact words_any b m k s f w h1
set_option maxRecDepth 100000 in
set_option maxHeartbeats 800000 in
theorem Mul_ok (b m k u a d : Nat) (w : World) (hT0 : Mn w b m k u)  (hc : a < m ∧ d < m) :
    Calls Try.prog 17 #[.pointer (some ⟨b, 0, none⟩), .agg (nw 9 a), .agg (nw 9 d)] w fun e w' => e = .returned (.tuple #[.agg (nw 9 (a * d * u % m)), .int .i64 0]) ∧ Gr w w' := by
  obtain ⟨s, f, hT⟩ := hT0
  have HC : Hid (∀ v c, Gr w v → blk v c = nw 9 a ++ nw 9 d → Pre (c + 1) v.heap.size → Calls Try.prog 39 #[.pointer (some ⟨b, 0, none⟩), .slice (some ⟨c, 0, none⟩) 2 2] v fun e w' => e = .returned (.int .i64 0) ∧ Gr v w') := fun v c hg h1 h2 => by
    have := check2_any b c m k s f a d v hT.2.1.M (by first | exact ha | (have := hT.2.1.M; omega)) (by first | exact hd | (have := hT.2.1.M; omega)) (hT.1.gr hg) h1 h2
    rw [show ckZ (decide (a < m ∧ d < m)) = 0 by rw [decide_eq_true hc]; rfl] at this
    exact this
  obtain ⟨r, hr⟩ : ∃ r, a * d * u % m = r := ⟨_, rfl⟩
  have HR : Hid (∀ v, Gr w v → Calls Try.prog 41 #[.pointer (some ⟨b, 0, none⟩), .agg (nw 9 a), .agg (nw 9 d)] v fun e w' => e = .returned (.agg (nw 9 r)) ∧ Gr v w') := fun v hg => hr ▸ mmul_any b m k s f a d u v (hT.1.gr hg) hT.2.1 hT.2.2.1 hc.1 hc.2
  rw [hr]
  clear hr hc hT
  go_enter Try.func17, Try.ntmps17
  go_wp2_with (first
    | (go_at_call 39; refine (HC.out _ _ (by repeat (first | exact Gr.refl _ | apply Gr.drewN | apply Gr.drew | apply Gr.alloc | apply Gr.gro)) (by simp [go_sem]) (by simp [go_sem])).mono ?_; rintro e w' ⟨rfl, g1, rfl⟩)
    | (go_at_call 41; refine (HR.out _ (by repeat (first | exact Gr.refl _ | apply Gr.drewN | apply Gr.drew | apply Gr.alloc | apply Gr.gro))).mono ?_; rintro e w' ⟨rfl, g2, rfl⟩))
  refine bodyPost_ret (res_two Try.results17 (rd_nat (x := r) (by rfl) ?_) (rd_tmp (by rfl))) rfl ⟨rfl, (by repeat (first | exact Gr.refl _ | apply Gr.drewN | apply Gr.drew | apply Gr.alloc | apply Gr.gro))⟩
  simp [go_sem]
set_option maxRecDepth 100000 in
set_option maxHeartbeats 800000 in
theorem Mul_no (b m k u a d : Nat) (w : World) (hT0 : Mn w b m k u) (ha : a < M) (hd : d < M) (hc : ¬ (a < m ∧ d < m)) :
    Calls Try.prog 17 #[.pointer (some ⟨b, 0, none⟩), .agg (nw 9 a), .agg (nw 9 d)] w fun e w' => e = .returned (.tuple #[.agg (nw 9 0), .int .i64 601]) ∧ Gr w w' := by
  obtain ⟨s, f, hT⟩ := hT0
  have HC : Hid (∀ v c, Gr w v → blk v c = nw 9 a ++ nw 9 d → Pre (c + 1) v.heap.size → Calls Try.prog 39 #[.pointer (some ⟨b, 0, none⟩), .slice (some ⟨c, 0, none⟩) 2 2] v fun e w' => e = .returned (.int .i64 601) ∧ Gr v w') := fun v c hg h1 h2 => by
    have := check2_any b c m k s f a d v hT.2.1.M (by first | exact ha | (have := hT.2.1.M; omega)) (by first | exact hd | (have := hT.2.1.M; omega)) (hT.1.gr hg) h1 h2
    rw [show ckZ (decide (a < m ∧ d < m)) = 601 by rw [decide_eq_false hc]; rfl] at this
    exact this
  clear hc hT ha hd
  go_enter Try.func17, Try.ntmps17
  go_wp2_with (go_at_call 39; refine (HC.out _ _ (by repeat (first | exact Gr.refl _ | apply Gr.drewN | apply Gr.drew | apply Gr.alloc | apply Gr.gro)) (by simp [go_sem]) (by simp [go_sem])).mono ?_; rintro e w' ⟨rfl, g1, rfl⟩)
  refine bodyPost_ret (res_two Try.results17 (rd_nat (x := 0) (by rfl) ?_) (rd_tmp (by rfl))) rfl ⟨rfl, (by repeat (first | exact Gr.refl _ | apply Gr.drewN | apply Gr.drew | apply Gr.alloc | apply Gr.gro))⟩
  simp [go_sem]
set_option maxRecDepth 100000 in
set_option maxHeartbeats 800000 in
theorem To_ok (b m k u a : Nat) (w : World) (hT0 : Mn w b m k u)  (hc : a < m) :
    Calls Try.prog 15 #[.pointer (some ⟨b, 0, none⟩), .agg (nw 9 a)] w fun e w' => e = .returned (.tuple #[.agg (nw 9 (a * pw k % m)), .int .i64 0]) ∧ Gr w w' := by
  obtain ⟨s, f, hT⟩ := hT0
  have HC : Hid (∀ v c, Gr w v → blk v c = nw 9 a → Pre (c + 1) v.heap.size → Calls Try.prog 39 #[.pointer (some ⟨b, 0, none⟩), .slice (some ⟨c, 0, none⟩) 1 1] v fun e w' => e = .returned (.int .i64 0) ∧ Gr v w') := fun v c hg h1 h2 => by
    have := check1_any b c m k s f a v hT.2.1.M (by first | exact ha | (have := hT.2.1.M; omega)) (hT.1.gr hg) h1 h2
    rw [show ckZ (decide (a < m)) = 0 by rw [decide_eq_true hc]; rfl] at this
    exact this
  obtain ⟨r, hr⟩ : ∃ r, a * pw k % m = r := ⟨_, rfl⟩
  have HR : Hid (∀ v, Gr w v → Calls Try.prog 40 #[.pointer (some ⟨b, 0, none⟩), .agg (nw 9 a)] v fun e w' => e = .returned (.agg (nw 9 r)) ∧ Gr v w') := fun v hg => hr ▸ mto_any b m k s f a u v (hT.1.gr hg) hT.2.1 hT.2.2.1 hc hT.2.2.2
  rw [hr]
  clear hr hc hT
  go_enter Try.func15, Try.ntmps15
  go_wp2_with (first
    | (go_at_call 39; refine (HC.out _ _ (by repeat (first | exact Gr.refl _ | apply Gr.drewN | apply Gr.drew | apply Gr.alloc | apply Gr.gro)) (by simp [go_sem]) (by simp [go_sem])).mono ?_; rintro e w' ⟨rfl, g1, rfl⟩)
    | (go_at_call 40; refine (HR.out _ (by repeat (first | exact Gr.refl _ | apply Gr.drewN | apply Gr.drew | apply Gr.alloc | apply Gr.gro))).mono ?_; rintro e w' ⟨rfl, g2, rfl⟩))
  refine bodyPost_ret (res_two Try.results15 (rd_nat (x := r) (by rfl) ?_) (rd_tmp (by rfl))) rfl ⟨rfl, (by repeat (first | exact Gr.refl _ | apply Gr.drewN | apply Gr.drew | apply Gr.alloc | apply Gr.gro))⟩
  simp [go_sem]
set_option maxRecDepth 100000 in
set_option maxHeartbeats 800000 in
theorem To_no (b m k u a : Nat) (w : World) (hT0 : Mn w b m k u) (ha : a < M) (hc : ¬ (a < m)) :
    Calls Try.prog 15 #[.pointer (some ⟨b, 0, none⟩), .agg (nw 9 a)] w fun e w' => e = .returned (.tuple #[.agg (nw 9 0), .int .i64 601]) ∧ Gr w w' := by
  obtain ⟨s, f, hT⟩ := hT0
  have HC : Hid (∀ v c, Gr w v → blk v c = nw 9 a → Pre (c + 1) v.heap.size → Calls Try.prog 39 #[.pointer (some ⟨b, 0, none⟩), .slice (some ⟨c, 0, none⟩) 1 1] v fun e w' => e = .returned (.int .i64 601) ∧ Gr v w') := fun v c hg h1 h2 => by
    have := check1_any b c m k s f a v hT.2.1.M (by first | exact ha | (have := hT.2.1.M; omega)) (hT.1.gr hg) h1 h2
    rw [show ckZ (decide (a < m)) = 601 by rw [decide_eq_false hc]; rfl] at this
    exact this
  clear hc hT ha
  go_enter Try.func15, Try.ntmps15
  go_wp2_with (go_at_call 39; refine (HC.out _ _ (by repeat (first | exact Gr.refl _ | apply Gr.drewN | apply Gr.drew | apply Gr.alloc | apply Gr.gro)) (by simp [go_sem]) (by simp [go_sem])).mono ?_; rintro e w' ⟨rfl, g1, rfl⟩)
  refine bodyPost_ret (res_two Try.results15 (rd_nat (x := 0) (by rfl) ?_) (rd_tmp (by rfl))) rfl ⟨rfl, (by repeat (first | exact Gr.refl _ | apply Gr.drewN | apply Gr.drew | apply Gr.alloc | apply Gr.gro))⟩
  simp [go_sem]
set_option maxRecDepth 100000 in
set_option maxHeartbeats 800000 in
theorem From_ok (b m k u a : Nat) (w : World) (hT0 : Mn w b m k u) (hc : a < m) :
    Calls Try.prog 16 #[.pointer (some ⟨b, 0, none⟩), .agg (nw 9 a)] w fun e w' => e = .returned (.tuple #[.agg (nw 9 (a * u % m)), .int .i64 0]) ∧ Gr w w' := by
  obtain ⟨r, hr⟩ : ∃ r, (a * u % m) = r := ⟨_, rfl⟩
  have HR : Hid (∀ v, Gr w v → Calls Try.prog 17 #[.pointer (some ⟨b, 0, none⟩), .agg (nw 9 a), .agg (nw 9 1)] v fun e w' => e = .returned (.tuple #[.agg (nw 9 r), .int .i64 0]) ∧ Gr v w') := fun v hg => by
    have := Mul_ok b m k u a 1 v (hT0.gr hg) ⟨hc, by have := hT0.ge; omega⟩
    rw [Nat.mul_one, hr] at this
    exact this
  have HO : Hid (∀ w, Calls Try.prog 33 #[.int .i64 1] w fun e w' => e = .returned (.agg (nw 9 1)) ∧ Gr w w') := fun w => small_any 1 (by decide) w
  rw [hr]
  clear hr hc hT0 
  go_enter Try.func16, Try.ntmps16
  go_wp2_with fail
  go_region_with (first
    | (go_at_call 33; refine (HO.out _).mono ?_; rintro e w' ⟨rfl, g1, rfl⟩)
    | (go_at_call 17; refine (HR.out _ (by repeat (first | exact Gr.refl _ | apply Gr.drewN | apply Gr.drew | apply Gr.alloc | apply Gr.gro))).mono ?_; rintro e w' ⟨rfl, g2, rfl⟩))
  all_goals
    go_wp2_with fail
    refine bodyPost_ret (res_two Try.results16 (rd_nat (x := r) (by rfl) ?_) (rd_tmp (by rfl))) rfl ⟨rfl, (by repeat (first | exact Gr.refl _ | apply Gr.drewN | apply Gr.drew | apply Gr.alloc | apply Gr.gro))⟩
    simp [go_sem]
set_option maxRecDepth 100000 in
set_option maxHeartbeats 800000 in
theorem From_no (b m k u a : Nat) (w : World) (hT0 : Mn w b m k u) (ha : a < M) (hc : ¬ a < m) :
    Calls Try.prog 16 #[.pointer (some ⟨b, 0, none⟩), .agg (nw 9 a)] w fun e w' => e = .returned (.tuple #[.agg (nw 9 0), .int .i64 601]) ∧ Gr w w' := by
  have HR : Hid (∀ v, Gr w v → Calls Try.prog 17 #[.pointer (some ⟨b, 0, none⟩), .agg (nw 9 a), .agg (nw 9 1)] v fun e w' => e = .returned (.tuple #[.agg (nw 9 0), .int .i64 601]) ∧ Gr v w') := fun v hg => Mul_no b m k u a 1 v (hT0.gr hg) ha (lt_M 1 (by decide)) (fun h => hc h.1)
  have HO : Hid (∀ w, Calls Try.prog 33 #[.int .i64 1] w fun e w' => e = .returned (.agg (nw 9 1)) ∧ Gr w w') := fun w => small_any 1 (by decide) w
  clear hc hT0 ha
  go_enter Try.func16, Try.ntmps16
  go_wp2_with fail
  go_region_with (first
    | (go_at_call 33; refine (HO.out _).mono ?_; rintro e w' ⟨rfl, g1, rfl⟩)
    | (go_at_call 17; refine (HR.out _ (by repeat (first | exact Gr.refl _ | apply Gr.drewN | apply Gr.drew | apply Gr.alloc | apply Gr.gro))).mono ?_; rintro e w' ⟨rfl, g2, rfl⟩))
  all_goals
    go_wp2_with fail
    refine bodyPost_ret (res_two Try.results16 (rd_nat (x := 0) (by rfl) ?_) (rd_tmp (by rfl))) rfl ⟨rfl, (by repeat (first | exact Gr.refl _ | apply Gr.drewN | apply Gr.drew | apply Gr.alloc | apply Gr.gro))⟩
    simp [go_sem]
set_option maxRecDepth 100000 in
set_option maxHeartbeats 800000 in
theorem Inv_no (b m k u a : Nat) (w : World) (hT0 : Mn w b m k u) (ha : a < M) (hc : ¬ (a < m)) :
    Calls Try.prog 18 #[.pointer (some ⟨b, 0, none⟩), .agg (nw 9 a)] w fun e w' => e = .returned (.tuple #[.agg (nw 9 0), .int .i64 601]) ∧ Gr w w' := by
  obtain ⟨s, f, hT⟩ := hT0
  have HC : Hid (∀ v c, Gr w v → blk v c = nw 9 a → Pre (c + 1) v.heap.size → Calls Try.prog 39 #[.pointer (some ⟨b, 0, none⟩), .slice (some ⟨c, 0, none⟩) 1 1] v fun e w' => e = .returned (.int .i64 601) ∧ Gr v w') := fun v c hg h1 h2 => by
    have := check1_any b c m k s f a v hT.2.1.M (by first | exact ha | (have := hT.2.1.M; omega)) (hT.1.gr hg) h1 h2
    rw [show ckZ (decide (a < m)) = 601 by rw [decide_eq_false hc]; rfl] at this
    exact this
  clear hc hT ha
  go_enter Try.func18, Try.ntmps18
  go_wp2_with (go_at_call 39; refine (HC.out _ _ (by repeat (first | exact Gr.refl _ | apply Gr.drewN | apply Gr.drew | apply Gr.alloc | apply Gr.gro)) (by simp [go_sem]) (by simp [go_sem])).mono ?_; rintro e w' ⟨rfl, g1, rfl⟩)
  refine bodyPost_ret (res_two Try.results18 (rd_nat (x := 0) (by rfl) ?_) (rd_tmp (by rfl))) rfl ⟨rfl, (by repeat (first | exact Gr.refl _ | apply Gr.drewN | apply Gr.drew | apply Gr.alloc | apply Gr.gro))⟩
  simp [go_sem]
set_option maxRecDepth 100000 in
set_option maxHeartbeats 800000 in
theorem Inv_none (b m k u a : Nat) (w : World) (hT0 : Mn w b m k u) (HI0 : ∀ w, Calls Try.prog 27 #[.agg (nw 9 a), .agg (nw 9 m)] w fun e w' => e = .returned (.tuple #[.agg (nw 9 0), .int .i64 401]) ∧ Gr w w') (hc : a < m) :
    Calls Try.prog 18 #[.pointer (some ⟨b, 0, none⟩), .agg (nw 9 a)] w fun e w' => e = .returned (.tuple #[.agg (nw 9 0), .int .i64 401]) ∧ Gr w w' := by
  obtain ⟨s, f, hT⟩ := hT0
  have HC : Hid (∀ v c, Gr w v → blk v c = nw 9 a → Pre (c + 1) v.heap.size → Calls Try.prog 39 #[.pointer (some ⟨b, 0, none⟩), .slice (some ⟨c, 0, none⟩) 1 1] v fun e w' => e = .returned (.int .i64 0) ∧ Gr v w') := fun v c hg h1 h2 => by
    have := check1_any b c m k s f a v hT.2.1.M (by first | exact ha | (have := hT.2.1.M; omega)) (hT.1.gr hg) h1 h2
    rw [show ckZ (decide (a < m)) = 0 by rw [decide_eq_true hc]; rfl] at this
    exact this
  have HI : Hid (∀ w, Calls Try.prog 27 #[.agg (nw 9 a), .agg (nw 9 m)] w fun e w' => e = .returned (.tuple #[.agg (nw 9 0), .int .i64 401]) ∧ Gr w w') := HI0
  have HT : Hid (Mt w b m k s f) := hT.1
  clear HI0 hc hT
  go_enter Try.func18, Try.ntmps18
  go_upto_region 4 with (go_at_call 39; refine (HC.out _ _ (by repeat (first | exact Gr.refl _ | apply Gr.drewN | apply Gr.drew | apply Gr.alloc | apply Gr.gro)) (by simp [go_sem]) (by simp [go_sem])).mono ?_; rintro e w' ⟨rfl, g1, rfl⟩)
  refine gen_w (fun v => Hid (Gr w v ∧ Mt v b m k s f ∧ Cl v w.heap.size a ∧ Cl v (w.heap.size + 1) 0)) ⟨(by repeat (first | exact Gr.refl _ | apply Gr.drewN | apply Gr.drew | apply Gr.alloc | apply Gr.gro)), HT.out.gr (by repeat (first | exact Gr.refl _ | apply Gr.drewN | apply Gr.drew | apply Gr.alloc | apply Gr.gro)), ⟨by simp [go_sem], by simp [go_sem], by simp [go_sem]⟩, ⟨by simp [go_sem], by simp [go_sem], by simp [go_sem]⟩⟩ ?_
  intro v0 HV
  have ⟨G0, hT2, ca, cr⟩ := HV.out
  refine wp_region_mix (by kernel_rfl) (by kernel_rfl) (RG _ (fun i => match i with | 0 => some (.agg (nw 9 a)) | 1 => some (.pointer (some ⟨b, 0, none⟩)) | 2 => some (.pointer (some ⟨b, 0, none⟩)) | 3 => some (.pointer (some ⟨b, 0, none⟩)) | 4 => some (.agg (nw 9 m)) | 5 => some (.tuple #[.agg (nw 9 0), .int .i64 401]) | 6 => some (.tuple #[.agg (nw 9 0), .int .i64 401]) | 7 => some (.agg (nw 9 0)) | 8 => some (.int .i64 401) | 11 => some (.int .i64 401) | _ => none) (fun i => match i with | 9 => some (nw 9 0) | _ => none) (fun i => match i with | 9 => some (10, nw 9 0) | _ => none)) (RG.start _ _ _ _ _ _) ?hs ?hf
  case hs =>
    intro listed vals a1 v1 i o hz hR hF ho hl hd
    have hks : ∀ (j k : Nat) (r : Array Value), (match j with | 9 => some (10, nw 9 0) | _ => (none : Option (Nat × Array Value))) = some (k, r) → (j = 9 ∧ k = 10) := fun j k r h => by
      split at h <;> simp_all
    have Ha : blk v1 (w.heap.size) = nw 9 a := (blk_of _ _ _ (hR.1.below.block (w.heap.size) (ca.p))).trans (ca.h)
    have Hb : blk v1 (b) = mt m k s f := (blk_of _ _ _ (hR.1.below.block (b) (hT2.lt))).trans (hT2.cells)
    have Hr : blk v1 (w.heap.size + 1) = nw 9 0 := (blk_of _ _ _ (hR.1.below.block (w.heap.size + 1) (cr.p))).trans (cr.h)
    have hi : i < 12 := by simpa using (Array.getElem?_eq_some_iff.1 ho).1
    have hil : i < listed.size := by rw [hz]; simpa using hi
    obtain rfl | rfl | rfl | rfl | rfl | rfl | rfl | rfl | rfl | rfl | rfl | rfl : i = 0 ∨ i = 1 ∨ i = 2 ∨ i = 3 ∨ i = 4 ∨ i = 5 ∨ i = 6 ∨ i = 7 ∨ i = 8 ∨ i = 9 ∨ i = 10 ∨ i = 11 := by omega
    · obtain rfl := Option.some.inj ho
      have f0 := hF.old (s := 3) (v := .pointer (some ⟨w.heap.size, 0, none⟩)) (by kernel_rfl) rfl
      exact wp_val (.agg (nw 9 a)) (by simp [go_sem, f0, Ha]) ⟨_, rfl, RG.quiet 0 _ hil rfl rfl (fun j k r h => by have := hks j k r h; omega) (Gr.refl _) hR⟩
    · obtain rfl := Option.some.inj ho
      have f0 := hF.old (s := 0) (v := .pointer (some ⟨b, 0, none⟩)) (by kernel_rfl) rfl
      exact wp_val (.pointer (some ⟨b, 0, none⟩)) (by simp [go_sem, f0]) ⟨_, rfl, RG.quiet 1 _ hil rfl rfl (fun j k r h => by have := hks j k r h; omega) (Gr.refl _) hR⟩
    · obtain rfl := Option.some.inj ho
      have l0 := hd ⟨1, .data⟩ (by simp) rfl
      have f0 := hF.at (s := 19) (i := 1) (by kernel_rfl) (by simp) l0
      rw [hR.2.1 1 _ l0 rfl] at f0
      exact wp_val (.pointer (some ⟨b, 0, none⟩)) (by simp [go_sem, f0]) ⟨_, rfl, RG.quiet 2 _ hil rfl rfl (fun j k r h => by have := hks j k r h; omega) (Gr.refl _) hR⟩
    · obtain rfl := Option.some.inj ho
      have l0 := hd ⟨2, .data⟩ (by simp) rfl
      have f0 := hF.at (s := 20) (i := 2) (by kernel_rfl) (by simp) l0
      rw [hR.2.1 2 _ l0 rfl] at f0
      exact wp_val (.pointer (some ⟨b, 0, none⟩)) (by simp [go_sem, f0]) ⟨_, rfl, RG.quiet 3 _ hil rfl rfl (fun j k r h => by have := hks j k r h; omega) (Gr.refl _) hR⟩
    · obtain rfl := Option.some.inj ho
      have l0 := hd ⟨3, .data⟩ (by simp) rfl
      have f0 := hF.at (s := 21) (i := 3) (by kernel_rfl) (by simp) l0
      rw [hR.2.1 3 _ l0 rfl] at f0
      exact wp_val (.agg (nw 9 m)) (by simp [go_sem, f0, Hb]) ⟨_, rfl, RG.quiet 4 _ hil rfl rfl (fun j k r h => by have := hks j k r h; omega) (Gr.refl _) hR⟩
    · obtain rfl := Option.some.inj ho
      have l0 := hd ⟨0, .data⟩ (by simp) rfl
      have f0 := hF.at (s := 18) (i := 0) (by kernel_rfl) (by simp) l0
      rw [hR.2.1 0 _ l0 rfl] at f0
      have l1 := hd ⟨4, .data⟩ (by simp) rfl
      have f1 := hF.at (s := 22) (i := 4) (by kernel_rfl) (by simp) l1
      rw [hR.2.1 4 _ l1 rfl] at f1
      exact wp_ret (.tuple #[.agg (nw 9 0), .int .i64 401]) (by simp [go_sem, f0, f1]) (HI.out _) (fun w2 hg => ⟨_, rfl, RG.quiet 5 _ hil rfl rfl (fun j k r h => by have := hks j k r h; omega) hg hR⟩)
    · obtain rfl := Option.some.inj ho
      have l0 := hd ⟨5, .data⟩ (by simp) rfl
      have f0 := hF.at (s := 23) (i := 5) (by kernel_rfl) (by simp) l0
      rw [hR.2.1 5 _ l0 rfl] at f0
      exact wp_val (.tuple #[.agg (nw 9 0), .int .i64 401]) (by simp [go_sem, f0]) ⟨_, rfl, RG.quiet 6 _ hil rfl rfl (fun j k r h => by have := hks j k r h; omega) (Gr.refl _) hR⟩
    · obtain rfl := Option.some.inj ho
      have l0 := hd ⟨6, .data⟩ (by simp) rfl
      have f0 := hF.at (s := 17) (i := 6) (by kernel_rfl) (by simp) l0
      rw [hR.2.1 6 _ l0 rfl] at f0
      exact wp_val (.agg (nw 9 0)) (by simp [go_sem, f0]) ⟨_, rfl, RG.quiet 7 _ hil rfl rfl (fun j k r h => by have := hks j k r h; omega) (Gr.refl _) hR⟩
    · obtain rfl := Option.some.inj ho
      have l0 := hd ⟨6, .data⟩ (by simp) rfl
      have f0 := hF.at (s := 17) (i := 6) (by kernel_rfl) (by simp) l0
      rw [hR.2.1 6 _ l0 rfl] at f0
      exact wp_val (.int .i64 401) (by simp [go_sem, f0]) ⟨_, rfl, RG.quiet 8 _ hil rfl rfl (fun j k r h => by have := hks j k r h; omega) (Gr.refl _) hR⟩
    · obtain rfl := Option.some.inj ho
      exact wp_val (.pointer (some ⟨v1.heap.size, 0, none⟩)) (w' := v1.alloc (.cells (nw 9 0) 25)) (by simp [go_sem]) ⟨_, rfl, RG.alloc 9 (nw 9 0) 25 hil hl rfl rfl (fun j k r h => by have := hks j k r h; omega) hR⟩
    · obtain rfl := Option.some.inj ho
      have l0 := hd ⟨9, .data⟩ (by simp) rfl
      have l1 := hd ⟨7, .data⟩ (by simp) rfl
      obtain ⟨B, h4, h5⟩ := hR.2.2.2
      obtain ⟨e1, e2, e3, e4, e5⟩ := h4 9 (nw 9 0) l0 rfl
      simp only [hl] at e5
      replace e5 : blk v1 (B 9) = nw 9 0 := e5
      have f0 := hF.at (s := 7) (i := 9) (by kernel_rfl) (by simp) l0
      rw [e1] at f0
      have f1 := hF.at (s := 24) (i := 7) (by kernel_rfl) (by simp) l1
      rw [hR.2.1 7 _ l1 rfl] at f1
      exact wp_skip (w' := setBlk v1 (B 9) (nw 9 0)) (by simp [go_sem, f0, f1, e4, e5]) ⟨undef, rfl, RG.store 10 9 (nw 9 0) (nw 9 0) (B 9) hil hl rfl rfl rfl l0 rfl (by rw [nw_size]; decide) e1 (fun k r h => by have := hks k _ r h; omega) hR⟩
    · obtain rfl := Option.some.inj ho
      have l0 := hd ⟨8, .data⟩ (by simp) rfl
      have f0 := hF.at (s := 25) (i := 8) (by kernel_rfl) (by simp) l0
      rw [hR.2.1 8 _ l0 rfl] at f0
      exact wp_val (.int .i64 401) (by simp [go_sem, f0]) ⟨_, rfl, RG.quiet 11 _ hil rfl rfl (fun j k r h => by have := hks j k r h; omega) (Gr.refl _) hR⟩
  case hf =>
    intro listed vals a1 v1 hall hR hF
    have Ha : blk v1 (w.heap.size) = nw 9 a := (blk_of _ _ _ (hR.1.below.block (w.heap.size) (ca.p))).trans (ca.h)
    have pHa : Pre (w.heap.size + 1) v1.heap.size := Nat.le_trans (show w.heap.size + 1 ≤ _ from ca.p) hR.1.below.size
    have Hb : blk v1 (b) = mt m k s f := (blk_of _ _ _ (hR.1.below.block (b) (hT2.lt))).trans (hT2.cells)
    have pHb : Pre (b + 1) v1.heap.size := Nat.le_trans (show b + 1 ≤ _ from hT2.lt) hR.1.below.size
    have Hr : blk v1 (w.heap.size + 1) = nw 9 0 := (blk_of _ _ _ (hR.1.below.block (w.heap.size + 1) (cr.p))).trans (cr.h)
    have pHr : Pre (w.heap.size + 1 + 1) v1.heap.size := Nat.le_trans (show w.heap.size + 1 + 1 ≤ _ from cr.p) hR.1.below.size
    have hV := hR.2.1
    obtain ⟨B, h4, h5⟩ := hR.2.2.2
    have x0 := hV 0 _ (hall 0 (by simp)) rfl
    have x1 := hV 1 _ (hall 1 (by simp)) rfl
    have x2 := hV 2 _ (hall 2 (by simp)) rfl
    have x3 := hV 3 _ (hall 3 (by simp)) rfl
    have x4 := hV 4 _ (hall 4 (by simp)) rfl
    have x5 := hV 5 _ (hall 5 (by simp)) rfl
    have x6 := hV 6 _ (hall 6 (by simp)) rfl
    have x7 := hV 7 _ (hall 7 (by simp)) rfl
    have x8 := hV 8 _ (hall 8 (by simp)) rfl
    have x11 := hV 11 _ (hall 11 (by simp)) rfl
    obtain ⟨x9, q9, p9, z9, y9⟩ := h4 9 _ (hall 9 (by simp)) rfl
    simp only [hall 10 (by simp), if_true] at y9
    replace p9 : Pre (B 9 + 1) v1.heap.size := p9
    replace y9 : blk v1 (B 9) = nw 9 0 := y9
    have hb1 := hR.1
    rw [hF.final (by kernel_rfl) hall]
    simp only [putFrom, Act.put, List.setIfInBounds_toArray, List.set_cons_zero, List.set_cons_succ, x0, x1, x2, x3, x4, x5, x6, x7, x8, x11, x9]
    generalize B 9 = b9 at *
    clear hV h4 h5 hR hF hall x0 x1 x2 x3 x4 x5 x6 x7 x8 x11 x9
    have cr1 := cr.gr hb1
    have pr0 : Pre (w.heap.size + 1 + 1) v0.heap.size := cr.p
    have ⟨h1, f1, p1⟩ := cr1
    have G := G0.trans hb1
    clear HV G0 hT2 ca cr cr1 hb1
    have n1 : ¬ b9 = w.heap.size + 1 := by
      intro h
      have := q9
      have h2 : w.heap.size + 1 < v0.heap.size := pr0
      omega
    go_wp2_with fail
    refine bodyPost_ret (res_two Try.results18 (rd_nat (x := 0) (by rfl) ?_) (rd_tmp (by rfl))) rfl ⟨rfl, ?_⟩
    · simp [go_sem, *]
    · repeat (first | exact G | apply Gr.drewN | apply Gr.drew | apply Gr.alloc | apply Gr.gro | (refine gr_setNew ?_ (by omega)))
set_option maxRecDepth 100000 in
set_option maxHeartbeats 800000 in
theorem Inv_ok (b m k u a : Nat) (w : World) (hT0 : Mn w b m k u) (x : Nat) (hx : x < m) (HI0 : ∀ w, Calls Try.prog 27 #[.agg (nw 9 a), .agg (nw 9 m)] w fun e w' => e = .returned (.tuple #[.agg (nw 9 x), .int .i64 0]) ∧ Gr w w') (hc : a < m) :
    Calls Try.prog 18 #[.pointer (some ⟨b, 0, none⟩), .agg (nw 9 a)] w fun e w' => e = .returned (.tuple #[.agg (nw 9 (x * pw k % m * pw k % m)), .int .i64 0]) ∧ Gr w w' := by
  obtain ⟨s, f, hT⟩ := hT0
  have HC : Hid (∀ v c, Gr w v → blk v c = nw 9 a → Pre (c + 1) v.heap.size → Calls Try.prog 39 #[.pointer (some ⟨b, 0, none⟩), .slice (some ⟨c, 0, none⟩) 1 1] v fun e w' => e = .returned (.int .i64 0) ∧ Gr v w') := fun v c hg h1 h2 => by
    have := check1_any b c m k s f a v hT.2.1.M (by first | exact ha | (have := hT.2.1.M; omega)) (hT.1.gr hg) h1 h2
    rw [show ckZ (decide (a < m)) = 0 by rw [decide_eq_true hc]; rfl] at this
    exact this
  obtain ⟨y, hy⟩ : ∃ y, x * pw k % m = y := ⟨_, rfl⟩
  obtain ⟨r, hr⟩ : ∃ r, y * pw k % m = r := ⟨_, rfl⟩
  have hym : y < m := by rw [← hy]; exact Nat.mod_lt _ (by omega)
  have HR : Hid (∀ v, Gr w v → Calls Try.prog 40 #[.pointer (some ⟨b, 0, none⟩), .agg (nw 9 x)] v fun e w' => e = .returned (.agg (nw 9 y)) ∧ Gr v w') := fun v hg => hy ▸ mto_any b m k s f x u v (hT.1.gr hg) hT.2.1 hT.2.2.1 hx hT.2.2.2
  have HR2 : Hid (∀ v, Gr w v → Calls Try.prog 40 #[.pointer (some ⟨b, 0, none⟩), .agg (nw 9 y)] v fun e w' => e = .returned (.agg (nw 9 r)) ∧ Gr v w') := fun v hg => hr ▸ mto_any b m k s f y u v (hT.1.gr hg) hT.2.1 hT.2.2.1 hym hT.2.2.2
  rw [hy, hr]
  clear hr hy hym hx
  have HI : Hid (∀ w, Calls Try.prog 27 #[.agg (nw 9 a), .agg (nw 9 m)] w fun e w' => e = .returned (.tuple #[.agg (nw 9 x), .int .i64 0]) ∧ Gr w w') := HI0
  have HT : Hid (Mt w b m k s f) := hT.1
  clear HI0 hc hT
  go_enter Try.func18, Try.ntmps18
  go_upto_region 4 with (go_at_call 39; refine (HC.out _ _ (by repeat (first | exact Gr.refl _ | apply Gr.drewN | apply Gr.drew | apply Gr.alloc | apply Gr.gro)) (by simp [go_sem]) (by simp [go_sem])).mono ?_; rintro e w' ⟨rfl, g1, rfl⟩)
  refine gen_w (fun v => Hid (Gr w v ∧ Mt v b m k s f ∧ Cl v w.heap.size a ∧ Cl v (w.heap.size + 1) 0)) ⟨(by repeat (first | exact Gr.refl _ | apply Gr.drewN | apply Gr.drew | apply Gr.alloc | apply Gr.gro)), HT.out.gr (by repeat (first | exact Gr.refl _ | apply Gr.drewN | apply Gr.drew | apply Gr.alloc | apply Gr.gro)), ⟨by simp [go_sem], by simp [go_sem], by simp [go_sem]⟩, ⟨by simp [go_sem], by simp [go_sem], by simp [go_sem]⟩⟩ ?_
  intro v0 HV
  have ⟨G0, hT2, ca, cr⟩ := HV.out
  refine wp_region_mix (by kernel_rfl) (by kernel_rfl) (RG _ (fun i => match i with | 0 => some (.agg (nw 9 a)) | 1 => some (.pointer (some ⟨b, 0, none⟩)) | 2 => some (.pointer (some ⟨b, 0, none⟩)) | 3 => some (.pointer (some ⟨b, 0, none⟩)) | 4 => some (.agg (nw 9 m)) | 5 => some (.tuple #[.agg (nw 9 x), .int .i64 0]) | 6 => some (.tuple #[.agg (nw 9 x), .int .i64 0]) | 7 => some (.agg (nw 9 x)) | 8 => some (.int .i64 0) | 11 => some (.int .i64 0) | _ => none) (fun i => match i with | 9 => some (nw 9 0) | _ => none) (fun i => match i with | 9 => some (10, nw 9 x) | _ => none)) (RG.start _ _ _ _ _ _) ?hs ?hf
  case hs =>
    intro listed vals a1 v1 i o hz hR hF ho hl hd
    have hks : ∀ (j k : Nat) (r : Array Value), (match j with | 9 => some (10, nw 9 x) | _ => (none : Option (Nat × Array Value))) = some (k, r) → (j = 9 ∧ k = 10) := fun j k r h => by
      split at h <;> simp_all
    have Ha : blk v1 (w.heap.size) = nw 9 a := (blk_of _ _ _ (hR.1.below.block (w.heap.size) (ca.p))).trans (ca.h)
    have Hb : blk v1 (b) = mt m k s f := (blk_of _ _ _ (hR.1.below.block (b) (hT2.lt))).trans (hT2.cells)
    have Hr : blk v1 (w.heap.size + 1) = nw 9 0 := (blk_of _ _ _ (hR.1.below.block (w.heap.size + 1) (cr.p))).trans (cr.h)
    have hi : i < 12 := by simpa using (Array.getElem?_eq_some_iff.1 ho).1
    have hil : i < listed.size := by rw [hz]; simpa using hi
    obtain rfl | rfl | rfl | rfl | rfl | rfl | rfl | rfl | rfl | rfl | rfl | rfl : i = 0 ∨ i = 1 ∨ i = 2 ∨ i = 3 ∨ i = 4 ∨ i = 5 ∨ i = 6 ∨ i = 7 ∨ i = 8 ∨ i = 9 ∨ i = 10 ∨ i = 11 := by omega
    · obtain rfl := Option.some.inj ho
      have f0 := hF.old (s := 3) (v := .pointer (some ⟨w.heap.size, 0, none⟩)) (by kernel_rfl) rfl
      exact wp_val (.agg (nw 9 a)) (by simp [go_sem, f0, Ha]) ⟨_, rfl, RG.quiet 0 _ hil rfl rfl (fun j k r h => by have := hks j k r h; omega) (Gr.refl _) hR⟩
    · obtain rfl := Option.some.inj ho
      have f0 := hF.old (s := 0) (v := .pointer (some ⟨b, 0, none⟩)) (by kernel_rfl) rfl
      exact wp_val (.pointer (some ⟨b, 0, none⟩)) (by simp [go_sem, f0]) ⟨_, rfl, RG.quiet 1 _ hil rfl rfl (fun j k r h => by have := hks j k r h; omega) (Gr.refl _) hR⟩
    · obtain rfl := Option.some.inj ho
      have l0 := hd ⟨1, .data⟩ (by simp) rfl
      have f0 := hF.at (s := 19) (i := 1) (by kernel_rfl) (by simp) l0
      rw [hR.2.1 1 _ l0 rfl] at f0
      exact wp_val (.pointer (some ⟨b, 0, none⟩)) (by simp [go_sem, f0]) ⟨_, rfl, RG.quiet 2 _ hil rfl rfl (fun j k r h => by have := hks j k r h; omega) (Gr.refl _) hR⟩
    · obtain rfl := Option.some.inj ho
      have l0 := hd ⟨2, .data⟩ (by simp) rfl
      have f0 := hF.at (s := 20) (i := 2) (by kernel_rfl) (by simp) l0
      rw [hR.2.1 2 _ l0 rfl] at f0
      exact wp_val (.pointer (some ⟨b, 0, none⟩)) (by simp [go_sem, f0]) ⟨_, rfl, RG.quiet 3 _ hil rfl rfl (fun j k r h => by have := hks j k r h; omega) (Gr.refl _) hR⟩
    · obtain rfl := Option.some.inj ho
      have l0 := hd ⟨3, .data⟩ (by simp) rfl
      have f0 := hF.at (s := 21) (i := 3) (by kernel_rfl) (by simp) l0
      rw [hR.2.1 3 _ l0 rfl] at f0
      exact wp_val (.agg (nw 9 m)) (by simp [go_sem, f0, Hb]) ⟨_, rfl, RG.quiet 4 _ hil rfl rfl (fun j k r h => by have := hks j k r h; omega) (Gr.refl _) hR⟩
    · obtain rfl := Option.some.inj ho
      have l0 := hd ⟨0, .data⟩ (by simp) rfl
      have f0 := hF.at (s := 18) (i := 0) (by kernel_rfl) (by simp) l0
      rw [hR.2.1 0 _ l0 rfl] at f0
      have l1 := hd ⟨4, .data⟩ (by simp) rfl
      have f1 := hF.at (s := 22) (i := 4) (by kernel_rfl) (by simp) l1
      rw [hR.2.1 4 _ l1 rfl] at f1
      exact wp_ret (.tuple #[.agg (nw 9 x), .int .i64 0]) (by simp [go_sem, f0, f1]) (HI.out _) (fun w2 hg => ⟨_, rfl, RG.quiet 5 _ hil rfl rfl (fun j k r h => by have := hks j k r h; omega) hg hR⟩)
    · obtain rfl := Option.some.inj ho
      have l0 := hd ⟨5, .data⟩ (by simp) rfl
      have f0 := hF.at (s := 23) (i := 5) (by kernel_rfl) (by simp) l0
      rw [hR.2.1 5 _ l0 rfl] at f0
      exact wp_val (.tuple #[.agg (nw 9 x), .int .i64 0]) (by simp [go_sem, f0]) ⟨_, rfl, RG.quiet 6 _ hil rfl rfl (fun j k r h => by have := hks j k r h; omega) (Gr.refl _) hR⟩
    · obtain rfl := Option.some.inj ho
      have l0 := hd ⟨6, .data⟩ (by simp) rfl
      have f0 := hF.at (s := 17) (i := 6) (by kernel_rfl) (by simp) l0
      rw [hR.2.1 6 _ l0 rfl] at f0
      exact wp_val (.agg (nw 9 x)) (by simp [go_sem, f0]) ⟨_, rfl, RG.quiet 7 _ hil rfl rfl (fun j k r h => by have := hks j k r h; omega) (Gr.refl _) hR⟩
    · obtain rfl := Option.some.inj ho
      have l0 := hd ⟨6, .data⟩ (by simp) rfl
      have f0 := hF.at (s := 17) (i := 6) (by kernel_rfl) (by simp) l0
      rw [hR.2.1 6 _ l0 rfl] at f0
      exact wp_val (.int .i64 0) (by simp [go_sem, f0]) ⟨_, rfl, RG.quiet 8 _ hil rfl rfl (fun j k r h => by have := hks j k r h; omega) (Gr.refl _) hR⟩
    · obtain rfl := Option.some.inj ho
      exact wp_val (.pointer (some ⟨v1.heap.size, 0, none⟩)) (w' := v1.alloc (.cells (nw 9 0) 25)) (by simp [go_sem]) ⟨_, rfl, RG.alloc 9 (nw 9 0) 25 hil hl rfl rfl (fun j k r h => by have := hks j k r h; omega) hR⟩
    · obtain rfl := Option.some.inj ho
      have l0 := hd ⟨9, .data⟩ (by simp) rfl
      have l1 := hd ⟨7, .data⟩ (by simp) rfl
      obtain ⟨B, h4, h5⟩ := hR.2.2.2
      obtain ⟨e1, e2, e3, e4, e5⟩ := h4 9 (nw 9 0) l0 rfl
      simp only [hl] at e5
      replace e5 : blk v1 (B 9) = nw 9 0 := e5
      have f0 := hF.at (s := 7) (i := 9) (by kernel_rfl) (by simp) l0
      rw [e1] at f0
      have f1 := hF.at (s := 24) (i := 7) (by kernel_rfl) (by simp) l1
      rw [hR.2.1 7 _ l1 rfl] at f1
      exact wp_skip (w' := setBlk v1 (B 9) (nw 9 x)) (by simp [go_sem, f0, f1, e4, e5]) ⟨undef, rfl, RG.store 10 9 (nw 9 0) (nw 9 x) (B 9) hil hl rfl rfl rfl l0 rfl (by rw [nw_size]; decide) e1 (fun k r h => by have := hks k _ r h; omega) hR⟩
    · obtain rfl := Option.some.inj ho
      have l0 := hd ⟨8, .data⟩ (by simp) rfl
      have f0 := hF.at (s := 25) (i := 8) (by kernel_rfl) (by simp) l0
      rw [hR.2.1 8 _ l0 rfl] at f0
      exact wp_val (.int .i64 0) (by simp [go_sem, f0]) ⟨_, rfl, RG.quiet 11 _ hil rfl rfl (fun j k r h => by have := hks j k r h; omega) (Gr.refl _) hR⟩
  case hf =>
    intro listed vals a1 v1 hall hR hF
    have Ha : blk v1 (w.heap.size) = nw 9 a := (blk_of _ _ _ (hR.1.below.block (w.heap.size) (ca.p))).trans (ca.h)
    have pHa : Pre (w.heap.size + 1) v1.heap.size := Nat.le_trans (show w.heap.size + 1 ≤ _ from ca.p) hR.1.below.size
    have Hb : blk v1 (b) = mt m k s f := (blk_of _ _ _ (hR.1.below.block (b) (hT2.lt))).trans (hT2.cells)
    have pHb : Pre (b + 1) v1.heap.size := Nat.le_trans (show b + 1 ≤ _ from hT2.lt) hR.1.below.size
    have Hr : blk v1 (w.heap.size + 1) = nw 9 0 := (blk_of _ _ _ (hR.1.below.block (w.heap.size + 1) (cr.p))).trans (cr.h)
    have pHr : Pre (w.heap.size + 1 + 1) v1.heap.size := Nat.le_trans (show w.heap.size + 1 + 1 ≤ _ from cr.p) hR.1.below.size
    have hV := hR.2.1
    obtain ⟨B, h4, h5⟩ := hR.2.2.2
    have x0 := hV 0 _ (hall 0 (by simp)) rfl
    have x1 := hV 1 _ (hall 1 (by simp)) rfl
    have x2 := hV 2 _ (hall 2 (by simp)) rfl
    have x3 := hV 3 _ (hall 3 (by simp)) rfl
    have x4 := hV 4 _ (hall 4 (by simp)) rfl
    have x5 := hV 5 _ (hall 5 (by simp)) rfl
    have x6 := hV 6 _ (hall 6 (by simp)) rfl
    have x7 := hV 7 _ (hall 7 (by simp)) rfl
    have x8 := hV 8 _ (hall 8 (by simp)) rfl
    have x11 := hV 11 _ (hall 11 (by simp)) rfl
    obtain ⟨x9, q9, p9, z9, y9⟩ := h4 9 _ (hall 9 (by simp)) rfl
    simp only [hall 10 (by simp), if_true] at y9
    replace p9 : Pre (B 9 + 1) v1.heap.size := p9
    replace y9 : blk v1 (B 9) = nw 9 x := y9
    have hb1 := hR.1
    rw [hF.final (by kernel_rfl) hall]
    simp only [putFrom, Act.put, List.setIfInBounds_toArray, List.set_cons_zero, List.set_cons_succ, x0, x1, x2, x3, x4, x5, x6, x7, x8, x11, x9]
    generalize B 9 = b9 at *
    clear hV h4 h5 hR hF hall x0 x1 x2 x3 x4 x5 x6 x7 x8 x11 x9
    have cr1 := cr.gr hb1
    have pr0 : Pre (w.heap.size + 1 + 1) v0.heap.size := cr.p
    have ⟨h1, f1, p1⟩ := cr1
    have G := G0.trans hb1
    clear HV G0 hT2 ca cr cr1 hb1
    have n1 : ¬ b9 = w.heap.size + 1 := by
      intro h
      have := q9
      have h2 : w.heap.size + 1 < v0.heap.size := pr0
      omega
    go_wp2_with (first
      | (go_at_call_of 40 ((#[.pointer (some ⟨b, 0, none⟩), .agg (nw 9 x)] : Array Value)); refine (HR.out _ (G.trans (by repeat (first | exact Gr.refl _ | apply Gr.drewN | apply Gr.drew | apply Gr.alloc | apply Gr.gro)))).mono ?_; rintro e w' ⟨rfl, g2, rfl⟩)
      | (go_at_call_of 40 ((#[.pointer (some ⟨b, 0, none⟩), .agg (nw 9 y)] : Array Value)); refine (HR2.out _ (G.trans (by repeat (first | exact Gr.refl _ | apply Gr.drewN | apply Gr.drew | apply Gr.alloc | apply Gr.gro)))).mono ?_; rintro e w' ⟨rfl, g3, rfl⟩))
    refine bodyPost_ret (res_two Try.results18 (rd_nat (x := r) (by rfl) ?_) (rd_tmp (by rfl))) rfl ⟨rfl, ?_⟩
    · simp [go_sem, *]
    · repeat (first | exact G | apply Gr.drewN | apply Gr.drew | apply Gr.alloc | apply Gr.gro | (refine gr_setNew ?_ (by omega)))

end Go.Proofs.Ytleckbdhebjfkaa
namespace Go.Proofs.Ytleckbdhebjfkaa
open Go.RowKit
attribute [local go_sem ↓] loadNat_is loadArr_is loadWide_is loadArrW_is storeNat_is storeWide_is
attribute [local go_sem] loadNat loadArr loadWide loadArrW storeNat storeWide idxArr fold9 fold18 nw_size nw_elem pre_self pre_1 pre_2 pre_3 pre_4 pre_5 pre_6 pre_7 pre_8 pre_9 pre_10 pre_11 pre_12 pre_13 pre_14 pre_15 pre_16 pre_17 pre_18 pre_19 pre_20 pre_21 pre_22 pre_23 pre_24 pre_25 pre_26 pre_27 pre_28 pre_29 pre_30 pre_31 pre_32 pre_33 pre_34 pre_35 pre_36 pre_37 pre_38 pre_39 pre_40 gro_size gro_drew gro_drewN drew_gro drewN_gro gro_gro blk_gro frz_gro blk_drew frz_drew blk_drewN frz_drewN blk_alloc_at frz_alloc_at blk_alloc frz_alloc cell_gro frozen_gro cell_alloc_pre frozen_alloc_pre setCell_drewN alloc_drewN setBlk_drew setBlk_drewN setBlk_alloc_at setBlk_alloc setBlk_gro setCell_gro setCell_alloc_pre size_setBlk size_setCell
attribute [local go_sem ↓] loadDv_is load19_is storeDv_is store19_is copy_is
attribute [local go_sem] idx18 loadDv load19 storeDv store19 dv_size dv_9 dv_10 dv_e9 dv_e10 dv_elem fold11 fold19 setCell_in cell_in frozen_in frz_setBlk blk_setBlk setBlk_setBlk copy_run cpA_nw ones_nw

attribute [local go_sem ↓] Go.wp_at_zero Go.wp_at_succ buildMt_is
attribute [local go_sem] buildMt blk_other

/-- How many words a number has. -/
def kw (m : Nat) : Nat := (bl m + 63) / 64
theorem kw_facts (m : Nat) (h0 : 0 < m) (hM : m < M) : 0 < kw m ∧ kw m ≤ 9 ∧ m < pw (kw m) := by
  obtain ⟨s, hs⟩ : ∃ s, bl m = s := ⟨_, rfl⟩
  obtain ⟨h1, h2, h3⟩ := bl_facts m s h0 hs
  have h9 : s ≤ 64 * 9 := by rw [← hs]; exact bl_pwk m 9 hM
  unfold kw
  rw [hs]
  refine ⟨by omega, by omega, Nat.lt_of_lt_of_le h2 ?_⟩
  unfold pw
  exact Nat.pow_le_pow_right (by decide) (by omega)
theorem pw_lt (j k : Nat) (h : j < k) : pw j < pw k := Nat.pow_lt_pow_right (by decide) (by omega)
theorem pw_set (k : Nat) : (nw 18 0).setIfInBounds k (Value.int .u64 1) = nw 18 (pw k) := by
  have := nw_set_top 18 0 k 1 (by decide) (pw_pos k)
  rw [Nat.zero_add, Nat.one_mul] at this
  exact this
set_option maxRecDepth 100000 in
set_option maxHeartbeats 800000 in
theorem squareOf_any (k m : Nat) (hk : k ≤ 9) (h0 : 0 < m) (hM : m < M) (w : World) :
    Calls Try.prog 35 #[.int .i64 (k : Int), .agg (nw 9 m)] w fun e w' => e = .returned (.agg (nw 9 (pw k % m * (pw k % m) % m))) ∧ Gr w w' := by
  obtain ⟨r, hr⟩ : ∃ r, pw k % m = r := ⟨_, rfl⟩
  obtain ⟨s, hs⟩ : ∃ s, r * r % m = s := ⟨_, rfl⟩
  have hrm : r < m := by rw [← hr]; exact Nat.mod_lt _ h0
  have hp : pw k < pw 18 := pw_lt k 18 (by omega)
  have HM : Hid (∀ w, Calls Try.prog 53 #[.agg (nw 18 (pw k)), .agg (nw 9 m)] w fun e w' => e = .returned (.tuple #[.agg (nw 9 r), .int .i64 0]) ∧ Gr w w') := fun w => hr ▸ mod_any (pw k) m h0 hM hp w
  have HS : Hid (∀ w, Calls Try.prog 29 #[.agg (nw 9 r), .agg (nw 9 r), .agg (nw 9 m)] w fun e w' => e = .returned (.tuple #[.agg (nw 9 s), .int .i64 0]) ∧ Gr w w') := fun w => hs ▸ mulMod_any r r m (by omega) (by omega) h0 hM w
  have hset := pw_set k
  have hg := nw_get 18 0 k (by omega)
  have k0 : (0 : Int) ≤ (k : Int) := by omega
  have k1 : (k : Int) < 18 := by omega
  rw [hr, hs]
  obtain ⟨R, hR⟩ : ∃ R, pw k = R := ⟨_, rfl⟩
  rw [hR] at hset
  have HM' : Hid (∀ w, Calls Try.prog 53 #[.agg (nw 18 R), .agg (nw 9 m)] w fun e w' => e = .returned (.tuple #[.agg (nw 9 r), .int .i64 0]) ∧ Gr w w') := hR ▸ HM.out
  clear HM hR hr hs hrm hp hk h0 hM
  go_enter Try.func35, Try.ntmps35
  go_wp2_with (first
    | (go_at_call 53; refine (HM'.out _).mono ?_; rintro e w' ⟨rfl, g1, rfl⟩)
    | (go_at_call 29; refine (HS.out _).mono ?_; rintro e w' ⟨rfl, g2, rfl⟩))
  refine bodyPost_ret (res_one Try.results35 (rd_nat (x := s) (by rfl) ?_)) rfl ⟨rfl, (by repeat (first | exact Gr.refl _ | apply Gr.drewN | apply Gr.drew | apply Gr.alloc | apply Gr.gro))⟩
  simp [go_sem]

theorem bit0 (m : Nat) (w : World) : Calls Try.prog 31 #[.agg (nw 9 m), .int .i64 0] w fun e w' => e = .returned (.int .i64 ((m % 2 : Nat) : Int)) ∧ Gr w w' := by
  have := bit_any m 0 (by decide) w
  unfold bitN at this
  rw [Nat.pow_zero, Nat.div_one] at this
  exact this
set_option maxRecDepth 100000 in
set_option maxHeartbeats 800000 in
theorem New_no (m : Nat) (hM : m < M) (h : m % 2 = 0 ∨ m < 3) (w : World) :
    Calls Try.prog 8 #[.agg (nw 9 m)] w fun e w' => e = .returned (.tuple #[.pointer none, .int .i64 600]) ∧ Gr w w' := by
  have HS : Hid (∀ w, Calls Try.prog 33 #[.int .i64 3] w fun e w' => e = .returned (.agg (nw 9 3)) ∧ Gr w w') := fun w => small_any 3 (by decide) w
  by_cases h2 : m % 2 = 0
  · have HB : Hid (∀ w, Calls Try.prog 31 #[.agg (nw 9 m), .int .i64 0] w fun e w' => e = .returned (.int .i64 0) ∧ Gr w w') := fun w => by
      have := bit0 m w
      rw [h2] at this
      exact this
    clear h h2 hM HS
    go_enter Try.func8, Try.ntmps8
    go_wp2_with fail
    go_region_with (go_at_call 31; refine (HB.out _).mono ?_; rintro e w' ⟨rfl, g1, rfl⟩)
    all_goals
      go_wp2_with fail
      exact bodyPost_ret (res_two Try.results8 (rd_tmp (by rfl)) (rd_tmp (by rfl))) rfl ⟨rfl, (by repeat (first | exact Gr.refl _ | apply Gr.drewN | apply Gr.drew | apply Gr.alloc | apply Gr.gro))⟩
  · have HB : Hid (∀ w, Calls Try.prog 31 #[.agg (nw 9 m), .int .i64 0] w fun e w' => e = .returned (.int .i64 1) ∧ Gr w w') := fun w => by
      have := bit0 m w
      rw [show m % 2 = 1 by omega] at this
      exact this
    have HC : Hid (∀ w, Calls Try.prog 32 #[.agg (nw 9 m), .agg (nw 9 3)] w fun e w' => e = .returned (.int .i64 (-1)) ∧ Gr w w') := fun w => by
      have := cmp_any m 3 hM (lt_M 3 (by decide)) w
      unfold cmpZ at this
      rw [if_pos (show m < 3 by omega)] at this
      exact this
    clear h h2 hM
    go_enter Try.func8, Try.ntmps8
    go_wp2_with fail
    go_region_with (first
      | (go_at_call 31; refine (HB.out _).mono ?_; rintro e w' ⟨rfl, g1, rfl⟩)
      | (go_at_call 33; refine (HS.out _).mono ?_; rintro e w' ⟨rfl, g2, rfl⟩)
      | (go_at_call 32; refine (HC.out _).mono ?_; rintro e w' ⟨rfl, g3, rfl⟩))
    all_goals
      go_wp2_with fail
      exact bodyPost_ret (res_two Try.results8 (rd_tmp (by rfl)) (rd_tmp (by rfl))) rfl ⟨rfl, (by repeat (first | exact Gr.refl _ | apply Gr.drewN | apply Gr.drew | apply Gr.alloc | apply Gr.gro))⟩

theorem wrap_neg (x f : Nat) (hf : (f : Int) = (-(x : Int)) % 18446744073709551616) : IntKind.u64.wrap (-(x : Int)) = (f : Int) := by rw [IntKind.wrap_u64, hf]
set_option maxRecDepth 100000 in
set_option maxHeartbeats 1600000 in
theorem New_ok (m : Nat) (h2 : m % 2 = 1) (h3 : 3 ≤ m) (hM : m < M) :
    ∃ u, Mo m (kw m) u ∧ ∀ w, Calls Try.prog 8 #[.agg (nw 9 m)] w fun e w' => ∃ b, e = .returned (.tuple #[.pointer (some ⟨b, 0, none⟩), .int .i64 0]) ∧ Mn w' b m (kw m) u ∧ Gr w w' := by
  obtain ⟨k1, k9, hlt⟩ := kw_facts m (by omega) hM
  obtain ⟨u, hu⟩ := Mo.ex h2 h3 hlt k1 k9
  refine ⟨u, hu, fun w => ?_⟩
  have hw0 : wd m 0 % 2 = 1 := by
    unfold wd
    rw [pw_zero, Nat.div_one]
    omega
  obtain ⟨x, hx, HX0⟩ := inverseOf_any (wd m 0) (wd_lt m 0) hw0
  obtain ⟨f, hf⟩ := Int.eq_ofNat_of_zero_le (Int.emod_nonneg (-(x : Int)) (show (18446744073709551616 : Int) ≠ 0 by decide))
  have hfac : Fac m f := fac_of m (wd m 0) x f (by unfold wd; rw [pw_zero, Nat.div_one]) hx.2 hf.symm
  have hneg := wrap_neg x f hf.symm
  obtain ⟨k, hk⟩ : ∃ k, kw m = k := ⟨_, rfl⟩
  rw [hk] at hu k1 k9 hlt ⊢
  obtain ⟨s, hs⟩ : ∃ s, pw k % m * (pw k % m) % m = s := ⟨_, rfl⟩
  obtain ⟨q, hq⟩ : ∃ q, bl m = q := ⟨_, rfl⟩
  have hkq : k = (q + 63) / 64 := by rw [← hk, ← hq]; rfl
  have q9 : q ≤ 576 := by rw [← hq]; exact bl_pwk m 9 hM
  have HB : Hid (∀ w, Calls Try.prog 31 #[.agg (nw 9 m), .int .i64 0] w fun e w' => e = .returned (.int .i64 1) ∧ Gr w w') := fun w => by
    have := bit0 m w
    rw [h2] at this
    exact this
  obtain ⟨z, hz⟩ : ∃ z, cmpZ m 3 = z := ⟨_, rfl⟩
  have z0 : 0 ≤ z := by rw [← hz]; unfold cmpZ; rw [if_neg (by omega)]; split <;> decide
  have zb : decide (z < 0) = false := decide_eq_false (by omega)
  have HC : Hid (∀ w, Calls Try.prog 32 #[.agg (nw 9 m), .agg (nw 9 3)] w fun e w' => e = .returned (.int .i64 z) ∧ Gr w w') := fun w => hz ▸ cmp_any m 3 hM (lt_M 3 (by decide)) w
  have HS : Hid (∀ w, Calls Try.prog 33 #[.int .i64 3] w fun e w' => e = .returned (.agg (nw 9 3)) ∧ Gr w w') := fun w => small_any 3 (by decide) w
  have HL : Hid (∀ w, Calls Try.prog 34 #[.agg (nw 9 m)] w fun e w' => e = .returned (.int .i64 (q : Int)) ∧ Gr w w') := fun w => hq ▸ bits_any m hM w
  have HQ : Hid (∀ w, Calls Try.prog 35 #[.int .i64 (k : Int), .agg (nw 9 m)] w fun e w' => e = .returned (.agg (nw 9 s)) ∧ Gr w w') := fun w => hs ▸ squareOf_any k m k9 (by omega) hM w
  have HX : Hid (∀ w, Calls Try.prog 36 #[.int .u64 ((wd m 0 : Nat) : Int)] w fun e w' => e = .returned (.int .u64 (x : Int)) ∧ Gr w w') := fun w => (HX0 w).mono fun e w' h => ⟨h.1, by rw [h.2]; exact Gr.refl _⟩
  have HMt : Hid (∀ w' b, Pre (b + 1) w'.heap.size → blk w' b = mt m k s f → Mn w' b m k u) := fun w' b h4 h5 => ⟨s, f, ⟨h4, h5⟩, hu, hfac, hs.symm⟩
  obtain ⟨p, hp⟩ : ∃ p, q + 63 = p := ⟨_, rfl⟩
  have s1 : (q : Int) + 64 - 1 = (p : Int) := by omega
  have s2 : (p : Int).tdiv 64 = (k : Int) := by rw [Int.tdiv_eq_ediv_of_nonneg (by omega)]; omega
  have s3 : (p : Int) / 64 = (k : Int) := by omega
  have q0 : (0 : Int) ≤ (q : Int) := by omega
  have q1 : (q : Int) ≤ 576 := by omega
  have k0 : (0 : Int) ≤ (k : Int) := by omega
  have hg := nw_get 9 m 0 (by decide)
  clear hp hkq q9 hq hs hk hfac hx HX0 hw0 hu hlt k1 k9 h2 h3 hM hz
  clear hf
  go_enter Try.func8, Try.ntmps8
  go_upto_region 1 with fail
  go_cut [13] from 5 to 12 (fun a13 wx => a13 = .bool false ∧ Hid (Gr w wx ∧ Cl wx w.heap.size m))
  case first =>
    go_region_with (first
      | (go_at_call 31; refine (HB.out _).mono ?_; rintro e w' ⟨rfl, g1, rfl⟩)
      | (go_at_call 33; refine (HS.out _).mono ?_; rintro e w' ⟨rfl, g2, rfl⟩)
      | (go_at_call 32; refine (HC.out _).mono ?_; rintro e w' ⟨rfl, g3, rfl⟩))
    all_goals
      go_wp2_with fail
      go_meet
      exact ⟨rfl, (by repeat (first | exact Gr.refl _ | apply Gr.drewN | apply Gr.drew | apply Gr.alloc | apply Gr.gro)), ⟨by simp [go_sem], by simp [go_sem], by simp [go_sem]⟩⟩
  case rest =>
    obtain ⟨rfl, HV⟩ := hcut
    have ⟨G, h1, f1, p1⟩ := HV.out
    go_upto_region 4 with (go_at_call 34; refine (HL.out _).mono ?_; rintro e w' ⟨rfl, g4, rfl⟩)
    refine gen_w (fun v => Hid (Gr w v ∧ Cl v w.heap.size m)) ⟨G.trans (by repeat (first | exact Gr.refl _ | apply Gr.drewN | apply Gr.drew | apply Gr.alloc | apply Gr.gro)), Cl.gr ⟨h1, f1, p1⟩ (by repeat (first | exact Gr.refl _ | apply Gr.drewN | apply Gr.drew | apply Gr.alloc | apply Gr.gro))⟩ ?_
    clear HV G h1 f1 p1
    intro v HV
    have ⟨G, h1, f1, p1⟩ := HV.out
    have c0 : v.cell? ⟨w.heap.size, 0, none⟩ = some (.int .u64 ((wd m 0 : Nat) : Int)) := by rw [cell_blk, h1]; exact hg
    have c1 : v.drew.cell? ⟨w.heap.size, 0, none⟩ = some (.int .u64 ((wd m 0 : Nat) : Int)) := c0
    have pd : Pre (w.heap.size + 1) v.drew.heap.size := p1
    go_region_with (first
      | (go_at_call 35; refine (HQ.out _).mono ?_; rintro e w' ⟨rfl, g5, rfl⟩)
      | (go_at_call 36; refine (HX.out _).mono ?_; rintro e w' ⟨rfl, g6, rfl⟩))
    all_goals
      go_wp2_with fail
      refine bodyPost_ret (res_two Try.results8 (rd_tmp (by rfl)) (rd_tmp (by rfl))) rfl ⟨_, rfl, HMt.out _ _ ?_ ?_, G.trans (by repeat (first | exact Gr.refl _ | apply Gr.drewN | apply Gr.drew | apply Gr.alloc | apply Gr.gro))⟩
      · simp [go_sem]
      · simp [go_sem]
        rfl

end Go.Proofs.Ytleckbdhebjfkaa
