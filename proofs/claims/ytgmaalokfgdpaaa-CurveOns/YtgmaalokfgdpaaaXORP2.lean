import Derived.Deep.AppendSrc
import Derived.Test.YtgmaalokfgdpaaaXORAddM
import Derived.Test.YtgmaalokfgdpaaaXONumO
import Derived.Test.YtgmaalokfgdpaaaXOIX
import Derived.Test.YtgmaalokfgdpaaaXORSub
import Derived.Test.YtgmaalokfgdpaaaXOSmC
namespace Go.Proofs.Ytgmaalokfgdpaaa
open Go.RowKit
attribute [local go_sem ↓] loadNat_is loadArr_is loadWide_is loadArrW_is storeNat_is storeWide_is
attribute [local go_sem] loadNat loadArr loadWide loadArrW storeNat storeWide idxArr fold9 fold18 nw_size nw_elem pre_self pre_1 pre_2 pre_3 pre_4 pre_5 pre_6 pre_7 pre_8 pre_9 pre_10 pre_11 pre_12 pre_13 pre_14 pre_15 pre_16 pre_17 pre_18 pre_19 pre_20 pre_21 pre_22 pre_23 pre_24 pre_25 pre_26 pre_27 pre_28 pre_29 pre_30 pre_31 pre_32 pre_33 pre_34 pre_35 pre_36 pre_37 pre_38 pre_39 pre_40 gro_size gro_drew gro_drewN drew_gro drewN_gro gro_gro blk_gro frz_gro blk_drew frz_drew blk_drewN frz_drewN blk_alloc_at frz_alloc_at blk_alloc frz_alloc cell_gro frozen_gro cell_alloc_pre frozen_alloc_pre setCell_drewN alloc_drewN setBlk_drew setBlk_drewN setBlk_alloc_at setBlk_alloc setBlk_gro setCell_gro setCell_alloc_pre size_setBlk size_setCell
attribute [local go_sem ↓] bsl_is
/-- append of one row of digits to another, shut. -/
def appS (ty : TypeId) (xs : Array Value) : Sem Value := Builtin.append_ #[34, 34] ty xs
theorem app_is (ty : TypeId) (xs : Array Value) : Builtin.append_ #[34, 34] ty xs = appS ty xs := rfl
theorem subM_is (t c m : Nat) (ht : t < m) (hc : c < m) : subM t c m < m ∧ ∃ k : Int, (subM t c m : Int) = t - c + k * m := by
  unfold subM
  split
  · exact ⟨by omega, 0, by omega⟩
  · exact ⟨by omega, 1, by omega⟩
structure RI (a m r s t u : Nat) : Prop where
  rm : r ≤ m
  sm : s ≤ m
  tm : t < m
  um : u < m
  d1 : (m : Int) ∣ (a : Int) * t - r
  d2 : (m : Int) ∣ (a : Int) * u - s
  g : Nat.gcd r s = Nat.gcd m a
theorem RI.start (a m : Nat) (h : 1 < m) : RI a m m (a % m) 0 1 := by
  refine ⟨Nat.le_refl _, Nat.le_of_lt (Nat.mod_lt _ (by omega)), by omega, h, ⟨-1, by simp⟩, ⟨((a / m : Nat) : Int), ?_⟩, ?_⟩
  · have h1 := Nat.div_add_mod a m
    obtain ⟨q, hq⟩ : ∃ q, a / m = q := ⟨_, rfl⟩
    obtain ⟨v, hv⟩ : ∃ q, a % m = q := ⟨_, rfl⟩
    rw [hq, hv] at h1 ⊢
    have h2 : (m : Int) * q + v = a := by exact_mod_cast h1
    rw [← h2]
    grind
  · rw [Nat.gcd_comm, ← Nat.gcd_rec]
theorem RI.step {a m r s t u : Nat} (h : RI a m r s t u) (h0 : 0 < s) (q v c x : Nat) (hq : r / s = q) (hv : r % s = v) (hc : q % m * u % m = c) (hx : subM t c m = x) : RI a m s v u x ∧ v < s := by
  have hm : 0 < m := by have := h.tm; omega
  have hvs : v < s := by rw [← hv]; exact Nat.mod_lt _ h0
  have hcm : c < m := by rw [← hc]; exact Nat.mod_lt _ hm
  obtain ⟨h1, k, h2⟩ := subM_is t c m h.tm hcm
  rw [hx] at h1 h2
  refine ⟨⟨h.sm, by have := h.sm; omega, h.um, h1, h.d2, ?_, ?_⟩, hvs⟩
  · obtain ⟨c1, e1⟩ := h.d1
    obtain ⟨c2, e2⟩ := h.d2
    have h3 := Nat.div_add_mod r s
    rw [hq, hv] at h3
    have h4 : (s : Int) * q + v = r := by exact_mod_cast h3
    rw [pow_mul] at hc
    have h5 := Nat.div_add_mod (q * u) m
    rw [hc] at h5
    obtain ⟨k', hk⟩ : ∃ k', q * u / m = k' := ⟨_, rfl⟩
    rw [hk] at h5
    have h6 : (m : Int) * k' + c = q * u := by exact_mod_cast h5
    refine ⟨c1 - q * c2 + a * k' + a * k, ?_⟩
    rw [h2]
    grind
  · rw [← h.g, ← hv, Nat.gcd_comm, ← Nat.gcd_rec, Nat.gcd_comm]
theorem RI.last {a m r t u : Nat} (h : RI a m r 0 t u) (h1 : 1 < m) : r = Nat.gcd m a ∧ 0 < r ∧ (r = 1 → a * t % m = 1) := by
  have hg := h.g
  rw [Nat.gcd_zero_right] at hg
  have hp : 0 < Nat.gcd m a := Nat.gcd_pos_of_pos_left _ (by omega)
  refine ⟨hg, by omega, fun e => ?_⟩
  obtain ⟨c, hc⟩ := h.d1
  rw [e] at hc
  obtain ⟨k, hk⟩ := inv_pos (a * t) m c h1 (by rw [← hc]; simp)
  rw [hk, Nat.add_mul_mod_self_left, Nat.mod_eq_of_lt h1]
attribute [local go_sem ↓] app_is
end Go.Proofs.Ytgmaalokfgdpaaa
namespace Go.Proofs.Ytgmaalokfgdpaaa
open Go.RowKit
section
variable {a b m c n n' n'' : Nat} {p q r : Option Addr} {w : World}
theorem mm_any (sa : Sl w p a) (sb : Sl w q b) (sm : Sl w r m) (ha : a < m) (hb : b < m) (hm : dl m ≤ 400) (hc : a * b % m = c) :
    Calls Try.prog 27 #[.slice p (dl a) n, .slice q (dl b) n', .slice r (dl m) n''] w (Rt (.n c) w) :=
  Rt.n (hc ▸ rmulmod_any a b m n n' n'' p q r w sa sb sm (dl_low a m 400 (by omega) hm) (dl_low b m 400 (by omega) hm) hm (by omega))
theorem am_any (sa : Sl w p a) (sb : Sl w q b) (sm : Sl w r m) (ha : a < m) (hb : b < m) (hm : dl m ≤ 400) (hc : (a + b) % m = c) :
    Calls Try.prog 28 #[.slice p (dl a) n, .slice q (dl b) n', .slice r (dl m) n''] w (Rt (.n c) w) :=
  Rt.n (hc ▸ raddmod_any a b m n n' n'' p q r w sa sb sm hm ha hb)
theorem cz_any {z : Int} (sa : Sl w p a) (sb : Sl w q b) (ha : dl a ≤ 400) (hb : dl b ≤ 400) (hz : cmpZ a b = z) :
    Calls Try.prog 26 #[.slice p (dl a) n, .slice q (dl b) n'] w (Rt (.c (.int .i64 z)) w) :=
  Rt.c (hz ▸ rcmp_any a b n n' p q w sa sb (by omega) (by omega))
theorem fm_any (ha : a < M) : Calls Try.prog 20 #[.agg (nw 9 a)] w (Rt (.n a) w) := Rt.n (from_any a ha w)
end
end Go.Proofs.Ytgmaalokfgdpaaa
namespace Go.Proofs.Ytgmaalokfgdpaaa
open Go.RowKit
section
variable (p : Option Addr) (x n : Nat) (q : Option Addr) (y m : Nat) (f : Bool)
theorem ptA_size : (ptA p x n q y m f).size = 3 := rfl
theorem ptA_one : (ptA p x n q y m f).all (·.oneCell') = true := by simp [ptA, Value.oneCell']
theorem loadPt_is (v : Value) : Instr.loadAt 49 v = loadS 49 v := rfl
theorem storePt_is (p v : Value) : Instr.storeAt 49 p v = storeS 49 p v := rfl
theorem loadPt (w : World) (b : Nat) (hs : (blk w b).size = 3) : (loadS 49 (.pointer (some ⟨b, 0, none⟩))).run Try.prog w = .ok (.agg (blk w b)) w :=
  loadS_run 3 Try.underlying49 rfl (by kernel_rfl) w b hs
theorem storePt (w : World) (b : Nat) (hs : (blk w b).size = 3) (hf : frz w b = (0, 0)) : (storeS 49 (.pointer (some ⟨b, 0, none⟩)) (.agg (ptA p x n q y m f))).run Try.prog w = .ok () (setBlk w b (ptA p x n q y m f)) :=
  storeS_run 3 (by decide) (by kernel_rfl) w b _ (ptA_size p x n q y m f) (ptA_one p x n q y m f) hs hf
theorem zvPt_is : zeroValue 49 = zvS 49 := rfl
theorem zvPt (w : World) : (zvS 49).run Try.prog w = .ok (.agg (ptA none 0 0 none 0 0 false)) w := by kernel_rfl
theorem buildPt_is (p : Array (Nat × Value)) : Instr.build 49 p = buildF 49 p := rfl
theorem buildPt3 (w : World) : (buildF 49 #[(0, .slice p (dl x) n), (1, .slice q (dl y) m), (2, .bool f)]).run Try.prog w = .ok (.agg (ptA p x n q y m f)) w := by kernel_rfl
theorem buildPt2 (w : World) : (buildF 49 #[(0, .slice p (dl x) n), (1, .slice q (dl y) m)]).run Try.prog w = .ok (.agg (ptA p x n q y m false)) w := by kernel_rfl
theorem buildPtI (w : World) : (buildF 49 #[(2, .bool f)]).run Try.prog w = .ok (.agg (ptA none 0 0 none 0 0 f)) w := by kernel_rfl
theorem rd_pt {tmps : Array Value} {t : Tmp} {w : World} {b : Nat} (h : tmps.getD t undef = .pointer (some ⟨b, 0, none⟩)) (hc : blk w b = ptA p x n q y m f) : (readR tmps (.cell t 49)).run Try.prog w = .ok (.agg (ptA p x n q y m f)) w :=
  rd_cell 3 Try.underlying49 rfl (by kernel_rfl) h hc (ptA_size p x n q y m f)
theorem ptA_no (i : Nat) (z : Int) : (ptA p x n q y m f)[i]? ≠ some (Value.int .u32 z) := by
  intro h
  match i, h with
  | 0, h => simp [ptA] at h
  | 1, h => simp [ptA] at h
  | 2, h => simp [ptA] at h
  | k + 3, h => simp [ptA] at h
end
theorem crA_size (id : Int) (x : Nat → Nat) (q : Nat → Option Addr × Nat) : (crA id x q).size = 7 := rfl

end Go.Proofs.Ytgmaalokfgdpaaa
namespace Go.Proofs.Ytgmaalokfgdpaaa
open Go.RowKit
attribute [local go_sem ↓] loadNat_is loadArr_is loadWide_is loadArrW_is storeNat_is storeWide_is
attribute [local go_sem] loadNat loadArr loadWide loadArrW storeNat storeWide idxArr fold9 fold18 nw_size nw_elem pre_self pre_1 pre_2 pre_3 pre_4 pre_5 pre_6 pre_7 pre_8 pre_9 pre_10 pre_11 pre_12 pre_13 pre_14 pre_15 pre_16 pre_17 pre_18 pre_19 pre_20 pre_21 pre_22 pre_23 pre_24 pre_25 pre_26 pre_27 pre_28 pre_29 pre_30 pre_31 pre_32 pre_33 pre_34 pre_35 pre_36 pre_37 pre_38 pre_39 pre_40 gro_size gro_drew gro_drewN drew_gro drewN_gro gro_gro blk_gro frz_gro blk_drew frz_drew blk_drewN frz_drewN blk_alloc_at frz_alloc_at blk_alloc frz_alloc cell_gro frozen_gro cell_alloc_pre frozen_alloc_pre setCell_drewN alloc_drewN setBlk_drew setBlk_drewN setBlk_alloc_at setBlk_alloc setBlk_gro setCell_gro setCell_alloc_pre size_setBlk size_setCell
attribute [local go_sem ↓] loadPt_is storePt_is zvPt_is buildPt_is loadC_is loadPn_is loadCu_is storePn_is zvPn_is buildPn_is storeCu_is zvCu_is buildCu_is Go.wp_at_zero Go.wp_at_succ
attribute [local go_sem] loadPt storePt zvPt buildPt3 buildPt2 buildPtI ptA_size crA_size loadC loadPn loadPX loadPY pnt_size pnt_X pnt_Y storePn zvPn buildPn2 buildPn3 storeCu zvCu buildCu9 cu_size loadCu
theorem dl_nought (x : Nat) : ((dl x : Int) == 0) = decide (x = 0) := by
  by_cases h : x = 0
  · subst h; rfl
  · have : dl x ≠ 0 := fun e => h (dl_eq_zero x e)
    rw [decide_eq_false h, beq_eq_false_iff_ne]
    omega
theorem cmpZ_nought (a b : Nat) : (cmpZ a b == 0) = decide (a = b) := by
  unfold cmpZ
  by_cases h : a < b
  · rw [if_pos h, decide_eq_false (by omega)]; rfl
  · by_cases h2 : b < a
    · rw [if_neg h, if_pos h2, decide_eq_false (by omega)]; rfl
    · rw [if_neg h, if_neg h2, decide_eq_true (by omega)]; rfl
set_option maxRecDepth 100000 in
set_option maxHeartbeats 1600000 in
theorem rin_any (x y : Nat) (f : Bool) (hx : x < M) (hy : y < M) (w : World) :
    Calls Try.prog 18 #[.agg (pnt x y f)] w (Rt (.pt x y f) w) := by
  go_enter Try.func18, Try.ntmps18
  go_upto_region 1 with fail
  refine gen_w (fun v => Gr w v ∧ Vr v (w.heap.size) (pnt x y f) ∧ Vr v (w.heap.size + 1) (ptA none 0 0 none 0 0 false)) ⟨(by repeat (first | exact Gr.refl _ | apply Gr.drewN | apply Gr.drew | apply Gr.alloc | apply Gr.gro)), ⟨by simp [go_sem], by simp [go_sem], by simp [go_sem]⟩, ⟨by simp [go_sem], by simp [go_sem], by simp [go_sem]⟩⟩ ?_
  rintro v0 ⟨G, c1, c2⟩
  refine wp_region_qT (by kernel_rfl) (by kernel_rfl) 9 (by kernel_rfl) [.c (.pointer (some ⟨w.heap.size, 0, none⟩)), .c (.agg (nw 9 x)), .n (x), .c (.pointer (some ⟨w.heap.size, 9, none⟩)), .c (.agg (nw 9 y)), .n (y), .c (.pointer (some ⟨w.heap.size, 18, none⟩)), .c (.bool f), .pt (x) (y) f] ?hs ?hf
  case hs =>
    intro listed vals a1 v1 io oo hg zR zF zo zi zD
    have Hc1 : blk v1 (w.heap.size) = pnt x y f := (hg.blk _ c1.p).trans c1.h
    have Kc1_18 : v1.cell? ⟨w.heap.size, 18, none⟩ = some (.bool f) := by rw [cell_blk, Hc1]; exact pnt_18 _ _ _
    obtain rfl | rfl | rfl | rfl | rfl | rfl | rfl | rfl | rfl : io = 0 ∨ io = 1 ∨ io = 2 ∨ io = 3 ∨ io = 4 ∨ io = 5 ∨ io = 6 ∨ io = 7 ∨ io = 8 := by omega
    · obtain rfl := Option.some.inj zo
      have f0 := zF.old (s := 1) (v := .pointer (some ⟨w.heap.size, 0, none⟩)) (by kernel_rfl) rfl
      refine Or.inl ⟨wanted_no rfl, ?_⟩
      exact wp_val (.pointer (some ⟨w.heap.size, 0, none⟩)) (by simp [go_sem, f0]) ⟨_, rfl, Gr.refl _, rfl⟩
    · obtain rfl := Option.some.inj zo
      have l0 := on_of zD 0 (by kernel_rfl)
      have f0 := zF.at (s := 3) (i := 0) (by kernel_rfl) (by simp) l0
      have e0 : vals 0 = .pointer (some ⟨w.heap.size, 0, none⟩) := zR 0 l0
      rw [e0] at f0
      refine Or.inl ⟨wanted_no rfl, ?_⟩
      exact wp_val (.agg (nw 9 x)) (by simp [go_sem, f0, Hc1]) ⟨_, rfl, Gr.refl _, rfl⟩
    · obtain rfl := Option.some.inj zo
      have l0 := on_of zD 1 (by kernel_rfl)
      have f0 := zF.at (s := 4) (i := 1) (by kernel_rfl) (by simp) l0
      have e0 : vals 1 = .agg (nw 9 x) := zR 1 l0
      rw [e0] at f0
      refine Or.inl ⟨wanted_no rfl, ?_⟩
      exact wp_retz (k := .n (x)) (by simp [go_sem, f0]) (show Calls Try.prog 20 #[.agg (nw 9 x)] v1 (Rt (.n (x)) v1) from fm_any hx) (fun u w2 hu hg2 => ⟨_, rfl, hg2, hu⟩)
    · obtain rfl := Option.some.inj zo
      have f0 := zF.old (s := 1) (v := .pointer (some ⟨w.heap.size, 0, none⟩)) (by kernel_rfl) rfl
      refine Or.inl ⟨wanted_no rfl, ?_⟩
      exact wp_val (.pointer (some ⟨w.heap.size, 9, none⟩)) (by simp [go_sem, f0]) ⟨_, rfl, Gr.refl _, rfl⟩
    · obtain rfl := Option.some.inj zo
      have l0 := on_of zD 3 (by kernel_rfl)
      have f0 := zF.at (s := 6) (i := 3) (by kernel_rfl) (by simp) l0
      have e0 : vals 3 = .pointer (some ⟨w.heap.size, 9, none⟩) := zR 3 l0
      rw [e0] at f0
      refine Or.inl ⟨wanted_no rfl, ?_⟩
      exact wp_val (.agg (nw 9 y)) (by simp [go_sem, f0, Hc1]) ⟨_, rfl, Gr.refl _, rfl⟩
    · obtain rfl := Option.some.inj zo
      have l0 := on_of zD 4 (by kernel_rfl)
      have f0 := zF.at (s := 7) (i := 4) (by kernel_rfl) (by simp) l0
      have e0 : vals 4 = .agg (nw 9 y) := zR 4 l0
      rw [e0] at f0
      refine Or.inl ⟨wanted_no rfl, ?_⟩
      exact wp_retz (k := .n (y)) (by simp [go_sem, f0]) (show Calls Try.prog 20 #[.agg (nw 9 y)] v1 (Rt (.n (y)) v1) from fm_any hy) (fun u w2 hu hg2 => ⟨_, rfl, hg2, hu⟩)
    · obtain rfl := Option.some.inj zo
      have f0 := zF.old (s := 1) (v := .pointer (some ⟨w.heap.size, 0, none⟩)) (by kernel_rfl) rfl
      refine Or.inl ⟨wanted_no rfl, ?_⟩
      exact wp_val (.pointer (some ⟨w.heap.size, 18, none⟩)) (by simp [go_sem, f0]) ⟨_, rfl, Gr.refl _, rfl⟩
    · obtain rfl := Option.some.inj zo
      have l0 := on_of zD 6 (by kernel_rfl)
      have f0 := zF.at (s := 9) (i := 6) (by kernel_rfl) (by simp) l0
      have e0 : vals 6 = .pointer (some ⟨w.heap.size, 18, none⟩) := zR 6 l0
      rw [e0] at f0
      refine Or.inl ⟨wanted_no rfl, ?_⟩
      exact wp_val (.bool f) (by simp [go_sem, f0, Kc1_18]) ⟨_, rfl, Gr.refl _, rfl⟩
    · obtain rfl := Option.some.inj zo
      have l0 := on_of zD 2 (by kernel_rfl)
      have f0 := zF.at (s := 5) (i := 2) (by kernel_rfl) (by simp) l0
      obtain ⟨p0, n0, e0, S0⟩ := (show ∃ p n, vals 2 = .slice p (dl (x)) n ∧ Sl v1 p (x) from zR 2 l0)
      rw [e0] at f0
      have l1 := on_of zD 5 (by kernel_rfl)
      have f1 := zF.at (s := 8) (i := 5) (by kernel_rfl) (by simp) l1
      obtain ⟨p1, n1, e1, S1⟩ := (show ∃ p n, vals 5 = .slice p (dl (y)) n ∧ Sl v1 p (y) from zR 5 l1)
      rw [e1] at f1
      have l2 := on_of zD 7 (by kernel_rfl)
      have f2 := zF.at (s := 10) (i := 7) (by kernel_rfl) (by simp) l2
      have e2 : vals 7 = .bool f := zR 7 l2
      rw [e2] at f2
      refine Or.inl ⟨wanted_no rfl, ?_⟩
      exact wp_val (.agg (ptA p0 (x) n0 p1 (y) n1 f)) (by simp [go_sem, f0, f1, f2]) ⟨_, rfl, Gr.refl _, ⟨_, _, _, _, rfl, S0, S1⟩⟩
  case hf =>
    intro listed vals a1 v1 oo hg zR zF zA zo
    obtain rfl := Option.some.inj zo
    have f0 := zF.old (s := 2) (v := .pointer (some ⟨w.heap.size + 1, 0, none⟩)) (by kernel_rfl) rfl
    have l1_8 := zA 8 (by decide)
    have f1_8 := zF.at (s := 11) (i := 8) (by kernel_rfl) (by simp) l1_8
    obtain ⟨p1_8, n1_8, q1_8, k1_8, e1_8, S1_8, T1_8⟩ := (show ∃ p n q k, vals 8 = .agg (ptA p (x) n q (y) k f) ∧ Sl v1 p (x) ∧ Sl v1 q (y) from zR 8 (by decide))
    rw [e1_8] at f1_8
    have HT := (c2.gr hg).h
    have FT := (c2.gr hg).f
    refine wp_skip (w' := setBlk v1 (w.heap.size + 1) (ptA p1_8 (x) n1_8 q1_8 (y) k1_8 f)) (by simp [go_sem, f0, f1_8, HT, FT]) ⟨rfl, ?_⟩
    have e1_0 : vals 0 = .pointer (some ⟨w.heap.size, 0, none⟩) := zR 0 (by decide)
    have e1_1 : vals 1 = .agg (nw 9 x) := zR 1 (by decide)
    obtain ⟨p1_2, n1_2, e1_2, S1_2⟩ := (show ∃ p n, vals 2 = .slice p (dl (x)) n ∧ Sl v1 p (x) from zR 2 (by decide))
    have e1_3 : vals 3 = .pointer (some ⟨w.heap.size, 9, none⟩) := zR 3 (by decide)
    have e1_4 : vals 4 = .agg (nw 9 y) := zR 4 (by decide)
    obtain ⟨p1_5, n1_5, e1_5, S1_5⟩ := (show ∃ p n, vals 5 = .slice p (dl (y)) n ∧ Sl v1 p (y) from zR 5 (by decide))
    have e1_6 : vals 6 = .pointer (some ⟨w.heap.size, 18, none⟩) := zR 6 (by decide)
    have e1_7 : vals 7 = .bool f := zR 7 (by decide)
    simp only [putFrom, Act.put, List.setIfInBounds_toArray, List.set_cons_zero, List.set_cons_succ, e1_0, e1_1, e1_2, e1_3, e1_4, e1_5, e1_6, e1_7, e1_8]
    clear zR zF zA e1_0 e1_1 e1_2 e1_3 e1_4 e1_5 e1_6 e1_7 e1_8
    replace G := G.trans hg
    replace c1 := c1.gr hg
    replace c2 := c2.gr hg
    clear hg
    go_wp2_with fail
    exact bodyPost_ret (res_one Try.results18 (rd_pt _ _ _ _ _ _ _ (by rfl) (blk_setBlk _ _ _ (by rw [HT]; decide)))) rfl ⟨_, rfl, ⟨_, _, _, _, rfl, Sl.set S1_8 (by rw [HT]; exact ptA_no _ _ _ _ _ _ _), Sl.set T1_8 (by rw [HT]; exact ptA_no _ _ _ _ _ _ _)⟩, gr_setNew G (by omega)⟩
set_option maxRecDepth 100000 in
set_option maxHeartbeats 1600000 in
theorem rright_any (id : Int) (P A B N X Y : Nat) (qc : Nat → Option Addr × Nat) (a n : Nat) (p : Option Addr) (la : a < P) (lA : A < P) (lB : B < P) (hd : dl P ≤ 400) (w : World) (HQ : ∀ k, Sl w (qc k).1 (six P A B N X Y k)) (Sa : Sl w p a) :
    Calls Try.prog 42 #[.agg (crA id (six P A B N X Y) qc), .slice p (dl a) n] w (Nm (((a * a % P + A) % P * a % P + B) % P) w) := by
  have hP : 0 < P := by omega
  obtain ⟨t1, ht1⟩ : ∃ z, a * a % P = z := ⟨_, rfl⟩
  have lt1 : t1 < P := ht1 ▸ Nat.mod_lt _ hP
  obtain ⟨t2, ht2⟩ : ∃ z, (t1 + A) % P = z := ⟨_, rfl⟩
  have lt2 : t2 < P := ht2 ▸ Nat.mod_lt _ hP
  obtain ⟨t3, ht3⟩ : ∃ z, t2 * a % P = z := ⟨_, rfl⟩
  have lt3 : t3 < P := ht3 ▸ Nat.mod_lt _ hP
  obtain ⟨t4, ht4⟩ : ∃ z, (t3 + B) % P = z := ⟨_, rfl⟩
  have lt4 : t4 < P := ht4 ▸ Nat.mod_lt _ hP
  rw [show ((a * a % P + A) % P * a % P + B) % P = t4 by rw [ht1, ht2, ht3, ht4]]
  go_enter Try.func42, Try.ntmps42
  go_upto_region 1 with fail
  refine gen_w (fun v => Gr w v ∧ Vr v (w.heap.size) (crA id (six P A B N X Y) qc)) ⟨(by repeat (first | exact Gr.refl _ | apply Gr.drewN | apply Gr.drew | apply Gr.alloc | apply Gr.gro)), ⟨by simp [go_sem], by simp [go_sem], by simp [go_sem]⟩⟩ ?_
  rintro v0 ⟨G, c1⟩
  replace HQ := fun k => (HQ k).gr G
  replace Sa := Sa.gr G
  refine wp_region_qS (by kernel_rfl) [.c (.slice p (dl (a)) n), .c (.slice p (dl (a)) n), .c (.pointer (some ⟨w.heap.size, 1, none⟩)), .c (.slice (qc 0).1 (dl (P)) (qc 0).2), .n (t1), .n (t1)] ?hs ?hf
  case hs =>
    intro listed vals a1 v1 io oo hg zR zF zo zD
    have Hc1 : blk v1 (w.heap.size) = crA id (six P A B N X Y) qc := (hg.blk _ c1.p).trans c1.h
    have Kc1_1 : v1.cell? ⟨w.heap.size, 1, none⟩ = some (.slice (qc 0).1 (dl (P)) (qc 0).2) := by rw [cell_blk, Hc1]; rfl
    have zi : io < 6 := by simpa using (Array.getElem?_eq_some_iff.1 zo).1
    obtain rfl | rfl | rfl | rfl | rfl | rfl : io = 0 ∨ io = 1 ∨ io = 2 ∨ io = 3 ∨ io = 4 ∨ io = 5 := by omega
    · obtain rfl := Option.some.inj zo
      have f0 := zF.old (s := 1) (v := .slice p (dl (a)) n) (by kernel_rfl) rfl
      refine Or.inl ⟨wanted_no rfl, ?_⟩
      exact wp_val (.slice p (dl (a)) n) (by simp [go_sem, f0]) ⟨_, rfl, Gr.refl _, rfl⟩
    · obtain rfl := Option.some.inj zo
      have f0 := zF.old (s := 1) (v := .slice p (dl (a)) n) (by kernel_rfl) rfl
      refine Or.inl ⟨wanted_no rfl, ?_⟩
      exact wp_val (.slice p (dl (a)) n) (by simp [go_sem, f0]) ⟨_, rfl, Gr.refl _, rfl⟩
    · obtain rfl := Option.some.inj zo
      have f0 := zF.old (s := 2) (v := .pointer (some ⟨w.heap.size, 0, none⟩)) (by kernel_rfl) rfl
      refine Or.inl ⟨wanted_no rfl, ?_⟩
      exact wp_val (.pointer (some ⟨w.heap.size, 1, none⟩)) (by simp [go_sem, f0]) ⟨_, rfl, Gr.refl _, rfl⟩
    · obtain rfl := Option.some.inj zo
      have l0 := on_of zD 2 (by kernel_rfl)
      have f0 := zF.at (s := 9) (i := 2) (by kernel_rfl) (by simp) l0
      have e0 : vals 2 = .pointer (some ⟨w.heap.size, 1, none⟩) := zR 2 l0
      rw [e0] at f0
      refine Or.inl ⟨wanted_no rfl, ?_⟩
      exact wp_val (.slice (qc 0).1 (dl (P)) (qc 0).2) (by simp [go_sem, f0, Kc1_1]) ⟨_, rfl, Gr.refl _, rfl⟩
    · obtain rfl := Option.some.inj zo
      have l0 := on_of zD 0 (by kernel_rfl)
      have f0 := zF.at (s := 7) (i := 0) (by kernel_rfl) (by simp) l0
      have e0 : vals 0 = .slice p (dl (a)) n := zR 0 l0
      rw [e0] at f0
      have l1 := on_of zD 1 (by kernel_rfl)
      have f1 := zF.at (s := 8) (i := 1) (by kernel_rfl) (by simp) l1
      have e1 : vals 1 = .slice p (dl (a)) n := zR 1 l1
      rw [e1] at f1
      have l2 := on_of zD 3 (by kernel_rfl)
      have f2 := zF.at (s := 10) (i := 3) (by kernel_rfl) (by simp) l2
      have e2 : vals 3 = .slice (qc 0).1 (dl (P)) (qc 0).2 := zR 3 l2
      rw [e2] at f2
      refine Or.inl ⟨wanted_no rfl, ?_⟩
      exact wp_retz (k := .n (t1)) (by simp [go_sem, f0, f1, f2]) (show Calls Try.prog 27 #[.slice p (dl (a)) n, .slice p (dl (a)) n, .slice (qc 0).1 (dl (P)) (qc 0).2] v1 (Rt (.n (t1)) v1) from mm_any (Sa.gr hg) (Sa.gr hg) ((HQ 0).gr hg) la la hd ht1) (fun u w2 hu hg2 => ⟨_, rfl, hg2, hu⟩)
    · obtain rfl := Option.some.inj zo
      have l0 := on_of zD 4 (by kernel_rfl)
      have f0 := zF.at (s := 11) (i := 4) (by kernel_rfl) (by simp) l0
      obtain ⟨p0, n0, e0, S0⟩ := (show ∃ p n, vals 4 = .slice p (dl (t1)) n ∧ Sl v1 p (t1) from zR 4 l0)
      rw [e0] at f0
      refine Or.inl ⟨wanted_no rfl, ?_⟩
      exact wp_val (.slice p0 (dl (t1)) n0) (by simp [go_sem, f0]) ⟨_, rfl, Gr.refl _, ⟨_, _, rfl, S0⟩⟩
  case hf =>
    intro vals v1 hg zR
    have e1_0 : vals 0 = .slice p (dl (a)) n := zR 0 (by simp)
    have e1_1 : vals 1 = .slice p (dl (a)) n := zR 1 (by simp)
    have e1_2 : vals 2 = .pointer (some ⟨w.heap.size, 1, none⟩) := zR 2 (by simp)
    have e1_3 : vals 3 = .slice (qc 0).1 (dl (P)) (qc 0).2 := zR 3 (by simp)
    obtain ⟨p1_4, n1_4, e1_4, S1_4⟩ := (show ∃ p n, vals 4 = .slice p (dl (t1)) n ∧ Sl v1 p (t1) from zR 4 (by simp))
    obtain ⟨p1_5, n1_5, e1_5, S1_5⟩ := (show ∃ p n, vals 5 = .slice p (dl (t1)) n ∧ Sl v1 p (t1) from zR 5 (by simp))
    simp only [putFrom, Act.put, List.setIfInBounds_toArray, List.set_cons_zero, List.set_cons_succ, e1_0, e1_1, e1_2, e1_3, e1_4, e1_5]
    clear zR e1_0 e1_1 e1_2 e1_3 e1_4 e1_5
    replace G := G.trans hg
    replace c1 := c1.gr hg
    replace HQ := fun k => (HQ k).gr hg
    replace Sa := Sa.gr hg
    clear hg
    go_upto_region 2 with fail
    refine wp_region_q (by kernel_rfl) (by kernel_rfl) [.c (.slice p1_5 (dl (t1)) n1_5), .c (.pointer (some ⟨w.heap.size, 2, none⟩)), .c (.slice (qc 1).1 (dl (A)) (qc 1).2), .c (.pointer (some ⟨w.heap.size, 1, none⟩)), .c (.slice (qc 0).1 (dl (P)) (qc 0).2), .n (t2), .c (.slice p (dl (a)) n), .c (.pointer (some ⟨w.heap.size, 1, none⟩)), .c (.slice (qc 0).1 (dl (P)) (qc 0).2), .n (t3), .n (t3)] ?hs ?hf
    case hs =>
      intro listed vals a1 v2 io oo hg zR zF zo zD
      have Hc1 : blk v2 (w.heap.size) = crA id (six P A B N X Y) qc := (hg.blk _ c1.p).trans c1.h
      have Kc1_2 : v2.cell? ⟨w.heap.size, 2, none⟩ = some (.slice (qc 1).1 (dl (A)) (qc 1).2) := by rw [cell_blk, Hc1]; rfl
      have Kc1_1 : v2.cell? ⟨w.heap.size, 1, none⟩ = some (.slice (qc 0).1 (dl (P)) (qc 0).2) := by rw [cell_blk, Hc1]; rfl
      have zi : io < 11 := by simpa using (Array.getElem?_eq_some_iff.1 zo).1
      obtain rfl | rfl | rfl | rfl | rfl | rfl | rfl | rfl | rfl | rfl | rfl : io = 0 ∨ io = 1 ∨ io = 2 ∨ io = 3 ∨ io = 4 ∨ io = 5 ∨ io = 6 ∨ io = 7 ∨ io = 8 ∨ io = 9 ∨ io = 10 := by omega
      · obtain rfl := Option.some.inj zo
        have f0 := zF.old (s := 5) (v := .slice p1_5 (dl (t1)) n1_5) (by kernel_rfl) rfl
        refine Or.inl ⟨wanted_no rfl, ?_⟩
        exact wp_val (.slice p1_5 (dl (t1)) n1_5) (by simp [go_sem, f0]) ⟨_, rfl, Gr.refl _, rfl⟩
      · obtain rfl := Option.some.inj zo
        have f0 := zF.old (s := 2) (v := .pointer (some ⟨w.heap.size, 0, none⟩)) (by kernel_rfl) rfl
        refine Or.inl ⟨wanted_no rfl, ?_⟩
        exact wp_val (.pointer (some ⟨w.heap.size, 2, none⟩)) (by simp [go_sem, f0]) ⟨_, rfl, Gr.refl _, rfl⟩
      · obtain rfl := Option.some.inj zo
        have l0 := on_of zD 1 (by kernel_rfl)
        have f0 := zF.at (s := 13) (i := 1) (by kernel_rfl) (by simp) l0
        have e0 : vals 1 = .pointer (some ⟨w.heap.size, 2, none⟩) := zR 1 l0
        rw [e0] at f0
        refine Or.inl ⟨wanted_no rfl, ?_⟩
        exact wp_val (.slice (qc 1).1 (dl (A)) (qc 1).2) (by simp [go_sem, f0, Kc1_2]) ⟨_, rfl, Gr.refl _, rfl⟩
      · obtain rfl := Option.some.inj zo
        have f0 := zF.old (s := 2) (v := .pointer (some ⟨w.heap.size, 0, none⟩)) (by kernel_rfl) rfl
        refine Or.inl ⟨wanted_no rfl, ?_⟩
        exact wp_val (.pointer (some ⟨w.heap.size, 1, none⟩)) (by simp [go_sem, f0]) ⟨_, rfl, Gr.refl _, rfl⟩
      · obtain rfl := Option.some.inj zo
        have l0 := on_of zD 3 (by kernel_rfl)
        have f0 := zF.at (s := 15) (i := 3) (by kernel_rfl) (by simp) l0
        have e0 : vals 3 = .pointer (some ⟨w.heap.size, 1, none⟩) := zR 3 l0
        rw [e0] at f0
        refine Or.inl ⟨wanted_no rfl, ?_⟩
        exact wp_val (.slice (qc 0).1 (dl (P)) (qc 0).2) (by simp [go_sem, f0, Kc1_1]) ⟨_, rfl, Gr.refl _, rfl⟩
      · obtain rfl := Option.some.inj zo
        have l0 := on_of zD 0 (by kernel_rfl)
        have f0 := zF.at (s := 12) (i := 0) (by kernel_rfl) (by simp) l0
        have e0 : vals 0 = .slice p1_5 (dl (t1)) n1_5 := zR 0 l0
        rw [e0] at f0
        have l1 := on_of zD 2 (by kernel_rfl)
        have f1 := zF.at (s := 14) (i := 2) (by kernel_rfl) (by simp) l1
        have e1 : vals 2 = .slice (qc 1).1 (dl (A)) (qc 1).2 := zR 2 l1
        rw [e1] at f1
        have l2 := on_of zD 4 (by kernel_rfl)
        have f2 := zF.at (s := 16) (i := 4) (by kernel_rfl) (by simp) l2
        have e2 : vals 4 = .slice (qc 0).1 (dl (P)) (qc 0).2 := zR 4 l2
        rw [e2] at f2
        refine Or.inl ⟨wanted_no rfl, ?_⟩
        exact wp_retz (k := .n (t2)) (by simp [go_sem, f0, f1, f2]) (show Calls Try.prog 28 #[.slice p1_5 (dl (t1)) n1_5, .slice (qc 1).1 (dl (A)) (qc 1).2, .slice (qc 0).1 (dl (P)) (qc 0).2] v2 (Rt (.n (t2)) v2) from am_any (S1_5.gr hg) ((HQ 1).gr hg) ((HQ 0).gr hg) lt1 lA hd ht2) (fun u w2 hu hg2 => ⟨_, rfl, hg2, hu⟩)
      · obtain rfl := Option.some.inj zo
        have f0 := zF.old (s := 1) (v := .slice p (dl (a)) n) (by kernel_rfl) rfl
        refine Or.inl ⟨wanted_no rfl, ?_⟩
        exact wp_val (.slice p (dl (a)) n) (by simp [go_sem, f0]) ⟨_, rfl, Gr.refl _, rfl⟩
      · obtain rfl := Option.some.inj zo
        have f0 := zF.old (s := 2) (v := .pointer (some ⟨w.heap.size, 0, none⟩)) (by kernel_rfl) rfl
        refine Or.inl ⟨wanted_no rfl, ?_⟩
        exact wp_val (.pointer (some ⟨w.heap.size, 1, none⟩)) (by simp [go_sem, f0]) ⟨_, rfl, Gr.refl _, rfl⟩
      · obtain rfl := Option.some.inj zo
        have l0 := on_of zD 7 (by kernel_rfl)
        have f0 := zF.at (s := 19) (i := 7) (by kernel_rfl) (by simp) l0
        have e0 : vals 7 = .pointer (some ⟨w.heap.size, 1, none⟩) := zR 7 l0
        rw [e0] at f0
        refine Or.inl ⟨wanted_no rfl, ?_⟩
        exact wp_val (.slice (qc 0).1 (dl (P)) (qc 0).2) (by simp [go_sem, f0, Kc1_1]) ⟨_, rfl, Gr.refl _, rfl⟩
      · obtain rfl := Option.some.inj zo
        have l0 := on_of zD 5 (by kernel_rfl)
        have f0 := zF.at (s := 17) (i := 5) (by kernel_rfl) (by simp) l0
        obtain ⟨p0, n0, e0, S0⟩ := (show ∃ p n, vals 5 = .slice p (dl (t2)) n ∧ Sl v2 p (t2) from zR 5 l0)
        rw [e0] at f0
        have l1 := on_of zD 6 (by kernel_rfl)
        have f1 := zF.at (s := 18) (i := 6) (by kernel_rfl) (by simp) l1
        have e1 : vals 6 = .slice p (dl (a)) n := zR 6 l1
        rw [e1] at f1
        have l2 := on_of zD 8 (by kernel_rfl)
        have f2 := zF.at (s := 20) (i := 8) (by kernel_rfl) (by simp) l2
        have e2 : vals 8 = .slice (qc 0).1 (dl (P)) (qc 0).2 := zR 8 l2
        rw [e2] at f2
        refine Or.inl ⟨wanted_no rfl, ?_⟩
        exact wp_retz (k := .n (t3)) (by simp [go_sem, f0, f1, f2]) (show Calls Try.prog 27 #[.slice p0 (dl (t2)) n0, .slice p (dl (a)) n, .slice (qc 0).1 (dl (P)) (qc 0).2] v2 (Rt (.n (t3)) v2) from mm_any S0 (Sa.gr hg) ((HQ 0).gr hg) lt2 la hd ht3) (fun u w2 hu hg2 => ⟨_, rfl, hg2, hu⟩)
      · obtain rfl := Option.some.inj zo
        have l0 := on_of zD 9 (by kernel_rfl)
        have f0 := zF.at (s := 21) (i := 9) (by kernel_rfl) (by simp) l0
        obtain ⟨p0, n0, e0, S0⟩ := (show ∃ p n, vals 9 = .slice p (dl (t3)) n ∧ Sl v2 p (t3) from zR 9 l0)
        rw [e0] at f0
        refine Or.inl ⟨wanted_no rfl, ?_⟩
        exact wp_val (.slice p0 (dl (t3)) n0) (by simp [go_sem, f0]) ⟨_, rfl, Gr.refl _, ⟨_, _, rfl, S0⟩⟩
    case hf =>
      intro vals v2 hg zR
      have e2_0 : vals 0 = .slice p1_5 (dl (t1)) n1_5 := zR 0 (by simp)
      have e2_1 : vals 1 = .pointer (some ⟨w.heap.size, 2, none⟩) := zR 1 (by simp)
      have e2_2 : vals 2 = .slice (qc 1).1 (dl (A)) (qc 1).2 := zR 2 (by simp)
      have e2_3 : vals 3 = .pointer (some ⟨w.heap.size, 1, none⟩) := zR 3 (by simp)
      have e2_4 : vals 4 = .slice (qc 0).1 (dl (P)) (qc 0).2 := zR 4 (by simp)
      obtain ⟨p2_5, n2_5, e2_5, S2_5⟩ := (show ∃ p n, vals 5 = .slice p (dl (t2)) n ∧ Sl v2 p (t2) from zR 5 (by simp))
      have e2_6 : vals 6 = .slice p (dl (a)) n := zR 6 (by simp)
      have e2_7 : vals 7 = .pointer (some ⟨w.heap.size, 1, none⟩) := zR 7 (by simp)
      have e2_8 : vals 8 = .slice (qc 0).1 (dl (P)) (qc 0).2 := zR 8 (by simp)
      obtain ⟨p2_9, n2_9, e2_9, S2_9⟩ := (show ∃ p n, vals 9 = .slice p (dl (t3)) n ∧ Sl v2 p (t3) from zR 9 (by simp))
      obtain ⟨p2_10, n2_10, e2_10, S2_10⟩ := (show ∃ p n, vals 10 = .slice p (dl (t3)) n ∧ Sl v2 p (t3) from zR 10 (by simp))
      simp only [putFrom, Act.put, List.setIfInBounds_toArray, List.set_cons_zero, List.set_cons_succ, e2_0, e2_1, e2_2, e2_3, e2_4, e2_5, e2_6, e2_7, e2_8, e2_9, e2_10]
      clear zR e2_0 e2_1 e2_2 e2_3 e2_4 e2_5 e2_6 e2_7 e2_8 e2_9 e2_10
      replace G := G.trans hg
      replace c1 := c1.gr hg
      replace HQ := fun k => (HQ k).gr hg
      replace Sa := Sa.gr hg
      replace S1_4 := S1_4.gr hg
      replace S1_5 := S1_5.gr hg
      clear hg
      go_upto_region 3 with fail
      refine wp_region_qS (by kernel_rfl) [.c (.slice p2_10 (dl (t3)) n2_10), .c (.pointer (some ⟨w.heap.size, 3, none⟩)), .c (.slice (qc 2).1 (dl (B)) (qc 2).2), .c (.pointer (some ⟨w.heap.size, 1, none⟩)), .c (.slice (qc 0).1 (dl (P)) (qc 0).2), .n (t4), .n (t4)] ?hs ?hf
      case hs =>
        intro listed vals a1 v3 io oo hg zR zF zo zD
        have Hc1 : blk v3 (w.heap.size) = crA id (six P A B N X Y) qc := (hg.blk _ c1.p).trans c1.h
        have Kc1_3 : v3.cell? ⟨w.heap.size, 3, none⟩ = some (.slice (qc 2).1 (dl (B)) (qc 2).2) := by rw [cell_blk, Hc1]; rfl
        have Kc1_1 : v3.cell? ⟨w.heap.size, 1, none⟩ = some (.slice (qc 0).1 (dl (P)) (qc 0).2) := by rw [cell_blk, Hc1]; rfl
        have zi : io < 7 := by simpa using (Array.getElem?_eq_some_iff.1 zo).1
        obtain rfl | rfl | rfl | rfl | rfl | rfl | rfl : io = 0 ∨ io = 1 ∨ io = 2 ∨ io = 3 ∨ io = 4 ∨ io = 5 ∨ io = 6 := by omega
        · obtain rfl := Option.some.inj zo
          have f0 := zF.old (s := 6) (v := .slice p2_10 (dl (t3)) n2_10) (by kernel_rfl) rfl
          refine Or.inl ⟨wanted_no rfl, ?_⟩
          exact wp_val (.slice p2_10 (dl (t3)) n2_10) (by simp [go_sem, f0]) ⟨_, rfl, Gr.refl _, rfl⟩
        · obtain rfl := Option.some.inj zo
          have f0 := zF.old (s := 2) (v := .pointer (some ⟨w.heap.size, 0, none⟩)) (by kernel_rfl) rfl
          refine Or.inl ⟨wanted_no rfl, ?_⟩
          exact wp_val (.pointer (some ⟨w.heap.size, 3, none⟩)) (by simp [go_sem, f0]) ⟨_, rfl, Gr.refl _, rfl⟩
        · obtain rfl := Option.some.inj zo
          have l0 := on_of zD 1 (by kernel_rfl)
          have f0 := zF.at (s := 23) (i := 1) (by kernel_rfl) (by simp) l0
          have e0 : vals 1 = .pointer (some ⟨w.heap.size, 3, none⟩) := zR 1 l0
          rw [e0] at f0
          refine Or.inl ⟨wanted_no rfl, ?_⟩
          exact wp_val (.slice (qc 2).1 (dl (B)) (qc 2).2) (by simp [go_sem, f0, Kc1_3]) ⟨_, rfl, Gr.refl _, rfl⟩
        · obtain rfl := Option.some.inj zo
          have f0 := zF.old (s := 2) (v := .pointer (some ⟨w.heap.size, 0, none⟩)) (by kernel_rfl) rfl
          refine Or.inl ⟨wanted_no rfl, ?_⟩
          exact wp_val (.pointer (some ⟨w.heap.size, 1, none⟩)) (by simp [go_sem, f0]) ⟨_, rfl, Gr.refl _, rfl⟩
        · obtain rfl := Option.some.inj zo
          have l0 := on_of zD 3 (by kernel_rfl)
          have f0 := zF.at (s := 25) (i := 3) (by kernel_rfl) (by simp) l0
          have e0 : vals 3 = .pointer (some ⟨w.heap.size, 1, none⟩) := zR 3 l0
          rw [e0] at f0
          refine Or.inl ⟨wanted_no rfl, ?_⟩
          exact wp_val (.slice (qc 0).1 (dl (P)) (qc 0).2) (by simp [go_sem, f0, Kc1_1]) ⟨_, rfl, Gr.refl _, rfl⟩
        · obtain rfl := Option.some.inj zo
          have l0 := on_of zD 0 (by kernel_rfl)
          have f0 := zF.at (s := 22) (i := 0) (by kernel_rfl) (by simp) l0
          have e0 : vals 0 = .slice p2_10 (dl (t3)) n2_10 := zR 0 l0
          rw [e0] at f0
          have l1 := on_of zD 2 (by kernel_rfl)
          have f1 := zF.at (s := 24) (i := 2) (by kernel_rfl) (by simp) l1
          have e1 : vals 2 = .slice (qc 2).1 (dl (B)) (qc 2).2 := zR 2 l1
          rw [e1] at f1
          have l2 := on_of zD 4 (by kernel_rfl)
          have f2 := zF.at (s := 26) (i := 4) (by kernel_rfl) (by simp) l2
          have e2 : vals 4 = .slice (qc 0).1 (dl (P)) (qc 0).2 := zR 4 l2
          rw [e2] at f2
          refine Or.inl ⟨wanted_no rfl, ?_⟩
          exact wp_retz (k := .n (t4)) (by simp [go_sem, f0, f1, f2]) (show Calls Try.prog 28 #[.slice p2_10 (dl (t3)) n2_10, .slice (qc 2).1 (dl (B)) (qc 2).2, .slice (qc 0).1 (dl (P)) (qc 0).2] v3 (Rt (.n (t4)) v3) from am_any (S2_10.gr hg) ((HQ 2).gr hg) ((HQ 0).gr hg) lt3 lB hd ht4) (fun u w2 hu hg2 => ⟨_, rfl, hg2, hu⟩)
        · obtain rfl := Option.some.inj zo
          have l0 := on_of zD 5 (by kernel_rfl)
          have f0 := zF.at (s := 27) (i := 5) (by kernel_rfl) (by simp) l0
          obtain ⟨p0, n0, e0, S0⟩ := (show ∃ p n, vals 5 = .slice p (dl (t4)) n ∧ Sl v3 p (t4) from zR 5 l0)
          rw [e0] at f0
          refine Or.inl ⟨wanted_no rfl, ?_⟩
          exact wp_val (.slice p0 (dl (t4)) n0) (by simp [go_sem, f0]) ⟨_, rfl, Gr.refl _, ⟨_, _, rfl, S0⟩⟩
      case hf =>
        intro vals v3 hg zR
        have e3_0 : vals 0 = .slice p2_10 (dl (t3)) n2_10 := zR 0 (by simp)
        have e3_1 : vals 1 = .pointer (some ⟨w.heap.size, 3, none⟩) := zR 1 (by simp)
        have e3_2 : vals 2 = .slice (qc 2).1 (dl (B)) (qc 2).2 := zR 2 (by simp)
        have e3_3 : vals 3 = .pointer (some ⟨w.heap.size, 1, none⟩) := zR 3 (by simp)
        have e3_4 : vals 4 = .slice (qc 0).1 (dl (P)) (qc 0).2 := zR 4 (by simp)
        obtain ⟨p3_5, n3_5, e3_5, S3_5⟩ := (show ∃ p n, vals 5 = .slice p (dl (t4)) n ∧ Sl v3 p (t4) from zR 5 (by simp))
        obtain ⟨p3_6, n3_6, e3_6, S3_6⟩ := (show ∃ p n, vals 6 = .slice p (dl (t4)) n ∧ Sl v3 p (t4) from zR 6 (by simp))
        simp only [putFrom, Act.put, List.setIfInBounds_toArray, List.set_cons_zero, List.set_cons_succ, e3_0, e3_1, e3_2, e3_3, e3_4, e3_5, e3_6]
        clear zR e3_0 e3_1 e3_2 e3_3 e3_4 e3_5 e3_6
        replace G := G.trans hg
        replace c1 := c1.gr hg
        replace HQ := fun k => (HQ k).gr hg
        replace Sa := Sa.gr hg
        replace S1_4 := S1_4.gr hg
        replace S1_5 := S1_5.gr hg
        replace S2_5 := S2_5.gr hg
        replace S2_9 := S2_9.gr hg
        replace S2_10 := S2_10.gr hg
        clear hg
        go_wp2_with fail
        go_ret
        exact ⟨p3_6, n3_6, rfl, S3_6, G⟩

end Go.Proofs.Ytgmaalokfgdpaaa
namespace Go.Proofs.Ytgmaalokfgdpaaa
open Go.RowKit
attribute [local go_sem ↓] loadNat_is loadArr_is loadWide_is loadArrW_is storeNat_is storeWide_is
attribute [local go_sem] loadNat loadArr loadWide loadArrW storeNat storeWide idxArr fold9 fold18 nw_size nw_elem pre_self pre_1 pre_2 pre_3 pre_4 pre_5 pre_6 pre_7 pre_8 pre_9 pre_10 pre_11 pre_12 pre_13 pre_14 pre_15 pre_16 pre_17 pre_18 pre_19 pre_20 pre_21 pre_22 pre_23 pre_24 pre_25 pre_26 pre_27 pre_28 pre_29 pre_30 pre_31 pre_32 pre_33 pre_34 pre_35 pre_36 pre_37 pre_38 pre_39 pre_40 gro_size gro_drew gro_drewN drew_gro drewN_gro gro_gro blk_gro frz_gro blk_drew frz_drew blk_drewN frz_drewN blk_alloc_at frz_alloc_at blk_alloc frz_alloc cell_gro frozen_gro cell_alloc_pre frozen_alloc_pre setCell_drewN alloc_drewN setBlk_drew setBlk_drewN setBlk_alloc_at setBlk_alloc setBlk_gro setCell_gro setCell_alloc_pre size_setBlk size_setCell
attribute [local go_sem ↓] loadPt_is storePt_is zvPt_is buildPt_is loadC_is loadPn_is loadCu_is storePn_is zvPn_is buildPn_is storeCu_is zvCu_is buildCu_is Go.wp_at_zero Go.wp_at_succ
attribute [local go_sem] loadPt storePt zvPt buildPt3 buildPt2 buildPtI ptA_size crA_size loadC loadPn loadPX loadPY pnt_size pnt_X pnt_Y storePn zvPn buildPn2 buildPn3 storeCu zvCu buildCu9 cu_size loadCu
set_option maxRecDepth 100000 in
set_option maxHeartbeats 1600000 in
theorem ron_inf (id : Int) (P A B N X Y : Nat) (qc : Nat → Option Addr × Nat) (x y : Nat) (p q : Option Addr) (n m : Nat) (w : World) (HQ : ∀ k, Sl w (qc k).1 (six P A B N X Y k)) (Sx : Sl w p x) (Sy : Sl w q y) :
    Calls Try.prog 17 #[.agg (crA id (six P A B N X Y) qc), .agg (ptA p x n q y m true)] w fun e w' => e = .returned (.bool (decide (x = 0) && decide (y = 0))) ∧ Gr w w' := by
  go_enter Try.func17, Try.ntmps17
  go_upto_region 1 with fail
  refine gen_w (fun v => Gr w v ∧ Vr v (w.heap.size) (crA id (six P A B N X Y) qc) ∧ Vr v (w.heap.size + 1) (ptA p x n q y m true)) ⟨(by repeat (first | exact Gr.refl _ | apply Gr.drewN | apply Gr.drew | apply Gr.alloc | apply Gr.gro)), ⟨by simp [go_sem], by simp [go_sem], by simp [go_sem]⟩, ⟨by simp [go_sem], by simp [go_sem], by simp [go_sem]⟩⟩ ?_
  rintro v0 ⟨G, c1, c2⟩
  replace HQ := fun k => (HQ k).gr G
  replace Sx := Sx.gr G
  replace Sy := Sy.gr G
  refine wp_region_qS (by kernel_rfl) [.c (.pointer (some ⟨w.heap.size + 1, 2, none⟩)), .c (.bool true)] ?hs ?hf
  case hs =>
    intro listed vals a1 v1 io oo hg zR zF zo zD
    have Hc2 : blk v1 (w.heap.size + 1) = ptA p (x) n q (y) m true := (hg.blk _ c2.p).trans c2.h
    have Kc2_2 : v1.cell? ⟨w.heap.size + 1, 2, none⟩ = some (.bool true) := by rw [cell_blk, Hc2]; rfl
    have zi : io < 2 := by simpa using (Array.getElem?_eq_some_iff.1 zo).1
    obtain rfl | rfl : io = 0 ∨ io = 1 := by omega
    · obtain rfl := Option.some.inj zo
      have f0 := zF.old (s := 3) (v := .pointer (some ⟨w.heap.size + 1, 0, none⟩)) (by kernel_rfl) rfl
      refine Or.inl ⟨wanted_no rfl, ?_⟩
      exact wp_val (.pointer (some ⟨w.heap.size + 1, 2, none⟩)) (by simp [go_sem, f0]) ⟨_, rfl, Gr.refl _, rfl⟩
    · obtain rfl := Option.some.inj zo
      have l0 := on_of zD 0 (by kernel_rfl)
      have f0 := zF.at (s := 5) (i := 0) (by kernel_rfl) (by simp) l0
      have e0 : vals 0 = .pointer (some ⟨w.heap.size + 1, 2, none⟩) := zR 0 l0
      rw [e0] at f0
      refine Or.inl ⟨wanted_no rfl, ?_⟩
      exact wp_val (.bool true) (by simp [go_sem, f0, Kc2_2]) ⟨_, rfl, Gr.refl _, rfl⟩
  case hf =>
    intro vals v1 hg zR
    have e1_0 : vals 0 = .pointer (some ⟨w.heap.size + 1, 2, none⟩) := zR 0 (by simp)
    have e1_1 : vals 1 = .bool true := zR 1 (by simp)
    simp only [putFrom, Act.put, List.setIfInBounds_toArray, List.set_cons_zero, List.set_cons_succ, e1_0, e1_1]
    clear zR e1_0 e1_1
    replace G := G.trans hg
    replace c1 := c1.gr hg
    replace c2 := c2.gr hg
    replace HQ := fun k => (HQ k).gr hg
    replace Sx := Sx.gr hg
    replace Sy := Sy.gr hg
    clear hg
    have k20 : v1.cell? ⟨w.heap.size + 1, 0, none⟩ = some (.slice p (dl x) n) := by rw [cell_blk, c2.h]; rfl
    have k21 : v1.cell? ⟨w.heap.size + 1, 1, none⟩ = some (.slice q (dl y) m) := by rw [cell_blk, c2.h]; rfl
    by_cases hx : x = 0
    · have zx := dl_nought x
      rw [decide_eq_true hx] at zx
      have zy := dl_nought y
      go_wp2_with fail
      go_ret
      exact ⟨by simp [hx], G⟩
    · have zx := dl_nought x
      rw [decide_eq_false hx] at zx
      go_wp2_with fail
      go_ret
      exact ⟨by simp [hx], G⟩
set_option maxRecDepth 100000 in
set_option maxHeartbeats 1600000 in
theorem ron_x (id : Int) (P A B N X Y : Nat) (qc : Nat → Option Addr × Nat) (x y : Nat) (p q : Option Addr) (n m : Nat) (hx4 : dl x ≤ 400) (hd : dl P ≤ 400) (hx : P ≤ x) (w : World) (HQ : ∀ k, Sl w (qc k).1 (six P A B N X Y k)) (Sx : Sl w p x) (Sy : Sl w q y) :
    Calls Try.prog 17 #[.agg (crA id (six P A B N X Y) qc), .agg (ptA p x n q y m false)] w fun e w' => e = .returned (.bool false) ∧ Gr w w' := by
  obtain ⟨zx, ex⟩ : ∃ z, cmpZ x P = z := ⟨_, rfl⟩
  have bx : decide (0 ≤ zx) = true := by rw [← ex]; unfold cmpZ; rw [if_neg (by omega)]; split <;> decide
  go_enter Try.func17, Try.ntmps17
  go_upto_region 1 with fail
  refine gen_w (fun v => Gr w v ∧ Vr v (w.heap.size) (crA id (six P A B N X Y) qc) ∧ Vr v (w.heap.size + 1) (ptA p x n q y m false)) ⟨(by repeat (first | exact Gr.refl _ | apply Gr.drewN | apply Gr.drew | apply Gr.alloc | apply Gr.gro)), ⟨by simp [go_sem], by simp [go_sem], by simp [go_sem]⟩, ⟨by simp [go_sem], by simp [go_sem], by simp [go_sem]⟩⟩ ?_
  rintro v0 ⟨G, c1, c2⟩
  replace HQ := fun k => (HQ k).gr G
  replace Sx := Sx.gr G
  replace Sy := Sy.gr G
  refine wp_region_qS (by kernel_rfl) [.c (.pointer (some ⟨w.heap.size + 1, 2, none⟩)), .c (.bool false)] ?hs ?hf
  case hs =>
    intro listed vals a1 v1 io oo hg zR zF zo zD
    have Hc2 : blk v1 (w.heap.size + 1) = ptA p (x) n q (y) m false := (hg.blk _ c2.p).trans c2.h
    have Kc2_2 : v1.cell? ⟨w.heap.size + 1, 2, none⟩ = some (.bool false) := by rw [cell_blk, Hc2]; rfl
    have zi : io < 2 := by simpa using (Array.getElem?_eq_some_iff.1 zo).1
    obtain rfl | rfl : io = 0 ∨ io = 1 := by omega
    · obtain rfl := Option.some.inj zo
      have f0 := zF.old (s := 3) (v := .pointer (some ⟨w.heap.size + 1, 0, none⟩)) (by kernel_rfl) rfl
      refine Or.inl ⟨wanted_no rfl, ?_⟩
      exact wp_val (.pointer (some ⟨w.heap.size + 1, 2, none⟩)) (by simp [go_sem, f0]) ⟨_, rfl, Gr.refl _, rfl⟩
    · obtain rfl := Option.some.inj zo
      have l0 := on_of zD 0 (by kernel_rfl)
      have f0 := zF.at (s := 5) (i := 0) (by kernel_rfl) (by simp) l0
      have e0 : vals 0 = .pointer (some ⟨w.heap.size + 1, 2, none⟩) := zR 0 l0
      rw [e0] at f0
      refine Or.inl ⟨wanted_no rfl, ?_⟩
      exact wp_val (.bool false) (by simp [go_sem, f0, Kc2_2]) ⟨_, rfl, Gr.refl _, rfl⟩
  case hf =>
    intro vals v1 hg zR
    have e1_0 : vals 0 = .pointer (some ⟨w.heap.size + 1, 2, none⟩) := zR 0 (by simp)
    have e1_1 : vals 1 = .bool false := zR 1 (by simp)
    simp only [putFrom, Act.put, List.setIfInBounds_toArray, List.set_cons_zero, List.set_cons_succ, e1_0, e1_1]
    clear zR e1_0 e1_1
    replace G := G.trans hg
    replace c1 := c1.gr hg
    replace c2 := c2.gr hg
    replace HQ := fun k => (HQ k).gr hg
    replace Sx := Sx.gr hg
    replace Sy := Sy.gr hg
    clear hg
    go_upto_region 3 with fail
    refine wp_region_qS (by kernel_rfl) [.c (.pointer (some ⟨w.heap.size + 1, 0, none⟩)), .c (.slice p (dl (x)) n), .c (.pointer (some ⟨w.heap.size, 1, none⟩)), .c (.slice (qc 0).1 (dl (P)) (qc 0).2), .c (.int .i64 zx), .c (.bool true), .c (.bool true), .top, .top, .top, .top, .top, .top, .c (.bool true)] ?hs ?hf
    case hs =>
      intro listed vals a1 v2 io oo hg zR zF zo zD
      have Hc1 : blk v2 (w.heap.size) = crA id (six P A B N X Y) qc := (hg.blk _ c1.p).trans c1.h
      have Kc1_1 : v2.cell? ⟨w.heap.size, 1, none⟩ = some (.slice (qc 0).1 (dl (P)) (qc 0).2) := by rw [cell_blk, Hc1]; rfl
      have Hc2 : blk v2 (w.heap.size + 1) = ptA p (x) n q (y) m false := (hg.blk _ c2.p).trans c2.h
      have Kc2_0 : v2.cell? ⟨w.heap.size + 1, 0, none⟩ = some (.slice p (dl (x)) n) := by rw [cell_blk, Hc2]; rfl
      have zi : io < 14 := by simpa using (Array.getElem?_eq_some_iff.1 zo).1
      obtain rfl | rfl | rfl | rfl | rfl | rfl | rfl | rfl | rfl | rfl | rfl | rfl | rfl | rfl : io = 0 ∨ io = 1 ∨ io = 2 ∨ io = 3 ∨ io = 4 ∨ io = 5 ∨ io = 6 ∨ io = 7 ∨ io = 8 ∨ io = 9 ∨ io = 10 ∨ io = 11 ∨ io = 12 ∨ io = 13 := by omega
      · obtain rfl := Option.some.inj zo
        have f0 := zF.old (s := 3) (v := .pointer (some ⟨w.heap.size + 1, 0, none⟩)) (by kernel_rfl) rfl
        refine Or.inl ⟨wanted_no rfl, ?_⟩
        exact wp_val (.pointer (some ⟨w.heap.size + 1, 0, none⟩)) (by simp [go_sem, f0]) ⟨_, rfl, Gr.refl _, rfl⟩
      · obtain rfl := Option.some.inj zo
        have l0 := on_of zD 0 (by kernel_rfl)
        have f0 := zF.at (s := 17) (i := 0) (by kernel_rfl) (by simp) l0
        have e0 : vals 0 = .pointer (some ⟨w.heap.size + 1, 0, none⟩) := zR 0 l0
        rw [e0] at f0
        refine Or.inl ⟨wanted_no rfl, ?_⟩
        exact wp_val (.slice p (dl (x)) n) (by simp [go_sem, f0, Kc2_0]) ⟨_, rfl, Gr.refl _, rfl⟩
      · obtain rfl := Option.some.inj zo
        have f0 := zF.old (s := 2) (v := .pointer (some ⟨w.heap.size, 0, none⟩)) (by kernel_rfl) rfl
        refine Or.inl ⟨wanted_no rfl, ?_⟩
        exact wp_val (.pointer (some ⟨w.heap.size, 1, none⟩)) (by simp [go_sem, f0]) ⟨_, rfl, Gr.refl _, rfl⟩
      · obtain rfl := Option.some.inj zo
        have l0 := on_of zD 2 (by kernel_rfl)
        have f0 := zF.at (s := 19) (i := 2) (by kernel_rfl) (by simp) l0
        have e0 : vals 2 = .pointer (some ⟨w.heap.size, 1, none⟩) := zR 2 l0
        rw [e0] at f0
        refine Or.inl ⟨wanted_no rfl, ?_⟩
        exact wp_val (.slice (qc 0).1 (dl (P)) (qc 0).2) (by simp [go_sem, f0, Kc1_1]) ⟨_, rfl, Gr.refl _, rfl⟩
      · obtain rfl := Option.some.inj zo
        have l0 := on_of zD 1 (by kernel_rfl)
        have f0 := zF.at (s := 18) (i := 1) (by kernel_rfl) (by simp) l0
        have e0 : vals 1 = .slice p (dl (x)) n := zR 1 l0
        rw [e0] at f0
        have l1 := on_of zD 3 (by kernel_rfl)
        have f1 := zF.at (s := 20) (i := 3) (by kernel_rfl) (by simp) l1
        have e1 : vals 3 = .slice (qc 0).1 (dl (P)) (qc 0).2 := zR 3 l1
        rw [e1] at f1
        refine Or.inl ⟨wanted_no rfl, ?_⟩
        exact wp_retz (k := .c (.int .i64 zx)) (by simp [go_sem, f0, f1]) (show Calls Try.prog 26 #[.slice p (dl (x)) n, .slice (qc 0).1 (dl (P)) (qc 0).2] v2 (Rt (.c (.int .i64 zx)) v2) from cz_any (Sx.gr hg) ((HQ 0).gr hg) hx4 hd ex) (fun u w2 hu hg2 => ⟨_, rfl, hg2, hu⟩)
      · obtain rfl := Option.some.inj zo
        have l0 := on_of zD 4 (by kernel_rfl)
        have f0 := zF.at (s := 21) (i := 4) (by kernel_rfl) (by simp) l0
        have e0 : vals 4 = .int .i64 zx := zR 4 l0
        rw [e0] at f0
        refine Or.inl ⟨wanted_no rfl, ?_⟩
        exact wp_val (.bool true) (by simp [go_sem, f0, bx]) ⟨_, rfl, Gr.refl _, rfl⟩
      · obtain rfl := Option.some.inj zo
        have l0 := on_of zD 5 (by kernel_rfl)
        have f0 := zF.at (s := 22) (i := 5) (by kernel_rfl) (by simp) l0
        have e0 : vals 5 = .bool true := zR 5 l0
        rw [e0] at f0
        refine Or.inl ⟨wanted_no rfl, ?_⟩
        exact wp_val (.bool true) (by simp [go_sem, f0]) ⟨_, rfl, Gr.refl _, rfl⟩
      · obtain rfl := Option.some.inj zo
        have lg := on_of zD 6 (by kernel_rfl)
        have fg := zF.at (s := 23) (i := 6) (by kernel_rfl) (by simp) lg
        rw [show vals 6 = .bool true from zR 6 lg] at fg
        exact Or.inr ⟨unwanted_at (j := 6) (s := 23) rfl rfl rfl fg (by decide), trivial⟩
      · obtain rfl := Option.some.inj zo
        have lg := on_of zD 6 (by kernel_rfl)
        have fg := zF.at (s := 23) (i := 6) (by kernel_rfl) (by simp) lg
        rw [show vals 6 = .bool true from zR 6 lg] at fg
        exact Or.inr ⟨unwanted_at (j := 6) (s := 23) rfl rfl rfl fg (by decide), trivial⟩
      · obtain rfl := Option.some.inj zo
        have lg := on_of zD 6 (by kernel_rfl)
        have fg := zF.at (s := 23) (i := 6) (by kernel_rfl) (by simp) lg
        rw [show vals 6 = .bool true from zR 6 lg] at fg
        exact Or.inr ⟨unwanted_at (j := 6) (s := 23) rfl rfl rfl fg (by decide), trivial⟩
      · obtain rfl := Option.some.inj zo
        have lg := on_of zD 6 (by kernel_rfl)
        have fg := zF.at (s := 23) (i := 6) (by kernel_rfl) (by simp) lg
        rw [show vals 6 = .bool true from zR 6 lg] at fg
        exact Or.inr ⟨unwanted_at (j := 6) (s := 23) rfl rfl rfl fg (by decide), trivial⟩
      · obtain rfl := Option.some.inj zo
        have lg := on_of zD 6 (by kernel_rfl)
        have fg := zF.at (s := 23) (i := 6) (by kernel_rfl) (by simp) lg
        rw [show vals 6 = .bool true from zR 6 lg] at fg
        exact Or.inr ⟨unwanted_at (j := 6) (s := 23) rfl rfl rfl fg (by decide), trivial⟩
      · obtain rfl := Option.some.inj zo
        have lg := on_of zD 6 (by kernel_rfl)
        have fg := zF.at (s := 23) (i := 6) (by kernel_rfl) (by simp) lg
        rw [show vals 6 = .bool true from zR 6 lg] at fg
        exact Or.inr ⟨unwanted_at (j := 6) (s := 23) rfl rfl rfl fg (by decide), trivial⟩
      · obtain rfl := Option.some.inj zo
        have l0 := on_of zD 6 (by kernel_rfl)
        have f0 := zF.at (s := 23) (i := 6) (by kernel_rfl) (by simp) l0
        have e0 : vals 6 = .bool true := zR 6 l0
        rw [e0] at f0
        have l1 := on_of zD 12 (by kernel_rfl)
        have f1 := zF.at (s := 29) (i := 12) (by kernel_rfl) (by simp) l1
        refine Or.inl ⟨wanted_no rfl, ?_⟩
        exact wp_val (.bool true) (by simp [go_sem, f0, f1]) ⟨_, rfl, Gr.refl _, rfl⟩
    case hf =>
      intro vals v2 hg zR
      have e3_0 : vals 0 = .pointer (some ⟨w.heap.size + 1, 0, none⟩) := zR 0 (by simp)
      have e3_1 : vals 1 = .slice p (dl (x)) n := zR 1 (by simp)
      have e3_2 : vals 2 = .pointer (some ⟨w.heap.size, 1, none⟩) := zR 2 (by simp)
      have e3_3 : vals 3 = .slice (qc 0).1 (dl (P)) (qc 0).2 := zR 3 (by simp)
      have e3_4 : vals 4 = .int .i64 zx := zR 4 (by simp)
      have e3_5 : vals 5 = .bool true := zR 5 (by simp)
      have e3_6 : vals 6 = .bool true := zR 6 (by simp)
      have e3_13 : vals 13 = .bool true := zR 13 (by simp)
      simp only [putFrom, Act.put, List.setIfInBounds_toArray, List.set_cons_zero, List.set_cons_succ, e3_0, e3_1, e3_2, e3_3, e3_4, e3_5, e3_6, e3_13]
      clear zR e3_0 e3_1 e3_2 e3_3 e3_4 e3_5 e3_6 e3_13
      replace G := G.trans hg
      replace c1 := c1.gr hg
      replace c2 := c2.gr hg
      replace HQ := fun k => (HQ k).gr hg
      replace Sx := Sx.gr hg
      replace Sy := Sy.gr hg
      clear hg
      go_wp2_with fail
      go_ret
      exact ⟨rfl, G⟩
set_option maxRecDepth 100000 in
set_option maxHeartbeats 1600000 in
theorem ron_y (id : Int) (P A B N X Y : Nat) (qc : Nat → Option Addr × Nat) (x y : Nat) (p q : Option Addr) (n m : Nat) (hx4 : dl x ≤ 400) (hy4 : dl y ≤ 400) (hd : dl P ≤ 400) (hx : x < P) (hy : P ≤ y) (w : World) (HQ : ∀ k, Sl w (qc k).1 (six P A B N X Y k)) (Sx : Sl w p x) (Sy : Sl w q y) :
    Calls Try.prog 17 #[.agg (crA id (six P A B N X Y) qc), .agg (ptA p x n q y m false)] w fun e w' => e = .returned (.bool false) ∧ Gr w w' := by
  obtain ⟨zx, ex⟩ : ∃ z, cmpZ x P = z := ⟨_, rfl⟩
  have bx : decide (0 ≤ zx) = false := by rw [← ex]; unfold cmpZ; rw [if_pos hx]; decide
  obtain ⟨zy, ey⟩ : ∃ z, cmpZ y P = z := ⟨_, rfl⟩
  have by1 : decide (0 ≤ zy) = true := by rw [← ey]; unfold cmpZ; rw [if_neg (by omega)]; split <;> decide
  go_enter Try.func17, Try.ntmps17
  go_upto_region 1 with fail
  refine gen_w (fun v => Gr w v ∧ Vr v (w.heap.size) (crA id (six P A B N X Y) qc) ∧ Vr v (w.heap.size + 1) (ptA p x n q y m false)) ⟨(by repeat (first | exact Gr.refl _ | apply Gr.drewN | apply Gr.drew | apply Gr.alloc | apply Gr.gro)), ⟨by simp [go_sem], by simp [go_sem], by simp [go_sem]⟩, ⟨by simp [go_sem], by simp [go_sem], by simp [go_sem]⟩⟩ ?_
  rintro v0 ⟨G, c1, c2⟩
  replace HQ := fun k => (HQ k).gr G
  replace Sx := Sx.gr G
  replace Sy := Sy.gr G
  refine wp_region_qS (by kernel_rfl) [.c (.pointer (some ⟨w.heap.size + 1, 2, none⟩)), .c (.bool false)] ?hs ?hf
  case hs =>
    intro listed vals a1 v1 io oo hg zR zF zo zD
    have Hc2 : blk v1 (w.heap.size + 1) = ptA p (x) n q (y) m false := (hg.blk _ c2.p).trans c2.h
    have Kc2_2 : v1.cell? ⟨w.heap.size + 1, 2, none⟩ = some (.bool false) := by rw [cell_blk, Hc2]; rfl
    have zi : io < 2 := by simpa using (Array.getElem?_eq_some_iff.1 zo).1
    obtain rfl | rfl : io = 0 ∨ io = 1 := by omega
    · obtain rfl := Option.some.inj zo
      have f0 := zF.old (s := 3) (v := .pointer (some ⟨w.heap.size + 1, 0, none⟩)) (by kernel_rfl) rfl
      refine Or.inl ⟨wanted_no rfl, ?_⟩
      exact wp_val (.pointer (some ⟨w.heap.size + 1, 2, none⟩)) (by simp [go_sem, f0]) ⟨_, rfl, Gr.refl _, rfl⟩
    · obtain rfl := Option.some.inj zo
      have l0 := on_of zD 0 (by kernel_rfl)
      have f0 := zF.at (s := 5) (i := 0) (by kernel_rfl) (by simp) l0
      have e0 : vals 0 = .pointer (some ⟨w.heap.size + 1, 2, none⟩) := zR 0 l0
      rw [e0] at f0
      refine Or.inl ⟨wanted_no rfl, ?_⟩
      exact wp_val (.bool false) (by simp [go_sem, f0, Kc2_2]) ⟨_, rfl, Gr.refl _, rfl⟩
  case hf =>
    intro vals v1 hg zR
    have e1_0 : vals 0 = .pointer (some ⟨w.heap.size + 1, 2, none⟩) := zR 0 (by simp)
    have e1_1 : vals 1 = .bool false := zR 1 (by simp)
    simp only [putFrom, Act.put, List.setIfInBounds_toArray, List.set_cons_zero, List.set_cons_succ, e1_0, e1_1]
    clear zR e1_0 e1_1
    replace G := G.trans hg
    replace c1 := c1.gr hg
    replace c2 := c2.gr hg
    replace HQ := fun k => (HQ k).gr hg
    replace Sx := Sx.gr hg
    replace Sy := Sy.gr hg
    clear hg
    go_upto_region 3 with fail
    refine wp_region_qS (by kernel_rfl) [.c (.pointer (some ⟨w.heap.size + 1, 0, none⟩)), .c (.slice p (dl (x)) n), .c (.pointer (some ⟨w.heap.size, 1, none⟩)), .c (.slice (qc 0).1 (dl (P)) (qc 0).2), .c (.int .i64 zx), .c (.bool false), .c (.bool false), .c (.pointer (some ⟨w.heap.size + 1, 1, none⟩)), .c (.slice q (dl (y)) m), .c (.pointer (some ⟨w.heap.size, 1, none⟩)), .c (.slice (qc 0).1 (dl (P)) (qc 0).2), .c (.int .i64 zy), .c (.bool true), .c (.bool true)] ?hs ?hf
    case hs =>
      intro listed vals a1 v2 io oo hg zR zF zo zD
      have Hc1 : blk v2 (w.heap.size) = crA id (six P A B N X Y) qc := (hg.blk _ c1.p).trans c1.h
      have Kc1_1 : v2.cell? ⟨w.heap.size, 1, none⟩ = some (.slice (qc 0).1 (dl (P)) (qc 0).2) := by rw [cell_blk, Hc1]; rfl
      have Hc2 : blk v2 (w.heap.size + 1) = ptA p (x) n q (y) m false := (hg.blk _ c2.p).trans c2.h
      have Kc2_0 : v2.cell? ⟨w.heap.size + 1, 0, none⟩ = some (.slice p (dl (x)) n) := by rw [cell_blk, Hc2]; rfl
      have Kc2_1 : v2.cell? ⟨w.heap.size + 1, 1, none⟩ = some (.slice q (dl (y)) m) := by rw [cell_blk, Hc2]; rfl
      have zi : io < 14 := by simpa using (Array.getElem?_eq_some_iff.1 zo).1
      obtain rfl | rfl | rfl | rfl | rfl | rfl | rfl | rfl | rfl | rfl | rfl | rfl | rfl | rfl : io = 0 ∨ io = 1 ∨ io = 2 ∨ io = 3 ∨ io = 4 ∨ io = 5 ∨ io = 6 ∨ io = 7 ∨ io = 8 ∨ io = 9 ∨ io = 10 ∨ io = 11 ∨ io = 12 ∨ io = 13 := by omega
      · obtain rfl := Option.some.inj zo
        have f0 := zF.old (s := 3) (v := .pointer (some ⟨w.heap.size + 1, 0, none⟩)) (by kernel_rfl) rfl
        refine Or.inl ⟨wanted_no rfl, ?_⟩
        exact wp_val (.pointer (some ⟨w.heap.size + 1, 0, none⟩)) (by simp [go_sem, f0]) ⟨_, rfl, Gr.refl _, rfl⟩
      · obtain rfl := Option.some.inj zo
        have l0 := on_of zD 0 (by kernel_rfl)
        have f0 := zF.at (s := 17) (i := 0) (by kernel_rfl) (by simp) l0
        have e0 : vals 0 = .pointer (some ⟨w.heap.size + 1, 0, none⟩) := zR 0 l0
        rw [e0] at f0
        refine Or.inl ⟨wanted_no rfl, ?_⟩
        exact wp_val (.slice p (dl (x)) n) (by simp [go_sem, f0, Kc2_0]) ⟨_, rfl, Gr.refl _, rfl⟩
      · obtain rfl := Option.some.inj zo
        have f0 := zF.old (s := 2) (v := .pointer (some ⟨w.heap.size, 0, none⟩)) (by kernel_rfl) rfl
        refine Or.inl ⟨wanted_no rfl, ?_⟩
        exact wp_val (.pointer (some ⟨w.heap.size, 1, none⟩)) (by simp [go_sem, f0]) ⟨_, rfl, Gr.refl _, rfl⟩
      · obtain rfl := Option.some.inj zo
        have l0 := on_of zD 2 (by kernel_rfl)
        have f0 := zF.at (s := 19) (i := 2) (by kernel_rfl) (by simp) l0
        have e0 : vals 2 = .pointer (some ⟨w.heap.size, 1, none⟩) := zR 2 l0
        rw [e0] at f0
        refine Or.inl ⟨wanted_no rfl, ?_⟩
        exact wp_val (.slice (qc 0).1 (dl (P)) (qc 0).2) (by simp [go_sem, f0, Kc1_1]) ⟨_, rfl, Gr.refl _, rfl⟩
      · obtain rfl := Option.some.inj zo
        have l0 := on_of zD 1 (by kernel_rfl)
        have f0 := zF.at (s := 18) (i := 1) (by kernel_rfl) (by simp) l0
        have e0 : vals 1 = .slice p (dl (x)) n := zR 1 l0
        rw [e0] at f0
        have l1 := on_of zD 3 (by kernel_rfl)
        have f1 := zF.at (s := 20) (i := 3) (by kernel_rfl) (by simp) l1
        have e1 : vals 3 = .slice (qc 0).1 (dl (P)) (qc 0).2 := zR 3 l1
        rw [e1] at f1
        refine Or.inl ⟨wanted_no rfl, ?_⟩
        exact wp_retz (k := .c (.int .i64 zx)) (by simp [go_sem, f0, f1]) (show Calls Try.prog 26 #[.slice p (dl (x)) n, .slice (qc 0).1 (dl (P)) (qc 0).2] v2 (Rt (.c (.int .i64 zx)) v2) from cz_any (Sx.gr hg) ((HQ 0).gr hg) hx4 hd ex) (fun u w2 hu hg2 => ⟨_, rfl, hg2, hu⟩)
      · obtain rfl := Option.some.inj zo
        have l0 := on_of zD 4 (by kernel_rfl)
        have f0 := zF.at (s := 21) (i := 4) (by kernel_rfl) (by simp) l0
        have e0 : vals 4 = .int .i64 zx := zR 4 l0
        rw [e0] at f0
        refine Or.inl ⟨wanted_no rfl, ?_⟩
        exact wp_val (.bool false) (by simp [go_sem, f0, bx]) ⟨_, rfl, Gr.refl _, rfl⟩
      · obtain rfl := Option.some.inj zo
        have l0 := on_of zD 5 (by kernel_rfl)
        have f0 := zF.at (s := 22) (i := 5) (by kernel_rfl) (by simp) l0
        have e0 : vals 5 = .bool false := zR 5 l0
        rw [e0] at f0
        refine Or.inl ⟨wanted_no rfl, ?_⟩
        exact wp_val (.bool false) (by simp [go_sem, f0]) ⟨_, rfl, Gr.refl _, rfl⟩
      · obtain rfl := Option.some.inj zo
        have lg := on_of zD 6 (by kernel_rfl)
        have fg := zF.at (s := 23) (i := 6) (by kernel_rfl) (by simp) lg
        rw [show vals 6 = .bool false from zR 6 lg] at fg
        have f0 := zF.old (s := 3) (v := .pointer (some ⟨w.heap.size + 1, 0, none⟩)) (by kernel_rfl) rfl
        refine Or.inl ⟨wanted_at (j := 6) (s := 23) rfl rfl rfl fg, ?_⟩
        exact wp_val (.pointer (some ⟨w.heap.size + 1, 1, none⟩)) (by simp [go_sem, f0]) ⟨_, rfl, Gr.refl _, rfl⟩
      · obtain rfl := Option.some.inj zo
        have lg := on_of zD 6 (by kernel_rfl)
        have fg := zF.at (s := 23) (i := 6) (by kernel_rfl) (by simp) lg
        rw [show vals 6 = .bool false from zR 6 lg] at fg
        have l0 := on_of zD 7 (by kernel_rfl)
        have f0 := zF.at (s := 24) (i := 7) (by kernel_rfl) (by simp) l0
        have e0 : vals 7 = .pointer (some ⟨w.heap.size + 1, 1, none⟩) := zR 7 l0
        rw [e0] at f0
        refine Or.inl ⟨wanted_at (j := 6) (s := 23) rfl rfl rfl fg, ?_⟩
        exact wp_val (.slice q (dl (y)) m) (by simp [go_sem, f0, Kc2_1]) ⟨_, rfl, Gr.refl _, rfl⟩
      · obtain rfl := Option.some.inj zo
        have lg := on_of zD 6 (by kernel_rfl)
        have fg := zF.at (s := 23) (i := 6) (by kernel_rfl) (by simp) lg
        rw [show vals 6 = .bool false from zR 6 lg] at fg
        have f0 := zF.old (s := 2) (v := .pointer (some ⟨w.heap.size, 0, none⟩)) (by kernel_rfl) rfl
        refine Or.inl ⟨wanted_at (j := 6) (s := 23) rfl rfl rfl fg, ?_⟩
        exact wp_val (.pointer (some ⟨w.heap.size, 1, none⟩)) (by simp [go_sem, f0]) ⟨_, rfl, Gr.refl _, rfl⟩
      · obtain rfl := Option.some.inj zo
        have lg := on_of zD 6 (by kernel_rfl)
        have fg := zF.at (s := 23) (i := 6) (by kernel_rfl) (by simp) lg
        rw [show vals 6 = .bool false from zR 6 lg] at fg
        have l0 := on_of zD 9 (by kernel_rfl)
        have f0 := zF.at (s := 26) (i := 9) (by kernel_rfl) (by simp) l0
        have e0 : vals 9 = .pointer (some ⟨w.heap.size, 1, none⟩) := zR 9 l0
        rw [e0] at f0
        refine Or.inl ⟨wanted_at (j := 6) (s := 23) rfl rfl rfl fg, ?_⟩
        exact wp_val (.slice (qc 0).1 (dl (P)) (qc 0).2) (by simp [go_sem, f0, Kc1_1]) ⟨_, rfl, Gr.refl _, rfl⟩
      · obtain rfl := Option.some.inj zo
        have lg := on_of zD 6 (by kernel_rfl)
        have fg := zF.at (s := 23) (i := 6) (by kernel_rfl) (by simp) lg
        rw [show vals 6 = .bool false from zR 6 lg] at fg
        have l0 := on_of zD 8 (by kernel_rfl)
        have f0 := zF.at (s := 25) (i := 8) (by kernel_rfl) (by simp) l0
        have e0 : vals 8 = .slice q (dl (y)) m := zR 8 l0
        rw [e0] at f0
        have l1 := on_of zD 10 (by kernel_rfl)
        have f1 := zF.at (s := 27) (i := 10) (by kernel_rfl) (by simp) l1
        have e1 : vals 10 = .slice (qc 0).1 (dl (P)) (qc 0).2 := zR 10 l1
        rw [e1] at f1
        refine Or.inl ⟨wanted_at (j := 6) (s := 23) rfl rfl rfl fg, ?_⟩
        exact wp_retz (k := .c (.int .i64 zy)) (by simp [go_sem, f0, f1]) (show Calls Try.prog 26 #[.slice q (dl (y)) m, .slice (qc 0).1 (dl (P)) (qc 0).2] v2 (Rt (.c (.int .i64 zy)) v2) from cz_any (Sy.gr hg) ((HQ 0).gr hg) hy4 hd ey) (fun u w2 hu hg2 => ⟨_, rfl, hg2, hu⟩)
      · obtain rfl := Option.some.inj zo
        have lg := on_of zD 6 (by kernel_rfl)
        have fg := zF.at (s := 23) (i := 6) (by kernel_rfl) (by simp) lg
        rw [show vals 6 = .bool false from zR 6 lg] at fg
        have l0 := on_of zD 11 (by kernel_rfl)
        have f0 := zF.at (s := 28) (i := 11) (by kernel_rfl) (by simp) l0
        have e0 : vals 11 = .int .i64 zy := zR 11 l0
        rw [e0] at f0
        refine Or.inl ⟨wanted_at (j := 6) (s := 23) rfl rfl rfl fg, ?_⟩
        exact wp_val (.bool true) (by simp [go_sem, f0, by1]) ⟨_, rfl, Gr.refl _, rfl⟩
      · obtain rfl := Option.some.inj zo
        have l0 := on_of zD 6 (by kernel_rfl)
        have f0 := zF.at (s := 23) (i := 6) (by kernel_rfl) (by simp) l0
        have e0 : vals 6 = .bool false := zR 6 l0
        rw [e0] at f0
        have l1 := on_of zD 12 (by kernel_rfl)
        have f1 := zF.at (s := 29) (i := 12) (by kernel_rfl) (by simp) l1
        have e1 : vals 12 = .bool true := zR 12 l1
        rw [e1] at f1
        refine Or.inl ⟨wanted_no rfl, ?_⟩
        exact wp_val (.bool true) (by simp [go_sem, f0, f1]) ⟨_, rfl, Gr.refl _, rfl⟩
    case hf =>
      intro vals v2 hg zR
      have e3_0 : vals 0 = .pointer (some ⟨w.heap.size + 1, 0, none⟩) := zR 0 (by simp)
      have e3_1 : vals 1 = .slice p (dl (x)) n := zR 1 (by simp)
      have e3_2 : vals 2 = .pointer (some ⟨w.heap.size, 1, none⟩) := zR 2 (by simp)
      have e3_3 : vals 3 = .slice (qc 0).1 (dl (P)) (qc 0).2 := zR 3 (by simp)
      have e3_4 : vals 4 = .int .i64 zx := zR 4 (by simp)
      have e3_5 : vals 5 = .bool false := zR 5 (by simp)
      have e3_6 : vals 6 = .bool false := zR 6 (by simp)
      have e3_7 : vals 7 = .pointer (some ⟨w.heap.size + 1, 1, none⟩) := zR 7 (by simp)
      have e3_8 : vals 8 = .slice q (dl (y)) m := zR 8 (by simp)
      have e3_9 : vals 9 = .pointer (some ⟨w.heap.size, 1, none⟩) := zR 9 (by simp)
      have e3_10 : vals 10 = .slice (qc 0).1 (dl (P)) (qc 0).2 := zR 10 (by simp)
      have e3_11 : vals 11 = .int .i64 zy := zR 11 (by simp)
      have e3_12 : vals 12 = .bool true := zR 12 (by simp)
      have e3_13 : vals 13 = .bool true := zR 13 (by simp)
      simp only [putFrom, Act.put, List.setIfInBounds_toArray, List.set_cons_zero, List.set_cons_succ, e3_0, e3_1, e3_2, e3_3, e3_4, e3_5, e3_6, e3_7, e3_8, e3_9, e3_10, e3_11, e3_12, e3_13]
      clear zR e3_0 e3_1 e3_2 e3_3 e3_4 e3_5 e3_6 e3_7 e3_8 e3_9 e3_10 e3_11 e3_12 e3_13
      replace G := G.trans hg
      replace c1 := c1.gr hg
      replace c2 := c2.gr hg
      replace HQ := fun k => (HQ k).gr hg
      replace Sx := Sx.gr hg
      replace Sy := Sy.gr hg
      clear hg
      go_wp2_with fail
      go_ret
      exact ⟨rfl, G⟩
set_option maxRecDepth 100000 in
set_option maxHeartbeats 1600000 in
theorem ron_ok (id : Int) (P A B N X Y : Nat) (qc : Nat → Option Addr × Nat) (x y : Nat) (p q : Option Addr) (n m : Nat) (hx4 : dl x ≤ 400) (hy4 : dl y ≤ 400) (hd : dl P ≤ 400) (lx : x < P) (ly : y < P) (lA : A < P) (lB : B < P) (w : World) (HQ : ∀ k, Sl w (qc k).1 (six P A B N X Y k)) (Sx : Sl w p x) (Sy : Sl w q y) :
    Calls Try.prog 17 #[.agg (crA id (six P A B N X Y) qc), .agg (ptA p x n q y m false)] w fun e w' => e = .returned (.bool (decide (y * y % P = ((x * x % P + A) % P * x % P + B) % P))) ∧ Gr w w' := by
  have hP : 0 < P := by omega
  obtain ⟨zx, ex⟩ : ∃ z, cmpZ x P = z := ⟨_, rfl⟩
  have bx : decide (0 ≤ zx) = false := by rw [← ex]; unfold cmpZ; rw [if_pos lx]; decide
  obtain ⟨zy, ey⟩ : ∃ z, cmpZ y P = z := ⟨_, rfl⟩
  have by1 : decide (0 ≤ zy) = false := by rw [← ey]; unfold cmpZ; rw [if_pos ly]; decide
  obtain ⟨t1, ht1⟩ : ∃ z, y * y % P = z := ⟨_, rfl⟩
  have lt1 : t1 < P := ht1 ▸ Nat.mod_lt _ hP
  obtain ⟨R, hR1⟩ : ∃ z, ((x * x % P + A) % P * x % P + B) % P = z := ⟨_, rfl⟩
  have lR : R < P := hR1 ▸ Nat.mod_lt _ hP
  rw [hR1, ht1]
  obtain ⟨zz, ez⟩ : ∃ z, cmpZ t1 R = z := ⟨_, rfl⟩
  obtain ⟨r, hr⟩ : ∃ r, decide (t1 = R) = r := ⟨_, rfl⟩
  have bz : (zz == 0) = r := by rw [← ez, ← hr]; exact cmpZ_nought _ _
  rw [hr]
  go_enter Try.func17, Try.ntmps17
  go_upto_region 1 with fail
  refine gen_w (fun v => Gr w v ∧ Vr v (w.heap.size) (crA id (six P A B N X Y) qc) ∧ Vr v (w.heap.size + 1) (ptA p x n q y m false)) ⟨(by repeat (first | exact Gr.refl _ | apply Gr.drewN | apply Gr.drew | apply Gr.alloc | apply Gr.gro)), ⟨by simp [go_sem], by simp [go_sem], by simp [go_sem]⟩, ⟨by simp [go_sem], by simp [go_sem], by simp [go_sem]⟩⟩ ?_
  rintro v0 ⟨G, c1, c2⟩
  replace HQ := fun k => (HQ k).gr G
  replace Sx := Sx.gr G
  replace Sy := Sy.gr G
  refine wp_region_qS (by kernel_rfl) [.c (.pointer (some ⟨w.heap.size + 1, 2, none⟩)), .c (.bool false)] ?hs ?hf
  case hs =>
    intro listed vals a1 v1 io oo hg zR zF zo zD
    have Hc2 : blk v1 (w.heap.size + 1) = ptA p (x) n q (y) m false := (hg.blk _ c2.p).trans c2.h
    have Kc2_2 : v1.cell? ⟨w.heap.size + 1, 2, none⟩ = some (.bool false) := by rw [cell_blk, Hc2]; rfl
    have zi : io < 2 := by simpa using (Array.getElem?_eq_some_iff.1 zo).1
    obtain rfl | rfl : io = 0 ∨ io = 1 := by omega
    · obtain rfl := Option.some.inj zo
      have f0 := zF.old (s := 3) (v := .pointer (some ⟨w.heap.size + 1, 0, none⟩)) (by kernel_rfl) rfl
      refine Or.inl ⟨wanted_no rfl, ?_⟩
      exact wp_val (.pointer (some ⟨w.heap.size + 1, 2, none⟩)) (by simp [go_sem, f0]) ⟨_, rfl, Gr.refl _, rfl⟩
    · obtain rfl := Option.some.inj zo
      have l0 := on_of zD 0 (by kernel_rfl)
      have f0 := zF.at (s := 5) (i := 0) (by kernel_rfl) (by simp) l0
      have e0 : vals 0 = .pointer (some ⟨w.heap.size + 1, 2, none⟩) := zR 0 l0
      rw [e0] at f0
      refine Or.inl ⟨wanted_no rfl, ?_⟩
      exact wp_val (.bool false) (by simp [go_sem, f0, Kc2_2]) ⟨_, rfl, Gr.refl _, rfl⟩
  case hf =>
    intro vals v1 hg zR
    have e1_0 : vals 0 = .pointer (some ⟨w.heap.size + 1, 2, none⟩) := zR 0 (by simp)
    have e1_1 : vals 1 = .bool false := zR 1 (by simp)
    simp only [putFrom, Act.put, List.setIfInBounds_toArray, List.set_cons_zero, List.set_cons_succ, e1_0, e1_1]
    clear zR e1_0 e1_1
    replace G := G.trans hg
    replace c1 := c1.gr hg
    replace c2 := c2.gr hg
    replace HQ := fun k => (HQ k).gr hg
    replace Sx := Sx.gr hg
    replace Sy := Sy.gr hg
    clear hg
    go_upto_region 3 with fail
    refine wp_region_qS (by kernel_rfl) [.c (.pointer (some ⟨w.heap.size + 1, 0, none⟩)), .c (.slice p (dl (x)) n), .c (.pointer (some ⟨w.heap.size, 1, none⟩)), .c (.slice (qc 0).1 (dl (P)) (qc 0).2), .c (.int .i64 zx), .c (.bool false), .c (.bool false), .c (.pointer (some ⟨w.heap.size + 1, 1, none⟩)), .c (.slice q (dl (y)) m), .c (.pointer (some ⟨w.heap.size, 1, none⟩)), .c (.slice (qc 0).1 (dl (P)) (qc 0).2), .c (.int .i64 zy), .c (.bool false), .c (.bool false)] ?hs ?hf
    case hs =>
      intro listed vals a1 v2 io oo hg zR zF zo zD
      have Hc1 : blk v2 (w.heap.size) = crA id (six P A B N X Y) qc := (hg.blk _ c1.p).trans c1.h
      have Kc1_1 : v2.cell? ⟨w.heap.size, 1, none⟩ = some (.slice (qc 0).1 (dl (P)) (qc 0).2) := by rw [cell_blk, Hc1]; rfl
      have Hc2 : blk v2 (w.heap.size + 1) = ptA p (x) n q (y) m false := (hg.blk _ c2.p).trans c2.h
      have Kc2_0 : v2.cell? ⟨w.heap.size + 1, 0, none⟩ = some (.slice p (dl (x)) n) := by rw [cell_blk, Hc2]; rfl
      have Kc2_1 : v2.cell? ⟨w.heap.size + 1, 1, none⟩ = some (.slice q (dl (y)) m) := by rw [cell_blk, Hc2]; rfl
      have zi : io < 14 := by simpa using (Array.getElem?_eq_some_iff.1 zo).1
      obtain rfl | rfl | rfl | rfl | rfl | rfl | rfl | rfl | rfl | rfl | rfl | rfl | rfl | rfl : io = 0 ∨ io = 1 ∨ io = 2 ∨ io = 3 ∨ io = 4 ∨ io = 5 ∨ io = 6 ∨ io = 7 ∨ io = 8 ∨ io = 9 ∨ io = 10 ∨ io = 11 ∨ io = 12 ∨ io = 13 := by omega
      · obtain rfl := Option.some.inj zo
        have f0 := zF.old (s := 3) (v := .pointer (some ⟨w.heap.size + 1, 0, none⟩)) (by kernel_rfl) rfl
        refine Or.inl ⟨wanted_no rfl, ?_⟩
        exact wp_val (.pointer (some ⟨w.heap.size + 1, 0, none⟩)) (by simp [go_sem, f0]) ⟨_, rfl, Gr.refl _, rfl⟩
      · obtain rfl := Option.some.inj zo
        have l0 := on_of zD 0 (by kernel_rfl)
        have f0 := zF.at (s := 17) (i := 0) (by kernel_rfl) (by simp) l0
        have e0 : vals 0 = .pointer (some ⟨w.heap.size + 1, 0, none⟩) := zR 0 l0
        rw [e0] at f0
        refine Or.inl ⟨wanted_no rfl, ?_⟩
        exact wp_val (.slice p (dl (x)) n) (by simp [go_sem, f0, Kc2_0]) ⟨_, rfl, Gr.refl _, rfl⟩
      · obtain rfl := Option.some.inj zo
        have f0 := zF.old (s := 2) (v := .pointer (some ⟨w.heap.size, 0, none⟩)) (by kernel_rfl) rfl
        refine Or.inl ⟨wanted_no rfl, ?_⟩
        exact wp_val (.pointer (some ⟨w.heap.size, 1, none⟩)) (by simp [go_sem, f0]) ⟨_, rfl, Gr.refl _, rfl⟩
      · obtain rfl := Option.some.inj zo
        have l0 := on_of zD 2 (by kernel_rfl)
        have f0 := zF.at (s := 19) (i := 2) (by kernel_rfl) (by simp) l0
        have e0 : vals 2 = .pointer (some ⟨w.heap.size, 1, none⟩) := zR 2 l0
        rw [e0] at f0
        refine Or.inl ⟨wanted_no rfl, ?_⟩
        exact wp_val (.slice (qc 0).1 (dl (P)) (qc 0).2) (by simp [go_sem, f0, Kc1_1]) ⟨_, rfl, Gr.refl _, rfl⟩
      · obtain rfl := Option.some.inj zo
        have l0 := on_of zD 1 (by kernel_rfl)
        have f0 := zF.at (s := 18) (i := 1) (by kernel_rfl) (by simp) l0
        have e0 : vals 1 = .slice p (dl (x)) n := zR 1 l0
        rw [e0] at f0
        have l1 := on_of zD 3 (by kernel_rfl)
        have f1 := zF.at (s := 20) (i := 3) (by kernel_rfl) (by simp) l1
        have e1 : vals 3 = .slice (qc 0).1 (dl (P)) (qc 0).2 := zR 3 l1
        rw [e1] at f1
        refine Or.inl ⟨wanted_no rfl, ?_⟩
        exact wp_retz (k := .c (.int .i64 zx)) (by simp [go_sem, f0, f1]) (show Calls Try.prog 26 #[.slice p (dl (x)) n, .slice (qc 0).1 (dl (P)) (qc 0).2] v2 (Rt (.c (.int .i64 zx)) v2) from cz_any (Sx.gr hg) ((HQ 0).gr hg) hx4 hd ex) (fun u w2 hu hg2 => ⟨_, rfl, hg2, hu⟩)
      · obtain rfl := Option.some.inj zo
        have l0 := on_of zD 4 (by kernel_rfl)
        have f0 := zF.at (s := 21) (i := 4) (by kernel_rfl) (by simp) l0
        have e0 : vals 4 = .int .i64 zx := zR 4 l0
        rw [e0] at f0
        refine Or.inl ⟨wanted_no rfl, ?_⟩
        exact wp_val (.bool false) (by simp [go_sem, f0, bx]) ⟨_, rfl, Gr.refl _, rfl⟩
      · obtain rfl := Option.some.inj zo
        have l0 := on_of zD 5 (by kernel_rfl)
        have f0 := zF.at (s := 22) (i := 5) (by kernel_rfl) (by simp) l0
        have e0 : vals 5 = .bool false := zR 5 l0
        rw [e0] at f0
        refine Or.inl ⟨wanted_no rfl, ?_⟩
        exact wp_val (.bool false) (by simp [go_sem, f0]) ⟨_, rfl, Gr.refl _, rfl⟩
      · obtain rfl := Option.some.inj zo
        have lg := on_of zD 6 (by kernel_rfl)
        have fg := zF.at (s := 23) (i := 6) (by kernel_rfl) (by simp) lg
        rw [show vals 6 = .bool false from zR 6 lg] at fg
        have f0 := zF.old (s := 3) (v := .pointer (some ⟨w.heap.size + 1, 0, none⟩)) (by kernel_rfl) rfl
        refine Or.inl ⟨wanted_at (j := 6) (s := 23) rfl rfl rfl fg, ?_⟩
        exact wp_val (.pointer (some ⟨w.heap.size + 1, 1, none⟩)) (by simp [go_sem, f0]) ⟨_, rfl, Gr.refl _, rfl⟩
      · obtain rfl := Option.some.inj zo
        have lg := on_of zD 6 (by kernel_rfl)
        have fg := zF.at (s := 23) (i := 6) (by kernel_rfl) (by simp) lg
        rw [show vals 6 = .bool false from zR 6 lg] at fg
        have l0 := on_of zD 7 (by kernel_rfl)
        have f0 := zF.at (s := 24) (i := 7) (by kernel_rfl) (by simp) l0
        have e0 : vals 7 = .pointer (some ⟨w.heap.size + 1, 1, none⟩) := zR 7 l0
        rw [e0] at f0
        refine Or.inl ⟨wanted_at (j := 6) (s := 23) rfl rfl rfl fg, ?_⟩
        exact wp_val (.slice q (dl (y)) m) (by simp [go_sem, f0, Kc2_1]) ⟨_, rfl, Gr.refl _, rfl⟩
      · obtain rfl := Option.some.inj zo
        have lg := on_of zD 6 (by kernel_rfl)
        have fg := zF.at (s := 23) (i := 6) (by kernel_rfl) (by simp) lg
        rw [show vals 6 = .bool false from zR 6 lg] at fg
        have f0 := zF.old (s := 2) (v := .pointer (some ⟨w.heap.size, 0, none⟩)) (by kernel_rfl) rfl
        refine Or.inl ⟨wanted_at (j := 6) (s := 23) rfl rfl rfl fg, ?_⟩
        exact wp_val (.pointer (some ⟨w.heap.size, 1, none⟩)) (by simp [go_sem, f0]) ⟨_, rfl, Gr.refl _, rfl⟩
      · obtain rfl := Option.some.inj zo
        have lg := on_of zD 6 (by kernel_rfl)
        have fg := zF.at (s := 23) (i := 6) (by kernel_rfl) (by simp) lg
        rw [show vals 6 = .bool false from zR 6 lg] at fg
        have l0 := on_of zD 9 (by kernel_rfl)
        have f0 := zF.at (s := 26) (i := 9) (by kernel_rfl) (by simp) l0
        have e0 : vals 9 = .pointer (some ⟨w.heap.size, 1, none⟩) := zR 9 l0
        rw [e0] at f0
        refine Or.inl ⟨wanted_at (j := 6) (s := 23) rfl rfl rfl fg, ?_⟩
        exact wp_val (.slice (qc 0).1 (dl (P)) (qc 0).2) (by simp [go_sem, f0, Kc1_1]) ⟨_, rfl, Gr.refl _, rfl⟩
      · obtain rfl := Option.some.inj zo
        have lg := on_of zD 6 (by kernel_rfl)
        have fg := zF.at (s := 23) (i := 6) (by kernel_rfl) (by simp) lg
        rw [show vals 6 = .bool false from zR 6 lg] at fg
        have l0 := on_of zD 8 (by kernel_rfl)
        have f0 := zF.at (s := 25) (i := 8) (by kernel_rfl) (by simp) l0
        have e0 : vals 8 = .slice q (dl (y)) m := zR 8 l0
        rw [e0] at f0
        have l1 := on_of zD 10 (by kernel_rfl)
        have f1 := zF.at (s := 27) (i := 10) (by kernel_rfl) (by simp) l1
        have e1 : vals 10 = .slice (qc 0).1 (dl (P)) (qc 0).2 := zR 10 l1
        rw [e1] at f1
        refine Or.inl ⟨wanted_at (j := 6) (s := 23) rfl rfl rfl fg, ?_⟩
        exact wp_retz (k := .c (.int .i64 zy)) (by simp [go_sem, f0, f1]) (show Calls Try.prog 26 #[.slice q (dl (y)) m, .slice (qc 0).1 (dl (P)) (qc 0).2] v2 (Rt (.c (.int .i64 zy)) v2) from cz_any (Sy.gr hg) ((HQ 0).gr hg) hy4 hd ey) (fun u w2 hu hg2 => ⟨_, rfl, hg2, hu⟩)
      · obtain rfl := Option.some.inj zo
        have lg := on_of zD 6 (by kernel_rfl)
        have fg := zF.at (s := 23) (i := 6) (by kernel_rfl) (by simp) lg
        rw [show vals 6 = .bool false from zR 6 lg] at fg
        have l0 := on_of zD 11 (by kernel_rfl)
        have f0 := zF.at (s := 28) (i := 11) (by kernel_rfl) (by simp) l0
        have e0 : vals 11 = .int .i64 zy := zR 11 l0
        rw [e0] at f0
        refine Or.inl ⟨wanted_at (j := 6) (s := 23) rfl rfl rfl fg, ?_⟩
        exact wp_val (.bool false) (by simp [go_sem, f0, by1]) ⟨_, rfl, Gr.refl _, rfl⟩
      · obtain rfl := Option.some.inj zo
        have l0 := on_of zD 6 (by kernel_rfl)
        have f0 := zF.at (s := 23) (i := 6) (by kernel_rfl) (by simp) l0
        have e0 : vals 6 = .bool false := zR 6 l0
        rw [e0] at f0
        have l1 := on_of zD 12 (by kernel_rfl)
        have f1 := zF.at (s := 29) (i := 12) (by kernel_rfl) (by simp) l1
        have e1 : vals 12 = .bool false := zR 12 l1
        rw [e1] at f1
        refine Or.inl ⟨wanted_no rfl, ?_⟩
        exact wp_val (.bool false) (by simp [go_sem, f0, f1]) ⟨_, rfl, Gr.refl _, rfl⟩
    case hf =>
      intro vals v2 hg zR
      have e3_0 : vals 0 = .pointer (some ⟨w.heap.size + 1, 0, none⟩) := zR 0 (by simp)
      have e3_1 : vals 1 = .slice p (dl (x)) n := zR 1 (by simp)
      have e3_2 : vals 2 = .pointer (some ⟨w.heap.size, 1, none⟩) := zR 2 (by simp)
      have e3_3 : vals 3 = .slice (qc 0).1 (dl (P)) (qc 0).2 := zR 3 (by simp)
      have e3_4 : vals 4 = .int .i64 zx := zR 4 (by simp)
      have e3_5 : vals 5 = .bool false := zR 5 (by simp)
      have e3_6 : vals 6 = .bool false := zR 6 (by simp)
      have e3_7 : vals 7 = .pointer (some ⟨w.heap.size + 1, 1, none⟩) := zR 7 (by simp)
      have e3_8 : vals 8 = .slice q (dl (y)) m := zR 8 (by simp)
      have e3_9 : vals 9 = .pointer (some ⟨w.heap.size, 1, none⟩) := zR 9 (by simp)
      have e3_10 : vals 10 = .slice (qc 0).1 (dl (P)) (qc 0).2 := zR 10 (by simp)
      have e3_11 : vals 11 = .int .i64 zy := zR 11 (by simp)
      have e3_12 : vals 12 = .bool false := zR 12 (by simp)
      have e3_13 : vals 13 = .bool false := zR 13 (by simp)
      simp only [putFrom, Act.put, List.setIfInBounds_toArray, List.set_cons_zero, List.set_cons_succ, e3_0, e3_1, e3_2, e3_3, e3_4, e3_5, e3_6, e3_7, e3_8, e3_9, e3_10, e3_11, e3_12, e3_13]
      clear zR e3_0 e3_1 e3_2 e3_3 e3_4 e3_5 e3_6 e3_7 e3_8 e3_9 e3_10 e3_11 e3_12 e3_13
      replace G := G.trans hg
      replace c1 := c1.gr hg
      replace c2 := c2.gr hg
      replace HQ := fun k => (HQ k).gr hg
      replace Sx := Sx.gr hg
      replace Sy := Sy.gr hg
      clear hg
      go_upto_region 5 with fail
      refine wp_region_q (by kernel_rfl) (by kernel_rfl) [.c (.pointer (some ⟨w.heap.size + 1, 1, none⟩)), .c (.slice q (dl (y)) m), .c (.pointer (some ⟨w.heap.size + 1, 1, none⟩)), .c (.slice q (dl (y)) m), .c (.pointer (some ⟨w.heap.size, 1, none⟩)), .c (.slice (qc 0).1 (dl (P)) (qc 0).2), .n (t1), .c (.agg (crA id (six P A B N X Y) qc)), .c (.pointer (some ⟨w.heap.size + 1, 0, none⟩)), .c (.slice p (dl (x)) n), .n (R), .c (.int .i64 zz), .c (.bool r), .c (.bool r)] ?hs ?hf
      case hs =>
        intro listed vals a1 v3 io oo hg zR zF zo zD
        have Hc1 : blk v3 (w.heap.size) = crA id (six P A B N X Y) qc := (hg.blk _ c1.p).trans c1.h
        have Kc1_1 : v3.cell? ⟨w.heap.size, 1, none⟩ = some (.slice (qc 0).1 (dl (P)) (qc 0).2) := by rw [cell_blk, Hc1]; rfl
        have Hc2 : blk v3 (w.heap.size + 1) = ptA p (x) n q (y) m false := (hg.blk _ c2.p).trans c2.h
        have Kc2_1 : v3.cell? ⟨w.heap.size + 1, 1, none⟩ = some (.slice q (dl (y)) m) := by rw [cell_blk, Hc2]; rfl
        have Kc2_0 : v3.cell? ⟨w.heap.size + 1, 0, none⟩ = some (.slice p (dl (x)) n) := by rw [cell_blk, Hc2]; rfl
        have zi : io < 14 := by simpa using (Array.getElem?_eq_some_iff.1 zo).1
        obtain rfl | rfl | rfl | rfl | rfl | rfl | rfl | rfl | rfl | rfl | rfl | rfl | rfl | rfl : io = 0 ∨ io = 1 ∨ io = 2 ∨ io = 3 ∨ io = 4 ∨ io = 5 ∨ io = 6 ∨ io = 7 ∨ io = 8 ∨ io = 9 ∨ io = 10 ∨ io = 11 ∨ io = 12 ∨ io = 13 := by omega
        · obtain rfl := Option.some.inj zo
          have f0 := zF.old (s := 3) (v := .pointer (some ⟨w.heap.size + 1, 0, none⟩)) (by kernel_rfl) rfl
          refine Or.inl ⟨wanted_no rfl, ?_⟩
          exact wp_val (.pointer (some ⟨w.heap.size + 1, 1, none⟩)) (by simp [go_sem, f0]) ⟨_, rfl, Gr.refl _, rfl⟩
        · obtain rfl := Option.some.inj zo
          have l0 := on_of zD 0 (by kernel_rfl)
          have f0 := zF.at (s := 31) (i := 0) (by kernel_rfl) (by simp) l0
          have e0 : vals 0 = .pointer (some ⟨w.heap.size + 1, 1, none⟩) := zR 0 l0
          rw [e0] at f0
          refine Or.inl ⟨wanted_no rfl, ?_⟩
          exact wp_val (.slice q (dl (y)) m) (by simp [go_sem, f0, Kc2_1]) ⟨_, rfl, Gr.refl _, rfl⟩
        · obtain rfl := Option.some.inj zo
          have f0 := zF.old (s := 3) (v := .pointer (some ⟨w.heap.size + 1, 0, none⟩)) (by kernel_rfl) rfl
          refine Or.inl ⟨wanted_no rfl, ?_⟩
          exact wp_val (.pointer (some ⟨w.heap.size + 1, 1, none⟩)) (by simp [go_sem, f0]) ⟨_, rfl, Gr.refl _, rfl⟩
        · obtain rfl := Option.some.inj zo
          have l0 := on_of zD 2 (by kernel_rfl)
          have f0 := zF.at (s := 33) (i := 2) (by kernel_rfl) (by simp) l0
          have e0 : vals 2 = .pointer (some ⟨w.heap.size + 1, 1, none⟩) := zR 2 l0
          rw [e0] at f0
          refine Or.inl ⟨wanted_no rfl, ?_⟩
          exact wp_val (.slice q (dl (y)) m) (by simp [go_sem, f0, Kc2_1]) ⟨_, rfl, Gr.refl _, rfl⟩
        · obtain rfl := Option.some.inj zo
          have f0 := zF.old (s := 2) (v := .pointer (some ⟨w.heap.size, 0, none⟩)) (by kernel_rfl) rfl
          refine Or.inl ⟨wanted_no rfl, ?_⟩
          exact wp_val (.pointer (some ⟨w.heap.size, 1, none⟩)) (by simp [go_sem, f0]) ⟨_, rfl, Gr.refl _, rfl⟩
        · obtain rfl := Option.some.inj zo
          have l0 := on_of zD 4 (by kernel_rfl)
          have f0 := zF.at (s := 35) (i := 4) (by kernel_rfl) (by simp) l0
          have e0 : vals 4 = .pointer (some ⟨w.heap.size, 1, none⟩) := zR 4 l0
          rw [e0] at f0
          refine Or.inl ⟨wanted_no rfl, ?_⟩
          exact wp_val (.slice (qc 0).1 (dl (P)) (qc 0).2) (by simp [go_sem, f0, Kc1_1]) ⟨_, rfl, Gr.refl _, rfl⟩
        · obtain rfl := Option.some.inj zo
          have l0 := on_of zD 1 (by kernel_rfl)
          have f0 := zF.at (s := 32) (i := 1) (by kernel_rfl) (by simp) l0
          have e0 : vals 1 = .slice q (dl (y)) m := zR 1 l0
          rw [e0] at f0
          have l1 := on_of zD 3 (by kernel_rfl)
          have f1 := zF.at (s := 34) (i := 3) (by kernel_rfl) (by simp) l1
          have e1 : vals 3 = .slice q (dl (y)) m := zR 3 l1
          rw [e1] at f1
          have l2 := on_of zD 5 (by kernel_rfl)
          have f2 := zF.at (s := 36) (i := 5) (by kernel_rfl) (by simp) l2
          have e2 : vals 5 = .slice (qc 0).1 (dl (P)) (qc 0).2 := zR 5 l2
          rw [e2] at f2
          refine Or.inl ⟨wanted_no rfl, ?_⟩
          exact wp_retz (k := .n (t1)) (by simp [go_sem, f0, f1, f2]) (show Calls Try.prog 27 #[.slice q (dl (y)) m, .slice q (dl (y)) m, .slice (qc 0).1 (dl (P)) (qc 0).2] v3 (Rt (.n (t1)) v3) from mm_any (Sy.gr hg) (Sy.gr hg) ((HQ 0).gr hg) ly ly hd ht1) (fun u w2 hu hg2 => ⟨_, rfl, hg2, hu⟩)
        · obtain rfl := Option.some.inj zo
          have f0 := zF.old (s := 2) (v := .pointer (some ⟨w.heap.size, 0, none⟩)) (by kernel_rfl) rfl
          refine Or.inl ⟨wanted_no rfl, ?_⟩
          exact wp_val (.agg (crA id (six P A B N X Y) qc)) (by simp [go_sem, f0, Hc1]) ⟨_, rfl, Gr.refl _, rfl⟩
        · obtain rfl := Option.some.inj zo
          have f0 := zF.old (s := 3) (v := .pointer (some ⟨w.heap.size + 1, 0, none⟩)) (by kernel_rfl) rfl
          refine Or.inl ⟨wanted_no rfl, ?_⟩
          exact wp_val (.pointer (some ⟨w.heap.size + 1, 0, none⟩)) (by simp [go_sem, f0]) ⟨_, rfl, Gr.refl _, rfl⟩
        · obtain rfl := Option.some.inj zo
          have l0 := on_of zD 8 (by kernel_rfl)
          have f0 := zF.at (s := 39) (i := 8) (by kernel_rfl) (by simp) l0
          have e0 : vals 8 = .pointer (some ⟨w.heap.size + 1, 0, none⟩) := zR 8 l0
          rw [e0] at f0
          refine Or.inl ⟨wanted_no rfl, ?_⟩
          exact wp_val (.slice p (dl (x)) n) (by simp [go_sem, f0, Kc2_0]) ⟨_, rfl, Gr.refl _, rfl⟩
        · obtain rfl := Option.some.inj zo
          have l0 := on_of zD 7 (by kernel_rfl)
          have f0 := zF.at (s := 38) (i := 7) (by kernel_rfl) (by simp) l0
          have e0 : vals 7 = .agg (crA id (six P A B N X Y) qc) := zR 7 l0
          rw [e0] at f0
          have l1 := on_of zD 9 (by kernel_rfl)
          have f1 := zF.at (s := 40) (i := 9) (by kernel_rfl) (by simp) l1
          have e1 : vals 9 = .slice p (dl (x)) n := zR 9 l1
          rw [e1] at f1
          refine Or.inl ⟨wanted_no rfl, ?_⟩
          exact wp_retz (k := .n (R)) (by simp [go_sem, f0, f1]) (show Calls Try.prog 42 #[.agg (crA id (six P A B N X Y) qc), .slice p (dl (x)) n] v3 (Rt (.n (R)) v3) from Rt.n (hR1 ▸ rright_any id P A B N X Y qc x _ _ lx lA lB hd _ (fun k => (HQ k).gr hg) (Sx.gr hg))) (fun u w2 hu hg2 => ⟨_, rfl, hg2, hu⟩)
        · obtain rfl := Option.some.inj zo
          have l0 := on_of zD 6 (by kernel_rfl)
          have f0 := zF.at (s := 37) (i := 6) (by kernel_rfl) (by simp) l0
          obtain ⟨p0, n0, e0, S0⟩ := (show ∃ p n, vals 6 = .slice p (dl (t1)) n ∧ Sl v3 p (t1) from zR 6 l0)
          rw [e0] at f0
          have l1 := on_of zD 10 (by kernel_rfl)
          have f1 := zF.at (s := 41) (i := 10) (by kernel_rfl) (by simp) l1
          obtain ⟨p1, n1, e1, S1⟩ := (show ∃ p n, vals 10 = .slice p (dl (R)) n ∧ Sl v3 p (R) from zR 10 l1)
          rw [e1] at f1
          refine Or.inl ⟨wanted_no rfl, ?_⟩
          exact wp_retz (k := .c (.int .i64 zz)) (by simp [go_sem, f0, f1]) (show Calls Try.prog 26 #[.slice p0 (dl (t1)) n0, .slice p1 (dl (R)) n1] v3 (Rt (.c (.int .i64 zz)) v3) from cz_any S0 S1 (dl_low _ P 400 (by omega) hd) (dl_low _ P 400 (by omega) hd) ez) (fun u w2 hu hg2 => ⟨_, rfl, hg2, hu⟩)
        · obtain rfl := Option.some.inj zo
          have l0 := on_of zD 11 (by kernel_rfl)
          have f0 := zF.at (s := 42) (i := 11) (by kernel_rfl) (by simp) l0
          have e0 : vals 11 = .int .i64 zz := zR 11 l0
          rw [e0] at f0
          refine Or.inl ⟨wanted_no rfl, ?_⟩
          exact wp_val (.bool r) (by simp [go_sem, f0, bz]) ⟨_, rfl, Gr.refl _, rfl⟩
        · obtain rfl := Option.some.inj zo
          have l0 := on_of zD 12 (by kernel_rfl)
          have f0 := zF.at (s := 43) (i := 12) (by kernel_rfl) (by simp) l0
          have e0 : vals 12 = .bool r := zR 12 l0
          rw [e0] at f0
          refine Or.inl ⟨wanted_no rfl, ?_⟩
          exact wp_val (.bool r) (by simp [go_sem, f0]) ⟨_, rfl, Gr.refl _, rfl⟩
      case hf =>
        intro vals v3 hg zR
        have e5_0 : vals 0 = .pointer (some ⟨w.heap.size + 1, 1, none⟩) := zR 0 (by simp)
        have e5_1 : vals 1 = .slice q (dl (y)) m := zR 1 (by simp)
        have e5_2 : vals 2 = .pointer (some ⟨w.heap.size + 1, 1, none⟩) := zR 2 (by simp)
        have e5_3 : vals 3 = .slice q (dl (y)) m := zR 3 (by simp)
        have e5_4 : vals 4 = .pointer (some ⟨w.heap.size, 1, none⟩) := zR 4 (by simp)
        have e5_5 : vals 5 = .slice (qc 0).1 (dl (P)) (qc 0).2 := zR 5 (by simp)
        obtain ⟨p5_6, n5_6, e5_6, S5_6⟩ := (show ∃ p n, vals 6 = .slice p (dl (t1)) n ∧ Sl v3 p (t1) from zR 6 (by simp))
        have e5_7 : vals 7 = .agg (crA id (six P A B N X Y) qc) := zR 7 (by simp)
        have e5_8 : vals 8 = .pointer (some ⟨w.heap.size + 1, 0, none⟩) := zR 8 (by simp)
        have e5_9 : vals 9 = .slice p (dl (x)) n := zR 9 (by simp)
        obtain ⟨p5_10, n5_10, e5_10, S5_10⟩ := (show ∃ p n, vals 10 = .slice p (dl (R)) n ∧ Sl v3 p (R) from zR 10 (by simp))
        have e5_11 : vals 11 = .int .i64 zz := zR 11 (by simp)
        have e5_12 : vals 12 = .bool r := zR 12 (by simp)
        have e5_13 : vals 13 = .bool r := zR 13 (by simp)
        simp only [putFrom, Act.put, List.setIfInBounds_toArray, List.set_cons_zero, List.set_cons_succ, e5_0, e5_1, e5_2, e5_3, e5_4, e5_5, e5_6, e5_7, e5_8, e5_9, e5_10, e5_11, e5_12, e5_13]
        clear zR e5_0 e5_1 e5_2 e5_3 e5_4 e5_5 e5_6 e5_7 e5_8 e5_9 e5_10 e5_11 e5_12 e5_13
        replace G := G.trans hg
        replace c1 := c1.gr hg
        replace c2 := c2.gr hg
        replace HQ := fun k => (HQ k).gr hg
        replace Sx := Sx.gr hg
        replace Sy := Sy.gr hg
        clear hg
        go_wp2_with fail
        go_ret
        exact ⟨rfl, G⟩

end Go.Proofs.Ytgmaalokfgdpaaa
