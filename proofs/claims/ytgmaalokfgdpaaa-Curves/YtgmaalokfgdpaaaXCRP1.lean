import Derived.Deep.AppendSrc
import Derived.Test.YtgmaalokfgdpaaaXCRMod
import Derived.Test.YtgmaalokfgdpaaaXCEC
import Derived.Test.YtgmaalokfgdpaaaXCIX
import Derived.Test.YtgmaalokfgdpaaaXCRSub
import Derived.Test.YtgmaalokfgdpaaaXCSmC
namespace Go.Proofs.Ytgmaalokfgdpaaa
open Go.RowKit
attribute [local go_sem ↓] loadNat_is loadArr_is loadWide_is loadArrW_is storeNat_is storeWide_is
attribute [local go_sem] loadNat loadArr loadWide loadArrW storeNat storeWide idxArr fold9 fold18 nw_size nw_elem pre_self pre_1 pre_2 pre_3 pre_4 pre_5 pre_6 pre_7 pre_8 pre_9 pre_10 pre_11 pre_12 pre_13 pre_14 pre_15 pre_16 pre_17 pre_18 pre_19 pre_20 pre_21 pre_22 pre_23 pre_24 pre_25 pre_26 pre_27 pre_28 pre_29 pre_30 pre_31 pre_32 pre_33 pre_34 pre_35 pre_36 pre_37 pre_38 pre_39 pre_40 gro_size gro_drew gro_drewN drew_gro drewN_gro gro_gro blk_gro frz_gro blk_drew frz_drew blk_drewN frz_drewN blk_alloc_at frz_alloc_at blk_alloc frz_alloc cell_gro frozen_gro cell_alloc_pre frozen_alloc_pre setCell_drewN alloc_drewN setBlk_drew setBlk_drewN setBlk_alloc_at setBlk_alloc setBlk_gro setCell_gro setCell_alloc_pre size_setBlk size_setCell
attribute [local go_sem ↓] bsl_is
/-- append of one row of digits to another, shut. -/
def appS (ty : TypeId) (xs : Array Value) : Sem Value := Builtin.append_ #[34, 34] ty xs
theorem app_is (ty : TypeId) (xs : Array Value) : Builtin.append_ #[34, 34] ty xs = appS ty xs := rfl
theorem subM_is (t c m : Nat) (ht : t < m) (hc : c < m) : subM t c m < m ∧ ∃ k : Int, (subM t c m : Int) = t - c + k * m := by
  unfold subM
  split
  · exact ⟨by omega, 0, by omega⟩
  · exact ⟨by omega, 1, by omega⟩
structure RI (a m r s t u : Nat) : Prop where
  rm : r ≤ m
  sm : s ≤ m
  tm : t < m
  um : u < m
  d1 : (m : Int) ∣ (a : Int) * t - r
  d2 : (m : Int) ∣ (a : Int) * u - s
  g : Nat.gcd r s = Nat.gcd m a
theorem RI.start (a m : Nat) (h : 1 < m) : RI a m m (a % m) 0 1 := by
  refine ⟨Nat.le_refl _, Nat.le_of_lt (Nat.mod_lt _ (by omega)), by omega, h, ⟨-1, by simp⟩, ⟨((a / m : Nat) : Int), ?_⟩, ?_⟩
  · have h1 := Nat.div_add_mod a m
    obtain ⟨q, hq⟩ : ∃ q, a / m = q := ⟨_, rfl⟩
    obtain ⟨v, hv⟩ : ∃ q, a % m = q := ⟨_, rfl⟩
    rw [hq, hv] at h1 ⊢
    have h2 : (m : Int) * q + v = a := by exact_mod_cast h1
    rw [← h2]
    grind
  · rw [Nat.gcd_comm, ← Nat.gcd_rec]
theorem RI.step {a m r s t u : Nat} (h : RI a m r s t u) (h0 : 0 < s) (q v c x : Nat) (hq : r / s = q) (hv : r % s = v) (hc : q % m * u % m = c) (hx : subM t c m = x) : RI a m s v u x ∧ v < s := by
  have hm : 0 < m := by have := h.tm; omega
  have hvs : v < s := by rw [← hv]; exact Nat.mod_lt _ h0
  have hcm : c < m := by rw [← hc]; exact Nat.mod_lt _ hm
  obtain ⟨h1, k, h2⟩ := subM_is t c m h.tm hcm
  rw [hx] at h1 h2
  refine ⟨⟨h.sm, by have := h.sm; omega, h.um, h1, h.d2, ?_, ?_⟩, hvs⟩
  · obtain ⟨c1, e1⟩ := h.d1
    obtain ⟨c2, e2⟩ := h.d2
    have h3 := Nat.div_add_mod r s
    rw [hq, hv] at h3
    have h4 : (s : Int) * q + v = r := by exact_mod_cast h3
    rw [pow_mul] at hc
    have h5 := Nat.div_add_mod (q * u) m
    rw [hc] at h5
    obtain ⟨k', hk⟩ : ∃ k', q * u / m = k' := ⟨_, rfl⟩
    rw [hk] at h5
    have h6 : (m : Int) * k' + c = q * u := by exact_mod_cast h5
    refine ⟨c1 - q * c2 + a * k' + a * k, ?_⟩
    rw [h2]
    grind
  · rw [← h.g, ← hv, Nat.gcd_comm, ← Nat.gcd_rec, Nat.gcd_comm]
theorem RI.last {a m r t u : Nat} (h : RI a m r 0 t u) (h1 : 1 < m) : r = Nat.gcd m a ∧ 0 < r ∧ (r = 1 → a * t % m = 1) := by
  have hg := h.g
  rw [Nat.gcd_zero_right] at hg
  have hp : 0 < Nat.gcd m a := Nat.gcd_pos_of_pos_left _ (by omega)
  refine ⟨hg, by omega, fun e => ?_⟩
  obtain ⟨c, hc⟩ := h.d1
  rw [e] at hc
  obtain ⟨k, hk⟩ := inv_pos (a * t) m c h1 (by rw [← hc]; simp)
  rw [hk, Nat.add_mul_mod_self_left, Nat.mod_eq_of_lt h1]
attribute [local go_sem ↓] app_is
end Go.Proofs.Ytgmaalokfgdpaaa
namespace Go.Proofs.Ytgmaalokfgdpaaa
open Go.RowKit
section
variable {a b m c n n' n'' : Nat} {p q r : Option Addr} {w : World}
theorem nt_any (sa : Sl w p a) : Calls Try.prog 39 #[.slice p (dl a) n] w (Rt (.c (.agg (nw 9 a))) w) := Rt.c (rnat_any a n p w sa)
theorem bt_any (sa : Sl w p a) (ha : dl a ≤ 400) (hc : bl a = c) : Calls Try.prog 33 #[.slice p (dl a) n] w (Rt (.c (.int .i64 (c : Int))) w) := Rt.same (hc ▸ rbits_any a n p w sa (by omega))
end
theorem wrap_id {x : Int} (h1 : -9223372036854775808 ≤ x) (h2 : x ≤ 9223372036854775807) : IntKind.i64.wrap x = x := by rw [IntKind.wrap_i64]; omega
theorem tdiv8 {x z : Int} (h0 : 0 ≤ x) (h1 : x ≤ 100000) (hz : x / 8 = z) : IntKind.i64.wrap (x.tdiv 8) = z := by
  rw [Int.tdiv_eq_ediv_of_nonneg h0, hz]
  exact wrap_id (by omega) (by omega)
end Go.Proofs.Ytgmaalokfgdpaaa
namespace Go.Proofs.Ytgmaalokfgdpaaa
open Go.RowKit
section
variable (p : Option Addr) (x n : Nat) (q : Option Addr) (y m : Nat) (f : Bool)
theorem ptA_size : (ptA p x n q y m f).size = 3 := rfl
theorem ptA_one : (ptA p x n q y m f).all (·.oneCell') = true := by simp [ptA, Value.oneCell']
theorem loadPt_is (v : Value) : Instr.loadAt 49 v = loadS 49 v := rfl
theorem storePt_is (p v : Value) : Instr.storeAt 49 p v = storeS 49 p v := rfl
theorem loadPt (w : World) (b : Nat) (hs : (blk w b).size = 3) : (loadS 49 (.pointer (some ⟨b, 0, none⟩))).run Try.prog w = .ok (.agg (blk w b)) w :=
  loadS_run 3 Try.underlying49 rfl (by kernel_rfl) w b hs
theorem storePt (w : World) (b : Nat) (hs : (blk w b).size = 3) (hf : frz w b = (0, 0)) : (storeS 49 (.pointer (some ⟨b, 0, none⟩)) (.agg (ptA p x n q y m f))).run Try.prog w = .ok () (setBlk w b (ptA p x n q y m f)) :=
  storeS_run 3 (by decide) (by kernel_rfl) w b _ (ptA_size p x n q y m f) (ptA_one p x n q y m f) hs hf
theorem zvPt_is : zeroValue 49 = zvS 49 := rfl
theorem zvPt (w : World) : (zvS 49).run Try.prog w = .ok (.agg (ptA none 0 0 none 0 0 false)) w := by kernel_rfl
theorem buildPt_is (p : Array (Nat × Value)) : Instr.build 49 p = buildF 49 p := rfl
theorem buildPt3 (w : World) : (buildF 49 #[(0, .slice p (dl x) n), (1, .slice q (dl y) m), (2, .bool f)]).run Try.prog w = .ok (.agg (ptA p x n q y m f)) w := by kernel_rfl
theorem buildPt2 (w : World) : (buildF 49 #[(0, .slice p (dl x) n), (1, .slice q (dl y) m)]).run Try.prog w = .ok (.agg (ptA p x n q y m false)) w := by kernel_rfl
theorem buildPtI (w : World) : (buildF 49 #[(2, .bool f)]).run Try.prog w = .ok (.agg (ptA none 0 0 none 0 0 f)) w := by kernel_rfl
end
theorem crA_size (id : Int) (x : Nat → Nat) (q : Nat → Option Addr × Nat) : (crA id x q).size = 7 := rfl

end Go.Proofs.Ytgmaalokfgdpaaa
namespace Go.Proofs.Ytgmaalokfgdpaaa
open Go.RowKit
attribute [local go_sem ↓] loadNat_is loadArr_is loadWide_is loadArrW_is storeNat_is storeWide_is
attribute [local go_sem] loadNat loadArr loadWide loadArrW storeNat storeWide idxArr fold9 fold18 nw_size nw_elem pre_self pre_1 pre_2 pre_3 pre_4 pre_5 pre_6 pre_7 pre_8 pre_9 pre_10 pre_11 pre_12 pre_13 pre_14 pre_15 pre_16 pre_17 pre_18 pre_19 pre_20 pre_21 pre_22 pre_23 pre_24 pre_25 pre_26 pre_27 pre_28 pre_29 pre_30 pre_31 pre_32 pre_33 pre_34 pre_35 pre_36 pre_37 pre_38 pre_39 pre_40 gro_size gro_drew gro_drewN drew_gro drewN_gro gro_gro blk_gro frz_gro blk_drew frz_drew blk_drewN frz_drewN blk_alloc_at frz_alloc_at blk_alloc frz_alloc cell_gro frozen_gro cell_alloc_pre frozen_alloc_pre setCell_drewN alloc_drewN setBlk_drew setBlk_drewN setBlk_alloc_at setBlk_alloc setBlk_gro setCell_gro setCell_alloc_pre size_setBlk size_setCell
attribute [local go_sem ↓] loadPt_is storePt_is zvPt_is buildPt_is loadC_is loadPn_is loadCu_is storePn_is zvPn_is buildPn_is storeCu_is zvCu_is buildCu_is Go.wp_at_zero Go.wp_at_succ
attribute [local go_sem] loadPt storePt zvPt buildPt3 buildPt2 buildPtI ptA_size crA_size loadC loadPn loadPX loadPY pnt_size pnt_X pnt_Y storePn zvPn buildPn2 buildPn3 storeCu zvCu buildCu9 cu_size loadCu
set_option maxRecDepth 100000 in
set_option maxHeartbeats 1600000 in
theorem rsize_any (id : Int) (P A B N X Y : Nat) (qc : Nat → Option Addr × Nat) (z : Nat) (hd : dl P ≤ 18) (hz : (bl P + 7) / 8 = z) (w : World) (HQ : ∀ k, Sl w (qc k).1 (six P A B N X Y k)) :
    Calls Try.prog 24 #[.agg (crA id (six P A B N X Y) qc)] w fun e w' => e = .returned (.int .i64 (z : Int)) ∧ Gr w w' := by
  obtain ⟨t, ht⟩ : ∃ t, bl P = t := ⟨_, rfl⟩
  have t0 : (t : Int) ≤ 576 := by
    have : (bl P + 31) / 32 ≤ 18 := hd
    omega
  have t2 : IntKind.i64.wrap ((t : Int) + 7) = (t : Int) + 7 := wrap_id (by omega) (by omega)
  have t3 : IntKind.i64.wrap (((t : Int) + 7).tdiv 8) = (z : Int) := tdiv8 (by omega) (by omega) (by omega)
  replace hd : dl P ≤ 400 := by omega
  go_enter Try.func24, Try.ntmps24
  go_upto_region 1 with fail
  refine gen_w (fun v => Gr w v ∧ Vr v (w.heap.size) (crA id (six P A B N X Y) qc)) ⟨(by repeat (first | exact Gr.refl _ | apply Gr.drewN | apply Gr.drew | apply Gr.alloc | apply Gr.gro)), ⟨by simp [go_sem], by simp [go_sem], by simp [go_sem]⟩⟩ ?_
  rintro v0 ⟨G, c1⟩
  replace HQ := fun k => (HQ k).gr G
  refine wp_region_qS (by kernel_rfl) [.c (.pointer (some ⟨w.heap.size, 1, none⟩)), .c (.slice (qc 0).1 (dl (P)) (qc 0).2), .c (.int .i64 (t : Int)), .c (.int .i64 ((t : Int) + 7)), .c (.int .i64 (z : Int)), .c (.int .i64 (z : Int))] ?hs ?hf
  case hs =>
    intro listed vals a1 v1 io oo hg zR zF zo zD
    have Hc1 : blk v1 (w.heap.size) = crA id (six P A B N X Y) qc := (hg.blk _ c1.p).trans c1.h
    have Kc1_1 : v1.cell? ⟨w.heap.size, 1, none⟩ = some (.slice (qc 0).1 (dl (P)) (qc 0).2) := by rw [cell_blk, Hc1]; rfl
    have zi : io < 6 := by simpa using (Array.getElem?_eq_some_iff.1 zo).1
    obtain rfl | rfl | rfl | rfl | rfl | rfl : io = 0 ∨ io = 1 ∨ io = 2 ∨ io = 3 ∨ io = 4 ∨ io = 5 := by omega
    · obtain rfl := Option.some.inj zo
      have f0 := zF.old (s := 1) (v := .pointer (some ⟨w.heap.size, 0, none⟩)) (by kernel_rfl) rfl
      refine Or.inl ⟨wanted_no rfl, ?_⟩
      exact wp_val (.pointer (some ⟨w.heap.size, 1, none⟩)) (by simp [go_sem, f0]) ⟨_, rfl, Gr.refl _, rfl⟩
    · obtain rfl := Option.some.inj zo
      have l0 := on_of zD 0 (by kernel_rfl)
      have f0 := zF.at (s := 3) (i := 0) (by kernel_rfl) (by simp) l0
      have e0 : vals 0 = .pointer (some ⟨w.heap.size, 1, none⟩) := zR 0 l0
      rw [e0] at f0
      refine Or.inl ⟨wanted_no rfl, ?_⟩
      exact wp_val (.slice (qc 0).1 (dl (P)) (qc 0).2) (by simp [go_sem, f0, Kc1_1]) ⟨_, rfl, Gr.refl _, rfl⟩
    · obtain rfl := Option.some.inj zo
      have l0 := on_of zD 1 (by kernel_rfl)
      have f0 := zF.at (s := 4) (i := 1) (by kernel_rfl) (by simp) l0
      have e0 : vals 1 = .slice (qc 0).1 (dl (P)) (qc 0).2 := zR 1 l0
      rw [e0] at f0
      refine Or.inl ⟨wanted_no rfl, ?_⟩
      exact wp_retz (k := .c (.int .i64 (t : Int))) (by simp [go_sem, f0]) (show Calls Try.prog 33 #[.slice (qc 0).1 (dl (P)) (qc 0).2] v1 (Rt (.c (.int .i64 (t : Int))) v1) from bt_any ((HQ 0).gr hg) hd ht) (fun u w2 hu hg2 => ⟨_, rfl, hg2, hu⟩)
    · obtain rfl := Option.some.inj zo
      have l0 := on_of zD 2 (by kernel_rfl)
      have f0 := zF.at (s := 5) (i := 2) (by kernel_rfl) (by simp) l0
      have e0 : vals 2 = .int .i64 (t : Int) := zR 2 l0
      rw [e0] at f0
      refine Or.inl ⟨wanted_no rfl, ?_⟩
      exact wp_val (.int .i64 ((t : Int) + 7)) (by simp [go_sem, f0, t2]) ⟨_, rfl, Gr.refl _, rfl⟩
    · obtain rfl := Option.some.inj zo
      have l0 := on_of zD 3 (by kernel_rfl)
      have f0 := zF.at (s := 6) (i := 3) (by kernel_rfl) (by simp) l0
      have e0 : vals 3 = .int .i64 ((t : Int) + 7) := zR 3 l0
      rw [e0] at f0
      refine Or.inl ⟨wanted_no rfl, ?_⟩
      exact wp_val (.int .i64 (z : Int)) (by simp [go_sem, f0, t3]) ⟨_, rfl, Gr.refl _, rfl⟩
    · obtain rfl := Option.some.inj zo
      have l0 := on_of zD 4 (by kernel_rfl)
      have f0 := zF.at (s := 7) (i := 4) (by kernel_rfl) (by simp) l0
      have e0 : vals 4 = .int .i64 (z : Int) := zR 4 l0
      rw [e0] at f0
      refine Or.inl ⟨wanted_no rfl, ?_⟩
      exact wp_val (.int .i64 (z : Int)) (by simp [go_sem, f0]) ⟨_, rfl, Gr.refl _, rfl⟩
  case hf =>
    intro vals v1 hg zR
    have e1_0 : vals 0 = .pointer (some ⟨w.heap.size, 1, none⟩) := zR 0 (by simp)
    have e1_1 : vals 1 = .slice (qc 0).1 (dl (P)) (qc 0).2 := zR 1 (by simp)
    have e1_2 : vals 2 = .int .i64 (t : Int) := zR 2 (by simp)
    have e1_3 : vals 3 = .int .i64 ((t : Int) + 7) := zR 3 (by simp)
    have e1_4 : vals 4 = .int .i64 (z : Int) := zR 4 (by simp)
    have e1_5 : vals 5 = .int .i64 (z : Int) := zR 5 (by simp)
    simp only [putFrom, Act.put, List.setIfInBounds_toArray, List.set_cons_zero, List.set_cons_succ, e1_0, e1_1, e1_2, e1_3, e1_4, e1_5]
    clear zR e1_0 e1_1 e1_2 e1_3 e1_4 e1_5
    replace G := G.trans hg
    replace c1 := c1.gr hg
    replace HQ := fun k => (HQ k).gr hg
    clear hg
    go_wp2_with fail
    go_ret
    exact ⟨rfl, G⟩
set_option maxRecDepth 100000 in
theorem rleg_any (id : Int) (w : World) : Calls Try.prog 40 #[.int .i64 id] w fun e w' => e = .returned (.bool (id == 1 || id == 7)) ∧ Gr w w' := by
  by_cases h1 : (id == 1) = true
  · go_enter Try.func40, Try.ntmps40
    go_wp2
    go_ret
    exact ⟨by simp [h1], (by repeat (first | exact Gr.refl _ | apply Gr.drewN | apply Gr.drew | apply Gr.alloc | apply Gr.gro))⟩
  · replace h1 : (id == 1) = false := by simpa using h1
    go_enter Try.func40, Try.ntmps40
    go_wp2
    go_ret
    exact ⟨by simp [h1], (by repeat (first | exact Gr.refl _ | apply Gr.drewN | apply Gr.drew | apply Gr.alloc | apply Gr.gro))⟩
set_option maxRecDepth 100000 in
set_option maxHeartbeats 1600000 in
theorem rapi_any (id : Int) (P A B N X Y : Nat) (qc : Nat → Option Addr × Nat) (t z : Nat) (l : Bool) (hd : dl P ≤ 18) (hn : dl N ≤ 400) (ht : bl N = t) (hz : (bl P + 7) / 8 = z) (hl : (id == 1 || id == 7) = l) (w : World) (HQ : ∀ k, Sl w (qc k).1 (six P A B N X Y k)) :
    Calls Try.prog 15 #[.agg (crA id (six P A B N X Y) qc)] w fun e w' => e = .returned (.agg (cu id P A B N X Y t z l)) ∧ Gr w w' := by
  have HL : Hid (∀ w, Calls Try.prog 40 #[.int .i64 id] w fun e w' => e = .returned (.bool l) ∧ Gr w w') := fun w => hl ▸ rleg_any id w
  go_enter Try.func15, Try.ntmps15
  go_upto_region 1 with fail
  refine gen_w (fun v => Gr w v ∧ Vr v (w.heap.size) (crA id (six P A B N X Y) qc) ∧ Vr v (w.heap.size + 1) (cu 0 0 0 0 0 0 0 0 0 false)) ⟨(by repeat (first | exact Gr.refl _ | apply Gr.drewN | apply Gr.drew | apply Gr.alloc | apply Gr.gro)), ⟨by simp [go_sem], by simp [go_sem], by simp [go_sem]⟩, ⟨by simp [go_sem], by simp [go_sem], by simp [go_sem]⟩⟩ ?_
  rintro v0 ⟨G, c1, c2⟩
  replace HQ := fun k => (HQ k).gr G
  refine wp_region_qT (by kernel_rfl) (by kernel_rfl) 30 (by kernel_rfl) [.c (.pointer (some ⟨w.heap.size, 0, none⟩)), .c (.int .i64 id), .c (.pointer (some ⟨w.heap.size, 1, none⟩)), .c (.slice (qc 0).1 (dl (P)) (qc 0).2), .c (.agg (nw 9 P)), .c (.pointer (some ⟨w.heap.size, 2, none⟩)), .c (.slice (qc 1).1 (dl (A)) (qc 1).2), .c (.agg (nw 9 A)), .c (.pointer (some ⟨w.heap.size, 3, none⟩)), .c (.slice (qc 2).1 (dl (B)) (qc 2).2), .c (.agg (nw 9 B)), .c (.pointer (some ⟨w.heap.size, 4, none⟩)), .c (.slice (qc 3).1 (dl (N)) (qc 3).2), .c (.agg (nw 9 N)), .c (.pointer (some ⟨w.heap.size, 5, none⟩)), .c (.slice (qc 4).1 (dl (X)) (qc 4).2), .c (.agg (nw 9 X)), .c (.pointer (some ⟨w.heap.size, 6, none⟩)), .c (.slice (qc 5).1 (dl (Y)) (qc 5).2), .c (.agg (nw 9 Y)), .c (.agg (pnt X Y false)), .c (.pointer (some ⟨w.heap.size, 4, none⟩)), .c (.slice (qc 3).1 (dl (N)) (qc 3).2), .c (.int .i64 (t : Int)), .c (.agg (crA id (six P A B N X Y) qc)), .c (.int .i64 (z : Int)), .c (.pointer (some ⟨w.heap.size, 0, none⟩)), .c (.int .i64 id), .c (.bool l), .c (.agg (cu id P A B N X Y t z l))] ?hs ?hf
  case hs =>
    intro listed vals a1 v1 io oo hg zR zF zo zi zD
    have Hc1 : blk v1 (w.heap.size) = crA id (six P A B N X Y) qc := (hg.blk _ c1.p).trans c1.h
    have Kc1_0 : v1.cell? ⟨w.heap.size, 0, none⟩ = some (.int .i64 id) := by rw [cell_blk, Hc1]; rfl
    have Kc1_1 : v1.cell? ⟨w.heap.size, 1, none⟩ = some (.slice (qc 0).1 (dl (P)) (qc 0).2) := by rw [cell_blk, Hc1]; rfl
    have Kc1_2 : v1.cell? ⟨w.heap.size, 2, none⟩ = some (.slice (qc 1).1 (dl (A)) (qc 1).2) := by rw [cell_blk, Hc1]; rfl
    have Kc1_3 : v1.cell? ⟨w.heap.size, 3, none⟩ = some (.slice (qc 2).1 (dl (B)) (qc 2).2) := by rw [cell_blk, Hc1]; rfl
    have Kc1_4 : v1.cell? ⟨w.heap.size, 4, none⟩ = some (.slice (qc 3).1 (dl (N)) (qc 3).2) := by rw [cell_blk, Hc1]; rfl
    have Kc1_5 : v1.cell? ⟨w.heap.size, 5, none⟩ = some (.slice (qc 4).1 (dl (X)) (qc 4).2) := by rw [cell_blk, Hc1]; rfl
    have Kc1_6 : v1.cell? ⟨w.heap.size, 6, none⟩ = some (.slice (qc 5).1 (dl (Y)) (qc 5).2) := by rw [cell_blk, Hc1]; rfl
    obtain rfl | rfl | rfl | rfl | rfl | rfl | rfl | rfl | rfl | rfl | rfl | rfl | rfl | rfl | rfl | rfl | rfl | rfl | rfl | rfl | rfl | rfl | rfl | rfl | rfl | rfl | rfl | rfl | rfl | rfl : io = 0 ∨ io = 1 ∨ io = 2 ∨ io = 3 ∨ io = 4 ∨ io = 5 ∨ io = 6 ∨ io = 7 ∨ io = 8 ∨ io = 9 ∨ io = 10 ∨ io = 11 ∨ io = 12 ∨ io = 13 ∨ io = 14 ∨ io = 15 ∨ io = 16 ∨ io = 17 ∨ io = 18 ∨ io = 19 ∨ io = 20 ∨ io = 21 ∨ io = 22 ∨ io = 23 ∨ io = 24 ∨ io = 25 ∨ io = 26 ∨ io = 27 ∨ io = 28 ∨ io = 29 := by omega
    · obtain rfl := Option.some.inj zo
      have f0 := zF.old (s := 1) (v := .pointer (some ⟨w.heap.size, 0, none⟩)) (by kernel_rfl) rfl
      refine Or.inl ⟨wanted_no rfl, ?_⟩
      exact wp_val (.pointer (some ⟨w.heap.size, 0, none⟩)) (by simp [go_sem, f0]) ⟨_, rfl, Gr.refl _, rfl⟩
    · obtain rfl := Option.some.inj zo
      have l0 := on_of zD 0 (by kernel_rfl)
      have f0 := zF.at (s := 3) (i := 0) (by kernel_rfl) (by simp) l0
      have e0 : vals 0 = .pointer (some ⟨w.heap.size, 0, none⟩) := zR 0 l0
      rw [e0] at f0
      refine Or.inl ⟨wanted_no rfl, ?_⟩
      exact wp_val (.int .i64 id) (by simp [go_sem, f0, Kc1_0]) ⟨_, rfl, Gr.refl _, rfl⟩
    · obtain rfl := Option.some.inj zo
      have f0 := zF.old (s := 1) (v := .pointer (some ⟨w.heap.size, 0, none⟩)) (by kernel_rfl) rfl
      refine Or.inl ⟨wanted_no rfl, ?_⟩
      exact wp_val (.pointer (some ⟨w.heap.size, 1, none⟩)) (by simp [go_sem, f0]) ⟨_, rfl, Gr.refl _, rfl⟩
    · obtain rfl := Option.some.inj zo
      have l0 := on_of zD 2 (by kernel_rfl)
      have f0 := zF.at (s := 5) (i := 2) (by kernel_rfl) (by simp) l0
      have e0 : vals 2 = .pointer (some ⟨w.heap.size, 1, none⟩) := zR 2 l0
      rw [e0] at f0
      refine Or.inl ⟨wanted_no rfl, ?_⟩
      exact wp_val (.slice (qc 0).1 (dl (P)) (qc 0).2) (by simp [go_sem, f0, Kc1_1]) ⟨_, rfl, Gr.refl _, rfl⟩
    · obtain rfl := Option.some.inj zo
      have l0 := on_of zD 3 (by kernel_rfl)
      have f0 := zF.at (s := 6) (i := 3) (by kernel_rfl) (by simp) l0
      have e0 : vals 3 = .slice (qc 0).1 (dl (P)) (qc 0).2 := zR 3 l0
      rw [e0] at f0
      refine Or.inl ⟨wanted_no rfl, ?_⟩
      exact wp_retz (k := .c (.agg (nw 9 P))) (by simp [go_sem, f0]) (show Calls Try.prog 39 #[.slice (qc 0).1 (dl (P)) (qc 0).2] v1 (Rt (.c (.agg (nw 9 P))) v1) from nt_any ((HQ 0).gr hg)) (fun u w2 hu hg2 => ⟨_, rfl, hg2, hu⟩)
    · obtain rfl := Option.some.inj zo
      have f0 := zF.old (s := 1) (v := .pointer (some ⟨w.heap.size, 0, none⟩)) (by kernel_rfl) rfl
      refine Or.inl ⟨wanted_no rfl, ?_⟩
      exact wp_val (.pointer (some ⟨w.heap.size, 2, none⟩)) (by simp [go_sem, f0]) ⟨_, rfl, Gr.refl _, rfl⟩
    · obtain rfl := Option.some.inj zo
      have l0 := on_of zD 5 (by kernel_rfl)
      have f0 := zF.at (s := 8) (i := 5) (by kernel_rfl) (by simp) l0
      have e0 : vals 5 = .pointer (some ⟨w.heap.size, 2, none⟩) := zR 5 l0
      rw [e0] at f0
      refine Or.inl ⟨wanted_no rfl, ?_⟩
      exact wp_val (.slice (qc 1).1 (dl (A)) (qc 1).2) (by simp [go_sem, f0, Kc1_2]) ⟨_, rfl, Gr.refl _, rfl⟩
    · obtain rfl := Option.some.inj zo
      have l0 := on_of zD 6 (by kernel_rfl)
      have f0 := zF.at (s := 9) (i := 6) (by kernel_rfl) (by simp) l0
      have e0 : vals 6 = .slice (qc 1).1 (dl (A)) (qc 1).2 := zR 6 l0
      rw [e0] at f0
      refine Or.inl ⟨wanted_no rfl, ?_⟩
      exact wp_retz (k := .c (.agg (nw 9 A))) (by simp [go_sem, f0]) (show Calls Try.prog 39 #[.slice (qc 1).1 (dl (A)) (qc 1).2] v1 (Rt (.c (.agg (nw 9 A))) v1) from nt_any ((HQ 1).gr hg)) (fun u w2 hu hg2 => ⟨_, rfl, hg2, hu⟩)
    · obtain rfl := Option.some.inj zo
      have f0 := zF.old (s := 1) (v := .pointer (some ⟨w.heap.size, 0, none⟩)) (by kernel_rfl) rfl
      refine Or.inl ⟨wanted_no rfl, ?_⟩
      exact wp_val (.pointer (some ⟨w.heap.size, 3, none⟩)) (by simp [go_sem, f0]) ⟨_, rfl, Gr.refl _, rfl⟩
    · obtain rfl := Option.some.inj zo
      have l0 := on_of zD 8 (by kernel_rfl)
      have f0 := zF.at (s := 11) (i := 8) (by kernel_rfl) (by simp) l0
      have e0 : vals 8 = .pointer (some ⟨w.heap.size, 3, none⟩) := zR 8 l0
      rw [e0] at f0
      refine Or.inl ⟨wanted_no rfl, ?_⟩
      exact wp_val (.slice (qc 2).1 (dl (B)) (qc 2).2) (by simp [go_sem, f0, Kc1_3]) ⟨_, rfl, Gr.refl _, rfl⟩
    · obtain rfl := Option.some.inj zo
      have l0 := on_of zD 9 (by kernel_rfl)
      have f0 := zF.at (s := 12) (i := 9) (by kernel_rfl) (by simp) l0
      have e0 : vals 9 = .slice (qc 2).1 (dl (B)) (qc 2).2 := zR 9 l0
      rw [e0] at f0
      refine Or.inl ⟨wanted_no rfl, ?_⟩
      exact wp_retz (k := .c (.agg (nw 9 B))) (by simp [go_sem, f0]) (show Calls Try.prog 39 #[.slice (qc 2).1 (dl (B)) (qc 2).2] v1 (Rt (.c (.agg (nw 9 B))) v1) from nt_any ((HQ 2).gr hg)) (fun u w2 hu hg2 => ⟨_, rfl, hg2, hu⟩)
    · obtain rfl := Option.some.inj zo
      have f0 := zF.old (s := 1) (v := .pointer (some ⟨w.heap.size, 0, none⟩)) (by kernel_rfl) rfl
      refine Or.inl ⟨wanted_no rfl, ?_⟩
      exact wp_val (.pointer (some ⟨w.heap.size, 4, none⟩)) (by simp [go_sem, f0]) ⟨_, rfl, Gr.refl _, rfl⟩
    · obtain rfl := Option.some.inj zo
      have l0 := on_of zD 11 (by kernel_rfl)
      have f0 := zF.at (s := 14) (i := 11) (by kernel_rfl) (by simp) l0
      have e0 : vals 11 = .pointer (some ⟨w.heap.size, 4, none⟩) := zR 11 l0
      rw [e0] at f0
      refine Or.inl ⟨wanted_no rfl, ?_⟩
      exact wp_val (.slice (qc 3).1 (dl (N)) (qc 3).2) (by simp [go_sem, f0, Kc1_4]) ⟨_, rfl, Gr.refl _, rfl⟩
    · obtain rfl := Option.some.inj zo
      have l0 := on_of zD 12 (by kernel_rfl)
      have f0 := zF.at (s := 15) (i := 12) (by kernel_rfl) (by simp) l0
      have e0 : vals 12 = .slice (qc 3).1 (dl (N)) (qc 3).2 := zR 12 l0
      rw [e0] at f0
      refine Or.inl ⟨wanted_no rfl, ?_⟩
      exact wp_retz (k := .c (.agg (nw 9 N))) (by simp [go_sem, f0]) (show Calls Try.prog 39 #[.slice (qc 3).1 (dl (N)) (qc 3).2] v1 (Rt (.c (.agg (nw 9 N))) v1) from nt_any ((HQ 3).gr hg)) (fun u w2 hu hg2 => ⟨_, rfl, hg2, hu⟩)
    · obtain rfl := Option.some.inj zo
      have f0 := zF.old (s := 1) (v := .pointer (some ⟨w.heap.size, 0, none⟩)) (by kernel_rfl) rfl
      refine Or.inl ⟨wanted_no rfl, ?_⟩
      exact wp_val (.pointer (some ⟨w.heap.size, 5, none⟩)) (by simp [go_sem, f0]) ⟨_, rfl, Gr.refl _, rfl⟩
    · obtain rfl := Option.some.inj zo
      have l0 := on_of zD 14 (by kernel_rfl)
      have f0 := zF.at (s := 17) (i := 14) (by kernel_rfl) (by simp) l0
      have e0 : vals 14 = .pointer (some ⟨w.heap.size, 5, none⟩) := zR 14 l0
      rw [e0] at f0
      refine Or.inl ⟨wanted_no rfl, ?_⟩
      exact wp_val (.slice (qc 4).1 (dl (X)) (qc 4).2) (by simp [go_sem, f0, Kc1_5]) ⟨_, rfl, Gr.refl _, rfl⟩
    · obtain rfl := Option.some.inj zo
      have l0 := on_of zD 15 (by kernel_rfl)
      have f0 := zF.at (s := 18) (i := 15) (by kernel_rfl) (by simp) l0
      have e0 : vals 15 = .slice (qc 4).1 (dl (X)) (qc 4).2 := zR 15 l0
      rw [e0] at f0
      refine Or.inl ⟨wanted_no rfl, ?_⟩
      exact wp_retz (k := .c (.agg (nw 9 X))) (by simp [go_sem, f0]) (show Calls Try.prog 39 #[.slice (qc 4).1 (dl (X)) (qc 4).2] v1 (Rt (.c (.agg (nw 9 X))) v1) from nt_any ((HQ 4).gr hg)) (fun u w2 hu hg2 => ⟨_, rfl, hg2, hu⟩)
    · obtain rfl := Option.some.inj zo
      have f0 := zF.old (s := 1) (v := .pointer (some ⟨w.heap.size, 0, none⟩)) (by kernel_rfl) rfl
      refine Or.inl ⟨wanted_no rfl, ?_⟩
      exact wp_val (.pointer (some ⟨w.heap.size, 6, none⟩)) (by simp [go_sem, f0]) ⟨_, rfl, Gr.refl _, rfl⟩
    · obtain rfl := Option.some.inj zo
      have l0 := on_of zD 17 (by kernel_rfl)
      have f0 := zF.at (s := 20) (i := 17) (by kernel_rfl) (by simp) l0
      have e0 : vals 17 = .pointer (some ⟨w.heap.size, 6, none⟩) := zR 17 l0
      rw [e0] at f0
      refine Or.inl ⟨wanted_no rfl, ?_⟩
      exact wp_val (.slice (qc 5).1 (dl (Y)) (qc 5).2) (by simp [go_sem, f0, Kc1_6]) ⟨_, rfl, Gr.refl _, rfl⟩
    · obtain rfl := Option.some.inj zo
      have l0 := on_of zD 18 (by kernel_rfl)
      have f0 := zF.at (s := 21) (i := 18) (by kernel_rfl) (by simp) l0
      have e0 : vals 18 = .slice (qc 5).1 (dl (Y)) (qc 5).2 := zR 18 l0
      rw [e0] at f0
      refine Or.inl ⟨wanted_no rfl, ?_⟩
      exact wp_retz (k := .c (.agg (nw 9 Y))) (by simp [go_sem, f0]) (show Calls Try.prog 39 #[.slice (qc 5).1 (dl (Y)) (qc 5).2] v1 (Rt (.c (.agg (nw 9 Y))) v1) from nt_any ((HQ 5).gr hg)) (fun u w2 hu hg2 => ⟨_, rfl, hg2, hu⟩)
    · obtain rfl := Option.some.inj zo
      have l0 := on_of zD 16 (by kernel_rfl)
      have f0 := zF.at (s := 19) (i := 16) (by kernel_rfl) (by simp) l0
      have e0 : vals 16 = .agg (nw 9 X) := zR 16 l0
      rw [e0] at f0
      have l1 := on_of zD 19 (by kernel_rfl)
      have f1 := zF.at (s := 22) (i := 19) (by kernel_rfl) (by simp) l1
      have e1 : vals 19 = .agg (nw 9 Y) := zR 19 l1
      rw [e1] at f1
      refine Or.inl ⟨wanted_no rfl, ?_⟩
      exact wp_val (.agg (pnt X Y false)) (by simp [go_sem, f0, f1]) ⟨_, rfl, Gr.refl _, rfl⟩
    · obtain rfl := Option.some.inj zo
      have f0 := zF.old (s := 1) (v := .pointer (some ⟨w.heap.size, 0, none⟩)) (by kernel_rfl) rfl
      refine Or.inl ⟨wanted_no rfl, ?_⟩
      exact wp_val (.pointer (some ⟨w.heap.size, 4, none⟩)) (by simp [go_sem, f0]) ⟨_, rfl, Gr.refl _, rfl⟩
    · obtain rfl := Option.some.inj zo
      have l0 := on_of zD 21 (by kernel_rfl)
      have f0 := zF.at (s := 24) (i := 21) (by kernel_rfl) (by simp) l0
      have e0 : vals 21 = .pointer (some ⟨w.heap.size, 4, none⟩) := zR 21 l0
      rw [e0] at f0
      refine Or.inl ⟨wanted_no rfl, ?_⟩
      exact wp_val (.slice (qc 3).1 (dl (N)) (qc 3).2) (by simp [go_sem, f0, Kc1_4]) ⟨_, rfl, Gr.refl _, rfl⟩
    · obtain rfl := Option.some.inj zo
      have l0 := on_of zD 22 (by kernel_rfl)
      have f0 := zF.at (s := 25) (i := 22) (by kernel_rfl) (by simp) l0
      have e0 : vals 22 = .slice (qc 3).1 (dl (N)) (qc 3).2 := zR 22 l0
      rw [e0] at f0
      refine Or.inl ⟨wanted_no rfl, ?_⟩
      exact wp_retz (k := .c (.int .i64 (t : Int))) (by simp [go_sem, f0]) (show Calls Try.prog 33 #[.slice (qc 3).1 (dl (N)) (qc 3).2] v1 (Rt (.c (.int .i64 (t : Int))) v1) from bt_any ((HQ 3).gr hg) hn ht) (fun u w2 hu hg2 => ⟨_, rfl, hg2, hu⟩)
    · obtain rfl := Option.some.inj zo
      have f0 := zF.old (s := 1) (v := .pointer (some ⟨w.heap.size, 0, none⟩)) (by kernel_rfl) rfl
      refine Or.inl ⟨wanted_no rfl, ?_⟩
      exact wp_val (.agg (crA id (six P A B N X Y) qc)) (by simp [go_sem, f0, Hc1]) ⟨_, rfl, Gr.refl _, rfl⟩
    · obtain rfl := Option.some.inj zo
      have l0 := on_of zD 24 (by kernel_rfl)
      have f0 := zF.at (s := 27) (i := 24) (by kernel_rfl) (by simp) l0
      have e0 : vals 24 = .agg (crA id (six P A B N X Y) qc) := zR 24 l0
      rw [e0] at f0
      refine Or.inl ⟨wanted_no rfl, ?_⟩
      exact wp_retz (k := .c (.int .i64 (z : Int))) (by simp [go_sem, f0]) (show Calls Try.prog 24 #[.agg (crA id (six P A B N X Y) qc)] v1 (Rt (.c (.int .i64 (z : Int))) v1) from Rt.c (rsize_any id P A B N X Y qc z hd hz _ (fun k => (HQ k).gr hg))) (fun u w2 hu hg2 => ⟨_, rfl, hg2, hu⟩)
    · obtain rfl := Option.some.inj zo
      have f0 := zF.old (s := 1) (v := .pointer (some ⟨w.heap.size, 0, none⟩)) (by kernel_rfl) rfl
      refine Or.inl ⟨wanted_no rfl, ?_⟩
      exact wp_val (.pointer (some ⟨w.heap.size, 0, none⟩)) (by simp [go_sem, f0]) ⟨_, rfl, Gr.refl _, rfl⟩
    · obtain rfl := Option.some.inj zo
      have l0 := on_of zD 26 (by kernel_rfl)
      have f0 := zF.at (s := 29) (i := 26) (by kernel_rfl) (by simp) l0
      have e0 : vals 26 = .pointer (some ⟨w.heap.size, 0, none⟩) := zR 26 l0
      rw [e0] at f0
      refine Or.inl ⟨wanted_no rfl, ?_⟩
      exact wp_val (.int .i64 id) (by simp [go_sem, f0, Kc1_0]) ⟨_, rfl, Gr.refl _, rfl⟩
    · obtain rfl := Option.some.inj zo
      have l0 := on_of zD 27 (by kernel_rfl)
      have f0 := zF.at (s := 30) (i := 27) (by kernel_rfl) (by simp) l0
      have e0 : vals 27 = .int .i64 id := zR 27 l0
      rw [e0] at f0
      refine Or.inl ⟨wanted_no rfl, ?_⟩
      exact wp_retz (k := .c (.bool l)) (by simp [go_sem, f0]) (show Calls Try.prog 40 #[.int .i64 id] v1 (Rt (.c (.bool l)) v1) from Rt.c (HL.out _)) (fun u w2 hu hg2 => ⟨_, rfl, hg2, hu⟩)
    · obtain rfl := Option.some.inj zo
      have l0 := on_of zD 1 (by kernel_rfl)
      have f0 := zF.at (s := 4) (i := 1) (by kernel_rfl) (by simp) l0
      have e0 : vals 1 = .int .i64 id := zR 1 l0
      rw [e0] at f0
      have l1 := on_of zD 4 (by kernel_rfl)
      have f1 := zF.at (s := 7) (i := 4) (by kernel_rfl) (by simp) l1
      have e1 : vals 4 = .agg (nw 9 P) := zR 4 l1
      rw [e1] at f1
      have l2 := on_of zD 7 (by kernel_rfl)
      have f2 := zF.at (s := 10) (i := 7) (by kernel_rfl) (by simp) l2
      have e2 : vals 7 = .agg (nw 9 A) := zR 7 l2
      rw [e2] at f2
      have l3 := on_of zD 10 (by kernel_rfl)
      have f3 := zF.at (s := 13) (i := 10) (by kernel_rfl) (by simp) l3
      have e3 : vals 10 = .agg (nw 9 B) := zR 10 l3
      rw [e3] at f3
      have l4 := on_of zD 13 (by kernel_rfl)
      have f4 := zF.at (s := 16) (i := 13) (by kernel_rfl) (by simp) l4
      have e4 : vals 13 = .agg (nw 9 N) := zR 13 l4
      rw [e4] at f4
      have l5 := on_of zD 20 (by kernel_rfl)
      have f5 := zF.at (s := 23) (i := 20) (by kernel_rfl) (by simp) l5
      have e5 : vals 20 = .agg (pnt X Y false) := zR 20 l5
      rw [e5] at f5
      have l6 := on_of zD 23 (by kernel_rfl)
      have f6 := zF.at (s := 26) (i := 23) (by kernel_rfl) (by simp) l6
      have e6 : vals 23 = .int .i64 (t : Int) := zR 23 l6
      rw [e6] at f6
      have l7 := on_of zD 25 (by kernel_rfl)
      have f7 := zF.at (s := 28) (i := 25) (by kernel_rfl) (by simp) l7
      have e7 : vals 25 = .int .i64 (z : Int) := zR 25 l7
      rw [e7] at f7
      have l8 := on_of zD 28 (by kernel_rfl)
      have f8 := zF.at (s := 31) (i := 28) (by kernel_rfl) (by simp) l8
      have e8 : vals 28 = .bool l := zR 28 l8
      rw [e8] at f8
      refine Or.inl ⟨wanted_no rfl, ?_⟩
      exact wp_val (.agg (cu id P A B N X Y t z l)) (by simp [go_sem, f0, f1, f2, f3, f4, f5, f6, f7, f8]) ⟨_, rfl, Gr.refl _, rfl⟩
  case hf =>
    intro listed vals a1 v1 oo hg zR zF zA zo
    obtain rfl := Option.some.inj zo
    have f0 := zF.old (s := 2) (v := .pointer (some ⟨w.heap.size + 1, 0, none⟩)) (by kernel_rfl) rfl
    have l1_29 := zA 29 (by decide)
    have f1_29 := zF.at (s := 32) (i := 29) (by kernel_rfl) (by simp) l1_29
    have e1_29 : vals 29 = .agg (cu id P A B N X Y t z l) := zR 29 (by decide)
    rw [e1_29] at f1_29
    have HT := (c2.gr hg).h
    have FT := (c2.gr hg).f
    refine wp_skip (w' := setBlk v1 (w.heap.size + 1) (cu id P A B N X Y t z l)) (by simp [go_sem, f0, f1_29, HT, FT]) ⟨rfl, ?_⟩
    have e1_0 : vals 0 = .pointer (some ⟨w.heap.size, 0, none⟩) := zR 0 (by decide)
    have e1_1 : vals 1 = .int .i64 id := zR 1 (by decide)
    have e1_2 : vals 2 = .pointer (some ⟨w.heap.size, 1, none⟩) := zR 2 (by decide)
    have e1_3 : vals 3 = .slice (qc 0).1 (dl (P)) (qc 0).2 := zR 3 (by decide)
    have e1_4 : vals 4 = .agg (nw 9 P) := zR 4 (by decide)
    have e1_5 : vals 5 = .pointer (some ⟨w.heap.size, 2, none⟩) := zR 5 (by decide)
    have e1_6 : vals 6 = .slice (qc 1).1 (dl (A)) (qc 1).2 := zR 6 (by decide)
    have e1_7 : vals 7 = .agg (nw 9 A) := zR 7 (by decide)
    have e1_8 : vals 8 = .pointer (some ⟨w.heap.size, 3, none⟩) := zR 8 (by decide)
    have e1_9 : vals 9 = .slice (qc 2).1 (dl (B)) (qc 2).2 := zR 9 (by decide)
    have e1_10 : vals 10 = .agg (nw 9 B) := zR 10 (by decide)
    have e1_11 : vals 11 = .pointer (some ⟨w.heap.size, 4, none⟩) := zR 11 (by decide)
    have e1_12 : vals 12 = .slice (qc 3).1 (dl (N)) (qc 3).2 := zR 12 (by decide)
    have e1_13 : vals 13 = .agg (nw 9 N) := zR 13 (by decide)
    have e1_14 : vals 14 = .pointer (some ⟨w.heap.size, 5, none⟩) := zR 14 (by decide)
    have e1_15 : vals 15 = .slice (qc 4).1 (dl (X)) (qc 4).2 := zR 15 (by decide)
    have e1_16 : vals 16 = .agg (nw 9 X) := zR 16 (by decide)
    have e1_17 : vals 17 = .pointer (some ⟨w.heap.size, 6, none⟩) := zR 17 (by decide)
    have e1_18 : vals 18 = .slice (qc 5).1 (dl (Y)) (qc 5).2 := zR 18 (by decide)
    have e1_19 : vals 19 = .agg (nw 9 Y) := zR 19 (by decide)
    have e1_20 : vals 20 = .agg (pnt X Y false) := zR 20 (by decide)
    have e1_21 : vals 21 = .pointer (some ⟨w.heap.size, 4, none⟩) := zR 21 (by decide)
    have e1_22 : vals 22 = .slice (qc 3).1 (dl (N)) (qc 3).2 := zR 22 (by decide)
    have e1_23 : vals 23 = .int .i64 (t : Int) := zR 23 (by decide)
    have e1_24 : vals 24 = .agg (crA id (six P A B N X Y) qc) := zR 24 (by decide)
    have e1_25 : vals 25 = .int .i64 (z : Int) := zR 25 (by decide)
    have e1_26 : vals 26 = .pointer (some ⟨w.heap.size, 0, none⟩) := zR 26 (by decide)
    have e1_27 : vals 27 = .int .i64 id := zR 27 (by decide)
    have e1_28 : vals 28 = .bool l := zR 28 (by decide)
    simp only [putFrom, Act.put, List.setIfInBounds_toArray, List.set_cons_zero, List.set_cons_succ, e1_0, e1_1, e1_2, e1_3, e1_4, e1_5, e1_6, e1_7, e1_8, e1_9, e1_10, e1_11, e1_12, e1_13, e1_14, e1_15, e1_16, e1_17, e1_18, e1_19, e1_20, e1_21, e1_22, e1_23, e1_24, e1_25, e1_26, e1_27, e1_28, e1_29]
    clear zR zF zA e1_0 e1_1 e1_2 e1_3 e1_4 e1_5 e1_6 e1_7 e1_8 e1_9 e1_10 e1_11 e1_12 e1_13 e1_14 e1_15 e1_16 e1_17 e1_18 e1_19 e1_20 e1_21 e1_22 e1_23 e1_24 e1_25 e1_26 e1_27 e1_28 e1_29
    replace G := G.trans hg
    replace c1 := c1.gr hg
    replace c2 := c2.gr hg
    replace HQ := fun k => (HQ k).gr hg
    clear hg
    go_wp2_with fail
    exact bodyPost_ret (res_one Try.results15 (rd_cu (by rfl) (blk_setBlk _ _ _ (by rw [HT, cu_size]; decide)))) rfl ⟨rfl, gr_setNew G (by omega)⟩
end Go.Proofs.Ytgmaalokfgdpaaa
