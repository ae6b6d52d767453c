import Derived.Test.YtgmaalokfgdpaaaXTFB
import Derived.Test.YtgmaalokfgdpaaaXTEC
import Derived.Test.YtgmaalokfgdpaaaXTROf
import Derived.Test.YtgmaalokfgdpaaaXTEq
import Derived.Test.YtgmaalokfgdpaaaXTNN
import Derived.Test.YtgmaalokfgdpaaaXTAdd
import Derived.Test.YtgmaalokfgdpaaaXTQt
import Derived.Test.YtgmaalokfgdpaaaXTMixG
import Derived.Test.YtgmaalokfgdpaaaXTMixP
namespace Go.Proofs.Ytgmaalokfgdpaaa
open Go.RowKit

/-- A number and its factor, as one of eighteen words. -/
def mvN (a f : Nat) : Nat := a + f * M
theorem mv_lo (a f : Nat) (ha : a < M) : nw 9 (mvN a f) = nw 9 a := by
  rw [← nw_mod (mvN a f) 9]
  refine congrArg (nw 9) ?_
  show (a + f * M) % M = a
  rw [Nat.add_mul_mod_self_right, Nat.mod_eq_of_lt ha]
theorem mv_hi (a f : Nat) (ha : a < M) : nw 9 (mvN a f / pw 9) = nw 9 f := by
  refine congrArg (nw 9) ?_
  show (a + f * M) / M = f
  rw [Nat.add_mul_div_right _ _ M_pos, Nat.div_eq_of_lt ha, Nat.zero_add]
theorem ext_lo (X : Nat) : (nw 18 X).extract 0 9 = nw 9 X := by
  apply Array.ext_getElem?
  intro j
  by_cases hj : j < 9
  · rw [nw_get 9 X j hj, Array.getElem?_extract, if_pos (by rw [nw_size]; omega), Nat.zero_add, nw_get 18 X j (by omega)]
  · rw [Array.getElem?_eq_none (by simp [nw_size]; omega), Array.getElem?_eq_none (by rw [nw_size]; omega)]
theorem wd_div (X k j : Nat) : wd (X / pw k) j = wd X (k + j) := by
  unfold wd
  rw [Nat.div_div_eq_div_mul, pw_add]
theorem ext_hi (X : Nat) : (nw 18 X).extract 9 18 = nw 9 (X / pw 9) := by
  apply Array.ext_getElem?
  intro j
  by_cases hj : j < 9
  · rw [nw_get 9 _ j hj, Array.getElem?_extract, if_pos (by rw [nw_size]; omega), nw_get 18 X (9 + j) (by omega), wd_div]
  · rw [Array.getElem?_eq_none (by simp [nw_size]; omega), Array.getElem?_eq_none (by rw [nw_size]; omega)]
theorem app_mv (a f : Nat) (ha : a < M) : nw 9 a ++ nw 9 f = nw 18 (mvN a f) := by
  have h := mv_lo a f ha
  have h2 := mv_hi a f ha
  rw [← ext_lo] at h
  rw [← ext_hi] at h2
  rw [← h, ← h2]
  have hs : (nw 18 (mvN a f)).size = 18 := nw_size 18 _
  rw [Array.extract_append_extract]
  have e : (nw 18 (mvN a f)).extract 0 (nw 18 (mvN a f)).size = nw 18 (mvN a f) := Array.extract_size
  rw [hs] at e
  simpa using e
/-! ### loads and stores -/
theorem part_range (w : World) (b o n : Nat) : w.rangeAt b o ((blk w b).extract o (o + n)).toList := fun j v hv => by
  rw [cell_blk]
  have h1 : ((blk w b).extract o (o + n))[j]? = some v := by rw [Array.getElem?_toList] at hv; exact hv
  rw [Array.getElem?_extract] at h1
  split at h1
  · exact h1
  · cases h1
theorem loadPart (w : World) (b o : Nat) (h : o + 9 ≤ (blk w b).size) : (loadS 25 (.pointer (some ⟨b, o, none⟩))).run Try.prog w = .ok (.agg ((blk w b).extract o (o + 9))) w := by
  have := run_loadVar_mid (P := Try.prog) w b o 25 ((blk w b).extract o (o + 9)).toList _ (part_range w b o 9) Try.underlying25 rfl (by
    have hi : (Try.prog.info? 25).map (·.size) = some 9 := by kernel_rfl
    rw [hi]
    simp
    omega)
  simp only [loadS, Instr.loadAt, Instr.sureAddr, Sem.run_bind, Sem.run_pure, Result.andThen_ok]
  rw [Array.toArray_toList] at this
  exact this
theorem loadLo (w : World) (b : Nat) (hs : (blk w b).size = 18) : (loadS 25 (.pointer (some ⟨b, 0, none⟩))).run Try.prog w = .ok (.agg ((blk w b).extract 0 9)) w := loadPart w b 0 (by omega)
theorem loadHi (w : World) (b : Nat) (hs : (blk w b).size = 18) : (loadS 25 (.pointer (some ⟨b, 9, none⟩))).run Try.prog w = .ok (.agg ((blk w b).extract 9 18)) w := loadPart w b 9 (by omega)
end Go.Proofs.Ytgmaalokfgdpaaa
namespace Go.Proofs.Ytgmaalokfgdpaaa
open Go.RowKit

/-- A point's cells. -/
def pnt (x y : Nat) (f : Bool) : Array Value := nw 9 x ++ nw 9 y ++ #[.bool f]
/-- A curve's cells: its number, P, A, B, N, the base point, the bits, the bytes, whether it is a legacy. -/
def cu (id : Int) (p a b n x y : Nat) (s z : Int) (l : Bool) : Array Value := #[.int .i64 id] ++ nw 9 p ++ nw 9 a ++ nw 9 b ++ nw 9 n ++ pnt x y false ++ #[.int .i64 s, .int .i64 z, .bool l]
section
variable (id : Int) (p a b n x y : Nat) (s z : Int) (l : Bool)
theorem pnt_size (f : Bool) : (pnt x y f).size = 19 := by kernel_rfl
theorem cu_size : (cu id p a b n x y s z l).size = 59 := by kernel_rfl
theorem pnt_X (f : Bool) : (pnt x y f).extract 0 9 = nw 9 x := by kernel_rfl
theorem pnt_Y (f : Bool) : (pnt x y f).extract 9 18 = nw 9 y := by kernel_rfl
theorem pnt_18 (f : Bool) : (pnt x y f)[18]? = some (.bool f) := by kernel_rfl
theorem cu_P : (cu id p a b n x y s z l).extract 1 10 = nw 9 p := by kernel_rfl
theorem cu_A : (cu id p a b n x y s z l).extract 10 19 = nw 9 a := by kernel_rfl
theorem cu_B : (cu id p a b n x y s z l).extract 19 28 = nw 9 b := by kernel_rfl
theorem cu_N : (cu id p a b n x y s z l).extract 28 37 = nw 9 n := by kernel_rfl
theorem cu_G : (cu id p a b n x y s z l).extract 37 56 = pnt x y false := by kernel_rfl
theorem cu_X : (cu id p a b n x y s z l).extract 37 46 = nw 9 x := by kernel_rfl
theorem cu_Y : (cu id p a b n x y s z l).extract 46 55 = nw 9 y := by kernel_rfl
theorem cu_0 : (cu id p a b n x y s z l)[0]? = some (.int .i64 id) := by kernel_rfl
theorem cu_56 : (cu id p a b n x y s z l)[56]? = some (.int .i64 s) := by kernel_rfl
theorem cu_57 : (cu id p a b n x y s z l)[57]? = some (.int .i64 z) := by kernel_rfl
theorem cu_58 : (cu id p a b n x y s z l)[58]? = some (.bool l) := by kernel_rfl
theorem cu_set0 (v : Int) : (cu id p a b n x y s z l).setIfInBounds 0 (.int .i64 v) = cu v p a b n x y s z l := by kernel_rfl
theorem cu_set56 (v : Int) : (cu id p a b n x y s z l).setIfInBounds 56 (.int .i64 v) = cu id p a b n x y v z l := by kernel_rfl
theorem cu_set57 (v : Int) : (cu id p a b n x y s z l).setIfInBounds 57 (.int .i64 v) = cu id p a b n x y s v l := by kernel_rfl
theorem cu_set58 (v : Bool) : (cu id p a b n x y s z l).setIfInBounds 58 (.bool v) = cu id p a b n x y s z v := by kernel_rfl
theorem cu_setP (q : Nat) : setL (cu id p a b n x y s z l) 1 (nw 9 q).toList = cu id q a b n x y s z l := by kernel_rfl
theorem all_app (c d : Array Value) (h1 : c.all (·.oneCell') = true) (h2 : d.all (·.oneCell') = true) : (c ++ d).all (·.oneCell') = true := by
  rw [Array.all_append, h1, h2]; rfl
theorem pnt_one (f : Bool) : (pnt x y f).all (·.oneCell') = true := all_app _ _ (all_app _ _ (nw_one _ _) (nw_one _ _)) (by simp [Value.oneCell'])
theorem cu_one : (cu id p a b n x y s z l).all (·.oneCell') = true :=
  all_app _ _ (all_app _ _ (all_app _ _ (all_app _ _ (all_app _ _ (all_app _ _ (by simp [Value.oneCell']) (nw_one _ _)) (nw_one _ _)) (nw_one _ _)) (nw_one _ _)) (pnt_one x y false)) (by simp [Value.oneCell'])
end

/-! ### loads, stores, builds, zero values, kept shut -/
def zvS (ty : TypeId) : Sem Value := zeroValue ty
theorem loadCu_is (v : Value) : Instr.loadAt 29 v = loadS 29 v := rfl
theorem storeCu_is (p v : Value) : Instr.storeAt 29 p v = storeS 29 p v := rfl
theorem loadEq_is (v : Value) : Instr.loadAt 67 v = loadS 67 v := rfl
theorem storeEq_is (p v : Value) : Instr.storeAt 67 p v = storeS 67 p v := rfl
theorem loadPn_is (v : Value) : Instr.loadAt 27 v = loadS 27 v := rfl
theorem storePn_is (p v : Value) : Instr.storeAt 27 p v = storeS 27 p v := rfl
theorem zvCu_is : zeroValue 29 = zvS 29 := rfl
theorem zvEq_is : zeroValue 67 = zvS 67 := rfl
theorem zvPn_is : zeroValue 27 = zvS 27 := rfl
theorem zvCu (w : World) : (zvS 29).run Try.prog w = .ok (.agg (cu 0 0 0 0 0 0 0 0 0 false)) w := by kernel_rfl
theorem zvEq (w : World) : (zvS 67).run Try.prog w = .ok (.agg (cu 0 0 0 0 0 0 0 0 0 false)) w := by kernel_rfl
theorem zvPn (w : World) : (zvS 27).run Try.prog w = .ok (.agg (pnt 0 0 false)) w := by kernel_rfl
theorem buildCu_is (p : Array (Nat × Value)) : Instr.build 29 p = buildF 29 p := rfl
theorem buildEq_is (p : Array (Nat × Value)) : Instr.build 67 p = buildF 67 p := rfl
theorem buildPn_is (p : Array (Nat × Value)) : Instr.build 27 p = buildF 27 p := rfl
theorem buildCu0 (w : World) : (buildF 29 #[]).run Try.prog w = .ok (.agg (cu 0 0 0 0 0 0 0 0 0 false)) w := by kernel_rfl
theorem buildEq0 (w : World) : (buildF 67 #[]).run Try.prog w = .ok (.agg (cu 0 0 0 0 0 0 0 0 0 false)) w := by kernel_rfl
theorem buildCu4 (a b n x y : Nat) (w : World) : (buildF 29 #[(2, .agg (nw 9 a)), (3, .agg (nw 9 b)), (4, .agg (nw 9 n)), (5, .agg (pnt x y false))]).run Try.prog w = .ok (.agg (cu 0 0 a b n x y 0 0 false)) w := by kernel_rfl
theorem buildEq1 (id : Int) (p a b n x y : Nat) (s z : Int) (l : Bool) (w : World) : (buildF 67 #[(0, .agg (cu id p a b n x y s z l))]).run Try.prog w = .ok (.agg (cu id p a b n x y s z l)) w := by kernel_rfl
theorem buildPn2 (x y : Nat) (w : World) : (buildF 27 #[(0, .agg (nw 9 x)), (1, .agg (nw 9 y))]).run Try.prog w = .ok (.agg (pnt x y false)) w := by kernel_rfl
theorem buildPnI (f : Bool) (w : World) : (buildF 27 #[(2, .bool f)]).run Try.prog w = .ok (.agg (pnt 0 0 f)) w := by kernel_rfl
theorem loadCu (w : World) (b : Nat) (hs : (blk w b).size = 59) : (loadS 29 (.pointer (some ⟨b, 0, none⟩))).run Try.prog w = .ok (.agg (blk w b)) w :=
  loadS_run 59 Try.underlying29 rfl (by kernel_rfl) w b hs
theorem loadEq (w : World) (b : Nat) (hs : (blk w b).size = 59) : (loadS 67 (.pointer (some ⟨b, 0, none⟩))).run Try.prog w = .ok (.agg (blk w b)) w :=
  loadS_run 59 Try.underlying67 rfl (by kernel_rfl) w b hs
theorem loadPn (w : World) (b : Nat) (hs : (blk w b).size = 19) : (loadS 27 (.pointer (some ⟨b, 0, none⟩))).run Try.prog w = .ok (.agg (blk w b)) w :=
  loadS_run 19 Try.underlying27 rfl (by kernel_rfl) w b hs
theorem loadPartP (w : World) (b o : Nat) (h : o + 19 ≤ (blk w b).size) : (loadS 27 (.pointer (some ⟨b, o, none⟩))).run Try.prog w = .ok (.agg ((blk w b).extract o (o + 19))) w := by
  have := run_loadVar_mid (P := Try.prog) w b o 27 ((blk w b).extract o (o + 19)).toList _ (part_range w b o 19) Try.underlying27 rfl (by
    have hi : (Try.prog.info? 27).map (·.size) = some 19 := by kernel_rfl
    rw [hi]
    simp
    omega)
  simp only [loadS, Instr.loadAt, Instr.sureAddr, Sem.run_bind, Sem.run_pure, Result.andThen_ok]
  rw [Array.toArray_toList] at this
  exact this
theorem loadCP (w : World) (b : Nat) (hs : (blk w b).size = 59) : (loadS 25 (.pointer (some ⟨b, 1, none⟩))).run Try.prog w = .ok (.agg ((blk w b).extract 1 10)) w := loadPart w b 1 (by omega)
theorem loadCA (w : World) (b : Nat) (hs : (blk w b).size = 59) : (loadS 25 (.pointer (some ⟨b, 10, none⟩))).run Try.prog w = .ok (.agg ((blk w b).extract 10 19)) w := loadPart w b 10 (by omega)
theorem loadCB (w : World) (b : Nat) (hs : (blk w b).size = 59) : (loadS 25 (.pointer (some ⟨b, 19, none⟩))).run Try.prog w = .ok (.agg ((blk w b).extract 19 28)) w := loadPart w b 19 (by omega)
theorem loadCN (w : World) (b : Nat) (hs : (blk w b).size = 59) : (loadS 25 (.pointer (some ⟨b, 28, none⟩))).run Try.prog w = .ok (.agg ((blk w b).extract 28 37)) w := loadPart w b 28 (by omega)
theorem loadCX (w : World) (b : Nat) (hs : (blk w b).size = 59) : (loadS 25 (.pointer (some ⟨b, 37, none⟩))).run Try.prog w = .ok (.agg ((blk w b).extract 37 46)) w := loadPart w b 37 (by omega)
theorem loadCY (w : World) (b : Nat) (hs : (blk w b).size = 59) : (loadS 25 (.pointer (some ⟨b, 46, none⟩))).run Try.prog w = .ok (.agg ((blk w b).extract 46 55)) w := loadPart w b 46 (by omega)
theorem loadCG (w : World) (b : Nat) (hs : (blk w b).size = 59) : (loadS 27 (.pointer (some ⟨b, 37, none⟩))).run Try.prog w = .ok (.agg ((blk w b).extract 37 56)) w := loadPartP w b 37 (by omega)
theorem loadPX (w : World) (b : Nat) (hs : (blk w b).size = 19) : (loadS 25 (.pointer (some ⟨b, 0, none⟩))).run Try.prog w = .ok (.agg ((blk w b).extract 0 9)) w := loadPart w b 0 (by omega)
theorem loadPY (w : World) (b : Nat) (hs : (blk w b).size = 19) : (loadS 25 (.pointer (some ⟨b, 9, none⟩))).run Try.prog w = .ok (.agg ((blk w b).extract 9 18)) w := loadPart w b 9 (by omega)
theorem storeCu (w : World) (b : Nat) (id : Int) (p a bb n x y : Nat) (s z : Int) (l : Bool) (hs : (blk w b).size = 59) (hf : frz w b = (0, 0)) : (storeS 29 (.pointer (some ⟨b, 0, none⟩)) (.agg (cu id p a bb n x y s z l))).run Try.prog w = .ok () (setBlk w b (cu id p a bb n x y s z l)) :=
  storeS_run 59 (by decide) (by kernel_rfl) w b _ (cu_size id p a bb n x y s z l) (cu_one id p a bb n x y s z l) hs hf
theorem storeEq (w : World) (b : Nat) (id : Int) (p a bb n x y : Nat) (s z : Int) (l : Bool) (hs : (blk w b).size = 59) (hf : frz w b = (0, 0)) : (storeS 67 (.pointer (some ⟨b, 0, none⟩)) (.agg (cu id p a bb n x y s z l))).run Try.prog w = .ok () (setBlk w b (cu id p a bb n x y s z l)) :=
  storeS_run 59 (by decide) (by kernel_rfl) w b _ (cu_size id p a bb n x y s z l) (cu_one id p a bb n x y s z l) hs hf
theorem storePn (w : World) (b x y : Nat) (f : Bool) (hs : (blk w b).size = 19) (hf : frz w b = (0, 0)) : (storeS 27 (.pointer (some ⟨b, 0, none⟩)) (.agg (pnt x y f))).run Try.prog w = .ok () (setBlk w b (pnt x y f)) :=
  storeS_run 19 (by decide) (by kernel_rfl) w b _ (pnt_size x y f) (pnt_one x y f) hs hf
theorem frz_at (w : World) (b i : Nat) (hf : frz w b = (0, 0)) : w.frozen? ⟨b, i, none⟩ = false := by
  unfold frz at hf
  unfold World.frozen?
  split <;> simp_all
theorem storeCP (w : World) (b q : Nat) (hs : (blk w b).size = 59) (hf : frz w b = (0, 0)) : (storeS 25 (.pointer (some ⟨b, 1, none⟩)) (.agg (nw 9 q))).run Try.prog w = .ok () (setBlk w b (setL (blk w b) 1 (nw 9 q).toList)) := by
  have ht : w.there b 1 (nw 9 q).size := fun j hj => by
    rw [nw_size] at hj
    exact ⟨by rw [cell_blk, Array.getElem?_eq_getElem (by omega)]; rfl, frz_at w b _ hf⟩
  simp only [storeS, Instr.storeAt, Instr.sureAddr, Sem.run_bind, Sem.run_pure, Result.andThen_ok]
  rw [run_storeVar_mid w b 1 25 (nw 9 q) ht (by kernel_rfl) (nw_one 9 q), setCells_setBlk _ _ _ _ (by omega)]
theorem rd_cu {tmps : Array Value} {t : Tmp} {w : World} {b : Nat} {id : Int} {p a bb n x y : Nat} {s z : Int} {l : Bool} (h : tmps.getD t undef = .pointer (some ⟨b, 0, none⟩)) (hc : blk w b = cu id p a bb n x y s z l) : (readR tmps (.cell t 29)).run Try.prog w = .ok (.agg (cu id p a bb n x y s z l)) w :=
  rd_cell 59 Try.underlying29 rfl (by kernel_rfl) h hc (cu_size id p a bb n x y s z l)
theorem rd_eq {tmps : Array Value} {t : Tmp} {w : World} {b : Nat} {id : Int} {p a bb n x y : Nat} {s z : Int} {l : Bool} (h : tmps.getD t undef = .pointer (some ⟨b, 0, none⟩)) (hc : blk w b = cu id p a bb n x y s z l) : (readR tmps (.cell t 67)).run Try.prog w = .ok (.agg (cu id p a bb n x y s z l)) w :=
  rd_cell 59 Try.underlying67 rfl (by kernel_rfl) h hc (cu_size id p a bb n x y s z l)
/-- A variable that holds these cells. -/
structure Vr (v : World) (b : Nat) (c : Array Value) : Prop where
  h : blk v b = c
  f : frz v b = (0, 0)
  p : Pre (b + 1) v.heap.size
theorem Vr.gr {v v' : World} {b : Nat} {c : Array Value} (h : Vr v b c) (k : Gr v v') : Vr v' b c :=
  ⟨by rw [k.blk _ h.p]; exact h.h, by rw [k.frz _ h.p]; exact h.f, Nat.le_trans h.p k.below.size⟩
theorem Vr.set {v : World} {b : Nat} {c : Array Value} (h : Vr v b c) (hc : 0 < c.size) (d : Array Value) : Vr (setBlk v b d) b d :=
  ⟨blk_setBlk _ _ _ (by rw [h.h]; exact hc), by rw [frz_setBlk]; exact h.f, by rw [size_setBlk]; exact h.p⟩
theorem Vr.other {v : World} {b k : Nat} {c d : Array Value} (h : Vr v b c) (n : k ≠ b) : Vr (setBlk v k d) b c :=
  ⟨by rw [blk_other _ _ _ _ n]; exact h.h, by rw [frz_setBlk]; exact h.f, by rw [size_setBlk]; exact h.p⟩
theorem Vr.cell {v : World} {b : Nat} {c : Array Value} (h : Vr v b c) (i : Nat) : v.cell? ⟨b, i, none⟩ = c[i]? := by rw [cell_blk, h.h]
/-- It lies below whatever is laid later. -/
theorem Vr.pp {v : World} {b : Nat} {c : Array Value} (h : Vr v b c) : (∀ k, Pre (b + 1) (v.heap.size + k)) ∧ (∀ k l, Pre (b + 1) (v.heap.size + k + l)) ∧ (∀ k l i, Pre (b + 1) (v.heap.size + k + l + i)) ∧ (∀ k l i j, Pre (b + 1) (v.heap.size + k + l + i + j)) ∧ (∀ k l i j m, Pre (b + 1) (v.heap.size + k + l + i + j + m)) ∧ (∀ k l i j m n, Pre (b + 1) (v.heap.size + k + l + i + j + m + n)) := by
  have : b + 1 ≤ v.heap.size := h.p
  simp only [Pre]
  refine ⟨?_, ?_, ?_, ?_, ?_, ?_⟩ <;> intros <;> omega
theorem Vr.new (w : World) (c : Array Value) (t : TypeId) : Vr (w.alloc (.cells c t)) w.heap.size c :=
  ⟨blk_alloc_at _ _ _ _ _ rfl, frz_alloc_at _ _ _ _ _ rfl, by simp [Pre]⟩

end Go.Proofs.Ytgmaalokfgdpaaa
namespace Go.Proofs.Ytgmaalokfgdpaaa
open Go.RowKit
attribute [local go_sem ↓] loadNat_is loadArr_is loadWide_is loadArrW_is storeNat_is storeWide_is
attribute [local go_sem] loadNat loadArr loadWide loadArrW storeNat storeWide idxArr fold9 fold18 nw_size nw_elem pre_self pre_1 pre_2 pre_3 pre_4 pre_5 pre_6 pre_7 pre_8 pre_9 pre_10 pre_11 pre_12 pre_13 pre_14 pre_15 pre_16 pre_17 pre_18 pre_19 pre_20 pre_21 pre_22 pre_23 pre_24 pre_25 pre_26 pre_27 pre_28 pre_29 pre_30 pre_31 pre_32 pre_33 pre_34 pre_35 pre_36 pre_37 pre_38 pre_39 pre_40 gro_size gro_drew gro_drewN drew_gro drewN_gro gro_gro blk_gro frz_gro blk_drew frz_drew blk_drewN frz_drewN blk_alloc_at frz_alloc_at blk_alloc frz_alloc cell_gro frozen_gro cell_alloc_pre frozen_alloc_pre setCell_drewN alloc_drewN setBlk_drew setBlk_drewN setBlk_alloc_at setBlk_alloc setBlk_gro setCell_gro setCell_alloc_pre size_setBlk size_setCell
attribute [local go_sem ↓] loadDv_is load19_is storeDv_is store19_is copy_is
attribute [local go_sem] idx18 loadDv load19 storeDv store19 dv_size dv_9 dv_10 dv_e9 dv_e10 dv_elem fold11 fold19 setCell_in cell_in frozen_in frz_setBlk blk_setBlk setBlk_setBlk copy_run cpA_nw ones_nw

attribute [local go_sem] loadLo loadHi ext_lo ext_hi

attribute [local go_sem ↓] Go.wp_at_zero Go.wp_at_succ
attribute [local go_sem] blk_other

/-- What the loop of euclid keeps: the last one and this one, each in its block. -/
structure EW (w v : World) (L T b : Nat) : Prop where
  g : Gr w v
  h2 : blk v (w.heap.size + 1 + 1) = nw 9 0
  f2 : frz v (w.heap.size + 1 + 1) = (0, 0)
  p2 : Pre (w.heap.size + 1 + 1 + 1) v.heap.size
  h3 : blk v (w.heap.size + 1 + 1 + 1) = nw 9 0
  f3 : frz v (w.heap.size + 1 + 1 + 1) = (0, 0)
  p3 : Pre (w.heap.size + 1 + 1 + 1 + 1) v.heap.size
  h4 : blk v (w.heap.size + 1 + 1 + 1 + 1) = nw 18 L
  f4 : frz v (w.heap.size + 1 + 1 + 1 + 1) = (0, 0)
  p4 : Pre (w.heap.size + 1 + 1 + 1 + 1 + 1) v.heap.size
  h8 : blk v b = nw 18 T
  f8 : frz v b = (0, 0)
  p8 : Pre (b + 1) v.heap.size
  q8 : w.heap.size + 1 + 1 + 1 + 1 + 1 ≤ b
theorem EW.gr {w v v' : World} {L T b : Nat} (h : EW w v L T b) (k : Gr v v') : EW w v' L T b := by
  have hs := k.below.size
  have pr : ∀ {x}, Pre x v.heap.size → Pre x v'.heap.size := fun h => Nat.le_trans h hs
  exact ⟨h.g.trans k, by rw [k.blk _ h.p2]; exact h.h2, by rw [k.frz _ h.p2]; exact h.f2, pr h.p2, by rw [k.blk _ h.p3]; exact h.h3, by rw [k.frz _ h.p3]; exact h.f3, pr h.p3,
    by rw [k.blk _ h.p4]; exact h.h4, by rw [k.frz _ h.p4]; exact h.f4, pr h.p4, by rw [k.blk _ h.p8]; exact h.h8, by rw [k.frz _ h.p8]; exact h.f8, pr h.p8, h.q8⟩
end Go.Proofs.Ytgmaalokfgdpaaa
namespace Go.Proofs.Ytgmaalokfgdpaaa
open Go.RowKit
attribute [local go_sem ↓] loadNat_is loadArr_is loadWide_is loadArrW_is storeNat_is storeWide_is
attribute [local go_sem] loadNat loadArr loadWide loadArrW storeNat storeWide idxArr fold9 fold18 nw_size nw_elem pre_self pre_1 pre_2 pre_3 pre_4 pre_5 pre_6 pre_7 pre_8 pre_9 pre_10 pre_11 pre_12 pre_13 pre_14 pre_15 pre_16 pre_17 pre_18 pre_19 pre_20 pre_21 pre_22 pre_23 pre_24 pre_25 pre_26 pre_27 pre_28 pre_29 pre_30 pre_31 pre_32 pre_33 pre_34 pre_35 pre_36 pre_37 pre_38 pre_39 pre_40 gro_size gro_drew gro_drewN drew_gro drewN_gro gro_gro blk_gro frz_gro blk_drew frz_drew blk_drewN frz_drewN blk_alloc_at frz_alloc_at blk_alloc frz_alloc cell_gro frozen_gro cell_alloc_pre frozen_alloc_pre setCell_drewN alloc_drewN setBlk_drew setBlk_drewN setBlk_alloc_at setBlk_alloc setBlk_gro setCell_gro setCell_alloc_pre size_setBlk size_setCell
attribute [local go_sem ↓] loadDv_is load19_is storeDv_is store19_is copy_is
attribute [local go_sem] idx18 loadDv load19 storeDv store19 dv_size dv_9 dv_10 dv_e9 dv_e10 dv_elem fold11 fold19 setCell_in cell_in frozen_in frz_setBlk blk_setBlk setBlk_setBlk copy_run cpA_nw ones_nw

attribute [local go_sem ↓] loadMd_is storeMd_is buildMd_is Go.wp_at_zero Go.wp_at_succ
attribute [local go_sem] loadMd storeMd buildMd0 buildMd1 blk_other loadLo loadHi ext_lo ext_hi

theorem pre_up {b n : Nat} (h : Pre b n) : (∀ k, Pre b (n + k)) ∧ (∀ k l, Pre b (n + k + l)) ∧ (∀ k l j, Pre b (n + k + l + j)) := by
  unfold Pre at *
  exact ⟨fun k => by omega, fun k l => by omega, fun k l j => by omega⟩
set_option maxRecDepth 100000 in
set_option maxHeartbeats 1600000 in
theorem mfor_two (i m a c b X : Nat) (h1 : 1 ≤ i) (h2 : i ≤ 15) (hm : pN i = m) (hmM : m < M) (ha : a < M) (hc : c < M) (hX : X = mvN a c) (w : World) (hb : blk w b = nw 18 X) (hp : Pre (b + 1) w.heap.size) :
    Calls Try.prog 83 #[.int .i64 (i : Int), .slice (some ⟨b, 0, none⟩) 2 2] w fun e w' => e = .returned (.tuple #[.agg (nw 9 (if a < m ∧ c < m then m else 0)), .int .i64 (if a < m ∧ c < m then 0 else 501)]) ∧ Gr w w' := by
  have HO : Hid (∀ w, Calls Try.prog 47 #[.int .i64 (i : Int)] w fun e w' => e = .returned (.tuple #[.agg (nw 9 m), .bool true]) ∧ Gr w w') := fun w => hm ▸ of_yes i h1 h2 w
  have elo : nw 9 X = nw 9 a := by rw [hX]; exact mv_lo a c ha
  have ehi : nw 9 (X / pw 9) = nw 9 c := by rw [hX]; exact mv_hi a c ha
  obtain ⟨z, hz⟩ : ∃ z, cmpZ a m = z := ⟨_, rfl⟩
  have HC0 : Hid (∀ w, Calls Try.prog 77 #[.agg (nw 9 a), .agg (nw 9 m)] w fun e w' => e = .returned (.int .i64 z) ∧ Gr w w') := fun w => hz ▸ cmp_any a m ha hmM w
  obtain ⟨y, hy⟩ : ∃ z, cmpZ c m = z := ⟨_, rfl⟩
  have HC1 : Hid (∀ w, Calls Try.prog 77 #[.agg (nw 9 c), .agg (nw 9 m)] w fun e w' => e = .returned (.int .i64 y) ∧ Gr w w') := fun w => hy ▸ cmp_any c m hc hmM w
  have hbn : b < w.heap.size := hp
  by_cases hl : a < m
  · have hz1 : z = -1 := by rw [← hz]; unfold cmpZ; rw [if_pos hl]
    subst hz1
    by_cases hr : c < m
    · have hy1 : y = -1 := by rw [← hy]; unfold cmpZ; rw [if_pos hr]
      subst hy1
      rw [if_pos ⟨hl, hr⟩, if_pos ⟨hl, hr⟩]
      clear hz hy hl hr hm hmM ha hc hX h1 h2
      go_enter Try.func83, Try.ntmps83
      go_wp2_with (go_at_call 47; refine (HO.out _).mono ?_; rintro e w' ⟨rfl, g, rfl⟩)
      obtain ⟨b6, hb6⟩ : ∃ x, w.heap.size + 1 + g.os.length = x := ⟨_, rfl⟩
      rw [hb6]
      go_loopw [20] (fun j wr => ∃ k : Nat, k ≤ 2 ∧ j = .int .i64 (k : Int) ∧ Hid (Gr w wr ∧ Cl wr w.heap.size 0 ∧ Cl wr b6 m)) (fun j _ => ((2 : Int) - intOf j).toNat)
      case atStart =>
        subst hb6
        exact ⟨0, by decide, rfl, (by repeat (first | exact Gr.refl _ | apply Gr.drewN | apply Gr.drew | apply Gr.alloc | apply Gr.gro)), ⟨by simp [go_sem], by simp [go_sem], by simp [go_sem]⟩, ⟨by simp [go_sem], by simp [go_sem], by simp [go_sem]⟩⟩
      case round =>
        obtain ⟨k, hk, rfl, HV⟩ := hrel
        obtain ⟨G, ⟨h1, f1, p1⟩, ⟨h2, f2, p2⟩⟩ := HV.out
        have h3 : blk wr b = nw 18 X := by rw [G.blk _ hbn]; exact hb
        have p3 : Pre (b + 1) wr.heap.size := Nat.le_trans hp G.below.size
        obtain ⟨P1, P2, P3⟩ := pre_up p1
        obtain ⟨Q1, Q2, Q3⟩ := pre_up p2
        obtain ⟨R1, R2, R3⟩ := pre_up p3
        clear G hb hp
        obtain rfl | rfl | rfl : k = 0 ∨ k = 1 ∨ k = 2 := by omega
        · go_wp2_with (go_at_call 77; refine (HC0.out _).mono ?_; rintro e w' ⟨rfl, g2, rfl⟩)
          go_roundw
          case rel =>
            refine ⟨1, by decide, by go_num, ?_⟩
            obtain ⟨G, c1, c2⟩ := HV.out
            refine ⟨?_, c1.gr (by repeat (first | exact Gr.refl _ | apply Gr.drewN | apply Gr.drew | apply Gr.alloc | apply Gr.gro)), c2.gr (by repeat (first | exact Gr.refl _ | apply Gr.drewN | apply Gr.drew | apply Gr.alloc | apply Gr.gro))⟩
            repeat (first | exact G | apply Gr.drewN | apply Gr.drew | apply Gr.alloc | apply Gr.gro | (refine gr_setNew ?_ (by omega)))
          case measure => simp [intOf]
        · go_wp2_with (go_at_call 77; refine (HC1.out _).mono ?_; rintro e w' ⟨rfl, g2, rfl⟩)
          go_roundw
          case rel =>
            refine ⟨2, by decide, by go_num, ?_⟩
            obtain ⟨G, c1, c2⟩ := HV.out
            refine ⟨?_, c1.gr (by repeat (first | exact Gr.refl _ | apply Gr.drewN | apply Gr.drew | apply Gr.alloc | apply Gr.gro)), c2.gr (by repeat (first | exact Gr.refl _ | apply Gr.drewN | apply Gr.drew | apply Gr.alloc | apply Gr.gro))⟩
            repeat (first | exact G | apply Gr.drewN | apply Gr.drew | apply Gr.alloc | apply Gr.gro | (refine gr_setNew ?_ (by omega)))
          case measure => simp [intOf]
        · go_wp2_with fail
          refine bodyPost_ret (res_two Try.results83 (rd_md (x := m) (by rfl) ?_) (rd_tmp (by rfl))) rfl ⟨rfl, ?_⟩
          · simp [go_sem, *]
          · have hg := HV.out.1
            repeat (first | exact hg | apply Gr.drewN | apply Gr.drew | apply Gr.alloc | apply Gr.gro | (refine gr_setNew ?_ (by omega)))
    · have hy1 : 0 ≤ y := by rw [← hy]; unfold cmpZ; rw [if_neg hr]; split <;> omega
      rw [if_neg (fun h => hr h.2), if_neg (fun h => hr h.2)]
      clear hz hy hl hr hm hmM ha hc hX h1 h2
      go_enter Try.func83, Try.ntmps83
      go_wp2_with (go_at_call 47; refine (HO.out _).mono ?_; rintro e w' ⟨rfl, g, rfl⟩)
      obtain ⟨b6, hb6⟩ : ∃ x, w.heap.size + 1 + g.os.length = x := ⟨_, rfl⟩
      rw [hb6]
      go_loopw [20] (fun j wr => ∃ k : Nat, k ≤ 1 ∧ j = .int .i64 (k : Int) ∧ Hid (Gr w wr ∧ Cl wr w.heap.size 0 ∧ Cl wr b6 m)) (fun j _ => ((2 : Int) - intOf j).toNat)
      case atStart =>
        subst hb6
        exact ⟨0, by decide, rfl, (by repeat (first | exact Gr.refl _ | apply Gr.drewN | apply Gr.drew | apply Gr.alloc | apply Gr.gro)), ⟨by simp [go_sem], by simp [go_sem], by simp [go_sem]⟩, ⟨by simp [go_sem], by simp [go_sem], by simp [go_sem]⟩⟩
      case round =>
        obtain ⟨k, hk, rfl, HV⟩ := hrel
        obtain ⟨G, ⟨h1, f1, p1⟩, ⟨h2, f2, p2⟩⟩ := HV.out
        have h3 : blk wr b = nw 18 X := by rw [G.blk _ hbn]; exact hb
        have p3 : Pre (b + 1) wr.heap.size := Nat.le_trans hp G.below.size
        obtain ⟨P1, P2, P3⟩ := pre_up p1
        obtain ⟨Q1, Q2, Q3⟩ := pre_up p2
        obtain ⟨R1, R2, R3⟩ := pre_up p3
        clear G hb hp
        obtain rfl | rfl : k = 0 ∨ k = 1 := by omega
        · go_wp2_with (go_at_call 77; refine (HC0.out _).mono ?_; rintro e w' ⟨rfl, g2, rfl⟩)
          go_roundw
          case rel =>
            refine ⟨1, by decide, by go_num, ?_⟩
            obtain ⟨G, c1, c2⟩ := HV.out
            refine ⟨?_, c1.gr (by repeat (first | exact Gr.refl _ | apply Gr.drewN | apply Gr.drew | apply Gr.alloc | apply Gr.gro)), c2.gr (by repeat (first | exact Gr.refl _ | apply Gr.drewN | apply Gr.drew | apply Gr.alloc | apply Gr.gro))⟩
            repeat (first | exact G | apply Gr.drewN | apply Gr.drew | apply Gr.alloc | apply Gr.gro | (refine gr_setNew ?_ (by omega)))
          case measure => simp [intOf]
        · go_wp2_with (go_at_call 77; refine (HC1.out _).mono ?_; rintro e w' ⟨rfl, g2, rfl⟩)
          refine bodyPost_ret (res_two Try.results83 (rd_md (x := 0) (by rfl) ?_) (rd_tmp (by rfl))) rfl ⟨rfl, ?_⟩
          · simp [go_sem, *]
          · have hg := HV.out.1
            repeat (first | exact hg | apply Gr.drewN | apply Gr.drew | apply Gr.alloc | apply Gr.gro | (refine gr_setNew ?_ (by omega)))
  · have hz1 : 0 ≤ z := by rw [← hz]; unfold cmpZ; rw [if_neg hl]; split <;> omega
    rw [if_neg (fun h => hl h.1), if_neg (fun h => hl h.1)]
    clear hz hy hl hm hmM ha hc hX h1 h2
    go_enter Try.func83, Try.ntmps83
    go_wp2_with (go_at_call 47; refine (HO.out _).mono ?_; rintro e w' ⟨rfl, g, rfl⟩)
    obtain ⟨b6, hb6⟩ : ∃ x, w.heap.size + 1 + g.os.length = x := ⟨_, rfl⟩
    rw [hb6]
    go_loopw [20] (fun j wr => ∃ k : Nat, k ≤ 0 ∧ j = .int .i64 (k : Int) ∧ Hid (Gr w wr ∧ Cl wr w.heap.size 0 ∧ Cl wr b6 m)) (fun j _ => ((2 : Int) - intOf j).toNat)
    case atStart =>
      subst hb6
      exact ⟨0, by decide, rfl, (by repeat (first | exact Gr.refl _ | apply Gr.drewN | apply Gr.drew | apply Gr.alloc | apply Gr.gro)), ⟨by simp [go_sem], by simp [go_sem], by simp [go_sem]⟩, ⟨by simp [go_sem], by simp [go_sem], by simp [go_sem]⟩⟩
    case round =>
      obtain ⟨k, hk, rfl, HV⟩ := hrel
      obtain ⟨G, ⟨h1, f1, p1⟩, ⟨h2, f2, p2⟩⟩ := HV.out
      have h3 : blk wr b = nw 18 X := by rw [G.blk _ hbn]; exact hb
      have p3 : Pre (b + 1) wr.heap.size := Nat.le_trans hp G.below.size
      obtain ⟨P1, P2, P3⟩ := pre_up p1
      obtain ⟨Q1, Q2, Q3⟩ := pre_up p2
      obtain ⟨R1, R2, R3⟩ := pre_up p3
      clear G hb hp
      obtain rfl : k = 0 := by omega
      go_wp2_with (go_at_call 77; refine (HC0.out _).mono ?_; rintro e w' ⟨rfl, g2, rfl⟩)
      · refine bodyPost_ret (res_two Try.results83 (rd_md (x := 0) (by rfl) ?_) (rd_tmp (by rfl))) rfl ⟨rfl, ?_⟩
        · simp [go_sem, *]
        · have hg := HV.out.1
          repeat (first | exact hg | apply Gr.drewN | apply Gr.drew | apply Gr.alloc | apply Gr.gro | (refine gr_setNew ?_ (by omega)))

end Go.Proofs.Ytgmaalokfgdpaaa
namespace Go.Proofs.Ytgmaalokfgdpaaa
open Go.RowKit
def fnT (n : Nat) : Value := .func (.func n) #[] #[]
def tab2 : Array Value := #[fnT 85, fnT 86, fnT 87]
theorem tab2_is : #[Value.func (.func 85) #[] #[], Value.func (.func 86) #[] #[], Value.func (.func 87) #[] #[]] = tab2 := rfl
theorem storeT2_is (p v : Value) : Instr.storeAt 111 p v = storeS 111 p v := rfl
theorem storeT2 (w : World) (b : Nat) (hs : (blk w b).size = 3) (hf : frz w b = (0, 0)) : (storeS 111 (.pointer (some ⟨b, 0, none⟩)) (.agg tab2)).run Try.prog w = .ok () (setBlk w b tab2) :=
  storeS_run 3 (by decide) (by kernel_rfl) w b tab2 rfl (by simp [tab2, fnT, Value.oneCell']) hs hf
theorem idx2_0 (w : World) : (Instr.index 111 (.agg tab2) (.int .i64 0)).run Try.prog w = .ok (.func (.func 85) #[] #[]) w := by kernel_rfl
theorem idx2_1 (w : World) : (Instr.index 111 (.agg tab2) (.int .i64 1)).run Try.prog w = .ok (.func (.func 86) #[] #[]) w := by kernel_rfl
theorem idx2_2 (w : World) : (Instr.index 111 (.agg tab2) (.int .i64 2)).run Try.prog w = .ok (.func (.func 87) #[] #[]) w := by kernel_rfl
attribute [local go_sem ↓] loadNat_is loadArr_is loadWide_is loadArrW_is storeNat_is storeWide_is
attribute [local go_sem] loadNat loadArr loadWide loadArrW storeNat storeWide idxArr fold9 fold18 nw_size nw_elem pre_self pre_1 pre_2 pre_3 pre_4 pre_5 pre_6 pre_7 pre_8 pre_9 pre_10 pre_11 pre_12 pre_13 pre_14 pre_15 pre_16 pre_17 pre_18 pre_19 pre_20 pre_21 pre_22 pre_23 pre_24 pre_25 pre_26 pre_27 pre_28 pre_29 pre_30 pre_31 pre_32 pre_33 pre_34 pre_35 pre_36 pre_37 pre_38 pre_39 pre_40 gro_size gro_drew gro_drewN drew_gro drewN_gro gro_gro blk_gro frz_gro blk_drew frz_drew blk_drewN frz_drewN blk_alloc_at frz_alloc_at blk_alloc frz_alloc cell_gro frozen_gro cell_alloc_pre frozen_alloc_pre setCell_drewN alloc_drewN setBlk_drew setBlk_drewN setBlk_alloc_at setBlk_alloc setBlk_gro setCell_gro setCell_alloc_pre size_setBlk size_setCell
attribute [local go_sem ↓] loadDv_is load19_is storeDv_is store19_is copy_is
attribute [local go_sem] idx18 loadDv load19 storeDv store19 dv_size dv_9 dv_10 dv_e9 dv_e10 dv_elem fold11 fold19 setCell_in cell_in frozen_in frz_setBlk blk_setBlk setBlk_setBlk copy_run cpA_nw ones_nw

attribute [local go_sem ↓] storeT2_is
attribute [local go_sem] storeT2 tab2_is
set_option maxRecDepth 100000 in
set_option maxHeartbeats 400000 in
theorem ofTwo_any (w : World) :
    Calls Try.prog 84 #[] w fun e w' => e = .returned (.agg tab2) ∧ Gr w w' := by
  go_enter Try.func84, Try.ntmps84
  go_wp2
  refine bodyPost_ret (res_one Try.results84 (rd_cell (c := tab2) 3 Try.underlying111 rfl (by kernel_rfl) (by rfl) ?_ rfl)) rfl ⟨rfl, (by repeat (first | exact Gr.refl _ | apply Gr.drewN | apply Gr.drew | apply Gr.alloc | apply Gr.gro))⟩
  simp [go_sem]
end Go.Proofs.Ytgmaalokfgdpaaa
namespace Go.Proofs.Ytgmaalokfgdpaaa
open Go.RowKit
attribute [local go_sem ↓] loadNat_is loadArr_is loadWide_is loadArrW_is storeNat_is storeWide_is
attribute [local go_sem] loadNat loadArr loadWide loadArrW storeNat storeWide idxArr fold9 fold18 nw_size nw_elem pre_self pre_1 pre_2 pre_3 pre_4 pre_5 pre_6 pre_7 pre_8 pre_9 pre_10 pre_11 pre_12 pre_13 pre_14 pre_15 pre_16 pre_17 pre_18 pre_19 pre_20 pre_21 pre_22 pre_23 pre_24 pre_25 pre_26 pre_27 pre_28 pre_29 pre_30 pre_31 pre_32 pre_33 pre_34 pre_35 pre_36 pre_37 pre_38 pre_39 pre_40 gro_size gro_drew gro_drewN drew_gro drewN_gro gro_gro blk_gro frz_gro blk_drew frz_drew blk_drewN frz_drewN blk_alloc_at frz_alloc_at blk_alloc frz_alloc cell_gro frozen_gro cell_alloc_pre frozen_alloc_pre setCell_drewN alloc_drewN setBlk_drew setBlk_drewN setBlk_alloc_at setBlk_alloc setBlk_gro setCell_gro setCell_alloc_pre size_setBlk size_setCell
attribute [local go_sem ↓] loadDv_is load19_is storeDv_is store19_is copy_is
attribute [local go_sem] idx18 loadDv load19 storeDv store19 dv_size dv_9 dv_10 dv_e9 dv_e10 dv_elem fold11 fold19 setCell_in cell_in frozen_in frz_setBlk blk_setBlk setBlk_setBlk copy_run cpA_nw ones_nw

attribute [local go_sem] loadNat2 loadArr2 loadWide2 loadK_nw ppre_1 ppre_2 ppre_3 ppre_4 ppre_5 ppre_6 ppre_7 ppre_8 ppre_9 ppre_10 ppre_11 ppre_12 ppre_13 ppre_14 ppre_15 ppre_16 ppre_17 ppre_18 ppre_19 ppre_20

attribute [local go_sem ↓] loadMd_is storeMd_is buildMd_is Go.wp_at_zero Go.wp_at_succ
attribute [local go_sem] loadMd storeMd buildMd0 buildMd1 blk_other nw_ext9 nw_ext18 eqArr9 eqArr18

theorem loadMd2 (w : World) (b : Nat) : (loadS 107 (.pointer (some ⟨b, 0, none⟩))).run Try.prog w = loadK 9 (blk w b) (failL Try.prog 107 b w) w := by
  unfold loadK
  split
  · rename_i h; exact loadMd w b h
  · rfl
attribute [local go_sem] loadMd2
theorem Cl.pp {v : World} {b x : Nat} (h : Cl v b x) : (∀ k, Pre (b + 1) (v.heap.size + k)) ∧ (∀ k l, Pre (b + 1) (v.heap.size + k + l)) ∧ (∀ k l j, Pre (b + 1) (v.heap.size + k + l + j)) := by
  have := h.p
  unfold Pre at *
  exact ⟨fun k => by omega, fun k l => by omega, fun k l j => by omega⟩
end Go.Proofs.Ytgmaalokfgdpaaa
namespace Go.Proofs.Ytgmaalokfgdpaaa
open Go.RowKit
def bslF (t : TypeId) (n : Nat) (p : Array (Nat × Value)) : Sem Value := Instr.buildSlice t n p
theorem bslN_is (n : Nat) (p : Array (Nat × Value)) : Instr.buildSlice 113 n p = bslF 113 n p := rfl
theorem bsl2 (a b : Nat) (w : World) : (bslF 113 2 #[(0, .agg (nw 9 a)), (1, .agg (nw 9 b))]).run Try.prog w = .ok (.slice (some ⟨w.heap.size, 0, none⟩) 2 2) (w.alloc (.cells (nw 9 a ++ nw 9 b) 25)) := by kernel_rfl
theorem bsl1 (a : Nat) (w : World) : (bslF 113 1 #[(0, .agg (nw 9 a))]).run Try.prog w = .ok (.slice (some ⟨w.heap.size, 0, none⟩) 1 1) (w.alloc (.cells (nw 9 a) 25)) := by kernel_rfl
attribute [local go_sem ↓] loadNat_is loadArr_is loadWide_is loadArrW_is storeNat_is storeWide_is
attribute [local go_sem] loadNat loadArr loadWide loadArrW storeNat storeWide idxArr fold9 fold18 nw_size nw_elem pre_self pre_1 pre_2 pre_3 pre_4 pre_5 pre_6 pre_7 pre_8 pre_9 pre_10 pre_11 pre_12 pre_13 pre_14 pre_15 pre_16 pre_17 pre_18 pre_19 pre_20 pre_21 pre_22 pre_23 pre_24 pre_25 pre_26 pre_27 pre_28 pre_29 pre_30 pre_31 pre_32 pre_33 pre_34 pre_35 pre_36 pre_37 pre_38 pre_39 pre_40 gro_size gro_drew gro_drewN drew_gro drewN_gro gro_gro blk_gro frz_gro blk_drew frz_drew blk_drewN frz_drewN blk_alloc_at frz_alloc_at blk_alloc frz_alloc cell_gro frozen_gro cell_alloc_pre frozen_alloc_pre setCell_drewN alloc_drewN setBlk_drew setBlk_drewN setBlk_alloc_at setBlk_alloc setBlk_gro setCell_gro setCell_alloc_pre size_setBlk size_setCell
attribute [local go_sem ↓] loadDv_is load19_is storeDv_is store19_is copy_is
attribute [local go_sem] idx18 loadDv load19 storeDv store19 dv_size dv_9 dv_10 dv_e9 dv_e10 dv_elem fold11 fold19 setCell_in cell_in frozen_in frz_setBlk blk_setBlk setBlk_setBlk copy_run cpA_nw ones_nw

attribute [local go_sem] loadNat2 loadArr2 loadWide2 loadK_nw ppre_1 ppre_2 ppre_3 ppre_4 ppre_5 ppre_6 ppre_7 ppre_8 ppre_9 ppre_10 ppre_11 ppre_12 ppre_13 ppre_14 ppre_15 ppre_16 ppre_17 ppre_18 ppre_19 ppre_20

attribute [local go_sem ↓] loadMd_is storeMd_is buildMd_is bslN_is Go.wp_at_zero Go.wp_at_succ
attribute [local go_sem] loadMd loadMd2 storeMd buildMd0 buildMd1 blk_other idx2_0 idx2_1 idx2_2 bsl2 bsl1


set_option maxRecDepth 100000 in
set_option maxHeartbeats 1600000 in
theorem onTwo_add (x : Int) (m a b R : Nat) (HM : ∀ w p, blk w p = nw 9 a ++ nw 9 b → Pre (p + 1) w.heap.size → Calls Try.prog 83 #[.int .i64 x, .slice (some ⟨p, 0, none⟩) 2 2] w fun e w' => e = .returned (.tuple #[.agg (nw 9 m), .int .i64 0]) ∧ Gr w w')
    (HF : ∀ w, Calls Try.prog 85 #[.agg (nw 9 m), .agg (nw 9 a), .agg (nw 9 b)] w fun e w' => e = .returned (.agg (nw 9 R)) ∧ Gr w w') (w : World) :
    Calls Try.prog 81 #[.int .i64 0, .int .i64 x, .agg (nw 9 a), .agg (nw 9 b)] w fun e w' => e = .returned (.tuple #[.agg (nw 9 R), .int .i64 0]) ∧ Gr w w' := by
  have HM' : Hid (∀ w p, blk w p = nw 9 a ++ nw 9 b → Pre (p + 1) w.heap.size → Calls Try.prog 83 #[.int .i64 x, .slice (some ⟨p, 0, none⟩) 2 2] w fun e w' => e = .returned (.tuple #[.agg (nw 9 m), .int .i64 0]) ∧ Gr w w') := HM
  have HF' : Hid (∀ w, Calls Try.prog 85 #[.agg (nw 9 m), .agg (nw 9 a), .agg (nw 9 b)] w fun e w' => e = .returned (.agg (nw 9 R)) ∧ Gr w w') := HF
  have HT : Hid (∀ w, Calls Try.prog 84 #[] w fun e w' => e = .returned (.agg tab2) ∧ Gr w w') := fun w => ofTwo_any w
  clear HM HF
  go_enter Try.func81, Try.ntmps81
  go_upto_region 4 with (go_at_call 83; refine (HM'.out _ _ ?_ ?_).mono ?_; · simp [go_sem]
                         · simp [go_sem]
                         rintro e w' ⟨rfl, g, rfl⟩)
  obtain ⟨b10, hb10⟩ : ∃ b, w.heap.size + 1 + 1 + 1 + 1 + g.os.length = b := ⟨_, rfl⟩
  rw [hb10]
  refine gen_w (fun v => Hid (Gr w v ∧ Cl v w.heap.size a ∧ Cl v (w.heap.size + 1) b ∧ Cl v (w.heap.size + 1 + 1) 0 ∧ Cl v b10 m)) ?_ ?_
  · subst hb10
    exact ⟨(by repeat (first | exact Gr.refl _ | apply Gr.drewN | apply Gr.drew | apply Gr.alloc | apply Gr.gro)), ⟨by simp [go_sem], by simp [go_sem], by simp [go_sem]⟩, ⟨by simp [go_sem], by simp [go_sem], by simp [go_sem]⟩, ⟨by simp [go_sem], by simp [go_sem], by simp [go_sem]⟩, ⟨by simp [go_sem], by simp [go_sem], by simp [go_sem]⟩⟩
  intro v0 HV
  obtain ⟨G, c1, c2, c3, c4⟩ := HV.out
  have n1 : w.heap.size + 1 + 1 ≠ b10 := by omega
  refine wp_region_mix (by kernel_rfl) (by kernel_rfl) (RO _ (fun i => match i with | 0 => some (.agg tab2) | 1 => some (.int .i64 0) | 2 => some (.func (.func 85) #[] #[]) | 3 => some (.agg (nw 9 m)) | 4 => some (.agg (nw 9 a)) | 5 => some (.agg (nw 9 b)) | 6 => some (.agg (nw 9 R)) | 8 => some (.int .i64 0) | _ => none) 7 (w.heap.size + 1 + 1) (nw 9 R)) (RO.start _ _ _ _ _ _ _) ?hs ?hf
  case hs =>
    intro listed vals a1 v1 i o hz hR hF ho hl hd
    have hm : blk v1 (b10) = nw 9 m := (hR.blk (b10) c4.p (n1)).trans c4.h
    have ha : blk v1 (w.heap.size) = nw 9 a := (hR.blk (w.heap.size) c1.p (by omega)).trans c1.h
    have hb : blk v1 (w.heap.size + 1) = nw 9 b := (hR.blk (w.heap.size + 1) c2.p (by omega)).trans c2.h
    have hi : i < 9 := by simpa using (Array.getElem?_eq_some_iff.1 ho).1
    have hil : i < listed.size := by rw [hz]; simpa using hi
    obtain rfl | rfl | rfl | rfl | rfl | rfl | rfl | rfl | rfl : i = 0 ∨ i = 1 ∨ i = 2 ∨ i = 3 ∨ i = 4 ∨ i = 5 ∨ i = 6 ∨ i = 7 ∨ i = 8 := by omega
    · obtain rfl := Option.some.inj ho
      exact wp_ret (.agg tab2) (by simp [go_sem]) (HT.out _) (fun w2 hg => ⟨_, rfl, RO.quiet 0 _ rfl (by decide) hg hR⟩)
    · obtain rfl := Option.some.inj ho
      have f0 := hF.old (s := 0) (v := .int .i64 0) (by kernel_rfl) rfl
      exact wp_val (.int .i64 0) (by simp [go_sem, f0]) ⟨_, rfl, RO.quiet 1 _ rfl (by decide) (Gr.refl _) hR⟩
    · obtain rfl := Option.some.inj ho
      have l0 := hd ⟨0, .data⟩ (by simp) rfl
      have f0 := hF.at (s := 24) (i := 0) (by kernel_rfl) (by simp) l0
      rw [hR.1 0 _ l0 rfl] at f0
      have l1 := hd ⟨1, .data⟩ (by simp) rfl
      have f1 := hF.at (s := 25) (i := 1) (by kernel_rfl) (by simp) l1
      rw [hR.1 1 _ l1 rfl] at f1
      exact wp_val (.func (.func 85) #[] #[]) (by simp [go_sem, f0, f1]) ⟨_, rfl, RO.quiet 2 _ rfl (by decide) (Gr.refl _) hR⟩
    · obtain rfl := Option.some.inj ho
      have f0 := hF.old (s := 10) (v := .pointer (some ⟨b10, 0, none⟩)) (by kernel_rfl) rfl
      exact wp_val (.agg (nw 9 m)) (by simp [go_sem, f0, hm]) ⟨_, rfl, RO.quiet 3 _ rfl (by decide) (Gr.refl _) hR⟩
    · obtain rfl := Option.some.inj ho
      have f0 := hF.old (s := 6) (v := .pointer (some ⟨w.heap.size, 0, none⟩)) (by kernel_rfl) rfl
      exact wp_val (.agg (nw 9 a)) (by simp [go_sem, f0, ha]) ⟨_, rfl, RO.quiet 4 _ rfl (by decide) (Gr.refl _) hR⟩
    · obtain rfl := Option.some.inj ho
      have f0 := hF.old (s := 7) (v := .pointer (some ⟨w.heap.size + 1, 0, none⟩)) (by kernel_rfl) rfl
      exact wp_val (.agg (nw 9 b)) (by simp [go_sem, f0, hb]) ⟨_, rfl, RO.quiet 5 _ rfl (by decide) (Gr.refl _) hR⟩
    · obtain rfl := Option.some.inj ho
      have l0 := hd ⟨2, .data⟩ (by simp) rfl
      have f0 := hF.at (s := 26) (i := 2) (by kernel_rfl) (by simp) l0
      rw [hR.1 2 _ l0 rfl] at f0
      have l1 := hd ⟨3, .data⟩ (by simp) rfl
      have f1 := hF.at (s := 27) (i := 3) (by kernel_rfl) (by simp) l1
      rw [hR.1 3 _ l1 rfl] at f1
      have l2 := hd ⟨4, .data⟩ (by simp) rfl
      have f2 := hF.at (s := 28) (i := 4) (by kernel_rfl) (by simp) l2
      rw [hR.1 4 _ l2 rfl] at f2
      have l3 := hd ⟨5, .data⟩ (by simp) rfl
      have f3 := hF.at (s := 29) (i := 5) (by kernel_rfl) (by simp) l3
      rw [hR.1 5 _ l3 rfl] at f3
      exact wp_ret (.agg (nw 9 R)) (by simp [go_sem, f0, f1, f2, f3]) (HF'.out _) (fun w2 hg => ⟨_, rfl, RO.quiet 6 _ rfl (by decide) hg hR⟩)
    · obtain rfl := Option.some.inj ho
      have l0 := hd ⟨6, .data⟩ (by simp) rfl
      have f0 := hF.at (s := 30) (i := 6) (by kernel_rfl) (by simp) l0
      rw [hR.1 6 _ l0 rfl] at f0
      have g0 := hR.2.1 hl
      have c0 := c3.gr g0
      have y0 := c0.h
      have y1 := c0.f
      have fp := hF.old (s := 8) (v := .pointer (some ⟨w.heap.size + 1 + 1, 0, none⟩)) (by kernel_rfl) rfl
      exact wp_skip (w' := setBlk v1 (w.heap.size + 1 + 1) (nw 9 R)) (by simp [go_sem, fp, y0, y1, f0]) ⟨undef, rfl, RO.store _ hil hl rfl hR⟩
    · obtain rfl := Option.some.inj ho
      exact wp_val (.int .i64 0) (by simp [go_sem]) ⟨_, rfl, RO.quiet 8 _ rfl (by decide) (Gr.refl _) hR⟩
  case hf =>
    intro listed vals a1 v1 hall hR hF
    obtain ⟨vM, g1, g2⟩ := hR.2.2 (hall 7 (by simp))
    have cR := ((c3.gr g1).set R).gr g2
    have hV := hR.1
    have x0 := hV 0 _ (hall 0 (by simp)) rfl
    have x1 := hV 1 _ (hall 1 (by simp)) rfl
    have x2 := hV 2 _ (hall 2 (by simp)) rfl
    have x3 := hV 3 _ (hall 3 (by simp)) rfl
    have x4 := hV 4 _ (hall 4 (by simp)) rfl
    have x5 := hV 5 _ (hall 5 (by simp)) rfl
    have x6 := hV 6 _ (hall 6 (by simp)) rfl
    have x8 := hV 8 _ (hall 8 (by simp)) rfl
    rw [hF.final (by kernel_rfl) hall]
    simp only [putFrom, Act.put, List.setIfInBounds_toArray, List.set_cons_zero, List.set_cons_succ, x0, x1, x2, x3, x4, x5, x6, x8]
    clear hV hR hF hall x0 x1 x2 x3 x4 x5 x6 x8
    have hr := cR.h
    go_wp2_with fail
    refine bodyPost_ret (res_two Try.results81 (rd_nat (x := R) (by rfl) ?_) (rd_tmp (by rfl))) rfl ⟨rfl, ?_⟩
    · exact cR.h
    · exact (gr_setNew (G.trans g1) (by omega)).trans g2

set_option maxRecDepth 100000 in
set_option maxHeartbeats 1600000 in
theorem onTwo_mul (x : Int) (m a b R : Nat) (HM : ∀ w p, blk w p = nw 9 a ++ nw 9 b → Pre (p + 1) w.heap.size → Calls Try.prog 83 #[.int .i64 x, .slice (some ⟨p, 0, none⟩) 2 2] w fun e w' => e = .returned (.tuple #[.agg (nw 9 m), .int .i64 0]) ∧ Gr w w')
    (HF : ∀ w, Calls Try.prog 87 #[.agg (nw 9 m), .agg (nw 9 a), .agg (nw 9 b)] w fun e w' => e = .returned (.agg (nw 9 R)) ∧ Gr w w') (w : World) :
    Calls Try.prog 81 #[.int .i64 2, .int .i64 x, .agg (nw 9 a), .agg (nw 9 b)] w fun e w' => e = .returned (.tuple #[.agg (nw 9 R), .int .i64 0]) ∧ Gr w w' := by
  have HM' : Hid (∀ w p, blk w p = nw 9 a ++ nw 9 b → Pre (p + 1) w.heap.size → Calls Try.prog 83 #[.int .i64 x, .slice (some ⟨p, 0, none⟩) 2 2] w fun e w' => e = .returned (.tuple #[.agg (nw 9 m), .int .i64 0]) ∧ Gr w w') := HM
  have HF' : Hid (∀ w, Calls Try.prog 87 #[.agg (nw 9 m), .agg (nw 9 a), .agg (nw 9 b)] w fun e w' => e = .returned (.agg (nw 9 R)) ∧ Gr w w') := HF
  have HT : Hid (∀ w, Calls Try.prog 84 #[] w fun e w' => e = .returned (.agg tab2) ∧ Gr w w') := fun w => ofTwo_any w
  clear HM HF
  go_enter Try.func81, Try.ntmps81
  go_upto_region 4 with (go_at_call 83; refine (HM'.out _ _ ?_ ?_).mono ?_; · simp [go_sem]
                         · simp [go_sem]
                         rintro e w' ⟨rfl, g, rfl⟩)
  obtain ⟨b10, hb10⟩ : ∃ b, w.heap.size + 1 + 1 + 1 + 1 + g.os.length = b := ⟨_, rfl⟩
  rw [hb10]
  refine gen_w (fun v => Hid (Gr w v ∧ Cl v w.heap.size a ∧ Cl v (w.heap.size + 1) b ∧ Cl v (w.heap.size + 1 + 1) 0 ∧ Cl v b10 m)) ?_ ?_
  · subst hb10
    exact ⟨(by repeat (first | exact Gr.refl _ | apply Gr.drewN | apply Gr.drew | apply Gr.alloc | apply Gr.gro)), ⟨by simp [go_sem], by simp [go_sem], by simp [go_sem]⟩, ⟨by simp [go_sem], by simp [go_sem], by simp [go_sem]⟩, ⟨by simp [go_sem], by simp [go_sem], by simp [go_sem]⟩, ⟨by simp [go_sem], by simp [go_sem], by simp [go_sem]⟩⟩
  intro v0 HV
  obtain ⟨G, c1, c2, c3, c4⟩ := HV.out
  have n1 : w.heap.size + 1 + 1 ≠ b10 := by omega
  refine wp_region_mix (by kernel_rfl) (by kernel_rfl) (RO _ (fun i => match i with | 0 => some (.agg tab2) | 1 => some (.int .i64 2) | 2 => some (.func (.func 87) #[] #[]) | 3 => some (.agg (nw 9 m)) | 4 => some (.agg (nw 9 a)) | 5 => some (.agg (nw 9 b)) | 6 => some (.agg (nw 9 R)) | 8 => some (.int .i64 0) | _ => none) 7 (w.heap.size + 1 + 1) (nw 9 R)) (RO.start _ _ _ _ _ _ _) ?hs ?hf
  case hs =>
    intro listed vals a1 v1 i o hz hR hF ho hl hd
    have hm : blk v1 (b10) = nw 9 m := (hR.blk (b10) c4.p (n1)).trans c4.h
    have ha : blk v1 (w.heap.size) = nw 9 a := (hR.blk (w.heap.size) c1.p (by omega)).trans c1.h
    have hb : blk v1 (w.heap.size + 1) = nw 9 b := (hR.blk (w.heap.size + 1) c2.p (by omega)).trans c2.h
    have hi : i < 9 := by simpa using (Array.getElem?_eq_some_iff.1 ho).1
    have hil : i < listed.size := by rw [hz]; simpa using hi
    obtain rfl | rfl | rfl | rfl | rfl | rfl | rfl | rfl | rfl : i = 0 ∨ i = 1 ∨ i = 2 ∨ i = 3 ∨ i = 4 ∨ i = 5 ∨ i = 6 ∨ i = 7 ∨ i = 8 := by omega
    · obtain rfl := Option.some.inj ho
      exact wp_ret (.agg tab2) (by simp [go_sem]) (HT.out _) (fun w2 hg => ⟨_, rfl, RO.quiet 0 _ rfl (by decide) hg hR⟩)
    · obtain rfl := Option.some.inj ho
      have f0 := hF.old (s := 0) (v := .int .i64 2) (by kernel_rfl) rfl
      exact wp_val (.int .i64 2) (by simp [go_sem, f0]) ⟨_, rfl, RO.quiet 1 _ rfl (by decide) (Gr.refl _) hR⟩
    · obtain rfl := Option.some.inj ho
      have l0 := hd ⟨0, .data⟩ (by simp) rfl
      have f0 := hF.at (s := 24) (i := 0) (by kernel_rfl) (by simp) l0
      rw [hR.1 0 _ l0 rfl] at f0
      have l1 := hd ⟨1, .data⟩ (by simp) rfl
      have f1 := hF.at (s := 25) (i := 1) (by kernel_rfl) (by simp) l1
      rw [hR.1 1 _ l1 rfl] at f1
      exact wp_val (.func (.func 87) #[] #[]) (by simp [go_sem, f0, f1]) ⟨_, rfl, RO.quiet 2 _ rfl (by decide) (Gr.refl _) hR⟩
    · obtain rfl := Option.some.inj ho
      have f0 := hF.old (s := 10) (v := .pointer (some ⟨b10, 0, none⟩)) (by kernel_rfl) rfl
      exact wp_val (.agg (nw 9 m)) (by simp [go_sem, f0, hm]) ⟨_, rfl, RO.quiet 3 _ rfl (by decide) (Gr.refl _) hR⟩
    · obtain rfl := Option.some.inj ho
      have f0 := hF.old (s := 6) (v := .pointer (some ⟨w.heap.size, 0, none⟩)) (by kernel_rfl) rfl
      exact wp_val (.agg (nw 9 a)) (by simp [go_sem, f0, ha]) ⟨_, rfl, RO.quiet 4 _ rfl (by decide) (Gr.refl _) hR⟩
    · obtain rfl := Option.some.inj ho
      have f0 := hF.old (s := 7) (v := .pointer (some ⟨w.heap.size + 1, 0, none⟩)) (by kernel_rfl) rfl
      exact wp_val (.agg (nw 9 b)) (by simp [go_sem, f0, hb]) ⟨_, rfl, RO.quiet 5 _ rfl (by decide) (Gr.refl _) hR⟩
    · obtain rfl := Option.some.inj ho
      have l0 := hd ⟨2, .data⟩ (by simp) rfl
      have f0 := hF.at (s := 26) (i := 2) (by kernel_rfl) (by simp) l0
      rw [hR.1 2 _ l0 rfl] at f0
      have l1 := hd ⟨3, .data⟩ (by simp) rfl
      have f1 := hF.at (s := 27) (i := 3) (by kernel_rfl) (by simp) l1
      rw [hR.1 3 _ l1 rfl] at f1
      have l2 := hd ⟨4, .data⟩ (by simp) rfl
      have f2 := hF.at (s := 28) (i := 4) (by kernel_rfl) (by simp) l2
      rw [hR.1 4 _ l2 rfl] at f2
      have l3 := hd ⟨5, .data⟩ (by simp) rfl
      have f3 := hF.at (s := 29) (i := 5) (by kernel_rfl) (by simp) l3
      rw [hR.1 5 _ l3 rfl] at f3
      exact wp_ret (.agg (nw 9 R)) (by simp [go_sem, f0, f1, f2, f3]) (HF'.out _) (fun w2 hg => ⟨_, rfl, RO.quiet 6 _ rfl (by decide) hg hR⟩)
    · obtain rfl := Option.some.inj ho
      have l0 := hd ⟨6, .data⟩ (by simp) rfl
      have f0 := hF.at (s := 30) (i := 6) (by kernel_rfl) (by simp) l0
      rw [hR.1 6 _ l0 rfl] at f0
      have g0 := hR.2.1 hl
      have c0 := c3.gr g0
      have y0 := c0.h
      have y1 := c0.f
      have fp := hF.old (s := 8) (v := .pointer (some ⟨w.heap.size + 1 + 1, 0, none⟩)) (by kernel_rfl) rfl
      exact wp_skip (w' := setBlk v1 (w.heap.size + 1 + 1) (nw 9 R)) (by simp [go_sem, fp, y0, y1, f0]) ⟨undef, rfl, RO.store _ hil hl rfl hR⟩
    · obtain rfl := Option.some.inj ho
      exact wp_val (.int .i64 0) (by simp [go_sem]) ⟨_, rfl, RO.quiet 8 _ rfl (by decide) (Gr.refl _) hR⟩
  case hf =>
    intro listed vals a1 v1 hall hR hF
    obtain ⟨vM, g1, g2⟩ := hR.2.2 (hall 7 (by simp))
    have cR := ((c3.gr g1).set R).gr g2
    have hV := hR.1
    have x0 := hV 0 _ (hall 0 (by simp)) rfl
    have x1 := hV 1 _ (hall 1 (by simp)) rfl
    have x2 := hV 2 _ (hall 2 (by simp)) rfl
    have x3 := hV 3 _ (hall 3 (by simp)) rfl
    have x4 := hV 4 _ (hall 4 (by simp)) rfl
    have x5 := hV 5 _ (hall 5 (by simp)) rfl
    have x6 := hV 6 _ (hall 6 (by simp)) rfl
    have x8 := hV 8 _ (hall 8 (by simp)) rfl
    rw [hF.final (by kernel_rfl) hall]
    simp only [putFrom, Act.put, List.setIfInBounds_toArray, List.set_cons_zero, List.set_cons_succ, x0, x1, x2, x3, x4, x5, x6, x8]
    clear hV hR hF hall x0 x1 x2 x3 x4 x5 x6 x8
    have hr := cR.h
    go_wp2_with fail
    refine bodyPost_ret (res_two Try.results81 (rd_nat (x := R) (by rfl) ?_) (rd_tmp (by rfl))) rfl ⟨rfl, ?_⟩
    · exact cR.h
    · exact (gr_setNew (G.trans g1) (by omega)).trans g2

end Go.Proofs.Ytgmaalokfgdpaaa
namespace Go.Proofs.Ytgmaalokfgdpaaa
open Go.RowKit

theorem pN_bd (i : Nat) (h1 : 1 ≤ i) (h2 : i ≤ 15) : 1 < pN i ∧ pN i + pN i ≤ M ∧ pN i % 2 = 1 := by
  obtain rfl | rfl | rfl | rfl | rfl | rfl | rfl | rfl | rfl | rfl | rfl | rfl | rfl | rfl | rfl : i = 1 ∨ i = 2 ∨ i = 3 ∨ i = 4 ∨ i = 5 ∨ i = 6 ∨ i = 7 ∨ i = 8 ∨ i = 9 ∨ i = 10 ∨ i = 11 ∨ i = 12 ∨ i = 13 ∨ i = 14 ∨ i = 15 := by omega
  all_goals exact ⟨by decide +kernel, by decide +kernel, by decide +kernel⟩
end Go.Proofs.Ytgmaalokfgdpaaa
namespace Go.Proofs.Ytgmaalokfgdpaaa
open Go.RowKit
attribute [local go_sem ↓] loadNat_is loadArr_is loadWide_is loadArrW_is storeNat_is storeWide_is
attribute [local go_sem] loadNat loadArr loadWide loadArrW storeNat storeWide idxArr fold9 fold18 nw_size nw_elem pre_self pre_1 pre_2 pre_3 pre_4 pre_5 pre_6 pre_7 pre_8 pre_9 pre_10 pre_11 pre_12 pre_13 pre_14 pre_15 pre_16 pre_17 pre_18 pre_19 pre_20 pre_21 pre_22 pre_23 pre_24 pre_25 pre_26 pre_27 pre_28 pre_29 pre_30 pre_31 pre_32 pre_33 pre_34 pre_35 pre_36 pre_37 pre_38 pre_39 pre_40 gro_size gro_drew gro_drewN drew_gro drewN_gro gro_gro blk_gro frz_gro blk_drew frz_drew blk_drewN frz_drewN blk_alloc_at frz_alloc_at blk_alloc frz_alloc cell_gro frozen_gro cell_alloc_pre frozen_alloc_pre setCell_drewN alloc_drewN setBlk_drew setBlk_drewN setBlk_alloc_at setBlk_alloc setBlk_gro setCell_gro setCell_alloc_pre size_setBlk size_setCell
attribute [local go_sem ↓] loadDv_is load19_is storeDv_is store19_is copy_is
attribute [local go_sem] idx18 loadDv load19 storeDv store19 dv_size dv_9 dv_10 dv_e9 dv_e10 dv_elem fold11 fold19 setCell_in cell_in frozen_in frz_setBlk blk_setBlk setBlk_setBlk copy_run cpA_nw ones_nw

attribute [local go_sem ↓] loadMd_is storeMd_is buildMd_is
attribute [local go_sem] loadMd storeMd buildMd0 buildMd1

set_option maxRecDepth 100000 in
set_option maxHeartbeats 1600000 in
theorem fAdd_of (x : Int) (a b R : Nat) (E : Int) (HF : ∀ w, Calls Try.prog 81 #[.int .i64 0, .int .i64 x, .agg (nw 9 a), .agg (nw 9 b)] w fun e w' => e = .returned (.tuple #[.agg (nw 9 R), .int .i64 E]) ∧ Gr w w') (w : World) :
    Calls Try.prog 79 #[.int .i64 x, .agg (nw 9 a), .agg (nw 9 b)] w fun e w' => e = .returned (.tuple #[.agg (nw 9 R), .int .i64 E]) ∧ Gr w w' := by
  have HF' : Hid (∀ w, Calls Try.prog 81 #[.int .i64 0, .int .i64 x, .agg (nw 9 a), .agg (nw 9 b)] w fun e w' => e = .returned (.tuple #[.agg (nw 9 R), .int .i64 E]) ∧ Gr w w') := HF
  clear HF
  go_enter Try.func79, Try.ntmps79
  go_wp2_with (go_at_call 81; refine (HF'.out _).mono ?_; rintro e w' ⟨rfl, g, rfl⟩)
  refine bodyPost_ret (res_two Try.results79 (rd_nat (x := R) (by rfl) ?_) (rd_tmp (by rfl))) rfl ⟨rfl, (by repeat (first | exact Gr.refl _ | apply Gr.drewN | apply Gr.drew | apply Gr.alloc | apply Gr.gro))⟩
  simp [go_sem]
theorem fAdd_ok (i a b : Nat) (h1 : 1 ≤ i) (h2 : i ≤ 15) (ha : a < pN i) (hb : b < pN i) (w : World) :
    Calls Try.prog 79 #[.int .i64 (i : Int), .agg (nw 9 a), .agg (nw 9 b)] w fun e w' => e = .returned (.tuple #[.agg (nw 9 ((a + b) % pN i)), .int .i64 0]) ∧ Gr w w' := by
  have hB := pN_bd i h1 h2
  refine fAdd_of i a b _ 0 (fun w => onTwo_add i (pN i) a b _ (fun w p hp hq => ?_) (fun w => fadd_any (pN i) a b ha hb hB.2.1 w) w) w
  have := mfor_two i (pN i) a b p (mvN a b) h1 h2 rfl (by omega) (by omega) (by omega) rfl w (by rw [hp]; exact app_mv a b (by omega)) hq
  rw [if_pos ⟨ha, hb⟩, if_pos ⟨ha, hb⟩] at this
  exact this

set_option maxRecDepth 100000 in
set_option maxHeartbeats 1600000 in
theorem fMul_of (x : Int) (a b R : Nat) (E : Int) (HF : ∀ w, Calls Try.prog 81 #[.int .i64 2, .int .i64 x, .agg (nw 9 a), .agg (nw 9 b)] w fun e w' => e = .returned (.tuple #[.agg (nw 9 R), .int .i64 E]) ∧ Gr w w') (w : World) :
    Calls Try.prog 78 #[.int .i64 x, .agg (nw 9 a), .agg (nw 9 b)] w fun e w' => e = .returned (.tuple #[.agg (nw 9 R), .int .i64 E]) ∧ Gr w w' := by
  have HF' : Hid (∀ w, Calls Try.prog 81 #[.int .i64 2, .int .i64 x, .agg (nw 9 a), .agg (nw 9 b)] w fun e w' => e = .returned (.tuple #[.agg (nw 9 R), .int .i64 E]) ∧ Gr w w') := HF
  clear HF
  go_enter Try.func78, Try.ntmps78
  go_wp2_with (go_at_call 81; refine (HF'.out _).mono ?_; rintro e w' ⟨rfl, g, rfl⟩)
  refine bodyPost_ret (res_two Try.results78 (rd_nat (x := R) (by rfl) ?_) (rd_tmp (by rfl))) rfl ⟨rfl, (by repeat (first | exact Gr.refl _ | apply Gr.drewN | apply Gr.drew | apply Gr.alloc | apply Gr.gro))⟩
  simp [go_sem]
theorem fMul_ok (i a b : Nat) (h1 : 1 ≤ i) (h2 : i ≤ 15) (ha : a < pN i) (hb : b < pN i) (w : World) :
    Calls Try.prog 78 #[.int .i64 (i : Int), .agg (nw 9 a), .agg (nw 9 b)] w fun e w' => e = .returned (.tuple #[.agg (nw 9 (a * b % pN i)), .int .i64 0]) ∧ Gr w w' := by
  have hB := pN_bd i h1 h2
  refine fMul_of i a b _ 0 (fun w => onTwo_mul i (pN i) a b _ (fun w p hp hq => ?_) (fun w => fmul_any (pN i) a b (by omega) (by omega) (by omega) (by omega) w) w) w
  have := mfor_two i (pN i) a b p (mvN a b) h1 h2 rfl (by omega) (by omega) (by omega) rfl w (by rw [hp]; exact app_mv a b (by omega)) hq
  rw [if_pos ⟨ha, hb⟩, if_pos ⟨ha, hb⟩] at this
  exact this

end Go.Proofs.Ytgmaalokfgdpaaa
namespace Go.Proofs.Ytgmaalokfgdpaaa
open Go.RowKit
attribute [local go_sem ↓] loadNat_is loadArr_is loadWide_is loadArrW_is storeNat_is storeWide_is
attribute [local go_sem] loadNat loadArr loadWide loadArrW storeNat storeWide idxArr fold9 fold18 nw_size nw_elem pre_self pre_1 pre_2 pre_3 pre_4 pre_5 pre_6 pre_7 pre_8 pre_9 pre_10 pre_11 pre_12 pre_13 pre_14 pre_15 pre_16 pre_17 pre_18 pre_19 pre_20 pre_21 pre_22 pre_23 pre_24 pre_25 pre_26 pre_27 pre_28 pre_29 pre_30 pre_31 pre_32 pre_33 pre_34 pre_35 pre_36 pre_37 pre_38 pre_39 pre_40 gro_size gro_drew gro_drewN drew_gro drewN_gro gro_gro blk_gro frz_gro blk_drew frz_drew blk_drewN frz_drewN blk_alloc_at frz_alloc_at blk_alloc frz_alloc cell_gro frozen_gro cell_alloc_pre frozen_alloc_pre setCell_drewN alloc_drewN setBlk_drew setBlk_drewN setBlk_alloc_at setBlk_alloc setBlk_gro setCell_gro setCell_alloc_pre size_setBlk size_setCell
attribute [local go_sem] ppre_1 ppre_2 ppre_3
/-- A row of words. -/
def ws (l : List Nat) : Array Value := (l.map fun x : Nat => Value.int .u64 (x : Int)).toArray
/-- The number of these words, the highest first. -/
def numW (l : List Nat) : Nat := l.foldl (fun a x => a * 18446744073709551616 + x) 0
theorem ws_get (l : List Nat) (j x : Nat) (h : l[j]? = some x) : (ws l)[j]? = some (.int .u64 (x : Int)) := by simp [ws, h]
theorem numW_take (l : List Nat) (j x : Nat) (h : l[j]? = some x) : numW (l.take (j + 1)) = numW (l.take j) * 18446744073709551616 + x := by
  unfold numW
  rw [List.take_add_one, h, List.foldl_append]
  rfl
theorem put_word (N x q : Nat) : N * pw (q + 1) % pw q + x * pw q + N * pw (q + 1) / pw (q + 1) * pw (q + 1) = (N * 18446744073709551616 + x) * pw q := by
  have h1 : N * pw (q + 1) % pw q = 0 := by
    rw [pow_succ64, Nat.mul_comm (pw q), ← Nat.mul_assoc, Nat.mul_mod_left]
  have h2 : N * pw (q + 1) / pw (q + 1) = N := Nat.mul_div_cancel _ (pw_pos _)
  rw [h1, h2, Nat.zero_add, pow_succ64, Nat.add_mul, Nat.add_comm, Nat.mul_assoc N, Nat.mul_comm (pw q)]
set_option maxRecDepth 100000 in
set_option maxHeartbeats 800000 in
theorem number_any (l : List Nat) (k b : Nat) (hk : l.length = k) (h9 : k ≤ 9) (hw : ∀ x ∈ l, x < 18446744073709551616) (w : World) (hb : blk w b = ws l) (hp : Pre (b + 1) w.heap.size) :
    Calls Try.prog 75 #[.slice (some ⟨b, 0, none⟩) k k] w fun e w' => e = .returned (.agg (nw 9 (numW l))) ∧ Gr w w' := by
  have HC : Hid (∀ (j x : Nat), l[j]? = some x → w.cell? ⟨b, j, none⟩ = some (.int .u64 (x : Int))) := fun j x h => by rw [cell_blk, hb]; exact ws_get l j x h
  have HX : Hid (∀ (j x : Nat), l[j]? = some x → x < 18446744073709551616) := fun j x h => hw x (List.mem_of_getElem? h)
  have HK : Hid (Unit → l.length = k) := fun _ => hk
  have k0 : (0 : Int) ≤ (k : Int) := by omega
  have k9 : (k : Int) ≤ 9 := by omega
  have K9 : Hid (Unit → k ≤ 9) := fun _ => h9
  clear hb hw hk h9
  go_enter Try.func75, Try.ntmps75
  go_wp2
  go_loopw [8] (fun i wr => ∃ j V : Nat, i = .int .i64 (j : Int) ∧ Hid (Unit → j ≤ k ∧ numW (l.take j) * pw (k - j) = V) ∧ wr = (w.alloc (.cells (nw 9 0) 25)).alloc (.cells (nw 9 V) 25)) (fun i _ => k - (intOf i).toNat)
  case atStart => exact ⟨0, 0, rfl, fun _ => ⟨Nat.zero_le _, by simp [numW]⟩, rfl⟩
  case round =>
    obtain ⟨j, V, rfl, HV, rfl⟩ := hrel
    by_cases hlt : j < k
    · obtain ⟨q, hq⟩ : ∃ q, k - 1 - j = q := ⟨_, rfl⟩
      have hj : j < l.length := by rw [HK.out ()]; exact hlt
      obtain ⟨x, hx⟩ : ∃ x, l[j]? = some x := ⟨l[j], List.getElem?_eq_getElem hj⟩
      have c1 := HC.out j x hx
      have x1 := HX.out j x hx
      have j0 : (0 : Int) ≤ (j : Int) := by omega
      have j1 : (j : Int) < (k : Int) := by omega
      have e1 : (k : Int) - 1 - (j : Int) = (q : Int) := by omega
      have q0 : (0 : Int) ≤ (q : Int) := by omega
      have q1 : (q : Int) < 9 := by have := K9.out (); omega
      have hq9 : q < 9 := by have := K9.out (); omega
      obtain ⟨V', hV'⟩ : ∃ V', numW (l.take (j + 1)) * pw q = V' := ⟨_, rfl⟩
      have s1 : (nw 9 V).setIfInBounds q (Value.int .u64 (x : Int)) = nw 9 V' := by
        rw [nw_set 9 V q x x1, ← hV', ← (HV.out ()).2, numW_take l j x hx, show k - j = q + 1 by omega, put_word]
      have HV' : Hid (Unit → j + 1 ≤ k ∧ numW (l.take (j + 1)) * pw (k - (j + 1)) = V') := fun _ => ⟨hlt, by rw [← hV', show k - (j + 1) = q by omega]⟩
      have g1 := nw_get 9 V q hq9
      clear hV' hx hq hq9 x1 hj hlt
      go_wp2
      go_roundw
      case rel => exact ⟨j + 1, V', by go_num, HV', rfl⟩
      case measure => simp [intOf]; omega
    · have HE : Hid (Unit → V = numW l) := fun _ => by
        have := HV.out ()
        rw [← this.2, show k - j = 0 by omega, pw_zero, Nat.mul_one, List.take_of_length_le (by rw [HK.out ()]; omega)]
      have ji : ¬ (j : Int) < (k : Int) := by omega
      clear hlt
      go_wp2
      refine bodyPost_ret (res_one Try.results75 (rd_nat (x := V) (by rfl) ?_)) rfl ⟨by rw [HE.out ()], (by repeat (first | exact Gr.refl _ | apply Gr.drewN | apply Gr.drew | apply Gr.alloc | apply Gr.gro))⟩
      simp [go_sem]

end Go.Proofs.Ytgmaalokfgdpaaa
namespace Go.Proofs.Ytgmaalokfgdpaaa
open Go.RowKit
attribute [local go_sem ↓] loadNat_is loadArr_is loadWide_is loadArrW_is storeNat_is storeWide_is
attribute [local go_sem] loadNat loadArr loadWide loadArrW storeNat storeWide idxArr fold9 fold18 nw_size nw_elem pre_self pre_1 pre_2 pre_3 pre_4 pre_5 pre_6 pre_7 pre_8 pre_9 pre_10 pre_11 pre_12 pre_13 pre_14 pre_15 pre_16 pre_17 pre_18 pre_19 pre_20 pre_21 pre_22 pre_23 pre_24 pre_25 pre_26 pre_27 pre_28 pre_29 pre_30 pre_31 pre_32 pre_33 pre_34 pre_35 pre_36 pre_37 pre_38 pre_39 pre_40 gro_size gro_drew gro_drewN drew_gro drewN_gro gro_gro blk_gro frz_gro blk_drew frz_drew blk_drewN frz_drewN blk_alloc_at frz_alloc_at blk_alloc frz_alloc cell_gro frozen_gro cell_alloc_pre frozen_alloc_pre setCell_drewN alloc_drewN setBlk_drew setBlk_drewN setBlk_alloc_at setBlk_alloc setBlk_gro setCell_gro setCell_alloc_pre size_setBlk size_setCell
attribute [local go_sem] loadNat2 loadArr2 loadWide2 loadK_nw ppre_1 ppre_2 ppre_3 ppre_4 ppre_5 ppre_6 ppre_7 ppre_8 ppre_9 ppre_10 ppre_11 ppre_12 ppre_13 ppre_14 ppre_15 ppre_16 ppre_17 ppre_18 ppre_19 ppre_20

attribute [local go_sem ↓] Go.wp_at_zero Go.wp_at_succ
attribute [local go_sem] frz_setBlk blk_setBlk setBlk_setBlk blk_other
set_option maxRecDepth 100000 in
set_option maxHeartbeats 1600000 in
theorem lessThree_any (p : Nat) (h3 : 3 ≤ p) (hp : p < M) (w : World) :
    Calls Try.prog 74 #[.agg (nw 9 p)] w fun e w' => e = .returned (.agg (nw 9 (p - 3))) ∧ Gr w w' := by
  obtain ⟨d, hd'⟩ : ∃ d, p - 3 = d := ⟨_, rfl⟩
  have hd : ∀ w, Calls Try.prog 80 #[.agg (nw 9 p), .agg (nw 9 3)] w fun e w' => e = .returned (.tuple #[.agg (nw 9 d), .bool false]) ∧ Gr w w' := fun w => by
    have := sub_any p 3 hp (by omega) w
    rw [decide_eq_false (by omega), show p + M - 3 = d + M by omega, Nat.add_mod_right, Nat.mod_eq_of_lt (show d < M by omega)] at this
    exact this
  rw [hd']
  have HS : Hid (∀ w', Calls Try.prog 76 #[.int .i64 3] w' fun e w'' => e = .returned (.agg (nw 9 3)) ∧ Gr w' w'') := fun w => small_any 3 (by decide) w
  have HD : Hid (∀ w', Calls Try.prog 80 #[.agg (nw 9 p), .agg (nw 9 3)] w' fun e w'' => e = .returned (.tuple #[.agg (nw 9 d), .bool false]) ∧ Gr w' w'') := fun w => hd w
  clear hd hd' h3 hp
  go_enter Try.func74, Try.ntmps74
  go_upto_region 1 with fail
  refine gen_w (fun v => Hid (Gr w v ∧ Cl v w.heap.size p ∧ Cl v (w.heap.size + 1) 0)) ⟨(by repeat (first | exact Gr.refl _ | apply Gr.drewN | apply Gr.drew | apply Gr.alloc | apply Gr.gro)), ⟨by simp [go_sem], by simp [go_sem], by simp [go_sem]⟩, ⟨by simp [go_sem], by simp [go_sem], by simp [go_sem]⟩⟩ ?_
  intro v0 HV
  go_upto_region 1 with fail
  go_cut [3, 4] from 5 to 10 (fun a0 a1 wx => ∃ e3 : Nat, a0 = .pointer (some ⟨e3, 0, none⟩) ∧ a1 = .bool false ∧ Hid (Gr w wx ∧ Cl wx (w.heap.size) p ∧ Cl wx (w.heap.size + 1) 0 ∧ Cl wx e3 d))
  case first =>
    have ⟨G, c_w_heap_size, c__w_heap_size_1_⟩ := HV.out
    have ⟨hc_w_heap_size, fc_w_heap_size, pc_w_heap_size⟩ := c_w_heap_size
    have ⟨hc__w_heap_size_1_, fc__w_heap_size_1_, pc__w_heap_size_1_⟩ := c__w_heap_size_1_
    refine wp_region_mix (by kernel_rfl) (by kernel_rfl) (RG _ (fun i => match i with | 0 => some (.agg (nw 9 p)) | 1 => some (.agg (nw 9 3)) | 2 => some (.tuple #[.agg (nw 9 d), .bool false]) | 3 => some (.tuple #[.agg (nw 9 d), .bool false]) | 4 => some (.agg (nw 9 d)) | 5 => some (.bool false) | 8 => some (.bool false) | _ => none) (fun i => match i with | 6 => some (nw 9 0) | _ => none) (fun i => match i with | 6 => some (7, nw 9 d) | _ => none)) (RG.start _ _ _ _ _ _) ?hs ?hf
    case hs =>
      intro listed vals a1 v1 i o hz hR hF ho hl hd
      have hks : ∀ (j k : Nat) (r : Array Value), (match j with | 6 => some (7, nw 9 d) | _ => (none : Option (Nat × Array Value))) = some (k, r) → (j = 6 ∧ k = 7) := fun j k r h => by
        split at h <;> simp_all
      have Hc_w_heap_size : blk v1 (w.heap.size) = nw 9 p := (blk_of _ _ _ (hR.1.below.block (w.heap.size) (c_w_heap_size.p))).trans (c_w_heap_size.h)
      have Hc__w_heap_size_1_ : blk v1 ((w.heap.size + 1)) = nw 9 0 := (blk_of _ _ _ (hR.1.below.block ((w.heap.size + 1)) (c__w_heap_size_1_.p))).trans (c__w_heap_size_1_.h)
      have hi : i < 9 := by simpa using (Array.getElem?_eq_some_iff.1 ho).1
      have hil : i < listed.size := by rw [hz]; simpa using hi
      obtain rfl | rfl | rfl | rfl | rfl | rfl | rfl | rfl | rfl : i = 0 ∨ i = 1 ∨ i = 2 ∨ i = 3 ∨ i = 4 ∨ i = 5 ∨ i = 6 ∨ i = 7 ∨ i = 8 := by omega
      · obtain rfl := Option.some.inj ho
        have f0 := hF.old (s := 1) (v := .pointer (some ⟨w.heap.size, 0, none⟩)) (by kernel_rfl) rfl
        exact wp_val (.agg (nw 9 p)) (by simp [go_sem, f0, Hc_w_heap_size]) ⟨_, rfl, RG.quiet 0 _ hil rfl rfl (fun j k r h => by have := hks j k r h; omega) (Gr.refl _) hR⟩
      · obtain rfl := Option.some.inj ho
        exact wp_ret (.agg (nw 9 3)) (by simp [go_sem]) (HS.out _) (fun w2 hg => ⟨_, rfl, RG.quiet 1 _ hil rfl rfl (fun j k r h => by have := hks j k r h; omega) hg hR⟩)
      · obtain rfl := Option.some.inj ho
        have l0 := hd ⟨0, .data⟩ (by simp) rfl
        have f0 := hF.at (s := 6) (i := 0) (by kernel_rfl) (by simp) l0
        rw [hR.2.1 0 _ l0 rfl] at f0
        have l1 := hd ⟨1, .data⟩ (by simp) rfl
        have f1 := hF.at (s := 7) (i := 1) (by kernel_rfl) (by simp) l1
        rw [hR.2.1 1 _ l1 rfl] at f1
        exact wp_ret (.tuple #[.agg (nw 9 d), .bool false]) (by simp [go_sem, f0, f1]) (HD.out _) (fun w2 hg => ⟨_, rfl, RG.quiet 2 _ hil rfl rfl (fun j k r h => by have := hks j k r h; omega) hg hR⟩)
      · obtain rfl := Option.some.inj ho
        have l0 := hd ⟨2, .data⟩ (by simp) rfl
        have f0 := hF.at (s := 8) (i := 2) (by kernel_rfl) (by simp) l0
        rw [hR.2.1 2 _ l0 rfl] at f0
        exact wp_val (.tuple #[.agg (nw 9 d), .bool false]) (by simp [go_sem, f0]) ⟨_, rfl, RG.quiet 3 _ hil rfl rfl (fun j k r h => by have := hks j k r h; omega) (Gr.refl _) hR⟩
      · obtain rfl := Option.some.inj ho
        have l0 := hd ⟨3, .data⟩ (by simp) rfl
        have f0 := hF.at (s := 5) (i := 3) (by kernel_rfl) (by simp) l0
        rw [hR.2.1 3 _ l0 rfl] at f0
        exact wp_val (.agg (nw 9 d)) (by simp [go_sem, f0]) ⟨_, rfl, RG.quiet 4 _ hil rfl rfl (fun j k r h => by have := hks j k r h; omega) (Gr.refl _) hR⟩
      · obtain rfl := Option.some.inj ho
        have l0 := hd ⟨3, .data⟩ (by simp) rfl
        have f0 := hF.at (s := 5) (i := 3) (by kernel_rfl) (by simp) l0
        rw [hR.2.1 3 _ l0 rfl] at f0
        exact wp_val (.bool false) (by simp [go_sem, f0]) ⟨_, rfl, RG.quiet 5 _ hil rfl rfl (fun j k r h => by have := hks j k r h; omega) (Gr.refl _) hR⟩
      · obtain rfl := Option.some.inj ho
        exact wp_val (.pointer (some ⟨v1.heap.size, 0, none⟩)) (w' := v1.alloc (.cells (nw 9 0) 25)) (by simp [go_sem]) ⟨_, rfl, RG.alloc 6 (nw 9 0) 25 hil hl rfl rfl (fun j k r h => by have := hks j k r h; omega) hR⟩
      · obtain rfl := Option.some.inj ho
        have l0 := hd ⟨6, .data⟩ (by simp) rfl
        have l1 := hd ⟨4, .data⟩ (by simp) rfl
        obtain ⟨B, h4, h5⟩ := hR.2.2.2
        obtain ⟨e1, e2, e3, e4, e5⟩ := h4 6 (nw 9 0) l0 rfl
        simp only [hl] at e5
        replace e5 : blk v1 (B 6) = nw 9 0 := e5
        have f0 := hF.at (s := 3) (i := 6) (by kernel_rfl) (by simp) l0
        rw [e1] at f0
        have f1 := hF.at (s := 9) (i := 4) (by kernel_rfl) (by simp) l1
        rw [hR.2.1 4 _ l1 rfl] at f1
        exact wp_skip (w' := setBlk v1 (B 6) (nw 9 d)) (by simp [go_sem, f0, f1, e4, e5]) ⟨undef, rfl, RG.store 7 6 (nw 9 0) (nw 9 d) (B 6) hil hl rfl rfl rfl l0 rfl (by rw [nw_size]; decide) e1 (fun k r h => by have := hks k _ r h; omega) hR⟩
      · obtain rfl := Option.some.inj ho
        have l0 := hd ⟨5, .data⟩ (by simp) rfl
        have f0 := hF.at (s := 10) (i := 5) (by kernel_rfl) (by simp) l0
        rw [hR.2.1 5 _ l0 rfl] at f0
        exact wp_val (.bool false) (by simp [go_sem, f0]) ⟨_, rfl, RG.quiet 8 _ hil rfl rfl (fun j k r h => by have := hks j k r h; omega) (Gr.refl _) hR⟩
    case hf =>
      intro listed vals a1 v1 hall hR hF
      have Hc_w_heap_size : blk v1 (w.heap.size) = nw 9 p := (blk_of _ _ _ (hR.1.below.block (w.heap.size) (c_w_heap_size.p))).trans (c_w_heap_size.h)
      have pHc_w_heap_size : Pre (w.heap.size + 1) v1.heap.size := Nat.le_trans (show w.heap.size + 1 ≤ _ from c_w_heap_size.p) hR.1.below.size
      have Hc__w_heap_size_1_ : blk v1 ((w.heap.size + 1)) = nw 9 0 := (blk_of _ _ _ (hR.1.below.block ((w.heap.size + 1)) (c__w_heap_size_1_.p))).trans (c__w_heap_size_1_.h)
      have pHc__w_heap_size_1_ : Pre ((w.heap.size + 1) + 1) v1.heap.size := Nat.le_trans (show (w.heap.size + 1) + 1 ≤ _ from c__w_heap_size_1_.p) hR.1.below.size
      have hV := hR.2.1
      obtain ⟨B, h4, h5⟩ := hR.2.2.2
      have x0 := hV 0 _ (hall 0 (by simp)) rfl
      have x1 := hV 1 _ (hall 1 (by simp)) rfl
      have x2 := hV 2 _ (hall 2 (by simp)) rfl
      have x3 := hV 3 _ (hall 3 (by simp)) rfl
      have x4 := hV 4 _ (hall 4 (by simp)) rfl
      have x5 := hV 5 _ (hall 5 (by simp)) rfl
      have x8 := hV 8 _ (hall 8 (by simp)) rfl
      obtain ⟨x6, q6, p6, z6, y6⟩ := h4 6 _ (hall 6 (by simp)) rfl
      simp only [hall 7 (by simp), if_true] at y6
      replace p6 : Pre (B 6 + 1) v1.heap.size := p6
      replace y6 : blk v1 (B 6) = nw 9 d := y6
      have hb1 := hR.1
      rw [hF.final (by kernel_rfl) hall]
      simp only [putFrom, Act.put, List.setIfInBounds_toArray, List.set_cons_zero, List.set_cons_succ, x0, x1, x2, x3, x4, x5, x8, x6]
      generalize B 6 = b6 at *
      clear hV h4 h5 hR hF hall x0 x1 x2 x3 x4 x5 x8 x6
      go_wp2_with fail
      go_meet
      exact ⟨b6, rfl, rfl, G.trans hb1, c_w_heap_size.gr hb1, c__w_heap_size_1_.gr hb1, ⟨y6, z6, p6⟩⟩
  clear HV
  obtain ⟨e3, rfl, rfl, HV⟩ := hcut
  have ⟨G, c_w_heap_size, c__w_heap_size_1_, c_e3⟩ := HV.out
  have ⟨hc_w_heap_size, fc_w_heap_size, pc_w_heap_size⟩ := c_w_heap_size
  have ⟨hc__w_heap_size_1_, fc__w_heap_size_1_, pc__w_heap_size_1_⟩ := c__w_heap_size_1_
  have ⟨hc_e3, fc_e3, pc_e3⟩ := c_e3
  clear HV HS HD
  go_wp2_with fail
  refine bodyPost_ret (res_one Try.results74 (rd_nat (x := d) (by rfl) ?_)) rfl ⟨rfl, gr_setNew G (by omega)⟩
  simp [go_sem, *]

end Go.Proofs.Ytgmaalokfgdpaaa
namespace Go.Proofs.Ytgmaalokfgdpaaa
open Go.RowKit
attribute [local go_sem ↓] loadNat_is loadArr_is loadWide_is loadArrW_is storeNat_is storeWide_is
attribute [local go_sem] loadNat loadArr loadWide loadArrW storeNat storeWide idxArr fold9 fold18 nw_size nw_elem pre_self pre_1 pre_2 pre_3 pre_4 pre_5 pre_6 pre_7 pre_8 pre_9 pre_10 pre_11 pre_12 pre_13 pre_14 pre_15 pre_16 pre_17 pre_18 pre_19 pre_20 pre_21 pre_22 pre_23 pre_24 pre_25 pre_26 pre_27 pre_28 pre_29 pre_30 pre_31 pre_32 pre_33 pre_34 pre_35 pre_36 pre_37 pre_38 pre_39 pre_40 gro_size gro_drew gro_drewN drew_gro drewN_gro gro_gro blk_gro frz_gro blk_drew frz_drew blk_drewN frz_drewN blk_alloc_at frz_alloc_at blk_alloc frz_alloc cell_gro frozen_gro cell_alloc_pre frozen_alloc_pre setCell_drewN alloc_drewN setBlk_drew setBlk_drewN setBlk_alloc_at setBlk_alloc setBlk_gro setCell_gro setCell_alloc_pre size_setBlk size_setCell
attribute [local go_sem] ppre_1 ppre_2 ppre_3
theorem bslU_is (n : Nat) (p : Array (Nat × Value)) : Instr.buildSlice 102 n p = bslF 102 n p := rfl
attribute [local go_sem ↓] bslU_is zvCu_is storeCu_is buildCu_is buildPn_is
attribute [local go_sem] zvCu storeCu buildCu4 buildPn2 cu_size frz_setBlk blk_setBlk setBlk_setBlk
/-- number, of words that are written out. -/
theorem number_of (l : List Nat) (k X : Nat) (h : (decide (l.length = k) && decide (k ≤ 9) && l.all (fun x => decide (x < 18446744073709551616)) && decide (numW l = X)) = true) (b : Nat) (w : World) (hb : blk w b = ws l) (hp : Pre (b + 1) w.heap.size) :
    Calls Try.prog 75 #[.slice (some ⟨b, 0, none⟩) k k] w fun e w' => e = .returned (.agg (nw 9 X)) ∧ Gr w w' := by
  simp only [Bool.and_eq_true, decide_eq_true_eq, List.all_eq_true] at h
  obtain ⟨⟨⟨h1, h2⟩, h3⟩, h4⟩ := h
  rw [← h4]
  exact number_any l k b h1 h2 h3 w hb hp
set_option maxRecDepth 100000 in
set_option maxHeartbeats 1600000 in
theorem mk_1 (w : World) : Calls Try.prog 51 #[.agg (nw 9 (pN 1))] w fun e w' => e = .returned (.agg (cu 0 0 (aN 1) (bN 1) (oN 1) (xN 1) (yN 1) 0 0 false)) ∧ Gr w w' := by
  obtain ⟨P, eP⟩ : ∃ x, pN 1 = x := ⟨_, rfl⟩
  obtain ⟨A, e0⟩ : ∃ x, aN 1 = x := ⟨_, rfl⟩
  obtain ⟨B, e1⟩ : ∃ x, bN 1 = x := ⟨_, rfl⟩
  obtain ⟨N, e2⟩ : ∃ x, oN 1 = x := ⟨_, rfl⟩
  obtain ⟨X, e3⟩ : ∃ x, xN 1 = x := ⟨_, rfl⟩
  obtain ⟨Y, e4⟩ : ∃ x, yN 1 = x := ⟨_, rfl⟩
  rw [eP, e0, e1, e2, e3, e4]
  have H0 : Hid (∀ w, Calls Try.prog 74 #[.agg (nw 9 P)] w fun e w' => e = .returned (.agg (nw 9 A)) ∧ Gr w w') := fun w => by
    have := lessThree_any P (by rw [← eP]; decide +kernel) (by rw [← eP]; decide +kernel) w
    rw [show P - 3 = A by rw [← eP, ← e0]; decide +kernel] at this
    exact this
  have hb1 : ∀ w, (bslF 102 3 #[(0, .int .u64 7215053686808805607), (1, .int .u64 1128127154243252297), (2, .int .u64 18354665389784742321)]).run Try.prog w = .ok (.slice (some ⟨w.heap.size, 0, none⟩) 3 3) (w.alloc (.cells (ws [7215053686808805607, 1128127154243252297, 18354665389784742321]) 22)) := fun w => by kernel_rfl
  have H1 : Hid (∀ b w, blk w b = ws [7215053686808805607, 1128127154243252297, 18354665389784742321] → Pre (b + 1) w.heap.size → Calls Try.prog 75 #[.slice (some ⟨b, 0, none⟩) 3 3] w fun e w' => e = .returned (.agg (nw 9 B)) ∧ Gr w w') := fun b w => number_of _ 3 B (by rw [← e1]; decide +kernel) b w
  have hb2 : ∀ w, (bslF 102 3 #[(0, .int .u64 18446744073709551615), (1, .int .u64 18446744071996110902), (2, .int .u64 1471491468346665009)]).run Try.prog w = .ok (.slice (some ⟨w.heap.size, 0, none⟩) 3 3) (w.alloc (.cells (ws [18446744073709551615, 18446744071996110902, 1471491468346665009]) 22)) := fun w => by kernel_rfl
  have H2 : Hid (∀ b w, blk w b = ws [18446744073709551615, 18446744071996110902, 1471491468346665009] → Pre (b + 1) w.heap.size → Calls Try.prog 75 #[.slice (some ⟨b, 0, none⟩) 3 3] w fun e w' => e = .returned (.agg (nw 9 N)) ∧ Gr w w') := fun b w => number_of _ 3 N (by rw [← e2]; decide +kernel) b w
  have hb3 : ∀ w, (bslF 102 3 #[(0, .int .u64 1769255009665454326), (1, .int .u64 8988939576078862336), (2, .int .u64 17653841148256391186)]).run Try.prog w = .ok (.slice (some ⟨w.heap.size, 0, none⟩) 3 3) (w.alloc (.cells (ws [1769255009665454326, 8988939576078862336, 17653841148256391186]) 22)) := fun w => by kernel_rfl
  have H3 : Hid (∀ b w, blk w b = ws [1769255009665454326, 8988939576078862336, 17653841148256391186] → Pre (b + 1) w.heap.size → Calls Try.prog 75 #[.slice (some ⟨b, 0, none⟩) 3 3] w fun e w' => e = .returned (.agg (nw 9 X)) ∧ Gr w w') := fun b w => number_of _ 3 X (by rw [← e3]; decide +kernel) b w
  have hb4 : ∀ w, (bslF 102 3 #[(0, .int .u64 511487955924736632), (1, .int .u64 7138225120784731605), (2, .int .u64 8356842117447370769)]).run Try.prog w = .ok (.slice (some ⟨w.heap.size, 0, none⟩) 3 3) (w.alloc (.cells (ws [511487955924736632, 7138225120784731605, 8356842117447370769]) 22)) := fun w => by kernel_rfl
  have H4 : Hid (∀ b w, blk w b = ws [511487955924736632, 7138225120784731605, 8356842117447370769] → Pre (b + 1) w.heap.size → Calls Try.prog 75 #[.slice (some ⟨b, 0, none⟩) 3 3] w fun e w' => e = .returned (.agg (nw 9 Y)) ∧ Gr w w') := fun b w => number_of _ 3 Y (by rw [← e4]; decide +kernel) b w
  clear eP e0 e1 e2 e3 e4
  go_enter Try.func51, Try.ntmps51
  go_wp2_with (first
    | (go_at_call 75; have _ := g3; refine (H4.out _ _ ?_ ?_).mono ?_; (· simp [go_sem]); (· simp [go_sem]); rintro e w' ⟨rfl, g4, rfl⟩)
    | (go_at_call 75; have _ := g2; refine (H3.out _ _ ?_ ?_).mono ?_; (· simp [go_sem]); (· simp [go_sem]); rintro e w' ⟨rfl, g3, rfl⟩)
    | (go_at_call 75; have _ := g1; refine (H2.out _ _ ?_ ?_).mono ?_; (· simp [go_sem]); (· simp [go_sem]); rintro e w' ⟨rfl, g2, rfl⟩)
    | (go_at_call 75; have _ := g0; refine (H1.out _ _ ?_ ?_).mono ?_; (· simp [go_sem]); (· simp [go_sem]); rintro e w' ⟨rfl, g1, rfl⟩)
    | (go_at_call 74; refine (H0.out _).mono ?_; rintro e w' ⟨rfl, g0, rfl⟩))
  refine bodyPost_ret (res_one Try.results51 (rd_cu (by rfl) ?_)) rfl ⟨rfl, (by repeat (first | exact Gr.refl _ | apply Gr.drewN | apply Gr.drew | apply Gr.alloc | apply Gr.gro))⟩
  simp [go_sem]
set_option maxRecDepth 100000 in
set_option maxHeartbeats 1600000 in
theorem mk_2 (w : World) : Calls Try.prog 52 #[.agg (nw 9 (pN 2))] w fun e w' => e = .returned (.agg (cu 0 0 (aN 2) (bN 2) (oN 2) (xN 2) (yN 2) 0 0 false)) ∧ Gr w w' := by
  obtain ⟨P, eP⟩ : ∃ x, pN 2 = x := ⟨_, rfl⟩
  obtain ⟨A, e0⟩ : ∃ x, aN 2 = x := ⟨_, rfl⟩
  obtain ⟨B, e1⟩ : ∃ x, bN 2 = x := ⟨_, rfl⟩
  obtain ⟨N, e2⟩ : ∃ x, oN 2 = x := ⟨_, rfl⟩
  obtain ⟨X, e3⟩ : ∃ x, xN 2 = x := ⟨_, rfl⟩
  obtain ⟨Y, e4⟩ : ∃ x, yN 2 = x := ⟨_, rfl⟩
  rw [eP, e0, e1, e2, e3, e4]
  have H0 : Hid (∀ w, Calls Try.prog 74 #[.agg (nw 9 P)] w fun e w' => e = .returned (.agg (nw 9 A)) ∧ Gr w w') := fun w => by
    have := lessThree_any P (by rw [← eP]; decide +kernel) (by rw [← eP]; decide +kernel) w
    rw [show P - 3 = A by rw [← eP, ← e0]; decide +kernel] at this
    exact this
  have hb1 : ∀ w, (bslF 102 4 #[(0, .int .u64 3020229253), (1, .int .u64 866014579497448022), (2, .int .u64 5783942125095737530), (3, .int .u64 2813405352741437364)]).run Try.prog w = .ok (.slice (some ⟨w.heap.size, 0, none⟩) 4 4) (w.alloc (.cells (ws [3020229253, 866014579497448022, 5783942125095737530, 2813405352741437364]) 22)) := fun w => by kernel_rfl
  have H1 : Hid (∀ b w, blk w b = ws [3020229253, 866014579497448022, 5783942125095737530, 2813405352741437364] → Pre (b + 1) w.heap.size → Calls Try.prog 75 #[.slice (some ⟨b, 0, none⟩) 4 4] w fun e w' => e = .returned (.agg (nw 9 B)) ∧ Gr w w') := fun b w => number_of _ 4 B (by rw [← e1]; decide +kernel) b w
  have hb2 : ∀ w, (bslF 102 4 #[(0, .int .u64 4294967295), (1, .int .u64 18446744073709551615), (2, .int .u64 18446487487543570494), (3, .int .u64 1431345634452711997)]).run Try.prog w = .ok (.slice (some ⟨w.heap.size, 0, none⟩) 4 4) (w.alloc (.cells (ws [4294967295, 18446744073709551615, 18446487487543570494, 1431345634452711997]) 22)) := fun w => by kernel_rfl
  have H2 : Hid (∀ b w, blk w b = ws [4294967295, 18446744073709551615, 18446487487543570494, 1431345634452711997] → Pre (b + 1) w.heap.size → Calls Try.prog 75 #[.slice (some ⟨b, 0, none⟩) 4 4] w fun e w' => e = .returned (.agg (nw 9 N)) ∧ Gr w w') := fun b w => number_of _ 4 N (by rw [← e2]; decide +kernel) b w
  have hb3 : ∀ w, (bslF 102 4 #[(0, .int .u64 3071151293), (1, .int .u64 7761038610888102073), (2, .int .u64 5333319497174618402), (3, .int .u64 3761210295710391585)]).run Try.prog w = .ok (.slice (some ⟨w.heap.size, 0, none⟩) 4 4) (w.alloc (.cells (ws [3071151293, 7761038610888102073, 5333319497174618402, 3761210295710391585]) 22)) := fun w => by kernel_rfl
  have H3 : Hid (∀ b w, blk w b = ws [3071151293, 7761038610888102073, 5333319497174618402, 3761210295710391585] → Pre (b + 1) w.heap.size → Calls Try.prog 75 #[.slice (some ⟨b, 0, none⟩) 4 4] w fun e w' => e = .returned (.agg (nw 9 X)) ∧ Gr w w') := fun b w => number_of _ 4 X (by rw [← e3]; decide +kernel) b w
  have hb4 : ∀ w, (bslF 102 4 #[(0, .int .u64 3174523784), (1, .int .u64 13111988402333605862), (2, .int .u64 14790794932780484452), (3, .int .u64 4960013060979850804)]).run Try.prog w = .ok (.slice (some ⟨w.heap.size, 0, none⟩) 4 4) (w.alloc (.cells (ws [3174523784, 13111988402333605862, 14790794932780484452, 4960013060979850804]) 22)) := fun w => by kernel_rfl
  have H4 : Hid (∀ b w, blk w b = ws [3174523784, 13111988402333605862, 14790794932780484452, 4960013060979850804] → Pre (b + 1) w.heap.size → Calls Try.prog 75 #[.slice (some ⟨b, 0, none⟩) 4 4] w fun e w' => e = .returned (.agg (nw 9 Y)) ∧ Gr w w') := fun b w => number_of _ 4 Y (by rw [← e4]; decide +kernel) b w
  clear eP e0 e1 e2 e3 e4
  go_enter Try.func52, Try.ntmps52
  go_wp2_with (first
    | (go_at_call 75; have _ := g3; refine (H4.out _ _ ?_ ?_).mono ?_; (· simp [go_sem]); (· simp [go_sem]); rintro e w' ⟨rfl, g4, rfl⟩)
    | (go_at_call 75; have _ := g2; refine (H3.out _ _ ?_ ?_).mono ?_; (· simp [go_sem]); (· simp [go_sem]); rintro e w' ⟨rfl, g3, rfl⟩)
    | (go_at_call 75; have _ := g1; refine (H2.out _ _ ?_ ?_).mono ?_; (· simp [go_sem]); (· simp [go_sem]); rintro e w' ⟨rfl, g2, rfl⟩)
    | (go_at_call 75; have _ := g0; refine (H1.out _ _ ?_ ?_).mono ?_; (· simp [go_sem]); (· simp [go_sem]); rintro e w' ⟨rfl, g1, rfl⟩)
    | (go_at_call 74; refine (H0.out _).mono ?_; rintro e w' ⟨rfl, g0, rfl⟩))
  refine bodyPost_ret (res_one Try.results52 (rd_cu (by rfl) ?_)) rfl ⟨rfl, (by repeat (first | exact Gr.refl _ | apply Gr.drewN | apply Gr.drew | apply Gr.alloc | apply Gr.gro))⟩
  simp [go_sem]
set_option maxRecDepth 100000 in
set_option maxHeartbeats 1600000 in
theorem mk_3 (w : World) : Calls Try.prog 53 #[.agg (nw 9 (pN 3))] w fun e w' => e = .returned (.agg (cu 0 0 (aN 3) (bN 3) (oN 3) (xN 3) (yN 3) 0 0 false)) ∧ Gr w w' := by
  obtain ⟨P, eP⟩ : ∃ x, pN 3 = x := ⟨_, rfl⟩
  obtain ⟨A, e0⟩ : ∃ x, aN 3 = x := ⟨_, rfl⟩
  obtain ⟨B, e1⟩ : ∃ x, bN 3 = x := ⟨_, rfl⟩
  obtain ⟨N, e2⟩ : ∃ x, oN 3 = x := ⟨_, rfl⟩
  obtain ⟨X, e3⟩ : ∃ x, xN 3 = x := ⟨_, rfl⟩
  obtain ⟨Y, e4⟩ : ∃ x, yN 3 = x := ⟨_, rfl⟩
  rw [eP, e0, e1, e2, e3, e4]
  have H0 : Hid (∀ w, Calls Try.prog 74 #[.agg (nw 9 P)] w fun e w' => e = .returned (.agg (nw 9 A)) ∧ Gr w w') := fun w => by
    have := lessThree_any P (by rw [← eP]; decide +kernel) (by rw [← eP]; decide +kernel) w
    rw [show P - 3 = A by rw [← eP, ← e0]; decide +kernel] at this
    exact this
  have hb1 : ∀ w, (bslF 102 4 #[(0, .int .u64 6540974713487397863), (1, .int .u64 12964664127075681980), (2, .int .u64 7285987128567378166), (3, .int .u64 4309448131093880907)]).run Try.prog w = .ok (.slice (some ⟨w.heap.size, 0, none⟩) 4 4) (w.alloc (.cells (ws [6540974713487397863, 12964664127075681980, 7285987128567378166, 4309448131093880907]) 22)) := fun w => by kernel_rfl
  have H1 : Hid (∀ b w, blk w b = ws [6540974713487397863, 12964664127075681980, 7285987128567378166, 4309448131093880907] → Pre (b + 1) w.heap.size → Calls Try.prog 75 #[.slice (some ⟨b, 0, none⟩) 4 4] w fun e w' => e = .returned (.agg (nw 9 B)) ∧ Gr w w') := fun b w => number_of _ 4 B (by rw [← e1]; decide +kernel) b w
  have hb2 : ∀ w, (bslF 102 4 #[(0, .int .u64 18446744069414584320), (1, .int .u64 18446744073709551615), (2, .int .u64 13611842547513532036), (3, .int .u64 17562291160714782033)]).run Try.prog w = .ok (.slice (some ⟨w.heap.size, 0, none⟩) 4 4) (w.alloc (.cells (ws [18446744069414584320, 18446744073709551615, 13611842547513532036, 17562291160714782033]) 22)) := fun w => by kernel_rfl
  have H2 : Hid (∀ b w, blk w b = ws [18446744069414584320, 18446744073709551615, 13611842547513532036, 17562291160714782033] → Pre (b + 1) w.heap.size → Calls Try.prog 75 #[.slice (some ⟨b, 0, none⟩) 4 4] w fun e w' => e = .returned (.agg (nw 9 N)) ∧ Gr w w') := fun b w => number_of _ 4 N (by rw [← e2]; decide +kernel) b w
  have hb3 : ∀ w, (bslF 102 4 #[(0, .int .u64 7716867327612699207), (1, .int .u64 17923454489921339634), (2, .int .u64 8575836109218198432), (3, .int .u64 17627433388654248598)]).run Try.prog w = .ok (.slice (some ⟨w.heap.size, 0, none⟩) 4 4) (w.alloc (.cells (ws [7716867327612699207, 17923454489921339634, 8575836109218198432, 17627433388654248598]) 22)) := fun w => by kernel_rfl
  have H3 : Hid (∀ b w, blk w b = ws [7716867327612699207, 17923454489921339634, 8575836109218198432, 17627433388654248598] → Pre (b + 1) w.heap.size → Calls Try.prog 75 #[.slice (some ⟨b, 0, none⟩) 4 4] w fun e w' => e = .returned (.agg (nw 9 X)) ∧ Gr w w') := fun b w => number_of _ 4 X (by rw [← e3]; decide +kernel) b w
  have hb4 : ∀ w, (bslF 102 4 #[(0, .int .u64 5756518291402817435), (1, .int .u64 10297457778147434006), (2, .int .u64 3156516839386865358), (3, .int .u64 14678990851816772085)]).run Try.prog w = .ok (.slice (some ⟨w.heap.size, 0, none⟩) 4 4) (w.alloc (.cells (ws [5756518291402817435, 10297457778147434006, 3156516839386865358, 14678990851816772085]) 22)) := fun w => by kernel_rfl
  have H4 : Hid (∀ b w, blk w b = ws [5756518291402817435, 10297457778147434006, 3156516839386865358, 14678990851816772085] → Pre (b + 1) w.heap.size → Calls Try.prog 75 #[.slice (some ⟨b, 0, none⟩) 4 4] w fun e w' => e = .returned (.agg (nw 9 Y)) ∧ Gr w w') := fun b w => number_of _ 4 Y (by rw [← e4]; decide +kernel) b w
  clear eP e0 e1 e2 e3 e4
  go_enter Try.func53, Try.ntmps53
  go_wp2_with (first
    | (go_at_call 75; have _ := g3; refine (H4.out _ _ ?_ ?_).mono ?_; (· simp [go_sem]); (· simp [go_sem]); rintro e w' ⟨rfl, g4, rfl⟩)
    | (go_at_call 75; have _ := g2; refine (H3.out _ _ ?_ ?_).mono ?_; (· simp [go_sem]); (· simp [go_sem]); rintro e w' ⟨rfl, g3, rfl⟩)
    | (go_at_call 75; have _ := g1; refine (H2.out _ _ ?_ ?_).mono ?_; (· simp [go_sem]); (· simp [go_sem]); rintro e w' ⟨rfl, g2, rfl⟩)
    | (go_at_call 75; have _ := g0; refine (H1.out _ _ ?_ ?_).mono ?_; (· simp [go_sem]); (· simp [go_sem]); rintro e w' ⟨rfl, g1, rfl⟩)
    | (go_at_call 74; refine (H0.out _).mono ?_; rintro e w' ⟨rfl, g0, rfl⟩))
  refine bodyPost_ret (res_one Try.results53 (rd_cu (by rfl) ?_)) rfl ⟨rfl, (by repeat (first | exact Gr.refl _ | apply Gr.drewN | apply Gr.drew | apply Gr.alloc | apply Gr.gro))⟩
  simp [go_sem]
set_option maxRecDepth 100000 in
set_option maxHeartbeats 1600000 in
theorem mk_4 (w : World) : Calls Try.prog 54 #[.agg (nw 9 (pN 4))] w fun e w' => e = .returned (.agg (cu 0 0 (aN 4) (bN 4) (oN 4) (xN 4) (yN 4) 0 0 false)) ∧ Gr w w' := by
  obtain ⟨P, eP⟩ : ∃ x, pN 4 = x := ⟨_, rfl⟩
  obtain ⟨A, e0⟩ : ∃ x, aN 4 = x := ⟨_, rfl⟩
  obtain ⟨B, e1⟩ : ∃ x, bN 4 = x := ⟨_, rfl⟩
  obtain ⟨N, e2⟩ : ∃ x, oN 4 = x := ⟨_, rfl⟩
  obtain ⟨X, e3⟩ : ∃ x, xN 4 = x := ⟨_, rfl⟩
  obtain ⟨Y, e4⟩ : ∃ x, yN 4 = x := ⟨_, rfl⟩
  rw [eP, e0, e1, e2, e3, e4]
  have H0 : Hid (∀ w, Calls Try.prog 74 #[.agg (nw 9 P)] w fun e w' => e = .returned (.agg (nw 9 A)) ∧ Gr w w') := fun w => by
    have := lessThree_any P (by rw [← eP]; decide +kernel) (by rw [← eP]; decide +kernel) w
    rw [show P - 3 = A by rw [← eP, ← e0]; decide +kernel] at this
    exact this
  have hb1 : ∀ w, (bslF 102 6 #[(0, .int .u64 12912154004749740004), (1, .int .u64 10992729701402291481), (2, .int .u64 1737717031765098770), (3, .int .u64 221811693264799578), (4, .int .u64 14291673747578343837), (5, .int .u64 3064076045283764975)]).run Try.prog w = .ok (.slice (some ⟨w.heap.size, 0, none⟩) 6 6) (w.alloc (.cells (ws [12912154004749740004, 10992729701402291481, 1737717031765098770, 221811693264799578, 14291673747578343837, 3064076045283764975]) 22)) := fun w => by kernel_rfl
  have H1 : Hid (∀ b w, blk w b = ws [12912154004749740004, 10992729701402291481, 1737717031765098770, 221811693264799578, 14291673747578343837, 3064076045283764975] → Pre (b + 1) w.heap.size → Calls Try.prog 75 #[.slice (some ⟨b, 0, none⟩) 6 6] w fun e w' => e = .returned (.agg (nw 9 B)) ∧ Gr w w') := fun b w => number_of _ 6 B (by rw [← e1]; decide +kernel) b w
  have hb2 : ∀ w, (bslF 102 6 #[(0, .int .u64 18446744073709551615), (1, .int .u64 18446744073709551615), (2, .int .u64 18446744073709551615), (3, .int .u64 14367412456785391071), (4, .int .u64 6348401684107011962), (5, .int .u64 17072048233947408755)]).run Try.prog w = .ok (.slice (some ⟨w.heap.size, 0, none⟩) 6 6) (w.alloc (.cells (ws [18446744073709551615, 18446744073709551615, 18446744073709551615, 14367412456785391071, 6348401684107011962, 17072048233947408755]) 22)) := fun w => by kernel_rfl
  have H2 : Hid (∀ b w, blk w b = ws [18446744073709551615, 18446744073709551615, 18446744073709551615, 14367412456785391071, 6348401684107011962, 17072048233947408755] → Pre (b + 1) w.heap.size → Calls Try.prog 75 #[.slice (some ⟨b, 0, none⟩) 6 6] w fun e w' => e = .returned (.agg (nw 9 N)) ∧ Gr w w') := fun b w => number_of _ 6 N (by rw [← e2]; decide +kernel) b w
  have hb3 : ∀ w, (bslF 102 6 #[(0, .int .u64 12288012358878168375), (1, .int .u64 10282218360005504372), (2, .int .u64 7934563412932533144), (3, .int .u64 6482722621138151992), (4, .int .u64 6125724927633205612), (5, .int .u64 4203087948775033527)]).run Try.prog w = .ok (.slice (some ⟨w.heap.size, 0, none⟩) 6 6) (w.alloc (.cells (ws [12288012358878168375, 10282218360005504372, 7934563412932533144, 6482722621138151992, 6125724927633205612, 4203087948775033527]) 22)) := fun w => by kernel_rfl
  have H3 : Hid (∀ b w, blk w b = ws [12288012358878168375, 10282218360005504372, 7934563412932533144, 6482722621138151992, 6125724927633205612, 4203087948775033527] → Pre (b + 1) w.heap.size → Calls Try.prog 75 #[.slice (some ⟨b, 0, none⟩) 6 6] w fun e w' => e = .returned (.agg (nw 9 X)) ∧ Gr w w') := fun b w => number_of _ 6 X (by rw [← e3]; decide +kernel) b w
  have hb4 : ∀ w, (bslF 102 6 #[(0, .int .u64 3897828414440483951), (1, .int .u64 6745997240412855337), (2, .int .u64 17938995913990739068), (3, .int .u64 16850834916486723776), (4, .int .u64 747793036959711645), (5, .int .u64 8809917716911230559)]).run Try.prog w = .ok (.slice (some ⟨w.heap.size, 0, none⟩) 6 6) (w.alloc (.cells (ws [3897828414440483951, 6745997240412855337, 17938995913990739068, 16850834916486723776, 747793036959711645, 8809917716911230559]) 22)) := fun w => by kernel_rfl
  have H4 : Hid (∀ b w, blk w b = ws [3897828414440483951, 6745997240412855337, 17938995913990739068, 16850834916486723776, 747793036959711645, 8809917716911230559] → Pre (b + 1) w.heap.size → Calls Try.prog 75 #[.slice (some ⟨b, 0, none⟩) 6 6] w fun e w' => e = .returned (.agg (nw 9 Y)) ∧ Gr w w') := fun b w => number_of _ 6 Y (by rw [← e4]; decide +kernel) b w
  clear eP e0 e1 e2 e3 e4
  go_enter Try.func54, Try.ntmps54
  go_wp2_with (first
    | (go_at_call 75; have _ := g3; refine (H4.out _ _ ?_ ?_).mono ?_; (· simp [go_sem]); (· simp [go_sem]); rintro e w' ⟨rfl, g4, rfl⟩)
    | (go_at_call 75; have _ := g2; refine (H3.out _ _ ?_ ?_).mono ?_; (· simp [go_sem]); (· simp [go_sem]); rintro e w' ⟨rfl, g3, rfl⟩)
    | (go_at_call 75; have _ := g1; refine (H2.out _ _ ?_ ?_).mono ?_; (· simp [go_sem]); (· simp [go_sem]); rintro e w' ⟨rfl, g2, rfl⟩)
    | (go_at_call 75; have _ := g0; refine (H1.out _ _ ?_ ?_).mono ?_; (· simp [go_sem]); (· simp [go_sem]); rintro e w' ⟨rfl, g1, rfl⟩)
    | (go_at_call 74; refine (H0.out _).mono ?_; rintro e w' ⟨rfl, g0, rfl⟩))
  refine bodyPost_ret (res_one Try.results54 (rd_cu (by rfl) ?_)) rfl ⟨rfl, (by repeat (first | exact Gr.refl _ | apply Gr.drewN | apply Gr.drew | apply Gr.alloc | apply Gr.gro))⟩
  simp [go_sem]
set_option maxRecDepth 100000 in
set_option maxHeartbeats 1600000 in
theorem mk_5 (w : World) : Calls Try.prog 55 #[.agg (nw 9 (pN 5))] w fun e w' => e = .returned (.agg (cu 0 0 (aN 5) (bN 5) (oN 5) (xN 5) (yN 5) 0 0 false)) ∧ Gr w w' := by
  obtain ⟨P, eP⟩ : ∃ x, pN 5 = x := ⟨_, rfl⟩
  obtain ⟨A, e0⟩ : ∃ x, aN 5 = x := ⟨_, rfl⟩
  obtain ⟨B, e1⟩ : ∃ x, bN 5 = x := ⟨_, rfl⟩
  obtain ⟨N, e2⟩ : ∃ x, oN 5 = x := ⟨_, rfl⟩
  obtain ⟨X, e3⟩ : ∃ x, xN 5 = x := ⟨_, rfl⟩
  obtain ⟨Y, e4⟩ : ∃ x, yN 5 = x := ⟨_, rfl⟩
  rw [eP, e0, e1, e2, e3, e4]
  have H0 : Hid (∀ w, Calls Try.prog 74 #[.agg (nw 9 P)] w fun e w' => e = .returned (.agg (nw 9 A)) ∧ Gr w w') := fun w => by
    have := lessThree_any P (by rw [← eP]; decide +kernel) (by rw [← eP]; decide +kernel) w
    rw [show P - 3 = A by rw [← eP, ← e0]; decide +kernel] at this
    exact this
  have hb1 : ∀ w, (bslF 102 9 #[(0, .int .u64 81), (1, .int .u64 10754236788854528543), (2, .int .u64 10563792850091589870), (3, .int .u64 11734817516813489651), (4, .int .u64 13309414057048082913), (5, .int .u64 6204052985702421371), (6, .int .u64 1608559935907544839), (7, .int .u64 3851667882566759665), (8, .int .u64 17241221745651760896)]).run Try.prog w = .ok (.slice (some ⟨w.heap.size, 0, none⟩) 9 9) (w.alloc (.cells (ws [81, 10754236788854528543, 10563792850091589870, 11734817516813489651, 13309414057048082913, 6204052985702421371, 1608559935907544839, 3851667882566759665, 17241221745651760896]) 22)) := fun w => by kernel_rfl
  have H1 : Hid (∀ b w, blk w b = ws [81, 10754236788854528543, 10563792850091589870, 11734817516813489651, 13309414057048082913, 6204052985702421371, 1608559935907544839, 3851667882566759665, 17241221745651760896] → Pre (b + 1) w.heap.size → Calls Try.prog 75 #[.slice (some ⟨b, 0, none⟩) 9 9] w fun e w' => e = .returned (.agg (nw 9 B)) ∧ Gr w w') := fun b w => number_of _ 9 B (by rw [← e1]; decide +kernel) b w
  have hb2 : ∀ w, (bslF 102 9 #[(0, .int .u64 511), (1, .int .u64 18446744073709551615), (2, .int .u64 18446744073709551615), (3, .int .u64 18446744073709551615), (4, .int .u64 18446744073709551610), (5, .int .u64 5874531763869423211), (6, .int .u64 9208736750959699408), (7, .int .u64 4302566813442262958), (8, .int .u64 13506215149420700681)]).run Try.prog w = .ok (.slice (some ⟨w.heap.size, 0, none⟩) 9 9) (w.alloc (.cells (ws [511, 18446744073709551615, 18446744073709551615, 18446744073709551615, 18446744073709551610, 5874531763869423211, 9208736750959699408, 4302566813442262958, 13506215149420700681]) 22)) := fun w => by kernel_rfl
  have H2 : Hid (∀ b w, blk w b = ws [511, 18446744073709551615, 18446744073709551615, 18446744073709551615, 18446744073709551610, 5874531763869423211, 9208736750959699408, 4302566813442262958, 13506215149420700681] → Pre (b + 1) w.heap.size → Calls Try.prog 75 #[.slice (some ⟨b, 0, none⟩) 9 9] w fun e w' => e = .returned (.agg (nw 9 N)) ∧ Gr w w') := fun b w => number_of _ 9 N (by rw [← e2]; decide +kernel) b w
  have hb3 : ∀ w, (bslF 102 9 #[(0, .int .u64 198), (1, .int .u64 9623636836853541325), (2, .int .u64 11402774946092790850), (3, .int .u64 11269274249489003809), (4, .int .u64 17881735149126499770), (5, .int .u64 11622487132578732328), (6, .int .u64 18311004035940853982), (7, .int .u64 3695401138005885595), (8, .int .u64 17977945514697932134)]).run Try.prog w = .ok (.slice (some ⟨w.heap.size, 0, none⟩) 9 9) (w.alloc (.cells (ws [198, 9623636836853541325, 11402774946092790850, 11269274249489003809, 17881735149126499770, 11622487132578732328, 18311004035940853982, 3695401138005885595, 17977945514697932134]) 22)) := fun w => by kernel_rfl
  have H3 : Hid (∀ b w, blk w b = ws [198, 9623636836853541325, 11402774946092790850, 11269274249489003809, 17881735149126499770, 11622487132578732328, 18311004035940853982, 3695401138005885595, 17977945514697932134] → Pre (b + 1) w.heap.size → Calls Try.prog 75 #[.slice (some ⟨b, 0, none⟩) 9 9] w fun e w' => e = .returned (.agg (nw 9 X)) ∧ Gr w w') := fun b w => number_of _ 9 X (by rw [← e3]; decide +kernel) b w
  have hb4 : ∀ w, (bslF 102 9 #[(0, .int .u64 280), (1, .int .u64 4118940400423256068), (2, .int .u64 6668247425720589273), (3, .int .u64 11021790744852251752), (4, .int .u64 1706790690937005612), (5, .int .u64 10947813747232876096), (6, .int .u64 14218067438623065953), (7, .int .u64 3836064706166178368), (8, .int .u64 9853476271941576272)]).run Try.prog w = .ok (.slice (some ⟨w.heap.size, 0, none⟩) 9 9) (w.alloc (.cells (ws [280, 4118940400423256068, 6668247425720589273, 11021790744852251752, 1706790690937005612, 10947813747232876096, 14218067438623065953, 3836064706166178368, 9853476271941576272]) 22)) := fun w => by kernel_rfl
  have H4 : Hid (∀ b w, blk w b = ws [280, 4118940400423256068, 6668247425720589273, 11021790744852251752, 1706790690937005612, 10947813747232876096, 14218067438623065953, 3836064706166178368, 9853476271941576272] → Pre (b + 1) w.heap.size → Calls Try.prog 75 #[.slice (some ⟨b, 0, none⟩) 9 9] w fun e w' => e = .returned (.agg (nw 9 Y)) ∧ Gr w w') := fun b w => number_of _ 9 Y (by rw [← e4]; decide +kernel) b w
  clear eP e0 e1 e2 e3 e4
  go_enter Try.func55, Try.ntmps55
  go_wp2_with (first
    | (go_at_call 75; have _ := g3; refine (H4.out _ _ ?_ ?_).mono ?_; (· simp [go_sem]); (· simp [go_sem]); rintro e w' ⟨rfl, g4, rfl⟩)
    | (go_at_call 75; have _ := g2; refine (H3.out _ _ ?_ ?_).mono ?_; (· simp [go_sem]); (· simp [go_sem]); rintro e w' ⟨rfl, g3, rfl⟩)
    | (go_at_call 75; have _ := g1; refine (H2.out _ _ ?_ ?_).mono ?_; (· simp [go_sem]); (· simp [go_sem]); rintro e w' ⟨rfl, g2, rfl⟩)
    | (go_at_call 75; have _ := g0; refine (H1.out _ _ ?_ ?_).mono ?_; (· simp [go_sem]); (· simp [go_sem]); rintro e w' ⟨rfl, g1, rfl⟩)
    | (go_at_call 74; refine (H0.out _).mono ?_; rintro e w' ⟨rfl, g0, rfl⟩))
  refine bodyPost_ret (res_one Try.results55 (rd_cu (by rfl) ?_)) rfl ⟨rfl, (by repeat (first | exact Gr.refl _ | apply Gr.drewN | apply Gr.drew | apply Gr.alloc | apply Gr.gro))⟩
  simp [go_sem]
set_option maxRecDepth 100000 in
set_option maxHeartbeats 1600000 in
theorem mk_6 (w : World) : Calls Try.prog 56 #[.agg (nw 9 (pN 6))] w fun e w' => e = .returned (.agg (cu 0 0 (aN 6) (bN 6) (oN 6) (xN 6) (yN 6) 0 0 false)) ∧ Gr w w' := by
  obtain ⟨P, eP⟩ : ∃ x, pN 6 = x := ⟨_, rfl⟩
  obtain ⟨A, e0⟩ : ∃ x, aN 6 = x := ⟨_, rfl⟩
  obtain ⟨B, e1⟩ : ∃ x, bN 6 = x := ⟨_, rfl⟩
  obtain ⟨N, e2⟩ : ∃ x, oN 6 = x := ⟨_, rfl⟩
  obtain ⟨X, e3⟩ : ∃ x, xN 6 = x := ⟨_, rfl⟩
  obtain ⟨Y, e4⟩ : ∃ x, yN 6 = x := ⟨_, rfl⟩
  rw [eP, e0, e1, e2, e3, e4]
  have H0 : Hid (∀ w, Calls Try.prog 76 #[.int .i64 0] w fun e w' => e = .returned (.agg (nw 9 A)) ∧ Gr w w') := fun w => by
    have := small_any 0 (by decide) w
    rw [show ((0 : Int)).toNat = A by rw [← e0]; decide +kernel] at this
    exact this
  have H1 : Hid (∀ w, Calls Try.prog 76 #[.int .i64 7] w fun e w' => e = .returned (.agg (nw 9 B)) ∧ Gr w w') := fun w => by
    have := small_any 7 (by decide) w
    rw [show ((7 : Int)).toNat = B by rw [← e1]; decide +kernel] at this
    exact this
  have hb2 : ∀ w, (bslF 102 4 #[(0, .int .u64 18446744073709551615), (1, .int .u64 18446744073709551614), (2, .int .u64 13451932020343611451), (3, .int .u64 13822214165235122497)]).run Try.prog w = .ok (.slice (some ⟨w.heap.size, 0, none⟩) 4 4) (w.alloc (.cells (ws [18446744073709551615, 18446744073709551614, 13451932020343611451, 13822214165235122497]) 22)) := fun w => by kernel_rfl
  have H2 : Hid (∀ b w, blk w b = ws [18446744073709551615, 18446744073709551614, 13451932020343611451, 13822214165235122497] → Pre (b + 1) w.heap.size → Calls Try.prog 75 #[.slice (some ⟨b, 0, none⟩) 4 4] w fun e w' => e = .returned (.agg (nw 9 N)) ∧ Gr w w') := fun b w => number_of _ 4 N (by rw [← e2]; decide +kernel) b w
  have hb3 : ∀ w, (bslF 102 4 #[(0, .int .u64 8772561819708210092), (1, .int .u64 6170039885052185351), (2, .int .u64 188021827762530521), (3, .int .u64 6481385041966929816)]).run Try.prog w = .ok (.slice (some ⟨w.heap.size, 0, none⟩) 4 4) (w.alloc (.cells (ws [8772561819708210092, 6170039885052185351, 188021827762530521, 6481385041966929816]) 22)) := fun w => by kernel_rfl
  have H3 : Hid (∀ b w, blk w b = ws [8772561819708210092, 6170039885052185351, 188021827762530521, 6481385041966929816] → Pre (b + 1) w.heap.size → Calls Try.prog 75 #[.slice (some ⟨b, 0, none⟩) 4 4] w fun e w' => e = .returned (.agg (nw 9 X)) ∧ Gr w w') := fun b w => number_of _ 4 X (by rw [← e3]; decide +kernel) b w
  have hb4 : ∀ w, (bslF 102 4 #[(0, .int .u64 5204712524664259685), (1, .int .u64 6747795201694173352), (2, .int .u64 18237243440184513561), (3, .int .u64 11261198710074299576)]).run Try.prog w = .ok (.slice (some ⟨w.heap.size, 0, none⟩) 4 4) (w.alloc (.cells (ws [5204712524664259685, 6747795201694173352, 18237243440184513561, 11261198710074299576]) 22)) := fun w => by kernel_rfl
  have H4 : Hid (∀ b w, blk w b = ws [5204712524664259685, 6747795201694173352, 18237243440184513561, 11261198710074299576] → Pre (b + 1) w.heap.size → Calls Try.prog 75 #[.slice (some ⟨b, 0, none⟩) 4 4] w fun e w' => e = .returned (.agg (nw 9 Y)) ∧ Gr w w') := fun b w => number_of _ 4 Y (by rw [← e4]; decide +kernel) b w
  clear eP e0 e1 e2 e3 e4
  go_enter Try.func56, Try.ntmps56
  go_wp2_with (first
    | (go_at_call 75; have _ := g3; refine (H4.out _ _ ?_ ?_).mono ?_; (· simp [go_sem]); (· simp [go_sem]); rintro e w' ⟨rfl, g4, rfl⟩)
    | (go_at_call 75; have _ := g2; refine (H3.out _ _ ?_ ?_).mono ?_; (· simp [go_sem]); (· simp [go_sem]); rintro e w' ⟨rfl, g3, rfl⟩)
    | (go_at_call 75; have _ := g1; refine (H2.out _ _ ?_ ?_).mono ?_; (· simp [go_sem]); (· simp [go_sem]); rintro e w' ⟨rfl, g2, rfl⟩)
    | (go_at_call 76; have _ := g0; refine (H1.out _).mono ?_; rintro e w' ⟨rfl, g1, rfl⟩)
    | (go_at_call 76; refine (H0.out _).mono ?_; rintro e w' ⟨rfl, g0, rfl⟩))
  refine bodyPost_ret (res_one Try.results56 (rd_cu (by rfl) ?_)) rfl ⟨rfl, (by repeat (first | exact Gr.refl _ | apply Gr.drewN | apply Gr.drew | apply Gr.alloc | apply Gr.gro))⟩
  simp [go_sem]
set_option maxRecDepth 100000 in
set_option maxHeartbeats 1600000 in
theorem mk_7 (w : World) : Calls Try.prog 57 #[.agg (nw 9 (pN 7))] w fun e w' => e = .returned (.agg (cu 0 0 (aN 7) (bN 7) (oN 7) (xN 7) (yN 7) 0 0 false)) ∧ Gr w w' := by
  obtain ⟨P, eP⟩ : ∃ x, pN 7 = x := ⟨_, rfl⟩
  obtain ⟨A, e0⟩ : ∃ x, aN 7 = x := ⟨_, rfl⟩
  obtain ⟨B, e1⟩ : ∃ x, bN 7 = x := ⟨_, rfl⟩
  obtain ⟨N, e2⟩ : ∃ x, oN 7 = x := ⟨_, rfl⟩
  obtain ⟨X, e3⟩ : ∃ x, xN 7 = x := ⟨_, rfl⟩
  obtain ⟨Y, e4⟩ : ∃ x, yN 7 = x := ⟨_, rfl⟩
  rw [eP, e0, e1, e2, e3, e4]
  have hb0 : ∀ w, (bslF 102 3 #[(0, .int .u64 873364450), (1, .int .u64 11709617918416150970), (2, .int .u64 15741309504596722432)]).run Try.prog w = .ok (.slice (some ⟨w.heap.size, 0, none⟩) 3 3) (w.alloc (.cells (ws [873364450, 11709617918416150970, 15741309504596722432]) 22)) := fun w => by kernel_rfl
  have H0 : Hid (∀ b w, blk w b = ws [873364450, 11709617918416150970, 15741309504596722432] → Pre (b + 1) w.heap.size → Calls Try.prog 75 #[.slice (some ⟨b, 0, none⟩) 3 3] w fun e w' => e = .returned (.agg (nw 9 A)) ∧ Gr w w') := fun b w => number_of _ 3 A (by rw [← e0]; decide +kernel) b w
  have hb1 : ∀ w, (bslF 102 3 #[(0, .int .u64 509123205), (1, .int .u64 10755216112352209453), (2, .int .u64 13685478057528745560)]).run Try.prog w = .ok (.slice (some ⟨w.heap.size, 0, none⟩) 3 3) (w.alloc (.cells (ws [509123205, 10755216112352209453, 13685478057528745560]) 22)) := fun w => by kernel_rfl
  have H1 : Hid (∀ b w, blk w b = ws [509123205, 10755216112352209453, 13685478057528745560] → Pre (b + 1) w.heap.size → Calls Try.prog 75 #[.slice (some ⟨b, 0, none⟩) 3 3] w fun e w' => e = .returned (.agg (nw 9 B)) ∧ Gr w w') := fun b w => number_of _ 3 B (by rw [← e1]; decide +kernel) b w
  have hb2 : ∀ w, (bslF 102 3 #[(0, .int .u64 3915270751), (1, .int .u64 8318247314806233489), (2, .int .u64 15298773291689376777)]).run Try.prog w = .ok (.slice (some ⟨w.heap.size, 0, none⟩) 3 3) (w.alloc (.cells (ws [3915270751, 8318247314806233489, 15298773291689376777]) 22)) := fun w => by kernel_rfl
  have H2 : Hid (∀ b w, blk w b = ws [3915270751, 8318247314806233489, 15298773291689376777] → Pre (b + 1) w.heap.size → Calls Try.prog 75 #[.slice (some ⟨b, 0, none⟩) 3 3] w fun e w' => e = .returned (.agg (nw 9 N)) ∧ Gr w w') := fun b w => number_of _ 3 N (by rw [← e2]; decide +kernel) b w
  have hb3 : ∀ w, (bslF 102 3 #[(0, .int .u64 3201675030), (1, .int .u64 16879326817596705862), (2, .int .u64 3597068747472165827)]).run Try.prog w = .ok (.slice (some ⟨w.heap.size, 0, none⟩) 3 3) (w.alloc (.cells (ws [3201675030, 16879326817596705862, 3597068747472165827]) 22)) := fun w => by kernel_rfl
  have H3 : Hid (∀ b w, blk w b = ws [3201675030, 16879326817596705862, 3597068747472165827] → Pre (b + 1) w.heap.size → Calls Try.prog 75 #[.slice (some ⟨b, 0, none⟩) 3 3] w fun e w' => e = .returned (.agg (nw 9 X)) ∧ Gr w w') := fun b w => number_of _ 3 X (by rw [← e3]; decide +kernel) b w
  have hb4 : ∀ w, (bslF 102 3 #[(0, .int .u64 375900999), (1, .int .u64 8798501791147312961), (2, .int .u64 7393951140076479265)]).run Try.prog w = .ok (.slice (some ⟨w.heap.size, 0, none⟩) 3 3) (w.alloc (.cells (ws [375900999, 8798501791147312961, 7393951140076479265]) 22)) := fun w => by kernel_rfl
  have H4 : Hid (∀ b w, blk w b = ws [375900999, 8798501791147312961, 7393951140076479265] → Pre (b + 1) w.heap.size → Calls Try.prog 75 #[.slice (some ⟨b, 0, none⟩) 3 3] w fun e w' => e = .returned (.agg (nw 9 Y)) ∧ Gr w w') := fun b w => number_of _ 3 Y (by rw [← e4]; decide +kernel) b w
  clear eP e0 e1 e2 e3 e4
  go_enter Try.func57, Try.ntmps57
  go_wp2_with (first
    | (go_at_call 75; have _ := g3; refine (H4.out _ _ ?_ ?_).mono ?_; (· simp [go_sem]); (· simp [go_sem]); rintro e w' ⟨rfl, g4, rfl⟩)
    | (go_at_call 75; have _ := g2; refine (H3.out _ _ ?_ ?_).mono ?_; (· simp [go_sem]); (· simp [go_sem]); rintro e w' ⟨rfl, g3, rfl⟩)
    | (go_at_call 75; have _ := g1; refine (H2.out _ _ ?_ ?_).mono ?_; (· simp [go_sem]); (· simp [go_sem]); rintro e w' ⟨rfl, g2, rfl⟩)
    | (go_at_call 75; have _ := g0; refine (H1.out _ _ ?_ ?_).mono ?_; (· simp [go_sem]); (· simp [go_sem]); rintro e w' ⟨rfl, g1, rfl⟩)
    | (go_at_call 75; refine (H0.out _ _ ?_ ?_).mono ?_; (· simp [go_sem]); (· simp [go_sem]); rintro e w' ⟨rfl, g0, rfl⟩))
  refine bodyPost_ret (res_one Try.results57 (rd_cu (by rfl) ?_)) rfl ⟨rfl, (by repeat (first | exact Gr.refl _ | apply Gr.drewN | apply Gr.drew | apply Gr.alloc | apply Gr.gro))⟩
  simp [go_sem]
set_option maxRecDepth 100000 in
set_option maxHeartbeats 1600000 in
theorem mk_8 (w : World) : Calls Try.prog 58 #[.agg (nw 9 (pN 8))] w fun e w' => e = .returned (.agg (cu 0 0 (aN 8) (bN 8) (oN 8) (xN 8) (yN 8) 0 0 false)) ∧ Gr w w' := by
  obtain ⟨P, eP⟩ : ∃ x, pN 8 = x := ⟨_, rfl⟩
  obtain ⟨A, e0⟩ : ∃ x, aN 8 = x := ⟨_, rfl⟩
  obtain ⟨B, e1⟩ : ∃ x, bN 8 = x := ⟨_, rfl⟩
  obtain ⟨N, e2⟩ : ∃ x, oN 8 = x := ⟨_, rfl⟩
  obtain ⟨X, e3⟩ : ∃ x, xN 8 = x := ⟨_, rfl⟩
  obtain ⟨Y, e4⟩ : ∃ x, yN 8 = x := ⟨_, rfl⟩
  rw [eP, e0, e1, e2, e3, e4]
  have hb0 : ∀ w, (bslF 102 4 #[(0, .int .u64 1755702828), (1, .int .u64 12235836105824928678), (2, .int .u64 13930490516217539288), (3, .int .u64 12683309015725416259)]).run Try.prog w = .ok (.slice (some ⟨w.heap.size, 0, none⟩) 4 4) (w.alloc (.cells (ws [1755702828, 12235836105824928678, 13930490516217539288, 12683309015725416259]) 22)) := fun w => by kernel_rfl
  have H0 : Hid (∀ b w, blk w b = ws [1755702828, 12235836105824928678, 13930490516217539288, 12683309015725416259] → Pre (b + 1) w.heap.size → Calls Try.prog 75 #[.slice (some ⟨b, 0, none⟩) 4 4] w fun e w' => e = .returned (.agg (nw 9 A)) ∧ Gr w w') := fun b w => number_of _ 4 A (by rw [← e0]; decide +kernel) b w
  have hb1 : ∀ w, (bslF 102 4 #[(0, .int .u64 629208636), (1, .int .u64 14980169971580474289), (2, .int .u64 12187701441315550674), (3, .int .u64 7411714914922545163)]).run Try.prog w = .ok (.slice (some ⟨w.heap.size, 0, none⟩) 4 4) (w.alloc (.cells (ws [629208636, 14980169971580474289, 12187701441315550674, 7411714914922545163]) 22)) := fun w => by kernel_rfl
  have H1 : Hid (∀ b w, blk w b = ws [629208636, 14980169971580474289, 12187701441315550674, 7411714914922545163] → Pre (b + 1) w.heap.size → Calls Try.prog 75 #[.slice (some ⟨b, 0, none⟩) 4 4] w fun e w' => e = .returned (.agg (nw 9 B)) ∧ Gr w w') := fun b w => number_of _ 4 B (by rw [← e1]; decide +kernel) b w
  have hb2 : ∀ w, (bslF 102 4 #[(0, .int .u64 3619763370), (1, .int .u64 2757160123298754597), (2, .int .u64 8489561931354913867), (3, .int .u64 7916972606008824735)]).run Try.prog w = .ok (.slice (some ⟨w.heap.size, 0, none⟩) 4 4) (w.alloc (.cells (ws [3619763370, 2757160123298754597, 8489561931354913867, 7916972606008824735]) 22)) := fun w => by kernel_rfl
  have H2 : Hid (∀ b w, blk w b = ws [3619763370, 2757160123298754597, 8489561931354913867, 7916972606008824735] → Pre (b + 1) w.heap.size → Calls Try.prog 75 #[.slice (some ⟨b, 0, none⟩) 4 4] w fun e w' => e = .returned (.agg (nw 9 N)) ∧ Gr w w') := fun b w => number_of _ 4 N (by rw [← e2]; decide +kernel) b w
  have hb3 : ∀ w, (bslF 102 4 #[(0, .int .u64 227551661), (1, .int .u64 3206102188649096114), (2, .int .u64 12141078477714285335), (3, .int .u64 5484943433083830397)]).run Try.prog w = .ok (.slice (some ⟨w.heap.size, 0, none⟩) 4 4) (w.alloc (.cells (ws [227551661, 3206102188649096114, 12141078477714285335, 5484943433083830397]) 22)) := fun w => by kernel_rfl
  have H3 : Hid (∀ b w, blk w b = ws [227551661, 3206102188649096114, 12141078477714285335, 5484943433083830397] → Pre (b + 1) w.heap.size → Calls Try.prog 75 #[.slice (some ⟨b, 0, none⟩) 4 4] w fun e w' => e = .returned (.agg (nw 9 X)) ∧ Gr w w') := fun b w => number_of _ 4 X (by rw [← e3]; decide +kernel) b w
  have hb4 : ∀ w, (bslF 102 4 #[(0, .int .u64 1487558391), (1, .int .u64 8268734737536170142), (2, .int .u64 5678383976697011865), (3, .int .u64 14601785804944835277)]).run Try.prog w = .ok (.slice (some ⟨w.heap.size, 0, none⟩) 4 4) (w.alloc (.cells (ws [1487558391, 8268734737536170142, 5678383976697011865, 14601785804944835277]) 22)) := fun w => by kernel_rfl
  have H4 : Hid (∀ b w, blk w b = ws [1487558391, 8268734737536170142, 5678383976697011865, 14601785804944835277] → Pre (b + 1) w.heap.size → Calls Try.prog 75 #[.slice (some ⟨b, 0, none⟩) 4 4] w fun e w' => e = .returned (.agg (nw 9 Y)) ∧ Gr w w') := fun b w => number_of _ 4 Y (by rw [← e4]; decide +kernel) b w
  clear eP e0 e1 e2 e3 e4
  go_enter Try.func58, Try.ntmps58
  go_wp2_with (first
    | (go_at_call 75; have _ := g3; refine (H4.out _ _ ?_ ?_).mono ?_; (· simp [go_sem]); (· simp [go_sem]); rintro e w' ⟨rfl, g4, rfl⟩)
    | (go_at_call 75; have _ := g2; refine (H3.out _ _ ?_ ?_).mono ?_; (· simp [go_sem]); (· simp [go_sem]); rintro e w' ⟨rfl, g3, rfl⟩)
    | (go_at_call 75; have _ := g1; refine (H2.out _ _ ?_ ?_).mono ?_; (· simp [go_sem]); (· simp [go_sem]); rintro e w' ⟨rfl, g2, rfl⟩)
    | (go_at_call 75; have _ := g0; refine (H1.out _ _ ?_ ?_).mono ?_; (· simp [go_sem]); (· simp [go_sem]); rintro e w' ⟨rfl, g1, rfl⟩)
    | (go_at_call 75; refine (H0.out _ _ ?_ ?_).mono ?_; (· simp [go_sem]); (· simp [go_sem]); rintro e w' ⟨rfl, g0, rfl⟩))
  refine bodyPost_ret (res_one Try.results58 (rd_cu (by rfl) ?_)) rfl ⟨rfl, (by repeat (first | exact Gr.refl _ | apply Gr.drewN | apply Gr.drew | apply Gr.alloc | apply Gr.gro))⟩
  simp [go_sem]
set_option maxRecDepth 100000 in
set_option maxHeartbeats 1600000 in
theorem mk_9 (w : World) : Calls Try.prog 59 #[.agg (nw 9 (pN 9))] w fun e w' => e = .returned (.agg (cu 0 0 (aN 9) (bN 9) (oN 9) (xN 9) (yN 9) 0 0 false)) ∧ Gr w w' := by
  obtain ⟨P, eP⟩ : ∃ x, pN 9 = x := ⟨_, rfl⟩
  obtain ⟨A, e0⟩ : ∃ x, aN 9 = x := ⟨_, rfl⟩
  obtain ⟨B, e1⟩ : ∃ x, bN 9 = x := ⟨_, rfl⟩
  obtain ⟨N, e2⟩ : ∃ x, oN 9 = x := ⟨_, rfl⟩
  obtain ⟨X, e3⟩ : ∃ x, xN 9 = x := ⟨_, rfl⟩
  obtain ⟨Y, e4⟩ : ∃ x, yN 9 = x := ⟨_, rfl⟩
  rw [eP, e0, e1, e2, e3, e4]
  have hb0 : ∀ w, (bslF 102 4 #[(0, .int .u64 9032542404991529047), (1, .int .u64 17219079075415130087), (2, .int .u64 18122579188607900780), (3, .int .u64 16810331318623712729)]).run Try.prog w = .ok (.slice (some ⟨w.heap.size, 0, none⟩) 4 4) (w.alloc (.cells (ws [9032542404991529047, 17219079075415130087, 18122579188607900780, 16810331318623712729]) 22)) := fun w => by kernel_rfl
  have H0 : Hid (∀ b w, blk w b = ws [9032542404991529047, 17219079075415130087, 18122579188607900780, 16810331318623712729] → Pre (b + 1) w.heap.size → Calls Try.prog 75 #[.slice (some ⟨b, 0, none⟩) 4 4] w fun e w' => e = .returned (.agg (nw 9 A)) ∧ Gr w w') := fun b w => number_of _ 4 A (by rw [← e0]; decide +kernel) b w
  have hb1 : ∀ w, (bslF 102 4 #[(0, .int .u64 2800214691157789508), (1, .int .u64 17523706096862592191), (2, .int .u64 10773760575486288334), (3, .int .u64 7767825457231955894)]).run Try.prog w = .ok (.slice (some ⟨w.heap.size, 0, none⟩) 4 4) (w.alloc (.cells (ws [2800214691157789508, 17523706096862592191, 10773760575486288334, 7767825457231955894]) 22)) := fun w => by kernel_rfl
  have H1 : Hid (∀ b w, blk w b = ws [2800214691157789508, 17523706096862592191, 10773760575486288334, 7767825457231955894] → Pre (b + 1) w.heap.size → Calls Try.prog 75 #[.slice (some ⟨b, 0, none⟩) 4 4] w fun e w' => e = .returned (.agg (nw 9 B)) ∧ Gr w w') := fun b w => number_of _ 4 B (by rw [← e1]; decide +kernel) b w
  have hb2 : ∀ w, (bslF 102 4 #[(0, .int .u64 12248480212390422972), (1, .int .u64 4496292894210231665), (2, .int .u64 10104242082523752183), (3, .int .u64 10384753744809580199)]).run Try.prog w = .ok (.slice (some ⟨w.heap.size, 0, none⟩) 4 4) (w.alloc (.cells (ws [12248480212390422972, 4496292894210231665, 10104242082523752183, 10384753744809580199]) 22)) := fun w => by kernel_rfl
  have H2 : Hid (∀ b w, blk w b = ws [12248480212390422972, 4496292894210231665, 10104242082523752183, 10384753744809580199] → Pre (b + 1) w.heap.size → Calls Try.prog 75 #[.slice (some ⟨b, 0, none⟩) 4 4] w fun e w' => e = .returned (.agg (nw 9 N)) ∧ Gr w w') := fun b w => number_of _ 4 N (by rw [← e2]; decide +kernel) b w
  have hb3 : ∀ w, (bslF 102 4 #[(0, .int .u64 10075307429387458507), (1, .int .u64 3191724131859150767), (2, .int .u64 13393186192988382146), (3, .int .u64 4198572826427273826)]).run Try.prog w = .ok (.slice (some ⟨w.heap.size, 0, none⟩) 4 4) (w.alloc (.cells (ws [10075307429387458507, 3191724131859150767, 13393186192988382146, 4198572826427273826]) 22)) := fun w => by kernel_rfl
  have H3 : Hid (∀ b w, blk w b = ws [10075307429387458507, 3191724131859150767, 13393186192988382146, 4198572826427273826] → Pre (b + 1) w.heap.size → Calls Try.prog 75 #[.slice (some ⟨b, 0, none⟩) 4 4] w fun e w' => e = .returned (.agg (nw 9 X)) ∧ Gr w w') := fun b w => number_of _ 4 X (by rw [← e3]; decide +kernel) b w
  have hb4 : ∀ w, (bslF 102 4 #[(0, .int .u64 6088576656054338813), (1, .int .u64 10950579571776363977), (2, .int .u64 14012744714263826004), (3, .int .u64 6637554640278022551)]).run Try.prog w = .ok (.slice (some ⟨w.heap.size, 0, none⟩) 4 4) (w.alloc (.cells (ws [6088576656054338813, 10950579571776363977, 14012744714263826004, 6637554640278022551]) 22)) := fun w => by kernel_rfl
  have H4 : Hid (∀ b w, blk w b = ws [6088576656054338813, 10950579571776363977, 14012744714263826004, 6637554640278022551] → Pre (b + 1) w.heap.size → Calls Try.prog 75 #[.slice (some ⟨b, 0, none⟩) 4 4] w fun e w' => e = .returned (.agg (nw 9 Y)) ∧ Gr w w') := fun b w => number_of _ 4 Y (by rw [← e4]; decide +kernel) b w
  clear eP e0 e1 e2 e3 e4
  go_enter Try.func59, Try.ntmps59
  go_wp2_with (first
    | (go_at_call 75; have _ := g3; refine (H4.out _ _ ?_ ?_).mono ?_; (· simp [go_sem]); (· simp [go_sem]); rintro e w' ⟨rfl, g4, rfl⟩)
    | (go_at_call 75; have _ := g2; refine (H3.out _ _ ?_ ?_).mono ?_; (· simp [go_sem]); (· simp [go_sem]); rintro e w' ⟨rfl, g3, rfl⟩)
    | (go_at_call 75; have _ := g1; refine (H2.out _ _ ?_ ?_).mono ?_; (· simp [go_sem]); (· simp [go_sem]); rintro e w' ⟨rfl, g2, rfl⟩)
    | (go_at_call 75; have _ := g0; refine (H1.out _ _ ?_ ?_).mono ?_; (· simp [go_sem]); (· simp [go_sem]); rintro e w' ⟨rfl, g1, rfl⟩)
    | (go_at_call 75; refine (H0.out _ _ ?_ ?_).mono ?_; (· simp [go_sem]); (· simp [go_sem]); rintro e w' ⟨rfl, g0, rfl⟩))
  refine bodyPost_ret (res_one Try.results59 (rd_cu (by rfl) ?_)) rfl ⟨rfl, (by repeat (first | exact Gr.refl _ | apply Gr.drewN | apply Gr.drew | apply Gr.alloc | apply Gr.gro))⟩
  simp [go_sem]
set_option maxRecDepth 100000 in
set_option maxHeartbeats 1600000 in
theorem mk_10 (w : World) : Calls Try.prog 60 #[.agg (nw 9 (pN 10))] w fun e w' => e = .returned (.agg (cu 0 0 (aN 10) (bN 10) (oN 10) (xN 10) (yN 10) 0 0 false)) ∧ Gr w w' := by
  obtain ⟨P, eP⟩ : ∃ x, pN 10 = x := ⟨_, rfl⟩
  obtain ⟨A, e0⟩ : ∃ x, aN 10 = x := ⟨_, rfl⟩
  obtain ⟨B, e1⟩ : ∃ x, bN 10 = x := ⟨_, rfl⟩
  obtain ⟨N, e2⟩ : ∃ x, oN 10 = x := ⟨_, rfl⟩
  obtain ⟨X, e3⟩ : ∃ x, xN 10 = x := ⟨_, rfl⟩
  obtain ⟨Y, e4⟩ : ∃ x, yN 10 = x := ⟨_, rfl⟩
  rw [eP, e0, e1, e2, e3, e4]
  have hb0 : ∀ w, (bslF 102 5 #[(0, .int .u64 4531478116471320824), (1, .int .u64 9497225011815988152), (2, .int .u64 11720394915101506010), (3, .int .u64 7356927617611573748), (4, .int .u64 10588936519694028468)]).run Try.prog w = .ok (.slice (some ⟨w.heap.size, 0, none⟩) 5 5) (w.alloc (.cells (ws [4531478116471320824, 9497225011815988152, 11720394915101506010, 7356927617611573748, 10588936519694028468]) 22)) := fun w => by kernel_rfl
  have H0 : Hid (∀ b w, blk w b = ws [4531478116471320824, 9497225011815988152, 11720394915101506010, 7356927617611573748, 10588936519694028468] → Pre (b + 1) w.heap.size → Calls Try.prog 75 #[.slice (some ⟨b, 0, none⟩) 5 5] w fun e w' => e = .returned (.agg (nw 9 A)) ∧ Gr w w') := fun b w => number_of _ 5 A (by rw [← e0]; decide +kernel) b w
  have hb1 : ∀ w, (bslF 102 5 #[(0, .int .u64 5911119185252826178), (1, .int .u64 15252875577370643055), (2, .int .u64 16230763276166018202), (3, .int .u64 14713784232908765569), (4, .int .u64 8025050239258980774)]).run Try.prog w = .ok (.slice (some ⟨w.heap.size, 0, none⟩) 5 5) (w.alloc (.cells (ws [5911119185252826178, 15252875577370643055, 16230763276166018202, 14713784232908765569, 8025050239258980774]) 22)) := fun w => by kernel_rfl
  have H1 : Hid (∀ b w, blk w b = ws [5911119185252826178, 15252875577370643055, 16230763276166018202, 14713784232908765569, 8025050239258980774] → Pre (b + 1) w.heap.size → Calls Try.prog 75 #[.slice (some ⟨b, 0, none⟩) 5 5] w fun e w' => e = .returned (.agg (nw 9 B)) ∧ Gr w w') := fun b w => number_of _ 5 B (by rw [← e1]; decide +kernel) b w
  have hb2 : ∀ w, (bslF 102 5 #[(0, .int .u64 15230689193496432567), (1, .int .u64 16229979505782022245), (2, .int .u64 17982820147753063075), (3, .int .u64 3262909366265075945), (4, .int .u64 9696625323189572369)]).run Try.prog w = .ok (.slice (some ⟨w.heap.size, 0, none⟩) 5 5) (w.alloc (.cells (ws [15230689193496432567, 16229979505782022245, 17982820147753063075, 3262909366265075945, 9696625323189572369]) 22)) := fun w => by kernel_rfl
  have H2 : Hid (∀ b w, blk w b = ws [15230689193496432567, 16229979505782022245, 17982820147753063075, 3262909366265075945, 9696625323189572369] → Pre (b + 1) w.heap.size → Calls Try.prog 75 #[.slice (some ⟨b, 0, none⟩) 5 5] w fun e w' => e = .returned (.agg (nw 9 N)) ∧ Gr w w') := fun b w => number_of _ 5 N (by rw [← e2]; decide +kernel) b w
  have hb3 : ∀ w, (bslF 102 5 #[(0, .int .u64 4881196775246125240), (1, .int .u64 5947492335316484070), (2, .int .u64 17438280603111292598), (3, .int .u64 16683336510634039751), (4, .int .u64 1202334713476417041)]).run Try.prog w = .ok (.slice (some ⟨w.heap.size, 0, none⟩) 5 5) (w.alloc (.cells (ws [4881196775246125240, 5947492335316484070, 17438280603111292598, 16683336510634039751, 1202334713476417041]) 22)) := fun w => by kernel_rfl
  have H3 : Hid (∀ b w, blk w b = ws [4881196775246125240, 5947492335316484070, 17438280603111292598, 16683336510634039751, 1202334713476417041] → Pre (b + 1) w.heap.size → Calls Try.prog 75 #[.slice (some ⟨b, 0, none⟩) 5 5] w fun e w' => e = .returned (.agg (nw 9 X)) ∧ Gr w w') := fun b w => number_of _ 5 X (by rw [← e3]; decide +kernel) b w
  have hb4 : ∀ w, (bslF 102 5 #[(0, .int .u64 1512594114530254024), (1, .int .u64 12340024763961780062), (2, .int .u64 523543375370093290), (3, .int .u64 12233879368135109319), (4, .int .u64 15227310055808208609)]).run Try.prog w = .ok (.slice (some ⟨w.heap.size, 0, none⟩) 5 5) (w.alloc (.cells (ws [1512594114530254024, 12340024763961780062, 523543375370093290, 12233879368135109319, 15227310055808208609]) 22)) := fun w => by kernel_rfl
  have H4 : Hid (∀ b w, blk w b = ws [1512594114530254024, 12340024763961780062, 523543375370093290, 12233879368135109319, 15227310055808208609] → Pre (b + 1) w.heap.size → Calls Try.prog 75 #[.slice (some ⟨b, 0, none⟩) 5 5] w fun e w' => e = .returned (.agg (nw 9 Y)) ∧ Gr w w') := fun b w => number_of _ 5 Y (by rw [← e4]; decide +kernel) b w
  clear eP e0 e1 e2 e3 e4
  go_enter Try.func60, Try.ntmps60
  go_wp2_with (first
    | (go_at_call 75; have _ := g3; refine (H4.out _ _ ?_ ?_).mono ?_; (· simp [go_sem]); (· simp [go_sem]); rintro e w' ⟨rfl, g4, rfl⟩)
    | (go_at_call 75; have _ := g2; refine (H3.out _ _ ?_ ?_).mono ?_; (· simp [go_sem]); (· simp [go_sem]); rintro e w' ⟨rfl, g3, rfl⟩)
    | (go_at_call 75; have _ := g1; refine (H2.out _ _ ?_ ?_).mono ?_; (· simp [go_sem]); (· simp [go_sem]); rintro e w' ⟨rfl, g2, rfl⟩)
    | (go_at_call 75; have _ := g0; refine (H1.out _ _ ?_ ?_).mono ?_; (· simp [go_sem]); (· simp [go_sem]); rintro e w' ⟨rfl, g1, rfl⟩)
    | (go_at_call 75; refine (H0.out _ _ ?_ ?_).mono ?_; (· simp [go_sem]); (· simp [go_sem]); rintro e w' ⟨rfl, g0, rfl⟩))
  refine bodyPost_ret (res_one Try.results60 (rd_cu (by rfl) ?_)) rfl ⟨rfl, (by repeat (first | exact Gr.refl _ | apply Gr.drewN | apply Gr.drew | apply Gr.alloc | apply Gr.gro))⟩
  simp [go_sem]
set_option maxRecDepth 100000 in
set_option maxHeartbeats 1600000 in
theorem mk_11 (w : World) : Calls Try.prog 61 #[.agg (nw 9 (pN 11))] w fun e w' => e = .returned (.agg (cu 0 0 (aN 11) (bN 11) (oN 11) (xN 11) (yN 11) 0 0 false)) ∧ Gr w w' := by
  obtain ⟨P, eP⟩ : ∃ x, pN 11 = x := ⟨_, rfl⟩
  obtain ⟨A, e0⟩ : ∃ x, aN 11 = x := ⟨_, rfl⟩
  obtain ⟨B, e1⟩ : ∃ x, bN 11 = x := ⟨_, rfl⟩
  obtain ⟨N, e2⟩ : ∃ x, oN 11 = x := ⟨_, rfl⟩
  obtain ⟨X, e3⟩ : ∃ x, xN 11 = x := ⟨_, rfl⟩
  obtain ⟨Y, e4⟩ : ∃ x, yN 11 = x := ⟨_, rfl⟩
  rw [eP, e0, e1, e2, e3, e4]
  have hb0 : ∀ w, (bslF 102 6 #[(0, .int .u64 8918115475071440140), (1, .int .u64 4355552632119865248), (2, .int .u64 14032832221039175559), (3, .int .u64 1410020238645393679), (4, .int .u64 9990533504564909291), (5, .int .u64 335737924824737830)]).run Try.prog w = .ok (.slice (some ⟨w.heap.size, 0, none⟩) 6 6) (w.alloc (.cells (ws [8918115475071440140, 4355552632119865248, 14032832221039175559, 1410020238645393679, 9990533504564909291, 335737924824737830]) 22)) := fun w => by kernel_rfl
  have H0 : Hid (∀ b w, blk w b = ws [8918115475071440140, 4355552632119865248, 14032832221039175559, 1410020238645393679, 9990533504564909291, 335737924824737830] → Pre (b + 1) w.heap.size → Calls Try.prog 75 #[.slice (some ⟨b, 0, none⟩) 6 6] w fun e w' => e = .returned (.agg (nw 9 A)) ∧ Gr w w') := fun b w => number_of _ 6 A (by rw [← e0]; decide +kernel) b w
  have hb1 : ∀ w, (bslF 102 6 #[(0, .int .u64 335737924824737830), (1, .int .u64 10032249017711215740), (2, .int .u64 3438355245973688998), (3, .int .u64 3352946025465340629), (4, .int .u64 8985869839777909140), (5, .int .u64 4230998357940653073)]).run Try.prog w = .ok (.slice (some ⟨w.heap.size, 0, none⟩) 6 6) (w.alloc (.cells (ws [335737924824737830, 10032249017711215740, 3438355245973688998, 3352946025465340629, 8985869839777909140, 4230998357940653073]) 22)) := fun w => by kernel_rfl
  have H1 : Hid (∀ b w, blk w b = ws [335737924824737830, 10032249017711215740, 3438355245973688998, 3352946025465340629, 8985869839777909140, 4230998357940653073] → Pre (b + 1) w.heap.size → Calls Try.prog 75 #[.slice (some ⟨b, 0, none⟩) 6 6] w fun e w' => e = .returned (.agg (nw 9 B)) ∧ Gr w w') := fun b w => number_of _ 6 B (by rw [← e1]; decide +kernel) b w
  have hb2 : ∀ w, (bslF 102 6 #[(0, .int .u64 10140169582434348328), (1, .int .u64 1107163671716839903), (2, .int .u64 1526563086152259251), (3, .int .u64 2240099277684876711), (4, .int .u64 14932448379039367952), (5, .int .u64 4289733633151100261)]).run Try.prog w = .ok (.slice (some ⟨w.heap.size, 0, none⟩) 6 6) (w.alloc (.cells (ws [10140169582434348328, 1107163671716839903, 1526563086152259251, 2240099277684876711, 14932448379039367952, 4289733633151100261]) 22)) := fun w => by kernel_rfl
  have H2 : Hid (∀ b w, blk w b = ws [10140169582434348328, 1107163671716839903, 1526563086152259251, 2240099277684876711, 14932448379039367952, 4289733633151100261] → Pre (b + 1) w.heap.size → Calls Try.prog 75 #[.slice (some ⟨b, 0, none⟩) 6 6] w fun e w' => e = .returned (.agg (nw 9 N)) ∧ Gr w w') := fun b w => number_of _ 6 N (by rw [← e2]; decide +kernel) b w
  have hb3 : ∀ w, (bslF 102 6 #[(0, .int .u64 2097662510161151487), (1, .int .u64 11720119409086381931), (2, .int .u64 9819997727167172579), (3, .int .u64 15816583608832692456), (4, .int .u64 16728304380777219754), (5, .int .u64 17259960781858189086)]).run Try.prog w = .ok (.slice (some ⟨w.heap.size, 0, none⟩) 6 6) (w.alloc (.cells (ws [2097662510161151487, 11720119409086381931, 9819997727167172579, 15816583608832692456, 16728304380777219754, 17259960781858189086]) 22)) := fun w => by kernel_rfl
  have H3 : Hid (∀ b w, blk w b = ws [2097662510161151487, 11720119409086381931, 9819997727167172579, 15816583608832692456, 16728304380777219754, 17259960781858189086] → Pre (b + 1) w.heap.size → Calls Try.prog 75 #[.slice (some ⟨b, 0, none⟩) 6 6] w fun e w' => e = .returned (.agg (nw 9 X)) ∧ Gr w w') := fun b w => number_of _ 6 X (by rw [← e3]; decide +kernel) b w
  have hb4 : ∀ w, (bslF 102 6 #[(0, .int .u64 9997460611710698148), (1, .int .u64 6679378719998465362), (2, .int .u64 7113166411453454436), (3, .int .u64 16256874595948243240), (4, .int .u64 1028586674454626577), (5, .int .u64 4792396531824874261)]).run Try.prog w = .ok (.slice (some ⟨w.heap.size, 0, none⟩) 6 6) (w.alloc (.cells (ws [9997460611710698148, 6679378719998465362, 7113166411453454436, 16256874595948243240, 1028586674454626577, 4792396531824874261]) 22)) := fun w => by kernel_rfl
  have H4 : Hid (∀ b w, blk w b = ws [9997460611710698148, 6679378719998465362, 7113166411453454436, 16256874595948243240, 1028586674454626577, 4792396531824874261] → Pre (b + 1) w.heap.size → Calls Try.prog 75 #[.slice (some ⟨b, 0, none⟩) 6 6] w fun e w' => e = .returned (.agg (nw 9 Y)) ∧ Gr w w') := fun b w => number_of _ 6 Y (by rw [← e4]; decide +kernel) b w
  clear eP e0 e1 e2 e3 e4
  go_enter Try.func61, Try.ntmps61
  go_wp2_with (first
    | (go_at_call 75; have _ := g3; refine (H4.out _ _ ?_ ?_).mono ?_; (· simp [go_sem]); (· simp [go_sem]); rintro e w' ⟨rfl, g4, rfl⟩)
    | (go_at_call 75; have _ := g2; refine (H3.out _ _ ?_ ?_).mono ?_; (· simp [go_sem]); (· simp [go_sem]); rintro e w' ⟨rfl, g3, rfl⟩)
    | (go_at_call 75; have _ := g1; refine (H2.out _ _ ?_ ?_).mono ?_; (· simp [go_sem]); (· simp [go_sem]); rintro e w' ⟨rfl, g2, rfl⟩)
    | (go_at_call 75; have _ := g0; refine (H1.out _ _ ?_ ?_).mono ?_; (· simp [go_sem]); (· simp [go_sem]); rintro e w' ⟨rfl, g1, rfl⟩)
    | (go_at_call 75; refine (H0.out _ _ ?_ ?_).mono ?_; (· simp [go_sem]); (· simp [go_sem]); rintro e w' ⟨rfl, g0, rfl⟩))
  refine bodyPost_ret (res_one Try.results61 (rd_cu (by rfl) ?_)) rfl ⟨rfl, (by repeat (first | exact Gr.refl _ | apply Gr.drewN | apply Gr.drew | apply Gr.alloc | apply Gr.gro))⟩
  simp [go_sem]
set_option maxRecDepth 100000 in
set_option maxHeartbeats 1600000 in
theorem mk_12 (w : World) : Calls Try.prog 62 #[.agg (nw 9 (pN 12))] w fun e w' => e = .returned (.agg (cu 0 0 (aN 12) (bN 12) (oN 12) (xN 12) (yN 12) 0 0 false)) ∧ Gr w w' := by
  obtain ⟨P, eP⟩ : ∃ x, pN 12 = x := ⟨_, rfl⟩
  obtain ⟨A, e0⟩ : ∃ x, aN 12 = x := ⟨_, rfl⟩
  obtain ⟨B, e1⟩ : ∃ x, bN 12 = x := ⟨_, rfl⟩
  obtain ⟨N, e2⟩ : ∃ x, oN 12 = x := ⟨_, rfl⟩
  obtain ⟨X, e3⟩ : ∃ x, xN 12 = x := ⟨_, rfl⟩
  obtain ⟨Y, e4⟩ : ∃ x, yN 12 = x := ⟨_, rfl⟩
  rw [eP, e0, e1, e2, e3, e4]
  have hb0 : ∀ w, (bslF 102 8 #[(0, .int .u64 8660601516620528521), (1, .int .u64 16299214545461923013), (2, .int .u64 10721906936585459216), (3, .int .u64 12120384836935902140), (4, .int .u64 3309403945136634529), (5, .int .u64 733789637240866997), (6, .int .u64 9156125524185237433), (7, .int .u64 16699818341992010954)]).run Try.prog w = .ok (.slice (some ⟨w.heap.size, 0, none⟩) 8 8) (w.alloc (.cells (ws [8660601516620528521, 16299214545461923013, 10721906936585459216, 12120384836935902140, 3309403945136634529, 733789637240866997, 9156125524185237433, 16699818341992010954]) 22)) := fun w => by kernel_rfl
  have H0 : Hid (∀ b w, blk w b = ws [8660601516620528521, 16299214545461923013, 10721906936585459216, 12120384836935902140, 3309403945136634529, 733789637240866997, 9156125524185237433, 16699818341992010954] → Pre (b + 1) w.heap.size → Calls Try.prog 75 #[.slice (some ⟨b, 0, none⟩) 8 8] w fun e w' => e = .returned (.agg (nw 9 A)) ∧ Gr w w') := fun b w => number_of _ 8 A (by rw [← e0]; decide +kernel) b w
  have hb1 : ∀ w, (bslF 102 8 #[(0, .int .u64 4465624766311842250), (1, .int .u64 16904370861210688858), (2, .int .u64 12116154835845181897), (3, .int .u64 10059573399531886503), (4, .int .u64 3166813089265986637), (5, .int .u64 8645948983640342119), (6, .int .u64 10970857440773072349), (7, .int .u64 2885045271355914019)]).run Try.prog w = .ok (.slice (some ⟨w.heap.size, 0, none⟩) 8 8) (w.alloc (.cells (ws [4465624766311842250, 16904370861210688858, 12116154835845181897, 10059573399531886503, 3166813089265986637, 8645948983640342119, 10970857440773072349, 2885045271355914019]) 22)) := fun w => by kernel_rfl
  have H1 : Hid (∀ b w, blk w b = ws [4465624766311842250, 16904370861210688858, 12116154835845181897, 10059573399531886503, 3166813089265986637, 8645948983640342119, 10970857440773072349, 2885045271355914019] → Pre (b + 1) w.heap.size → Calls Try.prog 75 #[.slice (some ⟨b, 0, none⟩) 8 8] w fun e w' => e = .returned (.agg (nw 9 B)) ∧ Gr w w') := fun b w => number_of _ 8 B (by rw [← e1]; decide +kernel) b w
  have hb2 : ∀ w, (bslF 102 8 #[(0, .int .u64 12312170373589877899), (1, .int .u64 4599554755319692295), (2, .int .u64 14641358191536493070), (3, .int .u64 15448363540090652784), (4, .int .u64 6142448377308718617), (5, .int .u64 4721568021488603207), (6, .int .u64 2139723849122306781), (7, .int .u64 13080589130439131241)]).run Try.prog w = .ok (.slice (some ⟨w.heap.size, 0, none⟩) 8 8) (w.alloc (.cells (ws [12312170373589877899, 4599554755319692295, 14641358191536493070, 15448363540090652784, 6142448377308718617, 4721568021488603207, 2139723849122306781, 13080589130439131241]) 22)) := fun w => by kernel_rfl
  have H2 : Hid (∀ b w, blk w b = ws [12312170373589877899, 4599554755319692295, 14641358191536493070, 15448363540090652784, 6142448377308718617, 4721568021488603207, 2139723849122306781, 13080589130439131241] → Pre (b + 1) w.heap.size → Calls Try.prog 75 #[.slice (some ⟨b, 0, none⟩) 8 8] w fun e w' => e = .returned (.agg (nw 9 N)) ∧ Gr w w') := fun b w => number_of _ 8 N (by rw [← e2]; decide +kernel) b w
  have hb3 : ∀ w, (bslF 102 8 #[(0, .int .u64 9344657780867258724), (1, .int .u64 6494527313417104019), (2, .int .u64 9650544882960897729), (3, .int .u64 12987082728901970318), (4, .int .u64 18391328107359425677), (5, .int .u64 5823550673135435103), (6, .int .u64 8965910700118138472), (7, .int .u64 10030961170254002210)]).run Try.prog w = .ok (.slice (some ⟨w.heap.size, 0, none⟩) 8 8) (w.alloc (.cells (ws [9344657780867258724, 6494527313417104019, 9650544882960897729, 12987082728901970318, 18391328107359425677, 5823550673135435103, 8965910700118138472, 10030961170254002210]) 22)) := fun w => by kernel_rfl
  have H3 : Hid (∀ b w, blk w b = ws [9344657780867258724, 6494527313417104019, 9650544882960897729, 12987082728901970318, 18391328107359425677, 5823550673135435103, 8965910700118138472, 10030961170254002210] → Pre (b + 1) w.heap.size → Calls Try.prog 75 #[.slice (some ⟨b, 0, none⟩) 8 8] w fun e w' => e = .returned (.agg (nw 9 X)) ∧ Gr w w') := fun b w => number_of _ 8 X (by rw [← e3]; decide +kernel) b w
  have hb4 : ∀ w, (bslF 102 8 #[(0, .int .u64 9069748673103213292), (1, .int .u64 13901133935883592445), (2, .int .u64 17440742611955841818), (3, .int .u64 11529432042984931601), (4, .int .u64 12888420639989254238), (5, .int .u64 6614182396149851054), (6, .int .u64 15116942582920270854), (7, .int .u64 8704646705537616018)]).run Try.prog w = .ok (.slice (some ⟨w.heap.size, 0, none⟩) 8 8) (w.alloc (.cells (ws [9069748673103213292, 13901133935883592445, 17440742611955841818, 11529432042984931601, 12888420639989254238, 6614182396149851054, 15116942582920270854, 8704646705537616018]) 22)) := fun w => by kernel_rfl
  have H4 : Hid (∀ b w, blk w b = ws [9069748673103213292, 13901133935883592445, 17440742611955841818, 11529432042984931601, 12888420639989254238, 6614182396149851054, 15116942582920270854, 8704646705537616018] → Pre (b + 1) w.heap.size → Calls Try.prog 75 #[.slice (some ⟨b, 0, none⟩) 8 8] w fun e w' => e = .returned (.agg (nw 9 Y)) ∧ Gr w w') := fun b w => number_of _ 8 Y (by rw [← e4]; decide +kernel) b w
  clear eP e0 e1 e2 e3 e4
  go_enter Try.func62, Try.ntmps62
  go_wp2_with (first
    | (go_at_call 75; have _ := g3; refine (H4.out _ _ ?_ ?_).mono ?_; (· simp [go_sem]); (· simp [go_sem]); rintro e w' ⟨rfl, g4, rfl⟩)
    | (go_at_call 75; have _ := g2; refine (H3.out _ _ ?_ ?_).mono ?_; (· simp [go_sem]); (· simp [go_sem]); rintro e w' ⟨rfl, g3, rfl⟩)
    | (go_at_call 75; have _ := g1; refine (H2.out _ _ ?_ ?_).mono ?_; (· simp [go_sem]); (· simp [go_sem]); rintro e w' ⟨rfl, g2, rfl⟩)
    | (go_at_call 75; have _ := g0; refine (H1.out _ _ ?_ ?_).mono ?_; (· simp [go_sem]); (· simp [go_sem]); rintro e w' ⟨rfl, g1, rfl⟩)
    | (go_at_call 75; refine (H0.out _ _ ?_ ?_).mono ?_; (· simp [go_sem]); (· simp [go_sem]); rintro e w' ⟨rfl, g0, rfl⟩))
  refine bodyPost_ret (res_one Try.results62 (rd_cu (by rfl) ?_)) rfl ⟨rfl, (by repeat (first | exact Gr.refl _ | apply Gr.drewN | apply Gr.drew | apply Gr.alloc | apply Gr.gro))⟩
  simp [go_sem]
set_option maxRecDepth 100000 in
set_option maxHeartbeats 1600000 in
theorem mk_13 (w : World) : Calls Try.prog 63 #[.agg (nw 9 (pN 13))] w fun e w' => e = .returned (.agg (cu 0 0 (aN 13) (bN 13) (oN 13) (xN 13) (yN 13) 0 0 false)) ∧ Gr w w' := by
  obtain ⟨P, eP⟩ : ∃ x, pN 13 = x := ⟨_, rfl⟩
  obtain ⟨A, e0⟩ : ∃ x, aN 13 = x := ⟨_, rfl⟩
  obtain ⟨B, e1⟩ : ∃ x, bN 13 = x := ⟨_, rfl⟩
  obtain ⟨N, e2⟩ : ∃ x, oN 13 = x := ⟨_, rfl⟩
  obtain ⟨X, e3⟩ : ∃ x, xN 13 = x := ⟨_, rfl⟩
  obtain ⟨Y, e4⟩ : ∃ x, yN 13 = x := ⟨_, rfl⟩
  rw [eP, e0, e1, e2, e3, e4]
  have H0 : Hid (∀ w, Calls Try.prog 74 #[.agg (nw 9 P)] w fun e w' => e = .returned (.agg (nw 9 A)) ∧ Gr w w') := fun w => by
    have := lessThree_any P (by rw [← eP]; decide +kernel) (by rw [← eP]; decide +kernel) w
    rw [show P - 3 = A by rw [← eP, ← e0]; decide +kernel] at this
    exact this
  have H1 : Hid (∀ w, Calls Try.prog 76 #[.int .i64 26] w fun e w' => e = .returned (.agg (nw 9 B)) ∧ Gr w w') := fun w => by
    have := small_any 26 (by decide) w
    rw [show ((26 : Int)).toNat = B by rw [← e1]; decide +kernel] at this
    exact this
  have H2 : Hid (∀ w, Calls Try.prog 76 #[.int .i64 223] w fun e w' => e = .returned (.agg (nw 9 N)) ∧ Gr w w') := fun w => by
    have := small_any 223 (by decide) w
    rw [show ((223 : Int)).toNat = N by rw [← e2]; decide +kernel] at this
    exact this
  have H3 : Hid (∀ w, Calls Try.prog 76 #[.int .i64 2] w fun e w' => e = .returned (.agg (nw 9 X)) ∧ Gr w w') := fun w => by
    have := small_any 2 (by decide) w
    rw [show ((2 : Int)).toNat = X by rw [← e3]; decide +kernel] at this
    exact this
  have H4 : Hid (∀ w, Calls Try.prog 76 #[.int .i64 84] w fun e w' => e = .returned (.agg (nw 9 Y)) ∧ Gr w w') := fun w => by
    have := small_any 84 (by decide) w
    rw [show ((84 : Int)).toNat = Y by rw [← e4]; decide +kernel] at this
    exact this
  clear eP e0 e1 e2 e3 e4
  go_enter Try.func63, Try.ntmps63
  go_wp2_with (first
    | (go_at_call 76; have _ := g3; refine (H4.out _).mono ?_; rintro e w' ⟨rfl, g4, rfl⟩)
    | (go_at_call 76; have _ := g2; refine (H3.out _).mono ?_; rintro e w' ⟨rfl, g3, rfl⟩)
    | (go_at_call 76; have _ := g1; refine (H2.out _).mono ?_; rintro e w' ⟨rfl, g2, rfl⟩)
    | (go_at_call 76; have _ := g0; refine (H1.out _).mono ?_; rintro e w' ⟨rfl, g1, rfl⟩)
    | (go_at_call 74; refine (H0.out _).mono ?_; rintro e w' ⟨rfl, g0, rfl⟩))
  refine bodyPost_ret (res_one Try.results63 (rd_cu (by rfl) ?_)) rfl ⟨rfl, (by repeat (first | exact Gr.refl _ | apply Gr.drewN | apply Gr.drew | apply Gr.alloc | apply Gr.gro))⟩
  simp [go_sem]
set_option maxRecDepth 100000 in
set_option maxHeartbeats 1600000 in
theorem mk_14 (w : World) : Calls Try.prog 64 #[.agg (nw 9 (pN 14))] w fun e w' => e = .returned (.agg (cu 0 0 (aN 14) (bN 14) (oN 14) (xN 14) (yN 14) 0 0 false)) ∧ Gr w w' := by
  obtain ⟨P, eP⟩ : ∃ x, pN 14 = x := ⟨_, rfl⟩
  obtain ⟨A, e0⟩ : ∃ x, aN 14 = x := ⟨_, rfl⟩
  obtain ⟨B, e1⟩ : ∃ x, bN 14 = x := ⟨_, rfl⟩
  obtain ⟨N, e2⟩ : ∃ x, oN 14 = x := ⟨_, rfl⟩
  obtain ⟨X, e3⟩ : ∃ x, xN 14 = x := ⟨_, rfl⟩
  obtain ⟨Y, e4⟩ : ∃ x, yN 14 = x := ⟨_, rfl⟩
  rw [eP, e0, e1, e2, e3, e4]
  have H0 : Hid (∀ w, Calls Try.prog 76 #[.int .i64 0] w fun e w' => e = .returned (.agg (nw 9 A)) ∧ Gr w w') := fun w => by
    have := small_any 0 (by decide) w
    rw [show ((0 : Int)).toNat = A by rw [← e0]; decide +kernel] at this
    exact this
  have H1 : Hid (∀ w, Calls Try.prog 76 #[.int .i64 13] w fun e w' => e = .returned (.agg (nw 9 B)) ∧ Gr w w') := fun w => by
    have := small_any 13 (by decide) w
    rw [show ((13 : Int)).toNat = B by rw [← e1]; decide +kernel] at this
    exact this
  have H2 : Hid (∀ w, Calls Try.prog 76 #[.int .i64 211] w fun e w' => e = .returned (.agg (nw 9 N)) ∧ Gr w w') := fun w => by
    have := small_any 211 (by decide) w
    rw [show ((211 : Int)).toNat = N by rw [← e2]; decide +kernel] at this
    exact this
  have H3 : Hid (∀ w, Calls Try.prog 76 #[.int .i64 3] w fun e w' => e = .returned (.agg (nw 9 X)) ∧ Gr w w') := fun w => by
    have := small_any 3 (by decide) w
    rw [show ((3 : Int)).toNat = X by rw [← e3]; decide +kernel] at this
    exact this
  have H4 : Hid (∀ w, Calls Try.prog 76 #[.int .i64 47] w fun e w' => e = .returned (.agg (nw 9 Y)) ∧ Gr w w') := fun w => by
    have := small_any 47 (by decide) w
    rw [show ((47 : Int)).toNat = Y by rw [← e4]; decide +kernel] at this
    exact this
  clear eP e0 e1 e2 e3 e4
  go_enter Try.func64, Try.ntmps64
  go_wp2_with (first
    | (go_at_call 76; have _ := g3; refine (H4.out _).mono ?_; rintro e w' ⟨rfl, g4, rfl⟩)
    | (go_at_call 76; have _ := g2; refine (H3.out _).mono ?_; rintro e w' ⟨rfl, g3, rfl⟩)
    | (go_at_call 76; have _ := g1; refine (H2.out _).mono ?_; rintro e w' ⟨rfl, g2, rfl⟩)
    | (go_at_call 76; have _ := g0; refine (H1.out _).mono ?_; rintro e w' ⟨rfl, g1, rfl⟩)
    | (go_at_call 76; refine (H0.out _).mono ?_; rintro e w' ⟨rfl, g0, rfl⟩))
  refine bodyPost_ret (res_one Try.results64 (rd_cu (by rfl) ?_)) rfl ⟨rfl, (by repeat (first | exact Gr.refl _ | apply Gr.drewN | apply Gr.drew | apply Gr.alloc | apply Gr.gro))⟩
  simp [go_sem]
set_option maxRecDepth 100000 in
set_option maxHeartbeats 1600000 in
theorem mk_15 (w : World) : Calls Try.prog 65 #[.agg (nw 9 (pN 15))] w fun e w' => e = .returned (.agg (cu 0 0 (aN 15) (bN 15) (oN 15) (xN 15) (yN 15) 0 0 false)) ∧ Gr w w' := by
  obtain ⟨P, eP⟩ : ∃ x, pN 15 = x := ⟨_, rfl⟩
  obtain ⟨A, e0⟩ : ∃ x, aN 15 = x := ⟨_, rfl⟩
  obtain ⟨B, e1⟩ : ∃ x, bN 15 = x := ⟨_, rfl⟩
  obtain ⟨N, e2⟩ : ∃ x, oN 15 = x := ⟨_, rfl⟩
  obtain ⟨X, e3⟩ : ∃ x, xN 15 = x := ⟨_, rfl⟩
  obtain ⟨Y, e4⟩ : ∃ x, yN 15 = x := ⟨_, rfl⟩
  rw [eP, e0, e1, e2, e3, e4]
  have H0 : Hid (∀ w, Calls Try.prog 76 #[.int .i64 117] w fun e w' => e = .returned (.agg (nw 9 A)) ∧ Gr w w') := fun w => by
    have := small_any 117 (by decide) w
    rw [show ((117 : Int)).toNat = A by rw [← e0]; decide +kernel] at this
    exact this
  have H1 : Hid (∀ w, Calls Try.prog 76 #[.int .i64 8] w fun e w' => e = .returned (.agg (nw 9 B)) ∧ Gr w w') := fun w => by
    have := small_any 8 (by decide) w
    rw [show ((8 : Int)).toNat = B by rw [← e1]; decide +kernel] at this
    exact this
  have H2 : Hid (∀ w, Calls Try.prog 76 #[.int .i64 229] w fun e w' => e = .returned (.agg (nw 9 N)) ∧ Gr w w') := fun w => by
    have := small_any 229 (by decide) w
    rw [show ((229 : Int)).toNat = N by rw [← e2]; decide +kernel] at this
    exact this
  have H3 : Hid (∀ w, Calls Try.prog 76 #[.int .i64 0] w fun e w' => e = .returned (.agg (nw 9 X)) ∧ Gr w w') := fun w => by
    have := small_any 0 (by decide) w
    rw [show ((0 : Int)).toNat = X by rw [← e3]; decide +kernel] at this
    exact this
  have H4 : Hid (∀ w, Calls Try.prog 76 #[.int .i64 41] w fun e w' => e = .returned (.agg (nw 9 Y)) ∧ Gr w w') := fun w => by
    have := small_any 41 (by decide) w
    rw [show ((41 : Int)).toNat = Y by rw [← e4]; decide +kernel] at this
    exact this
  clear eP e0 e1 e2 e3 e4
  go_enter Try.func65, Try.ntmps65
  go_wp2_with (first
    | (go_at_call 76; have _ := g3; refine (H4.out _).mono ?_; rintro e w' ⟨rfl, g4, rfl⟩)
    | (go_at_call 76; have _ := g2; refine (H3.out _).mono ?_; rintro e w' ⟨rfl, g3, rfl⟩)
    | (go_at_call 76; have _ := g1; refine (H2.out _).mono ?_; rintro e w' ⟨rfl, g2, rfl⟩)
    | (go_at_call 76; have _ := g0; refine (H1.out _).mono ?_; rintro e w' ⟨rfl, g1, rfl⟩)
    | (go_at_call 76; refine (H0.out _).mono ?_; rintro e w' ⟨rfl, g0, rfl⟩))
  refine bodyPost_ret (res_one Try.results65 (rd_cu (by rfl) ?_)) rfl ⟨rfl, (by repeat (first | exact Gr.refl _ | apply Gr.drewN | apply Gr.drew | apply Gr.alloc | apply Gr.gro))⟩
  simp [go_sem]

end Go.Proofs.Ytgmaalokfgdpaaa
namespace Go.Proofs.Ytgmaalokfgdpaaa
open Go.RowKit

/-- What may be known of an answer, while the world grows. -/
structure Kz where
  ok : Value → World → Prop
  gr : ∀ v w w', ok v w → Gr w w' → ok v w'
/-- It is v. -/
def Kz.c (v : Value) : Kz := ⟨fun u _ => u = v, fun _ _ _ h _ => h⟩
/-- It is a slice that holds x. -/
def Kz.n (x : Nat) : Kz := ⟨fun u w => ∃ p n, u = .slice p (dl x) n ∧ Sl w p x, fun _ _ _ ⟨p, n, e, h⟩ g => ⟨p, n, e, h.gr g⟩⟩
/-- A slice that holds x, and whether. -/
def Kz.nb (x : Nat) (f : Bool) : Kz := ⟨fun u w => ∃ p n, u = .tuple #[.slice p (dl x) n, .bool f] ∧ Sl w p x, fun _ _ _ ⟨p, n, e, h⟩ g => ⟨p, n, e, h.gr g⟩⟩
/-- The documents' point: three cells. -/
def ptA (p : Option Addr) (x n : Nat) (q : Option Addr) (y m : Nat) (f : Bool) : Array Value := #[.slice p (dl x) n, .slice q (dl y) m, .bool f]
/-- A new variable that holds z. -/
def Kz.v (N : Nat) (z : Array Value) : Kz := ⟨fun u w => ∃ b, u = .pointer (some ⟨b, 0, none⟩) ∧ N ≤ b ∧ Vr w b z, fun _ _ _ ⟨b, e, h, k⟩ g => ⟨b, e, h, k.gr g⟩⟩
/-- A slice of n. -/
def Kz.sl (n : Nat) : Kz := ⟨fun u _ => ∃ p c, u = .slice p n c, fun _ _ _ h _ => h⟩
/-- Whatever it is. -/
def Kz.top : Kz := ⟨fun _ _ => True, fun _ _ _ _ _ => trivial⟩
def kz (kp : List Kz) (i : Nat) (v : Value) (w : World) : Prop := match kp[i]? with | some k => k.ok v w | none => True
theorem kz.gr {kp : List Kz} {i : Nat} {v : Value} {w w' : World} (h : kz kp i v w) (g : Gr w w') : kz kp i v w' := by
  unfold kz at h ⊢
  cases e : kp[i]? with
  | none => trivial
  | some k => rw [e] at h; exact k.gr _ _ _ h g
/-- A call hands back such an answer. -/
def Rt (k : Kz) (w : World) (e : Ending) (w' : World) : Prop := ∃ u, e = .returned u ∧ k.ok u w' ∧ Gr w w'
theorem Rt.c {P : Program} {f : FuncId} {args : Array Value} {w : World} {v : Value} (h : Calls P f args w fun e w' => e = .returned v ∧ Gr w w') : Calls P f args w (Rt (.c v) w) := h.mono fun _ _ ⟨e, g⟩ => ⟨_, e, rfl, g⟩
theorem Rt.n {P : Program} {f : FuncId} {args : Array Value} {w : World} {x : Nat} (h : Calls P f args w (Nm x w)) : Calls P f args w (Rt (.n x) w) := h.mono fun _ _ ⟨p, n, e, s, g⟩ => ⟨_, e, ⟨p, n, rfl, s⟩, g⟩
theorem Rt.same {P : Program} {f : FuncId} {args : Array Value} {w : World} {v : Value} (h : Calls P f args w fun e w' => e = .returned v ∧ w' = w) : Calls P f args w (Rt (.c v) w) := h.mono fun _ _ ⟨e, g⟩ => ⟨_, e, rfl, by rw [g]; exact Gr.refl _⟩
theorem wp_retz {P : Program} {o : Oper} {a : Act} {w : World} {K : Act → World → Prop} {Q : Exit → Act → World → Prop} {f : FuncId} {args : Array Value} {k : Kz} (h : (execOp a.eval o).run P w = .ok (.enter f args) w)
    (hc : Calls P f args w (Rt k w)) (hk : ∀ u w', k.ok u w' → Gr w w' → K (a.put o.dst u) w') : o.wp P a w K Q := by
  unfold Oper.wp; rw [h]
  exact hc.mono fun e w' ⟨u, he, hu, hg⟩ => by subst he; exact hk u w' hu hg
def RZ (W : World) (kp : List Kz) (listed : Array Bool) (vals : Nat → Value) (w : World) : Prop :=
  Gr W w ∧ ∀ j, listed.getD j false = true → kz kp j (vals j) w
theorem RZ.next {W w w' : World} {kp : List Kz} {listed : Array Bool} {vals : Nat → Value} {i : Nat} {v : Value} (h : RZ W kp listed vals w) (hg : Gr w w') (hv : kz kp i v w') : RZ W kp (listed.setIfInBounds i true) (upd vals i v) w' := by
  refine ⟨h.1.trans hg, fun j hj => ?_⟩
  by_cases e : j = i
  · subst e; simpa [upd] using hv
  · rw [getD_set_other _ _ _ (Ne.symm e)] at hj
    simp only [upd, e, if_false]
    exact (h.2 j hj).gr hg
theorem wp_region_q {P : Program} {id : Nat} {l : List Oper} {Q : Exit → Act → World → Prop} {a0 : Act} {W : World} (hm : P.follows .mixedOrders = true) (hu : uniqG l.toArray = true) (kp : List Kz)
    (hstep : ∀ (listed : Array Bool) (vals : Nat → Value) (a : Act) (v : World) (i : Nat) (o : Oper), Gr W v → (∀ j, listed.getD j false = true → kz kp j (vals j) v) → Frm l.toArray a0 vals listed a → l.toArray[i]? = some o →
      (∀ e ∈ o.after, Region.binds .any e = true → listed.getD e.on false = true) →
      (Region.wanted o (yielded l.toArray a.tmps) = true ∧ o.wp P a v (fun a' w' => ∃ u, a' = a.put o.dst u ∧ Gr v w' ∧ kz kp i u w') Q) ∨ (Region.wanted o (yielded l.toArray a.tmps) = false ∧ kz kp i undef v))
    (hfin : ∀ (vals : Nat → Value) (v : World), Gr W v → (∀ j, j < l.toArray.size → kz kp j (vals j) v) → Q .normal (putFrom vals 0 l a0) v) :
    (Code.region id l.toArray true).wp P Q a0 W := by
  refine wp_region_mixG hm hu (RZ W kp) ⟨⟨⟨[], 1⟩, by simp [gro]⟩, fun j hj => ?_⟩ (fun listed vals a w i o hz hR hF ho hl hd => ?_) (fun listed vals a w hall hR hF => ?_)
  · rw [none_listed] at hj
    cases hj
  · obtain ⟨h1, h2⟩ | ⟨h1, h2⟩ := hstep listed vals a w i o hR.1 hR.2 hF ho hd
    · refine Or.inl ⟨h1, Oper.wp_mono (fun a' w' h => ?_) h2⟩
      obtain ⟨v, rfl, hg, hv⟩ := h
      exact ⟨v, rfl, RZ.next hR hg hv⟩
    · exact Or.inr ⟨h1, RZ.next hR (Gr.refl _) h2⟩
  · rw [hF.final hu hall]
    exact hfin vals w hR.1 fun j hj => hR.2 j (hall j hj)

/-! ### one store at the end, that waits for all else -/
/-- Each operation but the last has a later one that waits for it; the last hands nothing on and is not guarded. -/
def sinkZ (l : List Oper) (n : Nat) : Bool := decide (l.length = n + 1) && (((l[n]?).map fun o => o.dst.isNone && o.guard.isNone).getD false) &&
  (List.range n).all fun i => (List.range (n + 1)).any fun j => decide (i < j) && ((l[j]?).map fun o => o.after.any fun e => e.on == i && Region.binds .any e).getD false
/-- What is done has all done that it waits for. -/
def Cld (l : List Oper) (listed : Array Bool) : Prop := ∀ j o, l[j]? = some o → listed.getD j false = true → ∀ e ∈ o.after, Region.binds .any e = true → listed.getD e.on false = true
theorem sink_all {l : List Oper} {n : Nat} (hs : sinkZ l n = true) {listed : Array Bool} (hc : Cld l listed) {o : Oper} (ho : l[n]? = some o) (hd : ∀ e ∈ o.after, Region.binds .any e = true → listed.getD e.on false = true) :
    ∀ k i, i < n → n ≤ i + k → listed.getD i false = true
  | 0, i, h1, h2 => by omega
  | k + 1, i, h1, h2 => by
    simp only [sinkZ, Bool.and_eq_true, decide_eq_true_eq] at hs
    have h := List.all_eq_true.1 hs.2 i (by simpa using h1)
    obtain ⟨j, hj, hb⟩ := List.any_eq_true.1 h
    simp only [Bool.and_eq_true, decide_eq_true_eq, List.mem_range] at hj hb
    cases hw : l[j]? with
    | none => rw [hw] at hb; simp at hb
    | some oj =>
      rw [hw] at hb
      simp only [Option.map_some, Option.getD_some] at hb
      obtain ⟨m, hm, hm2⟩ := Array.any_eq_true.1 hb.2
      simp only [Bool.and_eq_true, beq_iff_eq] at hm2
      by_cases e : j = n
      · subst e
        rw [ho] at hw; cases hw
        rw [← hm2.1]; exact hd _ (Array.getElem_mem hm) hm2.2
      · have := sink_all (by simp only [sinkZ, Bool.and_eq_true, decide_eq_true_eq]; exact hs) hc ho hd k j (by omega) (by omega)
        rw [← hm2.1]; exact hc j oj hw this _ (Array.getElem_mem hm) hm2.2
theorem putFrom_congr {vals vals' : Nat → Value} : ∀ (l : List Oper) (k : Nat) (a : Act), (∀ j o, l[j]? = some o → o.dst.isSome = true → vals (k + j) = vals' (k + j)) → putFrom vals k l a = putFrom vals' k l a
  | [], _, _, _ => rfl
  | o :: l, k, a, h => by
    rw [putFrom, putFrom]
    have e : a.put o.dst (vals k) = a.put o.dst (vals' k) := by
      cases hd : o.dst with
      | none => rfl
      | some d => rw [show vals k = vals' k from h 0 o rfl (by rw [hd]; rfl)]
    rw [e]
    exact putFrom_congr l (k + 1) _ fun j o hj hd => by
      have := h (j + 1) o (by simpa using hj) hd
      rw [show k + 1 + j = k + (j + 1) by omega]; exact this
theorem wp_region_qT {P : Program} {id : Nat} {l : List Oper} {Q : Exit → Act → World → Prop} {a0 : Act} {W : World} (hm : P.follows .mixedOrders = true) (hu : uniqG l.toArray = true) (n : Nat) (hs : sinkZ l n = true) (kp : List Kz)
    (hstep : ∀ (listed : Array Bool) (vals : Nat → Value) (a : Act) (v : World) (i : Nat) (o : Oper), Gr W v → (∀ j, listed.getD j false = true → kz kp j (vals j) v) → Frm l.toArray a0 vals listed a → l.toArray[i]? = some o → i < n →
      (∀ e ∈ o.after, Region.binds .any e = true → listed.getD e.on false = true) →
      (Region.wanted o (yielded l.toArray a.tmps) = true ∧ o.wp P a v (fun a' w' => ∃ u, a' = a.put o.dst u ∧ Gr v w' ∧ kz kp i u w') Q) ∨ (Region.wanted o (yielded l.toArray a.tmps) = false ∧ kz kp i undef v))
    (hlast : ∀ (listed : Array Bool) (vals : Nat → Value) (a : Act) (v : World) (o : Oper), Gr W v → (∀ j, j < n → kz kp j (vals j) v) → Frm l.toArray a0 vals listed a → (∀ j, j < n → listed.getD j false = true) → l.toArray[n]? = some o →
      o.wp P a v (fun a' w' => a' = a.put o.dst undef ∧ Q .normal (putFrom vals 0 l a0) w') Q) :
    (Code.region id l.toArray true).wp P Q a0 W := by
  have hs' := hs
  simp only [sinkZ, Bool.and_eq_true, decide_eq_true_eq] at hs'
  obtain ⟨⟨hlen, hlo⟩, -⟩ := hs'
  refine wp_region_mixG hm hu (fun listed vals w => Cld l listed ∧ ((listed.getD n false = false ∧ RZ W kp listed vals w) ∨ (listed.getD n false = true ∧ (∀ i, i < n → listed.getD i false = true) ∧ ∃ vals0, (∀ j, j ≠ n → vals j = vals0 j) ∧ Q .normal (putFrom vals0 0 l a0) w)))
    ⟨fun j o _ hj => (by rw [none_listed] at hj; cases hj), Or.inl ⟨none_listed _ _, ⟨⟨⟨[], 1⟩, by simp [gro]⟩, fun j hj => (by rw [none_listed] at hj; cases hj)⟩⟩⟩ (fun listed vals a w i o hz hR hF ho hl hd => ?_) (fun listed vals a w hall hR hF => ?_)
  · have ho' : l[i]? = some o := by simpa using ho
    have hi : i < n + 1 := by rw [← hlen]; exact (List.getElem?_eq_some_iff.1 ho').1
    have hil : i < listed.size := by rw [hz]; simpa [hlen] using hi
    have hC : Cld l (listed.setIfInBounds i true) := fun j oj hj hlj e he hb => by
      by_cases e1 : e.on = i
      · rw [e1]; exact getD_set_same _ _ hil
      · rw [getD_set_other _ _ _ (Ne.symm e1)]
        by_cases e2 : j = i
        · subst e2
          rw [ho'] at hj; cases hj
          exact hd e he hb
        · rw [getD_set_other _ _ _ (Ne.symm e2)] at hlj
          exact hR.1 j oj hj hlj e he hb
    obtain ⟨hRC, ⟨hn, hR⟩ | ⟨hn, hall, -⟩⟩ := hR
    · by_cases e : i = n
      · subst e
        have hall := fun j hj => sink_all hs hRC ho' hd i j hj (Nat.le_add_left _ _)
        have hg : o.dst = none ∧ o.guard = none := by rw [ho'] at hlo; simpa using hlo
        refine Or.inl ⟨wanted_no hg.2, Oper.wp_mono (fun a' w' h => ?_) (hlast listed vals a w o hR.1 (fun j hj => hR.2 j (hall j hj)) hF hall ho)⟩
        obtain ⟨rfl, hq⟩ := h
        refine ⟨undef, rfl, hC, Or.inr ⟨getD_set_same _ _ hil, fun j hj => ?_, vals, fun j hj => by simp [upd, hj], hq⟩⟩
        rw [getD_set_other _ _ _ (by omega)]; exact hall j hj
      · obtain ⟨h1, h2⟩ | ⟨h1, h2⟩ := hstep listed vals a w i o hR.1 hR.2 hF ho (by omega) hd
        · refine Or.inl ⟨h1, Oper.wp_mono (fun a' w' h => ?_) h2⟩
          obtain ⟨v, rfl, hg, hv⟩ := h
          exact ⟨v, rfl, hC, Or.inl ⟨by rw [getD_set_other _ _ _ e]; exact hn, RZ.next hR hg hv⟩⟩
        · exact Or.inr ⟨h1, hC, Or.inl ⟨by rw [getD_set_other _ _ _ e]; exact hn, RZ.next hR (Gr.refl _) h2⟩⟩
    · exfalso
      by_cases e : i = n
      · subst e; rw [hl] at hn; cases hn
      · have := hall i (by omega)
        rw [hl] at this; cases this
  · obtain ⟨-, ⟨hn, -⟩ | ⟨-, -, vals0, hv, hq⟩⟩ := hR
    · rw [hall n (by simp [hlen])] at hn; cases hn
    · rw [hF.final hu hall, putFrom_congr (vals' := vals0) l 0 a0 (fun j o hj hd => ?_)]
      · exact hq
      · rw [Nat.zero_add]
        refine hv j fun e => ?_
        subst e
        rw [hj] at hlo
        simp only [Option.map_some, Option.getD_some, Bool.and_eq_true, Option.isNone_iff_eq_none] at hlo
        rw [hlo.1] at hd; cases hd

end Go.Proofs.Ytgmaalokfgdpaaa
namespace Go.Proofs.Ytgmaalokfgdpaaa
open Go.RowKit
/-- The makers by their numbers. -/
def tabM : Array Value := #[.nilFunc, fnT 51, fnT 52, fnT 53, fnT 54, fnT 55, fnT 56, fnT 57, fnT 58, fnT 59, fnT 60, fnT 61, fnT 62, fnT 63, fnT 64, fnT 65]
theorem tabM_size : tabM.size = 16 := rfl
theorem storeTm_is (p v : Value) : Instr.storeAt 75 p v = storeS 75 p v := rfl
theorem buildTm_is (p : Array (Nat × Value)) : Instr.build 75 p = buildF 75 p := rfl
theorem buildTm (w : World) : (buildF 75 #[(1, .func (.func 51) #[] #[]), (2, .func (.func 52) #[] #[]), (3, .func (.func 53) #[] #[]), (4, .func (.func 54) #[] #[]), (5, .func (.func 55) #[] #[]), (6, .func (.func 56) #[] #[]), (7, .func (.func 57) #[] #[]), (8, .func (.func 58) #[] #[]), (9, .func (.func 59) #[] #[]), (10, .func (.func 60) #[] #[]), (11, .func (.func 61) #[] #[]), (12, .func (.func 62) #[] #[]), (13, .func (.func 63) #[] #[]), (14, .func (.func 64) #[] #[]), (15, .func (.func 65) #[] #[])]).run Try.prog w = .ok (.agg tabM) w := by kernel_rfl
theorem storeTm (w : World) (b : Nat) (hs : (blk w b).size = 16) (hf : frz w b = (0, 0)) : (storeS 75 (.pointer (some ⟨b, 0, none⟩)) (.agg tabM)).run Try.prog w = .ok () (setBlk w b tabM) :=
  storeS_run 16 (by decide) (by kernel_rfl) w b tabM rfl (by simp [tabM, fnT, Value.oneCell']) hs hf
theorem eqFn (n : Nat) (w : World) : (binOp .eql 74 (.func (.func n) #[] #[]) .nilFunc).run Try.prog w = .ok (.bool false) w := by kernel_rfl
theorem eqFn0 (w : World) : (binOp .eql 74 .nilFunc .nilFunc).run Try.prog w = .ok (.bool true) w := by kernel_rfl
theorem neFn (n : Nat) (w : World) : (binOp .neq 74 (.func (.func n) #[] #[]) .nilFunc).run Try.prog w = .ok (.bool true) w := by kernel_rfl
theorem neFn0 (w : World) : (binOp .neq 74 .nilFunc .nilFunc).run Try.prog w = .ok (.bool false) w := by kernel_rfl
attribute [local go_sem ↓] loadNat_is loadArr_is loadWide_is loadArrW_is storeNat_is storeWide_is
attribute [local go_sem] loadNat loadArr loadWide loadArrW storeNat storeWide idxArr fold9 fold18 nw_size nw_elem pre_self pre_1 pre_2 pre_3 pre_4 pre_5 pre_6 pre_7 pre_8 pre_9 pre_10 pre_11 pre_12 pre_13 pre_14 pre_15 pre_16 pre_17 pre_18 pre_19 pre_20 pre_21 pre_22 pre_23 pre_24 pre_25 pre_26 pre_27 pre_28 pre_29 pre_30 pre_31 pre_32 pre_33 pre_34 pre_35 pre_36 pre_37 pre_38 pre_39 pre_40 gro_size gro_drew gro_drewN drew_gro drewN_gro gro_gro blk_gro frz_gro blk_drew frz_drew blk_drewN frz_drewN blk_alloc_at frz_alloc_at blk_alloc frz_alloc cell_gro frozen_gro cell_alloc_pre frozen_alloc_pre setCell_drewN alloc_drewN setBlk_drew setBlk_drewN setBlk_alloc_at setBlk_alloc setBlk_gro setCell_gro setCell_alloc_pre size_setBlk size_setCell
attribute [local go_sem] ppre_1 ppre_2 ppre_3 ppre_4 ppre_5 ppre_6
attribute [local go_sem ↓] storeTm_is buildTm_is zvCu_is zvEq_is storeCu_is storeEq_is loadCu_is loadEq_is buildCu_is buildEq_is buildPn_is Go.wp_at_zero Go.wp_at_succ
attribute [local go_sem] buildTm storeTm tabM_size eqFn eqFn0 zvCu zvEq storeCu storeEq loadCu loadEq loadCN storeCP buildCu0 buildEq0 buildEq1 cu_size cu_N cu_setP cu_set0 cu_set56 cu_set57 cu_set58 frz_setBlk blk_setBlk setBlk_setBlk blk_other setCell_setBlk
set_option maxRecDepth 100000 in
set_option maxHeartbeats 400000 in
theorem table_any (w : World) : Calls Try.prog 38 #[] w fun e w' => e = .returned (.agg tabM) ∧ Gr w w' := by
  go_enter Try.func38, Try.ntmps38
  go_wp2
  refine bodyPost_ret (res_one Try.results38 (rd_cell (c := tabM) 16 Try.underlying75 rfl (by kernel_rfl) (by rfl) ?_ rfl)) rfl ⟨rfl, (by repeat (first | exact Gr.refl _ | apply Gr.drewN | apply Gr.drew | apply Gr.alloc | apply Gr.gro))⟩
  simp [go_sem]
set_option maxRecDepth 100000 in
set_option maxHeartbeats 1600000 in
theorem find_no (x : Int) (h : x < 1 ∨ 15 < x) (w : World) : Calls Try.prog 35 #[.int .i64 x] w fun e w' => e = .returned (.tuple #[.agg (cu 0 0 0 0 0 0 0 0 0 false), .bool false]) ∧ Gr w w' := by
  have HT : Hid (∀ w, Calls Try.prog 38 #[] w fun e w' => e = .returned (.agg tabM) ∧ Gr w w') := fun w => table_any w
  have t0 : tabM[0]? = some .nilFunc := rfl
  by_cases x0 : x < 0
  · clear h
    go_enter Try.func35, Try.ntmps35
    go_wp2_with (go_at_call 38; refine (HT.out _).mono ?_; rintro e w' ⟨rfl, g, rfl⟩)
    refine bodyPost_ret (res_two Try.results35 (rd_eq (by rfl) ?_) (rd_tmp (by rfl))) rfl ⟨rfl, (by repeat (first | exact Gr.refl _ | apply Gr.drewN | apply Gr.drew | apply Gr.alloc | apply Gr.gro))⟩
    simp [go_sem]
  · by_cases x1 : x = 0
    · subst x1
      clear h x0
      go_enter Try.func35, Try.ntmps35
      go_wp2_with (go_at_call 38; refine (HT.out _).mono ?_; rintro e w' ⟨rfl, g, rfl⟩)
      refine bodyPost_ret (res_two Try.results35 (rd_eq (by rfl) ?_) (rd_tmp (by rfl))) rfl ⟨rfl, (by repeat (first | exact Gr.refl _ | apply Gr.drewN | apply Gr.drew | apply Gr.alloc | apply Gr.gro))⟩
      simp [go_sem]
    · have x2 : 16 ≤ x := by omega
      have x3 : 0 ≤ x := by omega
      clear h x1
      go_enter Try.func35, Try.ntmps35
      go_wp2_with (go_at_call 38; refine (HT.out _).mono ?_; rintro e w' ⟨rfl, g, rfl⟩)
      refine bodyPost_ret (res_two Try.results35 (rd_eq (by rfl) ?_) (rd_tmp (by rfl))) rfl ⟨rfl, (by repeat (first | exact Gr.refl _ | apply Gr.drewN | apply Gr.drew | apply Gr.alloc | apply Gr.gro))⟩
      simp [go_sem]
attribute [local go_sem] cell_blk frz_at cu_0 cu_56 cu_57 cu_58
set_option maxRecDepth 100000 in
set_option maxHeartbeats 3200000 in
theorem find_of (i f P A B N X Y s t : Nat) (z : Int) (b1 b7 : Bool) (h1 : 1 ≤ i) (h2 : i ≤ 15) (hb1 : ((i : Int) == 1) = b1) (hb7 : ((i : Int) == 7) = b7) (ht : tabM[i]? = some (.func (.func f) #[] #[])) (hz : ((t : Int) + 7) / 8 = z) (hs : s ≤ 576) (ht6 : t ≤ 576)
    (hcf : ∀ w, (callFunc f #[.agg (nw 9 P)]).run Try.prog w = .ok (.enter f #[.agg (nw 9 P)]) w)
    (HO' : ∀ w, Calls Try.prog 47 #[.int .i64 (i : Int)] w fun e w' => e = .returned (.tuple #[.agg (nw 9 P), .bool true]) ∧ Gr w w')
    (HM' : ∀ w, Calls Try.prog f #[.agg (nw 9 P)] w fun e w' => e = .returned (.agg (cu 0 0 A B N X Y 0 0 false)) ∧ Gr w w')
    (HN' : ∀ w, Calls Try.prog 48 #[.agg (nw 9 N)] w fun e w' => e = .returned (.int .i64 (s : Int)) ∧ Gr w w')
    (HP' : ∀ w, Calls Try.prog 48 #[.agg (nw 9 P)] w fun e w' => e = .returned (.int .i64 (t : Int)) ∧ Gr w w') (w : World) :
    Calls Try.prog 35 #[.int .i64 (i : Int)] w fun e w' => e = .returned (.tuple #[.agg (cu i P A B N X Y s z (b1 || b7)), .bool true]) ∧ Gr w w' := by
  have HT : Hid (∀ w, Calls Try.prog 38 #[] w fun e w' => e = .returned (.agg tabM) ∧ Gr w w') := fun w => table_any w
  have HO : Hid (∀ w, Calls Try.prog 47 #[.int .i64 (i : Int)] w fun e w' => e = .returned (.tuple #[.agg (nw 9 P), .bool true]) ∧ Gr w w') := HO'
  have HM : Hid (∀ w, Calls Try.prog f #[.agg (nw 9 P)] w fun e w' => e = .returned (.agg (cu 0 0 A B N X Y 0 0 false)) ∧ Gr w w') := HM'
  have HN : Hid (∀ w, Calls Try.prog 48 #[.agg (nw 9 N)] w fun e w' => e = .returned (.int .i64 (s : Int)) ∧ Gr w w') := HN'
  have HP : Hid (∀ w, Calls Try.prog 48 #[.agg (nw 9 P)] w fun e w' => e = .returned (.int .i64 (t : Int)) ∧ Gr w w') := HP'
  have i0 : (0 : Int) ≤ (i : Int) := by omega
  have i1 : (i : Int) < 16 := by omega
  have HZ : Hid (Unit → ((t : Int) + 7) / 8 = z ∧ s ≤ 576 ∧ t ≤ 576) := fun _ => ⟨hz, hs, ht6⟩
  have HB : Hid (Unit → ((i : Int) == 1) = b1 ∧ ((i : Int) == 7) = b7) := fun _ => ⟨hb1, hb7⟩
  clear HO' HM' HN' HP' h1 h2 hz hs ht6 hb1 hb7
  go_enter Try.func35, Try.ntmps35
  go_upto_region 5 with (first
    | (go_at_call 38; refine (HT.out _).mono ?_; rintro e w' ⟨rfl, g1, rfl⟩)
    | (go_at_call 47; refine (HO.out _).mono ?_; rintro e w' ⟨rfl, g2, rfl⟩))
  obtain ⟨b4, hb4⟩ : ∃ b, w.heap.size + 1 + g1.os.length = b := ⟨_, rfl⟩
  simp only [hb4]
  obtain ⟨b5, hb5⟩ : ∃ b, b4 + 1 + g2.os.length = b := ⟨_, rfl⟩
  simp only [hb5]
  refine gen_w (fun v => Hid (Gr w v ∧ Vr v w.heap.size (cu 0 0 0 0 0 0 0 0 0 false) ∧ Vr v b4 tabM ∧ Vr v b5 (nw 9 P))) ?_ ?_
  · subst hb5 hb4
    exact ⟨(by repeat (first | exact Gr.refl _ | apply Gr.drewN | apply Gr.drew | apply Gr.alloc | apply Gr.gro)), ⟨by simp [go_sem], by simp [go_sem], by simp [go_sem]⟩, ⟨by simp [go_sem], by simp [go_sem], by simp [go_sem]⟩, ⟨by simp [go_sem], by simp [go_sem], by simp [go_sem]⟩⟩
  intro v0 HV
  obtain ⟨G, c2, c4, c5⟩ := HV.out
  have n5 : w.heap.size ≤ b5 := by omega
  have n2 : ¬ b5 = w.heap.size := by omega
  refine wp_region_qT (by kernel_rfl) (by kernel_rfl) 6 (by kernel_rfl) [.c (.int .i64 i), .c (.pointer (some ⟨b4, i, none⟩)), .c (.func (.func f) #[] #[]), .c (.agg (nw 9 P)), .c (.agg (cu 0 0 A B N X Y 0 0 false)), .v (v0.heap.size) (cu 0 0 0 0 0 0 0 0 0 false)] ?hs ?hf
  case hs =>
    intro listed vals a1 v io oo hg hR hF ho hi hd
    have H5 : blk v b5 = nw 9 P := (hg.blk _ c5.p).trans c5.h
    have H4 : blk v b4 = tabM := (hg.blk _ c4.p).trans c4.h
    obtain rfl | rfl | rfl | rfl | rfl | rfl : io = 0 ∨ io = 1 ∨ io = 2 ∨ io = 3 ∨ io = 4 ∨ io = 5 := by omega
    · obtain rfl := Option.some.inj ho
      have f0 := hF.old (s := 0) (v := .int .i64 i) (by kernel_rfl) rfl
      refine Or.inl ⟨wanted_no rfl, ?_⟩
      exact wp_val (.int .i64 i) (by simp [go_sem, f0]) ⟨_, rfl, Gr.refl _, rfl⟩
    · obtain rfl := Option.some.inj ho
      have f0 := hF.old (s := 4) (v := .pointer (some ⟨b4, 0, none⟩)) (by kernel_rfl) rfl
      have l1 := on_of hd 0 (by kernel_rfl)
      have f1 := hF.at (s := 27) (i := 0) (by kernel_rfl) (by simp) l1
      have e1 : vals 0 = .int .i64 i := hR 0 l1
      rw [e1] at f1
      refine Or.inl ⟨wanted_no rfl, ?_⟩
      exact wp_val (.pointer (some ⟨b4, i, none⟩)) (by simp [go_sem, f0, f1, i0, i1]) ⟨_, rfl, Gr.refl _, rfl⟩
    · obtain rfl := Option.some.inj ho
      have l0 := on_of hd 1 (by kernel_rfl)
      have f0 := hF.at (s := 28) (i := 1) (by kernel_rfl) (by simp) l0
      have e0 : vals 1 = .pointer (some ⟨b4, i, none⟩) := hR 1 l0
      rw [e0] at f0
      refine Or.inl ⟨wanted_no rfl, ?_⟩
      exact wp_val (.func (.func f) #[] #[]) (by simp [go_sem, f0, H4, ht]) ⟨_, rfl, Gr.refl _, rfl⟩
    · obtain rfl := Option.some.inj ho
      have f0 := hF.old (s := 5) (v := .pointer (some ⟨b5, 0, none⟩)) (by kernel_rfl) rfl
      refine Or.inl ⟨wanted_no rfl, ?_⟩
      exact wp_val (.agg (nw 9 P)) (by simp [go_sem, f0, H5]) ⟨_, rfl, Gr.refl _, rfl⟩
    · obtain rfl := Option.some.inj ho
      have l0 := on_of hd 2 (by kernel_rfl)
      have f0 := hF.at (s := 29) (i := 2) (by kernel_rfl) (by simp) l0
      have e0 : vals 2 = .func (.func f) #[] #[] := hR 2 l0
      rw [e0] at f0
      have l1 := on_of hd 3 (by kernel_rfl)
      have f1 := hF.at (s := 30) (i := 3) (by kernel_rfl) (by simp) l1
      have e1 : vals 3 = .agg (nw 9 P) := hR 3 l1
      rw [e1] at f1
      refine Or.inl ⟨wanted_no rfl, ?_⟩
      exact wp_retz (k := .c (.agg (cu 0 0 A B N X Y 0 0 false))) (by simp [go_sem, f0, f1, hcf]) (Rt.c (HM.out v)) (fun u w2 hu hg2 => ⟨_, rfl, hg2, hu⟩)
    · obtain rfl := Option.some.inj ho
      refine Or.inl ⟨wanted_no rfl, ?_⟩
      exact wp_val (.pointer (some ⟨v.heap.size, 0, none⟩)) (w' := v.alloc (.cells (cu 0 0 0 0 0 0 0 0 0 false) 29)) (by simp [go_sem]) ⟨_, rfl, (Gr.refl _).alloc _, v.heap.size, rfl, Nat.le_trans (Nat.le_refl _) hg.below.size, Vr.new _ _ _⟩
  case hf =>
    intro listed vals a1 v oo hg hR hF hall ho
    have H5 : blk v b5 = nw 9 P := (hg.blk _ c5.p).trans c5.h
    have H4 : blk v b4 = tabM := (hg.blk _ c4.p).trans c4.h
    obtain rfl := Option.some.inj ho
    have l105 := hall 5 (by decide)
    have f105 := hF.at (s := 7) (i := 5) (by kernel_rfl) (by simp) l105
    obtain ⟨b105, e105, N105, V105⟩ := (show ∃ b, vals 5 = Value.pointer (some ⟨b, 0, none⟩) ∧ (v0.heap.size) ≤ b ∧ Vr v b (cu 0 0 0 0 0 0 0 0 0 false) from hR 5 (by decide))
    rw [e105] at f105
    have l104 := hall 4 (by decide)
    have f104 := hF.at (s := 31) (i := 4) (by kernel_rfl) (by simp) l104
    have e104 : vals 4 = .agg (cu 0 0 A B N X Y 0 0 false) := hR 4 (by decide)
    rw [e104] at f104
    refine wp_skip (w' := setBlk v b105 (cu 0 0 A B N X Y 0 0 false)) (by simp [go_sem, f105, f104, V105.h, V105.f]) ⟨rfl, ?_⟩
    have e100 : vals 0 = .int .i64 i := hR 0 (by decide)
    have e101 : vals 1 = .pointer (some ⟨b4, i, none⟩) := hR 1 (by decide)
    have e102 : vals 2 = .func (.func f) #[] #[] := hR 2 (by decide)
    have e103 : vals 3 = .agg (nw 9 P) := hR 3 (by decide)
    simp only [putFrom, Act.put, List.setIfInBounds_toArray, List.set_cons_zero, List.set_cons_succ, e100, e101, e102, e103, e104, e105]
    clear hR hF hall e100 e101 e102 e103 e104 e105
    obtain ⟨G1, d2, d5⟩ : Gr w v ∧ Vr v w.heap.size (cu 0 0 0 0 0 0 0 0 0 false) ∧ Vr v b5 (nw 9 P) := ⟨G.trans hg, c2.gr hg, c5.gr hg⟩
    have m2 : b105 ≠ w.heap.size := by have : w.heap.size + 1 ≤ v0.heap.size := c2.p; have := N105; omega
    have m5 : b105 ≠ b5 := by have : b5 + 1 ≤ v0.heap.size := c5.p; have := N105; omega
    have m1 : w.heap.size ≤ b105 := by have : w.heap.size + 1 ≤ v0.heap.size := c2.p; have := N105; omega
    go_upto_region 6 with fail
    refine gen_w (fun u => Hid (Gr w u ∧ Vr u w.heap.size (cu 0 0 0 0 0 0 0 0 0 false) ∧ Vr u b5 (nw 9 P) ∧ Vr u b105 (cu 0 0 A B N X Y 0 0 false))) ⟨gr_setNew G1 m1, d2.other m2, d5.other m5, V105.set (by rw [cu_size]; decide) _⟩ ?_
    intro u0 HU
    clear HV G c2 c4 c5 n5 n2 V105 G1 d2 d5 N105 hg
    obtain ⟨G, ⟨h2, f2, p2⟩, ⟨h5, f5, p5⟩, ⟨h7, f7, p7⟩⟩ := HU.out
    have m3 : ¬ w.heap.size = b105 := fun h => m2 h.symm
    have z0 := (HZ.out ()).1
    have z1 : (s : Int) ≤ 576 := by have := HZ.out (); omega
    have z2 : (t : Int) ≤ 576 := by have := HZ.out (); omega
    have z3 : (0 : Int) ≤ (t : Int) := by omega
    have z4 : z ≤ 100 := by omega
    have z5 : 0 ≤ z := by omega
    obtain ⟨hb1, hb7⟩ := HB.out ()
    clear HU HT HO HM
    cases b1 <;> cases b7
    all_goals
      go_wp2_with (first
        | (go_at_call_of 48 (Value.agg (nw 9 N)); refine (HN.out _).mono ?_; rintro e w' ⟨rfl, g3, rfl⟩)
        | (go_at_call_of 48 (Value.agg (nw 9 P)); refine (HP.out _).mono ?_; rintro e w' ⟨rfl, g4, rfl⟩))
      refine bodyPost_ret (res_two Try.results35 (rd_eq (by rfl) ?_) (rd_tmp (by rfl))) rfl ⟨rfl, ?_⟩
      · simp [go_sem, *]
      · repeat (first | exact G | apply Gr.drewN | apply Gr.drew | apply Gr.alloc | apply Gr.gro | (refine gr_setNew ?_ (by omega)))

end Go.Proofs.Ytgmaalokfgdpaaa
namespace Go.Proofs.Ytgmaalokfgdpaaa
open Go.RowKit
theorem at_of {c : Array Value} {i : Nat} {v : Value} (e : c[i]? = some v) (h : i < c.size) : c[i] = v := by
  rw [Array.getElem?_eq_getElem h] at e
  exact Option.some.inj e
theorem eqNatIn (d x y : Nat) (w : World) : (Op.equalIn (d + 3) 25 (.agg (nw 9 x)) (.agg (nw 9 y))).run Try.prog w = .ok (eqN 9 x y) w := by
  have hf : Try.prog.underlying 25 = some (.struct (Try.prog.fieldsOf 25)) := by kernel_rfl
  rw [run_equalIn_struct w (d + 2) 25 _ _ hf (by kernel_rfl)]
  simp [go_sem, Op.eqFields, Program.fieldsOf, part, nw_extract]
  rw [eqArr d]
  cases eqN 9 x y <;> simp [Result.andThen]
section
variable (x y : Nat) (f : Bool) (x' y' : Nat) (f' : Bool)
theorem pnt_at18 (h : 18 < (pnt x y f).size) : (pnt x y f)[18]'h = .bool f := at_of (pnt_18 x y f) h
theorem eqPnIn (d : Nat) (w : World) : (Op.equalIn (d + 4) 27 (.agg (pnt x y f)) (.agg (pnt x' y' f'))).run Try.prog w = .ok (eqN 9 x x' && (eqN 9 y y' && (f == f'))) w := by
  have hf : Try.prog.underlying 27 = some (.struct (Try.prog.fieldsOf 27)) := by kernel_rfl
  rw [run_equalIn_struct w (d + 3) 27 _ _ hf (by kernel_rfl)]
  simp [go_sem, Op.eqFields, Program.fieldsOf, part, pnt_X, pnt_Y, pnt_size, pnt_at18, eqNatIn]
  cases eqN 9 x x' <;> cases eqN 9 y y' <;> cases f <;> cases f' <;> simp
theorem eqPn (w : World) : (binOp .eql 27 (.agg (pnt x y f)) (.agg (pnt x' y' f'))).run Try.prog w = .ok (.bool (eqN 9 x x' && (eqN 9 y y' && (f == f')))) w := by
  rw [run_eql_struct, show (10000 : Nat) = 9996 + 4 from rfl, eqPnIn]
  rfl
end
end Go.Proofs.Ytgmaalokfgdpaaa
