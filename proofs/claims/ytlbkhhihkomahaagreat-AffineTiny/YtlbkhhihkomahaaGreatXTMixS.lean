import Derived.Test.YtlbkhhihkomahaaGreatXTFB
import Derived.Test.YtlbkhhihkomahaaGreatXTNumO
import Derived.Test.YtlbkhhihkomahaaGreatXTRSub
import Derived.Test.YtlbkhhihkomahaaGreatXTEq
import Derived.Test.YtlbkhhihkomahaaGreatXTPC
import Derived.Test.YtlbkhhihkomahaaGreatXTAdd
import Derived.Test.YtlbkhhihkomahaaGreatXTQt
import Derived.Test.YtlbkhhihkomahaaGreatXTMixG
import Derived.Test.YtlbkhhihkomahaaGreatXTMixP
namespace Go.Proofs.YtlbkhhihkomahaaGreat
open Go.RowKit

/-- A number and its factor, as one of eighteen words. -/
def mvN (a f : Nat) : Nat := a + f * M
theorem mv_lo (a f : Nat) (ha : a < M) : nw 9 (mvN a f) = nw 9 a := by
  rw [← nw_mod (mvN a f) 9]
  refine congrArg (nw 9) ?_
  show (a + f * M) % M = a
  rw [Nat.add_mul_mod_self_right, Nat.mod_eq_of_lt ha]
theorem mv_hi (a f : Nat) (ha : a < M) : nw 9 (mvN a f / pw 9) = nw 9 f := by
  refine congrArg (nw 9) ?_
  show (a + f * M) / M = f
  rw [Nat.add_mul_div_right _ _ M_pos, Nat.div_eq_of_lt ha, Nat.zero_add]
theorem ext_lo (X : Nat) : (nw 18 X).extract 0 9 = nw 9 X := by
  apply Array.ext_getElem?
  intro j
  by_cases hj : j < 9
  · rw [nw_get 9 X j hj, Array.getElem?_extract, if_pos (by rw [nw_size]; omega), Nat.zero_add, nw_get 18 X j (by omega)]
  · rw [Array.getElem?_eq_none (by simp [nw_size]; omega), Array.getElem?_eq_none (by rw [nw_size]; omega)]
theorem wd_div (X k j : Nat) : wd (X / pw k) j = wd X (k + j) := by
  unfold wd
  rw [Nat.div_div_eq_div_mul, pw_add]
theorem ext_hi (X : Nat) : (nw 18 X).extract 9 18 = nw 9 (X / pw 9) := by
  apply Array.ext_getElem?
  intro j
  by_cases hj : j < 9
  · rw [nw_get 9 _ j hj, Array.getElem?_extract, if_pos (by rw [nw_size]; omega), nw_get 18 X (9 + j) (by omega), wd_div]
  · rw [Array.getElem?_eq_none (by simp [nw_size]; omega), Array.getElem?_eq_none (by rw [nw_size]; omega)]
theorem app_mv (a f : Nat) (ha : a < M) : nw 9 a ++ nw 9 f = nw 18 (mvN a f) := by
  have h := mv_lo a f ha
  have h2 := mv_hi a f ha
  rw [← ext_lo] at h
  rw [← ext_hi] at h2
  rw [← h, ← h2]
  have hs : (nw 18 (mvN a f)).size = 18 := nw_size 18 _
  rw [Array.extract_append_extract]
  have e : (nw 18 (mvN a f)).extract 0 (nw 18 (mvN a f)).size = nw 18 (mvN a f) := Array.extract_size
  rw [hs] at e
  simpa using e
/-! ### loads and stores -/
theorem loadMv_is (v : Value) : Instr.loadAt 167 v = loadS 167 v := rfl
theorem storeMv_is (p v : Value) : Instr.storeAt 167 p v = storeS 167 p v := rfl
theorem loadMv (w : World) (b : Nat) (hs : (blk w b).size = 18) : (loadS 167 (.pointer (some ⟨b, 0, none⟩))).run Tryz.prog w = .ok (.agg (blk w b)) w :=
  loadS_run 18 Tryz.underlying167 rfl (by kernel_rfl) w b hs
theorem storeMv (w : World) (b s : Nat) (hs : (blk w b).size = 18) (hf : frz w b = (0, 0)) : (storeS 167 (.pointer (some ⟨b, 0, none⟩)) (.agg (nw 18 s))).run Tryz.prog w = .ok () (setBlk w b (nw 18 s)) :=
  storeS_run 18 (by decide) (by kernel_rfl) w b (nw 18 s) (nw_size 18 s) (nw_one 18 s) hs hf
theorem part_range (w : World) (b o n : Nat) : w.rangeAt b o ((blk w b).extract o (o + n)).toList := fun j v hv => by
  rw [cell_blk]
  have h1 : ((blk w b).extract o (o + n))[j]? = some v := by rw [Array.getElem?_toList] at hv; exact hv
  rw [Array.getElem?_extract] at h1
  split at h1
  · exact h1
  · cases h1
theorem loadPart (w : World) (b o : Nat) (h : o + 9 ≤ (blk w b).size) : (loadS 25 (.pointer (some ⟨b, o, none⟩))).run Tryz.prog w = .ok (.agg ((blk w b).extract o (o + 9))) w := by
  have := run_loadVar_mid (P := Tryz.prog) w b o 25 ((blk w b).extract o (o + 9)).toList _ (part_range w b o 9) Tryz.underlying25 rfl (by
    have hi : (Tryz.prog.info? 25).map (·.size) = some 9 := by kernel_rfl
    rw [hi]
    simp
    omega)
  simp only [loadS, Instr.loadAt, Instr.sureAddr, Sem.run_bind, Sem.run_pure, Result.andThen_ok]
  rw [Array.toArray_toList] at this
  exact this
theorem loadLo (w : World) (b : Nat) (hs : (blk w b).size = 18) : (loadS 25 (.pointer (some ⟨b, 0, none⟩))).run Tryz.prog w = .ok (.agg ((blk w b).extract 0 9)) w := loadPart w b 0 (by omega)
theorem loadHi (w : World) (b : Nat) (hs : (blk w b).size = 18) : (loadS 25 (.pointer (some ⟨b, 9, none⟩))).run Tryz.prog w = .ok (.agg ((blk w b).extract 9 18)) w := loadPart w b 9 (by omega)
theorem buildMv_is (p : Array (Nat × Value)) : Instr.build 167 p = buildS 167 p := rfl
theorem buildMv2 (a f : Nat) (w : World) : (buildS 167 #[(0, .agg (nw 9 a)), (1, .agg (nw 9 f))]).run Tryz.prog w = .ok (.agg (nw 9 a ++ nw 9 f)) w := by
  kernel_rfl
theorem buildMv1 (a : Nat) (w : World) : (buildS 167 #[(0, .agg (nw 9 a))]).run Tryz.prog w = .ok (.agg (nw 9 a ++ nw 9 0)) w := by
  kernel_rfl
theorem rd_mv {tmps : Array Value} {t : Tmp} {w : World} {b x : Nat} (h : tmps.getD t undef = .pointer (some ⟨b, 0, none⟩)) (hc : blk w b = nw 18 x) : (readR tmps (.cell t 167)).run Tryz.prog w = .ok (.agg (nw 18 x)) w :=
  rd_cell 18 Tryz.underlying167 rfl (by kernel_rfl) h hc (nw_size 18 x)

end Go.Proofs.YtlbkhhihkomahaaGreat
namespace Go.Proofs.YtlbkhhihkomahaaGreat
open Go.RowKit

/-- A point's cells. -/
def pnt (x y : Nat) (f : Bool) : Array Value := nw 9 x ++ nw 9 y ++ #[.bool f]
/-- A curve's cells: its number, P, A, B, N, the base point, the bits, the bytes, whether it is a legacy. -/
def cu (id : Int) (p a b n x y : Nat) (s z : Int) (l : Bool) : Array Value := #[.int .i64 id] ++ nw 9 p ++ nw 9 a ++ nw 9 b ++ nw 9 n ++ pnt x y false ++ #[.int .i64 s, .int .i64 z, .bool l]
section
variable (id : Int) (p a b n x y : Nat) (s z : Int) (l : Bool)
theorem pnt_size (f : Bool) : (pnt x y f).size = 19 := by kernel_rfl
theorem cu_size : (cu id p a b n x y s z l).size = 59 := by kernel_rfl
theorem pnt_X (f : Bool) : (pnt x y f).extract 0 9 = nw 9 x := by kernel_rfl
theorem pnt_Y (f : Bool) : (pnt x y f).extract 9 18 = nw 9 y := by kernel_rfl
theorem pnt_18 (f : Bool) : (pnt x y f)[18]? = some (.bool f) := by kernel_rfl
theorem cu_P : (cu id p a b n x y s z l).extract 1 10 = nw 9 p := by kernel_rfl
theorem cu_A : (cu id p a b n x y s z l).extract 10 19 = nw 9 a := by kernel_rfl
theorem cu_B : (cu id p a b n x y s z l).extract 19 28 = nw 9 b := by kernel_rfl
theorem cu_N : (cu id p a b n x y s z l).extract 28 37 = nw 9 n := by kernel_rfl
theorem cu_G : (cu id p a b n x y s z l).extract 37 56 = pnt x y false := by kernel_rfl
theorem cu_X : (cu id p a b n x y s z l).extract 37 46 = nw 9 x := by kernel_rfl
theorem cu_Y : (cu id p a b n x y s z l).extract 46 55 = nw 9 y := by kernel_rfl
theorem cu_0 : (cu id p a b n x y s z l)[0]? = some (.int .i64 id) := by kernel_rfl
theorem cu_56 : (cu id p a b n x y s z l)[56]? = some (.int .i64 s) := by kernel_rfl
theorem cu_57 : (cu id p a b n x y s z l)[57]? = some (.int .i64 z) := by kernel_rfl
theorem cu_58 : (cu id p a b n x y s z l)[58]? = some (.bool l) := by kernel_rfl
theorem cu_set0 (v : Int) : (cu id p a b n x y s z l).setIfInBounds 0 (.int .i64 v) = cu v p a b n x y s z l := by kernel_rfl
theorem cu_set56 (v : Int) : (cu id p a b n x y s z l).setIfInBounds 56 (.int .i64 v) = cu id p a b n x y v z l := by kernel_rfl
theorem cu_set57 (v : Int) : (cu id p a b n x y s z l).setIfInBounds 57 (.int .i64 v) = cu id p a b n x y s v l := by kernel_rfl
theorem cu_set58 (v : Bool) : (cu id p a b n x y s z l).setIfInBounds 58 (.bool v) = cu id p a b n x y s z v := by kernel_rfl
theorem cu_setP (q : Nat) : setL (cu id p a b n x y s z l) 1 (nw 9 q).toList = cu id q a b n x y s z l := by kernel_rfl
theorem all_app (c d : Array Value) (h1 : c.all (·.oneCell') = true) (h2 : d.all (·.oneCell') = true) : (c ++ d).all (·.oneCell') = true := by
  rw [Array.all_append, h1, h2]; rfl
theorem pnt_one (f : Bool) : (pnt x y f).all (·.oneCell') = true := all_app _ _ (all_app _ _ (nw_one _ _) (nw_one _ _)) (by simp [Value.oneCell'])
theorem cu_one : (cu id p a b n x y s z l).all (·.oneCell') = true :=
  all_app _ _ (all_app _ _ (all_app _ _ (all_app _ _ (all_app _ _ (all_app _ _ (by simp [Value.oneCell']) (nw_one _ _)) (nw_one _ _)) (nw_one _ _)) (nw_one _ _)) (pnt_one x y false)) (by simp [Value.oneCell'])
end

/-! ### loads, stores, builds, zero values, kept shut -/
def zvS (ty : TypeId) : Sem Value := zeroValue ty
theorem loadCu_is (v : Value) : Instr.loadAt 54 v = loadS 54 v := rfl
theorem storeCu_is (p v : Value) : Instr.storeAt 54 p v = storeS 54 p v := rfl
theorem loadEq_is (v : Value) : Instr.loadAt 87 v = loadS 87 v := rfl
theorem storeEq_is (p v : Value) : Instr.storeAt 87 p v = storeS 87 p v := rfl
theorem loadPn_is (v : Value) : Instr.loadAt 27 v = loadS 27 v := rfl
theorem storePn_is (p v : Value) : Instr.storeAt 27 p v = storeS 27 p v := rfl
theorem zvCu_is : zeroValue 54 = zvS 54 := rfl
theorem zvEq_is : zeroValue 87 = zvS 87 := rfl
theorem zvPn_is : zeroValue 27 = zvS 27 := rfl
theorem zvCu (w : World) : (zvS 54).run Tryz.prog w = .ok (.agg (cu 0 0 0 0 0 0 0 0 0 false)) w := by kernel_rfl
theorem zvEq (w : World) : (zvS 87).run Tryz.prog w = .ok (.agg (cu 0 0 0 0 0 0 0 0 0 false)) w := by kernel_rfl
theorem zvPn (w : World) : (zvS 27).run Tryz.prog w = .ok (.agg (pnt 0 0 false)) w := by kernel_rfl
theorem buildCu_is (p : Array (Nat × Value)) : Instr.build 54 p = buildF 54 p := rfl
theorem buildEq_is (p : Array (Nat × Value)) : Instr.build 87 p = buildF 87 p := rfl
theorem buildPn_is (p : Array (Nat × Value)) : Instr.build 27 p = buildF 27 p := rfl
theorem buildCu0 (w : World) : (buildF 54 #[]).run Tryz.prog w = .ok (.agg (cu 0 0 0 0 0 0 0 0 0 false)) w := by kernel_rfl
theorem buildEq0 (w : World) : (buildF 87 #[]).run Tryz.prog w = .ok (.agg (cu 0 0 0 0 0 0 0 0 0 false)) w := by kernel_rfl
theorem buildCu4 (a b n x y : Nat) (w : World) : (buildF 54 #[(2, .agg (nw 9 a)), (3, .agg (nw 9 b)), (4, .agg (nw 9 n)), (5, .agg (pnt x y false))]).run Tryz.prog w = .ok (.agg (cu 0 0 a b n x y 0 0 false)) w := by kernel_rfl
theorem buildCu9 (id : Int) (p a b n x y : Nat) (s z : Int) (l : Bool) (w : World) : (buildF 54 #[(0, .int .i64 id), (1, .agg (nw 9 p)), (2, .agg (nw 9 a)), (3, .agg (nw 9 b)), (4, .agg (nw 9 n)), (5, .agg (pnt x y false)), (6, .int .i64 s), (7, .int .i64 z), (8, .bool l)]).run Tryz.prog w = .ok (.agg (cu id p a b n x y s z l)) w := by kernel_rfl
theorem buildEq1 (id : Int) (p a b n x y : Nat) (s z : Int) (l : Bool) (w : World) : (buildF 87 #[(0, .agg (cu id p a b n x y s z l))]).run Tryz.prog w = .ok (.agg (cu id p a b n x y s z l)) w := by kernel_rfl
theorem buildPn2 (x y : Nat) (w : World) : (buildF 27 #[(0, .agg (nw 9 x)), (1, .agg (nw 9 y))]).run Tryz.prog w = .ok (.agg (pnt x y false)) w := by kernel_rfl
theorem buildPn3 (x y : Nat) (f : Bool) (w : World) : (buildF 27 #[(0, .agg (nw 9 x)), (1, .agg (nw 9 y)), (2, .bool f)]).run Tryz.prog w = .ok (.agg (pnt x y f)) w := by kernel_rfl
theorem buildPnI (f : Bool) (w : World) : (buildF 27 #[(2, .bool f)]).run Tryz.prog w = .ok (.agg (pnt 0 0 f)) w := by kernel_rfl
theorem loadCu (w : World) (b : Nat) (hs : (blk w b).size = 59) : (loadS 54 (.pointer (some ⟨b, 0, none⟩))).run Tryz.prog w = .ok (.agg (blk w b)) w :=
  loadS_run 59 Tryz.underlying54 rfl (by kernel_rfl) w b hs
theorem loadEq (w : World) (b : Nat) (hs : (blk w b).size = 59) : (loadS 87 (.pointer (some ⟨b, 0, none⟩))).run Tryz.prog w = .ok (.agg (blk w b)) w :=
  loadS_run 59 Tryz.underlying87 rfl (by kernel_rfl) w b hs
theorem loadPn (w : World) (b : Nat) (hs : (blk w b).size = 19) : (loadS 27 (.pointer (some ⟨b, 0, none⟩))).run Tryz.prog w = .ok (.agg (blk w b)) w :=
  loadS_run 19 Tryz.underlying27 rfl (by kernel_rfl) w b hs
theorem loadPartP (w : World) (b o : Nat) (h : o + 19 ≤ (blk w b).size) : (loadS 27 (.pointer (some ⟨b, o, none⟩))).run Tryz.prog w = .ok (.agg ((blk w b).extract o (o + 19))) w := by
  have := run_loadVar_mid (P := Tryz.prog) w b o 27 ((blk w b).extract o (o + 19)).toList _ (part_range w b o 19) Tryz.underlying27 rfl (by
    have hi : (Tryz.prog.info? 27).map (·.size) = some 19 := by kernel_rfl
    rw [hi]
    simp
    omega)
  simp only [loadS, Instr.loadAt, Instr.sureAddr, Sem.run_bind, Sem.run_pure, Result.andThen_ok]
  rw [Array.toArray_toList] at this
  exact this
theorem loadCP (w : World) (b : Nat) (hs : (blk w b).size = 59) : (loadS 25 (.pointer (some ⟨b, 1, none⟩))).run Tryz.prog w = .ok (.agg ((blk w b).extract 1 10)) w := loadPart w b 1 (by omega)
theorem loadCA (w : World) (b : Nat) (hs : (blk w b).size = 59) : (loadS 25 (.pointer (some ⟨b, 10, none⟩))).run Tryz.prog w = .ok (.agg ((blk w b).extract 10 19)) w := loadPart w b 10 (by omega)
theorem loadCB (w : World) (b : Nat) (hs : (blk w b).size = 59) : (loadS 25 (.pointer (some ⟨b, 19, none⟩))).run Tryz.prog w = .ok (.agg ((blk w b).extract 19 28)) w := loadPart w b 19 (by omega)
theorem loadCN (w : World) (b : Nat) (hs : (blk w b).size = 59) : (loadS 25 (.pointer (some ⟨b, 28, none⟩))).run Tryz.prog w = .ok (.agg ((blk w b).extract 28 37)) w := loadPart w b 28 (by omega)
theorem loadCX (w : World) (b : Nat) (hs : (blk w b).size = 59) : (loadS 25 (.pointer (some ⟨b, 37, none⟩))).run Tryz.prog w = .ok (.agg ((blk w b).extract 37 46)) w := loadPart w b 37 (by omega)
theorem loadCY (w : World) (b : Nat) (hs : (blk w b).size = 59) : (loadS 25 (.pointer (some ⟨b, 46, none⟩))).run Tryz.prog w = .ok (.agg ((blk w b).extract 46 55)) w := loadPart w b 46 (by omega)
theorem loadCG (w : World) (b : Nat) (hs : (blk w b).size = 59) : (loadS 27 (.pointer (some ⟨b, 37, none⟩))).run Tryz.prog w = .ok (.agg ((blk w b).extract 37 56)) w := loadPartP w b 37 (by omega)
theorem loadPX (w : World) (b : Nat) (hs : (blk w b).size = 19) : (loadS 25 (.pointer (some ⟨b, 0, none⟩))).run Tryz.prog w = .ok (.agg ((blk w b).extract 0 9)) w := loadPart w b 0 (by omega)
theorem loadPY (w : World) (b : Nat) (hs : (blk w b).size = 19) : (loadS 25 (.pointer (some ⟨b, 9, none⟩))).run Tryz.prog w = .ok (.agg ((blk w b).extract 9 18)) w := loadPart w b 9 (by omega)
theorem storeCu (w : World) (b : Nat) (id : Int) (p a bb n x y : Nat) (s z : Int) (l : Bool) (hs : (blk w b).size = 59) (hf : frz w b = (0, 0)) : (storeS 54 (.pointer (some ⟨b, 0, none⟩)) (.agg (cu id p a bb n x y s z l))).run Tryz.prog w = .ok () (setBlk w b (cu id p a bb n x y s z l)) :=
  storeS_run 59 (by decide) (by kernel_rfl) w b _ (cu_size id p a bb n x y s z l) (cu_one id p a bb n x y s z l) hs hf
theorem storeEq (w : World) (b : Nat) (id : Int) (p a bb n x y : Nat) (s z : Int) (l : Bool) (hs : (blk w b).size = 59) (hf : frz w b = (0, 0)) : (storeS 87 (.pointer (some ⟨b, 0, none⟩)) (.agg (cu id p a bb n x y s z l))).run Tryz.prog w = .ok () (setBlk w b (cu id p a bb n x y s z l)) :=
  storeS_run 59 (by decide) (by kernel_rfl) w b _ (cu_size id p a bb n x y s z l) (cu_one id p a bb n x y s z l) hs hf
theorem storePn (w : World) (b x y : Nat) (f : Bool) (hs : (blk w b).size = 19) (hf : frz w b = (0, 0)) : (storeS 27 (.pointer (some ⟨b, 0, none⟩)) (.agg (pnt x y f))).run Tryz.prog w = .ok () (setBlk w b (pnt x y f)) :=
  storeS_run 19 (by decide) (by kernel_rfl) w b _ (pnt_size x y f) (pnt_one x y f) hs hf
theorem frz_at (w : World) (b i : Nat) (hf : frz w b = (0, 0)) : w.frozen? ⟨b, i, none⟩ = false := by
  unfold frz at hf
  unfold World.frozen?
  split <;> simp_all
theorem storeCP (w : World) (b q : Nat) (hs : (blk w b).size = 59) (hf : frz w b = (0, 0)) : (storeS 25 (.pointer (some ⟨b, 1, none⟩)) (.agg (nw 9 q))).run Tryz.prog w = .ok () (setBlk w b (setL (blk w b) 1 (nw 9 q).toList)) := by
  have ht : w.there b 1 (nw 9 q).size := fun j hj => by
    rw [nw_size] at hj
    exact ⟨by rw [cell_blk, Array.getElem?_eq_getElem (by omega)]; rfl, frz_at w b _ hf⟩
  simp only [storeS, Instr.storeAt, Instr.sureAddr, Sem.run_bind, Sem.run_pure, Result.andThen_ok]
  rw [run_storeVar_mid w b 1 25 (nw 9 q) ht (by kernel_rfl) (nw_one 9 q), setCells_setBlk _ _ _ _ (by omega)]
theorem rd_cu {tmps : Array Value} {t : Tmp} {w : World} {b : Nat} {id : Int} {p a bb n x y : Nat} {s z : Int} {l : Bool} (h : tmps.getD t undef = .pointer (some ⟨b, 0, none⟩)) (hc : blk w b = cu id p a bb n x y s z l) : (readR tmps (.cell t 54)).run Tryz.prog w = .ok (.agg (cu id p a bb n x y s z l)) w :=
  rd_cell 59 Tryz.underlying54 rfl (by kernel_rfl) h hc (cu_size id p a bb n x y s z l)
theorem rd_eq {tmps : Array Value} {t : Tmp} {w : World} {b : Nat} {id : Int} {p a bb n x y : Nat} {s z : Int} {l : Bool} (h : tmps.getD t undef = .pointer (some ⟨b, 0, none⟩)) (hc : blk w b = cu id p a bb n x y s z l) : (readR tmps (.cell t 87)).run Tryz.prog w = .ok (.agg (cu id p a bb n x y s z l)) w :=
  rd_cell 59 Tryz.underlying87 rfl (by kernel_rfl) h hc (cu_size id p a bb n x y s z l)
theorem rd_pn {tmps : Array Value} {t : Tmp} {w : World} {b x y : Nat} {f : Bool} (h : tmps.getD t undef = .pointer (some ⟨b, 0, none⟩)) (hc : blk w b = pnt x y f) : (readR tmps (.cell t 27)).run Tryz.prog w = .ok (.agg (pnt x y f)) w :=
  rd_cell 19 Tryz.underlying27 rfl (by kernel_rfl) h hc (pnt_size x y f)

/-- A variable that holds these cells. -/
structure Vr (v : World) (b : Nat) (c : Array Value) : Prop where
  h : blk v b = c
  f : frz v b = (0, 0)
  p : Pre (b + 1) v.heap.size
theorem Vr.gr {v v' : World} {b : Nat} {c : Array Value} (h : Vr v b c) (k : Gr v v') : Vr v' b c :=
  ⟨by rw [k.blk _ h.p]; exact h.h, by rw [k.frz _ h.p]; exact h.f, Nat.le_trans h.p k.below.size⟩
theorem Vr.set {v : World} {b : Nat} {c : Array Value} (h : Vr v b c) (hc : 0 < c.size) (d : Array Value) : Vr (setBlk v b d) b d :=
  ⟨blk_setBlk _ _ _ (by rw [h.h]; exact hc), by rw [frz_setBlk]; exact h.f, by rw [size_setBlk]; exact h.p⟩
theorem Vr.other {v : World} {b k : Nat} {c d : Array Value} (h : Vr v b c) (n : k ≠ b) : Vr (setBlk v k d) b c :=
  ⟨by rw [blk_other _ _ _ _ n]; exact h.h, by rw [frz_setBlk]; exact h.f, by rw [size_setBlk]; exact h.p⟩
theorem Vr.cell {v : World} {b : Nat} {c : Array Value} (h : Vr v b c) (i : Nat) : v.cell? ⟨b, i, none⟩ = c[i]? := by rw [cell_blk, h.h]
/-- It lies below whatever is laid later. -/
theorem Vr.pp {v : World} {b : Nat} {c : Array Value} (h : Vr v b c) : (∀ k, Pre (b + 1) (v.heap.size + k)) ∧ (∀ k l, Pre (b + 1) (v.heap.size + k + l)) ∧ (∀ k l i, Pre (b + 1) (v.heap.size + k + l + i)) ∧ (∀ k l i j, Pre (b + 1) (v.heap.size + k + l + i + j)) ∧ (∀ k l i j m, Pre (b + 1) (v.heap.size + k + l + i + j + m)) ∧ (∀ k l i j m n, Pre (b + 1) (v.heap.size + k + l + i + j + m + n)) := by
  have : b + 1 ≤ v.heap.size := h.p
  simp only [Pre]
  refine ⟨?_, ?_, ?_, ?_, ?_, ?_⟩ <;> intros <;> omega
theorem Vr.new (w : World) (c : Array Value) (t : TypeId) : Vr (w.alloc (.cells c t)) w.heap.size c :=
  ⟨blk_alloc_at _ _ _ _ _ rfl, frz_alloc_at _ _ _ _ _ rfl, by simp [Pre]⟩

end Go.Proofs.YtlbkhhihkomahaaGreat
namespace Go.Proofs.YtlbkhhihkomahaaGreat
open Go.RowKit
attribute [local go_sem ↓] loadNat_is loadArr_is loadWide_is loadArrW_is storeNat_is storeWide_is
attribute [local go_sem] loadNat loadArr loadWide loadArrW storeNat storeWide idxArr fold9 fold18 nw_size nw_elem pre_self pre_1 pre_2 pre_3 pre_4 pre_5 pre_6 pre_7 pre_8 pre_9 pre_10 pre_11 pre_12 pre_13 pre_14 pre_15 pre_16 pre_17 pre_18 pre_19 pre_20 pre_21 pre_22 pre_23 pre_24 pre_25 pre_26 pre_27 pre_28 pre_29 pre_30 pre_31 pre_32 pre_33 pre_34 pre_35 pre_36 pre_37 pre_38 pre_39 pre_40 gro_size gro_drew gro_drewN drew_gro drewN_gro gro_gro blk_gro frz_gro blk_drew frz_drew blk_drewN frz_drewN blk_alloc_at frz_alloc_at blk_alloc frz_alloc cell_gro frozen_gro cell_alloc_pre frozen_alloc_pre setCell_drewN alloc_drewN setBlk_drew setBlk_drewN setBlk_alloc_at setBlk_alloc setBlk_gro setCell_gro setCell_alloc_pre size_setBlk size_setCell
attribute [local go_sem ↓] loadDv_is load19_is storeDv_is store19_is copy_is
attribute [local go_sem] idx18 loadDv load19 storeDv store19 dv_size dv_9 dv_10 dv_e9 dv_e10 dv_elem fold11 fold19 setCell_in cell_in frozen_in frz_setBlk blk_setBlk setBlk_setBlk copy_run cpA_nw ones_nw

attribute [local go_sem ↓] loadMv_is storeMv_is buildMv_is
attribute [local go_sem] loadMv storeMv loadLo loadHi ext_lo ext_hi buildMv2 buildMv1

attribute [local go_sem ↓] Go.wp_at_zero Go.wp_at_succ
attribute [local go_sem] blk_other
set_option maxRecDepth 100000 in
set_option maxHeartbeats 2400000 in
theorem less_any (xv xf ov tf : Nat) (hx : xv < M) (hxf : xf < M) (h0 : 0 < ov) (ho : ov < M) (htf : tf < M) (hF : xf + xv / ov * tf < M) (w : World) :
    Calls Tryz.prog 138 #[.agg (nw 18 (mvN xv xf)), .agg (nw 18 (mvN ov tf))] w fun e w' => e = .returned (.agg (nw 18 (mvN (xv % ov) (xf + xv / ov * tf)))) ∧ Gr w w' := by
  obtain ⟨D, n, u, hd, hD⟩ := divisorOf_any ov h0 ho
  have HD : Hid (∀ w, Calls Tryz.prog 126 #[.agg (nw 9 ov)] w fun e w' => e = .returned (.agg (dv D (n + 1) u)) ∧ Gr w w') := hD
  have HW : Hid (∀ w, Calls Tryz.prog 130 #[.agg (nw 9 xv)] w fun e w' => e = .returned (.agg (nw 18 xv)) ∧ Gr w w') := fun w => widen_any xv hx w
  have hs := fun w => splitD xv ov D n u hd (lt18 xv hx) w
  have hl := fun w => lowHalf_any (xv / ov) w
  have hqM := div_lt xv ov hx
  rw [Nat.mod_eq_of_lt hqM] at hl
  have hrM : xv % ov < M := Nat.lt_trans (Nat.mod_lt _ h0) ho
  have hm := fun w => mul_any (xv / ov) tf hqM htf w
  have hTM : xv / ov * tf < M := by omega
  have hl2 := fun w => lowHalf_any (xv / ov * tf) w
  rw [Nat.mod_eq_of_lt hTM] at hl2
  have ha := fun w => add_any xf (xv / ov * tf) hxf hTM w
  rw [Nat.mod_eq_of_lt hF, decide_eq_false (by omega)] at ha
  obtain ⟨q, hq⟩ : ∃ q, xv / ov = q := ⟨_, rfl⟩
  obtain ⟨rr, hr⟩ : ∃ r, xv % ov = r := ⟨_, rfl⟩
  rw [hq, hr] at hs ⊢
  rw [hr] at hrM
  rw [hq] at hl hm hl2 ha
  obtain ⟨T, hT⟩ : ∃ T, q * tf = T := ⟨_, rfl⟩
  rw [hT] at hm hl2 ha ⊢
  obtain ⟨F, hF'⟩ : ∃ F, xf + T = F := ⟨_, rfl⟩
  rw [hF'] at ha ⊢
  have HS : Hid (∀ w, Calls Tryz.prog 137 #[.agg (dv D (n + 1) u), .agg (nw 18 xv)] w fun e w' => e = .returned (.tuple #[.agg (nw 18 q), .agg (nw 9 rr)]) ∧ Gr w w') := hs
  have HL : Hid (∀ w, Calls Tryz.prog 144 #[.agg (nw 18 q)] w fun e w' => e = .returned (.agg (nw 9 q)) ∧ Gr w w') := hl
  have HM : Hid (∀ w, Calls Tryz.prog 117 #[.agg (nw 9 q), .agg (nw 9 tf)] w fun e w' => e = .returned (.agg (nw 18 T)) ∧ Gr w w') := hm
  have HL2 : Hid (∀ w, Calls Tryz.prog 144 #[.agg (nw 18 T)] w fun e w' => e = .returned (.agg (nw 9 T)) ∧ Gr w w') := hl2
  have HA : Hid (∀ w, Calls Tryz.prog 115 #[.agg (nw 9 xf), .agg (nw 9 T)] w fun e w' => e = .returned (.tuple #[.agg (nw 9 F), .bool false]) ∧ Gr w w') := ha
  obtain ⟨X, hX⟩ : ∃ X, mvN xv xf = X := ⟨_, rfl⟩
  obtain ⟨O, hO⟩ : ∃ O, mvN ov tf = O := ⟨_, rfl⟩
  have x1 := mv_lo xv xf hx
  have x2 := mv_hi xv xf hx
  have o1 := mv_lo ov tf ho
  have o2 := mv_hi ov tf ho
  rw [hX] at x1 x2 ⊢
  rw [hO] at o1 o2 ⊢
  have HX1 : Hid (Unit → nw 9 X = nw 9 xv) := fun _ => x1
  have HX2 : Hid (Unit → nw 9 (X / pw 9) = nw 9 xf) := fun _ => x2
  have HO1 : Hid (Unit → nw 9 O = nw 9 ov) := fun _ => o1
  have HO2 : Hid (Unit → nw 9 (O / pw 9) = nw 9 tf) := fun _ => o2
  have hap := app_mv rr F hrM
  obtain ⟨Z, hZ⟩ : ∃ Z, mvN rr F = Z := ⟨_, rfl⟩
  rw [hZ] at hap ⊢
  clear hx hxf h0 ho htf hF hd hD hs hl hqM hrM hm hTM hl2 ha hq hr hT hF' hX hO x1 x2 o1 o2 hZ
  go_enter Tryz.func138, Tryz.ntmps138
  go_wp2_with fail
  refine wp_region_mix (by kernel_rfl) (by kernel_rfl) (RG _ (fun i => match i with | 0 => some (.pointer (some ⟨w.heap.size + 1, 0, none⟩)) | 1 => some (.agg (nw 9 ov)) | 2 => some (.agg (dv D (n + 1) u)) | 3 => some (.pointer (some ⟨w.heap.size, 0, none⟩)) | 4 => some (.agg (nw 9 xv)) | 5 => some (.agg (nw 18 xv)) | 6 => some (.tuple #[.agg (nw 18 q), .agg (nw 9 rr)]) | 7 => some (.tuple #[.agg (nw 18 q), .agg (nw 9 rr)]) | 8 => some (.agg (nw 18 q)) | 9 => some (.agg (nw 9 rr)) | _ => none) (fun i => match i with | 10 => some (nw 18 0) | 11 => some (nw 9 0) | _ => none) (fun i => match i with | 10 => some (12, nw 18 q) | 11 => some (13, nw 9 rr) | _ => none)) (RG.start _ _ _ _ _ _) ?hs ?hf
  case hs =>
    intro listed vals a1 v1 i o hz hR hF ho hl hd
    have hks : ∀ (j k : Nat) (r : Array Value), (match j with | 10 => some (12, nw 18 q) | 11 => some (13, nw 9 rr) | _ => (none : Option (Nat × Array Value))) = some (k, r) → (j = 10 ∧ k = 12) ∨ (j = 11 ∧ k = 13) := fun j k r h => by
      split at h <;> simp_all
    have hbo : blk v1 (w.heap.size + 1) = nw 18 O := (blk_of _ _ _ (hR.1.below.block (w.heap.size + 1) (by simp [go_sem] <;> omega))).trans (by simp [go_sem])
    have hbx : blk v1 (w.heap.size) = nw 18 X := (blk_of _ _ _ (hR.1.below.block (w.heap.size) (by simp [go_sem] <;> omega))).trans (by simp [go_sem])
    have hbz : blk v1 (w.heap.size + 1 + 1) = nw 18 0 := (blk_of _ _ _ (hR.1.below.block (w.heap.size + 1 + 1) (by simp [go_sem] <;> omega))).trans (by simp [go_sem])
    have hi : i < 14 := by simpa using (Array.getElem?_eq_some_iff.1 ho).1
    have hil : i < listed.size := by rw [hz]; simpa using hi
    obtain rfl | rfl | rfl | rfl | rfl | rfl | rfl | rfl | rfl | rfl | rfl | rfl | rfl | rfl : i = 0 ∨ i = 1 ∨ i = 2 ∨ i = 3 ∨ i = 4 ∨ i = 5 ∨ i = 6 ∨ i = 7 ∨ i = 8 ∨ i = 9 ∨ i = 10 ∨ i = 11 ∨ i = 12 ∨ i = 13 := by omega
    · obtain rfl := Option.some.inj ho
      have f0 := hF.old (s := 3) (v := .pointer (some ⟨w.heap.size + 1, 0, none⟩)) (by kernel_rfl) rfl
      exact wp_val (.pointer (some ⟨w.heap.size + 1, 0, none⟩)) (by simp [go_sem, f0]) ⟨_, rfl, RG.quiet 0 _ hil rfl rfl (fun j k r h => by have := hks j k r h; omega) (Gr.refl _) hR⟩
    · obtain rfl := Option.some.inj ho
      have l0 := hd ⟨0, .data⟩ (by simp) rfl
      have f0 := hF.at (s := 11) (i := 0) (by kernel_rfl) (by simp) l0
      rw [hR.2.1 0 _ l0 rfl] at f0
      exact wp_val (.agg (nw 9 ov)) (by simp [go_sem, f0, hbo, HO1.out ()]) ⟨_, rfl, RG.quiet 1 _ hil rfl rfl (fun j k r h => by have := hks j k r h; omega) (Gr.refl _) hR⟩
    · obtain rfl := Option.some.inj ho
      have l0 := hd ⟨1, .data⟩ (by simp) rfl
      have f0 := hF.at (s := 12) (i := 1) (by kernel_rfl) (by simp) l0
      rw [hR.2.1 1 _ l0 rfl] at f0
      exact wp_ret (.agg (dv D (n + 1) u)) (by simp [go_sem, f0]) (HD.out _) (fun w2 hg => ⟨_, rfl, RG.quiet 2 _ hil rfl rfl (fun j k r h => by have := hks j k r h; omega) hg hR⟩)
    · obtain rfl := Option.some.inj ho
      have f0 := hF.old (s := 2) (v := .pointer (some ⟨w.heap.size, 0, none⟩)) (by kernel_rfl) rfl
      exact wp_val (.pointer (some ⟨w.heap.size, 0, none⟩)) (by simp [go_sem, f0]) ⟨_, rfl, RG.quiet 3 _ hil rfl rfl (fun j k r h => by have := hks j k r h; omega) (Gr.refl _) hR⟩
    · obtain rfl := Option.some.inj ho
      have l0 := hd ⟨3, .data⟩ (by simp) rfl
      have f0 := hF.at (s := 14) (i := 3) (by kernel_rfl) (by simp) l0
      rw [hR.2.1 3 _ l0 rfl] at f0
      exact wp_val (.agg (nw 9 xv)) (by simp [go_sem, f0, hbx, HX1.out ()]) ⟨_, rfl, RG.quiet 4 _ hil rfl rfl (fun j k r h => by have := hks j k r h; omega) (Gr.refl _) hR⟩
    · obtain rfl := Option.some.inj ho
      have l0 := hd ⟨4, .data⟩ (by simp) rfl
      have f0 := hF.at (s := 15) (i := 4) (by kernel_rfl) (by simp) l0
      rw [hR.2.1 4 _ l0 rfl] at f0
      exact wp_ret (.agg (nw 18 xv)) (by simp [go_sem, f0]) (HW.out _) (fun w2 hg => ⟨_, rfl, RG.quiet 5 _ hil rfl rfl (fun j k r h => by have := hks j k r h; omega) hg hR⟩)
    · obtain rfl := Option.some.inj ho
      have l0 := hd ⟨2, .data⟩ (by simp) rfl
      have f0 := hF.at (s := 13) (i := 2) (by kernel_rfl) (by simp) l0
      rw [hR.2.1 2 _ l0 rfl] at f0
      have l1 := hd ⟨5, .data⟩ (by simp) rfl
      have f1 := hF.at (s := 16) (i := 5) (by kernel_rfl) (by simp) l1
      rw [hR.2.1 5 _ l1 rfl] at f1
      exact wp_ret (.tuple #[.agg (nw 18 q), .agg (nw 9 rr)]) (by simp [go_sem, f0, f1]) (HS.out _) (fun w2 hg => ⟨_, rfl, RG.quiet 6 _ hil rfl rfl (fun j k r h => by have := hks j k r h; omega) hg hR⟩)
    · obtain rfl := Option.some.inj ho
      have l0 := hd ⟨6, .data⟩ (by simp) rfl
      have f0 := hF.at (s := 17) (i := 6) (by kernel_rfl) (by simp) l0
      rw [hR.2.1 6 _ l0 rfl] at f0
      exact wp_val (.tuple #[.agg (nw 18 q), .agg (nw 9 rr)]) (by simp [go_sem, f0]) ⟨_, rfl, RG.quiet 7 _ hil rfl rfl (fun j k r h => by have := hks j k r h; omega) (Gr.refl _) hR⟩
    · obtain rfl := Option.some.inj ho
      have l0 := hd ⟨7, .data⟩ (by simp) rfl
      have f0 := hF.at (s := 10) (i := 7) (by kernel_rfl) (by simp) l0
      rw [hR.2.1 7 _ l0 rfl] at f0
      exact wp_val (.agg (nw 18 q)) (by simp [go_sem, f0]) ⟨_, rfl, RG.quiet 8 _ hil rfl rfl (fun j k r h => by have := hks j k r h; omega) (Gr.refl _) hR⟩
    · obtain rfl := Option.some.inj ho
      have l0 := hd ⟨7, .data⟩ (by simp) rfl
      have f0 := hF.at (s := 10) (i := 7) (by kernel_rfl) (by simp) l0
      rw [hR.2.1 7 _ l0 rfl] at f0
      exact wp_val (.agg (nw 9 rr)) (by simp [go_sem, f0]) ⟨_, rfl, RG.quiet 9 _ hil rfl rfl (fun j k r h => by have := hks j k r h; omega) (Gr.refl _) hR⟩
    · obtain rfl := Option.some.inj ho
      exact wp_val (.pointer (some ⟨v1.heap.size, 0, none⟩)) (w' := v1.alloc (.cells (nw 18 0) 146)) (by simp [go_sem]) ⟨_, rfl, RG.alloc 10 (nw 18 0) 146 hil hl rfl rfl (fun j k r h => by have := hks j k r h; omega) hR⟩
    · obtain rfl := Option.some.inj ho
      exact wp_val (.pointer (some ⟨v1.heap.size, 0, none⟩)) (w' := v1.alloc (.cells (nw 9 0) 25)) (by simp [go_sem]) ⟨_, rfl, RG.alloc 11 (nw 9 0) 25 hil hl rfl rfl (fun j k r h => by have := hks j k r h; omega) hR⟩
    · obtain rfl := Option.some.inj ho
      have l0 := hd ⟨10, .data⟩ (by simp) rfl
      have l1 := hd ⟨8, .data⟩ (by simp) rfl
      obtain ⟨B, h4, h5⟩ := hR.2.2.2
      obtain ⟨e1, e2, e3, e4, e5⟩ := h4 10 (nw 18 0) l0 rfl
      simp only [hl] at e5
      replace e5 : blk v1 (B 10) = nw 18 0 := e5
      have f0 := hF.at (s := 5) (i := 10) (by kernel_rfl) (by simp) l0
      rw [e1] at f0
      have f1 := hF.at (s := 18) (i := 8) (by kernel_rfl) (by simp) l1
      rw [hR.2.1 8 _ l1 rfl] at f1
      exact wp_skip (w' := setBlk v1 (B 10) (nw 18 q)) (by simp [go_sem, f0, f1, e4, e5]) ⟨undef, rfl, RG.store 12 10 (nw 18 0) (nw 18 q) (B 10) hil hl rfl rfl rfl l0 rfl (by rw [nw_size]; decide) e1 (fun k r h => by have := hks k _ r h; omega) hR⟩
    · obtain rfl := Option.some.inj ho
      have l0 := hd ⟨11, .data⟩ (by simp) rfl
      have l1 := hd ⟨9, .data⟩ (by simp) rfl
      obtain ⟨B, h4, h5⟩ := hR.2.2.2
      obtain ⟨e1, e2, e3, e4, e5⟩ := h4 11 (nw 9 0) l0 rfl
      simp only [hl] at e5
      replace e5 : blk v1 (B 11) = nw 9 0 := e5
      have f0 := hF.at (s := 6) (i := 11) (by kernel_rfl) (by simp) l0
      rw [e1] at f0
      have f1 := hF.at (s := 19) (i := 9) (by kernel_rfl) (by simp) l1
      rw [hR.2.1 9 _ l1 rfl] at f1
      exact wp_skip (w' := setBlk v1 (B 11) (nw 9 rr)) (by simp [go_sem, f0, f1, e4, e5]) ⟨undef, rfl, RG.store 13 11 (nw 9 0) (nw 9 rr) (B 11) hil hl rfl rfl rfl l0 rfl (by rw [nw_size]; decide) e1 (fun k r h => by have := hks k _ r h; omega) hR⟩
  case hf =>
    intro listed vals a1 v1 hall hR hF
    have hbo : blk v1 (w.heap.size + 1) = nw 18 O := (blk_of _ _ _ (hR.1.below.block (w.heap.size + 1) (by simp [go_sem] <;> omega))).trans (by simp [go_sem])
    have phbo : Pre (w.heap.size + 1 + 1) v1.heap.size := Nat.le_trans (show w.heap.size + 1 + 1 ≤ _ from by simp [go_sem] <;> omega) hR.1.below.size
    have hbx : blk v1 (w.heap.size) = nw 18 X := (blk_of _ _ _ (hR.1.below.block (w.heap.size) (by simp [go_sem] <;> omega))).trans (by simp [go_sem])
    have phbx : Pre (w.heap.size + 1) v1.heap.size := Nat.le_trans (show w.heap.size + 1 ≤ _ from by simp [go_sem] <;> omega) hR.1.below.size
    have hbz : blk v1 (w.heap.size + 1 + 1) = nw 18 0 := (blk_of _ _ _ (hR.1.below.block (w.heap.size + 1 + 1) (by simp [go_sem] <;> omega))).trans (by simp [go_sem])
    have phbz : Pre (w.heap.size + 1 + 1 + 1) v1.heap.size := Nat.le_trans (show w.heap.size + 1 + 1 + 1 ≤ _ from by simp [go_sem] <;> omega) hR.1.below.size
    have hV := hR.2.1
    obtain ⟨B, h4, h5⟩ := hR.2.2.2
    have x0 := hV 0 _ (hall 0 (by simp)) rfl
    have x1 := hV 1 _ (hall 1 (by simp)) rfl
    have x2 := hV 2 _ (hall 2 (by simp)) rfl
    have x3 := hV 3 _ (hall 3 (by simp)) rfl
    have x4 := hV 4 _ (hall 4 (by simp)) rfl
    have x5 := hV 5 _ (hall 5 (by simp)) rfl
    have x6 := hV 6 _ (hall 6 (by simp)) rfl
    have x7 := hV 7 _ (hall 7 (by simp)) rfl
    have x8 := hV 8 _ (hall 8 (by simp)) rfl
    have x9 := hV 9 _ (hall 9 (by simp)) rfl
    obtain ⟨x10, q10, p10, z10, y10⟩ := h4 10 _ (hall 10 (by simp)) rfl
    simp only [hall 12 (by simp), if_true] at y10
    replace p10 : Pre (B 10 + 1) v1.heap.size := p10
    replace y10 : blk v1 (B 10) = nw 18 q := y10
    obtain ⟨x11, q11, p11, z11, y11⟩ := h4 11 _ (hall 11 (by simp)) rfl
    simp only [hall 13 (by simp), if_true] at y11
    replace p11 : Pre (B 11 + 1) v1.heap.size := p11
    replace y11 : blk v1 (B 11) = nw 9 rr := y11
    have hb1 := hR.1
    rw [hF.final (by kernel_rfl) hall]
    simp only [putFrom, Act.put, List.setIfInBounds_toArray, List.set_cons_zero, List.set_cons_succ, x0, x1, x2, x3, x4, x5, x6, x7, x8, x9, x10, x11]
    generalize B 10 = b10 at *
    generalize B 11 = b11 at *
    clear hV h4 h5 hR hF hall x0 x1 x2 x3 x4 x5 x6 x7 x8 x9 x10 x11
    have fz : frz v1 (w.heap.size + 1 + 1) = (0, 0) := hb1.frz0 _ (by simp [go_sem] <;> omega) (by simp [go_sem])
    have HG1 : Hid (Gr w v1) := by show Gr w v1; refine Gr.trans ?_ hb1; exact (by repeat (first | exact Gr.refl _ | apply Gr.drewN | apply Gr.drew | apply Gr.alloc | apply Gr.gro))
    clear hb1 q10 q11
    go_wp2_with fail
    refine wp_region_mix (by kernel_rfl) (by kernel_rfl) (RG _ (fun i => match i with | 0 => some (.agg (nw 18 q)) | 1 => some (.agg (nw 9 q)) | 2 => some (.pointer (some ⟨w.heap.size + 1, 9, none⟩)) | 3 => some (.agg (nw 9 tf)) | 4 => some (.agg (nw 18 T)) | _ => none) (fun i => match i with | 5 => some (nw 18 0) | _ => none) (fun i => match i with | 5 => some (6, nw 18 T) | _ => none)) (RG.start _ _ _ _ _ _) ?hs ?hf
    case hs =>
      intro listed vals a1 v2 i o hz hR hF ho hl hd
      have hks : ∀ (j k : Nat) (r : Array Value), (match j with | 5 => some (6, nw 18 T) | _ => (none : Option (Nat × Array Value))) = some (k, r) → (j = 5 ∧ k = 6) := fun j k r h => by
        split at h <;> simp_all
      have hbq : blk v2 (b10) = nw 18 q := (blk_of _ _ _ (hR.1.below.block (b10) (p10))).trans (y10)
      have hbo2 : blk v2 (w.heap.size + 1) = nw 18 O := (blk_of _ _ _ (hR.1.below.block (w.heap.size + 1) (phbo))).trans (hbo)
      have hbx2 : blk v2 (w.heap.size) = nw 18 X := (blk_of _ _ _ (hR.1.below.block (w.heap.size) (phbx))).trans (hbx)
      have hbz2 : blk v2 (w.heap.size + 1 + 1) = nw 18 0 := (blk_of _ _ _ (hR.1.below.block (w.heap.size + 1 + 1) (phbz))).trans (hbz)
      have hbr2 : blk v2 (b11) = nw 9 rr := (blk_of _ _ _ (hR.1.below.block (b11) (p11))).trans (y11)
      have hi : i < 7 := by simpa using (Array.getElem?_eq_some_iff.1 ho).1
      have hil : i < listed.size := by rw [hz]; simpa using hi
      obtain rfl | rfl | rfl | rfl | rfl | rfl | rfl : i = 0 ∨ i = 1 ∨ i = 2 ∨ i = 3 ∨ i = 4 ∨ i = 5 ∨ i = 6 := by omega
      · obtain rfl := Option.some.inj ho
        have f0 := hF.old (s := 5) (v := .pointer (some ⟨b10, 0, none⟩)) (by kernel_rfl) rfl
        exact wp_val (.agg (nw 18 q)) (by simp [go_sem, f0, hbq]) ⟨_, rfl, RG.quiet 0 _ hil rfl rfl (fun j k r h => by have := hks j k r h; omega) (Gr.refl _) hR⟩
      · obtain rfl := Option.some.inj ho
        have l0 := hd ⟨0, .data⟩ (by simp) rfl
        have f0 := hF.at (s := 20) (i := 0) (by kernel_rfl) (by simp) l0
        rw [hR.2.1 0 _ l0 rfl] at f0
        exact wp_ret (.agg (nw 9 q)) (by simp [go_sem, f0]) (HL.out _) (fun w2 hg => ⟨_, rfl, RG.quiet 1 _ hil rfl rfl (fun j k r h => by have := hks j k r h; omega) hg hR⟩)
      · obtain rfl := Option.some.inj ho
        have f0 := hF.old (s := 3) (v := .pointer (some ⟨w.heap.size + 1, 0, none⟩)) (by kernel_rfl) rfl
        exact wp_val (.pointer (some ⟨w.heap.size + 1, 9, none⟩)) (by simp [go_sem, f0]) ⟨_, rfl, RG.quiet 2 _ hil rfl rfl (fun j k r h => by have := hks j k r h; omega) (Gr.refl _) hR⟩
      · obtain rfl := Option.some.inj ho
        have l0 := hd ⟨2, .data⟩ (by simp) rfl
        have f0 := hF.at (s := 22) (i := 2) (by kernel_rfl) (by simp) l0
        rw [hR.2.1 2 _ l0 rfl] at f0
        exact wp_val (.agg (nw 9 tf)) (by simp [go_sem, f0, hbo2, HO2.out ()]) ⟨_, rfl, RG.quiet 3 _ hil rfl rfl (fun j k r h => by have := hks j k r h; omega) (Gr.refl _) hR⟩
      · obtain rfl := Option.some.inj ho
        have l0 := hd ⟨1, .data⟩ (by simp) rfl
        have f0 := hF.at (s := 21) (i := 1) (by kernel_rfl) (by simp) l0
        rw [hR.2.1 1 _ l0 rfl] at f0
        have l1 := hd ⟨3, .data⟩ (by simp) rfl
        have f1 := hF.at (s := 23) (i := 3) (by kernel_rfl) (by simp) l1
        rw [hR.2.1 3 _ l1 rfl] at f1
        exact wp_ret (.agg (nw 18 T)) (by simp [go_sem, f0, f1]) (HM.out _) (fun w2 hg => ⟨_, rfl, RG.quiet 4 _ hil rfl rfl (fun j k r h => by have := hks j k r h; omega) hg hR⟩)
      · obtain rfl := Option.some.inj ho
        exact wp_val (.pointer (some ⟨v2.heap.size, 0, none⟩)) (w' := v2.alloc (.cells (nw 18 0) 146)) (by simp [go_sem]) ⟨_, rfl, RG.alloc 5 (nw 18 0) 146 hil hl rfl rfl (fun j k r h => by have := hks j k r h; omega) hR⟩
      · obtain rfl := Option.some.inj ho
        have l0 := hd ⟨5, .data⟩ (by simp) rfl
        have l1 := hd ⟨4, .data⟩ (by simp) rfl
        obtain ⟨B, h4, h5⟩ := hR.2.2.2
        obtain ⟨e1, e2, e3, e4, e5⟩ := h4 5 (nw 18 0) l0 rfl
        simp only [hl] at e5
        replace e5 : blk v2 (B 5) = nw 18 0 := e5
        have f0 := hF.at (s := 7) (i := 5) (by kernel_rfl) (by simp) l0
        rw [e1] at f0
        have f1 := hF.at (s := 24) (i := 4) (by kernel_rfl) (by simp) l1
        rw [hR.2.1 4 _ l1 rfl] at f1
        exact wp_skip (w' := setBlk v2 (B 5) (nw 18 T)) (by simp [go_sem, f0, f1, e4, e5]) ⟨undef, rfl, RG.store 6 5 (nw 18 0) (nw 18 T) (B 5) hil hl rfl rfl rfl l0 rfl (by rw [nw_size]; decide) e1 (fun k r h => by have := hks k _ r h; omega) hR⟩
    case hf =>
      intro listed vals a1 v2 hall hR hF
      have hbq : blk v2 (b10) = nw 18 q := (blk_of _ _ _ (hR.1.below.block (b10) (p10))).trans (y10)
      have phbq : Pre (b10 + 1) v2.heap.size := Nat.le_trans (show b10 + 1 ≤ _ from p10) hR.1.below.size
      have hbo2 : blk v2 (w.heap.size + 1) = nw 18 O := (blk_of _ _ _ (hR.1.below.block (w.heap.size + 1) (phbo))).trans (hbo)
      have phbo2 : Pre (w.heap.size + 1 + 1) v2.heap.size := Nat.le_trans (show w.heap.size + 1 + 1 ≤ _ from phbo) hR.1.below.size
      have hbx2 : blk v2 (w.heap.size) = nw 18 X := (blk_of _ _ _ (hR.1.below.block (w.heap.size) (phbx))).trans (hbx)
      have phbx2 : Pre (w.heap.size + 1) v2.heap.size := Nat.le_trans (show w.heap.size + 1 ≤ _ from phbx) hR.1.below.size
      have hbz2 : blk v2 (w.heap.size + 1 + 1) = nw 18 0 := (blk_of _ _ _ (hR.1.below.block (w.heap.size + 1 + 1) (phbz))).trans (hbz)
      have phbz2 : Pre (w.heap.size + 1 + 1 + 1) v2.heap.size := Nat.le_trans (show w.heap.size + 1 + 1 + 1 ≤ _ from phbz) hR.1.below.size
      have hbr2 : blk v2 (b11) = nw 9 rr := (blk_of _ _ _ (hR.1.below.block (b11) (p11))).trans (y11)
      have phbr2 : Pre (b11 + 1) v2.heap.size := Nat.le_trans (show b11 + 1 ≤ _ from p11) hR.1.below.size
      have hV := hR.2.1
      obtain ⟨B, h4, h5⟩ := hR.2.2.2
      have x0s := hV 0 _ (hall 0 (by simp)) rfl
      have x1s := hV 1 _ (hall 1 (by simp)) rfl
      have x2s := hV 2 _ (hall 2 (by simp)) rfl
      have x3s := hV 3 _ (hall 3 (by simp)) rfl
      have x4s := hV 4 _ (hall 4 (by simp)) rfl
      obtain ⟨x5s, q5s, p5s, z5s, y5s⟩ := h4 5 _ (hall 5 (by simp)) rfl
      simp only [hall 6 (by simp), if_true] at y5s
      replace p5s : Pre (B 5 + 1) v2.heap.size := p5s
      replace y5s : blk v2 (B 5) = nw 18 T := y5s
      have hb1 := hR.1
      rw [hF.final (by kernel_rfl) hall]
      simp only [putFrom, Act.put, List.setIfInBounds_toArray, List.set_cons_zero, List.set_cons_succ, x0s, x1s, x2s, x3s, x4s, x5s]
      generalize B 5 = b5s at *
      clear hV h4 h5 hR hF hall x0s x1s x2s x3s x4s x5s
      have fz2 : frz v2 (w.heap.size + 1 + 1) = (0, 0) := hb1.frz0 _ phbz fz
      have HG2 : Hid (Gr w v2) := HG1.out.trans hb1
      clear hb1 hbq hbo2 hbo hbx fz phbo phbx phbz y10 p10 y11 p11 hbz HG1
      go_wp2_with fail
      refine wp_region_mix (by kernel_rfl) (by kernel_rfl) (RG _ (fun i => match i with | 0 => some (.pointer (some ⟨w.heap.size, 9, none⟩)) | 1 => some (.agg (nw 9 xf)) | 2 => some (.agg (nw 18 T)) | 3 => some (.agg (nw 9 T)) | 4 => some (.tuple #[.agg (nw 9 F), .bool false]) | 5 => some (.tuple #[.agg (nw 9 F), .bool false]) | 6 => some (.agg (nw 9 F)) | 7 => some (.bool false) | 10 => some (.bool false) | _ => none) (fun i => match i with | 8 => some (nw 9 0) | _ => none) (fun i => match i with | 8 => some (9, nw 9 F) | _ => none)) (RG.start _ _ _ _ _ _) ?hs ?hf
      case hs =>
        intro listed vals a1 v3 i o hz hR hF ho hl hd
        have hks : ∀ (j k : Nat) (r : Array Value), (match j with | 8 => some (9, nw 9 F) | _ => (none : Option (Nat × Array Value))) = some (k, r) → (j = 8 ∧ k = 9) := fun j k r h => by
          split at h <;> simp_all
        have hbt3 : blk v3 (b5s) = nw 18 T := (blk_of _ _ _ (hR.1.below.block (b5s) (p5s))).trans (y5s)
        have hbx3 : blk v3 (w.heap.size) = nw 18 X := (blk_of _ _ _ (hR.1.below.block (w.heap.size) (phbx2))).trans (hbx2)
        have hbz3 : blk v3 (w.heap.size + 1 + 1) = nw 18 0 := (blk_of _ _ _ (hR.1.below.block (w.heap.size + 1 + 1) (phbz2))).trans (hbz2)
        have hbr3 : blk v3 (b11) = nw 9 rr := (blk_of _ _ _ (hR.1.below.block (b11) (phbr2))).trans (hbr2)
        have hi : i < 11 := by simpa using (Array.getElem?_eq_some_iff.1 ho).1
        have hil : i < listed.size := by rw [hz]; simpa using hi
        obtain rfl | rfl | rfl | rfl | rfl | rfl | rfl | rfl | rfl | rfl | rfl : i = 0 ∨ i = 1 ∨ i = 2 ∨ i = 3 ∨ i = 4 ∨ i = 5 ∨ i = 6 ∨ i = 7 ∨ i = 8 ∨ i = 9 ∨ i = 10 := by omega
        · obtain rfl := Option.some.inj ho
          have f0 := hF.old (s := 2) (v := .pointer (some ⟨w.heap.size, 0, none⟩)) (by kernel_rfl) rfl
          exact wp_val (.pointer (some ⟨w.heap.size, 9, none⟩)) (by simp [go_sem, f0]) ⟨_, rfl, RG.quiet 0 _ hil rfl rfl (fun j k r h => by have := hks j k r h; omega) (Gr.refl _) hR⟩
        · obtain rfl := Option.some.inj ho
          have l0 := hd ⟨0, .data⟩ (by simp) rfl
          have f0 := hF.at (s := 26) (i := 0) (by kernel_rfl) (by simp) l0
          rw [hR.2.1 0 _ l0 rfl] at f0
          exact wp_val (.agg (nw 9 xf)) (by simp [go_sem, f0, hbx3, HX2.out ()]) ⟨_, rfl, RG.quiet 1 _ hil rfl rfl (fun j k r h => by have := hks j k r h; omega) (Gr.refl _) hR⟩
        · obtain rfl := Option.some.inj ho
          have f0 := hF.old (s := 7) (v := .pointer (some ⟨b5s, 0, none⟩)) (by kernel_rfl) rfl
          exact wp_val (.agg (nw 18 T)) (by simp [go_sem, f0, hbt3]) ⟨_, rfl, RG.quiet 2 _ hil rfl rfl (fun j k r h => by have := hks j k r h; omega) (Gr.refl _) hR⟩
        · obtain rfl := Option.some.inj ho
          have l0 := hd ⟨2, .data⟩ (by simp) rfl
          have f0 := hF.at (s := 28) (i := 2) (by kernel_rfl) (by simp) l0
          rw [hR.2.1 2 _ l0 rfl] at f0
          exact wp_ret (.agg (nw 9 T)) (by simp [go_sem, f0]) (HL2.out _) (fun w2 hg => ⟨_, rfl, RG.quiet 3 _ hil rfl rfl (fun j k r h => by have := hks j k r h; omega) hg hR⟩)
        · obtain rfl := Option.some.inj ho
          have l0 := hd ⟨1, .data⟩ (by simp) rfl
          have f0 := hF.at (s := 27) (i := 1) (by kernel_rfl) (by simp) l0
          rw [hR.2.1 1 _ l0 rfl] at f0
          have l1 := hd ⟨3, .data⟩ (by simp) rfl
          have f1 := hF.at (s := 29) (i := 3) (by kernel_rfl) (by simp) l1
          rw [hR.2.1 3 _ l1 rfl] at f1
          exact wp_ret (.tuple #[.agg (nw 9 F), .bool false]) (by simp [go_sem, f0, f1]) (HA.out _) (fun w2 hg => ⟨_, rfl, RG.quiet 4 _ hil rfl rfl (fun j k r h => by have := hks j k r h; omega) hg hR⟩)
        · obtain rfl := Option.some.inj ho
          have l0 := hd ⟨4, .data⟩ (by simp) rfl
          have f0 := hF.at (s := 30) (i := 4) (by kernel_rfl) (by simp) l0
          rw [hR.2.1 4 _ l0 rfl] at f0
          exact wp_val (.tuple #[.agg (nw 9 F), .bool false]) (by simp [go_sem, f0]) ⟨_, rfl, RG.quiet 5 _ hil rfl rfl (fun j k r h => by have := hks j k r h; omega) (Gr.refl _) hR⟩
        · obtain rfl := Option.some.inj ho
          have l0 := hd ⟨5, .data⟩ (by simp) rfl
          have f0 := hF.at (s := 25) (i := 5) (by kernel_rfl) (by simp) l0
          rw [hR.2.1 5 _ l0 rfl] at f0
          exact wp_val (.agg (nw 9 F)) (by simp [go_sem, f0]) ⟨_, rfl, RG.quiet 6 _ hil rfl rfl (fun j k r h => by have := hks j k r h; omega) (Gr.refl _) hR⟩
        · obtain rfl := Option.some.inj ho
          have l0 := hd ⟨5, .data⟩ (by simp) rfl
          have f0 := hF.at (s := 25) (i := 5) (by kernel_rfl) (by simp) l0
          rw [hR.2.1 5 _ l0 rfl] at f0
          exact wp_val (.bool false) (by simp [go_sem, f0]) ⟨_, rfl, RG.quiet 7 _ hil rfl rfl (fun j k r h => by have := hks j k r h; omega) (Gr.refl _) hR⟩
        · obtain rfl := Option.some.inj ho
          exact wp_val (.pointer (some ⟨v3.heap.size, 0, none⟩)) (w' := v3.alloc (.cells (nw 9 0) 25)) (by simp [go_sem]) ⟨_, rfl, RG.alloc 8 (nw 9 0) 25 hil hl rfl rfl (fun j k r h => by have := hks j k r h; omega) hR⟩
        · obtain rfl := Option.some.inj ho
          have l0 := hd ⟨8, .data⟩ (by simp) rfl
          have l1 := hd ⟨6, .data⟩ (by simp) rfl
          obtain ⟨B, h4, h5⟩ := hR.2.2.2
          obtain ⟨e1, e2, e3, e4, e5⟩ := h4 8 (nw 9 0) l0 rfl
          simp only [hl] at e5
          replace e5 : blk v3 (B 8) = nw 9 0 := e5
          have f0 := hF.at (s := 8) (i := 8) (by kernel_rfl) (by simp) l0
          rw [e1] at f0
          have f1 := hF.at (s := 31) (i := 6) (by kernel_rfl) (by simp) l1
          rw [hR.2.1 6 _ l1 rfl] at f1
          exact wp_skip (w' := setBlk v3 (B 8) (nw 9 F)) (by simp [go_sem, f0, f1, e4, e5]) ⟨undef, rfl, RG.store 9 8 (nw 9 0) (nw 9 F) (B 8) hil hl rfl rfl rfl l0 rfl (by rw [nw_size]; decide) e1 (fun k r h => by have := hks k _ r h; omega) hR⟩
        · obtain rfl := Option.some.inj ho
          have l0 := hd ⟨7, .data⟩ (by simp) rfl
          have f0 := hF.at (s := 32) (i := 7) (by kernel_rfl) (by simp) l0
          rw [hR.2.1 7 _ l0 rfl] at f0
          exact wp_val (.bool false) (by simp [go_sem, f0]) ⟨_, rfl, RG.quiet 10 _ hil rfl rfl (fun j k r h => by have := hks j k r h; omega) (Gr.refl _) hR⟩
      case hf =>
        intro listed vals a1 v3 hall hR hF
        have hbt3 : blk v3 (b5s) = nw 18 T := (blk_of _ _ _ (hR.1.below.block (b5s) (p5s))).trans (y5s)
        have phbt3 : Pre (b5s + 1) v3.heap.size := Nat.le_trans (show b5s + 1 ≤ _ from p5s) hR.1.below.size
        have hbx3 : blk v3 (w.heap.size) = nw 18 X := (blk_of _ _ _ (hR.1.below.block (w.heap.size) (phbx2))).trans (hbx2)
        have phbx3 : Pre (w.heap.size + 1) v3.heap.size := Nat.le_trans (show w.heap.size + 1 ≤ _ from phbx2) hR.1.below.size
        have hbz3 : blk v3 (w.heap.size + 1 + 1) = nw 18 0 := (blk_of _ _ _ (hR.1.below.block (w.heap.size + 1 + 1) (phbz2))).trans (hbz2)
        have phbz3 : Pre (w.heap.size + 1 + 1 + 1) v3.heap.size := Nat.le_trans (show w.heap.size + 1 + 1 + 1 ≤ _ from phbz2) hR.1.below.size
        have hbr3 : blk v3 (b11) = nw 9 rr := (blk_of _ _ _ (hR.1.below.block (b11) (phbr2))).trans (hbr2)
        have phbr3 : Pre (b11 + 1) v3.heap.size := Nat.le_trans (show b11 + 1 ≤ _ from phbr2) hR.1.below.size
        have hV := hR.2.1
        obtain ⟨B, h4, h5⟩ := hR.2.2.2
        have x0r := hV 0 _ (hall 0 (by simp)) rfl
        have x1r := hV 1 _ (hall 1 (by simp)) rfl
        have x2r := hV 2 _ (hall 2 (by simp)) rfl
        have x3r := hV 3 _ (hall 3 (by simp)) rfl
        have x4r := hV 4 _ (hall 4 (by simp)) rfl
        have x5r := hV 5 _ (hall 5 (by simp)) rfl
        have x6r := hV 6 _ (hall 6 (by simp)) rfl
        have x7r := hV 7 _ (hall 7 (by simp)) rfl
        have x10r := hV 10 _ (hall 10 (by simp)) rfl
        obtain ⟨x8r, q8r, p8r, z8r, y8r⟩ := h4 8 _ (hall 8 (by simp)) rfl
        simp only [hall 9 (by simp), if_true] at y8r
        replace p8r : Pre (B 8 + 1) v3.heap.size := p8r
        replace y8r : blk v3 (B 8) = nw 9 F := y8r
        have hb1 := hR.1
        rw [hF.final (by kernel_rfl) hall]
        simp only [putFrom, Act.put, List.setIfInBounds_toArray, List.set_cons_zero, List.set_cons_succ, x0r, x1r, x2r, x3r, x4r, x5r, x6r, x7r, x10r, x8r]
        generalize B 8 = b8r at *
        clear hV h4 h5 hR hF hall x0r x1r x2r x3r x4r x5r x6r x7r x10r x8r
        have fz3 : frz v3 (w.heap.size + 1 + 1) = (0, 0) := hb1.frz0 _ phbz2 fz2
        have HG3 : Hid (Gr w v3) := HG2.out.trans hb1
        clear hb1 hbt3 hbx3
        go_wp2_with fail
        refine bodyPost_ret (res_one Tryz.results138 (rd_mv (x := Z) (by rfl) ?_)) rfl ⟨rfl, ?_⟩
        · simp [go_sem, *]
        · repeat (first | exact HG3.out | apply Gr.drewN | apply Gr.drew | apply Gr.alloc | apply Gr.gro | (refine gr_setNew ?_ (by omega)))

end Go.Proofs.YtlbkhhihkomahaaGreat
namespace Go.Proofs.YtlbkhhihkomahaaGreat
open Go.RowKit
attribute [local go_sem ↓] loadNat_is loadArr_is loadWide_is loadArrW_is storeNat_is storeWide_is
attribute [local go_sem] loadNat loadArr loadWide loadArrW storeNat storeWide idxArr fold9 fold18 nw_size nw_elem pre_self pre_1 pre_2 pre_3 pre_4 pre_5 pre_6 pre_7 pre_8 pre_9 pre_10 pre_11 pre_12 pre_13 pre_14 pre_15 pre_16 pre_17 pre_18 pre_19 pre_20 pre_21 pre_22 pre_23 pre_24 pre_25 pre_26 pre_27 pre_28 pre_29 pre_30 pre_31 pre_32 pre_33 pre_34 pre_35 pre_36 pre_37 pre_38 pre_39 pre_40 gro_size gro_drew gro_drewN drew_gro drewN_gro gro_gro blk_gro frz_gro blk_drew frz_drew blk_drewN frz_drewN blk_alloc_at frz_alloc_at blk_alloc frz_alloc cell_gro frozen_gro cell_alloc_pre frozen_alloc_pre setCell_drewN alloc_drewN setBlk_drew setBlk_drewN setBlk_alloc_at setBlk_alloc setBlk_gro setCell_gro setCell_alloc_pre size_setBlk size_setCell
attribute [local go_sem ↓] loadDv_is load19_is storeDv_is store19_is copy_is
attribute [local go_sem] idx18 loadDv load19 storeDv store19 dv_size dv_9 dv_10 dv_e9 dv_e10 dv_elem fold11 fold19 setCell_in cell_in frozen_in frz_setBlk blk_setBlk setBlk_setBlk copy_run cpA_nw ones_nw

attribute [local go_sem ↓] loadMv_is storeMv_is buildMv_is
attribute [local go_sem] loadMv storeMv loadLo loadHi ext_lo ext_hi buildMv2 buildMv1

attribute [local go_sem ↓] Go.wp_at_zero Go.wp_at_succ
attribute [local go_sem] blk_other

/-- The number that a row's first words make. -/
def vB (c : Array Value) : Nat → Nat
  | 0 => 0
  | n + 1 => vB c n + (intOf (c.getD n undef)).toNat * pw n
theorem vB_nw (N X : Nat) : ∀ n, n ≤ N → vB (nw N X) n = X % pw n
  | 0, _ => by rw [vB, pw_zero, Nat.mod_one]
  | n + 1, h => by
    rw [vB, vB_nw N X n (by omega), mod_succ]
    have e : (nw N X).getD n undef = .int .u64 ((wd X n : Nat) : Int) := by
      have := nw_get N X n (by omega)
      rw [Array.getD_eq_getD_getElem?, this]
      rfl
    rw [e]
    simp [intOf]
def mB (w : World) (b : Nat) : Nat := vB (blk w b) 9
theorem mB_mv (w : World) (b a f : Nat) (ha : a < M) (h : blk w b = nw 18 (mvN a f)) : mB w b = a := by
  unfold mB
  rw [h, vB_nw 18 _ 9 (by decide)]
  show (a + f * M) % M = a
  rw [Nat.add_mul_mod_self_right, Nat.mod_eq_of_lt ha]
/-- What the loop of euclid keeps: the last one and this one, each in its block. -/
structure EW (w v : World) (L T b : Nat) : Prop where
  g : Gr w v
  h2 : blk v (w.heap.size + 1 + 1) = nw 9 0
  f2 : frz v (w.heap.size + 1 + 1) = (0, 0)
  p2 : Pre (w.heap.size + 1 + 1 + 1) v.heap.size
  h3 : blk v (w.heap.size + 1 + 1 + 1) = nw 9 0
  f3 : frz v (w.heap.size + 1 + 1 + 1) = (0, 0)
  p3 : Pre (w.heap.size + 1 + 1 + 1 + 1) v.heap.size
  h4 : blk v (w.heap.size + 1 + 1 + 1 + 1) = nw 18 L
  f4 : frz v (w.heap.size + 1 + 1 + 1 + 1) = (0, 0)
  p4 : Pre (w.heap.size + 1 + 1 + 1 + 1 + 1) v.heap.size
  h8 : blk v b = nw 18 T
  f8 : frz v b = (0, 0)
  p8 : Pre (b + 1) v.heap.size
  q8 : w.heap.size + 1 + 1 + 1 + 1 + 1 ≤ b
theorem EW.gr {w v v' : World} {L T b : Nat} (h : EW w v L T b) (k : Gr v v') : EW w v' L T b := by
  have hs := k.below.size
  have pr : ∀ {x}, Pre x v.heap.size → Pre x v'.heap.size := fun h => Nat.le_trans h hs
  exact ⟨h.g.trans k, by rw [k.blk _ h.p2]; exact h.h2, by rw [k.frz _ h.p2]; exact h.f2, pr h.p2, by rw [k.blk _ h.p3]; exact h.h3, by rw [k.frz _ h.p3]; exact h.f3, pr h.p3,
    by rw [k.blk _ h.p4]; exact h.h4, by rw [k.frz _ h.p4]; exact h.f4, pr h.p4, by rw [k.blk _ h.p8]; exact h.h8, by rw [k.frz _ h.p8]; exact h.f8, pr h.p8, h.q8⟩
theorem EW.set4 {w v : World} {L T b : Nat} (h : EW w v L T b) (X : Nat) : EW w (setBlk v (w.heap.size + 1 + 1 + 1 + 1) (nw 18 X)) X T b := by
  have q := h.q8
  have pr : ∀ {x}, Pre x v.heap.size → Pre x (setBlk v (w.heap.size + 1 + 1 + 1 + 1) (nw 18 X)).heap.size := fun h => by rw [size_setBlk]; exact h
  exact ⟨gr_setNew h.g (by omega), by rw [blk_other _ _ _ _ (by omega)]; exact h.h2, by rw [frz_setBlk]; exact h.f2, pr h.p2, by rw [blk_other _ _ _ _ (by omega)]; exact h.h3, by rw [frz_setBlk]; exact h.f3, pr h.p3,
    blk_setBlk _ _ _ (by rw [h.h4, nw_size]; decide), by rw [frz_setBlk]; exact h.f4, pr h.p4, by rw [blk_other _ _ _ _ (by omega)]; exact h.h8, by rw [frz_setBlk]; exact h.f8, pr h.p8, h.q8⟩
theorem EW.set8 {w v : World} {L T b : Nat} (h : EW w v L T b) (X : Nat) : EW w (setBlk v b (nw 18 X)) L X b := by
  have q := h.q8
  have pr : ∀ {x}, Pre x v.heap.size → Pre x (setBlk v b (nw 18 X)).heap.size := fun h => by rw [size_setBlk]; exact h
  exact ⟨gr_setNew h.g (by omega), by rw [blk_other _ _ _ _ (by omega)]; exact h.h2, by rw [frz_setBlk]; exact h.f2, pr h.p2, by rw [blk_other _ _ _ _ (by omega)]; exact h.h3, by rw [frz_setBlk]; exact h.f3, pr h.p3,
    by rw [blk_other _ _ _ _ (by omega)]; exact h.h4, by rw [frz_setBlk]; exact h.f4, pr h.p4, blk_setBlk _ _ _ (by rw [h.h8, nw_size]; decide), by rw [frz_setBlk]; exact h.f8, pr h.p8, h.q8⟩
set_option maxRecDepth 100000 in
set_option maxHeartbeats 4000000 in
theorem euclid_any (a m : Nat) (hm : m < M) (ham : a < m) (w : World) :
    Calls Tryz.prog 129 #[.agg (nw 9 a), .agg (nw 9 m)] w fun e w' => e = .returned (.tuple #[.agg (nw 9 (eu m 0 a 1 true).1), .agg (nw 9 (eu m 0 a 1 true).2.1), .bool (eu m 0 a 1 true).2.2]) ∧ Gr w w' := by
  have HO : Hid (∀ w, Calls Tryz.prog 104 #[.int .i64 1] w fun e w' => e = .returned (.agg (nw 9 1)) ∧ Gr w w') := fun w => small_any 1 (by decide) w
  have haM : a < M := Nat.lt_trans ham hm
  have ap0 := app_mv m 0 hm
  have ap1 := app_mv a 1 haM
  obtain ⟨M0, hM0⟩ : ∃ X, mvN m 0 = X := ⟨_, rfl⟩
  obtain ⟨A1, hA1⟩ : ∃ X, mvN a 1 = X := ⟨_, rfl⟩
  rw [hM0] at ap0
  rw [hA1] at ap1
  have HA1 : Hid (Unit → nw 9 a ++ nw 9 1 = nw 18 A1) := fun _ => ap1
  have HE0 : Hid (Unit → M0 = mvN m 0 ∧ A1 = mvN a 1) := fun _ => ⟨hM0.symm, hA1.symm⟩
  have HI0 : Hid (EI a m m 0 a 1 true) := EI.start a m ham
  have HmM : Hid (Unit → m < M) := fun _ => hm
  obtain ⟨E, hE⟩ : ∃ E, eu m 0 a 1 true = E := ⟨_, rfl⟩
  rw [hE]
  have HE : Hid (Unit → eu m 0 a 1 true = E) := fun _ => hE
  clear ap1 hM0 hA1 haM hm ham hE
  go_enter Tryz.func129, Tryz.ntmps129
  go_wp2_with fail
  refine wp_region_mix (by kernel_rfl) (by kernel_rfl) (RG _ (fun i => match i with | 0 => some (.agg (nw 9 a)) | 1 => some (.agg (nw 9 1)) | 2 => some (.agg (nw 18 A1)) | _ => none) (fun i => match i with | 3 => some (nw 18 0) | _ => none) (fun i => match i with | 3 => some (4, nw 18 A1) | _ => none)) (RG.start _ _ _ _ _ _) ?hs ?hf
  case hs =>
    intro listed vals a1 v1 i o hz hR hF ho hl hd
    have hks : ∀ (j k : Nat) (r : Array Value), (match j with | 3 => some (4, nw 18 A1) | _ => (none : Option (Nat × Array Value))) = some (k, r) → (j = 3 ∧ k = 4) := fun j k r h => by
      split at h <;> simp_all
    have hba : blk v1 (w.heap.size) = nw 9 a := (blk_of _ _ _ (hR.1.below.block (w.heap.size) (by simp [go_sem] <;> omega))).trans (by simp [go_sem])
    have hb2 : blk v1 (w.heap.size + 1 + 1) = nw 9 0 := (blk_of _ _ _ (hR.1.below.block (w.heap.size + 1 + 1) (by simp [go_sem] <;> omega))).trans (by simp [go_sem])
    have hb3 : blk v1 (w.heap.size + 1 + 1 + 1) = nw 9 0 := (blk_of _ _ _ (hR.1.below.block (w.heap.size + 1 + 1 + 1) (by simp [go_sem] <;> omega))).trans (by simp [go_sem])
    have hb4 : blk v1 (w.heap.size + 1 + 1 + 1 + 1) = nw 18 M0 := (blk_of _ _ _ (hR.1.below.block (w.heap.size + 1 + 1 + 1 + 1) (by simp [go_sem] <;> omega))).trans (by simp [go_sem])
    have hi : i < 5 := by simpa using (Array.getElem?_eq_some_iff.1 ho).1
    have hil : i < listed.size := by rw [hz]; simpa using hi
    obtain rfl | rfl | rfl | rfl | rfl : i = 0 ∨ i = 1 ∨ i = 2 ∨ i = 3 ∨ i = 4 := by omega
    · obtain rfl := Option.some.inj ho
      have f0 := hF.old (s := 2) (v := .pointer (some ⟨w.heap.size, 0, none⟩)) (by kernel_rfl) rfl
      exact wp_val (.agg (nw 9 a)) (by simp [go_sem, f0, hba]) ⟨_, rfl, RG.quiet 0 _ hil rfl rfl (fun j k r h => by have := hks j k r h; omega) (Gr.refl _) hR⟩
    · obtain rfl := Option.some.inj ho
      exact wp_ret (.agg (nw 9 1)) (by simp [go_sem]) (HO.out _) (fun w2 hg => ⟨_, rfl, RG.quiet 1 _ hil rfl rfl (fun j k r h => by have := hks j k r h; omega) hg hR⟩)
    · obtain rfl := Option.some.inj ho
      have l0 := hd ⟨0, .data⟩ (by simp) rfl
      have f0 := hF.at (s := 12) (i := 0) (by kernel_rfl) (by simp) l0
      rw [hR.2.1 0 _ l0 rfl] at f0
      have l1 := hd ⟨1, .data⟩ (by simp) rfl
      have f1 := hF.at (s := 13) (i := 1) (by kernel_rfl) (by simp) l1
      rw [hR.2.1 1 _ l1 rfl] at f1
      exact wp_val (.agg (nw 18 A1)) (by simp [go_sem, f0, f1, HA1.out ()]) ⟨_, rfl, RG.quiet 2 _ hil rfl rfl (fun j k r h => by have := hks j k r h; omega) (Gr.refl _) hR⟩
    · obtain rfl := Option.some.inj ho
      exact wp_val (.pointer (some ⟨v1.heap.size, 0, none⟩)) (w' := v1.alloc (.cells (nw 18 0) 167)) (by simp [go_sem]) ⟨_, rfl, RG.alloc 3 (nw 18 0) 167 hil hl rfl rfl (fun j k r h => by have := hks j k r h; omega) hR⟩
    · obtain rfl := Option.some.inj ho
      have l0 := hd ⟨3, .data⟩ (by simp) rfl
      have l1 := hd ⟨2, .data⟩ (by simp) rfl
      obtain ⟨B, h4, h5⟩ := hR.2.2.2
      obtain ⟨e1, e2, e3, e4, e5⟩ := h4 3 (nw 18 0) l0 rfl
      simp only [hl] at e5
      replace e5 : blk v1 (B 3) = nw 18 0 := e5
      have f0 := hF.at (s := 8) (i := 3) (by kernel_rfl) (by simp) l0
      rw [e1] at f0
      have f1 := hF.at (s := 14) (i := 2) (by kernel_rfl) (by simp) l1
      rw [hR.2.1 2 _ l1 rfl] at f1
      exact wp_skip (w' := setBlk v1 (B 3) (nw 18 A1)) (by simp [go_sem, f0, f1, e4, e5]) ⟨undef, rfl, RG.store 4 3 (nw 18 0) (nw 18 A1) (B 3) hil hl rfl rfl rfl l0 rfl (by rw [nw_size]; decide) e1 (fun k r h => by have := hks k _ r h; omega) hR⟩
  case hf =>
    intro listed vals a1 v1 hall hR hF
    have hba : blk v1 (w.heap.size) = nw 9 a := (blk_of _ _ _ (hR.1.below.block (w.heap.size) (by simp [go_sem] <;> omega))).trans (by simp [go_sem])
    have phba : Pre (w.heap.size + 1) v1.heap.size := Nat.le_trans (show w.heap.size + 1 ≤ _ from by simp [go_sem] <;> omega) hR.1.below.size
    have hb2 : blk v1 (w.heap.size + 1 + 1) = nw 9 0 := (blk_of _ _ _ (hR.1.below.block (w.heap.size + 1 + 1) (by simp [go_sem] <;> omega))).trans (by simp [go_sem])
    have phb2 : Pre (w.heap.size + 1 + 1 + 1) v1.heap.size := Nat.le_trans (show w.heap.size + 1 + 1 + 1 ≤ _ from by simp [go_sem] <;> omega) hR.1.below.size
    have hb3 : blk v1 (w.heap.size + 1 + 1 + 1) = nw 9 0 := (blk_of _ _ _ (hR.1.below.block (w.heap.size + 1 + 1 + 1) (by simp [go_sem] <;> omega))).trans (by simp [go_sem])
    have phb3 : Pre (w.heap.size + 1 + 1 + 1 + 1) v1.heap.size := Nat.le_trans (show w.heap.size + 1 + 1 + 1 + 1 ≤ _ from by simp [go_sem] <;> omega) hR.1.below.size
    have hb4 : blk v1 (w.heap.size + 1 + 1 + 1 + 1) = nw 18 M0 := (blk_of _ _ _ (hR.1.below.block (w.heap.size + 1 + 1 + 1 + 1) (by simp [go_sem] <;> omega))).trans (by simp [go_sem])
    have phb4 : Pre (w.heap.size + 1 + 1 + 1 + 1 + 1) v1.heap.size := Nat.le_trans (show w.heap.size + 1 + 1 + 1 + 1 + 1 ≤ _ from by simp [go_sem] <;> omega) hR.1.below.size
    have hV := hR.2.1
    obtain ⟨B, h4, h5⟩ := hR.2.2.2
    have x0 := hV 0 _ (hall 0 (by simp)) rfl
    have x1 := hV 1 _ (hall 1 (by simp)) rfl
    have x2 := hV 2 _ (hall 2 (by simp)) rfl
    obtain ⟨x3, q3, p3, z3, y3⟩ := h4 3 _ (hall 3 (by simp)) rfl
    simp only [hall 4 (by simp), if_true] at y3
    replace p3 : Pre (B 3 + 1) v1.heap.size := p3
    replace y3 : blk v1 (B 3) = nw 18 A1 := y3
    have hb1 := hR.1
    rw [hF.final (by kernel_rfl) hall]
    simp only [putFrom, Act.put, List.setIfInBounds_toArray, List.set_cons_zero, List.set_cons_succ, x0, x1, x2, x3]
    generalize B 3 = b3 at *
    clear hV h4 h5 hR hF hall x0 x1 x2 x3
    have hw : EW w v1 M0 A1 b3 := by
      refine ⟨Gr.trans ?_ hb1, hb2, hb1.frz0 _ (by simp [go_sem] <;> omega) (by simp [go_sem]), phb2, hb3, hb1.frz0 _ (by simp [go_sem] <;> omega) (by simp [go_sem]), phb3, hb4, hb1.frz0 _ (by simp [go_sem] <;> omega) (by simp [go_sem]), phb4, y3, z3, p3, ?_⟩
      · exact (by repeat (first | exact Gr.refl _ | apply Gr.drewN | apply Gr.drew | apply Gr.alloc | apply Gr.gro))
      · have h := q3; simp [go_sem] at h; omega
    have HW0 : Hid (EW w v1 M0 A1 b3) := hw
    clear hba phba hb2 phb2 hb3 phb3 hb4 phb4 p3 y3 z3 q3 hb1 hw ap0 HA1 HO
    go_wp2_with fail
    go_loopw [9] (fun β wr => ∃ (lv lf tv tf : Nat) (δ : Bool), β = .bool δ ∧ Hid (EI a m lv lf tv tf δ ∧ lv ≤ m ∧ eu lv lf tv tf δ = E) ∧ Hid (EW w wr (mvN lv lf) (mvN tv tf) b3)) (fun _ wr => mB wr b3)
    case atStart =>
      have h := HW0.out
      rw [(HE0.out ()).1, (HE0.out ()).2] at h
      exact ⟨m, 0, a, 1, true, rfl, ⟨HI0.out, Nat.le_refl _, HE.out ()⟩, h⟩
    case round =>
      obtain ⟨lv, lf, tv, tf, δ, rfl, HI, HW⟩ := hrel
      clear HW0
      have hmM := HmM.out ()
      have hlM : lv < M := Nat.lt_of_le_of_lt HI.out.2.1 hmM
      have htM : tv < M := Nat.lt_trans HI.out.1.lt hlM
      have hfM : tf < M := Nat.lt_of_le_of_lt HI.out.1.fac hmM
      have hgM : lf < M := Nat.lt_of_le_of_lt HI.out.1.le hmM
      have e1 := mv_lo tv tf htM
      have e2 := mv_lo lv lf hlM
      have e3 := mv_hi lv lf hlM
      have hz := fun w => isZero_any tv htM w
      have hms : mB wr b3 = tv := mB_mv wr b3 tv tf htM HW.out.h8
      obtain ⟨L, hL⟩ : ∃ X, mvN lv lf = X := ⟨_, rfl⟩
      obtain ⟨T, hT⟩ : ∃ X, mvN tv tf = X := ⟨_, rfl⟩
      rw [hT] at e1
      rw [hL] at e2 e3
      have HWL : Hid (EW w wr L T b3) := by show EW w wr L T b3; rw [← hL, ← hT]; exact HW.out
      obtain ⟨hg, h1, h2, h3, h4, h5, h6, h7, h8, h9, h10, h11, h12, h13⟩ := HWL.out
      have HMS : Hid (Unit → mB wr b3 = tv) := fun _ => hms
      clear hg hms
      by_cases ht : tv = 0
      · have HZ : Hid (∀ w, Calls Tryz.prog 125 #[.agg (nw 9 tv)] w fun e w' => e = .returned (.bool true) ∧ Gr w w') := fun w => by
          have := hz w
          rw [decide_eq_true ht] at this
          exact this
        have HF : Hid (Unit → E = (lv, lf, δ)) := fun _ => by
          have := HI.out.2.2
          rw [ht, eu_zero] at this
          exact this.symm
        clear hz ht hL hT hlM htM hfM hgM hmM
        go_wp2_with (go_at_call 125; refine (HZ.out _).mono ?_; rintro e w' ⟨rfl, g, rfl⟩)
        go_big_region
        all_goals
          go_wp2_with fail
          refine bodyPost_ret (res_three Tryz.results129 (rd_nat (x := lv) (by rfl) ?_) (rd_nat (x := lf) (by rfl) ?_) (rd_tmp (by rfl))) rfl ⟨by rw [HF.out ()]; rfl, ?_⟩
          · simp [go_sem, *]
          · simp [go_sem, *]
          · have hg := HWL.out.g
            repeat (first | exact hg | apply Gr.drewN | apply Gr.drew | apply Gr.alloc | apply Gr.gro | (refine gr_setNew ?_ (by omega)))
      · have ht0 : 0 < tv := by omega
        have HZ : Hid (∀ w, Calls Tryz.prog 125 #[.agg (nw 9 tv)] w fun e w' => e = .returned (.bool false) ∧ Gr w w') := fun w => by
          have := hz w
          rw [decide_eq_false ht] at this
          exact this
        have hst := HI.out.1.step ht0
        have hfi := HI.out.1.fits ht0
        have hes := eu_step lv lf tv tf δ ht0
        have hle := fun w => less_any lv lf tv tf hlM hgM ht0 htM hfM (Nat.lt_of_le_of_lt hfi hmM) w
        rw [HI.out.2.2] at hes
        have hmod : lv % tv < tv := Nat.mod_lt _ ht0
        obtain ⟨r, hr⟩ : ∃ x, lv % tv = x := ⟨_, rfl⟩
        obtain ⟨F, hF⟩ : ∃ x, lf + lv / tv * tf = x := ⟨_, rfl⟩
        rw [hr, hF] at hst hes hle
        rw [hr] at hmod
        rw [hL, hT] at hle
        obtain ⟨N, hN⟩ : ∃ x, mvN r F = x := ⟨_, rfl⟩
        rw [hN] at hle
        have HL : Hid (∀ w, Calls Tryz.prog 138 #[.agg (nw 18 L), .agg (nw 18 T)] w fun e w' => e = .returned (.agg (nw 18 N)) ∧ Gr w w') := hle
        have HNX : Hid (Unit → EI a m tv tf r F (!δ) ∧ tv ≤ m ∧ eu tv tf r F (!δ) = E ∧ mvN tv tf = T ∧ mvN r F = N ∧ r < tv ∧ tv < M) := fun _ => ⟨hst, by have := HI.out.1.lt; have := HI.out.2.1; omega, hes.symm, hT, hN, hmod, htM⟩
        clear hz ht hL hT hlM htM hfM hgM hmM hst hfi hes hle hr hF hN hmod ht0 e2 e3
        have hne : ¬ (w.heap.size + 1 + 1 + 1 + 1) = b3 := by omega
        go_upto_region 5 with (go_at_call 125; refine (HZ.out _).mono ?_; rintro e w' ⟨rfl, g, rfl⟩)
        go_cut [9] from 19 to 22 (fun β wx => β = .bool δ ∧ Hid (EW w wx T N b3))
        case first =>
          go_region_with (go_at_call 138; refine (HL.out _).mono ?_; rintro e w' ⟨rfl, g5, rfl⟩)
          all_goals
            go_wp2_with fail
            go_meet
            exact ⟨rfl, ((HWL.out.set4 T).set8 N).gr ⟨_, rfl⟩⟩
        case rest =>
          obtain ⟨rfl, HW2⟩ := hcut
          clear h1 h2 h3 h4 h5 h6 h7 h8 h9 h10 h11 h12 h13 e1 hne
          go_wp2_with fail
          go_roundw
          case rel =>
            obtain ⟨k1, k2, k3, k4, k5, k6, k7⟩ := HNX.out ()
            refine ⟨tv, tf, r, F, !δ, rfl, ⟨k1, k2, k3⟩, ?_⟩
            show EW w _ (mvN tv tf) (mvN r F) b3
            rw [k4, k5]
            exact HW2.out
          case measure =>
            obtain ⟨k1, k2, k3, k4, k5, k6, k7⟩ := HNX.out ()
            rw [HMS.out (), mB_mv _ b3 r F (by omega) (by rw [k5]; exact HW2.out.h8)]
            exact k6

end Go.Proofs.YtlbkhhihkomahaaGreat
namespace Go.Proofs.YtlbkhhihkomahaaGreat
open Go.RowKit
attribute [local go_sem ↓] loadNat_is loadArr_is loadWide_is loadArrW_is storeNat_is storeWide_is
attribute [local go_sem] loadNat loadArr loadWide loadArrW storeNat storeWide idxArr fold9 fold18 nw_size nw_elem pre_self pre_1 pre_2 pre_3 pre_4 pre_5 pre_6 pre_7 pre_8 pre_9 pre_10 pre_11 pre_12 pre_13 pre_14 pre_15 pre_16 pre_17 pre_18 pre_19 pre_20 pre_21 pre_22 pre_23 pre_24 pre_25 pre_26 pre_27 pre_28 pre_29 pre_30 pre_31 pre_32 pre_33 pre_34 pre_35 pre_36 pre_37 pre_38 pre_39 pre_40 gro_size gro_drew gro_drewN drew_gro drewN_gro gro_gro blk_gro frz_gro blk_drew frz_drew blk_drewN frz_drewN blk_alloc_at frz_alloc_at blk_alloc frz_alloc cell_gro frozen_gro cell_alloc_pre frozen_alloc_pre setCell_drewN alloc_drewN setBlk_drew setBlk_drewN setBlk_alloc_at setBlk_alloc setBlk_gro setCell_gro setCell_alloc_pre size_setBlk size_setCell
attribute [local go_sem ↓] loadDv_is load19_is storeDv_is store19_is copy_is
attribute [local go_sem] idx18 loadDv load19 storeDv store19 dv_size dv_9 dv_10 dv_e9 dv_e10 dv_elem fold11 fold19 setCell_in cell_in frozen_in frz_setBlk blk_setBlk setBlk_setBlk copy_run cpA_nw ones_nw

attribute [local go_sem ↓] loadMv_is storeMv_is buildMv_is
attribute [local go_sem] loadMv storeMv loadLo loadHi ext_lo ext_hi buildMv2 buildMv1

attribute [local go_sem ↓] Go.wp_at_zero Go.wp_at_succ
attribute [local go_sem] blk_other nw_ext9 nw_ext18 eqArr9 eqArr18
theorem gcd_mod (m a : Nat) : Nat.gcd m (a % m) = Nat.gcd m a := by
  rw [Nat.gcd_comm, ← Nat.gcd_rec m a]
/-- What euclid answers of a modulo m. -/
theorem eu_inv (a m : Nat) (hm : 1 < m) : ∃ g f δ, eu m 0 (a % m) 1 true = (g, f, δ) ∧ g = Nat.gcd m a ∧ f ≤ m ∧ (g = 1 → (if δ then m - f else f) < m ∧ a * (if δ then m - f else f) % m = 1) := by
  obtain ⟨g, f, δ, h1, h2, h3, h4⟩ := eu_end (a % m) m (a % m) m 0 1 true (EI.start (a % m) m (Nat.mod_lt _ (by omega)))
  refine ⟨g, f, δ, h1, by rw [h2, gcd_mod], h3, fun hg => ?_⟩
  subst hg
  have := inv_of (a % m) m f δ hm h3 (by simpa using h4)
  rw [Nat.mod_mul_mod] at this
  exact this
/-- What Inverse answers where the greatest common part is gg, and x the factor. -/
def InvP (gg x : Nat) (e : Ending) : Prop := (gg = 1 → e = .returned (.tuple #[.agg (nw 9 x), .int .i64 0])) ∧ (gg ≠ 1 → e = .returned (.tuple #[.agg (nw 9 0), .int .i64 401]))
set_option maxRecDepth 100000 in
set_option maxHeartbeats 2400000 in
theorem inv_walk (a m gg ff : Nat) (δ : Bool) (ha : a < M) (hm : 1 < m) (hM : m < M) (hE : eu m 0 (a % m) 1 true = (gg, ff, δ)) (hg : gg < M) (hf : ff ≤ m) (w : World) :
    Calls Tryz.prog 123 #[.agg (nw 9 a), .agg (nw 9 m)] w fun e w' => InvP gg (if δ then m - ff else ff) e ∧ Gr w w' := by
  have HZ : Hid (∀ w, Calls Tryz.prog 125 #[.agg (nw 9 m)] w fun e w' => e = .returned (.bool false) ∧ Gr w w') := fun w => notZero m (by omega) hM w
  have HO : Hid (∀ w, Calls Tryz.prog 104 #[.int .i64 1] w fun e w' => e = .returned (.agg (nw 9 1)) ∧ Gr w w') := fun w => small_any 1 (by decide) w
  obtain ⟨D, n, u, hd, hD⟩ := divisorOf_any m (by omega) hM
  have HD : Hid (∀ w, Calls Tryz.prog 126 #[.agg (nw 9 m)] w fun e w' => e = .returned (.agg (dv D (n + 1) u)) ∧ Gr w w') := hD
  have HW : Hid (∀ w, Calls Tryz.prog 130 #[.agg (nw 9 a)] w fun e w' => e = .returned (.agg (nw 18 a)) ∧ Gr w w') := fun w => widen_any a ha w
  have hr := fun w => restD a m D n u hd (lt18 a ha) w
  have he := fun w => euclid_any (a % m) m hM (Nat.mod_lt _ (by omega)) w
  rw [hE] at he
  obtain ⟨A, hA⟩ : ∃ A, a % m = A := ⟨_, rfl⟩
  rw [hA] at hr he
  have HR : Hid (∀ w, Calls Tryz.prog 127 #[.agg (dv D (n + 1) u), .agg (nw 18 a)] w fun e w' => e = .returned (.agg (nw 9 A)) ∧ Gr w w') := hr
  have HE : Hid (∀ w, Calls Tryz.prog 129 #[.agg (nw 9 A), .agg (nw 9 m)] w fun e w' => e = .returned (.tuple #[.agg (nw 9 gg), .agg (nw 9 ff), .bool δ]) ∧ Gr w w') := he
  have hs := fun w => sub_any m ff hM (Nat.lt_of_le_of_lt hf hM) w
  have hsm : (m + M - ff) % M = m - ff := by
    rw [show m + M - ff = (m - ff) + M by omega, Nat.add_mod_right, Nat.mod_eq_of_lt (by omega)]
  rw [hsm, decide_eq_false (by omega)] at hs
  obtain ⟨S, hS⟩ : ∃ S, m - ff = S := ⟨_, rfl⟩
  rw [hS] at hs ⊢
  obtain ⟨X, hX⟩ : ∃ X, (if δ = true then S else ff) = X := ⟨_, rfl⟩
  rw [hX]
  have HS : Hid (∀ w, Calls Tryz.prog 108 #[.agg (nw 9 m), .agg (nw 9 ff)] w fun e w' => e = .returned (.tuple #[.agg (nw 9 S), .bool false]) ∧ Gr w w') := hs
  have e1 : eqN 9 m 1 = false := by rw [eqN9 m 1 hM (lt_M 1 (by decide))]; exact decide_eq_false (by omega)
  have e2 : eqN 9 gg 1 = decide (gg = 1) := eqN9 gg 1 hg (lt_M 1 (by decide))
  have HX : Hid (Unit → (δ = false → X = ff) ∧ (δ = true → X = S)) := fun _ => by
    rw [← hX]
    exact ⟨fun h => by rw [h]; rfl, fun h => by rw [h]; rfl⟩
  clear hr he hA hd hD hs hsm hS ha hm hM hE hg hf hX
  go_enter Tryz.func123, Tryz.ntmps123
  go_wp2_with (first
    | (go_at_call 125; refine (HZ.out _).mono ?_; rintro e w' ⟨rfl, g, rfl⟩)
    | (go_at_call 104; refine (HO.out _).mono ?_; rintro e w' ⟨rfl, g1, rfl⟩))
  refine wp_region_mix (by kernel_rfl) (by kernel_rfl) (RG _ (fun i => match i with | 0 => some (.agg (nw 9 m)) | 1 => some (.agg (dv D (n + 1) u)) | 2 => some (.agg (nw 9 a)) | 3 => some (.agg (nw 18 a)) | 4 => some (.agg (nw 9 A)) | 5 => some (.agg (nw 9 m)) | 6 => some (.tuple #[.agg (nw 9 gg), .agg (nw 9 ff), .bool δ]) | 7 => some (.tuple #[.agg (nw 9 gg), .agg (nw 9 ff), .bool δ]) | 8 => some (.agg (nw 9 gg)) | 9 => some (.agg (nw 9 ff)) | 10 => some (.bool δ) | 15 => some (.bool δ) | _ => none) (fun i => match i with | 11 => some (nw 9 0) | 12 => some (nw 9 0) | _ => none) (fun i => match i with | 11 => some (13, nw 9 gg) | 12 => some (14, nw 9 ff) | _ => none)) (RG.start _ _ _ _ _ _) ?hs ?hf
  case hs =>
    intro listed vals a1 v1 i o hz hR hF ho hl hd
    have hks : ∀ (j k : Nat) (r : Array Value), (match j with | 11 => some (13, nw 9 gg) | 12 => some (14, nw 9 ff) | _ => (none : Option (Nat × Array Value))) = some (k, r) → (j = 11 ∧ k = 13) ∨ (j = 12 ∧ k = 14) := fun j k r h => by
      split at h <;> simp_all
    have hbm : blk v1 (w.heap.size + 1) = nw 9 m := (blk_of _ _ _ (hR.1.below.block (w.heap.size + 1) (by simp [go_sem] <;> omega))).trans (by simp [go_sem])
    have hba : blk v1 (w.heap.size) = nw 9 a := (blk_of _ _ _ (hR.1.below.block (w.heap.size) (by simp [go_sem] <;> omega))).trans (by simp [go_sem])
    have hbr : blk v1 (w.heap.size + 1 + 1) = nw 9 0 := (blk_of _ _ _ (hR.1.below.block (w.heap.size + 1 + 1) (by simp [go_sem] <;> omega))).trans (by simp [go_sem])
    have hb6 : blk v1 ((w.heap.size + 1 + 1 + 1 + (g.os.length + g1.os.length))) = nw 9 1 := (blk_of _ _ _ (hR.1.below.block ((w.heap.size + 1 + 1 + 1 + (g.os.length + g1.os.length))) (by simp [go_sem] <;> omega))).trans (by simp [go_sem])
    have hi : i < 16 := by simpa using (Array.getElem?_eq_some_iff.1 ho).1
    have hil : i < listed.size := by rw [hz]; simpa using hi
    obtain rfl | rfl | rfl | rfl | rfl | rfl | rfl | rfl | rfl | rfl | rfl | rfl | rfl | rfl | rfl | rfl : i = 0 ∨ i = 1 ∨ i = 2 ∨ i = 3 ∨ i = 4 ∨ i = 5 ∨ i = 6 ∨ i = 7 ∨ i = 8 ∨ i = 9 ∨ i = 10 ∨ i = 11 ∨ i = 12 ∨ i = 13 ∨ i = 14 ∨ i = 15 := by omega
    · obtain rfl := Option.some.inj ho
      have f0 := hF.old (s := 3) (v := .pointer (some ⟨w.heap.size + 1, 0, none⟩)) (by kernel_rfl) rfl
      exact wp_val (.agg (nw 9 m)) (by simp [go_sem, f0, hbm]) ⟨_, rfl, RG.quiet 0 _ hil rfl rfl (fun j k r h => by have := hks j k r h; omega) (Gr.refl _) hR⟩
    · obtain rfl := Option.some.inj ho
      have l0 := hd ⟨0, .data⟩ (by simp) rfl
      have f0 := hF.at (s := 19) (i := 0) (by kernel_rfl) (by simp) l0
      rw [hR.2.1 0 _ l0 rfl] at f0
      exact wp_ret (.agg (dv D (n + 1) u)) (by simp [go_sem, f0]) (HD.out _) (fun w2 hg => ⟨_, rfl, RG.quiet 1 _ hil rfl rfl (fun j k r h => by have := hks j k r h; omega) hg hR⟩)
    · obtain rfl := Option.some.inj ho
      have f0 := hF.old (s := 2) (v := .pointer (some ⟨w.heap.size, 0, none⟩)) (by kernel_rfl) rfl
      exact wp_val (.agg (nw 9 a)) (by simp [go_sem, f0, hba]) ⟨_, rfl, RG.quiet 2 _ hil rfl rfl (fun j k r h => by have := hks j k r h; omega) (Gr.refl _) hR⟩
    · obtain rfl := Option.some.inj ho
      have l0 := hd ⟨2, .data⟩ (by simp) rfl
      have f0 := hF.at (s := 21) (i := 2) (by kernel_rfl) (by simp) l0
      rw [hR.2.1 2 _ l0 rfl] at f0
      exact wp_ret (.agg (nw 18 a)) (by simp [go_sem, f0]) (HW.out _) (fun w2 hg => ⟨_, rfl, RG.quiet 3 _ hil rfl rfl (fun j k r h => by have := hks j k r h; omega) hg hR⟩)
    · obtain rfl := Option.some.inj ho
      have l0 := hd ⟨1, .data⟩ (by simp) rfl
      have f0 := hF.at (s := 20) (i := 1) (by kernel_rfl) (by simp) l0
      rw [hR.2.1 1 _ l0 rfl] at f0
      have l1 := hd ⟨3, .data⟩ (by simp) rfl
      have f1 := hF.at (s := 22) (i := 3) (by kernel_rfl) (by simp) l1
      rw [hR.2.1 3 _ l1 rfl] at f1
      exact wp_ret (.agg (nw 9 A)) (by simp [go_sem, f0, f1]) (HR.out _) (fun w2 hg => ⟨_, rfl, RG.quiet 4 _ hil rfl rfl (fun j k r h => by have := hks j k r h; omega) hg hR⟩)
    · obtain rfl := Option.some.inj ho
      have f0 := hF.old (s := 3) (v := .pointer (some ⟨w.heap.size + 1, 0, none⟩)) (by kernel_rfl) rfl
      exact wp_val (.agg (nw 9 m)) (by simp [go_sem, f0, hbm]) ⟨_, rfl, RG.quiet 5 _ hil rfl rfl (fun j k r h => by have := hks j k r h; omega) (Gr.refl _) hR⟩
    · obtain rfl := Option.some.inj ho
      have l0 := hd ⟨4, .data⟩ (by simp) rfl
      have f0 := hF.at (s := 23) (i := 4) (by kernel_rfl) (by simp) l0
      rw [hR.2.1 4 _ l0 rfl] at f0
      have l1 := hd ⟨5, .data⟩ (by simp) rfl
      have f1 := hF.at (s := 24) (i := 5) (by kernel_rfl) (by simp) l1
      rw [hR.2.1 5 _ l1 rfl] at f1
      exact wp_ret (.tuple #[.agg (nw 9 gg), .agg (nw 9 ff), .bool δ]) (by simp [go_sem, f0, f1]) (HE.out _) (fun w2 hg => ⟨_, rfl, RG.quiet 6 _ hil rfl rfl (fun j k r h => by have := hks j k r h; omega) hg hR⟩)
    · obtain rfl := Option.some.inj ho
      have l0 := hd ⟨6, .data⟩ (by simp) rfl
      have f0 := hF.at (s := 25) (i := 6) (by kernel_rfl) (by simp) l0
      rw [hR.2.1 6 _ l0 rfl] at f0
      exact wp_val (.tuple #[.agg (nw 9 gg), .agg (nw 9 ff), .bool δ]) (by simp [go_sem, f0]) ⟨_, rfl, RG.quiet 7 _ hil rfl rfl (fun j k r h => by have := hks j k r h; omega) (Gr.refl _) hR⟩
    · obtain rfl := Option.some.inj ho
      have l0 := hd ⟨7, .data⟩ (by simp) rfl
      have f0 := hF.at (s := 18) (i := 7) (by kernel_rfl) (by simp) l0
      rw [hR.2.1 7 _ l0 rfl] at f0
      exact wp_val (.agg (nw 9 gg)) (by simp [go_sem, f0]) ⟨_, rfl, RG.quiet 8 _ hil rfl rfl (fun j k r h => by have := hks j k r h; omega) (Gr.refl _) hR⟩
    · obtain rfl := Option.some.inj ho
      have l0 := hd ⟨7, .data⟩ (by simp) rfl
      have f0 := hF.at (s := 18) (i := 7) (by kernel_rfl) (by simp) l0
      rw [hR.2.1 7 _ l0 rfl] at f0
      exact wp_val (.agg (nw 9 ff)) (by simp [go_sem, f0]) ⟨_, rfl, RG.quiet 9 _ hil rfl rfl (fun j k r h => by have := hks j k r h; omega) (Gr.refl _) hR⟩
    · obtain rfl := Option.some.inj ho
      have l0 := hd ⟨7, .data⟩ (by simp) rfl
      have f0 := hF.at (s := 18) (i := 7) (by kernel_rfl) (by simp) l0
      rw [hR.2.1 7 _ l0 rfl] at f0
      exact wp_val (.bool δ) (by simp [go_sem, f0]) ⟨_, rfl, RG.quiet 10 _ hil rfl rfl (fun j k r h => by have := hks j k r h; omega) (Gr.refl _) hR⟩
    · obtain rfl := Option.some.inj ho
      exact wp_val (.pointer (some ⟨v1.heap.size, 0, none⟩)) (w' := v1.alloc (.cells (nw 9 0) 25)) (by simp [go_sem]) ⟨_, rfl, RG.alloc 11 (nw 9 0) 25 hil hl rfl rfl (fun j k r h => by have := hks j k r h; omega) hR⟩
    · obtain rfl := Option.some.inj ho
      exact wp_val (.pointer (some ⟨v1.heap.size, 0, none⟩)) (w' := v1.alloc (.cells (nw 9 0) 25)) (by simp [go_sem]) ⟨_, rfl, RG.alloc 12 (nw 9 0) 25 hil hl rfl rfl (fun j k r h => by have := hks j k r h; omega) hR⟩
    · obtain rfl := Option.some.inj ho
      have l0 := hd ⟨11, .data⟩ (by simp) rfl
      have l1 := hd ⟨8, .data⟩ (by simp) rfl
      obtain ⟨B, h4, h5⟩ := hR.2.2.2
      obtain ⟨e1, e2, e3, e4, e5⟩ := h4 11 (nw 9 0) l0 rfl
      simp only [hl] at e5
      replace e5 : blk v1 (B 11) = nw 9 0 := e5
      have f0 := hF.at (s := 7) (i := 11) (by kernel_rfl) (by simp) l0
      rw [e1] at f0
      have f1 := hF.at (s := 26) (i := 8) (by kernel_rfl) (by simp) l1
      rw [hR.2.1 8 _ l1 rfl] at f1
      exact wp_skip (w' := setBlk v1 (B 11) (nw 9 gg)) (by simp [go_sem, f0, f1, e4, e5]) ⟨undef, rfl, RG.store 13 11 (nw 9 0) (nw 9 gg) (B 11) hil hl rfl rfl rfl l0 rfl (by rw [nw_size]; decide) e1 (fun k r h => by have := hks k _ r h; omega) hR⟩
    · obtain rfl := Option.some.inj ho
      have l0 := hd ⟨12, .data⟩ (by simp) rfl
      have l1 := hd ⟨9, .data⟩ (by simp) rfl
      obtain ⟨B, h4, h5⟩ := hR.2.2.2
      obtain ⟨e1, e2, e3, e4, e5⟩ := h4 12 (nw 9 0) l0 rfl
      simp only [hl] at e5
      replace e5 : blk v1 (B 12) = nw 9 0 := e5
      have f0 := hF.at (s := 8) (i := 12) (by kernel_rfl) (by simp) l0
      rw [e1] at f0
      have f1 := hF.at (s := 27) (i := 9) (by kernel_rfl) (by simp) l1
      rw [hR.2.1 9 _ l1 rfl] at f1
      exact wp_skip (w' := setBlk v1 (B 12) (nw 9 ff)) (by simp [go_sem, f0, f1, e4, e5]) ⟨undef, rfl, RG.store 14 12 (nw 9 0) (nw 9 ff) (B 12) hil hl rfl rfl rfl l0 rfl (by rw [nw_size]; decide) e1 (fun k r h => by have := hks k _ r h; omega) hR⟩
    · obtain rfl := Option.some.inj ho
      have l0 := hd ⟨10, .data⟩ (by simp) rfl
      have f0 := hF.at (s := 28) (i := 10) (by kernel_rfl) (by simp) l0
      rw [hR.2.1 10 _ l0 rfl] at f0
      exact wp_val (.bool δ) (by simp [go_sem, f0]) ⟨_, rfl, RG.quiet 15 _ hil rfl rfl (fun j k r h => by have := hks j k r h; omega) (Gr.refl _) hR⟩
  case hf =>
    intro listed vals a1 v1 hall hR hF
    have hbm : blk v1 (w.heap.size + 1) = nw 9 m := (blk_of _ _ _ (hR.1.below.block (w.heap.size + 1) (by simp [go_sem] <;> omega))).trans (by simp [go_sem])
    have phbm : Pre (w.heap.size + 1 + 1) v1.heap.size := Nat.le_trans (show w.heap.size + 1 + 1 ≤ _ from by simp [go_sem] <;> omega) hR.1.below.size
    have hba : blk v1 (w.heap.size) = nw 9 a := (blk_of _ _ _ (hR.1.below.block (w.heap.size) (by simp [go_sem] <;> omega))).trans (by simp [go_sem])
    have phba : Pre (w.heap.size + 1) v1.heap.size := Nat.le_trans (show w.heap.size + 1 ≤ _ from by simp [go_sem] <;> omega) hR.1.below.size
    have hbr : blk v1 (w.heap.size + 1 + 1) = nw 9 0 := (blk_of _ _ _ (hR.1.below.block (w.heap.size + 1 + 1) (by simp [go_sem] <;> omega))).trans (by simp [go_sem])
    have phbr : Pre (w.heap.size + 1 + 1 + 1) v1.heap.size := Nat.le_trans (show w.heap.size + 1 + 1 + 1 ≤ _ from by simp [go_sem] <;> omega) hR.1.below.size
    have hb6 : blk v1 ((w.heap.size + 1 + 1 + 1 + (g.os.length + g1.os.length))) = nw 9 1 := (blk_of _ _ _ (hR.1.below.block ((w.heap.size + 1 + 1 + 1 + (g.os.length + g1.os.length))) (by simp [go_sem] <;> omega))).trans (by simp [go_sem])
    have phb6 : Pre ((w.heap.size + 1 + 1 + 1 + (g.os.length + g1.os.length)) + 1) v1.heap.size := Nat.le_trans (show (w.heap.size + 1 + 1 + 1 + (g.os.length + g1.os.length)) + 1 ≤ _ from by simp [go_sem] <;> omega) hR.1.below.size
    have hV := hR.2.1
    obtain ⟨B, h4, h5⟩ := hR.2.2.2
    have x0 := hV 0 _ (hall 0 (by simp)) rfl
    have x1 := hV 1 _ (hall 1 (by simp)) rfl
    have x2 := hV 2 _ (hall 2 (by simp)) rfl
    have x3 := hV 3 _ (hall 3 (by simp)) rfl
    have x4 := hV 4 _ (hall 4 (by simp)) rfl
    have x5 := hV 5 _ (hall 5 (by simp)) rfl
    have x6 := hV 6 _ (hall 6 (by simp)) rfl
    have x7 := hV 7 _ (hall 7 (by simp)) rfl
    have x8 := hV 8 _ (hall 8 (by simp)) rfl
    have x9 := hV 9 _ (hall 9 (by simp)) rfl
    have x10 := hV 10 _ (hall 10 (by simp)) rfl
    have x15 := hV 15 _ (hall 15 (by simp)) rfl
    obtain ⟨x11, q11, p11, z11, y11⟩ := h4 11 _ (hall 11 (by simp)) rfl
    simp only [hall 13 (by simp), if_true] at y11
    replace p11 : Pre (B 11 + 1) v1.heap.size := p11
    replace y11 : blk v1 (B 11) = nw 9 gg := y11
    obtain ⟨x12, q12, p12, z12, y12⟩ := h4 12 _ (hall 12 (by simp)) rfl
    simp only [hall 14 (by simp), if_true] at y12
    replace p12 : Pre (B 12 + 1) v1.heap.size := p12
    replace y12 : blk v1 (B 12) = nw 9 ff := y12
    have hb1 := hR.1
    rw [hF.final (by kernel_rfl) hall]
    simp only [putFrom, Act.put, List.setIfInBounds_toArray, List.set_cons_zero, List.set_cons_succ, x0, x1, x2, x3, x4, x5, x6, x7, x8, x9, x10, x15, x11, x12]
    generalize B 11 = b11 at *
    generalize B 12 = b12 at *
    clear hV h4 h5 hR hF hall x0 x1 x2 x3 x4 x5 x6 x7 x8 x9 x10 x15 x11 x12
    have fr : frz v1 (w.heap.size + 1 + 1) = (0, 0) := hb1.frz0 _ (by simp [go_sem] <;> omega) (by simp [go_sem])
    have HG : Hid (Gr w v1) := by show Gr w v1; refine Gr.trans ?_ hb1; exact (by repeat (first | exact Gr.refl _ | apply Gr.drewN | apply Gr.drew | apply Gr.alloc | apply Gr.gro))
    have n12 : ¬ b12 = w.heap.size + 1 + 1 := fun e => by have h := q12; rw [e] at h; simp [go_sem] at h; omega
    have n12' : ¬ (w.heap.size + 1 + 1) = b12 := fun e => n12 e.symm
    have q12' : w.heap.size ≤ b12 := by have h := q12; simp [go_sem] at h; omega
    generalize (w.heap.size + 1 + 1 + 1 + (g.os.length + g1.os.length)) = b6 at *
    clear hb1 q11 q12
    by_cases h1 : gg = 1
    · rw [decide_eq_true h1] at e2
      have H1 : Hid (Unit → gg = 1) := fun _ => h1
      clear h1
      cases hδ : δ with
      | false =>
        have HXX := ((HX.out ()).1 hδ)
        have HXH : Hid (Unit → X = ff) := fun _ => HXX
        clear HXX HX
        subst hδ
        go_wp2_with (go_at_call 108; refine (HS.out _).mono ?_; rintro e w' ⟨rfl, g3, rfl⟩)
        refine bodyPost_ret (res_two Tryz.results123 (rd_nat (x := ff) (by rfl) ?_) (rd_tmp (by rfl))) rfl ⟨⟨fun _ => by rw [HXH.out ()]; rfl, fun h => absurd (H1.out ()) h⟩, ?_⟩
        · simp [go_sem, *]
        · repeat (first | exact HG.out | apply Gr.drewN | apply Gr.drew | apply Gr.alloc | apply Gr.gro | (refine gr_setNew ?_ (by omega)))
      | true =>
        have HXX := ((HX.out ()).2 hδ)
        have HXH : Hid (Unit → X = S) := fun _ => HXX
        clear HXX HX
        subst hδ
        go_wp2_with (go_at_call 108; refine (HS.out _).mono ?_; rintro e w' ⟨rfl, g3, rfl⟩)
        refine bodyPost_ret (res_two Tryz.results123 (rd_nat (x := S) (by rfl) ?_) (rd_tmp (by rfl))) rfl ⟨⟨fun _ => by rw [HXH.out ()]; rfl, fun h => absurd (H1.out ()) h⟩, ?_⟩
        · simp [go_sem, *]
        · repeat (first | exact HG.out | apply Gr.drewN | apply Gr.drew | apply Gr.alloc | apply Gr.gro | (refine gr_setNew ?_ (by omega)))
    · rw [decide_eq_false h1] at e2
      have H1 : Hid (Unit → ¬ gg = 1) := fun _ => h1
      clear h1
      go_wp2_with fail
      refine bodyPost_ret (res_two Tryz.results123 (rd_nat (x := 0) (by rfl) ?_) (rd_tmp (by rfl))) rfl ⟨⟨fun h => absurd h (H1.out ()), fun _ => rfl⟩, ?_⟩
      · simp [go_sem, *]
      · repeat (first | exact HG.out | apply Gr.drewN | apply Gr.drew | apply Gr.alloc | apply Gr.gro | (refine gr_setNew ?_ (by omega)))
theorem gcd_lt (m a : Nat) (h : 0 < m) (hM : m < M) : Nat.gcd m a < M := Nat.lt_of_le_of_lt (Nat.gcd_le_left a h) hM
/-- There is an inverse. -/
theorem inv_some (a m : Nat) (ha : a < M) (hm : 1 < m) (hM : m < M) (hg : Nat.gcd m a = 1) :
    ∃ x, x < m ∧ a * x % m = 1 ∧ ∀ w, Calls Tryz.prog 123 #[.agg (nw 9 a), .agg (nw 9 m)] w fun e w' => e = .returned (.tuple #[.agg (nw 9 x), .int .i64 0]) ∧ Gr w w' := by
  obtain ⟨g, f, δ, h1, h2, h3, h4⟩ := eu_inv a m hm
  have hg1 : g = 1 := by rw [h2, hg]
  obtain ⟨h5, h6⟩ := h4 hg1
  refine ⟨_, h5, h6, fun w => (inv_walk a m g f δ ha hm hM h1 (by rw [h2]; exact gcd_lt m a (by omega) hM) h3 w).mono fun e w' h => ?_⟩
  exact ⟨h.1.1 hg1, h.2⟩
end Go.Proofs.YtlbkhhihkomahaaGreat
namespace Go.Proofs.YtlbkhhihkomahaaGreat
open Go.RowKit
attribute [local go_sem ↓] loadNat_is loadArr_is loadWide_is loadArrW_is storeNat_is storeWide_is
attribute [local go_sem] loadNat loadArr loadWide loadArrW storeNat storeWide idxArr fold9 fold18 nw_size nw_elem pre_self pre_1 pre_2 pre_3 pre_4 pre_5 pre_6 pre_7 pre_8 pre_9 pre_10 pre_11 pre_12 pre_13 pre_14 pre_15 pre_16 pre_17 pre_18 pre_19 pre_20 pre_21 pre_22 pre_23 pre_24 pre_25 pre_26 pre_27 pre_28 pre_29 pre_30 pre_31 pre_32 pre_33 pre_34 pre_35 pre_36 pre_37 pre_38 pre_39 pre_40 gro_size gro_drew gro_drewN drew_gro drewN_gro gro_gro blk_gro frz_gro blk_drew frz_drew blk_drewN frz_drewN blk_alloc_at frz_alloc_at blk_alloc frz_alloc cell_gro frozen_gro cell_alloc_pre frozen_alloc_pre setCell_drewN alloc_drewN setBlk_drew setBlk_drewN setBlk_alloc_at setBlk_alloc setBlk_gro setCell_gro setCell_alloc_pre size_setBlk size_setCell
attribute [local go_sem ↓] loadDv_is load19_is storeDv_is store19_is copy_is
attribute [local go_sem] idx18 loadDv load19 storeDv store19 dv_size dv_9 dv_10 dv_e9 dv_e10 dv_elem fold11 fold19 setCell_in cell_in frozen_in frz_setBlk blk_setBlk setBlk_setBlk copy_run cpA_nw ones_nw

attribute [local go_sem ↓] loadMd_is storeMd_is buildMd_is Go.wp_at_zero Go.wp_at_succ
attribute [local go_sem] loadMd storeMd buildMd0 buildMd1 blk_other nw_ext9 nw_ext18 eqArr9 eqArr18

theorem eqN_no (x y : Nat) (hx : x < M) (hy : y < M) (h : x ≠ y) : eqN 9 x y = false := by
  rw [eqN9 x y hx hy]
  exact decide_eq_false h
end Go.Proofs.YtlbkhhihkomahaaGreat
namespace Go.Proofs.YtlbkhhihkomahaaGreat
open Go.RowKit
attribute [local go_sem ↓] loadNat_is loadArr_is loadWide_is loadArrW_is storeNat_is storeWide_is
attribute [local go_sem] loadNat loadArr loadWide loadArrW storeNat storeWide idxArr fold9 fold18 nw_size nw_elem pre_self pre_1 pre_2 pre_3 pre_4 pre_5 pre_6 pre_7 pre_8 pre_9 pre_10 pre_11 pre_12 pre_13 pre_14 pre_15 pre_16 pre_17 pre_18 pre_19 pre_20 pre_21 pre_22 pre_23 pre_24 pre_25 pre_26 pre_27 pre_28 pre_29 pre_30 pre_31 pre_32 pre_33 pre_34 pre_35 pre_36 pre_37 pre_38 pre_39 pre_40 gro_size gro_drew gro_drewN drew_gro drewN_gro gro_gro blk_gro frz_gro blk_drew frz_drew blk_drewN frz_drewN blk_alloc_at frz_alloc_at blk_alloc frz_alloc cell_gro frozen_gro cell_alloc_pre frozen_alloc_pre setCell_drewN alloc_drewN setBlk_drew setBlk_drewN setBlk_alloc_at setBlk_alloc setBlk_gro setCell_gro setCell_alloc_pre size_setBlk size_setCell
attribute [local go_sem ↓] loadDv_is load19_is storeDv_is store19_is copy_is
attribute [local go_sem] idx18 loadDv load19 storeDv store19 dv_size dv_9 dv_10 dv_e9 dv_e10 dv_elem fold11 fold19 setCell_in cell_in frozen_in frz_setBlk blk_setBlk setBlk_setBlk copy_run cpA_nw ones_nw

attribute [local go_sem ↓] loadMd_is storeMd_is buildMd_is Go.wp_at_zero Go.wp_at_succ
attribute [local go_sem] loadMd storeMd buildMd0 buildMd1 blk_other loadLo loadHi ext_lo ext_hi

theorem pre_up {b n : Nat} (h : Pre b n) : (∀ k, Pre b (n + k)) ∧ (∀ k l, Pre b (n + k + l)) ∧ (∀ k l j, Pre b (n + k + l + j)) := by
  unfold Pre at *
  exact ⟨fun k => by omega, fun k l => by omega, fun k l j => by omega⟩
set_option maxRecDepth 100000 in
set_option maxHeartbeats 1600000 in
theorem mfor_one (i m a b : Nat) (h1 : 1 ≤ i) (h2 : i ≤ 15) (hm : pN i = m) (hmM : m < M) (ha : a < M) (w : World) (hb : blk w b = nw 9 a) (hp : Pre (b + 1) w.heap.size) :
    Calls Tryz.prog 106 #[.int .i64 (i : Int), .slice (some ⟨b, 0, none⟩) 1 1] w fun e w' => e = .returned (.tuple #[.agg (nw 9 (if a < m then m else 0)), .int .i64 (if a < m then 0 else 501)]) ∧ Gr w w' := by
  have HO : Hid (∀ w, Calls Tryz.prog 63 #[.int .i64 (i : Int)] w fun e w' => e = .returned (.tuple #[.agg (nw 9 m), .bool true]) ∧ Gr w w') := fun w => hm ▸ of_yes i h1 h2 w
  obtain ⟨z, hz⟩ : ∃ z, cmpZ a m = z := ⟨_, rfl⟩
  have HC : Hid (∀ w, Calls Tryz.prog 94 #[.agg (nw 9 a), .agg (nw 9 m)] w fun e w' => e = .returned (.int .i64 z) ∧ Gr w w') := fun w => hz ▸ cmp_any a m ha hmM w
  have pp : ∀ k, Pre (b + 1) (w.heap.size + k) := fun k => by unfold Pre at *; omega
  have pp2 : ∀ k l, Pre (b + 1) (w.heap.size + k + l) := fun k l => by unfold Pre at *; omega
  have pp3 : ∀ k l j, Pre (b + 1) (w.heap.size + k + l + j) := fun k l j => by unfold Pre at *; omega
  have hbn : b < w.heap.size := hp
  by_cases hl : a < m
  · have hz1 : z = -1 := by rw [← hz]; unfold cmpZ; rw [if_pos hl]
    subst hz1
    rw [if_pos hl, if_pos hl]
    clear hz hl hm hmM ha h1 h2
    go_enter Tryz.func106, Tryz.ntmps106
    go_wp2_with (go_at_call 63; refine (HO.out _).mono ?_; rintro e w' ⟨rfl, g, rfl⟩)
    obtain ⟨b6, hb6⟩ : ∃ x, w.heap.size + 1 + g.os.length = x := ⟨_, rfl⟩
    rw [hb6]
    go_loopw [20] (fun j wr => ∃ k : Nat, k ≤ 1 ∧ j = .int .i64 (k : Int) ∧ Hid (Gr w wr ∧ Cl wr w.heap.size 0 ∧ Cl wr b6 m)) (fun j _ => ((1 : Int) - intOf j).toNat)
    case atStart =>
      subst hb6
      exact ⟨0, by decide, rfl, (by repeat (first | exact Gr.refl _ | apply Gr.drewN | apply Gr.drew | apply Gr.alloc | apply Gr.gro)), ⟨by simp [go_sem], by simp [go_sem], by simp [go_sem]⟩, ⟨by simp [go_sem], by simp [go_sem], by simp [go_sem]⟩⟩
    case round =>
      obtain ⟨k, hk, rfl, HV⟩ := hrel
      obtain ⟨G, ⟨h1, f1, p1⟩, ⟨h2, f2, p2⟩⟩ := HV.out
      have h3 : blk wr b = nw 9 a := by rw [G.blk _ hbn]; exact hb
      have p3 : Pre (b + 1) wr.heap.size := Nat.le_trans hp G.below.size
      have n1 : ¬ wr.heap.size = w.heap.size := by have : w.heap.size + 1 ≤ wr.heap.size := p1; omega
      clear G hb hp pp pp2 pp3
      obtain rfl | rfl : k = 0 ∨ k = 1 := by omega
      · go_wp2_with (go_at_call 94; refine (HC.out _).mono ?_; rintro e w' ⟨rfl, g2, rfl⟩)
        go_roundw
        case rel =>
          refine ⟨1, by decide, by go_num, ?_⟩
          obtain ⟨G, c1, c2⟩ := HV.out
          refine ⟨?_, c1.gr (by repeat (first | exact Gr.refl _ | apply Gr.drewN | apply Gr.drew | apply Gr.alloc | apply Gr.gro)), c2.gr (by repeat (first | exact Gr.refl _ | apply Gr.drewN | apply Gr.drew | apply Gr.alloc | apply Gr.gro))⟩
          repeat (first | exact G | apply Gr.drewN | apply Gr.drew | apply Gr.alloc | apply Gr.gro | (refine gr_setNew ?_ (by omega)))
        case measure => simp [intOf]
      · go_wp2_with fail
        refine bodyPost_ret (res_two Tryz.results106 (rd_md (x := m) (by rfl) ?_) (rd_tmp (by rfl))) rfl ⟨rfl, ?_⟩
        · simp [go_sem, *]
        · have hg := HV.out.1
          repeat (first | exact hg | apply Gr.drewN | apply Gr.drew | apply Gr.alloc | apply Gr.gro | (refine gr_setNew ?_ (by omega)))
  · have hz1 : 0 ≤ z := by rw [← hz]; unfold cmpZ; rw [if_neg hl]; split <;> omega
    rw [if_neg hl, if_neg hl]
    clear hz hl hm hmM ha h1 h2
    go_enter Tryz.func106, Tryz.ntmps106
    go_wp2_with (go_at_call 63; refine (HO.out _).mono ?_; rintro e w' ⟨rfl, g, rfl⟩)
    obtain ⟨b6, hb6⟩ : ∃ x, w.heap.size + 1 + g.os.length = x := ⟨_, rfl⟩
    rw [hb6]
    go_loopw [20] (fun j wr => j = .int .i64 0 ∧ Hid (Gr w wr ∧ Cl wr w.heap.size 0 ∧ Cl wr b6 m)) (fun j _ => ((1 : Int) - intOf j).toNat)
    case atStart =>
      subst hb6
      exact ⟨rfl, (by repeat (first | exact Gr.refl _ | apply Gr.drewN | apply Gr.drew | apply Gr.alloc | apply Gr.gro)), ⟨by simp [go_sem], by simp [go_sem], by simp [go_sem]⟩, ⟨by simp [go_sem], by simp [go_sem], by simp [go_sem]⟩⟩
    case round =>
      obtain ⟨rfl, HV⟩ := hrel
      obtain ⟨G, ⟨h1, f1, p1⟩, ⟨h2, f2, p2⟩⟩ := HV.out
      have h3 : blk wr b = nw 9 a := by rw [G.blk _ hbn]; exact hb
      have p3 : Pre (b + 1) wr.heap.size := Nat.le_trans hp G.below.size
      obtain ⟨P1, P2, P3⟩ := pre_up p1
      obtain ⟨Q1, Q2, Q3⟩ := pre_up p2
      obtain ⟨R1, R2, R3⟩ := pre_up p3
      clear G hb hp pp pp2 pp3
      go_wp2_with (go_at_call 94; refine (HC.out _).mono ?_; rintro e w' ⟨rfl, g2, rfl⟩)
      · refine bodyPost_ret (res_two Tryz.results106 (rd_md (x := 0) (by rfl) ?_) (rd_tmp (by rfl))) rfl ⟨rfl, ?_⟩
        · simp [go_sem, *]
        · have hg := HV.out.1
          repeat (first | exact hg | apply Gr.drewN | apply Gr.drew | apply Gr.alloc | apply Gr.gro | (refine gr_setNew ?_ (by omega)))

set_option maxRecDepth 100000 in
set_option maxHeartbeats 1600000 in
theorem mfor_two (i m a c b X : Nat) (h1 : 1 ≤ i) (h2 : i ≤ 15) (hm : pN i = m) (hmM : m < M) (ha : a < M) (hc : c < M) (hX : X = mvN a c) (w : World) (hb : blk w b = nw 18 X) (hp : Pre (b + 1) w.heap.size) :
    Calls Tryz.prog 106 #[.int .i64 (i : Int), .slice (some ⟨b, 0, none⟩) 2 2] w fun e w' => e = .returned (.tuple #[.agg (nw 9 (if a < m ∧ c < m then m else 0)), .int .i64 (if a < m ∧ c < m then 0 else 501)]) ∧ Gr w w' := by
  have HO : Hid (∀ w, Calls Tryz.prog 63 #[.int .i64 (i : Int)] w fun e w' => e = .returned (.tuple #[.agg (nw 9 m), .bool true]) ∧ Gr w w') := fun w => hm ▸ of_yes i h1 h2 w
  have elo : nw 9 X = nw 9 a := by rw [hX]; exact mv_lo a c ha
  have ehi : nw 9 (X / pw 9) = nw 9 c := by rw [hX]; exact mv_hi a c ha
  obtain ⟨z, hz⟩ : ∃ z, cmpZ a m = z := ⟨_, rfl⟩
  have HC0 : Hid (∀ w, Calls Tryz.prog 94 #[.agg (nw 9 a), .agg (nw 9 m)] w fun e w' => e = .returned (.int .i64 z) ∧ Gr w w') := fun w => hz ▸ cmp_any a m ha hmM w
  obtain ⟨y, hy⟩ : ∃ z, cmpZ c m = z := ⟨_, rfl⟩
  have HC1 : Hid (∀ w, Calls Tryz.prog 94 #[.agg (nw 9 c), .agg (nw 9 m)] w fun e w' => e = .returned (.int .i64 y) ∧ Gr w w') := fun w => hy ▸ cmp_any c m hc hmM w
  have hbn : b < w.heap.size := hp
  by_cases hl : a < m
  · have hz1 : z = -1 := by rw [← hz]; unfold cmpZ; rw [if_pos hl]
    subst hz1
    by_cases hr : c < m
    · have hy1 : y = -1 := by rw [← hy]; unfold cmpZ; rw [if_pos hr]
      subst hy1
      rw [if_pos ⟨hl, hr⟩, if_pos ⟨hl, hr⟩]
      clear hz hy hl hr hm hmM ha hc hX h1 h2
      go_enter Tryz.func106, Tryz.ntmps106
      go_wp2_with (go_at_call 63; refine (HO.out _).mono ?_; rintro e w' ⟨rfl, g, rfl⟩)
      obtain ⟨b6, hb6⟩ : ∃ x, w.heap.size + 1 + g.os.length = x := ⟨_, rfl⟩
      rw [hb6]
      go_loopw [20] (fun j wr => ∃ k : Nat, k ≤ 2 ∧ j = .int .i64 (k : Int) ∧ Hid (Gr w wr ∧ Cl wr w.heap.size 0 ∧ Cl wr b6 m)) (fun j _ => ((2 : Int) - intOf j).toNat)
      case atStart =>
        subst hb6
        exact ⟨0, by decide, rfl, (by repeat (first | exact Gr.refl _ | apply Gr.drewN | apply Gr.drew | apply Gr.alloc | apply Gr.gro)), ⟨by simp [go_sem], by simp [go_sem], by simp [go_sem]⟩, ⟨by simp [go_sem], by simp [go_sem], by simp [go_sem]⟩⟩
      case round =>
        obtain ⟨k, hk, rfl, HV⟩ := hrel
        obtain ⟨G, ⟨h1, f1, p1⟩, ⟨h2, f2, p2⟩⟩ := HV.out
        have h3 : blk wr b = nw 18 X := by rw [G.blk _ hbn]; exact hb
        have p3 : Pre (b + 1) wr.heap.size := Nat.le_trans hp G.below.size
        obtain ⟨P1, P2, P3⟩ := pre_up p1
        obtain ⟨Q1, Q2, Q3⟩ := pre_up p2
        obtain ⟨R1, R2, R3⟩ := pre_up p3
        clear G hb hp
        obtain rfl | rfl | rfl : k = 0 ∨ k = 1 ∨ k = 2 := by omega
        · go_wp2_with (go_at_call 94; refine (HC0.out _).mono ?_; rintro e w' ⟨rfl, g2, rfl⟩)
          go_roundw
          case rel =>
            refine ⟨1, by decide, by go_num, ?_⟩
            obtain ⟨G, c1, c2⟩ := HV.out
            refine ⟨?_, c1.gr (by repeat (first | exact Gr.refl _ | apply Gr.drewN | apply Gr.drew | apply Gr.alloc | apply Gr.gro)), c2.gr (by repeat (first | exact Gr.refl _ | apply Gr.drewN | apply Gr.drew | apply Gr.alloc | apply Gr.gro))⟩
            repeat (first | exact G | apply Gr.drewN | apply Gr.drew | apply Gr.alloc | apply Gr.gro | (refine gr_setNew ?_ (by omega)))
          case measure => simp [intOf]
        · go_wp2_with (go_at_call 94; refine (HC1.out _).mono ?_; rintro e w' ⟨rfl, g2, rfl⟩)
          go_roundw
          case rel =>
            refine ⟨2, by decide, by go_num, ?_⟩
            obtain ⟨G, c1, c2⟩ := HV.out
            refine ⟨?_, c1.gr (by repeat (first | exact Gr.refl _ | apply Gr.drewN | apply Gr.drew | apply Gr.alloc | apply Gr.gro)), c2.gr (by repeat (first | exact Gr.refl _ | apply Gr.drewN | apply Gr.drew | apply Gr.alloc | apply Gr.gro))⟩
            repeat (first | exact G | apply Gr.drewN | apply Gr.drew | apply Gr.alloc | apply Gr.gro | (refine gr_setNew ?_ (by omega)))
          case measure => simp [intOf]
        · go_wp2_with fail
          refine bodyPost_ret (res_two Tryz.results106 (rd_md (x := m) (by rfl) ?_) (rd_tmp (by rfl))) rfl ⟨rfl, ?_⟩
          · simp [go_sem, *]
          · have hg := HV.out.1
            repeat (first | exact hg | apply Gr.drewN | apply Gr.drew | apply Gr.alloc | apply Gr.gro | (refine gr_setNew ?_ (by omega)))
    · have hy1 : 0 ≤ y := by rw [← hy]; unfold cmpZ; rw [if_neg hr]; split <;> omega
      rw [if_neg (fun h => hr h.2), if_neg (fun h => hr h.2)]
      clear hz hy hl hr hm hmM ha hc hX h1 h2
      go_enter Tryz.func106, Tryz.ntmps106
      go_wp2_with (go_at_call 63; refine (HO.out _).mono ?_; rintro e w' ⟨rfl, g, rfl⟩)
      obtain ⟨b6, hb6⟩ : ∃ x, w.heap.size + 1 + g.os.length = x := ⟨_, rfl⟩
      rw [hb6]
      go_loopw [20] (fun j wr => ∃ k : Nat, k ≤ 1 ∧ j = .int .i64 (k : Int) ∧ Hid (Gr w wr ∧ Cl wr w.heap.size 0 ∧ Cl wr b6 m)) (fun j _ => ((2 : Int) - intOf j).toNat)
      case atStart =>
        subst hb6
        exact ⟨0, by decide, rfl, (by repeat (first | exact Gr.refl _ | apply Gr.drewN | apply Gr.drew | apply Gr.alloc | apply Gr.gro)), ⟨by simp [go_sem], by simp [go_sem], by simp [go_sem]⟩, ⟨by simp [go_sem], by simp [go_sem], by simp [go_sem]⟩⟩
      case round =>
        obtain ⟨k, hk, rfl, HV⟩ := hrel
        obtain ⟨G, ⟨h1, f1, p1⟩, ⟨h2, f2, p2⟩⟩ := HV.out
        have h3 : blk wr b = nw 18 X := by rw [G.blk _ hbn]; exact hb
        have p3 : Pre (b + 1) wr.heap.size := Nat.le_trans hp G.below.size
        obtain ⟨P1, P2, P3⟩ := pre_up p1
        obtain ⟨Q1, Q2, Q3⟩ := pre_up p2
        obtain ⟨R1, R2, R3⟩ := pre_up p3
        clear G hb hp
        obtain rfl | rfl : k = 0 ∨ k = 1 := by omega
        · go_wp2_with (go_at_call 94; refine (HC0.out _).mono ?_; rintro e w' ⟨rfl, g2, rfl⟩)
          go_roundw
          case rel =>
            refine ⟨1, by decide, by go_num, ?_⟩
            obtain ⟨G, c1, c2⟩ := HV.out
            refine ⟨?_, c1.gr (by repeat (first | exact Gr.refl _ | apply Gr.drewN | apply Gr.drew | apply Gr.alloc | apply Gr.gro)), c2.gr (by repeat (first | exact Gr.refl _ | apply Gr.drewN | apply Gr.drew | apply Gr.alloc | apply Gr.gro))⟩
            repeat (first | exact G | apply Gr.drewN | apply Gr.drew | apply Gr.alloc | apply Gr.gro | (refine gr_setNew ?_ (by omega)))
          case measure => simp [intOf]
        · go_wp2_with (go_at_call 94; refine (HC1.out _).mono ?_; rintro e w' ⟨rfl, g2, rfl⟩)
          refine bodyPost_ret (res_two Tryz.results106 (rd_md (x := 0) (by rfl) ?_) (rd_tmp (by rfl))) rfl ⟨rfl, ?_⟩
          · simp [go_sem, *]
          · have hg := HV.out.1
            repeat (first | exact hg | apply Gr.drewN | apply Gr.drew | apply Gr.alloc | apply Gr.gro | (refine gr_setNew ?_ (by omega)))
  · have hz1 : 0 ≤ z := by rw [← hz]; unfold cmpZ; rw [if_neg hl]; split <;> omega
    rw [if_neg (fun h => hl h.1), if_neg (fun h => hl h.1)]
    clear hz hy hl hm hmM ha hc hX h1 h2
    go_enter Tryz.func106, Tryz.ntmps106
    go_wp2_with (go_at_call 63; refine (HO.out _).mono ?_; rintro e w' ⟨rfl, g, rfl⟩)
    obtain ⟨b6, hb6⟩ : ∃ x, w.heap.size + 1 + g.os.length = x := ⟨_, rfl⟩
    rw [hb6]
    go_loopw [20] (fun j wr => ∃ k : Nat, k ≤ 0 ∧ j = .int .i64 (k : Int) ∧ Hid (Gr w wr ∧ Cl wr w.heap.size 0 ∧ Cl wr b6 m)) (fun j _ => ((2 : Int) - intOf j).toNat)
    case atStart =>
      subst hb6
      exact ⟨0, by decide, rfl, (by repeat (first | exact Gr.refl _ | apply Gr.drewN | apply Gr.drew | apply Gr.alloc | apply Gr.gro)), ⟨by simp [go_sem], by simp [go_sem], by simp [go_sem]⟩, ⟨by simp [go_sem], by simp [go_sem], by simp [go_sem]⟩⟩
    case round =>
      obtain ⟨k, hk, rfl, HV⟩ := hrel
      obtain ⟨G, ⟨h1, f1, p1⟩, ⟨h2, f2, p2⟩⟩ := HV.out
      have h3 : blk wr b = nw 18 X := by rw [G.blk _ hbn]; exact hb
      have p3 : Pre (b + 1) wr.heap.size := Nat.le_trans hp G.below.size
      obtain ⟨P1, P2, P3⟩ := pre_up p1
      obtain ⟨Q1, Q2, Q3⟩ := pre_up p2
      obtain ⟨R1, R2, R3⟩ := pre_up p3
      clear G hb hp
      obtain rfl : k = 0 := by omega
      go_wp2_with (go_at_call 94; refine (HC0.out _).mono ?_; rintro e w' ⟨rfl, g2, rfl⟩)
      · refine bodyPost_ret (res_two Tryz.results106 (rd_md (x := 0) (by rfl) ?_) (rd_tmp (by rfl))) rfl ⟨rfl, ?_⟩
        · simp [go_sem, *]
        · have hg := HV.out.1
          repeat (first | exact hg | apply Gr.drewN | apply Gr.drew | apply Gr.alloc | apply Gr.gro | (refine gr_setNew ?_ (by omega)))

end Go.Proofs.YtlbkhhihkomahaaGreat
namespace Go.Proofs.YtlbkhhihkomahaaGreat
open Go.RowKit
def fnT (n : Nat) : Value := .func (.func n) #[] #[]
def tab2 : Array Value := #[fnT 110, fnT 111, fnT 112]
def tab1 : Array Value := #[fnT 118, fnT 119]
theorem tab2_is : #[Value.func (.func 110) #[] #[], Value.func (.func 111) #[] #[], Value.func (.func 112) #[] #[]] = tab2 := rfl
theorem tab1_is : #[Value.func (.func 118) #[] #[], Value.func (.func 119) #[] #[]] = tab1 := rfl
theorem storeT2_is (p v : Value) : Instr.storeAt 133 p v = storeS 133 p v := rfl
theorem storeT1_is (p v : Value) : Instr.storeAt 141 p v = storeS 141 p v := rfl
theorem storeT2 (w : World) (b : Nat) (hs : (blk w b).size = 3) (hf : frz w b = (0, 0)) : (storeS 133 (.pointer (some ⟨b, 0, none⟩)) (.agg tab2)).run Tryz.prog w = .ok () (setBlk w b tab2) :=
  storeS_run 3 (by decide) (by kernel_rfl) w b tab2 rfl (by simp [tab2, fnT, Value.oneCell']) hs hf
theorem storeT1 (w : World) (b : Nat) (hs : (blk w b).size = 2) (hf : frz w b = (0, 0)) : (storeS 141 (.pointer (some ⟨b, 0, none⟩)) (.agg tab1)).run Tryz.prog w = .ok () (setBlk w b tab1) :=
  storeS_run 2 (by decide) (by kernel_rfl) w b tab1 rfl (by simp [tab1, fnT, Value.oneCell']) hs hf
theorem idx2_0 (w : World) : (Instr.index 133 (.agg tab2) (.int .i64 0)).run Tryz.prog w = .ok (.func (.func 110) #[] #[]) w := by kernel_rfl
theorem idx2_1 (w : World) : (Instr.index 133 (.agg tab2) (.int .i64 1)).run Tryz.prog w = .ok (.func (.func 111) #[] #[]) w := by kernel_rfl
theorem idx2_2 (w : World) : (Instr.index 133 (.agg tab2) (.int .i64 2)).run Tryz.prog w = .ok (.func (.func 112) #[] #[]) w := by kernel_rfl
theorem idx1_0 (w : World) : (Instr.index 141 (.agg tab1) (.int .i64 0)).run Tryz.prog w = .ok (.func (.func 118) #[] #[]) w := by kernel_rfl
theorem idx1_1 (w : World) : (Instr.index 141 (.agg tab1) (.int .i64 1)).run Tryz.prog w = .ok (.func (.func 119) #[] #[]) w := by kernel_rfl
attribute [local go_sem ↓] loadNat_is loadArr_is loadWide_is loadArrW_is storeNat_is storeWide_is
attribute [local go_sem] loadNat loadArr loadWide loadArrW storeNat storeWide idxArr fold9 fold18 nw_size nw_elem pre_self pre_1 pre_2 pre_3 pre_4 pre_5 pre_6 pre_7 pre_8 pre_9 pre_10 pre_11 pre_12 pre_13 pre_14 pre_15 pre_16 pre_17 pre_18 pre_19 pre_20 pre_21 pre_22 pre_23 pre_24 pre_25 pre_26 pre_27 pre_28 pre_29 pre_30 pre_31 pre_32 pre_33 pre_34 pre_35 pre_36 pre_37 pre_38 pre_39 pre_40 gro_size gro_drew gro_drewN drew_gro drewN_gro gro_gro blk_gro frz_gro blk_drew frz_drew blk_drewN frz_drewN blk_alloc_at frz_alloc_at blk_alloc frz_alloc cell_gro frozen_gro cell_alloc_pre frozen_alloc_pre setCell_drewN alloc_drewN setBlk_drew setBlk_drewN setBlk_alloc_at setBlk_alloc setBlk_gro setCell_gro setCell_alloc_pre size_setBlk size_setCell
attribute [local go_sem ↓] loadDv_is load19_is storeDv_is store19_is copy_is
attribute [local go_sem] idx18 loadDv load19 storeDv store19 dv_size dv_9 dv_10 dv_e9 dv_e10 dv_elem fold11 fold19 setCell_in cell_in frozen_in frz_setBlk blk_setBlk setBlk_setBlk copy_run cpA_nw ones_nw

attribute [local go_sem ↓] storeT2_is storeT1_is
attribute [local go_sem] storeT2 storeT1 tab2_is tab1_is
set_option maxRecDepth 100000 in
set_option maxHeartbeats 400000 in
theorem ofTwo_any (w : World) :
    Calls Tryz.prog 107 #[] w fun e w' => e = .returned (.agg tab2) ∧ Gr w w' := by
  go_enter Tryz.func107, Tryz.ntmps107
  go_wp2
  refine bodyPost_ret (res_one Tryz.results107 (rd_cell (c := tab2) 3 Tryz.underlying133 rfl (by kernel_rfl) (by rfl) ?_ rfl)) rfl ⟨rfl, (by repeat (first | exact Gr.refl _ | apply Gr.drewN | apply Gr.drew | apply Gr.alloc | apply Gr.gro))⟩
  simp [go_sem]
set_option maxRecDepth 100000 in
set_option maxHeartbeats 400000 in
theorem ofOne_any (w : World) :
    Calls Tryz.prog 114 #[] w fun e w' => e = .returned (.agg tab1) ∧ Gr w w' := by
  go_enter Tryz.func114, Tryz.ntmps114
  go_wp2
  refine bodyPost_ret (res_one Tryz.results114 (rd_cell (c := tab1) 2 Tryz.underlying141 rfl (by kernel_rfl) (by rfl) ?_ rfl)) rfl ⟨rfl, (by repeat (first | exact Gr.refl _ | apply Gr.drewN | apply Gr.drew | apply Gr.alloc | apply Gr.gro))⟩
  simp [go_sem]

end Go.Proofs.YtlbkhhihkomahaaGreat
namespace Go.Proofs.YtlbkhhihkomahaaGreat
open Go.RowKit
attribute [local go_sem ↓] loadNat_is loadArr_is loadWide_is loadArrW_is storeNat_is storeWide_is
attribute [local go_sem] loadNat loadArr loadWide loadArrW storeNat storeWide idxArr fold9 fold18 nw_size nw_elem pre_self pre_1 pre_2 pre_3 pre_4 pre_5 pre_6 pre_7 pre_8 pre_9 pre_10 pre_11 pre_12 pre_13 pre_14 pre_15 pre_16 pre_17 pre_18 pre_19 pre_20 pre_21 pre_22 pre_23 pre_24 pre_25 pre_26 pre_27 pre_28 pre_29 pre_30 pre_31 pre_32 pre_33 pre_34 pre_35 pre_36 pre_37 pre_38 pre_39 pre_40 gro_size gro_drew gro_drewN drew_gro drewN_gro gro_gro blk_gro frz_gro blk_drew frz_drew blk_drewN frz_drewN blk_alloc_at frz_alloc_at blk_alloc frz_alloc cell_gro frozen_gro cell_alloc_pre frozen_alloc_pre setCell_drewN alloc_drewN setBlk_drew setBlk_drewN setBlk_alloc_at setBlk_alloc setBlk_gro setCell_gro setCell_alloc_pre size_setBlk size_setCell
attribute [local go_sem ↓] loadDv_is load19_is storeDv_is store19_is copy_is
attribute [local go_sem] idx18 loadDv load19 storeDv store19 dv_size dv_9 dv_10 dv_e9 dv_e10 dv_elem fold11 fold19 setCell_in cell_in frozen_in frz_setBlk blk_setBlk setBlk_setBlk copy_run cpA_nw ones_nw

attribute [local go_sem ↓] loadMd_is storeMd_is buildMd_is Go.wp_at_zero Go.wp_at_succ
attribute [local go_sem] loadMd storeMd buildMd0 buildMd1 blk_other nw_ext9 nw_ext18 eqArr9 eqArr18

set_option maxRecDepth 100000 in
set_option maxHeartbeats 1600000 in
theorem finv_some (m a : Nat) (ha : 0 < a) (ham : a < m) (hM : m < M) (h1 : 1 < m) (hg : Nat.gcd m a = 1) :
    ∃ x, x < m ∧ a * x % m = 1 ∧ ∀ w, Calls Tryz.prog 118 #[.agg (nw 9 m), .agg (nw 9 a)] w fun e w' => e = .returned (.tuple #[.agg (nw 9 x), .int .i64 0]) ∧ Gr w w' := by
  obtain ⟨x, hx, hax, hc⟩ := inv_some a m (by omega) h1 hM hg
  refine ⟨x, hx, hax, fun w => ?_⟩
  have HI : Hid (∀ w, Calls Tryz.prog 123 #[.agg (nw 9 a), .agg (nw 9 m)] w fun e w' => e = .returned (.tuple #[.agg (nw 9 x), .int .i64 0]) ∧ Gr w w') := hc
  have e1 : eqN 9 a 0 = false := eqN_no a 0 (by omega) M_pos (by omega)
  clear hc hx hax ha ham hM h1 hg
  go_enter Tryz.func118, Tryz.ntmps118
  go_wp2_with (go_at_call 123; refine (HI.out _).mono ?_; rintro e w' ⟨rfl, g, rfl⟩)
  refine bodyPost_ret (res_two Tryz.results118 (rd_nat (x := x) (by rfl) ?_) (rd_tmp (by rfl))) rfl ⟨rfl, (by repeat (first | exact Gr.refl _ | apply Gr.drewN | apply Gr.drew | apply Gr.alloc | apply Gr.gro))⟩
  simp [go_sem]


end Go.Proofs.YtlbkhhihkomahaaGreat
namespace Go.Proofs.YtlbkhhihkomahaaGreat
open Go.RowKit
attribute [local go_sem ↓] loadNat_is loadArr_is loadWide_is loadArrW_is storeNat_is storeWide_is
attribute [local go_sem] loadNat loadArr loadWide loadArrW storeNat storeWide idxArr fold9 fold18 nw_size nw_elem pre_self pre_1 pre_2 pre_3 pre_4 pre_5 pre_6 pre_7 pre_8 pre_9 pre_10 pre_11 pre_12 pre_13 pre_14 pre_15 pre_16 pre_17 pre_18 pre_19 pre_20 pre_21 pre_22 pre_23 pre_24 pre_25 pre_26 pre_27 pre_28 pre_29 pre_30 pre_31 pre_32 pre_33 pre_34 pre_35 pre_36 pre_37 pre_38 pre_39 pre_40 gro_size gro_drew gro_drewN drew_gro drewN_gro gro_gro blk_gro frz_gro blk_drew frz_drew blk_drewN frz_drewN blk_alloc_at frz_alloc_at blk_alloc frz_alloc cell_gro frozen_gro cell_alloc_pre frozen_alloc_pre setCell_drewN alloc_drewN setBlk_drew setBlk_drewN setBlk_alloc_at setBlk_alloc setBlk_gro setCell_gro setCell_alloc_pre size_setBlk size_setCell
attribute [local go_sem ↓] loadDv_is load19_is storeDv_is store19_is copy_is
attribute [local go_sem] idx18 loadDv load19 storeDv store19 dv_size dv_9 dv_10 dv_e9 dv_e10 dv_elem fold11 fold19 setCell_in cell_in frozen_in frz_setBlk blk_setBlk setBlk_setBlk copy_run cpA_nw ones_nw

attribute [local go_sem] loadNat2 loadArr2 loadWide2 loadK_nw ppre_1 ppre_2 ppre_3 ppre_4 ppre_5 ppre_6 ppre_7 ppre_8 ppre_9 ppre_10 ppre_11 ppre_12 ppre_13 ppre_14 ppre_15 ppre_16 ppre_17 ppre_18 ppre_19 ppre_20

attribute [local go_sem ↓] loadMd_is storeMd_is buildMd_is Go.wp_at_zero Go.wp_at_succ
attribute [local go_sem] loadMd storeMd buildMd0 buildMd1 blk_other nw_ext9 nw_ext18 eqArr9 eqArr18

theorem loadMd2 (w : World) (b : Nat) : (loadS 129 (.pointer (some ⟨b, 0, none⟩))).run Tryz.prog w = loadK 9 (blk w b) (failL Tryz.prog 129 b w) w := by
  unfold loadK
  split
  · rename_i h; exact loadMd w b h
  · rfl
attribute [local go_sem] loadMd2
theorem Cl.pp {v : World} {b x : Nat} (h : Cl v b x) : (∀ k, Pre (b + 1) (v.heap.size + k)) ∧ (∀ k l, Pre (b + 1) (v.heap.size + k + l)) ∧ (∀ k l j, Pre (b + 1) (v.heap.size + k + l + j)) := by
  have := h.p
  unfold Pre at *
  exact ⟨fun k => by omega, fun k l => by omega, fun k l j => by omega⟩
end Go.Proofs.YtlbkhhihkomahaaGreat
namespace Go.Proofs.YtlbkhhihkomahaaGreat
open Go.RowKit
def bslF (t : TypeId) (n : Nat) (p : Array (Nat × Value)) : Sem Value := Instr.buildSlice t n p
theorem bslN_is (n : Nat) (p : Array (Nat × Value)) : Instr.buildSlice 127 n p = bslF 127 n p := rfl
theorem bsl2 (a b : Nat) (w : World) : (bslF 127 2 #[(0, .agg (nw 9 a)), (1, .agg (nw 9 b))]).run Tryz.prog w = .ok (.slice (some ⟨w.heap.size, 0, none⟩) 2 2) (w.alloc (.cells (nw 9 a ++ nw 9 b) 25)) := by kernel_rfl
theorem bsl1 (a : Nat) (w : World) : (bslF 127 1 #[(0, .agg (nw 9 a))]).run Tryz.prog w = .ok (.slice (some ⟨w.heap.size, 0, none⟩) 1 1) (w.alloc (.cells (nw 9 a) 25)) := by kernel_rfl
attribute [local go_sem ↓] loadNat_is loadArr_is loadWide_is loadArrW_is storeNat_is storeWide_is
attribute [local go_sem] loadNat loadArr loadWide loadArrW storeNat storeWide idxArr fold9 fold18 nw_size nw_elem pre_self pre_1 pre_2 pre_3 pre_4 pre_5 pre_6 pre_7 pre_8 pre_9 pre_10 pre_11 pre_12 pre_13 pre_14 pre_15 pre_16 pre_17 pre_18 pre_19 pre_20 pre_21 pre_22 pre_23 pre_24 pre_25 pre_26 pre_27 pre_28 pre_29 pre_30 pre_31 pre_32 pre_33 pre_34 pre_35 pre_36 pre_37 pre_38 pre_39 pre_40 gro_size gro_drew gro_drewN drew_gro drewN_gro gro_gro blk_gro frz_gro blk_drew frz_drew blk_drewN frz_drewN blk_alloc_at frz_alloc_at blk_alloc frz_alloc cell_gro frozen_gro cell_alloc_pre frozen_alloc_pre setCell_drewN alloc_drewN setBlk_drew setBlk_drewN setBlk_alloc_at setBlk_alloc setBlk_gro setCell_gro setCell_alloc_pre size_setBlk size_setCell
attribute [local go_sem ↓] loadDv_is load19_is storeDv_is store19_is copy_is
attribute [local go_sem] idx18 loadDv load19 storeDv store19 dv_size dv_9 dv_10 dv_e9 dv_e10 dv_elem fold11 fold19 setCell_in cell_in frozen_in frz_setBlk blk_setBlk setBlk_setBlk copy_run cpA_nw ones_nw

attribute [local go_sem] loadNat2 loadArr2 loadWide2 loadK_nw ppre_1 ppre_2 ppre_3 ppre_4 ppre_5 ppre_6 ppre_7 ppre_8 ppre_9 ppre_10 ppre_11 ppre_12 ppre_13 ppre_14 ppre_15 ppre_16 ppre_17 ppre_18 ppre_19 ppre_20

attribute [local go_sem ↓] loadMd_is storeMd_is buildMd_is bslN_is Go.wp_at_zero Go.wp_at_succ
attribute [local go_sem] loadMd loadMd2 storeMd buildMd0 buildMd1 blk_other idx2_0 idx2_1 idx2_2 idx1_0 idx1_1 bsl2 bsl1


set_option maxRecDepth 100000 in
set_option maxHeartbeats 1600000 in
theorem onTwo_add (x : Int) (m a b R : Nat) (HM : ∀ w p, blk w p = nw 9 a ++ nw 9 b → Pre (p + 1) w.heap.size → Calls Tryz.prog 106 #[.int .i64 x, .slice (some ⟨p, 0, none⟩) 2 2] w fun e w' => e = .returned (.tuple #[.agg (nw 9 m), .int .i64 0]) ∧ Gr w w')
    (HF : ∀ w, Calls Tryz.prog 110 #[.agg (nw 9 m), .agg (nw 9 a), .agg (nw 9 b)] w fun e w' => e = .returned (.agg (nw 9 R)) ∧ Gr w w') (w : World) :
    Calls Tryz.prog 101 #[.int .i64 0, .int .i64 x, .agg (nw 9 a), .agg (nw 9 b)] w fun e w' => e = .returned (.tuple #[.agg (nw 9 R), .int .i64 0]) ∧ Gr w w' := by
  have HM' : Hid (∀ w p, blk w p = nw 9 a ++ nw 9 b → Pre (p + 1) w.heap.size → Calls Tryz.prog 106 #[.int .i64 x, .slice (some ⟨p, 0, none⟩) 2 2] w fun e w' => e = .returned (.tuple #[.agg (nw 9 m), .int .i64 0]) ∧ Gr w w') := HM
  have HF' : Hid (∀ w, Calls Tryz.prog 110 #[.agg (nw 9 m), .agg (nw 9 a), .agg (nw 9 b)] w fun e w' => e = .returned (.agg (nw 9 R)) ∧ Gr w w') := HF
  have HT : Hid (∀ w, Calls Tryz.prog 107 #[] w fun e w' => e = .returned (.agg tab2) ∧ Gr w w') := fun w => ofTwo_any w
  clear HM HF
  go_enter Tryz.func101, Tryz.ntmps101
  go_upto_region 4 with (go_at_call 106; refine (HM'.out _ _ ?_ ?_).mono ?_; · simp [go_sem]
                         · simp [go_sem]
                         rintro e w' ⟨rfl, g, rfl⟩)
  obtain ⟨b10, hb10⟩ : ∃ b, w.heap.size + 1 + 1 + 1 + 1 + g.os.length = b := ⟨_, rfl⟩
  rw [hb10]
  refine gen_w (fun v => Hid (Gr w v ∧ Cl v w.heap.size a ∧ Cl v (w.heap.size + 1) b ∧ Cl v (w.heap.size + 1 + 1) 0 ∧ Cl v b10 m)) ?_ ?_
  · subst hb10
    exact ⟨(by repeat (first | exact Gr.refl _ | apply Gr.drewN | apply Gr.drew | apply Gr.alloc | apply Gr.gro)), ⟨by simp [go_sem], by simp [go_sem], by simp [go_sem]⟩, ⟨by simp [go_sem], by simp [go_sem], by simp [go_sem]⟩, ⟨by simp [go_sem], by simp [go_sem], by simp [go_sem]⟩, ⟨by simp [go_sem], by simp [go_sem], by simp [go_sem]⟩⟩
  intro v0 HV
  obtain ⟨G, c1, c2, c3, c4⟩ := HV.out
  have n1 : w.heap.size + 1 + 1 ≠ b10 := by omega
  refine wp_region_mix (by kernel_rfl) (by kernel_rfl) (RO _ (fun i => match i with | 0 => some (.agg tab2) | 1 => some (.int .i64 0) | 2 => some (.func (.func 110) #[] #[]) | 3 => some (.agg (nw 9 m)) | 4 => some (.agg (nw 9 a)) | 5 => some (.agg (nw 9 b)) | 6 => some (.agg (nw 9 R)) | 8 => some (.int .i64 0) | _ => none) 7 (w.heap.size + 1 + 1) (nw 9 R)) (RO.start _ _ _ _ _ _ _) ?hs ?hf
  case hs =>
    intro listed vals a1 v1 i o hz hR hF ho hl hd
    have hm : blk v1 (b10) = nw 9 m := (hR.blk (b10) c4.p (n1)).trans c4.h
    have ha : blk v1 (w.heap.size) = nw 9 a := (hR.blk (w.heap.size) c1.p (by omega)).trans c1.h
    have hb : blk v1 (w.heap.size + 1) = nw 9 b := (hR.blk (w.heap.size + 1) c2.p (by omega)).trans c2.h
    have hi : i < 9 := by simpa using (Array.getElem?_eq_some_iff.1 ho).1
    have hil : i < listed.size := by rw [hz]; simpa using hi
    obtain rfl | rfl | rfl | rfl | rfl | rfl | rfl | rfl | rfl : i = 0 ∨ i = 1 ∨ i = 2 ∨ i = 3 ∨ i = 4 ∨ i = 5 ∨ i = 6 ∨ i = 7 ∨ i = 8 := by omega
    · obtain rfl := Option.some.inj ho
      exact wp_ret (.agg tab2) (by simp [go_sem]) (HT.out _) (fun w2 hg => ⟨_, rfl, RO.quiet 0 _ rfl (by decide) hg hR⟩)
    · obtain rfl := Option.some.inj ho
      have f0 := hF.old (s := 0) (v := .int .i64 0) (by kernel_rfl) rfl
      exact wp_val (.int .i64 0) (by simp [go_sem, f0]) ⟨_, rfl, RO.quiet 1 _ rfl (by decide) (Gr.refl _) hR⟩
    · obtain rfl := Option.some.inj ho
      have l0 := hd ⟨0, .data⟩ (by simp) rfl
      have f0 := hF.at (s := 24) (i := 0) (by kernel_rfl) (by simp) l0
      rw [hR.1 0 _ l0 rfl] at f0
      have l1 := hd ⟨1, .data⟩ (by simp) rfl
      have f1 := hF.at (s := 25) (i := 1) (by kernel_rfl) (by simp) l1
      rw [hR.1 1 _ l1 rfl] at f1
      exact wp_val (.func (.func 110) #[] #[]) (by simp [go_sem, f0, f1]) ⟨_, rfl, RO.quiet 2 _ rfl (by decide) (Gr.refl _) hR⟩
    · obtain rfl := Option.some.inj ho
      have f0 := hF.old (s := 10) (v := .pointer (some ⟨b10, 0, none⟩)) (by kernel_rfl) rfl
      exact wp_val (.agg (nw 9 m)) (by simp [go_sem, f0, hm]) ⟨_, rfl, RO.quiet 3 _ rfl (by decide) (Gr.refl _) hR⟩
    · obtain rfl := Option.some.inj ho
      have f0 := hF.old (s := 6) (v := .pointer (some ⟨w.heap.size, 0, none⟩)) (by kernel_rfl) rfl
      exact wp_val (.agg (nw 9 a)) (by simp [go_sem, f0, ha]) ⟨_, rfl, RO.quiet 4 _ rfl (by decide) (Gr.refl _) hR⟩
    · obtain rfl := Option.some.inj ho
      have f0 := hF.old (s := 7) (v := .pointer (some ⟨w.heap.size + 1, 0, none⟩)) (by kernel_rfl) rfl
      exact wp_val (.agg (nw 9 b)) (by simp [go_sem, f0, hb]) ⟨_, rfl, RO.quiet 5 _ rfl (by decide) (Gr.refl _) hR⟩
    · obtain rfl := Option.some.inj ho
      have l0 := hd ⟨2, .data⟩ (by simp) rfl
      have f0 := hF.at (s := 26) (i := 2) (by kernel_rfl) (by simp) l0
      rw [hR.1 2 _ l0 rfl] at f0
      have l1 := hd ⟨3, .data⟩ (by simp) rfl
      have f1 := hF.at (s := 27) (i := 3) (by kernel_rfl) (by simp) l1
      rw [hR.1 3 _ l1 rfl] at f1
      have l2 := hd ⟨4, .data⟩ (by simp) rfl
      have f2 := hF.at (s := 28) (i := 4) (by kernel_rfl) (by simp) l2
      rw [hR.1 4 _ l2 rfl] at f2
      have l3 := hd ⟨5, .data⟩ (by simp) rfl
      have f3 := hF.at (s := 29) (i := 5) (by kernel_rfl) (by simp) l3
      rw [hR.1 5 _ l3 rfl] at f3
      exact wp_ret (.agg (nw 9 R)) (by simp [go_sem, f0, f1, f2, f3]) (HF'.out _) (fun w2 hg => ⟨_, rfl, RO.quiet 6 _ rfl (by decide) hg hR⟩)
    · obtain rfl := Option.some.inj ho
      have l0 := hd ⟨6, .data⟩ (by simp) rfl
      have f0 := hF.at (s := 30) (i := 6) (by kernel_rfl) (by simp) l0
      rw [hR.1 6 _ l0 rfl] at f0
      have g0 := hR.2.1 hl
      have c0 := c3.gr g0
      have y0 := c0.h
      have y1 := c0.f
      have fp := hF.old (s := 8) (v := .pointer (some ⟨w.heap.size + 1 + 1, 0, none⟩)) (by kernel_rfl) rfl
      exact wp_skip (w' := setBlk v1 (w.heap.size + 1 + 1) (nw 9 R)) (by simp [go_sem, fp, y0, y1, f0]) ⟨undef, rfl, RO.store _ hil hl rfl hR⟩
    · obtain rfl := Option.some.inj ho
      exact wp_val (.int .i64 0) (by simp [go_sem]) ⟨_, rfl, RO.quiet 8 _ rfl (by decide) (Gr.refl _) hR⟩
  case hf =>
    intro listed vals a1 v1 hall hR hF
    obtain ⟨vM, g1, g2⟩ := hR.2.2 (hall 7 (by simp))
    have cR := ((c3.gr g1).set R).gr g2
    have hV := hR.1
    have x0 := hV 0 _ (hall 0 (by simp)) rfl
    have x1 := hV 1 _ (hall 1 (by simp)) rfl
    have x2 := hV 2 _ (hall 2 (by simp)) rfl
    have x3 := hV 3 _ (hall 3 (by simp)) rfl
    have x4 := hV 4 _ (hall 4 (by simp)) rfl
    have x5 := hV 5 _ (hall 5 (by simp)) rfl
    have x6 := hV 6 _ (hall 6 (by simp)) rfl
    have x8 := hV 8 _ (hall 8 (by simp)) rfl
    rw [hF.final (by kernel_rfl) hall]
    simp only [putFrom, Act.put, List.setIfInBounds_toArray, List.set_cons_zero, List.set_cons_succ, x0, x1, x2, x3, x4, x5, x6, x8]
    clear hV hR hF hall x0 x1 x2 x3 x4 x5 x6 x8
    have hr := cR.h
    go_wp2_with fail
    refine bodyPost_ret (res_two Tryz.results101 (rd_nat (x := R) (by rfl) ?_) (rd_tmp (by rfl))) rfl ⟨rfl, ?_⟩
    · exact cR.h
    · exact (gr_setNew (G.trans g1) (by omega)).trans g2

set_option maxRecDepth 100000 in
set_option maxHeartbeats 1600000 in
theorem onTwo_sub (x : Int) (m a b R : Nat) (HM : ∀ w p, blk w p = nw 9 a ++ nw 9 b → Pre (p + 1) w.heap.size → Calls Tryz.prog 106 #[.int .i64 x, .slice (some ⟨p, 0, none⟩) 2 2] w fun e w' => e = .returned (.tuple #[.agg (nw 9 m), .int .i64 0]) ∧ Gr w w')
    (HF : ∀ w, Calls Tryz.prog 111 #[.agg (nw 9 m), .agg (nw 9 a), .agg (nw 9 b)] w fun e w' => e = .returned (.agg (nw 9 R)) ∧ Gr w w') (w : World) :
    Calls Tryz.prog 101 #[.int .i64 1, .int .i64 x, .agg (nw 9 a), .agg (nw 9 b)] w fun e w' => e = .returned (.tuple #[.agg (nw 9 R), .int .i64 0]) ∧ Gr w w' := by
  have HM' : Hid (∀ w p, blk w p = nw 9 a ++ nw 9 b → Pre (p + 1) w.heap.size → Calls Tryz.prog 106 #[.int .i64 x, .slice (some ⟨p, 0, none⟩) 2 2] w fun e w' => e = .returned (.tuple #[.agg (nw 9 m), .int .i64 0]) ∧ Gr w w') := HM
  have HF' : Hid (∀ w, Calls Tryz.prog 111 #[.agg (nw 9 m), .agg (nw 9 a), .agg (nw 9 b)] w fun e w' => e = .returned (.agg (nw 9 R)) ∧ Gr w w') := HF
  have HT : Hid (∀ w, Calls Tryz.prog 107 #[] w fun e w' => e = .returned (.agg tab2) ∧ Gr w w') := fun w => ofTwo_any w
  clear HM HF
  go_enter Tryz.func101, Tryz.ntmps101
  go_upto_region 4 with (go_at_call 106; refine (HM'.out _ _ ?_ ?_).mono ?_; · simp [go_sem]
                         · simp [go_sem]
                         rintro e w' ⟨rfl, g, rfl⟩)
  obtain ⟨b10, hb10⟩ : ∃ b, w.heap.size + 1 + 1 + 1 + 1 + g.os.length = b := ⟨_, rfl⟩
  rw [hb10]
  refine gen_w (fun v => Hid (Gr w v ∧ Cl v w.heap.size a ∧ Cl v (w.heap.size + 1) b ∧ Cl v (w.heap.size + 1 + 1) 0 ∧ Cl v b10 m)) ?_ ?_
  · subst hb10
    exact ⟨(by repeat (first | exact Gr.refl _ | apply Gr.drewN | apply Gr.drew | apply Gr.alloc | apply Gr.gro)), ⟨by simp [go_sem], by simp [go_sem], by simp [go_sem]⟩, ⟨by simp [go_sem], by simp [go_sem], by simp [go_sem]⟩, ⟨by simp [go_sem], by simp [go_sem], by simp [go_sem]⟩, ⟨by simp [go_sem], by simp [go_sem], by simp [go_sem]⟩⟩
  intro v0 HV
  obtain ⟨G, c1, c2, c3, c4⟩ := HV.out
  have n1 : w.heap.size + 1 + 1 ≠ b10 := by omega
  refine wp_region_mix (by kernel_rfl) (by kernel_rfl) (RO _ (fun i => match i with | 0 => some (.agg tab2) | 1 => some (.int .i64 1) | 2 => some (.func (.func 111) #[] #[]) | 3 => some (.agg (nw 9 m)) | 4 => some (.agg (nw 9 a)) | 5 => some (.agg (nw 9 b)) | 6 => some (.agg (nw 9 R)) | 8 => some (.int .i64 0) | _ => none) 7 (w.heap.size + 1 + 1) (nw 9 R)) (RO.start _ _ _ _ _ _ _) ?hs ?hf
  case hs =>
    intro listed vals a1 v1 i o hz hR hF ho hl hd
    have hm : blk v1 (b10) = nw 9 m := (hR.blk (b10) c4.p (n1)).trans c4.h
    have ha : blk v1 (w.heap.size) = nw 9 a := (hR.blk (w.heap.size) c1.p (by omega)).trans c1.h
    have hb : blk v1 (w.heap.size + 1) = nw 9 b := (hR.blk (w.heap.size + 1) c2.p (by omega)).trans c2.h
    have hi : i < 9 := by simpa using (Array.getElem?_eq_some_iff.1 ho).1
    have hil : i < listed.size := by rw [hz]; simpa using hi
    obtain rfl | rfl | rfl | rfl | rfl | rfl | rfl | rfl | rfl : i = 0 ∨ i = 1 ∨ i = 2 ∨ i = 3 ∨ i = 4 ∨ i = 5 ∨ i = 6 ∨ i = 7 ∨ i = 8 := by omega
    · obtain rfl := Option.some.inj ho
      exact wp_ret (.agg tab2) (by simp [go_sem]) (HT.out _) (fun w2 hg => ⟨_, rfl, RO.quiet 0 _ rfl (by decide) hg hR⟩)
    · obtain rfl := Option.some.inj ho
      have f0 := hF.old (s := 0) (v := .int .i64 1) (by kernel_rfl) rfl
      exact wp_val (.int .i64 1) (by simp [go_sem, f0]) ⟨_, rfl, RO.quiet 1 _ rfl (by decide) (Gr.refl _) hR⟩
    · obtain rfl := Option.some.inj ho
      have l0 := hd ⟨0, .data⟩ (by simp) rfl
      have f0 := hF.at (s := 24) (i := 0) (by kernel_rfl) (by simp) l0
      rw [hR.1 0 _ l0 rfl] at f0
      have l1 := hd ⟨1, .data⟩ (by simp) rfl
      have f1 := hF.at (s := 25) (i := 1) (by kernel_rfl) (by simp) l1
      rw [hR.1 1 _ l1 rfl] at f1
      exact wp_val (.func (.func 111) #[] #[]) (by simp [go_sem, f0, f1]) ⟨_, rfl, RO.quiet 2 _ rfl (by decide) (Gr.refl _) hR⟩
    · obtain rfl := Option.some.inj ho
      have f0 := hF.old (s := 10) (v := .pointer (some ⟨b10, 0, none⟩)) (by kernel_rfl) rfl
      exact wp_val (.agg (nw 9 m)) (by simp [go_sem, f0, hm]) ⟨_, rfl, RO.quiet 3 _ rfl (by decide) (Gr.refl _) hR⟩
    · obtain rfl := Option.some.inj ho
      have f0 := hF.old (s := 6) (v := .pointer (some ⟨w.heap.size, 0, none⟩)) (by kernel_rfl) rfl
      exact wp_val (.agg (nw 9 a)) (by simp [go_sem, f0, ha]) ⟨_, rfl, RO.quiet 4 _ rfl (by decide) (Gr.refl _) hR⟩
    · obtain rfl := Option.some.inj ho
      have f0 := hF.old (s := 7) (v := .pointer (some ⟨w.heap.size + 1, 0, none⟩)) (by kernel_rfl) rfl
      exact wp_val (.agg (nw 9 b)) (by simp [go_sem, f0, hb]) ⟨_, rfl, RO.quiet 5 _ rfl (by decide) (Gr.refl _) hR⟩
    · obtain rfl := Option.some.inj ho
      have l0 := hd ⟨2, .data⟩ (by simp) rfl
      have f0 := hF.at (s := 26) (i := 2) (by kernel_rfl) (by simp) l0
      rw [hR.1 2 _ l0 rfl] at f0
      have l1 := hd ⟨3, .data⟩ (by simp) rfl
      have f1 := hF.at (s := 27) (i := 3) (by kernel_rfl) (by simp) l1
      rw [hR.1 3 _ l1 rfl] at f1
      have l2 := hd ⟨4, .data⟩ (by simp) rfl
      have f2 := hF.at (s := 28) (i := 4) (by kernel_rfl) (by simp) l2
      rw [hR.1 4 _ l2 rfl] at f2
      have l3 := hd ⟨5, .data⟩ (by simp) rfl
      have f3 := hF.at (s := 29) (i := 5) (by kernel_rfl) (by simp) l3
      rw [hR.1 5 _ l3 rfl] at f3
      exact wp_ret (.agg (nw 9 R)) (by simp [go_sem, f0, f1, f2, f3]) (HF'.out _) (fun w2 hg => ⟨_, rfl, RO.quiet 6 _ rfl (by decide) hg hR⟩)
    · obtain rfl := Option.some.inj ho
      have l0 := hd ⟨6, .data⟩ (by simp) rfl
      have f0 := hF.at (s := 30) (i := 6) (by kernel_rfl) (by simp) l0
      rw [hR.1 6 _ l0 rfl] at f0
      have g0 := hR.2.1 hl
      have c0 := c3.gr g0
      have y0 := c0.h
      have y1 := c0.f
      have fp := hF.old (s := 8) (v := .pointer (some ⟨w.heap.size + 1 + 1, 0, none⟩)) (by kernel_rfl) rfl
      exact wp_skip (w' := setBlk v1 (w.heap.size + 1 + 1) (nw 9 R)) (by simp [go_sem, fp, y0, y1, f0]) ⟨undef, rfl, RO.store _ hil hl rfl hR⟩
    · obtain rfl := Option.some.inj ho
      exact wp_val (.int .i64 0) (by simp [go_sem]) ⟨_, rfl, RO.quiet 8 _ rfl (by decide) (Gr.refl _) hR⟩
  case hf =>
    intro listed vals a1 v1 hall hR hF
    obtain ⟨vM, g1, g2⟩ := hR.2.2 (hall 7 (by simp))
    have cR := ((c3.gr g1).set R).gr g2
    have hV := hR.1
    have x0 := hV 0 _ (hall 0 (by simp)) rfl
    have x1 := hV 1 _ (hall 1 (by simp)) rfl
    have x2 := hV 2 _ (hall 2 (by simp)) rfl
    have x3 := hV 3 _ (hall 3 (by simp)) rfl
    have x4 := hV 4 _ (hall 4 (by simp)) rfl
    have x5 := hV 5 _ (hall 5 (by simp)) rfl
    have x6 := hV 6 _ (hall 6 (by simp)) rfl
    have x8 := hV 8 _ (hall 8 (by simp)) rfl
    rw [hF.final (by kernel_rfl) hall]
    simp only [putFrom, Act.put, List.setIfInBounds_toArray, List.set_cons_zero, List.set_cons_succ, x0, x1, x2, x3, x4, x5, x6, x8]
    clear hV hR hF hall x0 x1 x2 x3 x4 x5 x6 x8
    have hr := cR.h
    go_wp2_with fail
    refine bodyPost_ret (res_two Tryz.results101 (rd_nat (x := R) (by rfl) ?_) (rd_tmp (by rfl))) rfl ⟨rfl, ?_⟩
    · exact cR.h
    · exact (gr_setNew (G.trans g1) (by omega)).trans g2

set_option maxRecDepth 100000 in
set_option maxHeartbeats 1600000 in
theorem onTwo_mul (x : Int) (m a b R : Nat) (HM : ∀ w p, blk w p = nw 9 a ++ nw 9 b → Pre (p + 1) w.heap.size → Calls Tryz.prog 106 #[.int .i64 x, .slice (some ⟨p, 0, none⟩) 2 2] w fun e w' => e = .returned (.tuple #[.agg (nw 9 m), .int .i64 0]) ∧ Gr w w')
    (HF : ∀ w, Calls Tryz.prog 112 #[.agg (nw 9 m), .agg (nw 9 a), .agg (nw 9 b)] w fun e w' => e = .returned (.agg (nw 9 R)) ∧ Gr w w') (w : World) :
    Calls Tryz.prog 101 #[.int .i64 2, .int .i64 x, .agg (nw 9 a), .agg (nw 9 b)] w fun e w' => e = .returned (.tuple #[.agg (nw 9 R), .int .i64 0]) ∧ Gr w w' := by
  have HM' : Hid (∀ w p, blk w p = nw 9 a ++ nw 9 b → Pre (p + 1) w.heap.size → Calls Tryz.prog 106 #[.int .i64 x, .slice (some ⟨p, 0, none⟩) 2 2] w fun e w' => e = .returned (.tuple #[.agg (nw 9 m), .int .i64 0]) ∧ Gr w w') := HM
  have HF' : Hid (∀ w, Calls Tryz.prog 112 #[.agg (nw 9 m), .agg (nw 9 a), .agg (nw 9 b)] w fun e w' => e = .returned (.agg (nw 9 R)) ∧ Gr w w') := HF
  have HT : Hid (∀ w, Calls Tryz.prog 107 #[] w fun e w' => e = .returned (.agg tab2) ∧ Gr w w') := fun w => ofTwo_any w
  clear HM HF
  go_enter Tryz.func101, Tryz.ntmps101
  go_upto_region 4 with (go_at_call 106; refine (HM'.out _ _ ?_ ?_).mono ?_; · simp [go_sem]
                         · simp [go_sem]
                         rintro e w' ⟨rfl, g, rfl⟩)
  obtain ⟨b10, hb10⟩ : ∃ b, w.heap.size + 1 + 1 + 1 + 1 + g.os.length = b := ⟨_, rfl⟩
  rw [hb10]
  refine gen_w (fun v => Hid (Gr w v ∧ Cl v w.heap.size a ∧ Cl v (w.heap.size + 1) b ∧ Cl v (w.heap.size + 1 + 1) 0 ∧ Cl v b10 m)) ?_ ?_
  · subst hb10
    exact ⟨(by repeat (first | exact Gr.refl _ | apply Gr.drewN | apply Gr.drew | apply Gr.alloc | apply Gr.gro)), ⟨by simp [go_sem], by simp [go_sem], by simp [go_sem]⟩, ⟨by simp [go_sem], by simp [go_sem], by simp [go_sem]⟩, ⟨by simp [go_sem], by simp [go_sem], by simp [go_sem]⟩, ⟨by simp [go_sem], by simp [go_sem], by simp [go_sem]⟩⟩
  intro v0 HV
  obtain ⟨G, c1, c2, c3, c4⟩ := HV.out
  have n1 : w.heap.size + 1 + 1 ≠ b10 := by omega
  refine wp_region_mix (by kernel_rfl) (by kernel_rfl) (RO _ (fun i => match i with | 0 => some (.agg tab2) | 1 => some (.int .i64 2) | 2 => some (.func (.func 112) #[] #[]) | 3 => some (.agg (nw 9 m)) | 4 => some (.agg (nw 9 a)) | 5 => some (.agg (nw 9 b)) | 6 => some (.agg (nw 9 R)) | 8 => some (.int .i64 0) | _ => none) 7 (w.heap.size + 1 + 1) (nw 9 R)) (RO.start _ _ _ _ _ _ _) ?hs ?hf
  case hs =>
    intro listed vals a1 v1 i o hz hR hF ho hl hd
    have hm : blk v1 (b10) = nw 9 m := (hR.blk (b10) c4.p (n1)).trans c4.h
    have ha : blk v1 (w.heap.size) = nw 9 a := (hR.blk (w.heap.size) c1.p (by omega)).trans c1.h
    have hb : blk v1 (w.heap.size + 1) = nw 9 b := (hR.blk (w.heap.size + 1) c2.p (by omega)).trans c2.h
    have hi : i < 9 := by simpa using (Array.getElem?_eq_some_iff.1 ho).1
    have hil : i < listed.size := by rw [hz]; simpa using hi
    obtain rfl | rfl | rfl | rfl | rfl | rfl | rfl | rfl | rfl : i = 0 ∨ i = 1 ∨ i = 2 ∨ i = 3 ∨ i = 4 ∨ i = 5 ∨ i = 6 ∨ i = 7 ∨ i = 8 := by omega
    · obtain rfl := Option.some.inj ho
      exact wp_ret (.agg tab2) (by simp [go_sem]) (HT.out _) (fun w2 hg => ⟨_, rfl, RO.quiet 0 _ rfl (by decide) hg hR⟩)
    · obtain rfl := Option.some.inj ho
      have f0 := hF.old (s := 0) (v := .int .i64 2) (by kernel_rfl) rfl
      exact wp_val (.int .i64 2) (by simp [go_sem, f0]) ⟨_, rfl, RO.quiet 1 _ rfl (by decide) (Gr.refl _) hR⟩
    · obtain rfl := Option.some.inj ho
      have l0 := hd ⟨0, .data⟩ (by simp) rfl
      have f0 := hF.at (s := 24) (i := 0) (by kernel_rfl) (by simp) l0
      rw [hR.1 0 _ l0 rfl] at f0
      have l1 := hd ⟨1, .data⟩ (by simp) rfl
      have f1 := hF.at (s := 25) (i := 1) (by kernel_rfl) (by simp) l1
      rw [hR.1 1 _ l1 rfl] at f1
      exact wp_val (.func (.func 112) #[] #[]) (by simp [go_sem, f0, f1]) ⟨_, rfl, RO.quiet 2 _ rfl (by decide) (Gr.refl _) hR⟩
    · obtain rfl := Option.some.inj ho
      have f0 := hF.old (s := 10) (v := .pointer (some ⟨b10, 0, none⟩)) (by kernel_rfl) rfl
      exact wp_val (.agg (nw 9 m)) (by simp [go_sem, f0, hm]) ⟨_, rfl, RO.quiet 3 _ rfl (by decide) (Gr.refl _) hR⟩
    · obtain rfl := Option.some.inj ho
      have f0 := hF.old (s := 6) (v := .pointer (some ⟨w.heap.size, 0, none⟩)) (by kernel_rfl) rfl
      exact wp_val (.agg (nw 9 a)) (by simp [go_sem, f0, ha]) ⟨_, rfl, RO.quiet 4 _ rfl (by decide) (Gr.refl _) hR⟩
    · obtain rfl := Option.some.inj ho
      have f0 := hF.old (s := 7) (v := .pointer (some ⟨w.heap.size + 1, 0, none⟩)) (by kernel_rfl) rfl
      exact wp_val (.agg (nw 9 b)) (by simp [go_sem, f0, hb]) ⟨_, rfl, RO.quiet 5 _ rfl (by decide) (Gr.refl _) hR⟩
    · obtain rfl := Option.some.inj ho
      have l0 := hd ⟨2, .data⟩ (by simp) rfl
      have f0 := hF.at (s := 26) (i := 2) (by kernel_rfl) (by simp) l0
      rw [hR.1 2 _ l0 rfl] at f0
      have l1 := hd ⟨3, .data⟩ (by simp) rfl
      have f1 := hF.at (s := 27) (i := 3) (by kernel_rfl) (by simp) l1
      rw [hR.1 3 _ l1 rfl] at f1
      have l2 := hd ⟨4, .data⟩ (by simp) rfl
      have f2 := hF.at (s := 28) (i := 4) (by kernel_rfl) (by simp) l2
      rw [hR.1 4 _ l2 rfl] at f2
      have l3 := hd ⟨5, .data⟩ (by simp) rfl
      have f3 := hF.at (s := 29) (i := 5) (by kernel_rfl) (by simp) l3
      rw [hR.1 5 _ l3 rfl] at f3
      exact wp_ret (.agg (nw 9 R)) (by simp [go_sem, f0, f1, f2, f3]) (HF'.out _) (fun w2 hg => ⟨_, rfl, RO.quiet 6 _ rfl (by decide) hg hR⟩)
    · obtain rfl := Option.some.inj ho
      have l0 := hd ⟨6, .data⟩ (by simp) rfl
      have f0 := hF.at (s := 30) (i := 6) (by kernel_rfl) (by simp) l0
      rw [hR.1 6 _ l0 rfl] at f0
      have g0 := hR.2.1 hl
      have c0 := c3.gr g0
      have y0 := c0.h
      have y1 := c0.f
      have fp := hF.old (s := 8) (v := .pointer (some ⟨w.heap.size + 1 + 1, 0, none⟩)) (by kernel_rfl) rfl
      exact wp_skip (w' := setBlk v1 (w.heap.size + 1 + 1) (nw 9 R)) (by simp [go_sem, fp, y0, y1, f0]) ⟨undef, rfl, RO.store _ hil hl rfl hR⟩
    · obtain rfl := Option.some.inj ho
      exact wp_val (.int .i64 0) (by simp [go_sem]) ⟨_, rfl, RO.quiet 8 _ rfl (by decide) (Gr.refl _) hR⟩
  case hf =>
    intro listed vals a1 v1 hall hR hF
    obtain ⟨vM, g1, g2⟩ := hR.2.2 (hall 7 (by simp))
    have cR := ((c3.gr g1).set R).gr g2
    have hV := hR.1
    have x0 := hV 0 _ (hall 0 (by simp)) rfl
    have x1 := hV 1 _ (hall 1 (by simp)) rfl
    have x2 := hV 2 _ (hall 2 (by simp)) rfl
    have x3 := hV 3 _ (hall 3 (by simp)) rfl
    have x4 := hV 4 _ (hall 4 (by simp)) rfl
    have x5 := hV 5 _ (hall 5 (by simp)) rfl
    have x6 := hV 6 _ (hall 6 (by simp)) rfl
    have x8 := hV 8 _ (hall 8 (by simp)) rfl
    rw [hF.final (by kernel_rfl) hall]
    simp only [putFrom, Act.put, List.setIfInBounds_toArray, List.set_cons_zero, List.set_cons_succ, x0, x1, x2, x3, x4, x5, x6, x8]
    clear hV hR hF hall x0 x1 x2 x3 x4 x5 x6 x8
    have hr := cR.h
    go_wp2_with fail
    refine bodyPost_ret (res_two Tryz.results101 (rd_nat (x := R) (by rfl) ?_) (rd_tmp (by rfl))) rfl ⟨rfl, ?_⟩
    · exact cR.h
    · exact (gr_setNew (G.trans g1) (by omega)).trans g2

set_option maxRecDepth 100000 in
set_option maxHeartbeats 1600000 in
theorem onOne_inv (x : Int) (m a R : Nat) (E : Int) (HM : ∀ w p, blk w p = nw 9 a → Pre (p + 1) w.heap.size → Calls Tryz.prog 106 #[.int .i64 x, .slice (some ⟨p, 0, none⟩) 1 1] w fun e w' => e = .returned (.tuple #[.agg (nw 9 m), .int .i64 0]) ∧ Gr w w')
    (HF : ∀ w, Calls Tryz.prog 118 #[.agg (nw 9 m), .agg (nw 9 a)] w fun e w' => e = .returned (.tuple #[.agg (nw 9 R), .int .i64 E]) ∧ Gr w w') (w : World) :
    Calls Tryz.prog 109 #[.int .i64 0, .int .i64 x, .agg (nw 9 a)] w fun e w' => e = .returned (.tuple #[.agg (nw 9 R), .int .i64 E]) ∧ Gr w w' := by
  have HM' : Hid (∀ w p, blk w p = nw 9 a → Pre (p + 1) w.heap.size → Calls Tryz.prog 106 #[.int .i64 x, .slice (some ⟨p, 0, none⟩) 1 1] w fun e w' => e = .returned (.tuple #[.agg (nw 9 m), .int .i64 0]) ∧ Gr w w') := HM
  have HF' : Hid (∀ w, Calls Tryz.prog 118 #[.agg (nw 9 m), .agg (nw 9 a)] w fun e w' => e = .returned (.tuple #[.agg (nw 9 R), .int .i64 E]) ∧ Gr w w') := HF
  have HT : Hid (∀ w, Calls Tryz.prog 114 #[] w fun e w' => e = .returned (.agg tab1) ∧ Gr w w') := fun w => ofOne_any w
  clear HM HF
  go_enter Tryz.func109, Tryz.ntmps109
  go_upto_region 4 with (go_at_call 106; refine (HM'.out _ _ ?_ ?_).mono ?_; · simp [go_sem]
                         · simp [go_sem]
                         rintro e w' ⟨rfl, g, rfl⟩)
  obtain ⟨b10, hb10⟩ : ∃ b, w.heap.size + 1 + 1 + 1 + g.os.length = b := ⟨_, rfl⟩
  rw [hb10]
  refine gen_w (fun v => Hid (Gr w v ∧ Cl v w.heap.size a ∧ Cl v (w.heap.size + 1) 0 ∧ Cl v b10 m)) ?_ ?_
  · subst hb10
    exact ⟨(by repeat (first | exact Gr.refl _ | apply Gr.drewN | apply Gr.drew | apply Gr.alloc | apply Gr.gro)), ⟨by simp [go_sem], by simp [go_sem], by simp [go_sem]⟩, ⟨by simp [go_sem], by simp [go_sem], by simp [go_sem]⟩, ⟨by simp [go_sem], by simp [go_sem], by simp [go_sem]⟩⟩
  intro v0 HV
  obtain ⟨G, c1, c3, c4⟩ := HV.out
  have n1 : w.heap.size + 1 ≠ b10 := by omega
  refine wp_region_mix (by kernel_rfl) (by kernel_rfl) (RO _ (fun i => match i with | 0 => some (.agg tab1) | 1 => some (.int .i64 0) | 2 => some (.func (.func 118) #[] #[]) | 3 => some (.agg (nw 9 m)) | 4 => some (.agg (nw 9 a)) | 5 => some (.tuple #[.agg (nw 9 R), .int .i64 E]) | 6 => some (.agg (nw 9 R)) | 7 => some (.int .i64 E) | 9 => some (.int .i64 E) | _ => none) 8 (w.heap.size + 1) (nw 9 R)) (RO.start _ _ _ _ _ _ _) ?hs ?hf
  case hs =>
    intro listed vals a1 v1 i o hz hR hF ho hl hd
    have hm : blk v1 (b10) = nw 9 m := (hR.blk (b10) c4.p (n1)).trans c4.h
    have ha : blk v1 (w.heap.size) = nw 9 a := (hR.blk (w.heap.size) c1.p (by omega)).trans c1.h
    have hi : i < 10 := by simpa using (Array.getElem?_eq_some_iff.1 ho).1
    have hil : i < listed.size := by rw [hz]; simpa using hi
    obtain rfl | rfl | rfl | rfl | rfl | rfl | rfl | rfl | rfl | rfl : i = 0 ∨ i = 1 ∨ i = 2 ∨ i = 3 ∨ i = 4 ∨ i = 5 ∨ i = 6 ∨ i = 7 ∨ i = 8 ∨ i = 9 := by omega
    · obtain rfl := Option.some.inj ho
      exact wp_ret (.agg tab1) (by simp [go_sem]) (HT.out _) (fun w2 hg => ⟨_, rfl, RO.quiet 0 _ rfl (by decide) hg hR⟩)
    · obtain rfl := Option.some.inj ho
      have f0 := hF.old (s := 0) (v := .int .i64 0) (by kernel_rfl) rfl
      exact wp_val (.int .i64 0) (by simp [go_sem, f0]) ⟨_, rfl, RO.quiet 1 _ rfl (by decide) (Gr.refl _) hR⟩
    · obtain rfl := Option.some.inj ho
      have l0 := hd ⟨0, .data⟩ (by simp) rfl
      have f0 := hF.at (s := 21) (i := 0) (by kernel_rfl) (by simp) l0
      rw [hR.1 0 _ l0 rfl] at f0
      have l1 := hd ⟨1, .data⟩ (by simp) rfl
      have f1 := hF.at (s := 22) (i := 1) (by kernel_rfl) (by simp) l1
      rw [hR.1 1 _ l1 rfl] at f1
      exact wp_val (.func (.func 118) #[] #[]) (by simp [go_sem, f0, f1]) ⟨_, rfl, RO.quiet 2 _ rfl (by decide) (Gr.refl _) hR⟩
    · obtain rfl := Option.some.inj ho
      have f0 := hF.old (s := 8) (v := .pointer (some ⟨b10, 0, none⟩)) (by kernel_rfl) rfl
      exact wp_val (.agg (nw 9 m)) (by simp [go_sem, f0, hm]) ⟨_, rfl, RO.quiet 3 _ rfl (by decide) (Gr.refl _) hR⟩
    · obtain rfl := Option.some.inj ho
      have f0 := hF.old (s := 5) (v := .pointer (some ⟨w.heap.size, 0, none⟩)) (by kernel_rfl) rfl
      exact wp_val (.agg (nw 9 a)) (by simp [go_sem, f0, ha]) ⟨_, rfl, RO.quiet 4 _ rfl (by decide) (Gr.refl _) hR⟩
    · obtain rfl := Option.some.inj ho
      have l0 := hd ⟨2, .data⟩ (by simp) rfl
      have f0 := hF.at (s := 23) (i := 2) (by kernel_rfl) (by simp) l0
      rw [hR.1 2 _ l0 rfl] at f0
      have l1 := hd ⟨3, .data⟩ (by simp) rfl
      have f1 := hF.at (s := 24) (i := 3) (by kernel_rfl) (by simp) l1
      rw [hR.1 3 _ l1 rfl] at f1
      have l2 := hd ⟨4, .data⟩ (by simp) rfl
      have f2 := hF.at (s := 25) (i := 4) (by kernel_rfl) (by simp) l2
      rw [hR.1 4 _ l2 rfl] at f2
      exact wp_ret (.tuple #[.agg (nw 9 R), .int .i64 E]) (by simp [go_sem, f0, f1, f2]) (HF'.out _) (fun w2 hg => ⟨_, rfl, RO.quiet 5 _ rfl (by decide) hg hR⟩)
    · obtain rfl := Option.some.inj ho
      have l0 := hd ⟨5, .data⟩ (by simp) rfl
      have f0 := hF.at (s := 26) (i := 5) (by kernel_rfl) (by simp) l0
      rw [hR.1 5 _ l0 rfl] at f0
      exact wp_val (.agg (nw 9 R)) (by simp [go_sem, f0]) ⟨_, rfl, RO.quiet 6 _ rfl (by decide) (Gr.refl _) hR⟩
    · obtain rfl := Option.some.inj ho
      have l0 := hd ⟨5, .data⟩ (by simp) rfl
      have f0 := hF.at (s := 26) (i := 5) (by kernel_rfl) (by simp) l0
      rw [hR.1 5 _ l0 rfl] at f0
      exact wp_val (.int .i64 E) (by simp [go_sem, f0]) ⟨_, rfl, RO.quiet 7 _ rfl (by decide) (Gr.refl _) hR⟩
    · obtain rfl := Option.some.inj ho
      have l0 := hd ⟨6, .data⟩ (by simp) rfl
      have f0 := hF.at (s := 27) (i := 6) (by kernel_rfl) (by simp) l0
      rw [hR.1 6 _ l0 rfl] at f0
      have g0 := hR.2.1 hl
      have c0 := c3.gr g0
      have y0 := c0.h
      have y1 := c0.f
      have fp := hF.old (s := 6) (v := .pointer (some ⟨w.heap.size + 1, 0, none⟩)) (by kernel_rfl) rfl
      exact wp_skip (w' := setBlk v1 (w.heap.size + 1) (nw 9 R)) (by simp [go_sem, fp, y0, y1, f0]) ⟨undef, rfl, RO.store _ hil hl rfl hR⟩
    · obtain rfl := Option.some.inj ho
      have l0 := hd ⟨7, .data⟩ (by simp) rfl
      have f0 := hF.at (s := 28) (i := 7) (by kernel_rfl) (by simp) l0
      rw [hR.1 7 _ l0 rfl] at f0
      exact wp_val (.int .i64 E) (by simp [go_sem, f0]) ⟨_, rfl, RO.quiet 9 _ rfl (by decide) (Gr.refl _) hR⟩
  case hf =>
    intro listed vals a1 v1 hall hR hF
    obtain ⟨vM, g1, g2⟩ := hR.2.2 (hall 8 (by simp))
    have cR := ((c3.gr g1).set R).gr g2
    have hV := hR.1
    have x0 := hV 0 _ (hall 0 (by simp)) rfl
    have x1 := hV 1 _ (hall 1 (by simp)) rfl
    have x2 := hV 2 _ (hall 2 (by simp)) rfl
    have x3 := hV 3 _ (hall 3 (by simp)) rfl
    have x4 := hV 4 _ (hall 4 (by simp)) rfl
    have x5 := hV 5 _ (hall 5 (by simp)) rfl
    have x6 := hV 6 _ (hall 6 (by simp)) rfl
    have x7 := hV 7 _ (hall 7 (by simp)) rfl
    have x9 := hV 9 _ (hall 9 (by simp)) rfl
    rw [hF.final (by kernel_rfl) hall]
    simp only [putFrom, Act.put, List.setIfInBounds_toArray, List.set_cons_zero, List.set_cons_succ, x0, x1, x2, x3, x4, x5, x6, x7, x9]
    clear hV hR hF hall x0 x1 x2 x3 x4 x5 x6 x7 x9
    have hr := cR.h
    go_wp2_with fail
    refine bodyPost_ret (res_two Tryz.results109 (rd_nat (x := R) (by rfl) ?_) (rd_tmp (by rfl))) rfl ⟨rfl, ?_⟩
    · exact cR.h
    · exact (gr_setNew (G.trans g1) (by omega)).trans g2

end Go.Proofs.YtlbkhhihkomahaaGreat
namespace Go.Proofs.YtlbkhhihkomahaaGreat
open Go.RowKit

theorem pN_bd (i : Nat) (h1 : 1 ≤ i) (h2 : i ≤ 15) : 1 < pN i ∧ pN i + pN i ≤ M ∧ pN i % 2 = 1 := by
  obtain rfl | rfl | rfl | rfl | rfl | rfl | rfl | rfl | rfl | rfl | rfl | rfl | rfl | rfl | rfl : i = 1 ∨ i = 2 ∨ i = 3 ∨ i = 4 ∨ i = 5 ∨ i = 6 ∨ i = 7 ∨ i = 8 ∨ i = 9 ∨ i = 10 ∨ i = 11 ∨ i = 12 ∨ i = 13 ∨ i = 14 ∨ i = 15 := by omega
  all_goals exact ⟨by decide +kernel, by decide +kernel, by decide +kernel⟩
end Go.Proofs.YtlbkhhihkomahaaGreat
namespace Go.Proofs.YtlbkhhihkomahaaGreat
open Go.RowKit
attribute [local go_sem ↓] loadNat_is loadArr_is loadWide_is loadArrW_is storeNat_is storeWide_is
attribute [local go_sem] loadNat loadArr loadWide loadArrW storeNat storeWide idxArr fold9 fold18 nw_size nw_elem pre_self pre_1 pre_2 pre_3 pre_4 pre_5 pre_6 pre_7 pre_8 pre_9 pre_10 pre_11 pre_12 pre_13 pre_14 pre_15 pre_16 pre_17 pre_18 pre_19 pre_20 pre_21 pre_22 pre_23 pre_24 pre_25 pre_26 pre_27 pre_28 pre_29 pre_30 pre_31 pre_32 pre_33 pre_34 pre_35 pre_36 pre_37 pre_38 pre_39 pre_40 gro_size gro_drew gro_drewN drew_gro drewN_gro gro_gro blk_gro frz_gro blk_drew frz_drew blk_drewN frz_drewN blk_alloc_at frz_alloc_at blk_alloc frz_alloc cell_gro frozen_gro cell_alloc_pre frozen_alloc_pre setCell_drewN alloc_drewN setBlk_drew setBlk_drewN setBlk_alloc_at setBlk_alloc setBlk_gro setCell_gro setCell_alloc_pre size_setBlk size_setCell
attribute [local go_sem ↓] loadDv_is load19_is storeDv_is store19_is copy_is
attribute [local go_sem] idx18 loadDv load19 storeDv store19 dv_size dv_9 dv_10 dv_e9 dv_e10 dv_elem fold11 fold19 setCell_in cell_in frozen_in frz_setBlk blk_setBlk setBlk_setBlk copy_run cpA_nw ones_nw

attribute [local go_sem ↓] loadMd_is storeMd_is buildMd_is
attribute [local go_sem] loadMd storeMd buildMd0 buildMd1

set_option maxRecDepth 100000 in
set_option maxHeartbeats 1600000 in
theorem fAdd_of (x : Int) (a b R : Nat) (E : Int) (HF : ∀ w, Calls Tryz.prog 101 #[.int .i64 0, .int .i64 x, .agg (nw 9 a), .agg (nw 9 b)] w fun e w' => e = .returned (.tuple #[.agg (nw 9 R), .int .i64 E]) ∧ Gr w w') (w : World) :
    Calls Tryz.prog 96 #[.int .i64 x, .agg (nw 9 a), .agg (nw 9 b)] w fun e w' => e = .returned (.tuple #[.agg (nw 9 R), .int .i64 E]) ∧ Gr w w' := by
  have HF' : Hid (∀ w, Calls Tryz.prog 101 #[.int .i64 0, .int .i64 x, .agg (nw 9 a), .agg (nw 9 b)] w fun e w' => e = .returned (.tuple #[.agg (nw 9 R), .int .i64 E]) ∧ Gr w w') := HF
  clear HF
  go_enter Tryz.func96, Tryz.ntmps96
  go_wp2_with (go_at_call 101; refine (HF'.out _).mono ?_; rintro e w' ⟨rfl, g, rfl⟩)
  refine bodyPost_ret (res_two Tryz.results96 (rd_nat (x := R) (by rfl) ?_) (rd_tmp (by rfl))) rfl ⟨rfl, (by repeat (first | exact Gr.refl _ | apply Gr.drewN | apply Gr.drew | apply Gr.alloc | apply Gr.gro))⟩
  simp [go_sem]
theorem fAdd_ok (i a b : Nat) (h1 : 1 ≤ i) (h2 : i ≤ 15) (ha : a < pN i) (hb : b < pN i) (w : World) :
    Calls Tryz.prog 96 #[.int .i64 (i : Int), .agg (nw 9 a), .agg (nw 9 b)] w fun e w' => e = .returned (.tuple #[.agg (nw 9 ((a + b) % pN i)), .int .i64 0]) ∧ Gr w w' := by
  have hB := pN_bd i h1 h2
  refine fAdd_of i a b _ 0 (fun w => onTwo_add i (pN i) a b _ (fun w p hp hq => ?_) (fun w => fadd_any (pN i) a b ha hb hB.2.1 w) w) w
  have := mfor_two i (pN i) a b p (mvN a b) h1 h2 rfl (by omega) (by omega) (by omega) rfl w (by rw [hp]; exact app_mv a b (by omega)) hq
  rw [if_pos ⟨ha, hb⟩, if_pos ⟨ha, hb⟩] at this
  exact this

set_option maxRecDepth 100000 in
set_option maxHeartbeats 1600000 in
theorem fSub_of (x : Int) (a b R : Nat) (E : Int) (HF : ∀ w, Calls Tryz.prog 101 #[.int .i64 1, .int .i64 x, .agg (nw 9 a), .agg (nw 9 b)] w fun e w' => e = .returned (.tuple #[.agg (nw 9 R), .int .i64 E]) ∧ Gr w w') (w : World) :
    Calls Tryz.prog 72 #[.int .i64 x, .agg (nw 9 a), .agg (nw 9 b)] w fun e w' => e = .returned (.tuple #[.agg (nw 9 R), .int .i64 E]) ∧ Gr w w' := by
  have HF' : Hid (∀ w, Calls Tryz.prog 101 #[.int .i64 1, .int .i64 x, .agg (nw 9 a), .agg (nw 9 b)] w fun e w' => e = .returned (.tuple #[.agg (nw 9 R), .int .i64 E]) ∧ Gr w w') := HF
  clear HF
  go_enter Tryz.func72, Tryz.ntmps72
  go_wp2_with (go_at_call 101; refine (HF'.out _).mono ?_; rintro e w' ⟨rfl, g, rfl⟩)
  refine bodyPost_ret (res_two Tryz.results72 (rd_nat (x := R) (by rfl) ?_) (rd_tmp (by rfl))) rfl ⟨rfl, (by repeat (first | exact Gr.refl _ | apply Gr.drewN | apply Gr.drew | apply Gr.alloc | apply Gr.gro))⟩
  simp [go_sem]
theorem fSub_ok (i a b : Nat) (h1 : 1 ≤ i) (h2 : i ≤ 15) (ha : a < pN i) (hb : b < pN i) (w : World) :
    Calls Tryz.prog 72 #[.int .i64 (i : Int), .agg (nw 9 a), .agg (nw 9 b)] w fun e w' => e = .returned (.tuple #[.agg (nw 9 ((a + pN i - b) % pN i)), .int .i64 0]) ∧ Gr w w' := by
  have hB := pN_bd i h1 h2
  refine fSub_of i a b _ 0 (fun w => onTwo_sub i (pN i) a b _ (fun w p hp hq => ?_) (fun w => fsub_any (pN i) a b ha hb hB.2.1 w) w) w
  have := mfor_two i (pN i) a b p (mvN a b) h1 h2 rfl (by omega) (by omega) (by omega) rfl w (by rw [hp]; exact app_mv a b (by omega)) hq
  rw [if_pos ⟨ha, hb⟩, if_pos ⟨ha, hb⟩] at this
  exact this

set_option maxRecDepth 100000 in
set_option maxHeartbeats 1600000 in
theorem fMul_of (x : Int) (a b R : Nat) (E : Int) (HF : ∀ w, Calls Tryz.prog 101 #[.int .i64 2, .int .i64 x, .agg (nw 9 a), .agg (nw 9 b)] w fun e w' => e = .returned (.tuple #[.agg (nw 9 R), .int .i64 E]) ∧ Gr w w') (w : World) :
    Calls Tryz.prog 95 #[.int .i64 x, .agg (nw 9 a), .agg (nw 9 b)] w fun e w' => e = .returned (.tuple #[.agg (nw 9 R), .int .i64 E]) ∧ Gr w w' := by
  have HF' : Hid (∀ w, Calls Tryz.prog 101 #[.int .i64 2, .int .i64 x, .agg (nw 9 a), .agg (nw 9 b)] w fun e w' => e = .returned (.tuple #[.agg (nw 9 R), .int .i64 E]) ∧ Gr w w') := HF
  clear HF
  go_enter Tryz.func95, Tryz.ntmps95
  go_wp2_with (go_at_call 101; refine (HF'.out _).mono ?_; rintro e w' ⟨rfl, g, rfl⟩)
  refine bodyPost_ret (res_two Tryz.results95 (rd_nat (x := R) (by rfl) ?_) (rd_tmp (by rfl))) rfl ⟨rfl, (by repeat (first | exact Gr.refl _ | apply Gr.drewN | apply Gr.drew | apply Gr.alloc | apply Gr.gro))⟩
  simp [go_sem]
theorem fMul_ok (i a b : Nat) (h1 : 1 ≤ i) (h2 : i ≤ 15) (ha : a < pN i) (hb : b < pN i) (w : World) :
    Calls Tryz.prog 95 #[.int .i64 (i : Int), .agg (nw 9 a), .agg (nw 9 b)] w fun e w' => e = .returned (.tuple #[.agg (nw 9 (a * b % pN i)), .int .i64 0]) ∧ Gr w w' := by
  have hB := pN_bd i h1 h2
  refine fMul_of i a b _ 0 (fun w => onTwo_mul i (pN i) a b _ (fun w p hp hq => ?_) (fun w => fmul_any (pN i) a b (by omega) (by omega) (by omega) (by omega) w) w) w
  have := mfor_two i (pN i) a b p (mvN a b) h1 h2 rfl (by omega) (by omega) (by omega) rfl w (by rw [hp]; exact app_mv a b (by omega)) hq
  rw [if_pos ⟨ha, hb⟩, if_pos ⟨ha, hb⟩] at this
  exact this

set_option maxRecDepth 100000 in
set_option maxHeartbeats 1600000 in
theorem fInv_of (x : Int) (a R : Nat) (E : Int) (HF : ∀ w, Calls Tryz.prog 109 #[.int .i64 0, .int .i64 x, .agg (nw 9 a)] w fun e w' => e = .returned (.tuple #[.agg (nw 9 R), .int .i64 E]) ∧ Gr w w') (w : World) :
    Calls Tryz.prog 105 #[.int .i64 x, .agg (nw 9 a)] w fun e w' => e = .returned (.tuple #[.agg (nw 9 R), .int .i64 E]) ∧ Gr w w' := by
  have HF' : Hid (∀ w, Calls Tryz.prog 109 #[.int .i64 0, .int .i64 x, .agg (nw 9 a)] w fun e w' => e = .returned (.tuple #[.agg (nw 9 R), .int .i64 E]) ∧ Gr w w') := HF
  clear HF
  go_enter Tryz.func105, Tryz.ntmps105
  go_wp2_with (go_at_call 109; refine (HF'.out _).mono ?_; rintro e w' ⟨rfl, g, rfl⟩)
  refine bodyPost_ret (res_two Tryz.results105 (rd_nat (x := R) (by rfl) ?_) (rd_tmp (by rfl))) rfl ⟨rfl, (by repeat (first | exact Gr.refl _ | apply Gr.drewN | apply Gr.drew | apply Gr.alloc | apply Gr.gro))⟩
  simp [go_sem]
theorem mfor_ok10 (i a : Nat) (h1 : 1 ≤ i) (h2 : i ≤ 15) (ha : a < pN i) (w : World) (p : Nat) (hp : blk w p = nw 9 a) (hq : Pre (p + 1) w.heap.size) :
    Calls Tryz.prog 106 #[.int .i64 (i : Int), .slice (some ⟨p, 0, none⟩) 1 1] w fun e w' => e = .returned (.tuple #[.agg (nw 9 (pN i)), .int .i64 0]) ∧ Gr w w' := by
  have hB := pN_bd i h1 h2
  have := mfor_one i (pN i) a p h1 h2 rfl (by omega) (by omega) w hp hq
  rw [if_pos ha, if_pos ha] at this
  exact this
theorem fInv_ok (i a : Nat) (h1 : 1 ≤ i) (h2 : i ≤ 15) (h0 : 0 < a) (ha : a < pN i) (hg : Nat.gcd (pN i) a = 1) :
    ∃ x, x < pN i ∧ a * x % pN i = 1 ∧ ∀ w, Calls Tryz.prog 105 #[.int .i64 (i : Int), .agg (nw 9 a)] w fun e w' => e = .returned (.tuple #[.agg (nw 9 x), .int .i64 0]) ∧ Gr w w' := by
  have hB := pN_bd i h1 h2
  obtain ⟨x, hx, hax, hc⟩ := finv_some (pN i) a h0 ha (by omega) hB.1 hg
  exact ⟨x, hx, hax, fun w => fInv_of i a x 0 (fun w => onOne_inv i (pN i) a x 0 (fun w p hp hq => mfor_ok10 i a h1 h2 ha w p hp hq) hc w) w⟩
end Go.Proofs.YtlbkhhihkomahaaGreat
namespace Go.Proofs.YtlbkhhihkomahaaGreat
open Go.RowKit
attribute [local go_sem ↓] loadNat_is loadArr_is loadWide_is loadArrW_is storeNat_is storeWide_is
attribute [local go_sem] loadNat loadArr loadWide loadArrW storeNat storeWide idxArr fold9 fold18 nw_size nw_elem pre_self pre_1 pre_2 pre_3 pre_4 pre_5 pre_6 pre_7 pre_8 pre_9 pre_10 pre_11 pre_12 pre_13 pre_14 pre_15 pre_16 pre_17 pre_18 pre_19 pre_20 pre_21 pre_22 pre_23 pre_24 pre_25 pre_26 pre_27 pre_28 pre_29 pre_30 pre_31 pre_32 pre_33 pre_34 pre_35 pre_36 pre_37 pre_38 pre_39 pre_40 gro_size gro_drew gro_drewN drew_gro drewN_gro gro_gro blk_gro frz_gro blk_drew frz_drew blk_drewN frz_drewN blk_alloc_at frz_alloc_at blk_alloc frz_alloc cell_gro frozen_gro cell_alloc_pre frozen_alloc_pre setCell_drewN alloc_drewN setBlk_drew setBlk_drewN setBlk_alloc_at setBlk_alloc setBlk_gro setCell_gro setCell_alloc_pre size_setBlk size_setCell
attribute [local go_sem] ppre_1 ppre_2 ppre_3
/-- A row of words. -/
def ws (l : List Nat) : Array Value := (l.map fun x : Nat => Value.int .u64 (x : Int)).toArray
/-- The number of these words, the highest first. -/
def numW (l : List Nat) : Nat := l.foldl (fun a x => a * 18446744073709551616 + x) 0
theorem ws_get (l : List Nat) (j x : Nat) (h : l[j]? = some x) : (ws l)[j]? = some (.int .u64 (x : Int)) := by simp [ws, h]
theorem numW_take (l : List Nat) (j x : Nat) (h : l[j]? = some x) : numW (l.take (j + 1)) = numW (l.take j) * 18446744073709551616 + x := by
  unfold numW
  rw [List.take_add_one, h, List.foldl_append]
  rfl
theorem put_word (N x q : Nat) : N * pw (q + 1) % pw q + x * pw q + N * pw (q + 1) / pw (q + 1) * pw (q + 1) = (N * 18446744073709551616 + x) * pw q := by
  have h1 : N * pw (q + 1) % pw q = 0 := by
    rw [pow_succ64, Nat.mul_comm (pw q), ← Nat.mul_assoc, Nat.mul_mod_left]
  have h2 : N * pw (q + 1) / pw (q + 1) = N := Nat.mul_div_cancel _ (pw_pos _)
  rw [h1, h2, Nat.zero_add, pow_succ64, Nat.add_mul, Nat.add_comm, Nat.mul_assoc N, Nat.mul_comm (pw q)]
set_option maxRecDepth 100000 in
set_option maxHeartbeats 800000 in
theorem number_any (l : List Nat) (k b : Nat) (hk : l.length = k) (h9 : k ≤ 9) (hw : ∀ x ∈ l, x < 18446744073709551616) (w : World) (hb : blk w b = ws l) (hp : Pre (b + 1) w.heap.size) :
    Calls Tryz.prog 103 #[.slice (some ⟨b, 0, none⟩) k k] w fun e w' => e = .returned (.agg (nw 9 (numW l))) ∧ Gr w w' := by
  have HC : Hid (∀ (j x : Nat), l[j]? = some x → w.cell? ⟨b, j, none⟩ = some (.int .u64 (x : Int))) := fun j x h => by rw [cell_blk, hb]; exact ws_get l j x h
  have HX : Hid (∀ (j x : Nat), l[j]? = some x → x < 18446744073709551616) := fun j x h => hw x (List.mem_of_getElem? h)
  have HK : Hid (Unit → l.length = k) := fun _ => hk
  have k0 : (0 : Int) ≤ (k : Int) := by omega
  have k9 : (k : Int) ≤ 9 := by omega
  have K9 : Hid (Unit → k ≤ 9) := fun _ => h9
  clear hb hw hk h9
  go_enter Tryz.func103, Tryz.ntmps103
  go_wp2
  go_loopw [8] (fun i wr => ∃ j V : Nat, i = .int .i64 (j : Int) ∧ Hid (Unit → j ≤ k ∧ numW (l.take j) * pw (k - j) = V) ∧ wr = (w.alloc (.cells (nw 9 0) 25)).alloc (.cells (nw 9 V) 25)) (fun i _ => k - (intOf i).toNat)
  case atStart => exact ⟨0, 0, rfl, fun _ => ⟨Nat.zero_le _, by simp [numW]⟩, rfl⟩
  case round =>
    obtain ⟨j, V, rfl, HV, rfl⟩ := hrel
    by_cases hlt : j < k
    · obtain ⟨q, hq⟩ : ∃ q, k - 1 - j = q := ⟨_, rfl⟩
      have hj : j < l.length := by rw [HK.out ()]; exact hlt
      obtain ⟨x, hx⟩ : ∃ x, l[j]? = some x := ⟨l[j], List.getElem?_eq_getElem hj⟩
      have c1 := HC.out j x hx
      have x1 := HX.out j x hx
      have j0 : (0 : Int) ≤ (j : Int) := by omega
      have j1 : (j : Int) < (k : Int) := by omega
      have e1 : (k : Int) - 1 - (j : Int) = (q : Int) := by omega
      have q0 : (0 : Int) ≤ (q : Int) := by omega
      have q1 : (q : Int) < 9 := by have := K9.out (); omega
      have hq9 : q < 9 := by have := K9.out (); omega
      obtain ⟨V', hV'⟩ : ∃ V', numW (l.take (j + 1)) * pw q = V' := ⟨_, rfl⟩
      have s1 : (nw 9 V).setIfInBounds q (Value.int .u64 (x : Int)) = nw 9 V' := by
        rw [nw_set 9 V q x x1, ← hV', ← (HV.out ()).2, numW_take l j x hx, show k - j = q + 1 by omega, put_word]
      have HV' : Hid (Unit → j + 1 ≤ k ∧ numW (l.take (j + 1)) * pw (k - (j + 1)) = V') := fun _ => ⟨hlt, by rw [← hV', show k - (j + 1) = q by omega]⟩
      have g1 := nw_get 9 V q hq9
      clear hV' hx hq hq9 x1 hj hlt
      go_wp2
      go_roundw
      case rel => exact ⟨j + 1, V', by go_num, HV', rfl⟩
      case measure => simp [intOf]; omega
    · have HE : Hid (Unit → V = numW l) := fun _ => by
        have := HV.out ()
        rw [← this.2, show k - j = 0 by omega, pw_zero, Nat.mul_one, List.take_of_length_le (by rw [HK.out ()]; omega)]
      have ji : ¬ (j : Int) < (k : Int) := by omega
      clear hlt
      go_wp2
      refine bodyPost_ret (res_one Tryz.results103 (rd_nat (x := V) (by rfl) ?_)) rfl ⟨by rw [HE.out ()], (by repeat (first | exact Gr.refl _ | apply Gr.drewN | apply Gr.drew | apply Gr.alloc | apply Gr.gro))⟩
      simp [go_sem]

end Go.Proofs.YtlbkhhihkomahaaGreat
namespace Go.Proofs.YtlbkhhihkomahaaGreat
open Go.RowKit
attribute [local go_sem ↓] loadNat_is loadArr_is loadWide_is loadArrW_is storeNat_is storeWide_is
attribute [local go_sem] loadNat loadArr loadWide loadArrW storeNat storeWide idxArr fold9 fold18 nw_size nw_elem pre_self pre_1 pre_2 pre_3 pre_4 pre_5 pre_6 pre_7 pre_8 pre_9 pre_10 pre_11 pre_12 pre_13 pre_14 pre_15 pre_16 pre_17 pre_18 pre_19 pre_20 pre_21 pre_22 pre_23 pre_24 pre_25 pre_26 pre_27 pre_28 pre_29 pre_30 pre_31 pre_32 pre_33 pre_34 pre_35 pre_36 pre_37 pre_38 pre_39 pre_40 gro_size gro_drew gro_drewN drew_gro drewN_gro gro_gro blk_gro frz_gro blk_drew frz_drew blk_drewN frz_drewN blk_alloc_at frz_alloc_at blk_alloc frz_alloc cell_gro frozen_gro cell_alloc_pre frozen_alloc_pre setCell_drewN alloc_drewN setBlk_drew setBlk_drewN setBlk_alloc_at setBlk_alloc setBlk_gro setCell_gro setCell_alloc_pre size_setBlk size_setCell
attribute [local go_sem] loadNat2 loadArr2 loadWide2 loadK_nw ppre_1 ppre_2 ppre_3 ppre_4 ppre_5 ppre_6 ppre_7 ppre_8 ppre_9 ppre_10 ppre_11 ppre_12 ppre_13 ppre_14 ppre_15 ppre_16 ppre_17 ppre_18 ppre_19 ppre_20

attribute [local go_sem ↓] Go.wp_at_zero Go.wp_at_succ
attribute [local go_sem] frz_setBlk blk_setBlk setBlk_setBlk blk_other
set_option maxRecDepth 100000 in
set_option maxHeartbeats 1600000 in
theorem lessThree_any (p : Nat) (h3 : 3 ≤ p) (hp : p < M) (w : World) :
    Calls Tryz.prog 102 #[.agg (nw 9 p)] w fun e w' => e = .returned (.agg (nw 9 (p - 3))) ∧ Gr w w' := by
  obtain ⟨d, hd'⟩ : ∃ d, p - 3 = d := ⟨_, rfl⟩
  have hd : ∀ w, Calls Tryz.prog 108 #[.agg (nw 9 p), .agg (nw 9 3)] w fun e w' => e = .returned (.tuple #[.agg (nw 9 d), .bool false]) ∧ Gr w w' := fun w => by
    have := sub_any p 3 hp (by omega) w
    rw [decide_eq_false (by omega), show p + M - 3 = d + M by omega, Nat.add_mod_right, Nat.mod_eq_of_lt (show d < M by omega)] at this
    exact this
  rw [hd']
  have HS : Hid (∀ w', Calls Tryz.prog 104 #[.int .i64 3] w' fun e w'' => e = .returned (.agg (nw 9 3)) ∧ Gr w' w'') := fun w => small_any 3 (by decide) w
  have HD : Hid (∀ w', Calls Tryz.prog 108 #[.agg (nw 9 p), .agg (nw 9 3)] w' fun e w'' => e = .returned (.tuple #[.agg (nw 9 d), .bool false]) ∧ Gr w' w'') := fun w => hd w
  clear hd hd' h3 hp
  go_enter Tryz.func102, Tryz.ntmps102
  go_upto_region 1 with fail
  refine gen_w (fun v => Hid (Gr w v ∧ Cl v w.heap.size p ∧ Cl v (w.heap.size + 1) 0)) ⟨(by repeat (first | exact Gr.refl _ | apply Gr.drewN | apply Gr.drew | apply Gr.alloc | apply Gr.gro)), ⟨by simp [go_sem], by simp [go_sem], by simp [go_sem]⟩, ⟨by simp [go_sem], by simp [go_sem], by simp [go_sem]⟩⟩ ?_
  intro v0 HV
  go_upto_region 1 with fail
  go_cut [3, 4] from 5 to 10 (fun a0 a1 wx => ∃ e3 : Nat, a0 = .pointer (some ⟨e3, 0, none⟩) ∧ a1 = .bool false ∧ Hid (Gr w wx ∧ Cl wx (w.heap.size) p ∧ Cl wx (w.heap.size + 1) 0 ∧ Cl wx e3 d))
  case first =>
    have ⟨G, c_w_heap_size, c__w_heap_size_1_⟩ := HV.out
    have ⟨hc_w_heap_size, fc_w_heap_size, pc_w_heap_size⟩ := c_w_heap_size
    have ⟨hc__w_heap_size_1_, fc__w_heap_size_1_, pc__w_heap_size_1_⟩ := c__w_heap_size_1_
    refine wp_region_mix (by kernel_rfl) (by kernel_rfl) (RG _ (fun i => match i with | 0 => some (.agg (nw 9 p)) | 1 => some (.agg (nw 9 3)) | 2 => some (.tuple #[.agg (nw 9 d), .bool false]) | 3 => some (.tuple #[.agg (nw 9 d), .bool false]) | 4 => some (.agg (nw 9 d)) | 5 => some (.bool false) | 8 => some (.bool false) | _ => none) (fun i => match i with | 6 => some (nw 9 0) | _ => none) (fun i => match i with | 6 => some (7, nw 9 d) | _ => none)) (RG.start _ _ _ _ _ _) ?hs ?hf
    case hs =>
      intro listed vals a1 v1 i o hz hR hF ho hl hd
      have hks : ∀ (j k : Nat) (r : Array Value), (match j with | 6 => some (7, nw 9 d) | _ => (none : Option (Nat × Array Value))) = some (k, r) → (j = 6 ∧ k = 7) := fun j k r h => by
        split at h <;> simp_all
      have Hc_w_heap_size : blk v1 (w.heap.size) = nw 9 p := (blk_of _ _ _ (hR.1.below.block (w.heap.size) (c_w_heap_size.p))).trans (c_w_heap_size.h)
      have Hc__w_heap_size_1_ : blk v1 ((w.heap.size + 1)) = nw 9 0 := (blk_of _ _ _ (hR.1.below.block ((w.heap.size + 1)) (c__w_heap_size_1_.p))).trans (c__w_heap_size_1_.h)
      have hi : i < 9 := by simpa using (Array.getElem?_eq_some_iff.1 ho).1
      have hil : i < listed.size := by rw [hz]; simpa using hi
      obtain rfl | rfl | rfl | rfl | rfl | rfl | rfl | rfl | rfl : i = 0 ∨ i = 1 ∨ i = 2 ∨ i = 3 ∨ i = 4 ∨ i = 5 ∨ i = 6 ∨ i = 7 ∨ i = 8 := by omega
      · obtain rfl := Option.some.inj ho
        have f0 := hF.old (s := 1) (v := .pointer (some ⟨w.heap.size, 0, none⟩)) (by kernel_rfl) rfl
        exact wp_val (.agg (nw 9 p)) (by simp [go_sem, f0, Hc_w_heap_size]) ⟨_, rfl, RG.quiet 0 _ hil rfl rfl (fun j k r h => by have := hks j k r h; omega) (Gr.refl _) hR⟩
      · obtain rfl := Option.some.inj ho
        exact wp_ret (.agg (nw 9 3)) (by simp [go_sem]) (HS.out _) (fun w2 hg => ⟨_, rfl, RG.quiet 1 _ hil rfl rfl (fun j k r h => by have := hks j k r h; omega) hg hR⟩)
      · obtain rfl := Option.some.inj ho
        have l0 := hd ⟨0, .data⟩ (by simp) rfl
        have f0 := hF.at (s := 6) (i := 0) (by kernel_rfl) (by simp) l0
        rw [hR.2.1 0 _ l0 rfl] at f0
        have l1 := hd ⟨1, .data⟩ (by simp) rfl
        have f1 := hF.at (s := 7) (i := 1) (by kernel_rfl) (by simp) l1
        rw [hR.2.1 1 _ l1 rfl] at f1
        exact wp_ret (.tuple #[.agg (nw 9 d), .bool false]) (by simp [go_sem, f0, f1]) (HD.out _) (fun w2 hg => ⟨_, rfl, RG.quiet 2 _ hil rfl rfl (fun j k r h => by have := hks j k r h; omega) hg hR⟩)
      · obtain rfl := Option.some.inj ho
        have l0 := hd ⟨2, .data⟩ (by simp) rfl
        have f0 := hF.at (s := 8) (i := 2) (by kernel_rfl) (by simp) l0
        rw [hR.2.1 2 _ l0 rfl] at f0
        exact wp_val (.tuple #[.agg (nw 9 d), .bool false]) (by simp [go_sem, f0]) ⟨_, rfl, RG.quiet 3 _ hil rfl rfl (fun j k r h => by have := hks j k r h; omega) (Gr.refl _) hR⟩
      · obtain rfl := Option.some.inj ho
        have l0 := hd ⟨3, .data⟩ (by simp) rfl
        have f0 := hF.at (s := 5) (i := 3) (by kernel_rfl) (by simp) l0
        rw [hR.2.1 3 _ l0 rfl] at f0
        exact wp_val (.agg (nw 9 d)) (by simp [go_sem, f0]) ⟨_, rfl, RG.quiet 4 _ hil rfl rfl (fun j k r h => by have := hks j k r h; omega) (Gr.refl _) hR⟩
      · obtain rfl := Option.some.inj ho
        have l0 := hd ⟨3, .data⟩ (by simp) rfl
        have f0 := hF.at (s := 5) (i := 3) (by kernel_rfl) (by simp) l0
        rw [hR.2.1 3 _ l0 rfl] at f0
        exact wp_val (.bool false) (by simp [go_sem, f0]) ⟨_, rfl, RG.quiet 5 _ hil rfl rfl (fun j k r h => by have := hks j k r h; omega) (Gr.refl _) hR⟩
      · obtain rfl := Option.some.inj ho
        exact wp_val (.pointer (some ⟨v1.heap.size, 0, none⟩)) (w' := v1.alloc (.cells (nw 9 0) 25)) (by simp [go_sem]) ⟨_, rfl, RG.alloc 6 (nw 9 0) 25 hil hl rfl rfl (fun j k r h => by have := hks j k r h; omega) hR⟩
      · obtain rfl := Option.some.inj ho
        have l0 := hd ⟨6, .data⟩ (by simp) rfl
        have l1 := hd ⟨4, .data⟩ (by simp) rfl
        obtain ⟨B, h4, h5⟩ := hR.2.2.2
        obtain ⟨e1, e2, e3, e4, e5⟩ := h4 6 (nw 9 0) l0 rfl
        simp only [hl] at e5
        replace e5 : blk v1 (B 6) = nw 9 0 := e5
        have f0 := hF.at (s := 3) (i := 6) (by kernel_rfl) (by simp) l0
        rw [e1] at f0
        have f1 := hF.at (s := 9) (i := 4) (by kernel_rfl) (by simp) l1
        rw [hR.2.1 4 _ l1 rfl] at f1
        exact wp_skip (w' := setBlk v1 (B 6) (nw 9 d)) (by simp [go_sem, f0, f1, e4, e5]) ⟨undef, rfl, RG.store 7 6 (nw 9 0) (nw 9 d) (B 6) hil hl rfl rfl rfl l0 rfl (by rw [nw_size]; decide) e1 (fun k r h => by have := hks k _ r h; omega) hR⟩
      · obtain rfl := Option.some.inj ho
        have l0 := hd ⟨5, .data⟩ (by simp) rfl
        have f0 := hF.at (s := 10) (i := 5) (by kernel_rfl) (by simp) l0
        rw [hR.2.1 5 _ l0 rfl] at f0
        exact wp_val (.bool false) (by simp [go_sem, f0]) ⟨_, rfl, RG.quiet 8 _ hil rfl rfl (fun j k r h => by have := hks j k r h; omega) (Gr.refl _) hR⟩
    case hf =>
      intro listed vals a1 v1 hall hR hF
      have Hc_w_heap_size : blk v1 (w.heap.size) = nw 9 p := (blk_of _ _ _ (hR.1.below.block (w.heap.size) (c_w_heap_size.p))).trans (c_w_heap_size.h)
      have pHc_w_heap_size : Pre (w.heap.size + 1) v1.heap.size := Nat.le_trans (show w.heap.size + 1 ≤ _ from c_w_heap_size.p) hR.1.below.size
      have Hc__w_heap_size_1_ : blk v1 ((w.heap.size + 1)) = nw 9 0 := (blk_of _ _ _ (hR.1.below.block ((w.heap.size + 1)) (c__w_heap_size_1_.p))).trans (c__w_heap_size_1_.h)
      have pHc__w_heap_size_1_ : Pre ((w.heap.size + 1) + 1) v1.heap.size := Nat.le_trans (show (w.heap.size + 1) + 1 ≤ _ from c__w_heap_size_1_.p) hR.1.below.size
      have hV := hR.2.1
      obtain ⟨B, h4, h5⟩ := hR.2.2.2
      have x0 := hV 0 _ (hall 0 (by simp)) rfl
      have x1 := hV 1 _ (hall 1 (by simp)) rfl
      have x2 := hV 2 _ (hall 2 (by simp)) rfl
      have x3 := hV 3 _ (hall 3 (by simp)) rfl
      have x4 := hV 4 _ (hall 4 (by simp)) rfl
      have x5 := hV 5 _ (hall 5 (by simp)) rfl
      have x8 := hV 8 _ (hall 8 (by simp)) rfl
      obtain ⟨x6, q6, p6, z6, y6⟩ := h4 6 _ (hall 6 (by simp)) rfl
      simp only [hall 7 (by simp), if_true] at y6
      replace p6 : Pre (B 6 + 1) v1.heap.size := p6
      replace y6 : blk v1 (B 6) = nw 9 d := y6
      have hb1 := hR.1
      rw [hF.final (by kernel_rfl) hall]
      simp only [putFrom, Act.put, List.setIfInBounds_toArray, List.set_cons_zero, List.set_cons_succ, x0, x1, x2, x3, x4, x5, x8, x6]
      generalize B 6 = b6 at *
      clear hV h4 h5 hR hF hall x0 x1 x2 x3 x4 x5 x8 x6
      go_wp2_with fail
      go_meet
      exact ⟨b6, rfl, rfl, G.trans hb1, c_w_heap_size.gr hb1, c__w_heap_size_1_.gr hb1, ⟨y6, z6, p6⟩⟩
  clear HV
  obtain ⟨e3, rfl, rfl, HV⟩ := hcut
  have ⟨G, c_w_heap_size, c__w_heap_size_1_, c_e3⟩ := HV.out
  have ⟨hc_w_heap_size, fc_w_heap_size, pc_w_heap_size⟩ := c_w_heap_size
  have ⟨hc__w_heap_size_1_, fc__w_heap_size_1_, pc__w_heap_size_1_⟩ := c__w_heap_size_1_
  have ⟨hc_e3, fc_e3, pc_e3⟩ := c_e3
  clear HV HS HD
  go_wp2_with fail
  refine bodyPost_ret (res_one Tryz.results102 (rd_nat (x := d) (by rfl) ?_)) rfl ⟨rfl, gr_setNew G (by omega)⟩
  simp [go_sem, *]

end Go.Proofs.YtlbkhhihkomahaaGreat
namespace Go.Proofs.YtlbkhhihkomahaaGreat
open Go.RowKit

/-- What may be known of an answer, while the world grows. -/
structure Kz where
  ok : Value → World → Prop
  gr : ∀ v w w', ok v w → Gr w w' → ok v w'
/-- It is v. -/
def Kz.c (v : Value) : Kz := ⟨fun u _ => u = v, fun _ _ _ h _ => h⟩
/-- It is a slice that holds x. -/
def Kz.n (x : Nat) : Kz := ⟨fun u w => ∃ p n, u = .slice p (dl x) n ∧ Sl w p x, fun _ _ _ ⟨p, n, e, h⟩ g => ⟨p, n, e, h.gr g⟩⟩
/-- A slice that holds x, and whether. -/
def Kz.nb (x : Nat) (f : Bool) : Kz := ⟨fun u w => ∃ p n, u = .tuple #[.slice p (dl x) n, .bool f] ∧ Sl w p x, fun _ _ _ ⟨p, n, e, h⟩ g => ⟨p, n, e, h.gr g⟩⟩
/-- The documents' point: three cells. -/
def ptA (p : Option Addr) (x n : Nat) (q : Option Addr) (y m : Nat) (f : Bool) : Array Value := #[.slice p (dl x) n, .slice q (dl y) m, .bool f]
def Kz.pt (x y : Nat) (f : Bool) : Kz := ⟨fun u w => ∃ p n q m, u = .agg (ptA p x n q y m f) ∧ Sl w p x ∧ Sl w q y, fun _ _ _ ⟨p, n, q, m, e, h, k⟩ g => ⟨p, n, q, m, e, h.gr g, k.gr g⟩⟩
/-- A new variable that holds z. -/
def Kz.v (N : Nat) (z : Array Value) : Kz := ⟨fun u w => ∃ b, u = .pointer (some ⟨b, 0, none⟩) ∧ N ≤ b ∧ Vr w b z, fun _ _ _ ⟨b, e, h, k⟩ g => ⟨b, e, h, k.gr g⟩⟩
/-- Whatever it is. -/
def Kz.top : Kz := ⟨fun _ _ => True, fun _ _ _ _ _ => trivial⟩
def kz (kp : List Kz) (i : Nat) (v : Value) (w : World) : Prop := match kp[i]? with | some k => k.ok v w | none => True
theorem kz.gr {kp : List Kz} {i : Nat} {v : Value} {w w' : World} (h : kz kp i v w) (g : Gr w w') : kz kp i v w' := by
  unfold kz at h ⊢
  cases e : kp[i]? with
  | none => trivial
  | some k => rw [e] at h; exact k.gr _ _ _ h g
/-- A call hands back such an answer. -/
def Rt (k : Kz) (w : World) (e : Ending) (w' : World) : Prop := ∃ u, e = .returned u ∧ k.ok u w' ∧ Gr w w'
theorem Rt.c {P : Program} {f : FuncId} {args : Array Value} {w : World} {v : Value} (h : Calls P f args w fun e w' => e = .returned v ∧ Gr w w') : Calls P f args w (Rt (.c v) w) := h.mono fun _ _ ⟨e, g⟩ => ⟨_, e, rfl, g⟩
theorem Rt.n {P : Program} {f : FuncId} {args : Array Value} {w : World} {x : Nat} (h : Calls P f args w (Nm x w)) : Calls P f args w (Rt (.n x) w) := h.mono fun _ _ ⟨p, n, e, s, g⟩ => ⟨_, e, ⟨p, n, rfl, s⟩, g⟩
theorem Rt.same {P : Program} {f : FuncId} {args : Array Value} {w : World} {v : Value} (h : Calls P f args w fun e w' => e = .returned v ∧ w' = w) : Calls P f args w (Rt (.c v) w) := h.mono fun _ _ ⟨e, g⟩ => ⟨_, e, rfl, by rw [g]; exact Gr.refl _⟩
theorem wp_retz {P : Program} {o : Oper} {a : Act} {w : World} {K : Act → World → Prop} {Q : Exit → Act → World → Prop} {f : FuncId} {args : Array Value} {k : Kz} (h : (execOp a.eval o).run P w = .ok (.enter f args) w)
    (hc : Calls P f args w (Rt k w)) (hk : ∀ u w', k.ok u w' → Gr w w' → K (a.put o.dst u) w') : o.wp P a w K Q := by
  unfold Oper.wp; rw [h]
  exact hc.mono fun e w' ⟨u, he, hu, hg⟩ => by subst he; exact hk u w' hu hg
def RZ (W : World) (kp : List Kz) (listed : Array Bool) (vals : Nat → Value) (w : World) : Prop :=
  Gr W w ∧ ∀ j, listed.getD j false = true → kz kp j (vals j) w
theorem RZ.next {W w w' : World} {kp : List Kz} {listed : Array Bool} {vals : Nat → Value} {i : Nat} {v : Value} (h : RZ W kp listed vals w) (hg : Gr w w') (hv : kz kp i v w') : RZ W kp (listed.setIfInBounds i true) (upd vals i v) w' := by
  refine ⟨h.1.trans hg, fun j hj => ?_⟩
  by_cases e : j = i
  · subst e; simpa [upd] using hv
  · rw [getD_set_other _ _ _ (Ne.symm e)] at hj
    simp only [upd, e, if_false]
    exact (h.2 j hj).gr hg
theorem wp_region_q {P : Program} {id : Nat} {l : List Oper} {Q : Exit → Act → World → Prop} {a0 : Act} {W : World} (hm : P.follows .mixedOrders = true) (hu : uniqG l.toArray = true) (kp : List Kz)
    (hstep : ∀ (listed : Array Bool) (vals : Nat → Value) (a : Act) (v : World) (i : Nat) (o : Oper), Gr W v → (∀ j, listed.getD j false = true → kz kp j (vals j) v) → Frm l.toArray a0 vals listed a → l.toArray[i]? = some o →
      (∀ e ∈ o.after, Region.binds .any e = true → listed.getD e.on false = true) →
      (Region.wanted o (yielded l.toArray a.tmps) = true ∧ o.wp P a v (fun a' w' => ∃ u, a' = a.put o.dst u ∧ Gr v w' ∧ kz kp i u w') Q) ∨ (Region.wanted o (yielded l.toArray a.tmps) = false ∧ kz kp i undef v))
    (hfin : ∀ (vals : Nat → Value) (v : World), Gr W v → (∀ j, j < l.toArray.size → kz kp j (vals j) v) → Q .normal (putFrom vals 0 l a0) v) :
    (Code.region id l.toArray true).wp P Q a0 W := by
  refine wp_region_mixG hm hu (RZ W kp) ⟨⟨⟨[], 1⟩, by simp [gro]⟩, fun j hj => ?_⟩ (fun listed vals a w i o hz hR hF ho hl hd => ?_) (fun listed vals a w hall hR hF => ?_)
  · rw [none_listed] at hj
    cases hj
  · obtain ⟨h1, h2⟩ | ⟨h1, h2⟩ := hstep listed vals a w i o hR.1 hR.2 hF ho hd
    · refine Or.inl ⟨h1, Oper.wp_mono (fun a' w' h => ?_) h2⟩
      obtain ⟨v, rfl, hg, hv⟩ := h
      exact ⟨v, rfl, RZ.next hR hg hv⟩
    · exact Or.inr ⟨h1, RZ.next hR (Gr.refl _) h2⟩
  · rw [hF.final hu hall]
    exact hfin vals w hR.1 fun j hj => hR.2 j (hall j hj)

/-! ### one store at the end, that waits for all else -/
/-- Each operation but the last has a later one that waits for it; the last hands nothing on and is not guarded. -/
def sinkZ (l : List Oper) (n : Nat) : Bool := decide (l.length = n + 1) && (((l[n]?).map fun o => o.dst.isNone && o.guard.isNone).getD false) &&
  (List.range n).all fun i => (List.range (n + 1)).any fun j => decide (i < j) && ((l[j]?).map fun o => o.after.any fun e => e.on == i && Region.binds .any e).getD false
/-- What is done has all done that it waits for. -/
def Cld (l : List Oper) (listed : Array Bool) : Prop := ∀ j o, l[j]? = some o → listed.getD j false = true → ∀ e ∈ o.after, Region.binds .any e = true → listed.getD e.on false = true
theorem sink_all {l : List Oper} {n : Nat} (hs : sinkZ l n = true) {listed : Array Bool} (hc : Cld l listed) {o : Oper} (ho : l[n]? = some o) (hd : ∀ e ∈ o.after, Region.binds .any e = true → listed.getD e.on false = true) :
    ∀ k i, i < n → n ≤ i + k → listed.getD i false = true
  | 0, i, h1, h2 => by omega
  | k + 1, i, h1, h2 => by
    simp only [sinkZ, Bool.and_eq_true, decide_eq_true_eq] at hs
    have h := List.all_eq_true.1 hs.2 i (by simpa using h1)
    obtain ⟨j, hj, hb⟩ := List.any_eq_true.1 h
    simp only [Bool.and_eq_true, decide_eq_true_eq, List.mem_range] at hj hb
    cases hw : l[j]? with
    | none => rw [hw] at hb; simp at hb
    | some oj =>
      rw [hw] at hb
      simp only [Option.map_some, Option.getD_some] at hb
      obtain ⟨m, hm, hm2⟩ := Array.any_eq_true.1 hb.2
      simp only [Bool.and_eq_true, beq_iff_eq] at hm2
      by_cases e : j = n
      · subst e
        rw [ho] at hw; cases hw
        rw [← hm2.1]; exact hd _ (Array.getElem_mem hm) hm2.2
      · have := sink_all (by simp only [sinkZ, Bool.and_eq_true, decide_eq_true_eq]; exact hs) hc ho hd k j (by omega) (by omega)
        rw [← hm2.1]; exact hc j oj hw this _ (Array.getElem_mem hm) hm2.2
theorem putFrom_congr {vals vals' : Nat → Value} : ∀ (l : List Oper) (k : Nat) (a : Act), (∀ j o, l[j]? = some o → o.dst.isSome = true → vals (k + j) = vals' (k + j)) → putFrom vals k l a = putFrom vals' k l a
  | [], _, _, _ => rfl
  | o :: l, k, a, h => by
    rw [putFrom, putFrom]
    have e : a.put o.dst (vals k) = a.put o.dst (vals' k) := by
      cases hd : o.dst with
      | none => rfl
      | some d => rw [show vals k = vals' k from h 0 o rfl (by rw [hd]; rfl)]
    rw [e]
    exact putFrom_congr l (k + 1) _ fun j o hj hd => by
      have := h (j + 1) o (by simpa using hj) hd
      rw [show k + 1 + j = k + (j + 1) by omega]; exact this
theorem wp_region_qT {P : Program} {id : Nat} {l : List Oper} {Q : Exit → Act → World → Prop} {a0 : Act} {W : World} (hm : P.follows .mixedOrders = true) (hu : uniqG l.toArray = true) (n : Nat) (hs : sinkZ l n = true) (kp : List Kz)
    (hstep : ∀ (listed : Array Bool) (vals : Nat → Value) (a : Act) (v : World) (i : Nat) (o : Oper), Gr W v → (∀ j, listed.getD j false = true → kz kp j (vals j) v) → Frm l.toArray a0 vals listed a → l.toArray[i]? = some o → i < n →
      (∀ e ∈ o.after, Region.binds .any e = true → listed.getD e.on false = true) →
      (Region.wanted o (yielded l.toArray a.tmps) = true ∧ o.wp P a v (fun a' w' => ∃ u, a' = a.put o.dst u ∧ Gr v w' ∧ kz kp i u w') Q) ∨ (Region.wanted o (yielded l.toArray a.tmps) = false ∧ kz kp i undef v))
    (hlast : ∀ (listed : Array Bool) (vals : Nat → Value) (a : Act) (v : World) (o : Oper), Gr W v → (∀ j, j < n → kz kp j (vals j) v) → Frm l.toArray a0 vals listed a → (∀ j, j < n → listed.getD j false = true) → l.toArray[n]? = some o →
      o.wp P a v (fun a' w' => a' = a.put o.dst undef ∧ Q .normal (putFrom vals 0 l a0) w') Q) :
    (Code.region id l.toArray true).wp P Q a0 W := by
  have hs' := hs
  simp only [sinkZ, Bool.and_eq_true, decide_eq_true_eq] at hs'
  obtain ⟨⟨hlen, hlo⟩, -⟩ := hs'
  refine wp_region_mixG hm hu (fun listed vals w => Cld l listed ∧ ((listed.getD n false = false ∧ RZ W kp listed vals w) ∨ (listed.getD n false = true ∧ (∀ i, i < n → listed.getD i false = true) ∧ ∃ vals0, (∀ j, j ≠ n → vals j = vals0 j) ∧ Q .normal (putFrom vals0 0 l a0) w)))
    ⟨fun j o _ hj => (by rw [none_listed] at hj; cases hj), Or.inl ⟨none_listed _ _, ⟨⟨⟨[], 1⟩, by simp [gro]⟩, fun j hj => (by rw [none_listed] at hj; cases hj)⟩⟩⟩ (fun listed vals a w i o hz hR hF ho hl hd => ?_) (fun listed vals a w hall hR hF => ?_)
  · have ho' : l[i]? = some o := by simpa using ho
    have hi : i < n + 1 := by rw [← hlen]; exact (List.getElem?_eq_some_iff.1 ho').1
    have hil : i < listed.size := by rw [hz]; simpa [hlen] using hi
    have hC : Cld l (listed.setIfInBounds i true) := fun j oj hj hlj e he hb => by
      by_cases e1 : e.on = i
      · rw [e1]; exact getD_set_same _ _ hil
      · rw [getD_set_other _ _ _ (Ne.symm e1)]
        by_cases e2 : j = i
        · subst e2
          rw [ho'] at hj; cases hj
          exact hd e he hb
        · rw [getD_set_other _ _ _ (Ne.symm e2)] at hlj
          exact hR.1 j oj hj hlj e he hb
    obtain ⟨hRC, ⟨hn, hR⟩ | ⟨hn, hall, -⟩⟩ := hR
    · by_cases e : i = n
      · subst e
        have hall := fun j hj => sink_all hs hRC ho' hd i j hj (Nat.le_add_left _ _)
        have hg : o.dst = none ∧ o.guard = none := by rw [ho'] at hlo; simpa using hlo
        refine Or.inl ⟨wanted_no hg.2, Oper.wp_mono (fun a' w' h => ?_) (hlast listed vals a w o hR.1 (fun j hj => hR.2 j (hall j hj)) hF hall ho)⟩
        obtain ⟨rfl, hq⟩ := h
        refine ⟨undef, rfl, hC, Or.inr ⟨getD_set_same _ _ hil, fun j hj => ?_, vals, fun j hj => by simp [upd, hj], hq⟩⟩
        rw [getD_set_other _ _ _ (by omega)]; exact hall j hj
      · obtain ⟨h1, h2⟩ | ⟨h1, h2⟩ := hstep listed vals a w i o hR.1 hR.2 hF ho (by omega) hd
        · refine Or.inl ⟨h1, Oper.wp_mono (fun a' w' h => ?_) h2⟩
          obtain ⟨v, rfl, hg, hv⟩ := h
          exact ⟨v, rfl, hC, Or.inl ⟨by rw [getD_set_other _ _ _ e]; exact hn, RZ.next hR hg hv⟩⟩
        · exact Or.inr ⟨h1, hC, Or.inl ⟨by rw [getD_set_other _ _ _ e]; exact hn, RZ.next hR (Gr.refl _) h2⟩⟩
    · exfalso
      by_cases e : i = n
      · subst e; rw [hl] at hn; cases hn
      · have := hall i (by omega)
        rw [hl] at this; cases this
  · obtain ⟨-, ⟨hn, -⟩ | ⟨-, -, vals0, hv, hq⟩⟩ := hR
    · rw [hall n (by simp [hlen])] at hn; cases hn
    · rw [hF.final hu hall, putFrom_congr (vals' := vals0) l 0 a0 (fun j o hj hd => ?_)]
      · exact hq
      · rw [Nat.zero_add]
        refine hv j fun e => ?_
        subst e
        rw [hj] at hlo
        simp only [Option.map_some, Option.getD_some, Bool.and_eq_true, Option.isNone_iff_eq_none] at hlo
        rw [hlo.1] at hd; cases hd

end Go.Proofs.YtlbkhhihkomahaaGreat
namespace Go.Proofs.YtlbkhhihkomahaaGreat
open Go.RowKit
theorem RZ.start0 (W : World) (kp : List Kz) (n : Nat) (vals : Nat → Value) : RZ W kp (upTo n 0) vals W := ⟨Gr.refl W, fun j hj => by rw [upTo_getD] at hj; simp at hj⟩
theorem wpList_q {P : Program} {l : List Oper} {Q : Exit → Act → World → Prop} {a0 : Act} {W : World} (hu : uniqG l.toArray = true) (kp : List Kz) (n : Nat) (hn : n ≤ l.length)
    (hstep : ∀ (listed : Array Bool) (vals : Nat → Value) (a : Act) (v : World) (i : Nat) (o : Oper), Gr W v → (∀ j, listed.getD j false = true → kz kp j (vals j) v) → Frm l.toArray a0 vals listed a → l.toArray[i]? = some o → i < n →
      (∀ e ∈ o.after, Region.binds .any e = true → listed.getD e.on false = true) →
      (Region.wanted o (yielded l.toArray a.tmps) = true ∧ o.wp P a v (fun a' w' => ∃ u, a' = a.put o.dst u ∧ Gr v w' ∧ kz kp i u w') Q) ∨ (Region.wanted o (yielded l.toArray a.tmps) = false ∧ kz kp i undef v))
    (hfin : ∀ (vals : Nat → Value) (a : Act) (v : World), Gr W v → (∀ j, j < n → kz kp j (vals j) v) → Frm l.toArray a0 vals (upTo l.length n) a → wpList P l.toArray Q (l.drop n) a v) :
    ∀ (d k : Nat) (vals : Nat → Value) (a : Act) (w : World), k + d = n → RZ W kp (upTo l.length k) vals w → Frm l.toArray a0 vals (upTo l.length k) a → wpList P l.toArray Q (l.drop k) a w
  | 0, k, vals, a, w, hk, hR, hF => by
    obtain rfl : k = n := by omega
    exact hfin vals a w hR.1 (fun j hj => hR.2 j (by rw [upTo_getD]; simp; omega)) hF
  | d + 1, k, vals, a, w, hk, hR, hF => by
    have hkl : k < l.length := by omega
    rw [List.drop_eq_getElem_cons hkl, wpList]
    have ho : l.toArray[k]? = some l[k] := by simp [hkl]
    obtain ⟨-, hx⟩ := uniq_at hu ho
    have next : ∀ v w', Gr w w' → kz kp k v w' → wpList P l.toArray Q (l.drop (k + 1)) (a.put l[k].dst v) w' := fun v w' hg hv => by
      have h1 := hR.next (i := k) hg hv
      have h2 := hF.put hu ho (by simp [upTo]) v
      rw [upTo_set _ _ hkl] at h1 h2
      exact wpList_q hu kp n hn hstep hfin d (k + 1) _ _ _ (by omega) h1 h2
    obtain ⟨h1, h2⟩ | ⟨h1, h2⟩ := hstep (upTo l.length k) vals a w k _ hR.1 hR.2 hF ho (by omega) (fun e he hb => by rw [upTo_getD]; have := hx e he hb; simp; omega)
    · rw [if_pos h1]
      refine Or.inl (Oper.wp_mono (fun a' w' h => ?_) h2)
      obtain ⟨v, rfl, hg, hv⟩ := h
      exact next v w' hg hv
    · rw [if_neg (by rw [h1]; decide)]
      exact next undef w (Gr.refl _) h2
theorem wp_region_qS {P : Program} {id : Nat} {l : List Oper} {Q : Exit → Act → World → Prop} {a0 : Act} {W : World} (hu : uniqG l.toArray = true) (kp : List Kz)
    (hstep : ∀ (listed : Array Bool) (vals : Nat → Value) (a : Act) (v : World) (i : Nat) (o : Oper), Gr W v → (∀ j, listed.getD j false = true → kz kp j (vals j) v) → Frm l.toArray a0 vals listed a → l.toArray[i]? = some o →
      (∀ e ∈ o.after, Region.binds .any e = true → listed.getD e.on false = true) →
      (Region.wanted o (yielded l.toArray a.tmps) = true ∧ o.wp P a v (fun a' w' => ∃ u, a' = a.put o.dst u ∧ Gr v w' ∧ kz kp i u w') Q) ∨ (Region.wanted o (yielded l.toArray a.tmps) = false ∧ kz kp i undef v))
    (hfin : ∀ (vals : Nat → Value) (v : World), Gr W v → (∀ j, j < l.toArray.size → kz kp j (vals j) v) → Q .normal (putFrom vals 0 l a0) v) :
    (Code.region id l.toArray false).wp P Q a0 W := by
  refine wp_region_lit (wpList_q hu kp l.length (Nat.le_refl _) (fun listed vals a v i o h1 h2 h3 h4 _ h6 => hstep listed vals a v i o h1 h2 h3 h4 h6) (fun vals a v hg hk hF => ?_) l.length 0 (fun _ => undef) a0 W (by omega) (RZ.start0 _ _ _ _) (Frm.start_up l a0 _))
  rw [List.drop_length, wpList, hF.final hu (fun i hi => by rw [upTo_getD]; simp at hi ⊢; exact hi)]
  exact hfin vals v hg (fun j hj => hk j (by simpa using hj))
theorem wp_region_qTS {P : Program} {id : Nat} {l : List Oper} {Q : Exit → Act → World → Prop} {a0 : Act} {W : World} (hu : uniqG l.toArray = true) (n : Nat) (hs : (decide (l.length = n + 1) && (((l[n]?).map fun o => o.dst.isNone && o.guard.isNone).getD false)) = true) (kp : List Kz)
    (hstep : ∀ (listed : Array Bool) (vals : Nat → Value) (a : Act) (v : World) (i : Nat) (o : Oper), Gr W v → (∀ j, listed.getD j false = true → kz kp j (vals j) v) → Frm l.toArray a0 vals listed a → l.toArray[i]? = some o → i < n →
      (∀ e ∈ o.after, Region.binds .any e = true → listed.getD e.on false = true) →
      (Region.wanted o (yielded l.toArray a.tmps) = true ∧ o.wp P a v (fun a' w' => ∃ u, a' = a.put o.dst u ∧ Gr v w' ∧ kz kp i u w') Q) ∨ (Region.wanted o (yielded l.toArray a.tmps) = false ∧ kz kp i undef v))
    (hlast : ∀ (listed : Array Bool) (vals : Nat → Value) (a : Act) (v : World) (o : Oper), Gr W v → (∀ j, j < n → kz kp j (vals j) v) → Frm l.toArray a0 vals listed a → (∀ j, j < n → listed.getD j false = true) → l.toArray[n]? = some o →
      o.wp P a v (fun a' w' => a' = a.put o.dst undef ∧ Q .normal (putFrom vals 0 l a0) w') Q) :
    (Code.region id l.toArray false).wp P Q a0 W := by
  simp only [Bool.and_eq_true, decide_eq_true_eq] at hs
  obtain ⟨hlen, hlo⟩ := hs
  have hnl : n < l.length := by omega
  have ho : l[n]? = some l[n] := List.getElem?_eq_getElem hnl
  have ho' : l.toArray[n]? = some l[n] := by simp [hnl]
  have hg : l[n].dst = none ∧ l[n].guard = none := by rw [ho] at hlo; simpa using hlo
  refine wp_region_lit (wpList_q hu kp n (by omega) hstep (fun vals a v hG hk hF => ?_) n 0 (fun _ => undef) a0 W (by omega) (RZ.start0 _ _ _ _) (Frm.start_up l a0 _))
  rw [List.drop_eq_getElem_cons hnl, show l.drop (n + 1) = [] from List.drop_eq_nil_of_le (by omega), wpList, if_pos (wanted_no hg.2)]
  refine Or.inl (Oper.wp_mono (fun a' w' h => ?_) (hlast _ vals a v _ hG hk hF (fun j hj => by rw [upTo_getD]; simp; omega) ho'))
  obtain ⟨rfl, hq⟩ := h
  rw [wpList]
  have h2 := hF.put hu ho' (by simp [upTo]) undef
  rw [upTo_set _ _ hnl] at h2
  rw [h2.final hu (fun i hi => by rw [upTo_getD]; simp at hi ⊢; omega), putFrom_congr (vals' := vals) l 0 a0 (fun j o hj hd => ?_)]
  · exact hq
  · rw [Nat.zero_add]
    unfold upd
    by_cases e : j = n
    · subst e
      rw [ho] at hj; cases hj
      rw [hg.1] at hd; cases hd
    · rw [if_neg e]

end Go.Proofs.YtlbkhhihkomahaaGreat
