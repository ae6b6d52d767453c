/-
  Package divide's multiple: two numbers in eighteen cells.
-/
import Derived.Test.YtleckbdhebjfkaaZDP
import Derived.Test.YtleckbdhebjfkaaZMtN
import Derived.Test.YtleckbdhebjfkaaZRNat
namespace Go.Proofs.Ytleckbdhebjfkaa
open Go.RowKit

/-- A number and its factor, as one of eighteen words. -/
def mvN (a f : Nat) : Nat := a + f * M
theorem mv_lo (a f : Nat) (ha : a < M) : nw 9 (mvN a f) = nw 9 a := by
  rw [← nw_mod (mvN a f) 9]
  refine congrArg (nw 9) ?_
  show (a + f * M) % M = a
  rw [Nat.add_mul_mod_self_right, Nat.mod_eq_of_lt ha]
theorem mv_hi (a f : Nat) (ha : a < M) : nw 9 (mvN a f / pw 9) = nw 9 f := by
  refine congrArg (nw 9) ?_
  show (a + f * M) / M = f
  rw [Nat.add_mul_div_right _ _ M_pos, Nat.div_eq_of_lt ha, Nat.zero_add]
theorem ext_lo (X : Nat) : (nw 18 X).extract 0 9 = nw 9 X := by
  apply Array.ext_getElem?
  intro j
  by_cases hj : j < 9
  · rw [nw_get 9 X j hj, Array.getElem?_extract, if_pos (by rw [nw_size]; omega), Nat.zero_add, nw_get 18 X j (by omega)]
  · rw [Array.getElem?_eq_none (by simp [nw_size]; omega), Array.getElem?_eq_none (by rw [nw_size]; omega)]
theorem wd_div (X k j : Nat) : wd (X / pw k) j = wd X (k + j) := by
  unfold wd
  rw [Nat.div_div_eq_div_mul, pw_add]
theorem ext_hi (X : Nat) : (nw 18 X).extract 9 18 = nw 9 (X / pw 9) := by
  apply Array.ext_getElem?
  intro j
  by_cases hj : j < 9
  · rw [nw_get 9 _ j hj, Array.getElem?_extract, if_pos (by rw [nw_size]; omega), nw_get 18 X (9 + j) (by omega), wd_div]
  · rw [Array.getElem?_eq_none (by simp [nw_size]; omega), Array.getElem?_eq_none (by rw [nw_size]; omega)]
theorem app_mv (a f : Nat) (ha : a < M) : nw 9 a ++ nw 9 f = nw 18 (mvN a f) := by
  have h := mv_lo a f ha
  have h2 := mv_hi a f ha
  rw [← ext_lo] at h
  rw [← ext_hi] at h2
  rw [← h, ← h2]
  have hs : (nw 18 (mvN a f)).size = 18 := nw_size 18 _
  rw [Array.extract_append_extract]
  have e : (nw 18 (mvN a f)).extract 0 (nw 18 (mvN a f)).size = nw 18 (mvN a f) := Array.extract_size
  rw [hs] at e
  simpa using e
/-! ### loads and stores -/
theorem loadMv_is (v : Value) : Instr.loadAt 102 v = loadS 102 v := rfl
theorem storeMv_is (p v : Value) : Instr.storeAt 102 p v = storeS 102 p v := rfl
theorem loadMv (w : World) (b : Nat) (hs : (blk w b).size = 18) : (loadS 102 (.pointer (some ⟨b, 0, none⟩))).run Try.prog w = .ok (.agg (blk w b)) w :=
  loadS_run 18 Try.underlying102 rfl (by kernel_rfl) w b hs
theorem storeMv (w : World) (b s : Nat) (hs : (blk w b).size = 18) (hf : frz w b = (0, 0)) : (storeS 102 (.pointer (some ⟨b, 0, none⟩)) (.agg (nw 18 s))).run Try.prog w = .ok () (setBlk w b (nw 18 s)) :=
  storeS_run 18 (by decide) (by kernel_rfl) w b (nw 18 s) (nw_size 18 s) (nw_one 18 s) hs hf
theorem part_range (w : World) (b o n : Nat) : w.rangeAt b o ((blk w b).extract o (o + n)).toList := fun j v hv => by
  rw [cell_blk]
  have h1 : ((blk w b).extract o (o + n))[j]? = some v := by rw [Array.getElem?_toList] at hv; exact hv
  rw [Array.getElem?_extract] at h1
  split at h1
  · exact h1
  · cases h1
theorem loadPart (w : World) (b o : Nat) (h : o + 9 ≤ (blk w b).size) : (loadS 25 (.pointer (some ⟨b, o, none⟩))).run Try.prog w = .ok (.agg ((blk w b).extract o (o + 9))) w := by
  have := run_loadVar_mid (P := Try.prog) w b o 25 ((blk w b).extract o (o + 9)).toList _ (part_range w b o 9) Try.underlying25 rfl (by
    have hi : (Try.prog.info? 25).map (·.size) = some 9 := by kernel_rfl
    rw [hi]
    simp
    omega)
  simp only [loadS, Instr.loadAt, Instr.sureAddr, Sem.run_bind, Sem.run_pure, Result.andThen_ok]
  rw [Array.toArray_toList] at this
  exact this
theorem loadLo (w : World) (b : Nat) (hs : (blk w b).size = 18) : (loadS 25 (.pointer (some ⟨b, 0, none⟩))).run Try.prog w = .ok (.agg ((blk w b).extract 0 9)) w := loadPart w b 0 (by omega)
theorem loadHi (w : World) (b : Nat) (hs : (blk w b).size = 18) : (loadS 25 (.pointer (some ⟨b, 9, none⟩))).run Try.prog w = .ok (.agg ((blk w b).extract 9 18)) w := loadPart w b 9 (by omega)
theorem buildMv_is (p : Array (Nat × Value)) : Instr.build 102 p = buildS 102 p := rfl
theorem buildMv2 (a f : Nat) (w : World) : (buildS 102 #[(0, .agg (nw 9 a)), (1, .agg (nw 9 f))]).run Try.prog w = .ok (.agg (nw 9 a ++ nw 9 f)) w := by
  kernel_rfl
theorem buildMv1 (a : Nat) (w : World) : (buildS 102 #[(0, .agg (nw 9 a))]).run Try.prog w = .ok (.agg (nw 9 a ++ nw 9 0)) w := by
  kernel_rfl
theorem rd_mv {tmps : Array Value} {t : Tmp} {w : World} {b x : Nat} (h : tmps.getD t undef = .pointer (some ⟨b, 0, none⟩)) (hc : blk w b = nw 18 x) : (readR tmps (.cell t 102)).run Try.prog w = .ok (.agg (nw 18 x)) w :=
  rd_cell 18 Try.underlying102 rfl (by kernel_rfl) h hc (nw_size 18 x)

end Go.Proofs.Ytleckbdhebjfkaa
