/-
  Package divide's own values: a divisor (eleven cells), a row of nineteen words; a row in an older block that is written; copy between rows; results that lie in blocks.
-/
import Derived.Laws.IdiomCopy
import Derived.Test.YtleckbdhebjfkaaZInst
import Derived.Test.YtleckbdhebjfkaaZNumM
import Derived.Test.YtleckbdhebjfkaaZMixG
namespace Go.Proofs.Ytleckbdhebjfkaa
open Go.RowKit

/-- A divisor: the number, how many words it has, how far it was moved. -/
def dv (D k u : Nat) : Array Value := nw 9 D ++ #[.int .i64 (k : Int), .int .i64 (u : Int)]
theorem dv_size (D k u : Nat) : (dv D k u).size = 11 := by simp [dv, nw_size]
theorem dv_get (D k u i : Nat) (h : i < 9) : (dv D k u)[i]? = some (.int .u64 ((wd D i : Nat) : Int)) := by
  unfold dv
  rw [Array.getElem?_append_left (by rw [nw_size]; exact h), nw_get 9 D i h]
theorem dv_9 (D k u : Nat) : (dv D k u)[9]? = some (.int .i64 (k : Int)) := by
  unfold dv
  rw [Array.getElem?_append_right (by rw [nw_size]; decide), nw_size]
  rfl
theorem dv_10 (D k u : Nat) : (dv D k u)[10]? = some (.int .i64 (u : Int)) := by
  unfold dv
  rw [Array.getElem?_append_right (by rw [nw_size]; decide), nw_size]
  rfl
theorem dv_e9 (D k u : Nat) (h : 9 < (dv D k u).size) : (dv D k u)[9] = .int .i64 (k : Int) := by
  have := dv_9 D k u
  rw [Array.getElem?_eq_getElem h] at this
  exact Option.some.inj this
theorem dv_e10 (D k u : Nat) (h : 10 < (dv D k u).size) : (dv D k u)[10] = .int .i64 (u : Int) := by
  have := dv_10 D k u
  rw [Array.getElem?_eq_getElem h] at this
  exact Option.some.inj this
theorem dv_elem (D k u i : Nat) (h : i < (dv D k u).size) (hi : i < 9) : (dv D k u)[i] = .int .u64 ((wd D i : Nat) : Int) := by
  have := dv_get D k u i hi
  rw [Array.getElem?_eq_getElem h] at this
  exact Option.some.inj this
theorem dv_one (D k u : Nat) : (dv D k u).all (·.oneCell') = true := by
  unfold dv
  rw [Array.all_append, nw_one, Bool.true_and]
  simp [Value.oneCell']
theorem fold11 : #[Value.int .u64 0, Value.int .u64 0, Value.int .u64 0, Value.int .u64 0, Value.int .u64 0, Value.int .u64 0, Value.int .u64 0, Value.int .u64 0, Value.int .u64 0, Value.int .i64 0, Value.int .i64 0] = dv 0 0 0 := by
  unfold dv
  rw [nw9_zero]
  rfl
theorem nw19_zero : nw 19 0 = #[Value.int .u64 0, Value.int .u64 0, Value.int .u64 0, Value.int .u64 0, Value.int .u64 0, Value.int .u64 0, Value.int .u64 0, Value.int .u64 0, Value.int .u64 0, Value.int .u64 0, Value.int .u64 0, Value.int .u64 0, Value.int .u64 0, Value.int .u64 0, Value.int .u64 0, Value.int .u64 0, Value.int .u64 0, Value.int .u64 0, Value.int .u64 0] := by rw [nw_zero]; rfl
theorem fold19 : #[Value.int .u64 0, Value.int .u64 0, Value.int .u64 0, Value.int .u64 0, Value.int .u64 0, Value.int .u64 0, Value.int .u64 0, Value.int .u64 0, Value.int .u64 0, Value.int .u64 0, Value.int .u64 0, Value.int .u64 0, Value.int .u64 0, Value.int .u64 0, Value.int .u64 0, Value.int .u64 0, Value.int .u64 0, Value.int .u64 0, Value.int .u64 0] = nw 19 0 := nw19_zero.symm
/-! ### loads and stores of whole divisors and rows -/
theorem loadDv_is (v : Value) : Instr.loadAt 80 v = loadS 80 v := rfl
theorem load19_is (v : Value) : Instr.loadAt 96 v = loadS 96 v := rfl
theorem storeDv_is (p v : Value) : Instr.storeAt 80 p v = storeS 80 p v := rfl
theorem store19_is (p v : Value) : Instr.storeAt 96 p v = storeS 96 p v := rfl
theorem loadDv (w : World) (b : Nat) (hs : (blk w b).size = 11) : (loadS 80 (.pointer (some ⟨b, 0, none⟩))).run Try.prog w = .ok (.agg (blk w b)) w :=
  loadS_run 11 Try.underlying80 rfl (by kernel_rfl) w b hs
theorem load19 (w : World) (b : Nat) (hs : (blk w b).size = 19) : (loadS 96 (.pointer (some ⟨b, 0, none⟩))).run Try.prog w = .ok (.agg (blk w b)) w :=
  loadS_run 19 Try.underlying96 rfl (by kernel_rfl) w b hs
theorem storeDv (w : World) (b D k u : Nat) (hs : (blk w b).size = 11) (hf : frz w b = (0, 0)) : (storeS 80 (.pointer (some ⟨b, 0, none⟩)) (.agg (dv D k u))).run Try.prog w = .ok () (setBlk w b (dv D k u)) :=
  storeS_run 11 (by decide) (by kernel_rfl) w b (dv D k u) (dv_size D k u) (dv_one D k u) hs hf
theorem store19 (w : World) (b s : Nat) (hs : (blk w b).size = 19) (hf : frz w b = (0, 0)) : (storeS 96 (.pointer (some ⟨b, 0, none⟩)) (.agg (nw 19 s))).run Try.prog w = .ok () (setBlk w b (nw 19 s)) :=
  storeS_run 19 (by decide) (by kernel_rfl) w b (nw 19 s) (nw_size 19 s) (nw_one 19 s) hs hf
attribute [local go_sem] nw_size nw_elem
theorem idx18 (w : World) (a k : Nat) (h : k < 18) : (Instr.index 75 (.agg (nw 18 a)) (.int .i64 (k : Int))).run Try.prog w = .ok (.int .u64 ((wd a k : Nat) : Int)) w := by
  simp [Instr.index, run_underlying Try.underlying75, asIntOf, h, go_sem]
/-! ### an older block that was written -/
theorem setCell_in (w : World) (b i : Nat) (d : Array Value) (v : Value) (h : 0 < (blk w b).size) : (setBlk w b d).setCell ⟨b, i, none⟩ v = setBlk w b (d.setIfInBounds i v) := by
  rw [setCell_setBlk, blk_setBlk w b d h, setBlk_setBlk]
theorem cell_in (w : World) (b i : Nat) (d : Array Value) (h : 0 < (blk w b).size) : (setBlk w b d).cell? ⟨b, i, none⟩ = d[i]? := by
  rw [cell_blk, blk_setBlk w b d h]
theorem frozen_frz (w : World) (b i : Nat) (h : frz w b = (0, 0)) : w.frozen? ⟨b, i, none⟩ = false := by
  unfold frz at h
  unfold World.frozen?
  split <;> simp_all
theorem frozen_in (w : World) (b i : Nat) (d : Array Value) (h : frz w b = (0, 0)) : (setBlk w b d).frozen? ⟨b, i, none⟩ = false :=
  frozen_frz _ _ _ (by rw [frz_setBlk]; exact h)
theorem blk_other (w : World) (b c : Nat) (d : Array Value) (h : ¬ b = c) : blk (setBlk w b d) c = blk w c := by
  refine blk_of _ _ _ ?_
  simp [setBlk, Array.getElem?_modify, h]
theorem setBlk_self (w : World) (b : Nat) (d : Array Value) (h : blk w b = d) : setBlk w b d = w := by
  subst h
  refine ext_world ?_ rfl rfl rfl rfl
  apply Array.ext_getElem?
  intro k
  simp only [setBlk, Array.getElem?_modify]
  by_cases hk : b = k
  · subst hk
    cases hw : w.heap[b]? with
    | none => simp
    | some o => cases o <;> simp [blk, hw]
  · simp [hk]
/-! ### copy -/
/-- The first k cells of one row laid over another's. -/
def cpA (d s : Array Value) (k : Nat) : Array Value := setL d 0 (s.toList.take k)
def copyS (ty : TypeId) (d s : Value) : Sem Value := Builtin.copy_ #[100, 100] ty #[d, s]
theorem copy_is (ty : TypeId) (d s : Value) : Builtin.copy_ #[100, 100] ty #[d, s] = copyS ty d s := rfl
/-- Each cell is one of its own. -/
def Ones (c : Array Value) : Prop := c.all (·.oneCell') = true
theorem ones_nw (n a : Nat) : Ones (nw n a) := nw_one n a
theorem copy_run (ty : TypeId) (w : World) (b a n m p q : Nat) (hb : min m n ≤ (blk w b).size) (ha : min m n ≤ (blk w a).size) (h0 : 0 < (blk w b).size) (hf : frz w b = (0, 0)) (h1 : Ones (blk w a)) :
    (copyS ty (.slice (some ⟨b, 0, none⟩) n p) (.slice (some ⟨a, 0, none⟩) m q)).run Try.prog w = .ok (goInt ((min m n : Nat) : Int)) (setBlk w b (cpA (blk w b) (blk w a) (min m n))) := by
  unfold copyS cpA
  unfold Ones at h1
  have hl : ((blk w a).toList.take (min m n)).length = min m n := by rw [List.length_take]; exact Nat.min_eq_left (by simpa using ha)
  have hadd : ∀ j, (⟨a, 0, none⟩ : Addr).add j = ⟨a, 0 + j, none⟩ := fun j => by unfold Addr.add; split <;> simp_all
  rw [run_copy_cells w 100 100 ty 22 b 0 n p ⟨a, 0, none⟩ m q ((blk w a).toList.take (min m n)) Try.underlying100 (by kernel_rfl) hl
    (fun j v hv => ?_) (fun j hj => ?_) (fun j hj => ?_) (fun v hv => ?_), setCells_setBlk _ _ _ _ h0]
  · rw [hl]
  · have hj : j < min m n := by
      by_cases h : j < min m n
      · exact h
      · rw [List.getElem?_eq_none (by rw [hl]; omega)] at hv; cases hv
    rw [List.getElem?_take_of_lt hj] at hv
    rw [hadd, Nat.zero_add, cell_blk]
    simpa using hv
  · rw [hl] at hj
    rw [Nat.zero_add, cell_blk, Array.getElem?_eq_getElem (by omega)]
    rfl
  · exact frozen_frz _ _ _ hf
  · have := List.mem_of_mem_take hv
    rw [Array.all_eq_true_iff_forall_mem] at h1
    exact h1 v (by simpa using this)
theorem cpA_nw (N N' x y k : Nat) (h : k ≤ N') (h2 : k ≤ N) : cpA (nw N x) (nw N' y) k = nw N (x / pw k * pw k + y % pw k) := by
  apply Array.ext_getElem?
  intro j
  have hlt : y % pw k < pw k := Nat.mod_lt _ (pw_pos k)
  unfold cpA
  rw [setL_get]
  have hlen : ((nw N' y).toList.take k).length = k := by rw [List.length_take]; simp [nw_size]; omega
  rw [hlen, nw_size]
  by_cases hj : j < N
  · rw [nw_get N (x / pw k * pw k + y % pw k) j hj]
    by_cases hk : j < k
    · rw [if_pos ⟨by omega, by omega, hj⟩, Nat.sub_zero, List.getElem?_take_of_lt hk]
      have e : (nw N' y).toList[j]? = some (Value.int .u64 ((wd y j : Nat) : Int)) := by
        have := nw_get N' y j (by omega)
        simpa using this
      rw [e]
      refine congrArg some (congrArg (Value.int .u64) (congrArg Nat.cast ?_))
      obtain ⟨d, rfl⟩ : ∃ d, k = j + 1 + d := ⟨k - (j + 1), by omega⟩
      unfold wd
      rw [pw_add, pow_succ64]
      have e1 : x / (pw j * 18446744073709551616 * pw d) * (pw j * 18446744073709551616 * pw d) = x / (pw j * 18446744073709551616 * pw d) * pw d * 18446744073709551616 * pw j := by grind
      rw [e1, Nat.add_comm, Nat.add_mul_div_right _ _ (pw_pos j), Nat.add_mul_mod_self_right, Nat.mul_assoc (pw j), Nat.mod_mul_right_div_self, Nat.mod_mul_right_mod]
    · rw [if_neg (by omega), nw_get N x j hj]
      refine congrArg some (congrArg (Value.int .u64) (congrArg Nat.cast ?_))
      obtain ⟨d, rfl⟩ : ∃ d, j = k + d := ⟨j - k, by omega⟩
      unfold wd
      rw [pw_add, ← Nat.div_div_eq_div_mul, ← Nat.div_div_eq_div_mul, Nat.add_comm, Nat.add_mul_div_right _ _ (pw_pos k), Nat.div_eq_of_lt hlt, Nat.zero_add]
  · rw [if_neg (by omega), Array.getElem?_eq_none (by rw [nw_size]; omega), Array.getElem?_eq_none (by rw [nw_size]; omega)]
/-! ### results that lie in blocks -/
def readR (tmps : Array Value) : ResultVar → Sem Value
  | .tmp t => pure (tmps.getD t undef)
  | .cell a t => do loadVar t (← asAddr (tmps.getD a undef))
theorem res_one {P : Program} {fn : Func} {r : ResultVar} {tmps : Array Value} {w : World} {v : Value} (h : fn.results = #[r]) (h1 : (readR tmps r).run P w = .ok v w) : (results fn tmps).run P w = .ok v w := by
  have e : (results fn tmps) = (do let vs ← fn.results.mapM (readR tmps); pure (if h : vs.size = 1 then vs[0] else .tuple vs)) := by
    first | rfl | (unfold results; congr 1)
  rw [e, h]
  simp [h1]
theorem res_two {P : Program} {fn : Func} {r s : ResultVar} {tmps : Array Value} {w : World} {v u : Value} (h : fn.results = #[r, s]) (h1 : (readR tmps r).run P w = .ok v w) (h2 : (readR tmps s).run P w = .ok u w) :
    (results fn tmps).run P w = .ok (.tuple #[v, u]) w := by
  have e : (results fn tmps) = (do let vs ← fn.results.mapM (readR tmps); pure (if h : vs.size = 1 then vs[0] else .tuple vs)) := by
    first | rfl | (unfold results; congr 1)
  rw [e, h]
  simp [h1, h2]
theorem res_three {P : Program} {fn : Func} {r s t : ResultVar} {tmps : Array Value} {w : World} {v u x : Value} (h : fn.results = #[r, s, t]) (h1 : (readR tmps r).run P w = .ok v w) (h2 : (readR tmps s).run P w = .ok u w)
    (h3 : (readR tmps t).run P w = .ok x w) : (results fn tmps).run P w = .ok (.tuple #[v, u, x]) w := by
  have e : (results fn tmps) = (do let vs ← fn.results.mapM (readR tmps); pure (if h : vs.size = 1 then vs[0] else .tuple vs)) := by
    first | rfl | (unfold results; congr 1)
  rw [e, h]
  simp [h1, h2, h3]
theorem rd_tmp {P : Program} {tmps : Array Value} {t : Tmp} {w : World} {v : Value} (h : tmps.getD t undef = v) : (readR tmps (.tmp t)).run P w = .ok v w := by
  subst h
  rfl
theorem rd_cell {P : Program} {d : TypeDesc} {ty : TypeId} (n : Nat) (hu : P.underlying ty = some d) (hd : d.isRow = true) (hi : (P.info? ty).map (·.size) = some n) {tmps : Array Value} {t : Tmp} {w : World} {b : Nat} {c : Array Value}
    (h : tmps.getD t undef = .pointer (some ⟨b, 0, none⟩)) (hc : blk w b = c) (hs : c.size = n) : (readR tmps (.cell t ty)).run P w = .ok (.agg c) w := by
  subst hc
  show (do loadVar ty (← asAddr (tmps.getD t undef))).run P w = _
  rw [h]
  simp only [asAddr, Sem.run_bind, Sem.run_pure, Result.andThen_ok, load_blk n hu hd hi w b hs]
theorem rd_nat {tmps : Array Value} {t : Tmp} {w : World} {b x : Nat} (h : tmps.getD t undef = .pointer (some ⟨b, 0, none⟩)) (hc : blk w b = nw 9 x) : (readR tmps (.cell t 25)).run Try.prog w = .ok (.agg (nw 9 x)) w :=
  rd_cell 9 Try.underlying25 rfl (by kernel_rfl) h hc (nw_size 9 x)
theorem rd_wide {tmps : Array Value} {t : Tmp} {w : World} {b x : Nat} (h : tmps.getD t undef = .pointer (some ⟨b, 0, none⟩)) (hc : blk w b = nw 18 x) : (readR tmps (.cell t 77)).run Try.prog w = .ok (.agg (nw 18 x)) w :=
  rd_cell 18 Try.underlying77 rfl (by kernel_rfl) h hc (nw_size 18 x)
theorem rd_19 {tmps : Array Value} {t : Tmp} {w : World} {b x : Nat} (h : tmps.getD t undef = .pointer (some ⟨b, 0, none⟩)) (hc : blk w b = nw 19 x) : (readR tmps (.cell t 96)).run Try.prog w = .ok (.agg (nw 19 x)) w :=
  rd_cell 19 Try.underlying96 rfl (by kernel_rfl) h hc (nw_size 19 x)
theorem rd_dv {tmps : Array Value} {t : Tmp} {w : World} {b D k u : Nat} (h : tmps.getD t undef = .pointer (some ⟨b, 0, none⟩)) (hc : blk w b = dv D k u) : (readR tmps (.cell t 80)).run Try.prog w = .ok (.agg (dv D k u)) w :=
  rd_cell 11 Try.underlying80 rfl (by kernel_rfl) h hc (dv_size D k u)

end Go.Proofs.Ytleckbdhebjfkaa
