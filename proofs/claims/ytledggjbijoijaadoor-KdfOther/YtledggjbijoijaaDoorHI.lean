/-
  Rows of words and of bytes in memory; loads and stores of whole rows.
-/
import Derived.Test.YtledggjbijoijaaDoorHA
import Derived.Laws.IdiomCopy
import Derived.BigRegion
import Derived.Deep.RegionWith
import Derived.Deep.Cut
import Derived.Deep.CutRange
namespace Go.Proofs.YtledggjbijoijaaDoor
open Go.RowKit

/-- n words, n bytes as Go's values. -/
def wz (n : Nat) (f : Nat → Nat) : Array Value := ((List.range n).map fun i => Value.int .u32 ((f i : Nat) : Int)).toArray
def br (n : Nat) (f : Nat → Nat) : Array Value := ((List.range n).map fun i => Value.int .u8 ((f i : Nat) : Int)).toArray
theorem wz_size (n : Nat) (f : Nat → Nat) : (wz n f).size = n := by simp [wz]
theorem br_size (n : Nat) (f : Nat → Nat) : (br n f).size = n := by simp [br]
theorem wz_get (n : Nat) (f : Nat → Nat) (k : Nat) (h : k < n) : (wz n f)[k]? = some (.int .u32 ((f k : Nat) : Int)) := by simp [wz, h]
theorem br_get (n : Nat) (f : Nat → Nat) (k : Nat) (h : k < n) : (br n f)[k]? = some (.int .u8 ((f k : Nat) : Int)) := by simp [br, h]
theorem wz_none (n : Nat) (f : Nat → Nat) (k : Nat) (h : n ≤ k) : (wz n f)[k]? = none := Array.getElem?_eq_none (by rw [wz_size]; exact h)
theorem br_none (n : Nat) (f : Nat → Nat) (k : Nat) (h : n ≤ k) : (br n f)[k]? = none := Array.getElem?_eq_none (by rw [br_size]; exact h)
theorem wz_ext (n : Nat) (f g : Nat → Nat) (h : ∀ i, i < n → f i = g i) : wz n f = wz n g := by
  unfold wz
  congr 1
  exact List.map_congr_left fun i hi => by rw [h i (by simpa using hi)]
theorem br_ext (n : Nat) (f g : Nat → Nat) (h : ∀ i, i < n → f i = g i) : br n f = br n g := by
  unfold br
  congr 1
  exact List.map_congr_left fun i hi => by rw [h i (by simpa using hi)]
theorem wz_one (n : Nat) (f : Nat → Nat) : (wz n f).all (·.oneCell') = true := by
  refine Array.all_eq_true_iff_forall_mem.2 fun v hv => ?_
  simp only [wz, List.mem_toArray, List.mem_map] at hv
  obtain ⟨k, _, rfl⟩ := hv
  rfl
theorem br_one (n : Nat) (f : Nat → Nat) : (br n f).all (·.oneCell') = true := by
  refine Array.all_eq_true_iff_forall_mem.2 fun v hv => ?_
  simp only [br, List.mem_toArray, List.mem_map] at hv
  obtain ⟨k, _, rfl⟩ := hv
  rfl
theorem wz_set (n : Nat) (f g : Nat → Nat) (k x : Nat) (hk : g k = x) (h : ∀ j, j < n → j ≠ k → g j = f j) : (wz n f).setIfInBounds k (.int .u32 ((x : Nat) : Int)) = wz n g := by
  apply Array.ext_getElem?
  intro j
  rw [Array.getElem?_setIfInBounds]
  by_cases hj : j < n
  · rw [wz_get n g j hj]
    by_cases e : k = j
    · subst e
      rw [if_pos rfl, if_pos (by rw [wz_size]; exact hj), hk]
    · rw [if_neg e, wz_get n f j hj, h j hj (Ne.symm e)]
  · rw [wz_none n g j (by omega)]
    by_cases e : k = j
    · subst e
      rw [if_pos rfl, if_neg (by rw [wz_size]; exact hj)]
    · rw [if_neg e, wz_none n f j (by omega)]

/-! ### a block that holds a row -/
/-- Block b holds the cells c, of type t; none of them is frozen. -/
def Bk (w : World) (b : Nat) (c : Array Value) (t : TypeId) : Prop := w.heap[b]? = some (.cells c t (0, 0))
theorem Bk.lt {w : World} {b : Nat} {c : Array Value} {t : TypeId} (h : Bk w b c t) : b < w.heap.size := (Array.getElem?_eq_some_iff.1 h).1
theorem Bk.cell {w : World} {b : Nat} {c : Array Value} {t : TypeId} (h : Bk w b c t) (i : Nat) : w.cell? ⟨b, i, none⟩ = c[i]? := by
  rw [cell_of_row w b i c t (0, 0) h]
theorem Bk.fz {w : World} {b : Nat} {c : Array Value} {t : TypeId} (h : Bk w b c t) (i : Nat) : w.frozen? ⟨b, i, none⟩ = false := by
  have h : w.heap[b]? = some (.cells c t (0, 0)) := h
  unfold World.frozen?
  rw [h]
  simp
theorem Bk.blk {w : World} {b : Nat} {c : Array Value} {t : TypeId} (h : Bk w b c t) : blk w b = c := by
  have h : w.heap[b]? = some (.cells c t (0, 0)) := h
  unfold Proofs.YtledggjbijoijaaDoor.blk
  rw [h]
theorem Bk.kp {S : Nat → Prop} {w w' : World} {b : Nat} {c : Array Value} {t : TypeId} (h : Bk w b c t) (k : Kp S w w') (hn : ¬ S b) : Bk w' b c t := (k.block b h.lt hn).trans h
theorem Bk.new (w : World) (c : Array Value) (t : TypeId) : Bk (w.alloc (.cells c t)) w.heap.size c t := heap_alloc_new w _
theorem Bk.alloc {w : World} {b : Nat} {c : Array Value} {t : TypeId} (h : Bk w b c t) (o : Obj) : Bk (w.alloc o) b c t := (Below.heap_alloc w o b h.lt).trans h
theorem Bk.drew {w : World} {b : Nat} {c : Array Value} {t : TypeId} (h : Bk w b c t) : Bk w.drew b c t := h
theorem Bk.drewN {w : World} {b : Nat} {c : Array Value} {t : TypeId} (h : Bk w b c t) (n : Nat) : Bk (w.drewN n) b c t := h
theorem Bk.set {w : World} {b : Nat} {c : Array Value} {t : TypeId} (h : Bk w b c t) (i : Nat) (v : Value) : Bk (w.setCell ⟨b, i, none⟩ v) b (c.setIfInBounds i v) t := by
  have h : w.heap[b]? = some (.cells c t (0, 0)) := h
  show (w.setCell ⟨b, i, none⟩ v).heap[b]? = _
  simp [World.setCell, Array.getElem?_modify, h]
theorem Bk.far {w : World} {b : Nat} {c : Array Value} {t : TypeId} (h : Bk w b c t) (a : Addr) (v : Value) (hn : b ≠ a.block) : Bk (w.setCell a v) b c t := (Below.heap_setCell w a v b hn).trans h
theorem Bk.cast {w : World} {b : Nat} {c d : Array Value} {t : TypeId} (h : Bk w b c t) (e : c = d) : Bk w b d t := e ▸ h
/-- The blocks from n on. -/
def Fr (n : Nat) (k : Nat) : Prop := n ≤ k
/-- Block b alone. -/
def At1 (b : Nat) (k : Nat) : Prop := k = b
/-- All that lay in w lies in w' as it was. -/
def Sm (w w' : World) : Prop := Kp (fun _ => False) w w'
theorem Sm.refl (w : World) : Sm w w := Kp.refl _ _
theorem Sm.trans {a b c : World} (h : Sm a b) (k : Sm b c) : Sm a c := Kp.trans h k
theorem Sm.of {w w' : World} (h : Kp (Fr w.heap.size) w w') : Sm w w' := h.mono fun k hk hS => by
  have : w.heap.size ≤ k := hS
  omega
theorem Sm.kp {w w' : World} (h : Sm w w') (S : Nat → Prop) : Kp S w w' := h.mono fun _ _ hS => hS.elim
theorem Sm.gr {w w' : World} (h : Gr w w') : Sm w w' := Kp.gr h _
theorem Sm.alloc {w w' : World} (h : Sm w w') (o : Obj) : Sm w (w'.alloc o) := Kp.alloc h o
theorem Sm.drew {w w' : World} (h : Sm w w') : Sm w w'.drew := Kp.drew h
theorem Sm.drewN {w w' : World} (h : Sm w w') (n : Nat) : Sm w (w'.drewN n) := Kp.drewN h n
theorem Kp.fr {w w' : World} {b n : Nat} (h : Kp (At1 b) w w') (hn : n ≤ b) : Kp (Fr n) w w' := h.mono fun k _ hk => by
  have : k = b := hk
  subst this
  exact hn
theorem Bk.sm {w w' : World} {b : Nat} {c : Array Value} {t : TypeId} (h : Bk w b c t) (k : Sm w w') : Bk w' b c t := h.kp k fun h => h

/-! ### loads and stores of whole rows -/
def loadS (ty : TypeId) (v : Value) : Sem Value := Instr.loadAt ty v
def storeS (ty : TypeId) (p v : Value) : Sem Unit := Instr.storeAt ty p v
/-- A zero value, kept shut: the loader's own rule for great ones names a constant of the seat. -/
def zvS (ty : TypeId) : Sem Value := zeroValue ty
theorem ldB_is (v : Value) : Instr.loadAt 83 v = loadS 83 v := rfl
theorem ldS_is (v : Value) : Instr.loadAt 81 v = loadS 81 v := rfl
theorem ldW_is (v : Value) : Instr.loadAt 114 v = loadS 114 v := rfl
theorem ldH_is (v : Value) : Instr.loadAt 85 v = loadS 85 v := rfl
theorem stS_is (p v : Value) : Instr.storeAt 81 p v = storeS 81 p v := rfl
theorem stW_is (p v : Value) : Instr.storeAt 114 p v = storeS 114 p v := rfl
theorem stH_is (p v : Value) : Instr.storeAt 85 p v = storeS 85 p v := rfl
theorem loadS_part {P : Program} {d : TypeDesc} {ty : TypeId} (n : Nat) (hu : P.underlying ty = some d) (hd : d.isRow = true) (hi : (P.info? ty).map (·.size) = some n) {w : World} {b o : Nat} {c : Array Value} (hs : c.size = n)
    (hc : ∀ i, i < n → w.cell? ⟨b, o + i, none⟩ = c[i]?) : (loadS ty (.pointer (some ⟨b, o, none⟩))).run P w = .ok (.agg c) w := by
  have hr : w.rangeAt b o c.toList := fun j v hv => by
    have hj : j < n := by
      rw [← hs]
      have := (List.getElem?_eq_some_iff.1 hv).1
      simpa using this
    rw [hc j hj]
    simpa using hv
  have := run_loadVar_mid (P := P) w b o ty c.toList d hr hu hd (by rw [hi]; simp [hs])
  simp only [loadS, Instr.loadAt, Instr.sureAddr, Sem.run_bind, Sem.run_pure, Result.andThen_ok]
  simpa using this
theorem storeS_part {P : Program} {ty : TypeId} (n : Nat) (hi : (P.info? ty).map (·.size) = some n) {w : World} {b : Nat} {c d : Array Value} {t : TypeId} (h : Bk w b c t) (hs : c.size = n) (hd : d.size = n) (hn : 0 < n) (h1 : d.all (·.oneCell') = true) :
    (storeS ty (.pointer (some ⟨b, 0, none⟩)) (.agg d)).run P w = .ok () (setBlk w b d) := by
  have hf : frz w b = (0, 0) := by
    have h : w.heap[b]? = some (.cells c t (0, 0)) := h
    unfold frz
    rw [h]
  simp only [storeS, Instr.storeAt, Instr.sureAddr, Sem.run_bind, Sem.run_pure, Result.andThen_ok, store_blk n hn hi w b d hd h1 (by rw [h.blk]; exact hs) hf]
theorem Bk.put {w : World} {b : Nat} {c : Array Value} {t : TypeId} (h : Bk w b c t) (d : Array Value) : Bk (setBlk w b d) b d t := by
  have h : w.heap[b]? = some (.cells c t (0, 0)) := h
  show (setBlk w b d).heap[b]? = _
  simp [setBlk, Array.getElem?_modify, h]
theorem Bk.aside {w : World} {b k : Nat} {c : Array Value} {t : TypeId} (h : Bk w b c t) (d : Array Value) (hn : b ≠ k) : Bk (setBlk w k d) b c t := by
  have h : w.heap[b]? = some (.cells c t (0, 0)) := h
  show (setBlk w k d).heap[b]? = _
  simp [setBlk, Array.getElem?_modify, h, Ne.symm hn]
theorem Kp.put {S : Nat → Prop} {w w' : World} (h : Kp S w w') (b : Nat) (d : Array Value) (hb : S b) : Kp S w (setBlk w' b d) :=
  h.trans ⟨rfl, rfl, rfl, by rw [size_setBlk]; exact Nat.le_refl _, fun k _ hn => by simp [setBlk, Array.getElem?_modify, show ¬ b = k from fun e => hn (e ▸ hb)]⟩
/-! ### results that lie in blocks -/
def readR (tmps : Array Value) : ResultVar → Sem Value
  | .tmp t => pure (tmps.getD t undef)
  | .cell a t => do loadVar t (← asAddr (tmps.getD a undef))
theorem res_one {P : Program} {fn : Func} {r : ResultVar} {tmps : Array Value} {w : World} {v : Value} (h : fn.results = #[r]) (h1 : (readR tmps r).run P w = .ok v w) : (results fn tmps).run P w = .ok v w := by
  have e : (results fn tmps) = (do let vs ← fn.results.mapM (readR tmps); pure (if h : vs.size = 1 then vs[0] else .tuple vs)) := by
    first | rfl | (unfold results; congr 1)
  rw [e, h]
  simp [h1]
theorem res_two {P : Program} {fn : Func} {r s : ResultVar} {tmps : Array Value} {w : World} {v u : Value} (h : fn.results = #[r, s]) (h1 : (readR tmps r).run P w = .ok v w) (h2 : (readR tmps s).run P w = .ok u w) :
    (results fn tmps).run P w = .ok (.tuple #[v, u]) w := by
  have e : (results fn tmps) = (do let vs ← fn.results.mapM (readR tmps); pure (if h : vs.size = 1 then vs[0] else .tuple vs)) := by
    first | rfl | (unfold results; congr 1)
  rw [e, h]
  simp [h1, h2]
theorem rd_tmp {P : Program} {tmps : Array Value} {t : Tmp} {w : World} {v : Value} (h : tmps.getD t undef = v) : (readR tmps (.tmp t)).run P w = .ok v w := by
  subst h
  rfl
theorem rd_row {P : Program} {d : TypeDesc} {ty : TypeId} (n : Nat) (hu : P.underlying ty = some d) (hd : d.isRow = true) (hi : (P.info? ty).map (·.size) = some n) {tmps : Array Value} {t : Tmp} {w : World} {b : Nat} {c : Array Value} {ty' : TypeId}
    (h : tmps.getD t undef = .pointer (some ⟨b, 0, none⟩)) (hc : Bk w b c ty') (hs : c.size = n) : (readR tmps (.cell t ty)).run P w = .ok (.agg c) w := by
  have hb := hc.blk
  subst hb
  show (do loadVar ty (← asAddr (tmps.getD t undef))).run P w = _
  rw [h]
  simp only [asAddr, Sem.run_bind, Sem.run_pure, Result.andThen_ok, load_blk n hu hd hi w b hs]
set_option maxRecDepth 100000 in
theorem word4 (x y z u : Nat) (hx : x < 256) (hy : y < 256) (hz : z < 256) (hu : u < 256) :
    bits BinOp.or IntKind.u32 (bits BinOp.or IntKind.u32 (bits BinOp.or IntKind.u32 ((x : Int) % 4294967296 * 16777216 % 4294967296) ((y : Int) % 4294967296 * 65536 % 4294967296)) ((z : Int) % 4294967296 * 256 % 4294967296)) ((u : Int) % 4294967296)
      = (((((x * 16777216) ||| (y * 65536)) ||| (z * 256)) ||| u : Nat) : Int) := by
  have m1 : (x : Int) % 4294967296 = (x : Int) := by omega
  have m2 : (y : Int) % 4294967296 = (y : Int) := by omega
  have m3 : (z : Int) % 4294967296 = (z : Int) := by omega
  have m4 : (u : Int) % 4294967296 = (u : Int) := by omega
  have l1 : x * 16777216 < 4294967296 := Nat.lt_of_lt_of_le (Nat.mul_lt_mul_of_pos_right hx (by decide)) (by decide)
  have l2 : y * 65536 < 4294967296 := Nat.lt_of_lt_of_le (Nat.mul_lt_mul_of_pos_right hy (by decide)) (by decide)
  have l3 : z * 256 < 4294967296 := Nat.lt_of_lt_of_le (Nat.mul_lt_mul_of_pos_right hz (by decide)) (by decide)
  have l4 : u < 4294967296 := by omega
  rw [m1, m2, m3, m4]
  have e1 : (x : Int) * 16777216 % 4294967296 = ((x * 16777216 : Nat) : Int) := by omega
  have e2 : (y : Int) * 65536 % 4294967296 = ((y * 65536 : Nat) : Int) := by omega
  have e3 : (z : Int) * 256 % 4294967296 = ((z * 256 : Nat) : Int) := by omega
  rw [e1, e2, e3, u32_or_nat _ _ l1 l2, u32_or_nat _ _ (or32 l1 l2) l3, u32_or_nat _ _ (or32 (or32 l1 l2) l3) l4]
set_option maxRecDepth 100000 in
set_option maxHeartbeats 800000 in
theorem wordAt_any (b : Nat → Nat) (k : Nat) (a : Int) (hb : ∀ i, i < 64 → b i < 256) (ha : a = ((4 * k : Nat) : Int)) (hk : k < 16) (w : World) :
    Calls Tryd.prog 75 #[.agg (br 64 b), .int .i64 a] w fun e w' => e = .returned (.int .u32 ((w16 b k : Nat) : Int)) ∧ Sm w w' := by
  subst ha
  have HE : _ = ((w16 b k : Nat) : Int) := word4 (b (4 * k)) (b (4 * k + 1)) (b (4 * k + 2)) (b (4 * k + 3)) (hb _ (by omega)) (hb _ (by omega)) (hb _ (by omega)) (hb _ (by omega))
  obtain ⟨r, hr⟩ : ∃ r, w16 b k = r := ⟨_, rfl⟩
  rw [hr] at HE ⊢
  obtain ⟨a, ha⟩ : ∃ a, 4 * k = a := ⟨_, rfl⟩
  rw [ha] at HE ⊢
  have HX : Hid (Unit → _) := fun (_ : Unit) => HE
  have b0 := br_get 64 b a (by omega)
  have b1 := br_get 64 b (a + 1) (by omega)
  have b2 := br_get 64 b (a + 2) (by omega)
  have b3 := br_get 64 b (a + 3) (by omega)
  have a1 : (a : Int) < 61 := by omega
  clear ha HE hb hk hr
  go_enter Tryd.func75, Tryd.ntmps75
  go_wp2
  go_quiet (fail)
  go_wp2
  go_ret
  exact ⟨congrArg (fun z => Ending.returned (Value.int .u32 z)) (HX.out ()), ((Sm.refl _).alloc _).drewN _⟩
end Go.Proofs.YtledggjbijoijaaDoor
