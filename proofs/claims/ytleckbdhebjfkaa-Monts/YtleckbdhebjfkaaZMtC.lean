/-
  A Mont in memory: 20 cells. How its parts are loaded; how it is built; one store into an older row within a region that leaves its order open.
-/
/-
  mont.mulAdd, mont.inverseOf: what they hand back.
-/
/-
  mont's Mont.clearLowest: what it hands back, and what becomes of the row.
-/
/-
  What is known of a world: variables that hold numbers; copy from the middle of a row; the end of a reduction.
-/
import Derived.Test.YtleckbdhebjfkaaZDM
import Derived.Test.YtleckbdhebjfkaaZDC
import Derived.Test.YtleckbdhebjfkaaZMixO
import Derived.Test.YtleckbdhebjfkaaZMtN
import Derived.Test.YtleckbdhebjfkaaZLib
import Derived.Test.YtleckbdhebjfkaaZRNat
import Derived.Test.YtleckbdhebjfkaaZDS
namespace Go.Proofs.Ytleckbdhebjfkaa
open Go.RowKit

/-- A Mont: the modulus, how many words it has, R R, the factor. -/
def mt (m k s f : Nat) : Array Value := nw 9 m ++ #[.int .i64 (k : Int)] ++ nw 9 s ++ #[.int .u64 (f : Int)]
theorem mt_size (m k s f : Nat) : (mt m k s f).size = 20 := by simp [mt, nw_size]
theorem mt_get (m k s f i : Nat) (h : i < 9) : (mt m k s f)[i]? = some (.int .u64 ((wd m i : Nat) : Int)) := by
  unfold mt
  rw [Array.getElem?_append_left (by simp [nw_size]; omega), Array.getElem?_append_left (by simp [nw_size]; omega), Array.getElem?_append_left (by rw [nw_size]; exact h), nw_get 9 m i h]
theorem mt_9 (m k s f : Nat) : (mt m k s f)[9]? = some (.int .i64 (k : Int)) := by
  unfold mt
  rw [Array.getElem?_append_left (by simp [nw_size]), Array.getElem?_append_left (by simp [nw_size]), Array.getElem?_append_right (by rw [nw_size]; decide), nw_size]
  rfl
theorem mt_19 (m k s f : Nat) : (mt m k s f)[19]? = some (.int .u64 (f : Int)) := by
  unfold mt
  rw [Array.getElem?_append_right (by simp [nw_size])]
  simp [nw_size]
theorem mt_s (m k s f i : Nat) (h : i < 9) : (mt m k s f)[10 + i]? = some (.int .u64 ((wd s i : Nat) : Int)) := by
  unfold mt
  rw [Array.getElem?_append_left (by simp [nw_size]; omega), Array.getElem?_append_right (by simp [nw_size])]
  simp only [Array.size_append, nw_size, List.size_toArray, List.length_cons, List.length_nil]
  rw [show 10 + i - (9 + (0 + 1)) = i by omega, nw_get 9 s i h]
theorem mt_lo (m k s f : Nat) : (mt m k s f).extract 0 9 = nw 9 m := by
  apply Array.ext_getElem?
  intro j
  by_cases hj : j < 9
  · rw [nw_get 9 m j hj, Array.getElem?_extract, if_pos (by rw [mt_size]; omega), Nat.zero_add, mt_get _ _ _ _ j hj]
  · rw [Array.getElem?_eq_none (by simp [mt_size]; omega), Array.getElem?_eq_none (by rw [nw_size]; omega)]
theorem mt_sq (m k s f : Nat) : (mt m k s f).extract 10 19 = nw 9 s := by
  apply Array.ext_getElem?
  intro j
  by_cases hj : j < 9
  · rw [nw_get 9 s j hj, Array.getElem?_extract, if_pos (by rw [mt_size]; omega), mt_s _ _ _ _ j hj]
  · rw [Array.getElem?_eq_none (by simp [mt_size]; omega), Array.getElem?_eq_none (by rw [nw_size]; omega)]
theorem loadM0 (w : World) (b : Nat) (hs : (blk w b).size = 20) : (loadS 25 (.pointer (some ⟨b, 0, none⟩))).run Try.prog w = .ok (.agg ((blk w b).extract 0 9)) w := loadPart w b 0 (by omega)
theorem loadM10 (w : World) (b : Nat) (hs : (blk w b).size = 20) : (loadS 25 (.pointer (some ⟨b, 10, none⟩))).run Try.prog w = .ok (.agg ((blk w b).extract 10 19)) w := loadPart w b 10 (by omega)
theorem buildMt_is (p : Array (Nat × Value)) : Instr.build 67 p = buildS 67 p := rfl
theorem buildMt (m s : Nat) (x y : Int) (w : World) : (buildS 67 #[(0, .agg (nw 9 m)), (1, .int .i64 x), (2, .agg (nw 9 s)), (3, .int .u64 y)]).run Try.prog w = .ok (.agg (nw 9 m ++ #[.int .i64 x] ++ nw 9 s ++ #[.int .u64 y])) w := by
  kernel_rfl

/-- The Mont in block b. -/
structure Mt (w : World) (b m k s f : Nat) : Prop where
  lt : Pre (b + 1) w.heap.size
  cells : blk w b = mt m k s f
theorem Mt.gr {w v : World} {b m k s f : Nat} (h : Mt w b m k s f) (g : Gr w v) : Mt v b m k s f :=
  ⟨Nat.le_trans h.lt g.below.size, by rw [g.blk _ h.lt]; exact h.cells⟩
theorem Mt.other {w : World} {b c m k s f : Nat} {d : Array Value} (h : Mt w b m k s f) (n : c ≠ b) : Mt (setBlk w c d) b m k s f :=
  ⟨by rw [size_setBlk]; exact h.lt, by rw [blk_other _ _ _ _ n]; exact h.cells⟩
theorem Mt.rw {w v : World} {b c m k s f V : Nat} (h : Mt w b m k s f) (n : c ≠ b) (g : Rw w v c V) : Mt v b m k s f := (h.other n).gr g
theorem Mt.at {w : World} {b m k s f : Nat} (h : Mt w b m k s f) (i : Nat) (hi : i < 9) : w.cell? ⟨b, i, none⟩ = some (.int .u64 ((wd m i : Nat) : Int)) := by
  rw [cell_blk, h.cells, mt_get _ _ _ _ i hi]
theorem Mt.at9 {w : World} {b m k s f : Nat} (h : Mt w b m k s f) : w.cell? ⟨b, 9, none⟩ = some (.int .i64 (k : Int)) := by
  rw [cell_blk, h.cells, mt_9]
theorem Mt.at19 {w : World} {b m k s f : Nat} (h : Mt w b m k s f) : w.cell? ⟨b, 19, none⟩ = some (.int .u64 (f : Int)) := by
  rw [cell_blk, h.cells, mt_19]

theorem Frm.early {ops : Array Oper} {a0 a : Act} {vals : Nat → Value} {listed : Array Bool} (hf : Frm ops a0 vals listed a) {s i : Nat} {v : Value} (ho : own ops s = some i) (hv : a0.tmps[s]? = some v) (hl : listed.getD i false = false) : a.tmps[s]? = some v := by
  rw [hf.2.2 s (Array.getElem?_eq_some_iff.1 hv).1, ho]
  simp [hl, hv]
/-- One store into an older block, operation st; D i is done ahead of i. -/
def RO3 (W : World) (kV : Nat → Option Value) (st b : Nat) (r : Array Value) (D : Nat → Nat) (listed : Array Bool) (vals : Nat → Value) (w : World) : Prop :=
  RO W kV st b r listed vals w ∧ ∀ i, listed.getD i false = true → listed.getD (D i) false = true
theorem RO3.start (W : World) (kV : Nat → Option Value) (st b : Nat) (r : Array Value) (D : Nat → Nat) (n : Nat) (vals : Nat → Value) : RO3 W kV st b r D (Array.replicate n false) vals W.drew := by
  have h : ∀ i, (Array.replicate n false).getD i false = false := fun i => by by_cases h : i < n <;> simp [h]
  refine ⟨RO.start W kV st b r n vals, fun i hi => ?_⟩
  rw [h] at hi; cases hi
theorem set_more (listed : Array Bool) (i j : Nat) (hi : i < listed.size) (h : listed.getD j false = true) : (listed.setIfInBounds i true).getD j false = true := by
  by_cases e : j = i
  · subst e; exact getD_set_same _ _ hi
  · rw [getD_set_other _ _ _ (Ne.symm e)]; exact h
theorem dep_more {listed : Array Bool} {D : Nat → Nat} (h : ∀ i, listed.getD i false = true → listed.getD (D i) false = true) (i : Nat) (hi : i < listed.size) (hD : D i = i ∨ listed.getD (D i) false = true) :
    ∀ j, (listed.setIfInBounds i true).getD j false = true → (listed.setIfInBounds i true).getD (D j) false = true := fun j hj => by
  by_cases e : j = i
  · subst e
    obtain e1 | e1 := hD
    · rw [e1]; exact hj
    · exact set_more _ _ _ hi e1
  · rw [getD_set_other _ _ _ (Ne.symm e)] at hj
    exact set_more _ _ _ hi (h j hj)
theorem RO3.quiet {W : World} {kV : Nat → Option Value} {st b : Nat} {r : Array Value} {D : Nat → Nat} {listed : Array Bool} {vals : Nat → Value} {w w' : World} (i : Nat) (v : Value)
    (hi : i < listed.size) (hv : kV i = some v) (hs : i ≠ st) (hD : D i = i ∨ listed.getD (D i) false = true) (hg : Gr w w') (h : RO3 W kV st b r D listed vals w) : RO3 W kV st b r D (listed.setIfInBounds i true) (upd vals i v) w' :=
  ⟨RO.quiet i v hv hs hg h.1, dep_more h.2 i hi hD⟩
theorem RO3.store {W : World} {kV : Nat → Option Value} {st b : Nat} {r : Array Value} {D : Nat → Nat} {listed : Array Bool} {vals : Nat → Value} {w : World} (v : Value)
    (hi : st < listed.size) (hl : listed.getD st false = false) (hv : kV st = none) (hD : D st = st ∨ listed.getD (D st) false = true) (h : RO3 W kV st b r D listed vals w) : RO3 W kV st b r D (listed.setIfInBounds st true) (upd vals st v) (setBlk w b r) :=
  ⟨RO.store v hi hl hv h.1, dep_more h.2 st hi hD⟩

end Go.Proofs.Ytleckbdhebjfkaa
namespace Go.Proofs.Ytleckbdhebjfkaa
open Go.RowKit

theorem mmulAdd_any (x y c d : Nat) (hx : x < 18446744073709551616) (hy : y < 18446744073709551616) (hc : c < 18446744073709551616) (hd : d < 18446744073709551616) (w : World) :
    Calls Try.prog 78 #[.int .u64 x, .int .u64 y, .int .u64 c, .int .u64 d] w fun e w' => e = .returned (.tuple #[.int .u64 (((x * y + c + d) % 18446744073709551616 : Nat) : Int), .int .u64 (((x * y + c + d) / 18446744073709551616 : Nat) : Int)]) ∧ w' = w := by
  have hm := mulAdd_val x y c d hx hy hc hd
  obtain ⟨h, l, hl, hh, hp, hq⟩ : ∃ h l : Nat, x * y % 18446744073709551616 = l ∧ x * y / 18446744073709551616 = h ∧ x * y = h * 18446744073709551616 + l ∧ l < 18446744073709551616 := ⟨_, _, rfl, rfl, by omega, by omega⟩
  have c64 := fun w => mul64 x y hx hy w
  rw [hl, hh] at c64
  have C64 : Hid (∀ w, Calls Try.prog 76 #[.int .u64 x, .int .u64 y] w fun e w' => e = .returned (.tuple #[.int .u64 (h : Int), .int .u64 (l : Int)]) ∧ w' = w) := c64
  have HM : Hid (x * y + c + d < 340282366920938463463374607431768211456) := hm
  have HP : Hid (x * y = h * 18446744073709551616 + l) := hp
  clear c64 hl hh hp hm hx hy hc hd hq
  have k0 : (0 : Int) ≤ (l : Int) := by omega
  have k1 : (0 : Int) ≤ (c : Int) := by omega
  have k2 : (0 : Int) ≤ ((l : Int) + c) % 18446744073709551616 := by omega
  have k3 : (0 : Int) ≤ (d : Int) := by omega
  go_enter Try.func78, Try.ntmps78
  go_wp2_with (first | (go_at_call 76; refine (C64.out _).mono ?_; rintro e w' ⟨rfl, rfl⟩) | simp only [add64_0 (l : Int) (c : Int) k0 k1] | simp only [add64_0 _ (d : Int) k2 k3])
  go_ret2
  exact ⟨ret_two (mulAdd_lo (x * y) l h c d HP.out) (mulAdd_hi (x * y) l h c d HP.out HM.out), rfl⟩

/-- x is the inverse of a in the lowest r bits. -/
def Iv (a x r : Nat) : Prop := x < 18446744073709551616 ∧ ((2 ^ r : Nat) : Int) ∣ 1 - (a : Int) * x
theorem Iv.step {a x r : Nat} (h : Iv a x r) (y s : Nat) (hy : (y : Int) = ((x : Int) * ((2 - (a : Int) * x) % 18446744073709551616)) % 18446744073709551616) (hs : s ≤ 2 * r) (h64 : s ≤ 64) : Iv a y s :=
  ⟨by omega, inv_round a x y r h.2 hy s hs h64⟩
set_option maxRecDepth 100000 in
set_option maxHeartbeats 800000 in
theorem inverseOf_any (a : Nat) (ha : a < 18446744073709551616) (ho : a % 2 = 1) :
    ∃ x : Nat, Iv a x 64 ∧ ∀ w, Calls Try.prog 36 #[.int .u64 (a : Int)] w fun e w' => e = .returned (.int .u64 (x : Int)) ∧ w' = w := by
  have i3 : Iv a a 3 := ⟨ha, inv_first a ho⟩
  have nx : ∀ x : Nat, ∃ y : Nat, (y : Int) = ((x : Int) * ((2 - (a : Int) * x) % 18446744073709551616)) % 18446744073709551616 := fun x => by
    obtain ⟨y, hy⟩ := Int.eq_ofNat_of_zero_le (Int.emod_nonneg ((x : Int) * ((2 - (a : Int) * x) % 18446744073709551616)) (show (18446744073709551616 : Int) ≠ 0 by decide))
    exact ⟨y, hy.symm⟩
  obtain ⟨x1, e1⟩ := nx a
  have i6 := i3.step x1 6 e1 (by decide) (by decide)
  obtain ⟨x2, e2⟩ := nx x1
  have i12 := i6.step x2 12 e2 (by decide) (by decide)
  obtain ⟨x3, e3⟩ := nx x2
  have i24 := i12.step x3 24 e3 (by decide) (by decide)
  obtain ⟨x4, e4⟩ := nx x3
  have i48 := i24.step x4 48 e4 (by decide) (by decide)
  obtain ⟨x5, e5⟩ := nx x4
  have i64 := i48.step x5 64 e5 (by decide) (by decide)
  refine ⟨x5, i64, fun w => ?_⟩
  clear i64 i48 i24 i12 i6 i3 nx ho ha
  have E : Hid ((x1 : Int) = ((a : Int) * ((2 - (a : Int) * a) % 18446744073709551616)) % 18446744073709551616 ∧ (x2 : Int) = ((x1 : Int) * ((2 - (a : Int) * x1) % 18446744073709551616)) % 18446744073709551616 ∧ (x3 : Int) = ((x2 : Int) * ((2 - (a : Int) * x2) % 18446744073709551616)) % 18446744073709551616 ∧ (x4 : Int) = ((x3 : Int) * ((2 - (a : Int) * x3) % 18446744073709551616)) % 18446744073709551616 ∧ (x5 : Int) = ((x4 : Int) * ((2 - (a : Int) * x4) % 18446744073709551616)) % 18446744073709551616) := ⟨e1, e2, e3, e4, e5⟩
  clear e1 e2 e3 e4 e5
  go_enter Try.func36, Try.ntmps36
  go_wp2
  go_loopw [3, 4] (fun x r wr => (((x = .int .u64 (a : Int) ∧ r = .int .i64 3) ∨ (x = .int .u64 (x1 : Int) ∧ r = .int .i64 6) ∨ (x = .int .u64 (x2 : Int) ∧ r = .int .i64 12) ∨ (x = .int .u64 (x3 : Int) ∧ r = .int .i64 24) ∨ (x = .int .u64 (x4 : Int) ∧ r = .int .i64 48) ∨ (x = .int .u64 (x5 : Int) ∧ r = .int .i64 96)) ∧ wr = w)) (fun _ r _ => 100 - (intOf r).toNat)
  case atStart => exact ⟨Or.inl ⟨rfl, rfl⟩, rfl⟩
  case round =>
    obtain ⟨h, rfl⟩ := hrel
    obtain ⟨rfl, rfl⟩ | ⟨rfl, rfl⟩ | ⟨rfl, rfl⟩ | ⟨rfl, rfl⟩ | ⟨rfl, rfl⟩ | ⟨rfl, rfl⟩ := h
    · go_wp2
      go_roundw
      case rel => exact ⟨Or.inr (Or.inl ⟨by rw [E.out.1]; simp [IntKind.wrap_u64], rfl⟩), trivial⟩
      case measure => simp [intOf]
    · go_wp2
      go_roundw
      case rel => exact ⟨Or.inr (Or.inr (Or.inl ⟨by rw [E.out.2.1]; simp [IntKind.wrap_u64], rfl⟩)), trivial⟩
      case measure => simp [intOf]
    · go_wp2
      go_roundw
      case rel => exact ⟨Or.inr (Or.inr (Or.inr (Or.inl ⟨by rw [E.out.2.2.1]; simp [IntKind.wrap_u64], rfl⟩))), trivial⟩
      case measure => simp [intOf]
    · go_wp2
      go_roundw
      case rel => exact ⟨Or.inr (Or.inr (Or.inr (Or.inr (Or.inl ⟨by rw [E.out.2.2.2.1]; simp [IntKind.wrap_u64], rfl⟩)))), trivial⟩
      case measure => simp [intOf]
    · go_wp2
      go_roundw
      case rel => exact ⟨Or.inr (Or.inr (Or.inr (Or.inr (Or.inr ⟨by rw [E.out.2.2.2.2]; simp [IntKind.wrap_u64], rfl⟩)))), trivial⟩
      case measure => simp [intOf]
    · go_wp2
      go_ret
      exact ⟨rfl, rfl⟩

end Go.Proofs.Ytleckbdhebjfkaa
namespace Go.Proofs.Ytleckbdhebjfkaa
open Go.RowKit
attribute [local go_sem ↓] loadNat_is loadArr_is loadWide_is loadArrW_is storeNat_is storeWide_is
attribute [local go_sem] loadNat loadArr loadWide loadArrW storeNat storeWide idxArr fold9 fold18 nw_size nw_elem pre_self pre_1 pre_2 pre_3 pre_4 pre_5 pre_6 pre_7 pre_8 pre_9 pre_10 pre_11 pre_12 pre_13 pre_14 pre_15 pre_16 pre_17 pre_18 pre_19 pre_20 pre_21 pre_22 pre_23 pre_24 pre_25 pre_26 pre_27 pre_28 pre_29 pre_30 pre_31 pre_32 pre_33 pre_34 pre_35 pre_36 pre_37 pre_38 pre_39 pre_40 gro_size gro_drew gro_drewN drew_gro drewN_gro gro_gro blk_gro frz_gro blk_drew frz_drew blk_drewN frz_drewN blk_alloc_at frz_alloc_at blk_alloc frz_alloc cell_gro frozen_gro cell_alloc_pre frozen_alloc_pre setCell_drewN alloc_drewN setBlk_drew setBlk_drewN setBlk_alloc_at setBlk_alloc setBlk_gro setCell_gro setCell_alloc_pre size_setBlk size_setCell
attribute [local go_sem ↓] loadDv_is load19_is storeDv_is store19_is copy_is
attribute [local go_sem] idx18 loadDv load19 storeDv store19 dv_size dv_9 dv_10 dv_e9 dv_e10 dv_elem fold11 fold19 setCell_in cell_in frozen_in frz_setBlk blk_setBlk setBlk_setBlk copy_run cpA_nw ones_nw


theorem Row.at {w : World} {b V : Nat} (h : Row w b V) (i : Nat) (hi : i < 19) : w.cell? ⟨b, i, none⟩ = some (.int .u64 ((wd V i : Nat) : Int)) := by
  rw [cell_blk, h.cells, nw_get 19 V i hi]
theorem Row.fz {w : World} {b V : Nat} (h : Row w b V) (i : Nat) : w.frozen? ⟨b, i, none⟩ = false := frozen_frz _ _ _ h.free
theorem Row.put {w : World} {b V : Nat} (h : Row w b V) (i y : Nat) (hy : y < 18446744073709551616) : w.setCell ⟨b, i, none⟩ (.int .u64 (y : Int)) = setBlk w b (nw 19 (wset V i y)) := by
  rw [setCell_setBlk, h.cells, nw_wset 19 V i y hy]

/-- What clearLowest answers, and what it leaves. -/
def Clr (w : World) (br q o k X : Nat) (e : Ending) (w' : World) : Prop := ∃ Z v' : Nat, e = .returned (.int .u64 (v' : Int)) ∧ v' ≤ 1 ∧ Rw w w' br Z ∧ Z < pw q ∧ Z + v' * pw (o + (k + 1)) = X
set_option maxRecDepth 100000 in
set_option maxHeartbeats 1600000 in
theorem clear_any (b m k s f br o V n v q t : Nat) (w : World) (hMt0 : Mt w b m k s f) (hr : Row w br V) (hne : br ≠ b) (hk : k ≤ 9) (hm : m < pw k) (ho : o + (k + 1) ≤ 19) (hv : v ≤ 1) (hV : V < pw q) (hq : o + k < q)
    (ht : wd V o * f % 18446744073709551616 = t) :
    Calls Try.prog 70 #[.pointer (some ⟨b, 0, none⟩), .slice (some ⟨br, o, none⟩) (k + 1) n, .int .u64 (v : Int)] w (Clr w br q o k (V + t * m * pw o + v * pw (o + k))) := by
  have tm : ((wd V o : Nat) : Int) * (f : Int) % 18446744073709551616 = (t : Int) := by rw [← ht, Int.natCast_emod, Int.natCast_mul]; rfl
  have tw : IntKind.u64.wrap (((wd V o : Nat) : Int) * (f : Int)) = (t : Int) := by rw [IntKind.wrap_u64]; exact tm
  have tl : t < 18446744073709551616 := by rw [← ht]; exact Nat.mod_lt _ (by decide)
  have TL : Hid (Unit → t < 18446744073709551616) := fun _ => tl
  have c0 : w.cell? ⟨br, o, none⟩ = some (.int .u64 ((wd V o : Nat) : Int)) := by rw [cell_blk, hr.cells, nw_get 19 V o (by omega)]
  have c9 := hMt0.at9
  have c19 := hMt0.at19
  have HM : Hid (Unit → m < pw k) := fun _ => hm
  have HV : Hid (Unit → V < pw q) := fun _ => hV
  have HO : Hid (Unit → o + (k + 1) ≤ 19 ∧ o + k < q) := fun _ => ⟨ho, hq⟩
  have HK : Hid (Unit → k ≤ 9) := fun _ => hk
  have HR : Hid (Row w br V) := hr
  have HT : Hid (Mt w b m k s f) := hMt0
  have HQ : Hid (Unit → v ≤ 1) := fun _ => hv
  have k1 : (0 : Int) < (k : Int) + 1 := by omega
  clear hMt0 hr hm hV ho hq hk ht tl hv
  go_enter Try.func70, Try.ntmps70
  go_wp2
  go_quiet (fail)
  go_wp2
  go_loopw [8, 22] (fun c i wr => ∃ j d Z : Nat, j ≤ k ∧ i = .int .i64 (j : Int) ∧ c = .int .u64 (d : Int) ∧ Hid (Unit → d < 18446744073709551616) ∧ Hid (Unit → Z < pw q) ∧ Hid (Unit → Z + d * pw (o + j) = V + t * (m % pw j) * pw o) ∧ Hid (Rw w wr br Z)) (fun _ i _ => k - (intOf i).toNat)
  case atStart => exact ⟨0, 0, V, by omega, rfl, rfl, fun _ => by decide, HV, fun _ => by simp [pw_zero, Nat.mod_one], Rw.refl HR.out (by repeat (first | exact Gr.refl _ | apply Gr.drewN | apply Gr.drew | apply Gr.alloc | apply Gr.gro))⟩
  case round =>
    obtain ⟨j, d, Z, hj, rfl, rfl, Hd, HZ, HE, HW⟩ := hrel
    clear c0 c9 c19
    have hRow := HW.out.row HR.out
    have hMt := HT.out.rw hne HW.out
    have c9 := hMt.at9
    by_cases hlt : j < k
    · have j0 : (0 : Int) ≤ (j : Int) := by omega
      have j1 : (j : Int) < (k : Int) := by omega
      have j9 : j < 9 := by have := HK.out (); omega
      have j2 : (j : Int) < 9 := by omega
      have j3 : (j : Int) < (k : Int) + 1 := by omega
      have gZ := nw_get 19 Z (o + j) (by have := (HO.out ()).1; omega)
      obtain ⟨y, hy⟩ : ∃ y, (t * wd m j + wd Z (o + j) + d) % 18446744073709551616 = y := ⟨_, rfl⟩
      obtain ⟨c, hc⟩ : ∃ c, (t * wd m j + wd Z (o + j) + d) / 18446744073709551616 = c := ⟨_, rfl⟩
      have CM : Hid (∀ w, Calls Try.prog 78 #[.int .u64 (t : Int), .int .u64 ((wd m j : Nat) : Int), .int .u64 ((wd Z (o + j) : Nat) : Int), .int .u64 (d : Int)] w fun e w' => e = .returned (.tuple #[.int .u64 (y : Int), .int .u64 (c : Int)]) ∧ Gr w w') := fun w => by
        refine (mmulAdd_any t (wd m j) (wd Z (o + j)) d (TL.out ()) (wd_lt _ _) (wd_lt _ _) (Hd.out ()) w).mono ?_
        rintro e w' ⟨rfl, rfl⟩
        exact ⟨by rw [hy, hc], Gr.refl _⟩
      have hyl : y < 18446744073709551616 := by rw [← hy]; exact Nat.mod_lt _ (by decide)
      have s3 := nw_wset 19 Z (o + j) y hyl
      have HC : Hid (Unit → c < 18446744073709551616) := fun _ => by rw [← hc]; exact mulAdd_lt _ _ _ _ (TL.out ()) (wd_lt _ _) (wd_lt _ _) (Hd.out ())
      have HN : Hid (Unit → wset Z (o + j) y + c * pw (o + (j + 1)) = V + t * (m % pw (j + 1)) * pw o) := fun _ => cl_step V Z m t o j d y c (HE.out ()) (by omega)
      have HL : Hid (Unit → wset Z (o + j) y < pw q) := fun _ => wset_lt Z (o + j) y _ (HZ.out ()) (by have := (HO.out ()).2; omega) hyl
      clear hy hc hyl
      go_upto_region 6 with fail
      refine wp_region_mix (by kernel_rfl) (by kernel_rfl) (RO3 _ (fun i => match i with | 0 => some (.slice (some ⟨br, o, none⟩) (k + 1) n) | 1 => some (.int .i64 (j : Int)) | 2 => some (.int .u64 (t : Int)) | 3 => some (.pointer (some ⟨b, 0, none⟩)) | 4 => some (.int .i64 (j : Int)) | 5 => some (.pointer (some ⟨b, 0, none⟩)) | 6 => some (.pointer (some ⟨b, 0, none⟩)) | 7 => some (.pointer (some ⟨b, 0, none⟩)) | 8 => some (.pointer (some ⟨b, j, none⟩)) | 9 => some (.int .u64 ((wd m j : Nat) : Int)) | 10 => some (.slice (some ⟨br, o, none⟩) (k + 1) n) | 11 => some (.int .i64 (j : Int)) | 12 => some (.pointer (some ⟨br, o + j, none⟩)) | 13 => some (.int .u64 ((wd Z (o + j) : Nat) : Int)) | 14 => some (.int .u64 (d : Int)) | 15 => some (.tuple #[.int .u64 (y : Int), .int .u64 (c : Int)]) | 16 => some (.tuple #[.int .u64 (y : Int), .int .u64 (c : Int)]) | 17 => some (.int .u64 (y : Int)) | 18 => some (.int .u64 (c : Int)) | 19 => some (.pointer (some ⟨br, o + j, none⟩)) | 21 => some (.int .u64 (c : Int)) | _ => none) 20 (br) (nw 19 (wset Z (o + j) y)) (fun i => match i with | 20 => 17 | 17 => 16 | 16 => 15 | 15 => 13 | 21 => 14 | i => i)) (RO3.start _ _ _ _ _ _ _ _) ?hs ?hf
      case hs =>
        intro listed vals a1 v1 i o hz hR hF ho hl hd
        have cm : v1.cell? ⟨b, j, none⟩ = some (.int .u64 ((wd m j : Nat) : Int)) := by rw [cell_blk, hR.1.blk b hMt.lt hne, hMt.cells]; exact mt_get m k s f j j9
        have hi : i < 22 := by simpa using (Array.getElem?_eq_some_iff.1 ho).1
        have hil : i < listed.size := by rw [hz]; simpa using hi
        obtain rfl | rfl | rfl | rfl | rfl | rfl | rfl | rfl | rfl | rfl | rfl | rfl | rfl | rfl | rfl | rfl | rfl | rfl | rfl | rfl | rfl | rfl : i = 0 ∨ i = 1 ∨ i = 2 ∨ i = 3 ∨ i = 4 ∨ i = 5 ∨ i = 6 ∨ i = 7 ∨ i = 8 ∨ i = 9 ∨ i = 10 ∨ i = 11 ∨ i = 12 ∨ i = 13 ∨ i = 14 ∨ i = 15 ∨ i = 16 ∨ i = 17 ∨ i = 18 ∨ i = 19 ∨ i = 20 ∨ i = 21 := by omega
        · obtain rfl := Option.some.inj ho
          have f0 := hF.old (s := 1) (v := .slice (some ⟨br, o, none⟩) (k + 1) n) (by kernel_rfl) rfl
          exact wp_val (.slice (some ⟨br, o, none⟩) (k + 1) n) (by simp [go_sem, f0]) ⟨_, rfl, RO3.quiet 0 _ hil rfl (by decide) (Or.inl rfl) (Gr.refl _) hR⟩
        · obtain rfl := Option.some.inj ho
          have f0 := hF.old (s := 9) (v := .int .i64 (j : Int)) (by kernel_rfl) rfl
          exact wp_val (.int .i64 (j : Int)) (by simp [go_sem, f0]) ⟨_, rfl, RO3.quiet 1 _ hil rfl (by decide) (Or.inl rfl) (Gr.refl _) hR⟩
        · obtain rfl := Option.some.inj ho
          have f0 := hF.old (s := 7) (v := .int .u64 (t : Int)) (by kernel_rfl) rfl
          exact wp_val (.int .u64 (t : Int)) (by simp [go_sem, f0]) ⟨_, rfl, RO3.quiet 2 _ hil rfl (by decide) (Or.inl rfl) (Gr.refl _) hR⟩
        · obtain rfl := Option.some.inj ho
          have f0 := hF.old (s := 0) (v := .pointer (some ⟨b, 0, none⟩)) (by kernel_rfl) rfl
          exact wp_val (.pointer (some ⟨b, 0, none⟩)) (by simp [go_sem, f0]) ⟨_, rfl, RO3.quiet 3 _ hil rfl (by decide) (Or.inl rfl) (Gr.refl _) hR⟩
        · obtain rfl := Option.some.inj ho
          have f0 := hF.old (s := 9) (v := .int .i64 (j : Int)) (by kernel_rfl) rfl
          exact wp_val (.int .i64 (j : Int)) (by simp [go_sem, f0]) ⟨_, rfl, RO3.quiet 4 _ hil rfl (by decide) (Or.inl rfl) (Gr.refl _) hR⟩
        · obtain rfl := Option.some.inj ho
          have l0 := hd ⟨3, .data⟩ (by simp) rfl
          have f0 := hF.at (s := 29) (i := 3) (by kernel_rfl) (by simp) l0
          rw [hR.1.1 3 _ l0 rfl] at f0
          exact wp_val (.pointer (some ⟨b, 0, none⟩)) (by simp [go_sem, f0]) ⟨_, rfl, RO3.quiet 5 _ hil rfl (by decide) (Or.inl rfl) (Gr.refl _) hR⟩
        · obtain rfl := Option.some.inj ho
          have l0 := hd ⟨5, .data⟩ (by simp) rfl
          have f0 := hF.at (s := 31) (i := 5) (by kernel_rfl) (by simp) l0
          rw [hR.1.1 5 _ l0 rfl] at f0
          exact wp_val (.pointer (some ⟨b, 0, none⟩)) (by simp [go_sem, f0]) ⟨_, rfl, RO3.quiet 6 _ hil rfl (by decide) (Or.inl rfl) (Gr.refl _) hR⟩
        · obtain rfl := Option.some.inj ho
          have l0 := hd ⟨6, .data⟩ (by simp) rfl
          have f0 := hF.at (s := 32) (i := 6) (by kernel_rfl) (by simp) l0
          rw [hR.1.1 6 _ l0 rfl] at f0
          exact wp_val (.pointer (some ⟨b, 0, none⟩)) (by simp [go_sem, f0]) ⟨_, rfl, RO3.quiet 7 _ hil rfl (by decide) (Or.inl rfl) (Gr.refl _) hR⟩
        · obtain rfl := Option.some.inj ho
          have l0 := hd ⟨7, .data⟩ (by simp) rfl
          have f0 := hF.at (s := 33) (i := 7) (by kernel_rfl) (by simp) l0
          rw [hR.1.1 7 _ l0 rfl] at f0
          have l1 := hd ⟨4, .data⟩ (by simp) rfl
          have f1 := hF.at (s := 30) (i := 4) (by kernel_rfl) (by simp) l1
          rw [hR.1.1 4 _ l1 rfl] at f1
          exact wp_val (.pointer (some ⟨b, j, none⟩)) (by simp [go_sem, f0, f1, j0, j2]) ⟨_, rfl, RO3.quiet 8 _ hil rfl (by decide) (Or.inl rfl) (Gr.refl _) hR⟩
        · obtain rfl := Option.some.inj ho
          have l0 := hd ⟨8, .data⟩ (by simp) rfl
          have f0 := hF.at (s := 34) (i := 8) (by kernel_rfl) (by simp) l0
          rw [hR.1.1 8 _ l0 rfl] at f0
          exact wp_val (.int .u64 ((wd m j : Nat) : Int)) (by simp [go_sem, f0, cm]) ⟨_, rfl, RO3.quiet 9 _ hil rfl (by decide) (Or.inl rfl) (Gr.refl _) hR⟩
        · obtain rfl := Option.some.inj ho
          have f0 := hF.old (s := 1) (v := .slice (some ⟨br, o, none⟩) (k + 1) n) (by kernel_rfl) rfl
          exact wp_val (.slice (some ⟨br, o, none⟩) (k + 1) n) (by simp [go_sem, f0]) ⟨_, rfl, RO3.quiet 10 _ hil rfl (by decide) (Or.inl rfl) (Gr.refl _) hR⟩
        · obtain rfl := Option.some.inj ho
          have f0 := hF.old (s := 9) (v := .int .i64 (j : Int)) (by kernel_rfl) rfl
          exact wp_val (.int .i64 (j : Int)) (by simp [go_sem, f0]) ⟨_, rfl, RO3.quiet 11 _ hil rfl (by decide) (Or.inl rfl) (Gr.refl _) hR⟩
        · obtain rfl := Option.some.inj ho
          have l0 := hd ⟨10, .data⟩ (by simp) rfl
          have f0 := hF.at (s := 36) (i := 10) (by kernel_rfl) (by simp) l0
          rw [hR.1.1 10 _ l0 rfl] at f0
          have l1 := hd ⟨11, .data⟩ (by simp) rfl
          have f1 := hF.at (s := 37) (i := 11) (by kernel_rfl) (by simp) l1
          rw [hR.1.1 11 _ l1 rfl] at f1
          exact wp_val (.pointer (some ⟨br, o + j, none⟩)) (by simp [go_sem, f0, f1, j0, j3]) ⟨_, rfl, RO3.quiet 12 _ hil rfl (by decide) (Or.inl rfl) (Gr.refl _) hR⟩
        · obtain rfl := Option.some.inj ho
          have l0 := hd ⟨12, .data⟩ (by simp) rfl
          have f0 := hF.at (s := 38) (i := 12) (by kernel_rfl) (by simp) l0
          rw [hR.1.1 12 _ l0 rfl] at f0
          have ns : listed.getD 20 false = false := by
            cases hh : listed.getD 20 false with
            | false => rfl
            | true =>
              have e17 := hR.2 20 hh
              have e16 := hR.2 17 e17
              have e15 := hR.2 16 e16
              have e13 := hR.2 15 e15
              rw [show listed.getD 13 false = true from e13] at hl; cases hl
          have cz : v1.cell? ⟨br, o + j, none⟩ = some (.int .u64 ((wd Z (o + j) : Nat) : Int)) := by rw [cell_blk, (hRow.gr (hR.1.2.1 ns)).cells]; exact gZ
          exact wp_val (.int .u64 ((wd Z (o + j) : Nat) : Int)) (by simp [go_sem, f0, cz]) ⟨_, rfl, RO3.quiet 13 _ hil rfl (by decide) (Or.inl rfl) (Gr.refl _) hR⟩
        · obtain rfl := Option.some.inj ho
          have ns : listed.getD 21 false = false := by
            cases hh : listed.getD 21 false with
            | false => rfl
            | true =>
              rw [show listed.getD 14 false = true from hR.2 21 hh] at hl; cases hl
          have f0 := hF.early (s := 8) (i := 21) (v := .int .u64 (d : Int)) (by kernel_rfl) rfl ns
          exact wp_val (.int .u64 (d : Int)) (by simp [go_sem, f0]) ⟨_, rfl, RO3.quiet 14 _ hil rfl (by decide) (Or.inl rfl) (Gr.refl _) hR⟩
        · obtain rfl := Option.some.inj ho
          have l0 := hd ⟨2, .data⟩ (by simp) rfl
          have f0 := hF.at (s := 28) (i := 2) (by kernel_rfl) (by simp) l0
          rw [hR.1.1 2 _ l0 rfl] at f0
          have l1 := hd ⟨9, .data⟩ (by simp) rfl
          have f1 := hF.at (s := 35) (i := 9) (by kernel_rfl) (by simp) l1
          rw [hR.1.1 9 _ l1 rfl] at f1
          have l2 := hd ⟨13, .data⟩ (by simp) rfl
          have f2 := hF.at (s := 39) (i := 13) (by kernel_rfl) (by simp) l2
          rw [hR.1.1 13 _ l2 rfl] at f2
          have l3 := hd ⟨14, .data⟩ (by simp) rfl
          have f3 := hF.at (s := 40) (i := 14) (by kernel_rfl) (by simp) l3
          rw [hR.1.1 14 _ l3 rfl] at f3
          exact wp_ret (.tuple #[.int .u64 (y : Int), .int .u64 (c : Int)]) (by simp [go_sem, f0, f1, f2, f3]) (CM.out _) (fun w2 hg => ⟨_, rfl, RO3.quiet 15 _ hil rfl (by decide) (Or.inr l2) hg hR⟩)
        · obtain rfl := Option.some.inj ho
          have l0 := hd ⟨15, .data⟩ (by simp) rfl
          have f0 := hF.at (s := 41) (i := 15) (by kernel_rfl) (by simp) l0
          rw [hR.1.1 15 _ l0 rfl] at f0
          exact wp_val (.tuple #[.int .u64 (y : Int), .int .u64 (c : Int)]) (by simp [go_sem, f0]) ⟨_, rfl, RO3.quiet 16 _ hil rfl (by decide) (Or.inr l0) (Gr.refl _) hR⟩
        · obtain rfl := Option.some.inj ho
          have l0 := hd ⟨16, .data⟩ (by simp) rfl
          have f0 := hF.at (s := 25) (i := 16) (by kernel_rfl) (by simp) l0
          rw [hR.1.1 16 _ l0 rfl] at f0
          exact wp_val (.int .u64 (y : Int)) (by simp [go_sem, f0]) ⟨_, rfl, RO3.quiet 17 _ hil rfl (by decide) (Or.inr l0) (Gr.refl _) hR⟩
        · obtain rfl := Option.some.inj ho
          have l0 := hd ⟨16, .data⟩ (by simp) rfl
          have f0 := hF.at (s := 25) (i := 16) (by kernel_rfl) (by simp) l0
          rw [hR.1.1 16 _ l0 rfl] at f0
          exact wp_val (.int .u64 (c : Int)) (by simp [go_sem, f0]) ⟨_, rfl, RO3.quiet 18 _ hil rfl (by decide) (Or.inl rfl) (Gr.refl _) hR⟩
        · obtain rfl := Option.some.inj ho
          have l0 := hd ⟨0, .data⟩ (by simp) rfl
          have f0 := hF.at (s := 26) (i := 0) (by kernel_rfl) (by simp) l0
          rw [hR.1.1 0 _ l0 rfl] at f0
          have l1 := hd ⟨1, .data⟩ (by simp) rfl
          have f1 := hF.at (s := 27) (i := 1) (by kernel_rfl) (by simp) l1
          rw [hR.1.1 1 _ l1 rfl] at f1
          exact wp_val (.pointer (some ⟨br, o + j, none⟩)) (by simp [go_sem, f0, f1, j0, j3]) ⟨_, rfl, RO3.quiet 19 _ hil rfl (by decide) (Or.inl rfl) (Gr.refl _) hR⟩
        · obtain rfl := Option.some.inj ho
          have l0 := hd ⟨19, .data⟩ (by simp) rfl
          have f0 := hF.at (s := 44) (i := 19) (by kernel_rfl) (by simp) l0
          rw [hR.1.1 19 _ l0 rfl] at f0
          have l1 := hd ⟨17, .data⟩ (by simp) rfl
          have f1 := hF.at (s := 42) (i := 17) (by kernel_rfl) (by simp) l1
          rw [hR.1.1 17 _ l1 rfl] at f1
          have g0 := hR.1.2.1 hl
          have rz := hRow.gr g0
          have e1 : v1.cell? ⟨br, o + j, none⟩ = some (.int .u64 ((wd Z (o + j) : Nat) : Int)) := by rw [cell_blk, rz.cells]; exact gZ
          have e2 : v1.frozen? ⟨br, o + j, none⟩ = false := frozen_frz _ _ _ rz.free
          have e3 : v1.setCell ⟨br, o + j, none⟩ (.int .u64 (y : Int)) = setBlk v1 br (nw 19 (wset Z (o + j) y)) := by rw [setCell_setBlk, rz.cells, s3]
          exact wp_skip (w' := setBlk v1 (br) (nw 19 (wset Z (o + j) y))) (by simp [go_sem, e1, e2, e3, f0, f1]) ⟨undef, rfl, RO3.store _ hil hl rfl (Or.inr l1) hR⟩
        · obtain rfl := Option.some.inj ho
          have l0 := hd ⟨18, .data⟩ (by simp) rfl
          have f0 := hF.at (s := 43) (i := 18) (by kernel_rfl) (by simp) l0
          rw [hR.1.1 18 _ l0 rfl] at f0
          have lp := hd ⟨14, .phase⟩ (by simp) rfl
          exact wp_val (.int .u64 (c : Int)) (by simp [go_sem, f0]) ⟨_, rfl, RO3.quiet 21 _ hil rfl (by decide) (Or.inr lp) (Gr.refl _) hR⟩
      case hf =>
        intro listed vals a1 v1 hall hR hF
        obtain ⟨vM, g1, g2⟩ := hR.1.2.2 (hall 20 (by simp))
        have hV := hR.1.1
        have x0 := hV 0 _ (hall 0 (by simp)) rfl
        have x1 := hV 1 _ (hall 1 (by simp)) rfl
        have x2 := hV 2 _ (hall 2 (by simp)) rfl
        have x3 := hV 3 _ (hall 3 (by simp)) rfl
        have x4 := hV 4 _ (hall 4 (by simp)) rfl
        have x5 := hV 5 _ (hall 5 (by simp)) rfl
        have x6 := hV 6 _ (hall 6 (by simp)) rfl
        have x7 := hV 7 _ (hall 7 (by simp)) rfl
        have x8 := hV 8 _ (hall 8 (by simp)) rfl
        have x9 := hV 9 _ (hall 9 (by simp)) rfl
        have x10 := hV 10 _ (hall 10 (by simp)) rfl
        have x11 := hV 11 _ (hall 11 (by simp)) rfl
        have x12 := hV 12 _ (hall 12 (by simp)) rfl
        have x13 := hV 13 _ (hall 13 (by simp)) rfl
        have x14 := hV 14 _ (hall 14 (by simp)) rfl
        have x15 := hV 15 _ (hall 15 (by simp)) rfl
        have x16 := hV 16 _ (hall 16 (by simp)) rfl
        have x17 := hV 17 _ (hall 17 (by simp)) rfl
        have x18 := hV 18 _ (hall 18 (by simp)) rfl
        have x19 := hV 19 _ (hall 19 (by simp)) rfl
        have x21 := hV 21 _ (hall 21 (by simp)) rfl
        rw [hF.final (by kernel_rfl) hall]
        simp only [putFrom, Act.put, List.setIfInBounds_toArray, List.set_cons_zero, List.set_cons_succ, x0, x1, x2, x3, x4, x5, x6, x7, x8, x9, x10, x11, x12, x13, x14, x15, x16, x17, x18, x19, x21]
        clear hV hR hF hall x0 x1 x2 x3 x4 x5 x6 x7 x8 x9 x10 x11 x12 x13 x14 x15 x16 x17 x18 x19 x21
        go_wp2
        go_roundw
        case rel => exact ⟨j + 1, c, wset Z (o + j) y, by omega, by go_num, rfl, HC, HL, HN, (HW.out.trans HR.out.lt g1 g2).gr (by repeat (first | exact Gr.refl _ | apply Gr.drewN | apply Gr.drew | apply Gr.alloc | apply Gr.gro))⟩
        case measure => simp [intOf]; omega
    · have hjk : j = k := by omega
      subst hjk
      have ji : ¬ (j : Int) < (j : Int) := by omega
      have k0 : (0 : Int) ≤ (j : Int) := by omega
      have k3 : (j : Int) < (j : Int) + 1 := by omega
      have gZ := nw_get 19 Z (o + j) (by have := (HO.out ()).1; omega)
      have cz := hRow.at (o + j) (by have := (HO.out ()).1; omega)
      have fz := hRow.fz (o + j)
      obtain ⟨y, hy⟩ : ∃ y, (wd Z (o + j) + d + v) % 18446744073709551616 = y := ⟨_, rfl⟩
      obtain ⟨c, hc⟩ : ∃ c, (wd Z (o + j) + d + v) / 18446744073709551616 = c := ⟨_, rfl⟩
      have A64 := add64_nat (wd Z (o + j)) d v y c (HQ.out ()) hy hc
      have hyl : y < 18446744073709551616 := by rw [← hy]; exact Nat.mod_lt _ (by decide)
      have sw := hRow.put (o + j) y hyl
      have HF : Hid (Unit → c ≤ 1 ∧ wset Z (o + j) y < pw q ∧ wset Z (o + j) y + c * pw (o + (j + 1)) = V + t * m * pw o + v * pw (o + j)) := fun _ => by
        have := wd_lt Z (o + j)
        have h1 := Hd.out ()
        have h2 := HQ.out ()
        refine ⟨by omega, wset_lt Z (o + j) y _ (HZ.out ()) (by have := (HO.out ()).2; omega) hyl, ?_⟩
        have h3 := HE.out ()
        rw [Nat.mod_eq_of_lt (HM.out ())] at h3
        exact cl_last V Z m t o j d v y c h3 (by omega)
      have hbp := hRow.lt
      have cb := hMt.cells
      clear hy hc hyl
      go_wp2
      go_big_region
      go_wp2
      go_ret
      refine ⟨wset Z (o + j) y, c, rfl, (HF.out ()).1, ?_, (HF.out ()).2.1, (HF.out ()).2.2⟩
      exact HW.out.trans HR.out.lt (Gr.refl _) (show Gr _ _ from (Gr.refl _).drew)

end Go.Proofs.Ytleckbdhebjfkaa
namespace Go.Proofs.Ytleckbdhebjfkaa
open Go.RowKit

/-- From here on the world is any one of which that much is known. -/
theorem gen_w {P : Program} {c : Code} {Q : Exit → Act → World → Prop} {a : Act} {W : World} (R : World → Prop) (h : R W) (k : ∀ v, R v → c.wp P Q a v) : c.wp P Q a W := k W h
/-- A variable that holds a number. -/
structure Cl (v : World) (b x : Nat) : Prop where
  h : blk v b = nw 9 x
  f : frz v b = (0, 0)
  p : Pre (b + 1) v.heap.size
theorem Cl.gr {v v' : World} {b x : Nat} (h : Cl v b x) (k : Gr v v') : Cl v' b x :=
  ⟨by rw [k.blk _ h.p]; exact h.h, by rw [k.frz _ h.p]; exact h.f, Nat.le_trans h.p k.below.size⟩
theorem Cl.set {v : World} {b x : Nat} (h : Cl v b x) (y : Nat) : Cl (setBlk v b (nw 9 y)) b y :=
  ⟨blk_setBlk _ _ _ (by rw [h.h, nw_size]; decide), by rw [frz_setBlk]; exact h.f, by rw [size_setBlk]; exact h.p⟩
theorem Cl.other {v : World} {b c x : Nat} {d : Array Value} (h : Cl v c x) (n : b ≠ c) : Cl (setBlk v b d) c x :=
  ⟨by rw [blk_other _ _ _ _ n]; exact h.h, by rw [frz_setBlk]; exact h.f, by rw [size_setBlk]; exact h.p⟩
theorem Cl.rw {v v' : World} {b c x V : Nat} (h : Cl v c x) (n : b ≠ c) (g : Rw v v' b V) : Cl v' c x := (h.other n).gr g
/-- A variable that holds eighteen words. -/
structure Clw (v : World) (b x : Nat) : Prop where
  h : blk v b = nw 18 x
  f : frz v b = (0, 0)
  p : Pre (b + 1) v.heap.size
theorem Clw.gr {v v' : World} {b x : Nat} (h : Clw v b x) (k : Gr v v') : Clw v' b x :=
  ⟨by rw [k.blk _ h.p]; exact h.h, by rw [k.frz _ h.p]; exact h.f, Nat.le_trans h.p k.below.size⟩

/-! ### copy from the middle of a row -/
theorem copy_off (ty : TypeId) (w : World) (b a o n m p q : Nat) (hb : min m n ≤ (blk w b).size) (ha : o + min m n ≤ (blk w a).size) (h0 : 0 < (blk w b).size) (hf : frz w b = (0, 0)) (h1 : Ones (blk w a)) :
    (copyS ty (.slice (some ⟨b, 0, none⟩) n p) (.slice (some ⟨a, o, none⟩) m q)).run Try.prog w = .ok (goInt ((min m n : Nat) : Int)) (setBlk w b (setL (blk w b) 0 (((blk w a).toList.drop o).take (min m n)))) := by
  unfold copyS
  unfold Ones at h1
  have hl : (((blk w a).toList.drop o).take (min m n)).length = min m n := by rw [List.length_take]; exact Nat.min_eq_left (by simp; omega)
  have hadd : ∀ j, (⟨a, o, none⟩ : Addr).add j = ⟨a, o + j, none⟩ := fun j => by unfold Addr.add; split <;> simp_all
  rw [run_copy_cells w 100 100 ty 22 b 0 n p ⟨a, o, none⟩ m q (((blk w a).toList.drop o).take (min m n)) Try.underlying100 (by kernel_rfl) hl
    (fun j v hv => ?_) (fun j hj => ?_) (fun j hj => ?_) (fun v hv => ?_), setCells_setBlk _ _ _ _ h0]
  · rw [hl]
  · have hj : j < min m n := by
      by_cases h : j < min m n
      · exact h
      · rw [List.getElem?_eq_none (by rw [hl]; omega)] at hv; cases hv
    rw [List.getElem?_take_of_lt hj, List.getElem?_drop] at hv
    rw [hadd, cell_blk]
    simpa using hv
  · rw [hl] at hj
    rw [Nat.zero_add, cell_blk, Array.getElem?_eq_getElem (by omega)]
    rfl
  · exact frozen_frz _ _ _ hf
  · have := List.mem_of_mem_drop (List.mem_of_mem_take hv)
    rw [Array.all_eq_true_iff_forall_mem] at h1
    exact h1 v (by simpa using this)
theorem mid_words (Y k : Nat) (hk : k ≤ 9) (hY : Y < pw (2 * k + 1)) : setL (nw 9 0) 0 (((nw 19 Y).toList.drop k).take (min (k + 1) 9)) = nw 9 (Y / pw k) := by
  apply Array.ext_getElem?
  intro j
  rw [setL_get]
  have hlen : (((nw 19 Y).toList.drop k).take (min (k + 1) 9)).length = min (k + 1) 9 := by rw [List.length_take]; simp [nw_size]; omega
  rw [hlen, nw_size]
  by_cases hj : j < 9
  · rw [nw_get 9 (Y / pw k) j hj, wd_div, nw_get 9 0 j hj, wd_zero]
    by_cases hc : j < k + 1
    · rw [if_pos ⟨by omega, by omega, hj⟩, Nat.sub_zero, List.getElem?_take_of_lt (by omega), List.getElem?_drop, Array.getElem?_toList, nw_get 19 Y (k + j) (by omega)]
    · rw [if_neg (by omega)]
      have : wd Y (k + j) = 0 := by
        unfold wd
        rw [Nat.div_eq_of_lt (Nat.lt_of_lt_of_le hY (by rw [show k + j = 2 * k + 1 + (j - k - 1) by omega]; exact pw_mono _ _))]
      rw [this]
  · rw [Array.getElem?_eq_none (by rw [nw_size]; omega), if_neg (by omega), Array.getElem?_eq_none (by rw [nw_size]; omega)]
theorem copy_mid (ty : TypeId) (w : World) (b a k Y p q : Nat) (hk : k ≤ 9) (hY : Y < pw (2 * k + 1)) (hb : blk w b = nw 9 0) (ha : blk w a = nw 19 Y) (hf : frz w b = (0, 0)) :
    (copyS ty (.slice (some ⟨b, 0, none⟩) 9 p) (.slice (some ⟨a, k, none⟩) (k + 1) q)).run Try.prog w = .ok (goInt ((min (k + 1) 9 : Nat) : Int)) (setBlk w b (nw 9 (Y / pw k))) := by
  rw [copy_off ty w b a k 9 (k + 1) p q (by rw [hb, nw_size]; omega) (by rw [ha, nw_size]; omega) (by rw [hb, nw_size]; decide) hf (by rw [ha]; exact ones_nw 19 Y), hb, ha, mid_words Y k hk hY]
/-- What the last words come to. -/
theorem red_val {m k u T t d Q : Nat} (ho : Mo m k u) (ht : t < 2 * m) (hd : d ≤ 1) (hm : t % pw k + d * pw k = t) (hQ : t * pw k = T + Q * m) :
    (t % M < m → d = 0 → t % M = T * u % m) ∧ (¬ (t % M < m ∧ d = 0) → (t % M + M - m) % M = T * u % m) := by
  obtain ⟨r, hr, hrm, hre⟩ := red_end T m k t Q ht hQ
  have hrv := ho.red T r hrm hre
  have hmM := ho.M
  have hkM := pw_le9 k ho.k9
  have hlt := Nat.mod_lt t (pw_pos k)
  have hml := ho.lt
  rw [← hrv]
  obtain ⟨q, hq⟩ : ∃ q, t = t % M + M * q := ⟨t / M, by have := Nat.mod_add_div t M; omega⟩
  have hx := Nat.mod_lt t M_pos
  generalize t % M = x at *
  have hq1 : q ≤ 1 := by
    by_cases h2 : q ≤ 1
    · exact h2
    · have : M * 2 ≤ M * q := Nat.mul_le_mul_left _ (by omega)
      omega
  obtain rfl | rfl : q = 0 ∨ q = 1 := by omega
  · rw [Nat.mul_zero, Nat.add_zero] at hq
    subst hq
    refine ⟨fun h1 _ => by rw [hr, if_pos h1], fun h1 => ?_⟩
    have hge : m ≤ t := by
      by_cases h2 : t < m
      · have : d = 1 := by omega
        subst this
        omega
      · omega
    rw [hr, if_neg (by omega), show t + M - m = (t - m) + M by omega, Nat.add_mod_right, Nat.mod_eq_of_lt (by omega)]
  · rw [Nat.mul_one] at hq
    refine ⟨fun h1 h2 => ?_, fun _ => ?_⟩
    · subst h2
      omega
    · rw [hr, if_neg (by omega), show x + M - m = t - m by omega, Nat.mod_eq_of_lt (by omega)]

end Go.Proofs.Ytleckbdhebjfkaa
