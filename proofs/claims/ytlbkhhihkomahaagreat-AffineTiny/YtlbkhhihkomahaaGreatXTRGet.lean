import Derived.Test.YtlbkhhihkomahaaGreatXTMixS
import Derived.Test.YtlbkhhihkomahaaGreatXTPC
import Derived.Test.YtlbkhhihkomahaaGreatXTLawA
import Derived.Test.YtlbkhhihkomahaaGreatXTQt
import Derived.Test.YtlbkhhihkomahaaGreatXTMixQ
import Derived.Test.YtlbkhhihkomahaaGreatXTRRow
import Derived.Test.YtlbkhhihkomahaaGreatXTRSub
import Derived.Test.YtlbkhhihkomahaaGreatXTFB
namespace Go.Proofs.YtlbkhhihkomahaaGreat
open Go.RowKit

/-- Where an answer lies. -/
abbrev Wt := Nat → Option Addr × Nat
/-- What is known of an answer: which value it is, by where it lies; what is true then. cst: 1 nothing hangs on where, 2 it is left out. -/
structure Kw where
  val : Wt → Value
  ok : Wt → World → Prop
  gr : ∀ x w w', ok x w → Gr w w' → ok x w'
  cst : Nat
  hc : cst ≠ 0 → ∀ y w, ok y w
  hs : cst = 2 → ∀ y, val y = undef
def Kw.c (v : Value) : Kw := ⟨fun _ => v, fun _ _ => True, fun _ _ _ _ _ => trivial, 1, fun _ _ _ => trivial, fun h => absurd h (by decide)⟩
def Kw.u : Kw := ⟨fun _ => undef, fun _ _ => True, fun _ _ _ _ _ => trivial, 2, fun _ _ _ => trivial, fun _ _ => rfl⟩
def Kw.n (x : Nat) : Kw := ⟨fun y => .slice (y 0).1 (dl x) (y 0).2, fun y w => Sl w (y 0).1 x, fun _ _ _ h g => h.gr g, 0, fun h => absurd rfl h, fun h => absurd h (by decide)⟩
def Kw.nb (x : Nat) (f : Bool) : Kw := ⟨fun y => .tuple #[.slice (y 0).1 (dl x) (y 0).2, .bool f], fun y w => Sl w (y 0).1 x, fun _ _ _ h g => h.gr g, 0, fun h => absurd rfl h, fun h => absurd h (by decide)⟩
def Kw.pt (x z : Nat) (f : Bool) : Kw := ⟨fun y => .agg (ptA (y 0).1 x (y 0).2 (y 1).1 z (y 1).2 f), fun y w => Sl w (y 0).1 x ∧ Sl w (y 1).1 z, fun _ _ _ h g => ⟨h.1.gr g, h.2.gr g⟩, 0, fun h => absurd rfl h, fun h => absurd h (by decide)⟩
def Kw.v (N : Nat) (c : Array Value) : Kw := ⟨fun y => .pointer (some ⟨(y 0).2, 0, none⟩), fun y w => N ≤ (y 0).2 ∧ Vr w (y 0).2 c, fun _ _ _ h g => ⟨h.1, h.2.gr g⟩, 0, fun h => absurd rfl h, fun h => absurd h (by decide)⟩
abbrev pv (b o : Nat) : Value := .pointer (some ⟨b, o, none⟩)
def Kw.kz (k : Kw) : Kz := ⟨fun u w => ∃ y, u = k.val y ∧ k.ok y w, fun _ _ _ ⟨y, e, h⟩ g => ⟨y, e, k.gr _ _ _ h g⟩⟩
def kW (kp : List Kw) (i : Nat) : Kw := kp.getD i .u
def wvals (kp : List Kw) (x : Nat → Wt) (j : Nat) : Value := (kW kp j).val (x j)
/-- The frame behind the region. -/
def FW (l : List Oper) (kp : List Kw) (a0 : Act) (x : Nat → Wt) : Act := putFrom (wvals kp x) 0 l a0
def opW (l : List Oper) (i : Nat) : Oper := (l[i]?).getD ⟨none, .move (.const undef), 0, "", #[], none⟩
/-- Operation i waits for j. -/
def wts (l : List Oper) (i j : Nat) : Bool := (opW l i).after.toList.any fun e => e.on == j && Region.binds .any e
def rdyO (l : List Oper) (i : Nat) (o : Oper) : Bool :=
  (match o.op with | .select _ _ => false | _ => true) &&
  (o.op.operands.all fun y => match y with | .tmp s => (match own l.toArray s with | some j => wts l i j | none => true) | _ => true) &&
  (match o.guard with | some (g, _) => wts l i g | none => true)
def others (ex : List Nat) (q : Nat) : List Nat := (List.range q).filter fun i => !ex.contains i
def chkW (l : List Oper) (kp : List Kw) (ex : List Nat) (q : Nat) : Bool :=
  uniqG l.toArray && ((List.range q).all fun i => rdyO l i (opW l i)) && kp.length == q && (others ex q).all fun i => (kW kp i).cst != 0
def wnt (l : List Oper) (i : Nat) (a : Act) : Bool := Region.wanted (opW l i) (yielded l.toArray a.tmps)
def RtW (k : Kw) (w : World) (e : Ending) (w' : World) : Prop := ∃ y, e = .returned (k.val y) ∧ k.ok y w' ∧ Gr w w'
def StW (P : Program) (k : Kw) (a : Act) (o : Oper) (v : World) : Prop :=
  (∃ y w', (execOp a.eval o).run P v = .ok (.value (k.val y)) w' ∧ Gr v w' ∧ k.ok y w') ∨ ∃ f args, (execOp a.eval o).run P v = .ok (.enter f args) v ∧ Calls P f args v (RtW k v)
/-- What is to be shown of operation i. -/
def ObW (P : Program) (l : List Oper) (kp : List Kw) (a0 : Act) (W : World) (i : Nat) : Prop :=
  ∀ (x : Nat → Wt) (v : World), Gr W v → (∀ j, wts l i j = true → (kW kp j).ok (x j) v) → wnt l i (FW l kp a0 x) = true ∧ StW P (kW kp i) (FW l kp a0 x) (opW l i) v
def ObsW (P : Program) (l : List Oper) (kp : List Kw) (a0 : Act) (W : World) : List Nat → Prop
  | [] => True
  | i :: r => ObW P l kp a0 W i ∧ ObsW P l kp a0 W r
theorem ObsW.nil {P : Program} {l : List Oper} {kp : List Kw} {a0 : Act} {W : World} : ObsW P l kp a0 W [] := trivial
theorem ObsW.cons {P : Program} {l : List Oper} {kp : List Kw} {a0 : Act} {W : World} {i : Nat} {r : List Nat} (h : ObW P l kp a0 W i) (t : ObsW P l kp a0 W r) : ObsW P l kp a0 W (i :: r) := ⟨h, t⟩
theorem ObsW.at {P : Program} {l : List Oper} {kp : List Kw} {a0 : Act} {W : World} : ∀ {ex : List Nat}, ObsW P l kp a0 W ex → ∀ i, i ∈ ex → ObW P l kp a0 W i
  | [], _, _, h => by cases h
  | e :: r, ho, i, h => by
    rcases List.mem_cons.1 h with rfl | h
    · exact ho.1
    · exact ObsW.at ho.2 i h
def resW (P : Program) (l : List Oper) (kp : List Kw) (a0 : Act) (x : Nat → Wt) (v : World) (i : Nat) : Option (Result Next) :=
  cond (wnt l i (FW l kp a0 x)) (some ((execOp (FW l kp a0 x).eval (opW l i)).run P v)) none
def expW (kp : List Kw) (x : Nat → Wt) (v : World) (i : Nat) : Option (Result Next) := cond ((kW kp i).cst == 2) none (some (.ok (.value (wvals kp x i)) v))
/-- The plain operations, run; and what they are to answer. -/
def pureL (P : Program) (l : List Oper) (kp : List Kw) (a0 : Act) (ex : List Nat) (q : Nat) (x : Nat → Wt) (v : World) : List (Option (Result Next)) := (others ex q).map (resW P l kp a0 x v)
def pureR (kp : List Kw) (ex : List Nat) (q : Nat) (x : Nat → Wt) (v : World) : List (Option (Result Next)) := (others ex q).map (expW kp x v)
theorem opW_is {l : List Oper} {i : Nat} {o : Oper} (h : l.toArray[i]? = some o) : opW l i = o := by
  have : l[i]? = some o := by simpa using h
  rw [opW, this]; rfl
theorem eval_F {l : List Oper} {a0 a : Act} {vals vals' : Nat → Value} {listed : Array Bool} (hu : uniqG l.toArray = true) (hF : Frm l.toArray a0 vals listed a) (s : Nat)
    (hy : ∀ j, own l.toArray s = some j → listed.getD j false = true ∧ vals j = vals' j) : a.tmps[s]? = (putFrom vals' 0 l a0).tmps[s]? := by
  have hE := putFrom_frm (a0 := a0) (vals := vals') hu l 0 a0 (fun j => by simp) (Frm.start_up l a0 vals')
  by_cases hs : s < a0.tmps.size
  · rw [hF.2.2 s hs, hE.2.2 s hs]
    cases ho : own l.toArray s with
    | none => rfl
    | some j =>
      obtain ⟨h1, h2⟩ := hy j ho
      obtain ⟨o, h3, -⟩ := own_spec ho
      have hj : j < l.length := by simpa using (Array.getElem?_eq_some_iff.1 h3).1
      simp only [h1, if_true, upTo_getD]
      rw [if_pos (by simpa using hj), h2]
  · rw [Array.getElem?_eq_none (by rw [hF.2.1]; omega), Array.getElem?_eq_none (by rw [hE.2.1]; omega)]
theorem stepW {P : Program} {l : List Oper} {kp : List Kw} {ex : List Nat} {q : Nat} {a0 : Act} {W : World} {Q : Exit → Act → World → Prop} (hk : chkW l kp ex q = true) (hp : pureL P l kp a0 ex q = pureR kp ex q) (ho : ObsW P l kp a0 W ex)
    (listed : Array Bool) (vals : Nat → Value) (a : Act) (v : World) (i : Nat) (o : Oper) (hG : Gr W v) (hK : ∀ j, listed.getD j false = true → kz (kp.map Kw.kz) j (vals j) v) (hF : Frm l.toArray a0 vals listed a) (hi : l.toArray[i]? = some o) (hq : i < q)
    (hd : ∀ e ∈ o.after, Region.binds .any e = true → listed.getD e.on false = true) :
    (Region.wanted o (yielded l.toArray a.tmps) = true ∧ o.wp P a v (fun a' w' => ∃ u, a' = a.put o.dst u ∧ Gr v w' ∧ kz (kp.map Kw.kz) i u w') Q) ∨ (Region.wanted o (yielded l.toArray a.tmps) = false ∧ kz (kp.map Kw.kz) i undef v) := by
  simp only [chkW, Bool.and_eq_true, beq_iff_eq] at hk
  obtain ⟨⟨⟨hu, hr⟩, hlen⟩, hcs⟩ := hk
  have hkz : ∀ j u w, j < q → (kz (kp.map Kw.kz) j u w ↔ ∃ y, u = (kW kp j).val y ∧ (kW kp j).ok y w) := fun j u w hj => by
    have e : kp[j]? = some (kW kp j) := by rw [kW, List.getD_eq_getElem?_getD, List.getElem?_eq_getElem (by omega)]; rfl
    unfold kz
    rw [List.getElem?_map, e]
    exact Iff.rfl
  have hoi := opW_is hi
  have hx0 : ∀ j, ∃ y : Wt, wts l i j = true → vals j = (kW kp j).val y ∧ (kW kp j).ok y v := fun j => by
    by_cases h : wts l i j = true
    · have hl : listed.getD j false = true := on_of hd j (by rw [wts, hoi, Array.any_toList] at h; exact h)
      have hj : j < i := by
        obtain ⟨e, he, hb⟩ := Array.any_eq_true.1 (show (o.after.any fun e => e.on == j && Region.binds .any e) = true by rw [wts, hoi, Array.any_toList] at h; exact h)
        simp only [Bool.and_eq_true, beq_iff_eq] at hb
        rw [← hb.1]
        exact (uniq_at hu hi).2 _ (Array.getElem_mem he) hb.2
      obtain ⟨y, h1, h2⟩ := (hkz j _ _ (by omega)).1 (hK j hl)
      exact ⟨y, fun _ => ⟨h1, h2⟩⟩
    · exact ⟨fun _ => (none, 0), fun h' => absurd h' h⟩
  obtain ⟨x, hx⟩ := Classical.axiomOfChoice hx0
  have hro := List.all_eq_true.1 hr i (by simpa using hq)
  rw [hoi] at hro
  simp only [rdyO, Bool.and_eq_true] at hro
  obtain ⟨⟨hsel, hops⟩, hgd⟩ := hro
  have hslot : ∀ s, (match own l.toArray s with | some j => wts l i j | none => true) = true → a.tmps[s]? = (FW l kp a0 x).tmps[s]? := fun s hs => by
    refine eval_F hu hF s fun j hj => ?_
    have hs' : wts l i j = true := by rw [hj] at hs; exact hs
    exact ⟨on_of hd j (by have h := hs'; rw [wts, hoi, Array.any_toList] at h; exact h), (hx j hs').1⟩
  have hev : execOp a.eval o = execOp (FW l kp a0 x).eval o := by
    refine execOp_congr o (fun cs b h => by rw [h] at hsel; cases hsel) fun y hy => ?_
    have hy' := Array.all_eq_true_iff_forall_mem.1 hops y hy
    cases y with
    | tmp s =>
      have := hslot s hy'
      simp only [Act.eval, Array.getD_eq_getD_getElem?, this]
    | _ => rfl
  have hwn : Region.wanted o (yielded l.toArray a.tmps) = wnt l i (FW l kp a0 x) := by
    rw [wnt, hoi]
    unfold Region.wanted
    cases hg : o.guard with
    | none => rfl
    | some gw =>
      obtain ⟨g, b⟩ := gw
      rw [hg] at hgd
      simp only
      have hy : yielded l.toArray a.tmps g = yielded l.toArray (FW l kp a0 x).tmps g := by
        unfold yielded
        cases ht : (l.toArray[g]?).bind (·.dst) with
        | none => rfl
        | some t =>
          have : own l.toArray t = some g := by
            obtain ⟨og, h1, h2⟩ := Option.bind_eq_some_iff.1 ht
            exact (uniq_at hu h1).1 t h2
          simp only [Option.bind_some]
          rw [hslot t (by rw [this]; exact hgd)]
      rw [hy]
  rw [hwn]
  by_cases hm : i ∈ ex
  · obtain ⟨h1, h2⟩ := ho.at i hm x v hG fun j hj => (hx j hj).2
    refine Or.inl ⟨h1, ?_⟩
    rw [hoi] at h2
    obtain ⟨y, w', hrun, hg, hok⟩ | ⟨f, args, hrun, hc⟩ := h2
    · exact wp_val _ (by rw [hev]; exact hrun) ⟨_, rfl, hg, (hkz i _ _ hq).2 ⟨y, rfl, hok⟩⟩
    · refine wp_retz (k := (kW kp i).kz) (by rw [hev]; exact hrun) (hc.mono fun e w' ⟨y, he, hok, hg⟩ => ⟨_, he, ⟨y, rfl, hok⟩, hg⟩) fun u w' hu' hg => ⟨u, rfl, hg, (hkz i _ _ hq).2 hu'⟩
  · have hmem : i ∈ others ex q := List.mem_filter.2 ⟨by simpa using hq, by simpa using hm⟩
    have hcst := List.all_eq_true.1 hcs i hmem
    simp only [bne_iff_ne, ne_eq] at hcst
    have hpi : resW P l kp a0 x v i = expW kp x v i := List.map_inj_left.1 (congrFun (congrFun hp x) v) i hmem
    simp only [resW, expW, hoi] at hpi
    cases hw : wnt l i (FW l kp a0 x) with
    | true =>
      rw [hw] at hpi
      refine Or.inl ⟨rfl, ?_⟩
      cases h2 : (kW kp i).cst == 2 with
      | true => rw [h2] at hpi; cases hpi
      | false =>
        rw [h2] at hpi
        exact wp_val _ (by rw [hev]; exact Option.some.inj hpi) ⟨_, rfl, Gr.refl _, (hkz i _ _ hq).2 ⟨x i, rfl, (kW kp i).hc hcst _ _⟩⟩
    | false =>
      rw [hw] at hpi
      refine Or.inr ⟨rfl, ?_⟩
      cases h2 : (kW kp i).cst == 2 with
      | true => exact (hkz i _ _ hq).2 ⟨x i, ((kW kp i).hs (by simpa using h2) _).symm, (kW kp i).hc hcst _ _⟩
      | false => rw [h2] at hpi; cases hpi
theorem finW {kp : List Kw} {q : Nat} {vals : Nat → Value} {v : World} (hlen : kp.length = q) (hK : ∀ j, j < q → kz (kp.map Kw.kz) j (vals j) v) : ∃ x : Nat → Wt, (∀ j, j < q → vals j = wvals kp x j) ∧ ∀ j, (kW kp j).ok (x j) v := by
  have h0 : ∀ j, ∃ y : Wt, (j < q → vals j = (kW kp j).val y) ∧ (kW kp j).ok y v := fun j => by
    by_cases hj : j < q
    · have h := hK j hj
      have e : kp[j]? = some (kW kp j) := by rw [kW, List.getD_eq_getElem?_getD, List.getElem?_eq_getElem (by omega)]; rfl
      unfold kz at h
      rw [List.getElem?_map, e] at h
      obtain ⟨y, h1, h2⟩ := h
      exact ⟨y, fun _ => h1, h2⟩
    · refine ⟨fun _ => (none, 0), fun h => absurd h hj, ?_⟩
      have e : kW kp j = .u := by rw [kW, List.getD_eq_getElem?_getD, List.getElem?_eq_none (by omega)]; rfl
      rw [e]; trivial
  obtain ⟨x, hx⟩ := Classical.axiomOfChoice h0
  exact ⟨x, fun j hj => (hx j).1 hj, fun j => (hx j).2⟩
theorem chk_u {l : List Oper} {kp : List Kw} {ex : List Nat} {q : Nat} (hk : chkW l kp ex q = true) : uniqG l.toArray = true ∧ kp.length = q := by
  simp only [chkW, Bool.and_eq_true, beq_iff_eq] at hk
  exact ⟨hk.1.1.1, hk.1.2⟩
section
variable {P : Program} {id : Nat} {l : List Oper} {Q : Exit → Act → World → Prop} {a0 : Act} {W : World}
theorem wp_w (kp : List Kw) (ex : List Nat) (ho : ObsW P l kp a0 W ex)
    (hfin : ∀ x v, Gr W v → (∀ j, (kW kp j).ok (x j) v) → Q .normal (FW l kp a0 x) v) (hm : P.follows .mixedOrders = true := by kernel_rfl) (hk : chkW l kp ex l.length = true := by kernel_rfl) (hp : pureL P l kp a0 ex l.length = pureR kp ex l.length := by kernel_rfl) : (Code.region id l.toArray true).wp P Q a0 W := by
  obtain ⟨hu, hlen⟩ := chk_u hk
  refine wp_region_q hm hu (kp.map Kw.kz) (fun listed vals a v i o h1 h2 h3 h4 h5 => stepW hk hp ho listed vals a v i o h1 h2 h3 h4 (by simpa using (Array.getElem?_eq_some_iff.1 h4).1) h5) fun vals v hG hK => ?_
  obtain ⟨x, h1, h2⟩ := finW hlen (fun j hj => hK j (by simpa using hj))
  rw [putFrom_congr (vals' := wvals kp x) l 0 a0 fun j o hj _ => by rw [Nat.zero_add]; exact h1 j (List.getElem?_eq_some_iff.1 hj).1]
  exact hfin x v hG h2
theorem wp_wS (kp : List Kw) (ex : List Nat) (ho : ObsW P l kp a0 W ex)
    (hfin : ∀ x v, Gr W v → (∀ j, (kW kp j).ok (x j) v) → Q .normal (FW l kp a0 x) v) (hk : chkW l kp ex l.length = true := by kernel_rfl) (hp : pureL P l kp a0 ex l.length = pureR kp ex l.length := by kernel_rfl) : (Code.region id l.toArray false).wp P Q a0 W := by
  obtain ⟨hu, hlen⟩ := chk_u hk
  refine wp_region_qS hu (kp.map Kw.kz) (fun listed vals a v i o h1 h2 h3 h4 h5 => stepW hk hp ho listed vals a v i o h1 h2 h3 h4 (by simpa using (Array.getElem?_eq_some_iff.1 h4).1) h5) fun vals v hG hK => ?_
  obtain ⟨x, h1, h2⟩ := finW hlen (fun j hj => hK j (by simpa using hj))
  rw [putFrom_congr (vals' := wvals kp x) l 0 a0 fun j o hj _ => by rw [Nat.zero_add]; exact h1 j (List.getElem?_eq_some_iff.1 hj).1]
  exact hfin x v hG h2
/-- The last operation is a store that waits for all else. -/
def TlW (P : Program) (l : List Oper) (kp : List Kw) (a0 : Act) (W : World) (Q : Exit → Act → World → Prop) (n : Nat) : Prop :=
  ∀ x v, Gr W v → (∀ j, (kW kp j).ok (x j) v) → ∃ w', (execOp (FW l kp a0 x).eval (opW l n)).run P v = .ok .skip w' ∧ Q .normal (FW l kp a0 x) w'
theorem lastW {kp : List Kw} {ex : List Nat} {n : Nat} (hk : chkW l kp ex n = true) (hsd : (((l[n]?).map fun o => o.dst.isNone && o.guard.isNone).getD false) = true) (hl : l.length = n + 1) (hr : rdyO l n (opW l n) = true) (hall : ∀ j, j < n → wts l n j = true ∨ True) (ht : TlW P l kp a0 W Q n)
    (listed : Array Bool) (vals : Nat → Value) (a : Act) (v : World) (o : Oper) (hG : Gr W v) (hK : ∀ j, j < n → kz (kp.map Kw.kz) j (vals j) v) (hF : Frm l.toArray a0 vals listed a) (hd : ∀ j, j < n → listed.getD j false = true) (hi : l.toArray[n]? = some o) :
    o.wp P a v (fun a' w' => a' = a.put o.dst undef ∧ Q .normal (putFrom vals 0 l a0) w') Q := by
  obtain ⟨hu, hlen⟩ := chk_u hk
  obtain ⟨x, h1, h2⟩ := finW hlen hK
  have hoi := opW_is hi
  rw [hoi] at hr
  simp only [rdyO, Bool.and_eq_true] at hr
  obtain ⟨⟨hsel, hops⟩, -⟩ := hr
  have hi' : l[n]? = some o := by simpa using hi
  have hdn : o.dst = none := by
    rw [hi'] at hsd
    simp only [Option.map_some, Option.getD_some, Bool.and_eq_true, Option.isNone_iff_eq_none] at hsd
    exact hsd.1
  have hev : execOp a.eval o = execOp (FW l kp a0 x).eval o := by
    refine execOp_congr o (fun cs b h => by rw [h] at hsel; cases hsel) fun y hy => ?_
    have hy' := Array.all_eq_true_iff_forall_mem.1 hops y hy
    cases y with
    | tmp s =>
      have : a.tmps[s]? = (FW l kp a0 x).tmps[s]? := by
        refine eval_F hu hF s fun j hj => ?_
        obtain ⟨oj, hoj, hdj⟩ := own_spec hj
        have hjl : j < l.length := by simpa using (Array.getElem?_eq_some_iff.1 hoj).1
        have hjn : j < n := by
          rcases Nat.lt_or_ge j n with h | h
          · exact h
          · exfalso
            obtain rfl : j = n := by omega
            rw [hi] at hoj; cases hoj
            rw [hdn] at hdj; cases hdj
        exact ⟨hd j hjn, h1 j hjn⟩
      simp only [Act.eval, Array.getD_eq_getD_getElem?, this]
    | _ => rfl
  obtain ⟨w', hrun, hQ⟩ := ht x v hG h2
  rw [hoi] at hrun
  refine wp_skip (by rw [hev]; exact hrun) ⟨rfl, ?_⟩
  rw [putFrom_congr (vals' := wvals kp x) l 0 a0 fun j oj hj hdj => ?_]
  · exact hQ
  · rw [Nat.zero_add]
    have hjl : j < l.length := (List.getElem?_eq_some_iff.1 hj).1
    refine h1 j ?_
    rcases Nat.lt_or_ge j n with h | h
    · exact h
    · exfalso
      obtain rfl : j = n := by omega
      rw [hi'] at hj; cases hj
      rw [hdn] at hdj; cases hdj
theorem wp_wT (n : Nat) (kp : List Kw) (ex : List Nat) (ho : ObsW P l kp a0 W ex) (ht : TlW P l kp a0 W Q n) (hm : P.follows .mixedOrders = true := by kernel_rfl) (hs : sinkZ l n = true := by kernel_rfl) (hk : (chkW l kp ex n && rdyO l n (opW l n)) = true := by kernel_rfl) (hp : pureL P l kp a0 ex n = pureR kp ex n := by kernel_rfl) :
    (Code.region id l.toArray true).wp P Q a0 W := by
  simp only [Bool.and_eq_true] at hk
  obtain ⟨hk, hr⟩ := hk
  obtain ⟨hu, hlen⟩ := chk_u hk
  have hs' := hs
  simp only [sinkZ, Bool.and_eq_true, decide_eq_true_eq] at hs'
  exact wp_region_qT hm hu n hs (kp.map Kw.kz) (fun listed vals a v i o h1 h2 h3 h4 h5 h6 => stepW hk hp ho listed vals a v i o h1 h2 h3 h4 h5 h6) (lastW hk hs'.1.2 hs'.1.1 hr (fun _ _ => .inr trivial) ht)
theorem wp_wTS (n : Nat) (kp : List Kw) (ex : List Nat) (ho : ObsW P l kp a0 W ex) (ht : TlW P l kp a0 W Q n) (hs : (decide (l.length = n + 1) && (((l[n]?).map fun o => o.dst.isNone && o.guard.isNone).getD false)) = true := by kernel_rfl) (hk : (chkW l kp ex n && rdyO l n (opW l n)) = true := by kernel_rfl) (hp : pureL P l kp a0 ex n = pureR kp ex n := by kernel_rfl) :
    (Code.region id l.toArray false).wp P Q a0 W := by
  simp only [Bool.and_eq_true] at hk
  obtain ⟨hk, hr⟩ := hk
  obtain ⟨hu, hlen⟩ := chk_u hk
  have hs' := hs
  simp only [Bool.and_eq_true, decide_eq_true_eq] at hs'
  exact wp_region_qTS hu n hs (kp.map Kw.kz) (fun listed vals a v i o h1 h2 h3 h4 h5 h6 => stepW hk hp ho listed vals a v i o h1 h2 h3 h4 h5 h6) (lastW hk hs'.2 hs'.1 hr (fun _ _ => .inr trivial) ht)
/-- A call. -/
theorem ObW.k {kp : List Kw} {i : Nat} {f : FuncId} (args : (Nat → Wt) → Array Value) (hc : ∀ x v, Gr W v → (∀ j, wts l i j = true → (kW kp j).ok (x j) v) → Calls P f (args x) v (RtW (kW kp i) v))
    (hr : (fun x v => resW P l kp a0 x v i) = fun x v => some (.ok (.enter f (args x)) v) := by kernel_rfl) : ObW P l kp a0 W i := fun x v hg h => by
  have := congrFun (congrFun hr x) v
  simp only [resW] at this
  cases hw : wnt l i (FW l kp a0 x) with
  | false => rw [hw] at this; cases this
  | true =>
    rw [hw] at this
    exact ⟨rfl, .inr ⟨f, args x, Option.some.inj this, hc x v hg h⟩⟩
/-- A plain operation whose answer hangs on where another lies. -/
theorem ObW.p {kp : List Kw} {i : Nat} (y : (Nat → Wt) → Wt) (hc : ∀ x v, Gr W v → (∀ j, wts l i j = true → (kW kp j).ok (x j) v) → (kW kp i).ok (y x) v)
    (hr : (fun x v => resW P l kp a0 x v i) = fun x v => some (.ok (.value ((kW kp i).val (y x))) v) := by kernel_rfl) : ObW P l kp a0 W i := fun x v hg h => by
  have := congrFun (congrFun hr x) v
  simp only [resW] at this
  cases hw : wnt l i (FW l kp a0 x) with
  | false => rw [hw] at this; cases this
  | true =>
    rw [hw] at this
    exact ⟨rfl, .inl ⟨y x, v, Option.some.inj this, Gr.refl _, hc x v hg h⟩⟩
/-- An operation that hands on where operation j's answer lies. -/
theorem ObW.m {kp : List Kw} {i : Nat} (j : Nat) (hc : ∀ y v, (kW kp j).ok y v → (kW kp i).ok y v := by first | exact fun _ _ h => h | exact fun _ _ _ => trivial) (hw : wts l i j = true := by rfl)
    (hr : (fun x v => resW P l kp a0 x v i) = fun x v => some (.ok (.value ((kW kp i).val (x j))) v) := by kernel_rfl) : ObW P l kp a0 W i := ObW.p (fun x => x j) (fun _ _ _ h => hc _ _ (h j hw)) hr
/-- Whatever else: e is what is run. -/
theorem ObW.e {kp : List Kw} {i : Nat} (e : (Nat → Wt) → Sem Next) (hr : (fun x => cond (wnt l i (FW l kp a0 x)) (some (execOp (FW l kp a0 x).eval (opW l i))) none) = fun x => some (e x))
    (hc : ∀ x v, Gr W v → (∀ j, wts l i j = true → (kW kp j).ok (x j) v) → ∃ y w', (e x).run P v = .ok (.value ((kW kp i).val y)) w' ∧ Gr v w' ∧ (kW kp i).ok y w') : ObW P l kp a0 W i := fun x v hg h => by
  have := congrFun hr x
  cases hw : wnt l i (FW l kp a0 x) with
  | false => rw [hw] at this; cases this
  | true =>
    rw [hw] at this
    have e1 : execOp (FW l kp a0 x).eval (opW l i) = e x := Option.some.inj this
    exact ⟨rfl, .inl (by rw [e1]; exact hc x v hg h)⟩
/-- An operation on known values. -/
def exI (op : Op) : Sem Next := execOp (Act.eval ⟨#[], []⟩) ⟨none, op, 0, "", #[], none⟩
/-- What operation i runs, if it is wanted. -/
def runW (l : List Oper) (kp : List Kw) (a0 : Act) (i : Nat) (x : Nat → Wt) : Option (Sem Next) := cond (wnt l i (FW l kp a0 x)) (some (execOp (FW l kp a0 x).eval (opW l i))) none
/-- An answer that is known, by a fact. -/
theorem ObW.s {kp : List Kw} {i : Nat} {u : Value} (op : Op) (hk : kW kp i = .c u) (hc : ∀ v, Gr W v → (exI op).run P v = .ok (.value u) v) (hr : runW l kp a0 i = fun _ => some (exI op) := by kernel_rfl) : ObW P l kp a0 W i :=
  ObW.e (fun _ => exI op) hr fun _ v hg _ => ⟨fun _ => (none, 0), v, by rw [hk]; exact hc v hg, Gr.refl _, by rw [hk]; trivial⟩
/-- A cell of a variable; all of it, or a part. -/
theorem ObW.o {kp : List Kw} {i b : Nat} {c : Array Value} {u : Value} (t : TypeId) (off : Nat) (hb : Vr W b c) (hk : kW kp i = .c u) (hu : c[off]? = some u) (hc : ∀ v : World, v.cell? ⟨b, off, none⟩ = some u → (exI (.load t (.const (.pointer (some ⟨b, off, none⟩))))).run P v = .ok (.value u) v := by intro vv K; simp [go_sem, exI, K])
    (hr : runW l kp a0 i = fun _ => some (exI (.load t (.const (.pointer (some ⟨b, off, none⟩))))) := by kernel_rfl) : ObW P l kp a0 W i :=
  ObW.s _ hk (fun v hg => hc v (by rw [cell_blk, (hb.gr hg).h]; exact hu)) hr
theorem ObW.g {kp : List Kw} {i b : Nat} {c : Array Value} {u : Value} (t : TypeId) (off : Nat) (hb : Vr W b c) (hk : kW kp i = .c u) (hc : ∀ v : World, blk v b = c → (exI (.load t (.const (.pointer (some ⟨b, off, none⟩))))).run P v = .ok (.value u) v := by intro vv H; simp [go_sem, exI, H])
    (hr : runW l kp a0 i = fun _ => some (exI (.load t (.const (.pointer (some ⟨b, off, none⟩))))) := by kernel_rfl) : ObW P l kp a0 W i :=
  ObW.s _ hk (fun v hg => hc v (hb.gr hg).h) hr
/-- A new variable. -/
theorem ObW.a {kp : List Kw} {i : Nat} {z : Array Value} (t : TypeId) (hk : kW kp i = .v W.heap.size z)
    (hc : ∀ v : World, (exI (.alloc t)).run P v = .ok (.value (.pointer (some ⟨v.heap.size, 0, none⟩))) (v.alloc (.cells z t)) := by intro vv; simp [go_sem, exI]) (hr : runW l kp a0 i = fun _ => some (exI (.alloc t)) := by kernel_rfl) : ObW P l kp a0 W i :=
  ObW.e (fun _ => exI (.alloc t)) hr fun _ v hg _ => ⟨fun _ => (none, v.heap.size), _, by rw [hk]; exact hc v, (Gr.refl _).alloc _, by rw [hk]; exact ⟨hg.below.size, Vr.new _ _ _⟩⟩
/-- A new row of digits. -/
theorem ObW.b {kp : List Kw} {i c n : Nat} {t : TypeId} {z : Array Value} (op : Op) (hk : kW kp i = .n c) (hn : dl c = n)
    (hc : ∀ v : World, (exI op).run P v = .ok (.value (.slice (some ⟨v.heap.size, 0, none⟩) n n)) (v.alloc (.cells z t))) (hs : ∀ v : World, Sl (v.alloc (.cells z t)) (some ⟨v.heap.size, 0, none⟩) c) (hr : runW l kp a0 i = fun _ => some (exI op) := by kernel_rfl) : ObW P l kp a0 W i :=
  ObW.e (fun _ => exI op) hr fun _ v hg _ => ⟨fun _ => (some ⟨v.heap.size, 0, none⟩, n), _, by rw [hk]; subst hn; exact hc v, (Gr.refl _).alloc _, by rw [hk]; exact hs v⟩
/-- The last operation, a store. -/
theorem TlW.s {kp : List Kw} {n : Nat} (t : TypeId) (p u : (Nat → Wt) → Value) (hf : ∀ x v, Gr W v → (∀ j, (kW kp j).ok (x j) v) → ∃ w', (exI (.store t (.const (p x)) (.const (u x)))).run P v = .ok .skip w' ∧ Q .normal (FW l kp a0 x) w')
    (hr : (fun x => execOp (FW l kp a0 x).eval (opW l n)) = fun x => exI (.store t (.const (p x)) (.const (u x))) := by kernel_rfl) : TlW P l kp a0 W Q n := fun x v hg h => by
  obtain ⟨w', h1, h2⟩ := hf x v hg h
  exact ⟨w', by rw [show execOp (FW l kp a0 x).eval (opW l n) = _ from congrFun hr x]; exact h1, h2⟩
end
theorem RtW.c {P : Program} {f : FuncId} {args : Array Value} {w : World} {v : Value} (h : Calls P f args w fun e w' => e = .returned v ∧ Gr w w') : Calls P f args w (RtW (.c v) w) := h.mono fun _ _ ⟨e, g⟩ => ⟨fun _ => (none, 0), e, trivial, g⟩
theorem RtW.same {P : Program} {f : FuncId} {args : Array Value} {w : World} {v : Value} (h : Calls P f args w fun e w' => e = .returned v ∧ w' = w) : Calls P f args w (RtW (.c v) w) := h.mono fun _ _ ⟨e, g⟩ => ⟨fun _ => (none, 0), e, trivial, by rw [g]; exact Gr.refl _⟩
theorem RtW.n {P : Program} {f : FuncId} {args : Array Value} {w : World} {x : Nat} (h : Calls P f args w (Nm x w)) : Calls P f args w (RtW (.n x) w) := h.mono fun _ _ ⟨p, n, e, s, g⟩ => ⟨fun _ => (p, n), e, s, g⟩
theorem RtW.of_n {P : Program} {f : FuncId} {args : Array Value} {w : World} {x : Nat} (h : Calls P f args w (Rt (.n x) w)) : Calls P f args w (RtW (.n x) w) := h.mono fun _ _ ⟨_, e, ⟨p, n, e2, s⟩, g⟩ => ⟨fun _ => (p, n), by rw [e, e2]; rfl, s, g⟩
theorem RtW.of_c {P : Program} {f : FuncId} {args : Array Value} {w : World} {v : Value} (h : Calls P f args w (Rt (.c v) w)) : Calls P f args w (RtW (.c v) w) := h.mono fun _ _ ⟨_, e, e2, g⟩ => ⟨fun _ => (none, 0), (show _ = v from e2) ▸ e, trivial, g⟩
theorem RtW.of_nb {P : Program} {f : FuncId} {args : Array Value} {w : World} {x : Nat} {b : Bool} (h : Calls P f args w (Rt (.nb x b) w)) : Calls P f args w (RtW (.nb x b) w) := h.mono fun _ _ ⟨_, e, ⟨p, n, e2, s⟩, g⟩ => ⟨fun _ => (p, n), by rw [e, e2]; rfl, s, g⟩
theorem RtW.of_pt {P : Program} {f : FuncId} {args : Array Value} {w : World} {x z : Nat} {b : Bool} (h : Calls P f args w (Rt (.pt x z b) w)) : Calls P f args w (RtW (.pt x z b) w) := h.mono fun _ _ ⟨_, e, ⟨p, n, q, m, e2, s, t⟩, g⟩ => ⟨fun i => if i = 0 then (p, n) else (q, m), by rw [e, e2]; rfl, ⟨s, t⟩, g⟩

end Go.Proofs.YtlbkhhihkomahaaGreat
namespace Go.Proofs.YtlbkhhihkomahaaGreat
open Go.RowKit
attribute [local go_sem ↓] loadNat_is loadArr_is loadWide_is loadArrW_is storeNat_is storeWide_is
attribute [local go_sem] loadNat loadArr loadWide loadArrW storeNat storeWide idxArr fold9 fold18 nw_size nw_elem pre_self pre_1 pre_2 pre_3 pre_4 pre_5 pre_6 pre_7 pre_8 pre_9 pre_10 pre_11 pre_12 pre_13 pre_14 pre_15 pre_16 pre_17 pre_18 pre_19 pre_20 pre_21 pre_22 pre_23 pre_24 pre_25 pre_26 pre_27 pre_28 pre_29 pre_30 pre_31 pre_32 pre_33 pre_34 pre_35 pre_36 pre_37 pre_38 pre_39 pre_40 gro_size gro_drew gro_drewN drew_gro drewN_gro gro_gro blk_gro frz_gro blk_drew frz_drew blk_drewN frz_drewN blk_alloc_at frz_alloc_at blk_alloc frz_alloc cell_gro frozen_gro cell_alloc_pre frozen_alloc_pre setCell_drewN alloc_drewN setBlk_drew setBlk_drewN setBlk_alloc_at setBlk_alloc setBlk_gro setCell_gro setCell_alloc_pre size_setBlk size_setCell
attribute [local go_sem] ppre_1 ppre_2 ppre_3
attribute [local go_sem ↓] zvCu_is storeCu_is buildCu_is buildPn_is
attribute [local go_sem] zvCu storeCu buildCu4 buildPn2 cu_size frz_setBlk blk_setBlk setBlk_setBlk
/-- The k words of a number, the highest first. -/
def wl (k X : Nat) : List Nat := (List.range k).map fun i => wd X (k - 1 - i)
/-- A new row of such words. -/
def Kw.w (k X : Nat) : Kw := ⟨fun y => .slice (some ⟨(y 0).2, 0, none⟩) k k, fun y w => blk w (y 0).2 = ws (wl k X) ∧ Pre ((y 0).2 + 1) w.heap.size, fun _ _ _ h g => ⟨(g.blk _ h.2).trans h.1, Nat.le_trans h.2 g.below.size⟩, 0, fun h => absurd rfl h, fun h => absurd h (by decide)⟩
def bsO (k X : Nat) : Op := .buildSlice 136 k ((List.range k).map fun i => (i, .const (.int .u64 ((wd X (k - 1 - i) : Nat) : Int)))).toArray
theorem bsO_run (k X : Nat) (h : k < 10) (v : World) : (exI (bsO k X)).run Tryz.prog v = .ok (.value (.slice (some ⟨v.heap.size, 0, none⟩) k k)) (v.alloc (.cells (ws (wl k X)) 22)) := by
  obtain rfl | rfl | rfl | rfl | rfl | rfl | rfl | rfl | rfl | rfl : k = 0 ∨ k = 1 ∨ k = 2 ∨ k = 3 ∨ k = 4 ∨ k = 5 ∨ k = 6 ∨ k = 7 ∨ k = 8 ∨ k = 9 := by omega
  all_goals kernel_rfl
theorem ObW.w {l : List Oper} {a0 : Act} {W : World} {kp : List Kw} {i : Nat} (k X : Nat) (hk : kW kp i = .w k X) (h : k < 10) (hr : runW l kp a0 i = fun _ => some (exI (bsO k X)) := by kernel_rfl) : ObW Tryz.prog l kp a0 W i :=
  ObW.e (fun _ => exI (bsO k X)) hr fun _ v hg _ => ⟨fun _ => (none, v.heap.size), _, by rw [hk]; exact bsO_run k X h v, (Gr.refl _).alloc _, by rw [hk]; exact ⟨blk_alloc_at _ _ _ _ _ rfl, by simp [Pre]⟩⟩
/-- number, of words that are written out. -/
theorem numN {k X b : Nat} {w : World} (h : (decide (k ≤ 9) && decide (numW (wl k X) = X)) = true) (hb : blk w b = ws (wl k X) ∧ Pre (b + 1) w.heap.size) :
    Calls Tryz.prog 103 #[.slice (some ⟨b, 0, none⟩) k k] w (Rt (.c (.agg (nw 9 X))) w) := by
  simp only [Bool.and_eq_true, decide_eq_true_eq] at h
  have := number_any (wl k X) k b (by simp [wl]) h.1 (fun x hx => by
    obtain ⟨i, -, rfl⟩ := List.mem_map.1 hx
    exact wd_lt _ _) w hb.1 hb.2
  rw [h.2] at this
  exact Rt.c this
theorem lessN (i : Nat) (h : (decide (3 ≤ pN i) && decide (pN i < M) && decide (pN i - 3 = aN i)) = true) (w : World) : Calls Tryz.prog 102 #[.agg (nw 9 (pN i))] w (Rt (.c (.agg (nw 9 (aN i)))) w) := by
  simp only [Bool.and_eq_true, decide_eq_true_eq] at h
  have := lessThree_any (pN i) h.1.1 h.1.2 w
  rw [h.2] at this
  exact Rt.c this
theorem smlN (c : Int) (X : Nat) (h : c.toNat = X) (hc : c ≤ 9223372036854775807) (w : World) : Calls Tryz.prog 104 #[.int .i64 c] w (Rt (.c (.agg (nw 9 X))) w) := h ▸ Rt.c (small_any c hc w)
set_option maxRecDepth 100000 in
set_option maxHeartbeats 1600000 in
theorem mk_1  (w : World) :
    Calls Tryz.prog 79 #[.agg (nw 9 (pN 1))] w fun e w' => e = .returned (.agg (cu 0 0 (aN 1) (bN 1) (oN 1) (xN 1) (yN 1) 0 0 false)) ∧ Gr w w' := by
  go_enter Tryz.func79, Tryz.ntmps79
  go_upto_region 1 with fail
  refine gen_w (fun v => Gr w v ∧ Vr v (w.heap.size) (nw 9 (pN 1)) ∧ Vr v (w.heap.size + 1) (cu 0 0 0 0 0 0 0 0 0 false)) ⟨(by repeat (first | exact Gr.refl _ | apply Gr.drewN | apply Gr.drew | apply Gr.alloc | apply Gr.gro)), ⟨by simp [go_sem], by simp [go_sem], by simp [go_sem]⟩, ⟨by simp [go_sem], by simp [go_sem], by simp [go_sem]⟩⟩ ?_
  rintro v0 ⟨G, c1, c2⟩
  refine wp_wTS 12 [.c (.agg (nw 9 (pN 1))), .c (.agg (nw 9 (aN 1))), .w 3 (bN 1), .c (.agg (nw 9 (bN 1))), .w 3 (oN 1), .c (.agg (nw 9 (oN 1))), .w 3 (xN 1), .c (.agg (nw 9 (xN 1))), .w 3 (yN 1), .c (.agg (nw 9 (yN 1))), .c (.agg (pnt (xN 1) (yN 1) false)), .c (.agg (cu 0 0 (aN 1) (bN 1) (oN 1) (xN 1) (yN 1) 0 0 false))] [0, 1, 2, 3, 4, 5, 6, 7, 8, 9] ?hs1 ?hf1
  case hs1 =>
   refine .cons (.g 25 0 c1 rfl) ?_
   refine .cons (.k _ fun yy vv hg hh => RtW.of_c (lessN 1 (by decide +kernel) _)) ?_
   refine .cons (.w 3 _ rfl (by decide)) ?_
   refine .cons (.k _ fun yy vv hg hh => RtW.of_c (numN (by decide +kernel) (hh 2 rfl))) ?_
   refine .cons (.w 3 _ rfl (by decide)) ?_
   refine .cons (.k _ fun yy vv hg hh => RtW.of_c (numN (by decide +kernel) (hh 4 rfl))) ?_
   refine .cons (.w 3 _ rfl (by decide)) ?_
   refine .cons (.k _ fun yy vv hg hh => RtW.of_c (numN (by decide +kernel) (hh 6 rfl))) ?_
   refine .cons (.w 3 _ rfl (by decide)) ?_
   refine .cons (.k _ fun yy vv hg hh => RtW.of_c (numN (by decide +kernel) (hh 8 rfl))) .nil
  refine .s 54 (fun yy => .pointer (some ⟨w.heap.size + 1, 0, none⟩)) (fun yy => .agg (cu 0 0 (aN 1) (bN 1) (oN 1) (xN 1) (yN 1) 0 0 false)) fun yw1 v1 hg h1 => ?_
  have HT := (c2.gr hg).h
  have FT := (c2.gr hg).f
  refine ⟨setBlk v1 (w.heap.size + 1) (cu 0 0 (aN 1) (bN 1) (oN 1) (xN 1) (yN 1) 0 0 false), by simp [go_sem, exI, HT, FT], ?_⟩
  simp only [FW, putFrom, Act.put, List.setIfInBounds_toArray, List.set_cons_zero, List.set_cons_succ, wvals, kW, List.getD_cons_zero, List.getD_cons_succ, Kw.c, Kw.w]
  clear h1
  replace G := G.trans hg
  replace c1 := c1.gr hg
  replace c2 := c2.gr hg
  clear hg
  go_wp2_with fail
  exact bodyPost_ret (res_one Tryz.results79 (rd_cu (by rfl) (blk_setBlk _ _ _ (by rw [HT, cu_size]; decide)))) rfl ⟨rfl, gr_setNew G (by omega)⟩
set_option maxRecDepth 100000 in
set_option maxHeartbeats 1600000 in
theorem mk_2  (w : World) :
    Calls Tryz.prog 80 #[.agg (nw 9 (pN 2))] w fun e w' => e = .returned (.agg (cu 0 0 (aN 2) (bN 2) (oN 2) (xN 2) (yN 2) 0 0 false)) ∧ Gr w w' := by
  go_enter Tryz.func80, Tryz.ntmps80
  go_upto_region 1 with fail
  refine gen_w (fun v => Gr w v ∧ Vr v (w.heap.size) (nw 9 (pN 2)) ∧ Vr v (w.heap.size + 1) (cu 0 0 0 0 0 0 0 0 0 false)) ⟨(by repeat (first | exact Gr.refl _ | apply Gr.drewN | apply Gr.drew | apply Gr.alloc | apply Gr.gro)), ⟨by simp [go_sem], by simp [go_sem], by simp [go_sem]⟩, ⟨by simp [go_sem], by simp [go_sem], by simp [go_sem]⟩⟩ ?_
  rintro v0 ⟨G, c1, c2⟩
  refine wp_wTS 12 [.c (.agg (nw 9 (pN 2))), .c (.agg (nw 9 (aN 2))), .w 4 (bN 2), .c (.agg (nw 9 (bN 2))), .w 4 (oN 2), .c (.agg (nw 9 (oN 2))), .w 4 (xN 2), .c (.agg (nw 9 (xN 2))), .w 4 (yN 2), .c (.agg (nw 9 (yN 2))), .c (.agg (pnt (xN 2) (yN 2) false)), .c (.agg (cu 0 0 (aN 2) (bN 2) (oN 2) (xN 2) (yN 2) 0 0 false))] [0, 1, 2, 3, 4, 5, 6, 7, 8, 9] ?hs2 ?hf2
  case hs2 =>
   refine .cons (.g 25 0 c1 rfl) ?_
   refine .cons (.k _ fun yy vv hg hh => RtW.of_c (lessN 2 (by decide +kernel) _)) ?_
   refine .cons (.w 4 _ rfl (by decide)) ?_
   refine .cons (.k _ fun yy vv hg hh => RtW.of_c (numN (by decide +kernel) (hh 2 rfl))) ?_
   refine .cons (.w 4 _ rfl (by decide)) ?_
   refine .cons (.k _ fun yy vv hg hh => RtW.of_c (numN (by decide +kernel) (hh 4 rfl))) ?_
   refine .cons (.w 4 _ rfl (by decide)) ?_
   refine .cons (.k _ fun yy vv hg hh => RtW.of_c (numN (by decide +kernel) (hh 6 rfl))) ?_
   refine .cons (.w 4 _ rfl (by decide)) ?_
   refine .cons (.k _ fun yy vv hg hh => RtW.of_c (numN (by decide +kernel) (hh 8 rfl))) .nil
  refine .s 54 (fun yy => .pointer (some ⟨w.heap.size + 1, 0, none⟩)) (fun yy => .agg (cu 0 0 (aN 2) (bN 2) (oN 2) (xN 2) (yN 2) 0 0 false)) fun yw1 v1 hg h1 => ?_
  have HT := (c2.gr hg).h
  have FT := (c2.gr hg).f
  refine ⟨setBlk v1 (w.heap.size + 1) (cu 0 0 (aN 2) (bN 2) (oN 2) (xN 2) (yN 2) 0 0 false), by simp [go_sem, exI, HT, FT], ?_⟩
  simp only [FW, putFrom, Act.put, List.setIfInBounds_toArray, List.set_cons_zero, List.set_cons_succ, wvals, kW, List.getD_cons_zero, List.getD_cons_succ, Kw.c, Kw.w]
  clear h1
  replace G := G.trans hg
  replace c1 := c1.gr hg
  replace c2 := c2.gr hg
  clear hg
  go_wp2_with fail
  exact bodyPost_ret (res_one Tryz.results80 (rd_cu (by rfl) (blk_setBlk _ _ _ (by rw [HT, cu_size]; decide)))) rfl ⟨rfl, gr_setNew G (by omega)⟩
set_option maxRecDepth 100000 in
set_option maxHeartbeats 1600000 in
theorem mk_3  (w : World) :
    Calls Tryz.prog 81 #[.agg (nw 9 (pN 3))] w fun e w' => e = .returned (.agg (cu 0 0 (aN 3) (bN 3) (oN 3) (xN 3) (yN 3) 0 0 false)) ∧ Gr w w' := by
  go_enter Tryz.func81, Tryz.ntmps81
  go_upto_region 1 with fail
  refine gen_w (fun v => Gr w v ∧ Vr v (w.heap.size) (nw 9 (pN 3)) ∧ Vr v (w.heap.size + 1) (cu 0 0 0 0 0 0 0 0 0 false)) ⟨(by repeat (first | exact Gr.refl _ | apply Gr.drewN | apply Gr.drew | apply Gr.alloc | apply Gr.gro)), ⟨by simp [go_sem], by simp [go_sem], by simp [go_sem]⟩, ⟨by simp [go_sem], by simp [go_sem], by simp [go_sem]⟩⟩ ?_
  rintro v0 ⟨G, c1, c2⟩
  refine wp_wTS 12 [.c (.agg (nw 9 (pN 3))), .c (.agg (nw 9 (aN 3))), .w 4 (bN 3), .c (.agg (nw 9 (bN 3))), .w 4 (oN 3), .c (.agg (nw 9 (oN 3))), .w 4 (xN 3), .c (.agg (nw 9 (xN 3))), .w 4 (yN 3), .c (.agg (nw 9 (yN 3))), .c (.agg (pnt (xN 3) (yN 3) false)), .c (.agg (cu 0 0 (aN 3) (bN 3) (oN 3) (xN 3) (yN 3) 0 0 false))] [0, 1, 2, 3, 4, 5, 6, 7, 8, 9] ?hs3 ?hf3
  case hs3 =>
   refine .cons (.g 25 0 c1 rfl) ?_
   refine .cons (.k _ fun yy vv hg hh => RtW.of_c (lessN 3 (by decide +kernel) _)) ?_
   refine .cons (.w 4 _ rfl (by decide)) ?_
   refine .cons (.k _ fun yy vv hg hh => RtW.of_c (numN (by decide +kernel) (hh 2 rfl))) ?_
   refine .cons (.w 4 _ rfl (by decide)) ?_
   refine .cons (.k _ fun yy vv hg hh => RtW.of_c (numN (by decide +kernel) (hh 4 rfl))) ?_
   refine .cons (.w 4 _ rfl (by decide)) ?_
   refine .cons (.k _ fun yy vv hg hh => RtW.of_c (numN (by decide +kernel) (hh 6 rfl))) ?_
   refine .cons (.w 4 _ rfl (by decide)) ?_
   refine .cons (.k _ fun yy vv hg hh => RtW.of_c (numN (by decide +kernel) (hh 8 rfl))) .nil
  refine .s 54 (fun yy => .pointer (some ⟨w.heap.size + 1, 0, none⟩)) (fun yy => .agg (cu 0 0 (aN 3) (bN 3) (oN 3) (xN 3) (yN 3) 0 0 false)) fun yw1 v1 hg h1 => ?_
  have HT := (c2.gr hg).h
  have FT := (c2.gr hg).f
  refine ⟨setBlk v1 (w.heap.size + 1) (cu 0 0 (aN 3) (bN 3) (oN 3) (xN 3) (yN 3) 0 0 false), by simp [go_sem, exI, HT, FT], ?_⟩
  simp only [FW, putFrom, Act.put, List.setIfInBounds_toArray, List.set_cons_zero, List.set_cons_succ, wvals, kW, List.getD_cons_zero, List.getD_cons_succ, Kw.c, Kw.w]
  clear h1
  replace G := G.trans hg
  replace c1 := c1.gr hg
  replace c2 := c2.gr hg
  clear hg
  go_wp2_with fail
  exact bodyPost_ret (res_one Tryz.results81 (rd_cu (by rfl) (blk_setBlk _ _ _ (by rw [HT, cu_size]; decide)))) rfl ⟨rfl, gr_setNew G (by omega)⟩
set_option maxRecDepth 100000 in
set_option maxHeartbeats 1600000 in
theorem mk_4  (w : World) :
    Calls Tryz.prog 82 #[.agg (nw 9 (pN 4))] w fun e w' => e = .returned (.agg (cu 0 0 (aN 4) (bN 4) (oN 4) (xN 4) (yN 4) 0 0 false)) ∧ Gr w w' := by
  go_enter Tryz.func82, Tryz.ntmps82
  go_upto_region 1 with fail
  refine gen_w (fun v => Gr w v ∧ Vr v (w.heap.size) (nw 9 (pN 4)) ∧ Vr v (w.heap.size + 1) (cu 0 0 0 0 0 0 0 0 0 false)) ⟨(by repeat (first | exact Gr.refl _ | apply Gr.drewN | apply Gr.drew | apply Gr.alloc | apply Gr.gro)), ⟨by simp [go_sem], by simp [go_sem], by simp [go_sem]⟩, ⟨by simp [go_sem], by simp [go_sem], by simp [go_sem]⟩⟩ ?_
  rintro v0 ⟨G, c1, c2⟩
  refine wp_wTS 12 [.c (.agg (nw 9 (pN 4))), .c (.agg (nw 9 (aN 4))), .w 6 (bN 4), .c (.agg (nw 9 (bN 4))), .w 6 (oN 4), .c (.agg (nw 9 (oN 4))), .w 6 (xN 4), .c (.agg (nw 9 (xN 4))), .w 6 (yN 4), .c (.agg (nw 9 (yN 4))), .c (.agg (pnt (xN 4) (yN 4) false)), .c (.agg (cu 0 0 (aN 4) (bN 4) (oN 4) (xN 4) (yN 4) 0 0 false))] [0, 1, 2, 3, 4, 5, 6, 7, 8, 9] ?hs4 ?hf4
  case hs4 =>
   refine .cons (.g 25 0 c1 rfl) ?_
   refine .cons (.k _ fun yy vv hg hh => RtW.of_c (lessN 4 (by decide +kernel) _)) ?_
   refine .cons (.w 6 _ rfl (by decide)) ?_
   refine .cons (.k _ fun yy vv hg hh => RtW.of_c (numN (by decide +kernel) (hh 2 rfl))) ?_
   refine .cons (.w 6 _ rfl (by decide)) ?_
   refine .cons (.k _ fun yy vv hg hh => RtW.of_c (numN (by decide +kernel) (hh 4 rfl))) ?_
   refine .cons (.w 6 _ rfl (by decide)) ?_
   refine .cons (.k _ fun yy vv hg hh => RtW.of_c (numN (by decide +kernel) (hh 6 rfl))) ?_
   refine .cons (.w 6 _ rfl (by decide)) ?_
   refine .cons (.k _ fun yy vv hg hh => RtW.of_c (numN (by decide +kernel) (hh 8 rfl))) .nil
  refine .s 54 (fun yy => .pointer (some ⟨w.heap.size + 1, 0, none⟩)) (fun yy => .agg (cu 0 0 (aN 4) (bN 4) (oN 4) (xN 4) (yN 4) 0 0 false)) fun yw1 v1 hg h1 => ?_
  have HT := (c2.gr hg).h
  have FT := (c2.gr hg).f
  refine ⟨setBlk v1 (w.heap.size + 1) (cu 0 0 (aN 4) (bN 4) (oN 4) (xN 4) (yN 4) 0 0 false), by simp [go_sem, exI, HT, FT], ?_⟩
  simp only [FW, putFrom, Act.put, List.setIfInBounds_toArray, List.set_cons_zero, List.set_cons_succ, wvals, kW, List.getD_cons_zero, List.getD_cons_succ, Kw.c, Kw.w]
  clear h1
  replace G := G.trans hg
  replace c1 := c1.gr hg
  replace c2 := c2.gr hg
  clear hg
  go_wp2_with fail
  exact bodyPost_ret (res_one Tryz.results82 (rd_cu (by rfl) (blk_setBlk _ _ _ (by rw [HT, cu_size]; decide)))) rfl ⟨rfl, gr_setNew G (by omega)⟩
set_option maxRecDepth 100000 in
set_option maxHeartbeats 1600000 in
theorem mk_5  (w : World) :
    Calls Tryz.prog 83 #[.agg (nw 9 (pN 5))] w fun e w' => e = .returned (.agg (cu 0 0 (aN 5) (bN 5) (oN 5) (xN 5) (yN 5) 0 0 false)) ∧ Gr w w' := by
  go_enter Tryz.func83, Tryz.ntmps83
  go_upto_region 1 with fail
  refine gen_w (fun v => Gr w v ∧ Vr v (w.heap.size) (nw 9 (pN 5)) ∧ Vr v (w.heap.size + 1) (cu 0 0 0 0 0 0 0 0 0 false)) ⟨(by repeat (first | exact Gr.refl _ | apply Gr.drewN | apply Gr.drew | apply Gr.alloc | apply Gr.gro)), ⟨by simp [go_sem], by simp [go_sem], by simp [go_sem]⟩, ⟨by simp [go_sem], by simp [go_sem], by simp [go_sem]⟩⟩ ?_
  rintro v0 ⟨G, c1, c2⟩
  refine wp_wTS 12 [.c (.agg (nw 9 (pN 5))), .c (.agg (nw 9 (aN 5))), .w 9 (bN 5), .c (.agg (nw 9 (bN 5))), .w 9 (oN 5), .c (.agg (nw 9 (oN 5))), .w 9 (xN 5), .c (.agg (nw 9 (xN 5))), .w 9 (yN 5), .c (.agg (nw 9 (yN 5))), .c (.agg (pnt (xN 5) (yN 5) false)), .c (.agg (cu 0 0 (aN 5) (bN 5) (oN 5) (xN 5) (yN 5) 0 0 false))] [0, 1, 2, 3, 4, 5, 6, 7, 8, 9] ?hs5 ?hf5
  case hs5 =>
   refine .cons (.g 25 0 c1 rfl) ?_
   refine .cons (.k _ fun yy vv hg hh => RtW.of_c (lessN 5 (by decide +kernel) _)) ?_
   refine .cons (.w 9 _ rfl (by decide)) ?_
   refine .cons (.k _ fun yy vv hg hh => RtW.of_c (numN (by decide +kernel) (hh 2 rfl))) ?_
   refine .cons (.w 9 _ rfl (by decide)) ?_
   refine .cons (.k _ fun yy vv hg hh => RtW.of_c (numN (by decide +kernel) (hh 4 rfl))) ?_
   refine .cons (.w 9 _ rfl (by decide)) ?_
   refine .cons (.k _ fun yy vv hg hh => RtW.of_c (numN (by decide +kernel) (hh 6 rfl))) ?_
   refine .cons (.w 9 _ rfl (by decide)) ?_
   refine .cons (.k _ fun yy vv hg hh => RtW.of_c (numN (by decide +kernel) (hh 8 rfl))) .nil
  refine .s 54 (fun yy => .pointer (some ⟨w.heap.size + 1, 0, none⟩)) (fun yy => .agg (cu 0 0 (aN 5) (bN 5) (oN 5) (xN 5) (yN 5) 0 0 false)) fun yw1 v1 hg h1 => ?_
  have HT := (c2.gr hg).h
  have FT := (c2.gr hg).f
  refine ⟨setBlk v1 (w.heap.size + 1) (cu 0 0 (aN 5) (bN 5) (oN 5) (xN 5) (yN 5) 0 0 false), by simp [go_sem, exI, HT, FT], ?_⟩
  simp only [FW, putFrom, Act.put, List.setIfInBounds_toArray, List.set_cons_zero, List.set_cons_succ, wvals, kW, List.getD_cons_zero, List.getD_cons_succ, Kw.c, Kw.w]
  clear h1
  replace G := G.trans hg
  replace c1 := c1.gr hg
  replace c2 := c2.gr hg
  clear hg
  go_wp2_with fail
  exact bodyPost_ret (res_one Tryz.results83 (rd_cu (by rfl) (blk_setBlk _ _ _ (by rw [HT, cu_size]; decide)))) rfl ⟨rfl, gr_setNew G (by omega)⟩
set_option maxRecDepth 100000 in
set_option maxHeartbeats 1600000 in
theorem mk_6  (w : World) :
    Calls Tryz.prog 84 #[.agg (nw 9 (pN 6))] w fun e w' => e = .returned (.agg (cu 0 0 (aN 6) (bN 6) (oN 6) (xN 6) (yN 6) 0 0 false)) ∧ Gr w w' := by
  go_enter Tryz.func84, Tryz.ntmps84
  go_upto_region 1 with fail
  refine gen_w (fun v => Gr w v ∧ Vr v (w.heap.size) (nw 9 (pN 6)) ∧ Vr v (w.heap.size + 1) (cu 0 0 0 0 0 0 0 0 0 false)) ⟨(by repeat (first | exact Gr.refl _ | apply Gr.drewN | apply Gr.drew | apply Gr.alloc | apply Gr.gro)), ⟨by simp [go_sem], by simp [go_sem], by simp [go_sem]⟩, ⟨by simp [go_sem], by simp [go_sem], by simp [go_sem]⟩⟩ ?_
  rintro v0 ⟨G, c1, c2⟩
  refine wp_wTS 10 [.c (.agg (nw 9 (aN 6))), .c (.agg (nw 9 (bN 6))), .w 4 (oN 6), .c (.agg (nw 9 (oN 6))), .w 4 (xN 6), .c (.agg (nw 9 (xN 6))), .w 4 (yN 6), .c (.agg (nw 9 (yN 6))), .c (.agg (pnt (xN 6) (yN 6) false)), .c (.agg (cu 0 0 (aN 6) (bN 6) (oN 6) (xN 6) (yN 6) 0 0 false))] [0, 1, 2, 3, 4, 5, 6, 7] ?hs6 ?hf6
  case hs6 =>
   refine .cons (.k _ fun yy vv hg hh => RtW.of_c (smlN 0 _ (by decide +kernel) (by decide) _)) ?_
   refine .cons (.k _ fun yy vv hg hh => RtW.of_c (smlN 7 _ (by decide +kernel) (by decide) _)) ?_
   refine .cons (.w 4 _ rfl (by decide)) ?_
   refine .cons (.k _ fun yy vv hg hh => RtW.of_c (numN (by decide +kernel) (hh 2 rfl))) ?_
   refine .cons (.w 4 _ rfl (by decide)) ?_
   refine .cons (.k _ fun yy vv hg hh => RtW.of_c (numN (by decide +kernel) (hh 4 rfl))) ?_
   refine .cons (.w 4 _ rfl (by decide)) ?_
   refine .cons (.k _ fun yy vv hg hh => RtW.of_c (numN (by decide +kernel) (hh 6 rfl))) .nil
  refine .s 54 (fun yy => .pointer (some ⟨w.heap.size + 1, 0, none⟩)) (fun yy => .agg (cu 0 0 (aN 6) (bN 6) (oN 6) (xN 6) (yN 6) 0 0 false)) fun yw1 v1 hg h1 => ?_
  have HT := (c2.gr hg).h
  have FT := (c2.gr hg).f
  refine ⟨setBlk v1 (w.heap.size + 1) (cu 0 0 (aN 6) (bN 6) (oN 6) (xN 6) (yN 6) 0 0 false), by simp [go_sem, exI, HT, FT], ?_⟩
  simp only [FW, putFrom, Act.put, List.setIfInBounds_toArray, List.set_cons_zero, List.set_cons_succ, wvals, kW, List.getD_cons_zero, List.getD_cons_succ, Kw.c, Kw.w]
  clear h1
  replace G := G.trans hg
  replace c1 := c1.gr hg
  replace c2 := c2.gr hg
  clear hg
  go_wp2_with fail
  exact bodyPost_ret (res_one Tryz.results84 (rd_cu (by rfl) (blk_setBlk _ _ _ (by rw [HT, cu_size]; decide)))) rfl ⟨rfl, gr_setNew G (by omega)⟩
set_option maxRecDepth 100000 in
set_option maxHeartbeats 1600000 in
theorem mk_7  (w : World) :
    Calls Tryz.prog 85 #[.agg (nw 9 (pN 7))] w fun e w' => e = .returned (.agg (cu 0 0 (aN 7) (bN 7) (oN 7) (xN 7) (yN 7) 0 0 false)) ∧ Gr w w' := by
  go_enter Tryz.func85, Tryz.ntmps85
  go_upto_region 1 with fail
  refine gen_w (fun v => Gr w v ∧ Vr v (w.heap.size) (nw 9 (pN 7)) ∧ Vr v (w.heap.size + 1) (cu 0 0 0 0 0 0 0 0 0 false)) ⟨(by repeat (first | exact Gr.refl _ | apply Gr.drewN | apply Gr.drew | apply Gr.alloc | apply Gr.gro)), ⟨by simp [go_sem], by simp [go_sem], by simp [go_sem]⟩, ⟨by simp [go_sem], by simp [go_sem], by simp [go_sem]⟩⟩ ?_
  rintro v0 ⟨G, c1, c2⟩
  refine wp_wTS 12 [.w 3 (aN 7), .c (.agg (nw 9 (aN 7))), .w 3 (bN 7), .c (.agg (nw 9 (bN 7))), .w 3 (oN 7), .c (.agg (nw 9 (oN 7))), .w 3 (xN 7), .c (.agg (nw 9 (xN 7))), .w 3 (yN 7), .c (.agg (nw 9 (yN 7))), .c (.agg (pnt (xN 7) (yN 7) false)), .c (.agg (cu 0 0 (aN 7) (bN 7) (oN 7) (xN 7) (yN 7) 0 0 false))] [0, 1, 2, 3, 4, 5, 6, 7, 8, 9] ?hs7 ?hf7
  case hs7 =>
   refine .cons (.w 3 _ rfl (by decide)) ?_
   refine .cons (.k _ fun yy vv hg hh => RtW.of_c (numN (by decide +kernel) (hh 0 rfl))) ?_
   refine .cons (.w 3 _ rfl (by decide)) ?_
   refine .cons (.k _ fun yy vv hg hh => RtW.of_c (numN (by decide +kernel) (hh 2 rfl))) ?_
   refine .cons (.w 3 _ rfl (by decide)) ?_
   refine .cons (.k _ fun yy vv hg hh => RtW.of_c (numN (by decide +kernel) (hh 4 rfl))) ?_
   refine .cons (.w 3 _ rfl (by decide)) ?_
   refine .cons (.k _ fun yy vv hg hh => RtW.of_c (numN (by decide +kernel) (hh 6 rfl))) ?_
   refine .cons (.w 3 _ rfl (by decide)) ?_
   refine .cons (.k _ fun yy vv hg hh => RtW.of_c (numN (by decide +kernel) (hh 8 rfl))) .nil
  refine .s 54 (fun yy => .pointer (some ⟨w.heap.size + 1, 0, none⟩)) (fun yy => .agg (cu 0 0 (aN 7) (bN 7) (oN 7) (xN 7) (yN 7) 0 0 false)) fun yw1 v1 hg h1 => ?_
  have HT := (c2.gr hg).h
  have FT := (c2.gr hg).f
  refine ⟨setBlk v1 (w.heap.size + 1) (cu 0 0 (aN 7) (bN 7) (oN 7) (xN 7) (yN 7) 0 0 false), by simp [go_sem, exI, HT, FT], ?_⟩
  simp only [FW, putFrom, Act.put, List.setIfInBounds_toArray, List.set_cons_zero, List.set_cons_succ, wvals, kW, List.getD_cons_zero, List.getD_cons_succ, Kw.c, Kw.w]
  clear h1
  replace G := G.trans hg
  replace c1 := c1.gr hg
  replace c2 := c2.gr hg
  clear hg
  go_wp2_with fail
  exact bodyPost_ret (res_one Tryz.results85 (rd_cu (by rfl) (blk_setBlk _ _ _ (by rw [HT, cu_size]; decide)))) rfl ⟨rfl, gr_setNew G (by omega)⟩
set_option maxRecDepth 100000 in
set_option maxHeartbeats 1600000 in
theorem mk_8  (w : World) :
    Calls Tryz.prog 86 #[.agg (nw 9 (pN 8))] w fun e w' => e = .returned (.agg (cu 0 0 (aN 8) (bN 8) (oN 8) (xN 8) (yN 8) 0 0 false)) ∧ Gr w w' := by
  go_enter Tryz.func86, Tryz.ntmps86
  go_upto_region 1 with fail
  refine gen_w (fun v => Gr w v ∧ Vr v (w.heap.size) (nw 9 (pN 8)) ∧ Vr v (w.heap.size + 1) (cu 0 0 0 0 0 0 0 0 0 false)) ⟨(by repeat (first | exact Gr.refl _ | apply Gr.drewN | apply Gr.drew | apply Gr.alloc | apply Gr.gro)), ⟨by simp [go_sem], by simp [go_sem], by simp [go_sem]⟩, ⟨by simp [go_sem], by simp [go_sem], by simp [go_sem]⟩⟩ ?_
  rintro v0 ⟨G, c1, c2⟩
  refine wp_wTS 12 [.w 4 (aN 8), .c (.agg (nw 9 (aN 8))), .w 4 (bN 8), .c (.agg (nw 9 (bN 8))), .w 4 (oN 8), .c (.agg (nw 9 (oN 8))), .w 4 (xN 8), .c (.agg (nw 9 (xN 8))), .w 4 (yN 8), .c (.agg (nw 9 (yN 8))), .c (.agg (pnt (xN 8) (yN 8) false)), .c (.agg (cu 0 0 (aN 8) (bN 8) (oN 8) (xN 8) (yN 8) 0 0 false))] [0, 1, 2, 3, 4, 5, 6, 7, 8, 9] ?hs8 ?hf8
  case hs8 =>
   refine .cons (.w 4 _ rfl (by decide)) ?_
   refine .cons (.k _ fun yy vv hg hh => RtW.of_c (numN (by decide +kernel) (hh 0 rfl))) ?_
   refine .cons (.w 4 _ rfl (by decide)) ?_
   refine .cons (.k _ fun yy vv hg hh => RtW.of_c (numN (by decide +kernel) (hh 2 rfl))) ?_
   refine .cons (.w 4 _ rfl (by decide)) ?_
   refine .cons (.k _ fun yy vv hg hh => RtW.of_c (numN (by decide +kernel) (hh 4 rfl))) ?_
   refine .cons (.w 4 _ rfl (by decide)) ?_
   refine .cons (.k _ fun yy vv hg hh => RtW.of_c (numN (by decide +kernel) (hh 6 rfl))) ?_
   refine .cons (.w 4 _ rfl (by decide)) ?_
   refine .cons (.k _ fun yy vv hg hh => RtW.of_c (numN (by decide +kernel) (hh 8 rfl))) .nil
  refine .s 54 (fun yy => .pointer (some ⟨w.heap.size + 1, 0, none⟩)) (fun yy => .agg (cu 0 0 (aN 8) (bN 8) (oN 8) (xN 8) (yN 8) 0 0 false)) fun yw1 v1 hg h1 => ?_
  have HT := (c2.gr hg).h
  have FT := (c2.gr hg).f
  refine ⟨setBlk v1 (w.heap.size + 1) (cu 0 0 (aN 8) (bN 8) (oN 8) (xN 8) (yN 8) 0 0 false), by simp [go_sem, exI, HT, FT], ?_⟩
  simp only [FW, putFrom, Act.put, List.setIfInBounds_toArray, List.set_cons_zero, List.set_cons_succ, wvals, kW, List.getD_cons_zero, List.getD_cons_succ, Kw.c, Kw.w]
  clear h1
  replace G := G.trans hg
  replace c1 := c1.gr hg
  replace c2 := c2.gr hg
  clear hg
  go_wp2_with fail
  exact bodyPost_ret (res_one Tryz.results86 (rd_cu (by rfl) (blk_setBlk _ _ _ (by rw [HT, cu_size]; decide)))) rfl ⟨rfl, gr_setNew G (by omega)⟩
set_option maxRecDepth 100000 in
set_option maxHeartbeats 1600000 in
theorem mk_9  (w : World) :
    Calls Tryz.prog 87 #[.agg (nw 9 (pN 9))] w fun e w' => e = .returned (.agg (cu 0 0 (aN 9) (bN 9) (oN 9) (xN 9) (yN 9) 0 0 false)) ∧ Gr w w' := by
  go_enter Tryz.func87, Tryz.ntmps87
  go_upto_region 1 with fail
  refine gen_w (fun v => Gr w v ∧ Vr v (w.heap.size) (nw 9 (pN 9)) ∧ Vr v (w.heap.size + 1) (cu 0 0 0 0 0 0 0 0 0 false)) ⟨(by repeat (first | exact Gr.refl _ | apply Gr.drewN | apply Gr.drew | apply Gr.alloc | apply Gr.gro)), ⟨by simp [go_sem], by simp [go_sem], by simp [go_sem]⟩, ⟨by simp [go_sem], by simp [go_sem], by simp [go_sem]⟩⟩ ?_
  rintro v0 ⟨G, c1, c2⟩
  refine wp_wTS 12 [.w 4 (aN 9), .c (.agg (nw 9 (aN 9))), .w 4 (bN 9), .c (.agg (nw 9 (bN 9))), .w 4 (oN 9), .c (.agg (nw 9 (oN 9))), .w 4 (xN 9), .c (.agg (nw 9 (xN 9))), .w 4 (yN 9), .c (.agg (nw 9 (yN 9))), .c (.agg (pnt (xN 9) (yN 9) false)), .c (.agg (cu 0 0 (aN 9) (bN 9) (oN 9) (xN 9) (yN 9) 0 0 false))] [0, 1, 2, 3, 4, 5, 6, 7, 8, 9] ?hs9 ?hf9
  case hs9 =>
   refine .cons (.w 4 _ rfl (by decide)) ?_
   refine .cons (.k _ fun yy vv hg hh => RtW.of_c (numN (by decide +kernel) (hh 0 rfl))) ?_
   refine .cons (.w 4 _ rfl (by decide)) ?_
   refine .cons (.k _ fun yy vv hg hh => RtW.of_c (numN (by decide +kernel) (hh 2 rfl))) ?_
   refine .cons (.w 4 _ rfl (by decide)) ?_
   refine .cons (.k _ fun yy vv hg hh => RtW.of_c (numN (by decide +kernel) (hh 4 rfl))) ?_
   refine .cons (.w 4 _ rfl (by decide)) ?_
   refine .cons (.k _ fun yy vv hg hh => RtW.of_c (numN (by decide +kernel) (hh 6 rfl))) ?_
   refine .cons (.w 4 _ rfl (by decide)) ?_
   refine .cons (.k _ fun yy vv hg hh => RtW.of_c (numN (by decide +kernel) (hh 8 rfl))) .nil
  refine .s 54 (fun yy => .pointer (some ⟨w.heap.size + 1, 0, none⟩)) (fun yy => .agg (cu 0 0 (aN 9) (bN 9) (oN 9) (xN 9) (yN 9) 0 0 false)) fun yw1 v1 hg h1 => ?_
  have HT := (c2.gr hg).h
  have FT := (c2.gr hg).f
  refine ⟨setBlk v1 (w.heap.size + 1) (cu 0 0 (aN 9) (bN 9) (oN 9) (xN 9) (yN 9) 0 0 false), by simp [go_sem, exI, HT, FT], ?_⟩
  simp only [FW, putFrom, Act.put, List.setIfInBounds_toArray, List.set_cons_zero, List.set_cons_succ, wvals, kW, List.getD_cons_zero, List.getD_cons_succ, Kw.c, Kw.w]
  clear h1
  replace G := G.trans hg
  replace c1 := c1.gr hg
  replace c2 := c2.gr hg
  clear hg
  go_wp2_with fail
  exact bodyPost_ret (res_one Tryz.results87 (rd_cu (by rfl) (blk_setBlk _ _ _ (by rw [HT, cu_size]; decide)))) rfl ⟨rfl, gr_setNew G (by omega)⟩
set_option maxRecDepth 100000 in
set_option maxHeartbeats 1600000 in
theorem mk_10  (w : World) :
    Calls Tryz.prog 88 #[.agg (nw 9 (pN 10))] w fun e w' => e = .returned (.agg (cu 0 0 (aN 10) (bN 10) (oN 10) (xN 10) (yN 10) 0 0 false)) ∧ Gr w w' := by
  go_enter Tryz.func88, Tryz.ntmps88
  go_upto_region 1 with fail
  refine gen_w (fun v => Gr w v ∧ Vr v (w.heap.size) (nw 9 (pN 10)) ∧ Vr v (w.heap.size + 1) (cu 0 0 0 0 0 0 0 0 0 false)) ⟨(by repeat (first | exact Gr.refl _ | apply Gr.drewN | apply Gr.drew | apply Gr.alloc | apply Gr.gro)), ⟨by simp [go_sem], by simp [go_sem], by simp [go_sem]⟩, ⟨by simp [go_sem], by simp [go_sem], by simp [go_sem]⟩⟩ ?_
  rintro v0 ⟨G, c1, c2⟩
  refine wp_wTS 12 [.w 5 (aN 10), .c (.agg (nw 9 (aN 10))), .w 5 (bN 10), .c (.agg (nw 9 (bN 10))), .w 5 (oN 10), .c (.agg (nw 9 (oN 10))), .w 5 (xN 10), .c (.agg (nw 9 (xN 10))), .w 5 (yN 10), .c (.agg (nw 9 (yN 10))), .c (.agg (pnt (xN 10) (yN 10) false)), .c (.agg (cu 0 0 (aN 10) (bN 10) (oN 10) (xN 10) (yN 10) 0 0 false))] [0, 1, 2, 3, 4, 5, 6, 7, 8, 9] ?hs10 ?hf10
  case hs10 =>
   refine .cons (.w 5 _ rfl (by decide)) ?_
   refine .cons (.k _ fun yy vv hg hh => RtW.of_c (numN (by decide +kernel) (hh 0 rfl))) ?_
   refine .cons (.w 5 _ rfl (by decide)) ?_
   refine .cons (.k _ fun yy vv hg hh => RtW.of_c (numN (by decide +kernel) (hh 2 rfl))) ?_
   refine .cons (.w 5 _ rfl (by decide)) ?_
   refine .cons (.k _ fun yy vv hg hh => RtW.of_c (numN (by decide +kernel) (hh 4 rfl))) ?_
   refine .cons (.w 5 _ rfl (by decide)) ?_
   refine .cons (.k _ fun yy vv hg hh => RtW.of_c (numN (by decide +kernel) (hh 6 rfl))) ?_
   refine .cons (.w 5 _ rfl (by decide)) ?_
   refine .cons (.k _ fun yy vv hg hh => RtW.of_c (numN (by decide +kernel) (hh 8 rfl))) .nil
  refine .s 54 (fun yy => .pointer (some ⟨w.heap.size + 1, 0, none⟩)) (fun yy => .agg (cu 0 0 (aN 10) (bN 10) (oN 10) (xN 10) (yN 10) 0 0 false)) fun yw1 v1 hg h1 => ?_
  have HT := (c2.gr hg).h
  have FT := (c2.gr hg).f
  refine ⟨setBlk v1 (w.heap.size + 1) (cu 0 0 (aN 10) (bN 10) (oN 10) (xN 10) (yN 10) 0 0 false), by simp [go_sem, exI, HT, FT], ?_⟩
  simp only [FW, putFrom, Act.put, List.setIfInBounds_toArray, List.set_cons_zero, List.set_cons_succ, wvals, kW, List.getD_cons_zero, List.getD_cons_succ, Kw.c, Kw.w]
  clear h1
  replace G := G.trans hg
  replace c1 := c1.gr hg
  replace c2 := c2.gr hg
  clear hg
  go_wp2_with fail
  exact bodyPost_ret (res_one Tryz.results88 (rd_cu (by rfl) (blk_setBlk _ _ _ (by rw [HT, cu_size]; decide)))) rfl ⟨rfl, gr_setNew G (by omega)⟩
set_option maxRecDepth 100000 in
set_option maxHeartbeats 1600000 in
theorem mk_11  (w : World) :
    Calls Tryz.prog 89 #[.agg (nw 9 (pN 11))] w fun e w' => e = .returned (.agg (cu 0 0 (aN 11) (bN 11) (oN 11) (xN 11) (yN 11) 0 0 false)) ∧ Gr w w' := by
  go_enter Tryz.func89, Tryz.ntmps89
  go_upto_region 1 with fail
  refine gen_w (fun v => Gr w v ∧ Vr v (w.heap.size) (nw 9 (pN 11)) ∧ Vr v (w.heap.size + 1) (cu 0 0 0 0 0 0 0 0 0 false)) ⟨(by repeat (first | exact Gr.refl _ | apply Gr.drewN | apply Gr.drew | apply Gr.alloc | apply Gr.gro)), ⟨by simp [go_sem], by simp [go_sem], by simp [go_sem]⟩, ⟨by simp [go_sem], by simp [go_sem], by simp [go_sem]⟩⟩ ?_
  rintro v0 ⟨G, c1, c2⟩
  refine wp_wTS 12 [.w 6 (aN 11), .c (.agg (nw 9 (aN 11))), .w 6 (bN 11), .c (.agg (nw 9 (bN 11))), .w 6 (oN 11), .c (.agg (nw 9 (oN 11))), .w 6 (xN 11), .c (.agg (nw 9 (xN 11))), .w 6 (yN 11), .c (.agg (nw 9 (yN 11))), .c (.agg (pnt (xN 11) (yN 11) false)), .c (.agg (cu 0 0 (aN 11) (bN 11) (oN 11) (xN 11) (yN 11) 0 0 false))] [0, 1, 2, 3, 4, 5, 6, 7, 8, 9] ?hs11 ?hf11
  case hs11 =>
   refine .cons (.w 6 _ rfl (by decide)) ?_
   refine .cons (.k _ fun yy vv hg hh => RtW.of_c (numN (by decide +kernel) (hh 0 rfl))) ?_
   refine .cons (.w 6 _ rfl (by decide)) ?_
   refine .cons (.k _ fun yy vv hg hh => RtW.of_c (numN (by decide +kernel) (hh 2 rfl))) ?_
   refine .cons (.w 6 _ rfl (by decide)) ?_
   refine .cons (.k _ fun yy vv hg hh => RtW.of_c (numN (by decide +kernel) (hh 4 rfl))) ?_
   refine .cons (.w 6 _ rfl (by decide)) ?_
   refine .cons (.k _ fun yy vv hg hh => RtW.of_c (numN (by decide +kernel) (hh 6 rfl))) ?_
   refine .cons (.w 6 _ rfl (by decide)) ?_
   refine .cons (.k _ fun yy vv hg hh => RtW.of_c (numN (by decide +kernel) (hh 8 rfl))) .nil
  refine .s 54 (fun yy => .pointer (some ⟨w.heap.size + 1, 0, none⟩)) (fun yy => .agg (cu 0 0 (aN 11) (bN 11) (oN 11) (xN 11) (yN 11) 0 0 false)) fun yw1 v1 hg h1 => ?_
  have HT := (c2.gr hg).h
  have FT := (c2.gr hg).f
  refine ⟨setBlk v1 (w.heap.size + 1) (cu 0 0 (aN 11) (bN 11) (oN 11) (xN 11) (yN 11) 0 0 false), by simp [go_sem, exI, HT, FT], ?_⟩
  simp only [FW, putFrom, Act.put, List.setIfInBounds_toArray, List.set_cons_zero, List.set_cons_succ, wvals, kW, List.getD_cons_zero, List.getD_cons_succ, Kw.c, Kw.w]
  clear h1
  replace G := G.trans hg
  replace c1 := c1.gr hg
  replace c2 := c2.gr hg
  clear hg
  go_wp2_with fail
  exact bodyPost_ret (res_one Tryz.results89 (rd_cu (by rfl) (blk_setBlk _ _ _ (by rw [HT, cu_size]; decide)))) rfl ⟨rfl, gr_setNew G (by omega)⟩
set_option maxRecDepth 100000 in
set_option maxHeartbeats 1600000 in
theorem mk_12  (w : World) :
    Calls Tryz.prog 90 #[.agg (nw 9 (pN 12))] w fun e w' => e = .returned (.agg (cu 0 0 (aN 12) (bN 12) (oN 12) (xN 12) (yN 12) 0 0 false)) ∧ Gr w w' := by
  go_enter Tryz.func90, Tryz.ntmps90
  go_upto_region 1 with fail
  refine gen_w (fun v => Gr w v ∧ Vr v (w.heap.size) (nw 9 (pN 12)) ∧ Vr v (w.heap.size + 1) (cu 0 0 0 0 0 0 0 0 0 false)) ⟨(by repeat (first | exact Gr.refl _ | apply Gr.drewN | apply Gr.drew | apply Gr.alloc | apply Gr.gro)), ⟨by simp [go_sem], by simp [go_sem], by simp [go_sem]⟩, ⟨by simp [go_sem], by simp [go_sem], by simp [go_sem]⟩⟩ ?_
  rintro v0 ⟨G, c1, c2⟩
  refine wp_wTS 12 [.w 8 (aN 12), .c (.agg (nw 9 (aN 12))), .w 8 (bN 12), .c (.agg (nw 9 (bN 12))), .w 8 (oN 12), .c (.agg (nw 9 (oN 12))), .w 8 (xN 12), .c (.agg (nw 9 (xN 12))), .w 8 (yN 12), .c (.agg (nw 9 (yN 12))), .c (.agg (pnt (xN 12) (yN 12) false)), .c (.agg (cu 0 0 (aN 12) (bN 12) (oN 12) (xN 12) (yN 12) 0 0 false))] [0, 1, 2, 3, 4, 5, 6, 7, 8, 9] ?hs12 ?hf12
  case hs12 =>
   refine .cons (.w 8 _ rfl (by decide)) ?_
   refine .cons (.k _ fun yy vv hg hh => RtW.of_c (numN (by decide +kernel) (hh 0 rfl))) ?_
   refine .cons (.w 8 _ rfl (by decide)) ?_
   refine .cons (.k _ fun yy vv hg hh => RtW.of_c (numN (by decide +kernel) (hh 2 rfl))) ?_
   refine .cons (.w 8 _ rfl (by decide)) ?_
   refine .cons (.k _ fun yy vv hg hh => RtW.of_c (numN (by decide +kernel) (hh 4 rfl))) ?_
   refine .cons (.w 8 _ rfl (by decide)) ?_
   refine .cons (.k _ fun yy vv hg hh => RtW.of_c (numN (by decide +kernel) (hh 6 rfl))) ?_
   refine .cons (.w 8 _ rfl (by decide)) ?_
   refine .cons (.k _ fun yy vv hg hh => RtW.of_c (numN (by decide +kernel) (hh 8 rfl))) .nil
  refine .s 54 (fun yy => .pointer (some ⟨w.heap.size + 1, 0, none⟩)) (fun yy => .agg (cu 0 0 (aN 12) (bN 12) (oN 12) (xN 12) (yN 12) 0 0 false)) fun yw1 v1 hg h1 => ?_
  have HT := (c2.gr hg).h
  have FT := (c2.gr hg).f
  refine ⟨setBlk v1 (w.heap.size + 1) (cu 0 0 (aN 12) (bN 12) (oN 12) (xN 12) (yN 12) 0 0 false), by simp [go_sem, exI, HT, FT], ?_⟩
  simp only [FW, putFrom, Act.put, List.setIfInBounds_toArray, List.set_cons_zero, List.set_cons_succ, wvals, kW, List.getD_cons_zero, List.getD_cons_succ, Kw.c, Kw.w]
  clear h1
  replace G := G.trans hg
  replace c1 := c1.gr hg
  replace c2 := c2.gr hg
  clear hg
  go_wp2_with fail
  exact bodyPost_ret (res_one Tryz.results90 (rd_cu (by rfl) (blk_setBlk _ _ _ (by rw [HT, cu_size]; decide)))) rfl ⟨rfl, gr_setNew G (by omega)⟩
set_option maxRecDepth 100000 in
set_option maxHeartbeats 1600000 in
theorem mk_13  (w : World) :
    Calls Tryz.prog 91 #[.agg (nw 9 (pN 13))] w fun e w' => e = .returned (.agg (cu 0 0 (aN 13) (bN 13) (oN 13) (xN 13) (yN 13) 0 0 false)) ∧ Gr w w' := by
  go_enter Tryz.func91, Tryz.ntmps91
  go_upto_region 1 with fail
  refine gen_w (fun v => Gr w v ∧ Vr v (w.heap.size) (nw 9 (pN 13)) ∧ Vr v (w.heap.size + 1) (cu 0 0 0 0 0 0 0 0 0 false)) ⟨(by repeat (first | exact Gr.refl _ | apply Gr.drewN | apply Gr.drew | apply Gr.alloc | apply Gr.gro)), ⟨by simp [go_sem], by simp [go_sem], by simp [go_sem]⟩, ⟨by simp [go_sem], by simp [go_sem], by simp [go_sem]⟩⟩ ?_
  rintro v0 ⟨G, c1, c2⟩
  refine wp_wTS 8 [.c (.agg (nw 9 (pN 13))), .c (.agg (nw 9 (aN 13))), .c (.agg (nw 9 (bN 13))), .c (.agg (nw 9 (oN 13))), .c (.agg (nw 9 (xN 13))), .c (.agg (nw 9 (yN 13))), .c (.agg (pnt (xN 13) (yN 13) false)), .c (.agg (cu 0 0 (aN 13) (bN 13) (oN 13) (xN 13) (yN 13) 0 0 false))] [0, 1, 2, 3, 4, 5] ?hs13 ?hf13
  case hs13 =>
   refine .cons (.g 25 0 c1 rfl) ?_
   refine .cons (.k _ fun yy vv hg hh => RtW.of_c (lessN 13 (by decide +kernel) _)) ?_
   refine .cons (.k _ fun yy vv hg hh => RtW.of_c (smlN 26 _ (by decide +kernel) (by decide) _)) ?_
   refine .cons (.k _ fun yy vv hg hh => RtW.of_c (smlN 223 _ (by decide +kernel) (by decide) _)) ?_
   refine .cons (.k _ fun yy vv hg hh => RtW.of_c (smlN 2 _ (by decide +kernel) (by decide) _)) ?_
   refine .cons (.k _ fun yy vv hg hh => RtW.of_c (smlN 84 _ (by decide +kernel) (by decide) _)) .nil
  refine .s 54 (fun yy => .pointer (some ⟨w.heap.size + 1, 0, none⟩)) (fun yy => .agg (cu 0 0 (aN 13) (bN 13) (oN 13) (xN 13) (yN 13) 0 0 false)) fun yw1 v1 hg h1 => ?_
  have HT := (c2.gr hg).h
  have FT := (c2.gr hg).f
  refine ⟨setBlk v1 (w.heap.size + 1) (cu 0 0 (aN 13) (bN 13) (oN 13) (xN 13) (yN 13) 0 0 false), by simp [go_sem, exI, HT, FT], ?_⟩
  simp only [FW, putFrom, Act.put, List.setIfInBounds_toArray, List.set_cons_zero, List.set_cons_succ, wvals, kW, List.getD_cons_zero, List.getD_cons_succ, Kw.c]
  clear h1
  replace G := G.trans hg
  replace c1 := c1.gr hg
  replace c2 := c2.gr hg
  clear hg
  go_wp2_with fail
  exact bodyPost_ret (res_one Tryz.results91 (rd_cu (by rfl) (blk_setBlk _ _ _ (by rw [HT, cu_size]; decide)))) rfl ⟨rfl, gr_setNew G (by omega)⟩
set_option maxRecDepth 100000 in
set_option maxHeartbeats 1600000 in
theorem mk_14  (w : World) :
    Calls Tryz.prog 92 #[.agg (nw 9 (pN 14))] w fun e w' => e = .returned (.agg (cu 0 0 (aN 14) (bN 14) (oN 14) (xN 14) (yN 14) 0 0 false)) ∧ Gr w w' := by
  go_enter Tryz.func92, Tryz.ntmps92
  go_upto_region 1 with fail
  refine gen_w (fun v => Gr w v ∧ Vr v (w.heap.size) (nw 9 (pN 14)) ∧ Vr v (w.heap.size + 1) (cu 0 0 0 0 0 0 0 0 0 false)) ⟨(by repeat (first | exact Gr.refl _ | apply Gr.drewN | apply Gr.drew | apply Gr.alloc | apply Gr.gro)), ⟨by simp [go_sem], by simp [go_sem], by simp [go_sem]⟩, ⟨by simp [go_sem], by simp [go_sem], by simp [go_sem]⟩⟩ ?_
  rintro v0 ⟨G, c1, c2⟩
  refine wp_wTS 7 [.c (.agg (nw 9 (aN 14))), .c (.agg (nw 9 (bN 14))), .c (.agg (nw 9 (oN 14))), .c (.agg (nw 9 (xN 14))), .c (.agg (nw 9 (yN 14))), .c (.agg (pnt (xN 14) (yN 14) false)), .c (.agg (cu 0 0 (aN 14) (bN 14) (oN 14) (xN 14) (yN 14) 0 0 false))] [0, 1, 2, 3, 4] ?hs14 ?hf14
  case hs14 =>
   refine .cons (.k _ fun yy vv hg hh => RtW.of_c (smlN 0 _ (by decide +kernel) (by decide) _)) ?_
   refine .cons (.k _ fun yy vv hg hh => RtW.of_c (smlN 13 _ (by decide +kernel) (by decide) _)) ?_
   refine .cons (.k _ fun yy vv hg hh => RtW.of_c (smlN 211 _ (by decide +kernel) (by decide) _)) ?_
   refine .cons (.k _ fun yy vv hg hh => RtW.of_c (smlN 3 _ (by decide +kernel) (by decide) _)) ?_
   refine .cons (.k _ fun yy vv hg hh => RtW.of_c (smlN 47 _ (by decide +kernel) (by decide) _)) .nil
  refine .s 54 (fun yy => .pointer (some ⟨w.heap.size + 1, 0, none⟩)) (fun yy => .agg (cu 0 0 (aN 14) (bN 14) (oN 14) (xN 14) (yN 14) 0 0 false)) fun yw1 v1 hg h1 => ?_
  have HT := (c2.gr hg).h
  have FT := (c2.gr hg).f
  refine ⟨setBlk v1 (w.heap.size + 1) (cu 0 0 (aN 14) (bN 14) (oN 14) (xN 14) (yN 14) 0 0 false), by simp [go_sem, exI, HT, FT], ?_⟩
  simp only [FW, putFrom, Act.put, List.setIfInBounds_toArray, List.set_cons_zero, List.set_cons_succ, wvals, kW, List.getD_cons_zero, List.getD_cons_succ, Kw.c]
  clear h1
  replace G := G.trans hg
  replace c1 := c1.gr hg
  replace c2 := c2.gr hg
  clear hg
  go_wp2_with fail
  exact bodyPost_ret (res_one Tryz.results92 (rd_cu (by rfl) (blk_setBlk _ _ _ (by rw [HT, cu_size]; decide)))) rfl ⟨rfl, gr_setNew G (by omega)⟩
set_option maxRecDepth 100000 in
set_option maxHeartbeats 1600000 in
theorem mk_15  (w : World) :
    Calls Tryz.prog 93 #[.agg (nw 9 (pN 15))] w fun e w' => e = .returned (.agg (cu 0 0 (aN 15) (bN 15) (oN 15) (xN 15) (yN 15) 0 0 false)) ∧ Gr w w' := by
  go_enter Tryz.func93, Tryz.ntmps93
  go_upto_region 1 with fail
  refine gen_w (fun v => Gr w v ∧ Vr v (w.heap.size) (nw 9 (pN 15)) ∧ Vr v (w.heap.size + 1) (cu 0 0 0 0 0 0 0 0 0 false)) ⟨(by repeat (first | exact Gr.refl _ | apply Gr.drewN | apply Gr.drew | apply Gr.alloc | apply Gr.gro)), ⟨by simp [go_sem], by simp [go_sem], by simp [go_sem]⟩, ⟨by simp [go_sem], by simp [go_sem], by simp [go_sem]⟩⟩ ?_
  rintro v0 ⟨G, c1, c2⟩
  refine wp_wTS 7 [.c (.agg (nw 9 (aN 15))), .c (.agg (nw 9 (bN 15))), .c (.agg (nw 9 (oN 15))), .c (.agg (nw 9 (xN 15))), .c (.agg (nw 9 (yN 15))), .c (.agg (pnt (xN 15) (yN 15) false)), .c (.agg (cu 0 0 (aN 15) (bN 15) (oN 15) (xN 15) (yN 15) 0 0 false))] [0, 1, 2, 3, 4] ?hs15 ?hf15
  case hs15 =>
   refine .cons (.k _ fun yy vv hg hh => RtW.of_c (smlN 117 _ (by decide +kernel) (by decide) _)) ?_
   refine .cons (.k _ fun yy vv hg hh => RtW.of_c (smlN 8 _ (by decide +kernel) (by decide) _)) ?_
   refine .cons (.k _ fun yy vv hg hh => RtW.of_c (smlN 229 _ (by decide +kernel) (by decide) _)) ?_
   refine .cons (.k _ fun yy vv hg hh => RtW.of_c (smlN 0 _ (by decide +kernel) (by decide) _)) ?_
   refine .cons (.k _ fun yy vv hg hh => RtW.of_c (smlN 41 _ (by decide +kernel) (by decide) _)) .nil
  refine .s 54 (fun yy => .pointer (some ⟨w.heap.size + 1, 0, none⟩)) (fun yy => .agg (cu 0 0 (aN 15) (bN 15) (oN 15) (xN 15) (yN 15) 0 0 false)) fun yw1 v1 hg h1 => ?_
  have HT := (c2.gr hg).h
  have FT := (c2.gr hg).f
  refine ⟨setBlk v1 (w.heap.size + 1) (cu 0 0 (aN 15) (bN 15) (oN 15) (xN 15) (yN 15) 0 0 false), by simp [go_sem, exI, HT, FT], ?_⟩
  simp only [FW, putFrom, Act.put, List.setIfInBounds_toArray, List.set_cons_zero, List.set_cons_succ, wvals, kW, List.getD_cons_zero, List.getD_cons_succ, Kw.c]
  clear h1
  replace G := G.trans hg
  replace c1 := c1.gr hg
  replace c2 := c2.gr hg
  clear hg
  go_wp2_with fail
  exact bodyPost_ret (res_one Tryz.results93 (rd_cu (by rfl) (blk_setBlk _ _ _ (by rw [HT, cu_size]; decide)))) rfl ⟨rfl, gr_setNew G (by omega)⟩

end Go.Proofs.YtlbkhhihkomahaaGreat
namespace Go.Proofs.YtlbkhhihkomahaaGreat
open Go.RowKit
/-- The makers by their numbers. -/
def tabM : Array Value := #[.nilFunc, fnT 79, fnT 80, fnT 81, fnT 82, fnT 83, fnT 84, fnT 85, fnT 86, fnT 87, fnT 88, fnT 89, fnT 90, fnT 91, fnT 92, fnT 93]
theorem tabM_size : tabM.size = 16 := rfl
theorem storeTm_is (p v : Value) : Instr.storeAt 109 p v = storeS 109 p v := rfl
theorem buildTm_is (p : Array (Nat × Value)) : Instr.build 109 p = buildF 109 p := rfl
theorem buildTm (w : World) : (buildF 109 #[(1, .func (.func 79) #[] #[]), (2, .func (.func 80) #[] #[]), (3, .func (.func 81) #[] #[]), (4, .func (.func 82) #[] #[]), (5, .func (.func 83) #[] #[]), (6, .func (.func 84) #[] #[]), (7, .func (.func 85) #[] #[]), (8, .func (.func 86) #[] #[]), (9, .func (.func 87) #[] #[]), (10, .func (.func 88) #[] #[]), (11, .func (.func 89) #[] #[]), (12, .func (.func 90) #[] #[]), (13, .func (.func 91) #[] #[]), (14, .func (.func 92) #[] #[]), (15, .func (.func 93) #[] #[])]).run Tryz.prog w = .ok (.agg tabM) w := by kernel_rfl
theorem storeTm (w : World) (b : Nat) (hs : (blk w b).size = 16) (hf : frz w b = (0, 0)) : (storeS 109 (.pointer (some ⟨b, 0, none⟩)) (.agg tabM)).run Tryz.prog w = .ok () (setBlk w b tabM) :=
  storeS_run 16 (by decide) (by kernel_rfl) w b tabM rfl (by simp [tabM, fnT, Value.oneCell']) hs hf
theorem eqFn (n : Nat) (w : World) : (binOp .eql 108 (.func (.func n) #[] #[]) .nilFunc).run Tryz.prog w = .ok (.bool false) w := by kernel_rfl
theorem eqFn0 (w : World) : (binOp .eql 108 .nilFunc .nilFunc).run Tryz.prog w = .ok (.bool true) w := by kernel_rfl
attribute [local go_sem ↓] loadNat_is loadArr_is loadWide_is loadArrW_is storeNat_is storeWide_is
attribute [local go_sem] loadNat loadArr loadWide loadArrW storeNat storeWide idxArr fold9 fold18 nw_size nw_elem pre_self pre_1 pre_2 pre_3 pre_4 pre_5 pre_6 pre_7 pre_8 pre_9 pre_10 pre_11 pre_12 pre_13 pre_14 pre_15 pre_16 pre_17 pre_18 pre_19 pre_20 pre_21 pre_22 pre_23 pre_24 pre_25 pre_26 pre_27 pre_28 pre_29 pre_30 pre_31 pre_32 pre_33 pre_34 pre_35 pre_36 pre_37 pre_38 pre_39 pre_40 gro_size gro_drew gro_drewN drew_gro drewN_gro gro_gro blk_gro frz_gro blk_drew frz_drew blk_drewN frz_drewN blk_alloc_at frz_alloc_at blk_alloc frz_alloc cell_gro frozen_gro cell_alloc_pre frozen_alloc_pre setCell_drewN alloc_drewN setBlk_drew setBlk_drewN setBlk_alloc_at setBlk_alloc setBlk_gro setCell_gro setCell_alloc_pre size_setBlk size_setCell
attribute [local go_sem] ppre_1 ppre_2 ppre_3 ppre_4 ppre_5 ppre_6
attribute [local go_sem ↓] storeTm_is buildTm_is zvCu_is zvEq_is storeCu_is storeEq_is loadCu_is loadEq_is buildCu_is buildEq_is buildPn_is Go.wp_at_zero Go.wp_at_succ
attribute [local go_sem] buildTm storeTm tabM_size eqFn eqFn0 zvCu zvEq storeCu storeEq loadCu loadEq loadCN storeCP buildCu0 buildEq0 buildEq1 cu_size cu_N cu_setP cu_set0 cu_set56 cu_set57 cu_set58 frz_setBlk blk_setBlk setBlk_setBlk blk_other setCell_setBlk
set_option maxRecDepth 100000 in
set_option maxHeartbeats 400000 in
theorem table_any (w : World) : Calls Tryz.prog 62 #[] w fun e w' => e = .returned (.agg tabM) ∧ Gr w w' := by
  go_enter Tryz.func62, Tryz.ntmps62
  go_wp2
  refine bodyPost_ret (res_one Tryz.results62 (rd_cell (c := tabM) 16 Tryz.underlying109 rfl (by kernel_rfl) (by rfl) ?_ rfl)) rfl ⟨rfl, (by repeat (first | exact Gr.refl _ | apply Gr.drewN | apply Gr.drew | apply Gr.alloc | apply Gr.gro))⟩
  simp [go_sem]
set_option maxRecDepth 100000 in
set_option maxHeartbeats 1600000 in
theorem find_no (x : Int) (h : x < 1 ∨ 15 < x) (w : World) : Calls Tryz.prog 48 #[.int .i64 x] w fun e w' => e = .returned (.tuple #[.agg (cu 0 0 0 0 0 0 0 0 0 false), .bool false]) ∧ Gr w w' := by
  have HT : Hid (∀ w, Calls Tryz.prog 62 #[] w fun e w' => e = .returned (.agg tabM) ∧ Gr w w') := fun w => table_any w
  have t0 : tabM[0]? = some .nilFunc := rfl
  by_cases x0 : x < 0
  · clear h
    go_enter Tryz.func48, Tryz.ntmps48
    go_wp2_with (go_at_call 62; refine (HT.out _).mono ?_; rintro e w' ⟨rfl, g, rfl⟩)
    refine bodyPost_ret (res_two Tryz.results48 (rd_eq (by rfl) ?_) (rd_tmp (by rfl))) rfl ⟨rfl, (by repeat (first | exact Gr.refl _ | apply Gr.drewN | apply Gr.drew | apply Gr.alloc | apply Gr.gro))⟩
    simp [go_sem]
  · by_cases x1 : x = 0
    · subst x1
      clear h x0
      go_enter Tryz.func48, Tryz.ntmps48
      go_wp2_with (go_at_call 62; refine (HT.out _).mono ?_; rintro e w' ⟨rfl, g, rfl⟩)
      refine bodyPost_ret (res_two Tryz.results48 (rd_eq (by rfl) ?_) (rd_tmp (by rfl))) rfl ⟨rfl, (by repeat (first | exact Gr.refl _ | apply Gr.drewN | apply Gr.drew | apply Gr.alloc | apply Gr.gro))⟩
      simp [go_sem]
    · have x2 : 16 ≤ x := by omega
      have x3 : 0 ≤ x := by omega
      clear h x1
      go_enter Tryz.func48, Tryz.ntmps48
      go_wp2_with (go_at_call 62; refine (HT.out _).mono ?_; rintro e w' ⟨rfl, g, rfl⟩)
      refine bodyPost_ret (res_two Tryz.results48 (rd_eq (by rfl) ?_) (rd_tmp (by rfl))) rfl ⟨rfl, (by repeat (first | exact Gr.refl _ | apply Gr.drewN | apply Gr.drew | apply Gr.alloc | apply Gr.gro))⟩
      simp [go_sem]
attribute [local go_sem] cell_blk frz_at cu_0 cu_56 cu_57 cu_58
set_option maxRecDepth 100000 in
set_option maxHeartbeats 3200000 in
theorem find_of (i f P A B N X Y s t : Nat) (z : Int) (b1 b7 : Bool) (h1 : 1 ≤ i) (h2 : i ≤ 15) (hb1 : ((i : Int) == 1) = b1) (hb7 : ((i : Int) == 7) = b7) (ht : tabM[i]? = some (.func (.func f) #[] #[])) (hz : ((t : Int) + 7) / 8 = z) (hs : s ≤ 576) (ht6 : t ≤ 576)
    (hcf : ∀ w, (callFunc f #[.agg (nw 9 P)]).run Tryz.prog w = .ok (.enter f #[.agg (nw 9 P)]) w)
    (HO' : ∀ w, Calls Tryz.prog 63 #[.int .i64 (i : Int)] w fun e w' => e = .returned (.tuple #[.agg (nw 9 P), .bool true]) ∧ Gr w w')
    (HM' : ∀ w, Calls Tryz.prog f #[.agg (nw 9 P)] w fun e w' => e = .returned (.agg (cu 0 0 A B N X Y 0 0 false)) ∧ Gr w w')
    (HN' : ∀ w, Calls Tryz.prog 59 #[.agg (nw 9 N)] w fun e w' => e = .returned (.int .i64 (s : Int)) ∧ Gr w w')
    (HP' : ∀ w, Calls Tryz.prog 59 #[.agg (nw 9 P)] w fun e w' => e = .returned (.int .i64 (t : Int)) ∧ Gr w w') (w : World) :
    Calls Tryz.prog 48 #[.int .i64 (i : Int)] w fun e w' => e = .returned (.tuple #[.agg (cu i P A B N X Y s z (b1 || b7)), .bool true]) ∧ Gr w w' := by
  have HT : Hid (∀ w, Calls Tryz.prog 62 #[] w fun e w' => e = .returned (.agg tabM) ∧ Gr w w') := fun w => table_any w
  have HO : Hid (∀ w, Calls Tryz.prog 63 #[.int .i64 (i : Int)] w fun e w' => e = .returned (.tuple #[.agg (nw 9 P), .bool true]) ∧ Gr w w') := HO'
  have HM : Hid (∀ w, Calls Tryz.prog f #[.agg (nw 9 P)] w fun e w' => e = .returned (.agg (cu 0 0 A B N X Y 0 0 false)) ∧ Gr w w') := HM'
  have HN : Hid (∀ w, Calls Tryz.prog 59 #[.agg (nw 9 N)] w fun e w' => e = .returned (.int .i64 (s : Int)) ∧ Gr w w') := HN'
  have HP : Hid (∀ w, Calls Tryz.prog 59 #[.agg (nw 9 P)] w fun e w' => e = .returned (.int .i64 (t : Int)) ∧ Gr w w') := HP'
  have i0 : (0 : Int) ≤ (i : Int) := by omega
  have i1 : (i : Int) < 16 := by omega
  have HZ : Hid (Unit → ((t : Int) + 7) / 8 = z ∧ s ≤ 576 ∧ t ≤ 576) := fun _ => ⟨hz, hs, ht6⟩
  have HB : Hid (Unit → ((i : Int) == 1) = b1 ∧ ((i : Int) == 7) = b7) := fun _ => ⟨hb1, hb7⟩
  clear HO' HM' HN' HP' h1 h2 hz hs ht6 hb1 hb7
  go_enter Tryz.func48, Tryz.ntmps48
  go_upto_region 5 with (first
    | (go_at_call 62; refine (HT.out _).mono ?_; rintro e w' ⟨rfl, g1, rfl⟩)
    | (go_at_call 63; refine (HO.out _).mono ?_; rintro e w' ⟨rfl, g2, rfl⟩))
  obtain ⟨b4, hb4⟩ : ∃ b, w.heap.size + 1 + g1.os.length = b := ⟨_, rfl⟩
  simp only [hb4]
  obtain ⟨b5, hb5⟩ : ∃ b, b4 + 1 + g2.os.length = b := ⟨_, rfl⟩
  simp only [hb5]
  refine gen_w (fun v => Hid (Gr w v ∧ Vr v w.heap.size (cu 0 0 0 0 0 0 0 0 0 false) ∧ Vr v b4 tabM ∧ Vr v b5 (nw 9 P))) ?_ ?_
  · subst hb5 hb4
    exact ⟨(by repeat (first | exact Gr.refl _ | apply Gr.drewN | apply Gr.drew | apply Gr.alloc | apply Gr.gro)), ⟨by simp [go_sem], by simp [go_sem], by simp [go_sem]⟩, ⟨by simp [go_sem], by simp [go_sem], by simp [go_sem]⟩, ⟨by simp [go_sem], by simp [go_sem], by simp [go_sem]⟩⟩
  intro v0 HV
  obtain ⟨G, c2, c4, c5⟩ := HV.out
  have n5 : w.heap.size ≤ b5 := by omega
  have n2 : ¬ b5 = w.heap.size := by omega
  refine wp_region_qT (by kernel_rfl) (by kernel_rfl) 6 (by kernel_rfl) [.c (.int .i64 i), .c (.pointer (some ⟨b4, i, none⟩)), .c (.func (.func f) #[] #[]), .c (.agg (nw 9 P)), .c (.agg (cu 0 0 A B N X Y 0 0 false)), .v (v0.heap.size) (cu 0 0 0 0 0 0 0 0 0 false)] ?hs ?hf
  case hs =>
    intro listed vals a1 v io oo hg hR hF ho hi hd
    have H5 : blk v b5 = nw 9 P := (hg.blk _ c5.p).trans c5.h
    have H4 : blk v b4 = tabM := (hg.blk _ c4.p).trans c4.h
    obtain rfl | rfl | rfl | rfl | rfl | rfl : io = 0 ∨ io = 1 ∨ io = 2 ∨ io = 3 ∨ io = 4 ∨ io = 5 := by omega
    · obtain rfl := Option.some.inj ho
      have f0 := hF.old (s := 0) (v := .int .i64 i) (by kernel_rfl) rfl
      refine Or.inl ⟨wanted_no rfl, ?_⟩
      exact wp_val (.int .i64 i) (by simp [go_sem, f0]) ⟨_, rfl, Gr.refl _, rfl⟩
    · obtain rfl := Option.some.inj ho
      have f0 := hF.old (s := 4) (v := .pointer (some ⟨b4, 0, none⟩)) (by kernel_rfl) rfl
      have l1 := on_of hd 0 (by kernel_rfl)
      have f1 := hF.at (s := 27) (i := 0) (by kernel_rfl) (by simp) l1
      have e1 : vals 0 = .int .i64 i := hR 0 l1
      rw [e1] at f1
      refine Or.inl ⟨wanted_no rfl, ?_⟩
      exact wp_val (.pointer (some ⟨b4, i, none⟩)) (by simp [go_sem, f0, f1, i0, i1]) ⟨_, rfl, Gr.refl _, rfl⟩
    · obtain rfl := Option.some.inj ho
      have l0 := on_of hd 1 (by kernel_rfl)
      have f0 := hF.at (s := 28) (i := 1) (by kernel_rfl) (by simp) l0
      have e0 : vals 1 = .pointer (some ⟨b4, i, none⟩) := hR 1 l0
      rw [e0] at f0
      refine Or.inl ⟨wanted_no rfl, ?_⟩
      exact wp_val (.func (.func f) #[] #[]) (by simp [go_sem, f0, H4, ht]) ⟨_, rfl, Gr.refl _, rfl⟩
    · obtain rfl := Option.some.inj ho
      have f0 := hF.old (s := 5) (v := .pointer (some ⟨b5, 0, none⟩)) (by kernel_rfl) rfl
      refine Or.inl ⟨wanted_no rfl, ?_⟩
      exact wp_val (.agg (nw 9 P)) (by simp [go_sem, f0, H5]) ⟨_, rfl, Gr.refl _, rfl⟩
    · obtain rfl := Option.some.inj ho
      have l0 := on_of hd 2 (by kernel_rfl)
      have f0 := hF.at (s := 29) (i := 2) (by kernel_rfl) (by simp) l0
      have e0 : vals 2 = .func (.func f) #[] #[] := hR 2 l0
      rw [e0] at f0
      have l1 := on_of hd 3 (by kernel_rfl)
      have f1 := hF.at (s := 30) (i := 3) (by kernel_rfl) (by simp) l1
      have e1 : vals 3 = .agg (nw 9 P) := hR 3 l1
      rw [e1] at f1
      refine Or.inl ⟨wanted_no rfl, ?_⟩
      exact wp_retz (k := .c (.agg (cu 0 0 A B N X Y 0 0 false))) (by simp [go_sem, f0, f1, hcf]) (Rt.c (HM.out v)) (fun u w2 hu hg2 => ⟨_, rfl, hg2, hu⟩)
    · obtain rfl := Option.some.inj ho
      refine Or.inl ⟨wanted_no rfl, ?_⟩
      exact wp_val (.pointer (some ⟨v.heap.size, 0, none⟩)) (w' := v.alloc (.cells (cu 0 0 0 0 0 0 0 0 0 false) 54)) (by simp [go_sem]) ⟨_, rfl, (Gr.refl _).alloc _, v.heap.size, rfl, Nat.le_trans (Nat.le_refl _) hg.below.size, Vr.new _ _ _⟩
  case hf =>
    intro listed vals a1 v oo hg hR hF hall ho
    have H5 : blk v b5 = nw 9 P := (hg.blk _ c5.p).trans c5.h
    have H4 : blk v b4 = tabM := (hg.blk _ c4.p).trans c4.h
    obtain rfl := Option.some.inj ho
    have l105 := hall 5 (by decide)
    have f105 := hF.at (s := 7) (i := 5) (by kernel_rfl) (by simp) l105
    obtain ⟨b105, e105, N105, V105⟩ := (show ∃ b, vals 5 = Value.pointer (some ⟨b, 0, none⟩) ∧ (v0.heap.size) ≤ b ∧ Vr v b (cu 0 0 0 0 0 0 0 0 0 false) from hR 5 (by decide))
    rw [e105] at f105
    have l104 := hall 4 (by decide)
    have f104 := hF.at (s := 31) (i := 4) (by kernel_rfl) (by simp) l104
    have e104 : vals 4 = .agg (cu 0 0 A B N X Y 0 0 false) := hR 4 (by decide)
    rw [e104] at f104
    refine wp_skip (w' := setBlk v b105 (cu 0 0 A B N X Y 0 0 false)) (by simp [go_sem, f105, f104, V105.h, V105.f]) ⟨rfl, ?_⟩
    have e100 : vals 0 = .int .i64 i := hR 0 (by decide)
    have e101 : vals 1 = .pointer (some ⟨b4, i, none⟩) := hR 1 (by decide)
    have e102 : vals 2 = .func (.func f) #[] #[] := hR 2 (by decide)
    have e103 : vals 3 = .agg (nw 9 P) := hR 3 (by decide)
    simp only [putFrom, Act.put, List.setIfInBounds_toArray, List.set_cons_zero, List.set_cons_succ, e100, e101, e102, e103, e104, e105]
    clear hR hF hall e100 e101 e102 e103 e104 e105
    obtain ⟨G1, d2, d5⟩ : Gr w v ∧ Vr v w.heap.size (cu 0 0 0 0 0 0 0 0 0 false) ∧ Vr v b5 (nw 9 P) := ⟨G.trans hg, c2.gr hg, c5.gr hg⟩
    have m2 : b105 ≠ w.heap.size := by have : w.heap.size + 1 ≤ v0.heap.size := c2.p; have := N105; omega
    have m5 : b105 ≠ b5 := by have : b5 + 1 ≤ v0.heap.size := c5.p; have := N105; omega
    have m1 : w.heap.size ≤ b105 := by have : w.heap.size + 1 ≤ v0.heap.size := c2.p; have := N105; omega
    go_upto_region 6 with fail
    refine gen_w (fun u => Hid (Gr w u ∧ Vr u w.heap.size (cu 0 0 0 0 0 0 0 0 0 false) ∧ Vr u b5 (nw 9 P) ∧ Vr u b105 (cu 0 0 A B N X Y 0 0 false))) ⟨gr_setNew G1 m1, d2.other m2, d5.other m5, V105.set (by rw [cu_size]; decide) _⟩ ?_
    intro u0 HU
    clear HV G c2 c4 c5 n5 n2 V105 G1 d2 d5 N105 hg
    obtain ⟨G, ⟨h2, f2, p2⟩, ⟨h5, f5, p5⟩, ⟨h7, f7, p7⟩⟩ := HU.out
    have m3 : ¬ w.heap.size = b105 := fun h => m2 h.symm
    have z0 := (HZ.out ()).1
    have z1 : (s : Int) ≤ 576 := by have := HZ.out (); omega
    have z2 : (t : Int) ≤ 576 := by have := HZ.out (); omega
    have z3 : (0 : Int) ≤ (t : Int) := by omega
    have z4 : z ≤ 100 := by omega
    have z5 : 0 ≤ z := by omega
    obtain ⟨hb1, hb7⟩ := HB.out ()
    clear HU HT HO HM
    cases b1 <;> cases b7
    all_goals
      go_wp2_with (first
        | (go_at_call_of 59 (Value.agg (nw 9 N)); refine (HN.out _).mono ?_; rintro e w' ⟨rfl, g3, rfl⟩)
        | (go_at_call_of 59 (Value.agg (nw 9 P)); refine (HP.out _).mono ?_; rintro e w' ⟨rfl, g4, rfl⟩))
      refine bodyPost_ret (res_two Tryz.results48 (rd_eq (by rfl) ?_) (rd_tmp (by rfl))) rfl ⟨rfl, ?_⟩
      · simp [go_sem, *]
      · repeat (first | exact G | apply Gr.drewN | apply Gr.drew | apply Gr.alloc | apply Gr.gro | (refine gr_setNew ?_ (by omega)))

end Go.Proofs.YtlbkhhihkomahaaGreat
namespace Go.Proofs.YtlbkhhihkomahaaGreat
open Go.RowKit
theorem at_of {c : Array Value} {i : Nat} {v : Value} (e : c[i]? = some v) (h : i < c.size) : c[i] = v := by
  rw [Array.getElem?_eq_getElem h] at e
  exact Option.some.inj e
theorem eqNatIn (d x y : Nat) (w : World) : (Op.equalIn (d + 3) 25 (.agg (nw 9 x)) (.agg (nw 9 y))).run Tryz.prog w = .ok (eqN 9 x y) w := by
  have hf : Tryz.prog.underlying 25 = some (.struct (Tryz.prog.fieldsOf 25)) := by kernel_rfl
  rw [run_equalIn_struct w (d + 2) 25 _ _ hf (by kernel_rfl)]
  simp [go_sem, Op.eqFields, Program.fieldsOf, part, nw_extract]
  rw [eqArr d]
  cases eqN 9 x y <;> simp [Result.andThen]
section
variable (x y : Nat) (f : Bool) (x' y' : Nat) (f' : Bool)
theorem pnt_at18 (h : 18 < (pnt x y f).size) : (pnt x y f)[18]'h = .bool f := at_of (pnt_18 x y f) h
theorem eqPnIn (d : Nat) (w : World) : (Op.equalIn (d + 4) 27 (.agg (pnt x y f)) (.agg (pnt x' y' f'))).run Tryz.prog w = .ok (eqN 9 x x' && (eqN 9 y y' && (f == f'))) w := by
  have hf : Tryz.prog.underlying 27 = some (.struct (Tryz.prog.fieldsOf 27)) := by kernel_rfl
  rw [run_equalIn_struct w (d + 3) 27 _ _ hf (by kernel_rfl)]
  simp [go_sem, Op.eqFields, Program.fieldsOf, part, pnt_X, pnt_Y, pnt_size, pnt_at18, eqNatIn]
  cases eqN 9 x x' <;> cases eqN 9 y y' <;> cases f <;> cases f' <;> simp
theorem eqPn (w : World) : (binOp .eql 27 (.agg (pnt x y f)) (.agg (pnt x' y' f'))).run Tryz.prog w = .ok (.bool (eqN 9 x x' && (eqN 9 y y' && (f == f')))) w := by
  rw [run_eql_struct, show (10000 : Nat) = 9996 + 4 from rfl, eqPnIn]
  rfl
end
end Go.Proofs.YtlbkhhihkomahaaGreat
namespace Go.Proofs.YtlbkhhihkomahaaGreat
open Go.RowKit
theorem bl_576 (a : Nat) (h : a < M) : bl a ≤ 576 := by exact bl_pwk a 9 h
/-- How many bytes P has. -/
def szN (i : Nat) : Nat := (bl (pN i) + 7) / 8
/-- For verifying alone? -/
def lgN (i : Nat) : Bool := ((i : Int) == 1) || ((i : Int) == 7)
/-- A curve's cells. -/
def cuN (i : Nat) : Array Value := cu i (pN i) (aN i) (bN i) (oN i) (xN i) (yN i) (bl (oN i)) (szN i) (lgN i)
theorem oN_bd (i : Nat) : oN i < M := by
  unfold oN
  split <;> decide +kernel
theorem pN_M (i : Nat) : pN i < M := by
  unfold pN
  split <;> decide +kernel
theorem find_1 (w : World) : Calls Tryz.prog 48 #[.int .i64 1] w fun e w' => e = .returned (.tuple #[.agg (cuN 1), .bool true]) ∧ Gr w w' :=
  find_of 1 79 (pN 1) (aN 1) (bN 1) (oN 1) (xN 1) (yN 1) (bl (oN 1)) (bl (pN 1)) (szN 1) _ _ (by decide) (by decide) rfl rfl rfl (by simp [szN]) (bl_576 _ (oN_bd _)) (bl_576 _ (pN_M _)) (fun w => by kernel_rfl) (of_1) mk_1 (fun w => bits_any _ (oN_bd _) w) (fun w => bits_any _ (pN_M _) w) w
theorem find_2 (w : World) : Calls Tryz.prog 48 #[.int .i64 2] w fun e w' => e = .returned (.tuple #[.agg (cuN 2), .bool true]) ∧ Gr w w' :=
  find_of 2 80 (pN 2) (aN 2) (bN 2) (oN 2) (xN 2) (yN 2) (bl (oN 2)) (bl (pN 2)) (szN 2) _ _ (by decide) (by decide) rfl rfl rfl (by simp [szN]) (bl_576 _ (oN_bd _)) (bl_576 _ (pN_M _)) (fun w => by kernel_rfl) (of_2) mk_2 (fun w => bits_any _ (oN_bd _) w) (fun w => bits_any _ (pN_M _) w) w
theorem find_3 (w : World) : Calls Tryz.prog 48 #[.int .i64 3] w fun e w' => e = .returned (.tuple #[.agg (cuN 3), .bool true]) ∧ Gr w w' :=
  find_of 3 81 (pN 3) (aN 3) (bN 3) (oN 3) (xN 3) (yN 3) (bl (oN 3)) (bl (pN 3)) (szN 3) _ _ (by decide) (by decide) rfl rfl rfl (by simp [szN]) (bl_576 _ (oN_bd _)) (bl_576 _ (pN_M _)) (fun w => by kernel_rfl) (of_3) mk_3 (fun w => bits_any _ (oN_bd _) w) (fun w => bits_any _ (pN_M _) w) w
theorem find_4 (w : World) : Calls Tryz.prog 48 #[.int .i64 4] w fun e w' => e = .returned (.tuple #[.agg (cuN 4), .bool true]) ∧ Gr w w' :=
  find_of 4 82 (pN 4) (aN 4) (bN 4) (oN 4) (xN 4) (yN 4) (bl (oN 4)) (bl (pN 4)) (szN 4) _ _ (by decide) (by decide) rfl rfl rfl (by simp [szN]) (bl_576 _ (oN_bd _)) (bl_576 _ (pN_M _)) (fun w => by kernel_rfl) (of_4) mk_4 (fun w => bits_any _ (oN_bd _) w) (fun w => bits_any _ (pN_M _) w) w
theorem find_5 (w : World) : Calls Tryz.prog 48 #[.int .i64 5] w fun e w' => e = .returned (.tuple #[.agg (cuN 5), .bool true]) ∧ Gr w w' :=
  find_of 5 83 (pN 5) (aN 5) (bN 5) (oN 5) (xN 5) (yN 5) (bl (oN 5)) (bl (pN 5)) (szN 5) _ _ (by decide) (by decide) rfl rfl rfl (by simp [szN]) (bl_576 _ (oN_bd _)) (bl_576 _ (pN_M _)) (fun w => by kernel_rfl) (of_5) mk_5 (fun w => bits_any _ (oN_bd _) w) (fun w => bits_any _ (pN_M _) w) w
theorem find_6 (w : World) : Calls Tryz.prog 48 #[.int .i64 6] w fun e w' => e = .returned (.tuple #[.agg (cuN 6), .bool true]) ∧ Gr w w' :=
  find_of 6 84 (pN 6) (aN 6) (bN 6) (oN 6) (xN 6) (yN 6) (bl (oN 6)) (bl (pN 6)) (szN 6) _ _ (by decide) (by decide) rfl rfl rfl (by simp [szN]) (bl_576 _ (oN_bd _)) (bl_576 _ (pN_M _)) (fun w => by kernel_rfl) (of_6) mk_6 (fun w => bits_any _ (oN_bd _) w) (fun w => bits_any _ (pN_M _) w) w
theorem find_7 (w : World) : Calls Tryz.prog 48 #[.int .i64 7] w fun e w' => e = .returned (.tuple #[.agg (cuN 7), .bool true]) ∧ Gr w w' :=
  find_of 7 85 (pN 7) (aN 7) (bN 7) (oN 7) (xN 7) (yN 7) (bl (oN 7)) (bl (pN 7)) (szN 7) _ _ (by decide) (by decide) rfl rfl rfl (by simp [szN]) (bl_576 _ (oN_bd _)) (bl_576 _ (pN_M _)) (fun w => by kernel_rfl) (of_7) mk_7 (fun w => bits_any _ (oN_bd _) w) (fun w => bits_any _ (pN_M _) w) w
theorem find_8 (w : World) : Calls Tryz.prog 48 #[.int .i64 8] w fun e w' => e = .returned (.tuple #[.agg (cuN 8), .bool true]) ∧ Gr w w' :=
  find_of 8 86 (pN 8) (aN 8) (bN 8) (oN 8) (xN 8) (yN 8) (bl (oN 8)) (bl (pN 8)) (szN 8) _ _ (by decide) (by decide) rfl rfl rfl (by simp [szN]) (bl_576 _ (oN_bd _)) (bl_576 _ (pN_M _)) (fun w => by kernel_rfl) (of_8) mk_8 (fun w => bits_any _ (oN_bd _) w) (fun w => bits_any _ (pN_M _) w) w
theorem find_9 (w : World) : Calls Tryz.prog 48 #[.int .i64 9] w fun e w' => e = .returned (.tuple #[.agg (cuN 9), .bool true]) ∧ Gr w w' :=
  find_of 9 87 (pN 9) (aN 9) (bN 9) (oN 9) (xN 9) (yN 9) (bl (oN 9)) (bl (pN 9)) (szN 9) _ _ (by decide) (by decide) rfl rfl rfl (by simp [szN]) (bl_576 _ (oN_bd _)) (bl_576 _ (pN_M _)) (fun w => by kernel_rfl) (of_9) mk_9 (fun w => bits_any _ (oN_bd _) w) (fun w => bits_any _ (pN_M _) w) w
theorem find_10 (w : World) : Calls Tryz.prog 48 #[.int .i64 10] w fun e w' => e = .returned (.tuple #[.agg (cuN 10), .bool true]) ∧ Gr w w' :=
  find_of 10 88 (pN 10) (aN 10) (bN 10) (oN 10) (xN 10) (yN 10) (bl (oN 10)) (bl (pN 10)) (szN 10) _ _ (by decide) (by decide) rfl rfl rfl (by simp [szN]) (bl_576 _ (oN_bd _)) (bl_576 _ (pN_M _)) (fun w => by kernel_rfl) (of_10) mk_10 (fun w => bits_any _ (oN_bd _) w) (fun w => bits_any _ (pN_M _) w) w
theorem find_11 (w : World) : Calls Tryz.prog 48 #[.int .i64 11] w fun e w' => e = .returned (.tuple #[.agg (cuN 11), .bool true]) ∧ Gr w w' :=
  find_of 11 89 (pN 11) (aN 11) (bN 11) (oN 11) (xN 11) (yN 11) (bl (oN 11)) (bl (pN 11)) (szN 11) _ _ (by decide) (by decide) rfl rfl rfl (by simp [szN]) (bl_576 _ (oN_bd _)) (bl_576 _ (pN_M _)) (fun w => by kernel_rfl) (of_11) mk_11 (fun w => bits_any _ (oN_bd _) w) (fun w => bits_any _ (pN_M _) w) w
theorem find_12 (w : World) : Calls Tryz.prog 48 #[.int .i64 12] w fun e w' => e = .returned (.tuple #[.agg (cuN 12), .bool true]) ∧ Gr w w' :=
  find_of 12 90 (pN 12) (aN 12) (bN 12) (oN 12) (xN 12) (yN 12) (bl (oN 12)) (bl (pN 12)) (szN 12) _ _ (by decide) (by decide) rfl rfl rfl (by simp [szN]) (bl_576 _ (oN_bd _)) (bl_576 _ (pN_M _)) (fun w => by kernel_rfl) (of_12) mk_12 (fun w => bits_any _ (oN_bd _) w) (fun w => bits_any _ (pN_M _) w) w
theorem find_13 (w : World) : Calls Tryz.prog 48 #[.int .i64 13] w fun e w' => e = .returned (.tuple #[.agg (cuN 13), .bool true]) ∧ Gr w w' :=
  find_of 13 91 (pN 13) (aN 13) (bN 13) (oN 13) (xN 13) (yN 13) (bl (oN 13)) (bl (pN 13)) (szN 13) _ _ (by decide) (by decide) rfl rfl rfl (by simp [szN]) (bl_576 _ (oN_bd _)) (bl_576 _ (pN_M _)) (fun w => by kernel_rfl) (of_13) mk_13 (fun w => bits_any _ (oN_bd _) w) (fun w => bits_any _ (pN_M _) w) w
theorem find_14 (w : World) : Calls Tryz.prog 48 #[.int .i64 14] w fun e w' => e = .returned (.tuple #[.agg (cuN 14), .bool true]) ∧ Gr w w' :=
  find_of 14 92 (pN 14) (aN 14) (bN 14) (oN 14) (xN 14) (yN 14) (bl (oN 14)) (bl (pN 14)) (szN 14) _ _ (by decide) (by decide) rfl rfl rfl (by simp [szN]) (bl_576 _ (oN_bd _)) (bl_576 _ (pN_M _)) (fun w => by kernel_rfl) (of_14) mk_14 (fun w => bits_any _ (oN_bd _) w) (fun w => bits_any _ (pN_M _) w) w
theorem find_15 (w : World) : Calls Tryz.prog 48 #[.int .i64 15] w fun e w' => e = .returned (.tuple #[.agg (cuN 15), .bool true]) ∧ Gr w w' :=
  find_of 15 93 (pN 15) (aN 15) (bN 15) (oN 15) (xN 15) (yN 15) (bl (oN 15)) (bl (pN 15)) (szN 15) _ _ (by decide) (by decide) rfl rfl rfl (by simp [szN]) (bl_576 _ (oN_bd _)) (bl_576 _ (pN_M _)) (fun w => by kernel_rfl) (of_15) mk_15 (fun w => bits_any _ (oN_bd _) w) (fun w => bits_any _ (pN_M _) w) w
theorem find_yes (i : Nat) (h1 : 1 ≤ i) (h2 : i ≤ 15) (w : World) : Calls Tryz.prog 48 #[.int .i64 (i : Int)] w fun e w' => e = .returned (.tuple #[.agg (cuN i), .bool true]) ∧ Gr w w' := by
  obtain rfl | rfl | rfl | rfl | rfl | rfl | rfl | rfl | rfl | rfl | rfl | rfl | rfl | rfl | rfl : i = 1 ∨ i = 2 ∨ i = 3 ∨ i = 4 ∨ i = 5 ∨ i = 6 ∨ i = 7 ∨ i = 8 ∨ i = 9 ∨ i = 10 ∨ i = 11 ∨ i = 12 ∨ i = 13 ∨ i = 14 ∨ i = 15 := by omega
  · exact find_1 w
  · exact find_2 w
  · exact find_3 w
  · exact find_4 w
  · exact find_5 w
  · exact find_6 w
  · exact find_7 w
  · exact find_8 w
  · exact find_9 w
  · exact find_10 w
  · exact find_11 w
  · exact find_12 w
  · exact find_13 w
  · exact find_14 w
  · exact find_15 w
attribute [local go_sem ↓] loadNat_is loadArr_is loadWide_is loadArrW_is storeNat_is storeWide_is
attribute [local go_sem] loadNat loadArr loadWide loadArrW storeNat storeWide idxArr fold9 fold18 nw_size nw_elem pre_self pre_1 pre_2 pre_3 pre_4 pre_5 pre_6 pre_7 pre_8 pre_9 pre_10 pre_11 pre_12 pre_13 pre_14 pre_15 pre_16 pre_17 pre_18 pre_19 pre_20 pre_21 pre_22 pre_23 pre_24 pre_25 pre_26 pre_27 pre_28 pre_29 pre_30 pre_31 pre_32 pre_33 pre_34 pre_35 pre_36 pre_37 pre_38 pre_39 pre_40 gro_size gro_drew gro_drewN drew_gro drewN_gro gro_gro blk_gro frz_gro blk_drew frz_drew blk_drewN frz_drewN blk_alloc_at frz_alloc_at blk_alloc frz_alloc cell_gro frozen_gro cell_alloc_pre frozen_alloc_pre setCell_drewN alloc_drewN setBlk_drew setBlk_drewN setBlk_alloc_at setBlk_alloc setBlk_gro setCell_gro setCell_alloc_pre size_setBlk size_setCell
attribute [local go_sem] ppre_1 ppre_2 ppre_3 ppre_4 ppre_5 ppre_6
attribute [local go_sem ↓] zvCu_is zvEq_is storeCu_is storeEq_is loadCu_is loadEq_is loadPn_is buildCu_is buildEq_is buildPn_is Go.wp_at_zero Go.wp_at_succ
attribute [local go_sem] zvCu zvEq storeCu storeEq loadCu loadEq loadPn loadCP loadCA loadCB loadPX loadPY buildCu0 buildEq0 buildPnI cu_size cu_P cu_A cu_B pnt_size pnt_X pnt_Y frz_setBlk blk_setBlk setBlk_setBlk blk_other
set_option maxRecDepth 100000 in
set_option maxHeartbeats 400000 in
theorem get13_no (x : Int) (h : x < 1 ∨ 15 < x) (w : World) : Calls Tryz.prog 25 #[.int .i64 x] w fun e w' => e = .returned (.tuple #[.agg (cu 0 0 0 0 0 0 0 0 0 false), .int .i64 1300]) ∧ Gr w w' := by
  have HF : Hid (∀ w, Calls Tryz.prog 48 #[.int .i64 x] w fun e w' => e = .returned (.tuple #[.agg (cu 0 0 0 0 0 0 0 0 0 false), .bool false]) ∧ Gr w w') := fun w => find_no x h w
  clear h
  go_enter Tryz.func25, Tryz.ntmps25
  go_wp2_with (go_at_call 48; refine (HF.out _).mono ?_; rintro e w' ⟨rfl, g, rfl⟩)
  refine bodyPost_ret (res_two Tryz.results25 (rd_cu (by rfl) ?_) (rd_tmp (by rfl))) rfl ⟨rfl, (by repeat (first | exact Gr.refl _ | apply Gr.drewN | apply Gr.drew | apply Gr.alloc | apply Gr.gro))⟩
  simp [go_sem]
set_option maxRecDepth 100000 in
set_option maxHeartbeats 400000 in
theorem get13_of (x : Int) (id : Int) (P A B N X Y : Nat) (s z : Int) (l : Bool) (HF' : ∀ w, Calls Tryz.prog 48 #[.int .i64 x] w fun e w' => e = .returned (.tuple #[.agg (cu id P A B N X Y s z l), .bool true]) ∧ Gr w w') (w : World) :
    Calls Tryz.prog 25 #[.int .i64 x] w fun e w' => e = .returned (.tuple #[.agg (cu id P A B N X Y s z l), .int .i64 0]) ∧ Gr w w' := by
  have HF : Hid (∀ w, Calls Tryz.prog 48 #[.int .i64 x] w fun e w' => e = .returned (.tuple #[.agg (cu id P A B N X Y s z l), .bool true]) ∧ Gr w w') := HF'
  clear HF'
  go_enter Tryz.func25, Tryz.ntmps25
  go_wp2_with (go_at_call 48; refine (HF.out _).mono ?_; rintro e w' ⟨rfl, g, rfl⟩)
  refine bodyPost_ret (res_two Tryz.results25 (rd_cu (by rfl) ?_) (rd_tmp (by rfl))) rfl ⟨rfl, (by repeat (first | exact Gr.refl _ | apply Gr.drewN | apply Gr.drew | apply Gr.alloc | apply Gr.gro))⟩
  simp [go_sem]
/-- What Get answers of a curve. -/
theorem get13_yes (i : Nat) (h1 : 1 ≤ i) (h2 : i ≤ 15) (w : World) : Calls Tryz.prog 25 #[.int .i64 (i : Int)] w fun e w' => e = .returned (.tuple #[.agg (cuN i), .int .i64 0]) ∧ Gr w w' :=
  get13_of i _ _ _ _ _ _ _ _ _ _ (find_yes i h1 h2) w
set_option maxRecDepth 100000 in
set_option maxHeartbeats 400000 in
theorem below13_any (id : Int) (P A B N X Y : Nat) (s z : Int) (l : Bool) (a : Nat) (f : Bool) (hP : P < M) (ha : a < M) (hf : decide (a < P) = f) (w : World) :
    Calls Tryz.prog 64 #[.agg (cu id P A B N X Y s z l), .agg (nw 9 a)] w fun e w' => e = .returned (.bool f) ∧ Gr w w' := by
  obtain ⟨c, hc⟩ : ∃ c, cmpZ a P = c := ⟨_, rfl⟩
  have HC : Hid (∀ w, Calls Tryz.prog 94 #[.agg (nw 9 a), .agg (nw 9 P)] w fun e w' => e = .returned (.int .i64 c) ∧ Gr w w') := fun w => hc ▸ cmp_any a P ha hP w
  have hd : decide (c < 0) = f := by
    rw [← hf, ← hc]; unfold cmpZ
    by_cases h : a < P
    · simp [h]
    · simp only [h, if_false]; split <;> simp
  clear hc hf hP ha
  go_enter Tryz.func64, Tryz.ntmps64
  go_wp2_with (go_at_call 94; refine (HC.out _).mono ?_; rintro e w' ⟨rfl, g, rfl⟩)
  go_ret
  exact ⟨rfl, (by repeat (first | exact Gr.refl _ | apply Gr.drewN | apply Gr.drew | apply Gr.alloc | apply Gr.gro))⟩
set_option maxRecDepth 100000 in
set_option maxHeartbeats 400000 in
theorem left13_of (id : Int) (P A B N X Y : Nat) (s z : Int) (l : Bool) (y q1 : Nat)
    (H1' : ∀ w, Calls Tryz.prog 95 #[.int .i64 id, .agg (nw 9 y), .agg (nw 9 y)] w fun e w' => e = .returned (.tuple #[.agg (nw 9 q1), .int .i64 0]) ∧ Gr w w') (w : World) :
    Calls Tryz.prog 65 #[.agg (cu id P A B N X Y s z l), .agg (nw 9 y)] w fun e w' => e = .returned (.agg (nw 9 q1)) ∧ Gr w w' := by
  have H1 : Hid (∀ w, Calls Tryz.prog 95 #[.int .i64 id, .agg (nw 9 y), .agg (nw 9 y)] w fun e w' => e = .returned (.tuple #[.agg (nw 9 q1), .int .i64 0]) ∧ Gr w w') := H1'
  clear H1'
  go_enter Tryz.func65, Tryz.ntmps65
  go_upto_region 1 with fail
  refine gen_w (fun v => Hid (Gr w v ∧ Vr v w.heap.size (cu id P A B N X Y s z l) ∧ Vr v (w.heap.size + 1) (nw 9 y) ∧ Vr v (w.heap.size + 1 + 1) (nw 9 0))) ⟨(by repeat (first | exact Gr.refl _ | apply Gr.drewN | apply Gr.drew | apply Gr.alloc | apply Gr.gro)), ⟨by simp [go_sem], by simp [go_sem], by simp [go_sem]⟩, ⟨by simp [go_sem], by simp [go_sem], by simp [go_sem]⟩, ⟨by simp [go_sem], by simp [go_sem], by simp [go_sem]⟩⟩ ?_
  intro v0 HV
  obtain ⟨G, c0, c1, c2⟩ := HV.out
  have k0 : v0.cell? ⟨w.heap.size, 0, none⟩ = some (.int .i64 id) := by rw [c0.cell]; exact cu_0 id P A B N X Y s z l
  have ⟨h0, f0, p0⟩ := c0
  have ⟨h1, f1, p1⟩ := c1
  have ⟨h2, f2, p2⟩ := c2
  have ⟨p01, p02, p03, p04, p05, p06⟩ := c0.pp
  have ⟨p11, p12, p13, p14, p15, p16⟩ := c1.pp
  have ⟨p21, p22, p23, p24, p25, p26⟩ := c2.pp
  clear HV c0 c1 c2
  go_wp2_with (go_at_call 95; refine (H1.out _).mono ?_; rintro e w' ⟨rfl, g, rfl⟩)
  refine bodyPost_ret (res_one Tryz.results65 (rd_nat (x := q1) (by rfl) ?_)) rfl ⟨rfl, ?_⟩
  · simp [go_sem, *]
  · repeat (first | exact G | apply Gr.drewN | apply Gr.drew | apply Gr.alloc | apply Gr.gro | (refine gr_setNew ?_ (by omega)))
set_option maxRecDepth 100000 in
set_option maxHeartbeats 800000 in
theorem right13_of (id : Int) (P A B N X Y : Nat) (s z : Int) (l : Bool) (x q1 q2 q3 q4 : Nat)
    (H1' : ∀ w, Calls Tryz.prog 95 #[.int .i64 id, .agg (nw 9 x), .agg (nw 9 x)] w fun e w' => e = .returned (.tuple #[.agg (nw 9 q1), .int .i64 0]) ∧ Gr w w') (H2' : ∀ w, Calls Tryz.prog 96 #[.int .i64 id, .agg (nw 9 q1), .agg (nw 9 A)] w fun e w' => e = .returned (.tuple #[.agg (nw 9 q2), .int .i64 0]) ∧ Gr w w') (H3' : ∀ w, Calls Tryz.prog 95 #[.int .i64 id, .agg (nw 9 q2), .agg (nw 9 x)] w fun e w' => e = .returned (.tuple #[.agg (nw 9 q3), .int .i64 0]) ∧ Gr w w') (H4' : ∀ w, Calls Tryz.prog 96 #[.int .i64 id, .agg (nw 9 q3), .agg (nw 9 B)] w fun e w' => e = .returned (.tuple #[.agg (nw 9 q4), .int .i64 0]) ∧ Gr w w') (w : World) :
    Calls Tryz.prog 66 #[.agg (cu id P A B N X Y s z l), .agg (nw 9 x)] w fun e w' => e = .returned (.agg (nw 9 q4)) ∧ Gr w w' := by
  have H1 : Hid (∀ w, Calls Tryz.prog 95 #[.int .i64 id, .agg (nw 9 x), .agg (nw 9 x)] w fun e w' => e = .returned (.tuple #[.agg (nw 9 q1), .int .i64 0]) ∧ Gr w w') := H1'
  have H2 : Hid (∀ w, Calls Tryz.prog 96 #[.int .i64 id, .agg (nw 9 q1), .agg (nw 9 A)] w fun e w' => e = .returned (.tuple #[.agg (nw 9 q2), .int .i64 0]) ∧ Gr w w') := H2'
  have H3 : Hid (∀ w, Calls Tryz.prog 95 #[.int .i64 id, .agg (nw 9 q2), .agg (nw 9 x)] w fun e w' => e = .returned (.tuple #[.agg (nw 9 q3), .int .i64 0]) ∧ Gr w w') := H3'
  have H4 : Hid (∀ w, Calls Tryz.prog 96 #[.int .i64 id, .agg (nw 9 q3), .agg (nw 9 B)] w fun e w' => e = .returned (.tuple #[.agg (nw 9 q4), .int .i64 0]) ∧ Gr w w') := H4'
  clear H1' H2' H3' H4'
  go_enter Tryz.func66, Tryz.ntmps66
  go_upto_region 1 with fail
  refine gen_w (fun v => Hid (Gr w v ∧ Vr v w.heap.size (cu id P A B N X Y s z l) ∧ Vr v (w.heap.size + 1) (nw 9 x) ∧ Vr v (w.heap.size + 1 + 1) (nw 9 0))) ⟨(by repeat (first | exact Gr.refl _ | apply Gr.drewN | apply Gr.drew | apply Gr.alloc | apply Gr.gro)), ⟨by simp [go_sem], by simp [go_sem], by simp [go_sem]⟩, ⟨by simp [go_sem], by simp [go_sem], by simp [go_sem]⟩, ⟨by simp [go_sem], by simp [go_sem], by simp [go_sem]⟩⟩ ?_
  intro v0 HV
  obtain ⟨G, c0, c1, c2⟩ := HV.out
  have k0 : v0.cell? ⟨w.heap.size, 0, none⟩ = some (.int .i64 id) := by rw [c0.cell]; exact cu_0 id P A B N X Y s z l
  have ⟨h0, f0, p0⟩ := c0
  have ⟨h1, f1, p1⟩ := c1
  have ⟨h2, f2, p2⟩ := c2
  have ⟨p01, p02, p03, p04, p05, p06⟩ := c0.pp
  have ⟨p11, p12, p13, p14, p15, p16⟩ := c1.pp
  have ⟨p21, p22, p23, p24, p25, p26⟩ := c2.pp
  clear HV c0 c1 c2
  go_wp2_with (first
    | (go_at_call_of 95 ((#[.int .i64 id, .agg (nw 9 x), .agg (nw 9 x)] : Array Value)); refine (H1.out _).mono ?_; rintro e w' ⟨rfl, g0, rfl⟩)
    | (go_at_call_of 96 ((#[.int .i64 id, .agg (nw 9 q1), .agg (nw 9 A)] : Array Value)); refine (H2.out _).mono ?_; rintro e w' ⟨rfl, g1, rfl⟩)
    | (go_at_call_of 95 ((#[.int .i64 id, .agg (nw 9 q2), .agg (nw 9 x)] : Array Value)); refine (H3.out _).mono ?_; rintro e w' ⟨rfl, g2, rfl⟩)
    | (go_at_call_of 96 ((#[.int .i64 id, .agg (nw 9 q3), .agg (nw 9 B)] : Array Value)); refine (H4.out _).mono ?_; rintro e w' ⟨rfl, g3, rfl⟩))
  refine bodyPost_ret (res_one Tryz.results66 (rd_nat (x := q4) (by rfl) ?_)) rfl ⟨rfl, ?_⟩
  · simp [go_sem, *]
  · repeat (first | exact G | apply Gr.drewN | apply Gr.drew | apply Gr.alloc | apply Gr.gro | (refine gr_setNew ?_ (by omega)))
set_option maxRecDepth 100000 in
set_option maxHeartbeats 400000 in
theorem holds_inf (id : Int) (P A B N X Y : Nat) (s z : Int) (l : Bool) (x y : Nat) (w : World) :
    Calls Tryz.prog 49 #[.agg (cu id P A B N X Y s z l), .agg (pnt x y true)] w fun e w' => e = .returned (.bool (eqN 9 x 0 && (eqN 9 y 0 && true))) ∧ Gr w w' := by
  have hq : ∀ w, (binOp .eql 27 (.agg (pnt x y true)) (.agg (pnt 0 0 true))).run Tryz.prog w = .ok (.bool (eqN 9 x 0 && (eqN 9 y 0 && true))) w := fun w => eqPn x y true 0 0 true w
  go_enter Tryz.func49, Tryz.ntmps49
  go_upto_region 1 with fail
  refine gen_w (fun v => Hid (Gr w v ∧ Vr v (w.heap.size + 1) (pnt x y true))) ⟨(by repeat (first | exact Gr.refl _ | apply Gr.drewN | apply Gr.drew | apply Gr.alloc | apply Gr.gro)), ⟨by simp [go_sem], by simp [go_sem], by simp [go_sem]⟩⟩ ?_
  intro v0 HV
  obtain ⟨G, c1⟩ := HV.out
  have k1 : v0.cell? ⟨w.heap.size + 1, 18, none⟩ = some (.bool true) := by rw [c1.cell]; exact pnt_18 x y true
  have ⟨h1, f1, p1⟩ := c1
  clear HV c1
  go_wp2_with fail
  go_ret
  exact ⟨by simp, G⟩
set_option maxRecDepth 100000 in
set_option maxHeartbeats 1600000 in
theorem holds_of (id : Int) (P A B N X Y : Nat) (s z : Int) (l : Bool) (x y L R : Nat) (bx by' : Bool)
    (HBx' : ∀ w, Calls Tryz.prog 64 #[.agg (cu id P A B N X Y s z l), .agg (nw 9 x)] w fun e w' => e = .returned (.bool bx) ∧ Gr w w') (HBy' : ∀ w, Calls Tryz.prog 64 #[.agg (cu id P A B N X Y s z l), .agg (nw 9 y)] w fun e w' => e = .returned (.bool by') ∧ Gr w w')
    (HL' : bx = true → by' = true → ∀ w, Calls Tryz.prog 65 #[.agg (cu id P A B N X Y s z l), .agg (nw 9 y)] w fun e w' => e = .returned (.agg (nw 9 L)) ∧ Gr w w')
    (HR' : bx = true → by' = true → ∀ w, Calls Tryz.prog 66 #[.agg (cu id P A B N X Y s z l), .agg (nw 9 x)] w fun e w' => e = .returned (.agg (nw 9 R)) ∧ Gr w w') (w : World) :
    Calls Tryz.prog 49 #[.agg (cu id P A B N X Y s z l), .agg (pnt x y false)] w fun e w' => e = .returned (.bool (bx && (by' && eqN 9 L R))) ∧ Gr w w' := by
  have HBx : Hid (∀ w, Calls Tryz.prog 64 #[.agg (cu id P A B N X Y s z l), .agg (nw 9 x)] w fun e w' => e = .returned (.bool bx) ∧ Gr w w') := HBx'
  have HBy : Hid (∀ w, Calls Tryz.prog 64 #[.agg (cu id P A B N X Y s z l), .agg (nw 9 y)] w fun e w' => e = .returned (.bool by') ∧ Gr w w') := HBy'
  have HL := HL'
  have HR := HR'
  clear HL' HR' HBx' HBy'
  rcases (by cases bx <;> cases by' <;> simp : (bx = false) ∨ (bx = true ∧ by' = false) ∨ (bx = true ∧ by' = true)) with rfl | ⟨rfl, rfl⟩ | ⟨rfl, rfl⟩
  · clear HL HR
    go_enter Tryz.func49, Tryz.ntmps49
    go_upto_region 3 with fail
    refine gen_w (fun v => Hid (Gr w v ∧ Vr v w.heap.size (cu id P A B N X Y s z l) ∧ Vr v (w.heap.size + 1) (pnt x y false))) ⟨(by repeat (first | exact Gr.refl _ | apply Gr.drewN | apply Gr.drew | apply Gr.alloc | apply Gr.gro)), ⟨by simp [go_sem], by simp [go_sem], by simp [go_sem]⟩, ⟨by simp [go_sem], by simp [go_sem], by simp [go_sem]⟩⟩ ?_
    intro v0 HV
    obtain ⟨G, c2, c3⟩ := HV.out
    refine wp_w [.c (.agg (cu id P A B N X Y s z l)), .c (pv (w.heap.size + 1) 0), .c (.agg (nw 9 x)), .c (.bool false), .c (.bool false), .u, .u, .u, .u, .c (.bool false), .c (.bool false), .u, .u, .u, .u, .u, .u, .u, .u, .u, .c (.bool false), .c (.bool false)] [0, 2, 3] ?hs1 ?hf1
    case hs1 =>
     refine .cons (.g 87 0 c2 rfl) ?_
     refine .cons (.g 25 0 c3 rfl) ?_
     refine .cons (.k _ fun yy vv hg hh => RtW.of_c (Rt.c (HBx.out _))) .nil
    intro yw3 v1 hg h3
    simp only [FW, putFrom, Act.put, List.setIfInBounds_toArray, List.set_cons_zero, List.set_cons_succ, wvals, kW, List.getD_cons_zero, List.getD_cons_succ, Kw.c, pv, Kw.u]
    clear h3
    replace G := G.trans hg
    replace c2 := c2.gr hg
    replace c3 := c3.gr hg
    clear hg
    go_wp2_with fail
    go_ret
    exact ⟨rfl, G⟩
  · clear HL HR
    go_enter Tryz.func49, Tryz.ntmps49
    go_upto_region 3 with fail
    refine gen_w (fun v => Hid (Gr w v ∧ Vr v w.heap.size (cu id P A B N X Y s z l) ∧ Vr v (w.heap.size + 1) (pnt x y false))) ⟨(by repeat (first | exact Gr.refl _ | apply Gr.drewN | apply Gr.drew | apply Gr.alloc | apply Gr.gro)), ⟨by simp [go_sem], by simp [go_sem], by simp [go_sem]⟩, ⟨by simp [go_sem], by simp [go_sem], by simp [go_sem]⟩⟩ ?_
    intro v0 HV
    obtain ⟨G, c2, c3⟩ := HV.out
    refine wp_w [.c (.agg (cu id P A B N X Y s z l)), .c (pv (w.heap.size + 1) 0), .c (.agg (nw 9 x)), .c (.bool true), .c (.bool true), .c (.agg (cu id P A B N X Y s z l)), .c (pv (w.heap.size + 1) 9), .c (.agg (nw 9 y)), .c (.bool false), .c (.bool false), .c (.bool false), .u, .u, .u, .u, .u, .u, .u, .u, .u, .c (.bool false), .c (.bool false)] [0, 2, 3, 5, 7, 8] ?hs2 ?hf2
    case hs2 =>
     refine .cons (.g 87 0 c2 rfl) ?_
     refine .cons (.g 25 0 c3 rfl) ?_
     refine .cons (.k _ fun yy vv hg hh => RtW.of_c (Rt.c (HBx.out _))) ?_
     refine .cons (.g 87 0 c2 rfl) ?_
     refine .cons (.g 25 9 c3 rfl) ?_
     refine .cons (.k _ fun yy vv hg hh => RtW.of_c (Rt.c (HBy.out _))) .nil
    intro yw3 v1 hg h3
    simp only [FW, putFrom, Act.put, List.setIfInBounds_toArray, List.set_cons_zero, List.set_cons_succ, wvals, kW, List.getD_cons_zero, List.getD_cons_succ, Kw.c, pv, Kw.u]
    clear h3
    replace G := G.trans hg
    replace c2 := c2.gr hg
    replace c3 := c3.gr hg
    clear hg
    go_wp2_with fail
    go_ret
    exact ⟨rfl, G⟩
  · replace HL : Hid (∀ w, Calls Tryz.prog 65 #[.agg (cu id P A B N X Y s z l), .agg (nw 9 y)] w fun e w' => e = .returned (.agg (nw 9 L)) ∧ Gr w w') := HL rfl rfl
    replace HR : Hid (∀ w, Calls Tryz.prog 66 #[.agg (cu id P A B N X Y s z l), .agg (nw 9 x)] w fun e w' => e = .returned (.agg (nw 9 R)) ∧ Gr w w') := HR rfl rfl
    go_enter Tryz.func49, Tryz.ntmps49
    go_upto_region 3 with fail
    refine gen_w (fun v => Hid (Gr w v ∧ Vr v w.heap.size (cu id P A B N X Y s z l) ∧ Vr v (w.heap.size + 1) (pnt x y false))) ⟨(by repeat (first | exact Gr.refl _ | apply Gr.drewN | apply Gr.drew | apply Gr.alloc | apply Gr.gro)), ⟨by simp [go_sem], by simp [go_sem], by simp [go_sem]⟩, ⟨by simp [go_sem], by simp [go_sem], by simp [go_sem]⟩⟩ ?_
    intro v0 HV
    obtain ⟨G, c2, c3⟩ := HV.out
    refine wp_w [.c (.agg (cu id P A B N X Y s z l)), .c (pv (w.heap.size + 1) 0), .c (.agg (nw 9 x)), .c (.bool true), .c (.bool true), .c (.agg (cu id P A B N X Y s z l)), .c (pv (w.heap.size + 1) 9), .c (.agg (nw 9 y)), .c (.bool true), .c (.bool true), .c (.bool true), .c (.agg (cu id P A B N X Y s z l)), .c (pv (w.heap.size + 1) 9), .c (.agg (nw 9 y)), .c (.agg (nw 9 L)), .c (.agg (cu id P A B N X Y s z l)), .c (pv (w.heap.size + 1) 0), .c (.agg (nw 9 x)), .c (.agg (nw 9 R)), .c (.bool (eqN 9 L R)), .c (.bool (eqN 9 L R)), .c (.bool (eqN 9 L R))] [0, 2, 3, 5, 7, 8, 11, 13, 14, 15, 17, 18, 19] ?hs3 ?hf3
    case hs3 =>
     refine .cons (.g 87 0 c2 rfl) ?_
     refine .cons (.g 25 0 c3 rfl) ?_
     refine .cons (.k _ fun yy vv hg hh => RtW.of_c (Rt.c (HBx.out _))) ?_
     refine .cons (.g 87 0 c2 rfl) ?_
     refine .cons (.g 25 9 c3 rfl) ?_
     refine .cons (.k _ fun yy vv hg hh => RtW.of_c (Rt.c (HBy.out _))) ?_
     refine .cons (.g 87 0 c2 rfl) ?_
     refine .cons (.g 25 9 c3 rfl) ?_
     refine .cons (.k _ fun yy vv hg hh => RtW.of_c (Rt.c (HL.out _))) ?_
     refine .cons (.g 87 0 c2 rfl) ?_
     refine .cons (.g 25 0 c3 rfl) ?_
     refine .cons (.k _ fun yy vv hg hh => RtW.of_c (Rt.c (HR.out _))) ?_
     refine .cons (.s (.binOp .eql 25 (.const (.agg (nw 9 L))) (.const (.agg (nw 9 R))) 25) rfl fun vv hg => by simp [go_sem, exI, eqNat]) .nil
    intro yw3 v1 hg h3
    simp only [FW, putFrom, Act.put, List.setIfInBounds_toArray, List.set_cons_zero, List.set_cons_succ, wvals, kW, List.getD_cons_zero, List.getD_cons_succ, Kw.c, pv]
    clear h3
    replace G := G.trans hg
    replace c2 := c2.gr hg
    replace c3 := c3.gr hg
    clear hg
    go_wp2_with fail
    go_ret
    exact ⟨rfl, G⟩

end Go.Proofs.YtlbkhhihkomahaaGreat
namespace Go.Proofs.YtlbkhhihkomahaaGreat
open Go.RowKit
attribute [local go_sem ↓] loadNat_is loadArr_is loadWide_is loadArrW_is storeNat_is storeWide_is
attribute [local go_sem] loadNat loadArr loadWide loadArrW storeNat storeWide idxArr fold9 fold18 nw_size nw_elem pre_self pre_1 pre_2 pre_3 pre_4 pre_5 pre_6 pre_7 pre_8 pre_9 pre_10 pre_11 pre_12 pre_13 pre_14 pre_15 pre_16 pre_17 pre_18 pre_19 pre_20 pre_21 pre_22 pre_23 pre_24 pre_25 pre_26 pre_27 pre_28 pre_29 pre_30 pre_31 pre_32 pre_33 pre_34 pre_35 pre_36 pre_37 pre_38 pre_39 pre_40 gro_size gro_drew gro_drewN drew_gro drewN_gro gro_gro blk_gro frz_gro blk_drew frz_drew blk_drewN frz_drewN blk_alloc_at frz_alloc_at blk_alloc frz_alloc cell_gro frozen_gro cell_alloc_pre frozen_alloc_pre setCell_drewN alloc_drewN setBlk_drew setBlk_drewN setBlk_alloc_at setBlk_alloc setBlk_gro setCell_gro setCell_alloc_pre size_setBlk size_setCell
attribute [local go_sem] ppre_1 ppre_2 ppre_3 ppre_4 ppre_5 ppre_6
attribute [local go_sem ↓] zvCu_is zvEq_is storeCu_is storeEq_is loadCu_is loadEq_is loadPn_is buildCu_is buildEq_is buildPn_is Go.wp_at_zero Go.wp_at_succ
attribute [local go_sem] zvCu zvEq storeCu storeEq loadCu loadEq loadPn cu_size pnt_size frz_setBlk blk_setBlk setBlk_setBlk blk_other
set_option maxRecDepth 100000 in
set_option maxHeartbeats 400000 in
theorem on13_of (k id : Int) (P A B N X Y : Nat) (s z : Int) (l : Bool) (x y : Nat) (f r : Bool)
    (HF' : ∀ w, Calls Tryz.prog 48 #[.int .i64 k] w fun e w' => e = .returned (.tuple #[.agg (cu id P A B N X Y s z l), .bool true]) ∧ Gr w w')
    (HH' : ∀ w, Calls Tryz.prog 49 #[.agg (cu id P A B N X Y s z l), .agg (pnt x y f)] w fun e w' => e = .returned (.bool r) ∧ Gr w w') (w : World) :
    Calls Tryz.prog 26 #[.int .i64 k, .agg (pnt x y f)] w fun e w' => e = .returned (.bool r) ∧ Gr w w' := by
  have HF : Hid (∀ w, Calls Tryz.prog 48 #[.int .i64 k] w fun e w' => e = .returned (.tuple #[.agg (cu id P A B N X Y s z l), .bool true]) ∧ Gr w w') := HF'
  have HH : Hid (∀ w, Calls Tryz.prog 49 #[.agg (cu id P A B N X Y s z l), .agg (pnt x y f)] w fun e w' => e = .returned (.bool r) ∧ Gr w w') := HH'
  clear HF' HH'
  go_enter Tryz.func26, Tryz.ntmps26
  go_wp2_with (first
    | (go_at_call 48; refine (HF.out _).mono ?_; rintro e w' ⟨rfl, g, rfl⟩)
    | (go_at_call 49; refine (HH.out _).mono ?_; rintro e w' ⟨rfl, g2, rfl⟩))
  go_ret
  exact ⟨rfl, (by repeat (first | exact Gr.refl _ | apply Gr.drewN | apply Gr.drew | apply Gr.alloc | apply Gr.gro))⟩
/-- X X X + A X + B modulo P. -/
def rhN (i x : Nat) : Nat := ((x * x % pN i + aN i) % pN i * x % pN i + bN i) % pN i
/-- Is the point on curve i? -/
def onB (i x y : Nat) (f : Bool) : Bool := if f then decide (x = 0) && decide (y = 0) else decide (x < pN i) && (decide (y < pN i) && decide (y * y % pN i = rhN i x))
theorem aN_lt (i : Nat) (h1 : 1 ≤ i) (h2 : i ≤ 15) : aN i < pN i := by
  obtain rfl | rfl | rfl | rfl | rfl | rfl | rfl | rfl | rfl | rfl | rfl | rfl | rfl | rfl | rfl : i = 1 ∨ i = 2 ∨ i = 3 ∨ i = 4 ∨ i = 5 ∨ i = 6 ∨ i = 7 ∨ i = 8 ∨ i = 9 ∨ i = 10 ∨ i = 11 ∨ i = 12 ∨ i = 13 ∨ i = 14 ∨ i = 15 := by omega
  all_goals decide +kernel
theorem bN_lt (i : Nat) (h1 : 1 ≤ i) (h2 : i ≤ 15) : bN i < pN i := by
  obtain rfl | rfl | rfl | rfl | rfl | rfl | rfl | rfl | rfl | rfl | rfl | rfl | rfl | rfl | rfl : i = 1 ∨ i = 2 ∨ i = 3 ∨ i = 4 ∨ i = 5 ∨ i = 6 ∨ i = 7 ∨ i = 8 ∨ i = 9 ∨ i = 10 ∨ i = 11 ∨ i = 12 ∨ i = 13 ∨ i = 14 ∨ i = 15 := by omega
  all_goals decide +kernel
theorem xN_lt (i : Nat) (h1 : 1 ≤ i) (h2 : i ≤ 15) : xN i < pN i := by
  obtain rfl | rfl | rfl | rfl | rfl | rfl | rfl | rfl | rfl | rfl | rfl | rfl | rfl | rfl | rfl : i = 1 ∨ i = 2 ∨ i = 3 ∨ i = 4 ∨ i = 5 ∨ i = 6 ∨ i = 7 ∨ i = 8 ∨ i = 9 ∨ i = 10 ∨ i = 11 ∨ i = 12 ∨ i = 13 ∨ i = 14 ∨ i = 15 := by omega
  all_goals decide +kernel
theorem yN_lt (i : Nat) (h1 : 1 ≤ i) (h2 : i ≤ 15) : yN i < pN i ∧ 0 < yN i := by
  obtain rfl | rfl | rfl | rfl | rfl | rfl | rfl | rfl | rfl | rfl | rfl | rfl | rfl | rfl | rfl : i = 1 ∨ i = 2 ∨ i = 3 ∨ i = 4 ∨ i = 5 ∨ i = 6 ∨ i = 7 ∨ i = 8 ∨ i = 9 ∨ i = 10 ∨ i = 11 ∨ i = 12 ∨ i = 13 ∨ i = 14 ∨ i = 15 := by omega
  all_goals decide +kernel
/-- The base point is on its curve. -/
theorem gN_on (i : Nat) (h1 : 1 ≤ i) (h2 : i ≤ 15) : onB i (xN i) (yN i) false = true := by
  obtain rfl | rfl | rfl | rfl | rfl | rfl | rfl | rfl | rfl | rfl | rfl | rfl | rfl | rfl | rfl : i = 1 ∨ i = 2 ∨ i = 3 ∨ i = 4 ∨ i = 5 ∨ i = 6 ∨ i = 7 ∨ i = 8 ∨ i = 9 ∨ i = 10 ∨ i = 11 ∨ i = 12 ∨ i = 13 ∨ i = 14 ∨ i = 15 := by omega
  all_goals decide +kernel
/-- What On answers of a curve and any point. -/
theorem on13_yes (i : Nat) (h1 : 1 ≤ i) (h2 : i ≤ 15) (x y : Nat) (f : Bool) (hx : x < M) (hy : y < M) (w : World) :
    Calls Tryz.prog 26 #[.int .i64 (i : Int), .agg (pnt x y f)] w fun e w' => e = .returned (.bool (onB i x y f)) ∧ Gr w w' := by
  have hB := pN_bd i h1 h2
  refine on13_of i _ _ _ _ _ _ _ _ _ _ x y f _ (find_yes i h1 h2) (fun w => ?_) w
  cases f with
  | true =>
    have := holds_inf (i : Int) (pN i) (aN i) (bN i) (oN i) (xN i) (yN i) (bl (oN i)) (szN i) (lgN i) x y w
    rw [eqN9 x 0 hx (by omega), eqN9 y 0 hy (by omega), Bool.and_true] at this
    exact this
  | false =>
    have hr : ∀ z, rhN i z < M := fun z => by have : rhN i z < pN i := Nat.mod_lt _ (by omega); omega
    have hl : y * y % pN i < M := by have : y * y % pN i < pN i := Nat.mod_lt _ (by omega); omega
    have := holds_of (i : Int) (pN i) (aN i) (bN i) (oN i) (xN i) (yN i) (bl (oN i)) (szN i) (lgN i) x y (y * y % pN i) (rhN i x) (decide (x < pN i)) (decide (y < pN i))
      (fun w => below13_any _ _ _ _ _ _ _ _ _ _ x _ (by omega) hx rfl w) (fun w => below13_any _ _ _ _ _ _ _ _ _ _ y _ (by omega) hy rfl w)
      (fun _ h w => left13_of _ _ _ _ _ _ _ _ _ _ y _ (fun w => fMul_ok i y y h1 h2 (of_decide_eq_true h) (of_decide_eq_true h) w) w)
      (fun h _ w => right13_of _ _ _ _ _ _ _ _ _ _ x _ _ _ _ (fun w => fMul_ok i x x h1 h2 (of_decide_eq_true h) (of_decide_eq_true h) w)
        (fun w => fAdd_ok i _ _ h1 h2 (Nat.mod_lt _ (by omega)) (aN_lt i h1 h2) w) (fun w => fMul_ok i _ _ h1 h2 (Nat.mod_lt _ (by omega)) (of_decide_eq_true h) w)
        (fun w => fAdd_ok i _ _ h1 h2 (Nat.mod_lt _ (by omega)) (bN_lt i h1 h2) w) w) w
    rw [eqN9 _ _ hl (hr x)] at this
    exact this

end Go.Proofs.YtlbkhhihkomahaaGreat
namespace Go.Proofs.YtlbkhhihkomahaaGreat
open Go.RowKit

section
variable {P : Program} {l : List Oper} {Q : Exit → Act → World → Prop} {a0 : Act}
/-- One operation more, whatever is true of what is done. -/
def StepR (P : Program) (l : List Oper) (Q : Exit → Act → World → Prop) (a0 : Act) (R : Array Bool → (Nat → Value) → World → Prop) : Prop :=
  ∀ listed vals a w i o, listed.size = l.toArray.size → R listed vals w → Frm l.toArray a0 vals listed a → l.toArray[i]? = some o → listed.getD i false = false →
    (∀ e ∈ o.after, Region.binds .any e = true → listed.getD e.on false = true) → (Region.wanted o (yielded l.toArray a.tmps) = true ∧ o.wp P a w (fun a' w' => ∃ v, a' = a.put o.dst v ∧ R (listed.setIfInBounds i true) (upd vals i v) w') Q) ∨ (Region.wanted o (yielded l.toArray a.tmps) = false ∧ R (listed.setIfInBounds i true) (upd vals i undef) w)
theorem wpList_mix (hu : uniqG l.toArray = true) (R : Array Bool → (Nat → Value) → World → Prop) (hstep : StepR P l Q a0 R)
    (hfin : ∀ listed vals a w, (∀ i, i < l.toArray.size → listed.getD i false = true) → R listed vals w → Frm l.toArray a0 vals listed a → Q .normal a w) :
    ∀ (d k : Nat) (vals : Nat → Value) (a : Act) (w : World), k + d = l.length → R (upTo l.length k) vals w → Frm l.toArray a0 vals (upTo l.length k) a → wpList P l.toArray Q (l.drop k) a w
  | 0, k, vals, a, w, hk, hR, hF => by
    obtain rfl : k = l.length := by omega
    rw [List.drop_length, wpList]
    exact hfin _ vals a w (fun i hi => by rw [upTo_getD]; simp at hi ⊢; exact hi) hR hF
  | d + 1, k, vals, a, w, hk, hR, hF => by
    have hkl : k < l.length := by omega
    rw [List.drop_eq_getElem_cons hkl, wpList]
    have ho : l.toArray[k]? = some l[k] := by simp [hkl]
    obtain ⟨-, hx⟩ := uniq_at hu ho
    have next : ∀ v w', R ((upTo l.length k).setIfInBounds k true) (upd vals k v) w' → wpList P l.toArray Q (l.drop (k + 1)) (a.put l[k].dst v) w' := fun v w' h1 => by
      have h2 := hF.put hu ho (by simp [upTo]) v
      rw [upTo_set _ _ hkl] at h1 h2
      exact wpList_mix hu R hstep hfin d (k + 1) _ _ _ (by omega) h1 h2
    obtain ⟨h1, h2⟩ | ⟨h1, h2⟩ := hstep (upTo l.length k) vals a w k _ (by simp [upTo]) hR hF ho (by rw [upTo_getD]; simp) (fun e he hb => by rw [upTo_getD]; have := hx e he hb; simp; omega)
    · rw [if_pos h1]
      refine Or.inl (Oper.wp_mono (fun a' w' h => ?_) h2)
      obtain ⟨v, rfl, hv⟩ := h
      exact next v w' hv
    · rw [if_neg (by rw [h1]; decide)]
      exact next undef w h2
theorem wp_region_ord {id : Nat} {w : World} (d : Bool) (hm : d = true → P.follows .mixedOrders = true) (hu : uniqG l.toArray = true) (R : Array Bool → (Nat → Value) → World → Prop)
    (h0 : ∀ listed w', (∀ i, listed.getD i false = false) → Gr w w' → R listed (fun _ => undef) w') (hstep : StepR P l Q a0 R)
    (hfin : ∀ listed vals a w, (∀ i, i < l.toArray.size → listed.getD i false = true) → R listed vals w → Frm l.toArray a0 vals listed a → Q .normal a w) : (Code.region id l.toArray d).wp P Q a0 w := by
  cases d with
  | true => exact wp_region_mixG (hm rfl) hu R (h0 _ _ (fun i => none_listed _ i) (Gr.refl _).drew) hstep hfin
  | false => exact wp_region_lit (wpList_mix hu R hstep hfin l.length 0 (fun _ => undef) a0 w (by omega) (h0 _ _ (fun i => by rw [upTo_getD]; simp) (Gr.refl _)) (Frm.start_up l a0 _))
end
/-- A new variable's pointer. -/
def Kw.a : Kw := ⟨fun y => .pointer (some ⟨(y 0).2, 0, none⟩), fun _ _ => True, fun _ _ _ _ _ => trivial, 0, fun _ _ _ => trivial, fun h => absurd h (by decide)⟩
/-- A new row of n that holds the cells c. -/
def Kw.r (n : Nat) (c : Array Value) : Kw := ⟨fun y => .slice (some ⟨(y 0).2, 0, none⟩) n n, fun y w => Vr w (y 0).2 c, fun _ _ _ h g => h.gr g, 0, fun h => absurd rfl h, fun h => absurd h (by decide)⟩
theorem ObW.r {P : Program} {l : List Oper} {a0 : Act} {W : World} {kp : List Kw} {i n : Nat} {t : TypeId} {c : Array Value} (op : Op) (hk : kW kp i = .r n c)
    (hc : ∀ v : World, (exI op).run P v = .ok (.value (.slice (some ⟨v.heap.size, 0, none⟩) n n)) (v.alloc (.cells c t))) (hr : runW l kp a0 i = fun _ => some (exI op) := by kernel_rfl) : ObW P l kp a0 W i :=
  ObW.e (fun _ => exI op) hr fun _ v hg _ => ⟨fun _ => (none, v.heap.size), _, by rw [hk]; exact hc v, (Gr.refl _).alloc _, by rw [hk]; exact Vr.new _ _ _⟩
/-- Operation j makes a variable, operation i stores into it. -/
structure Ent where
  j : Nat
  i : Nat
  t : TypeId
  z : Array Value
  c : (Nat → Wt) → Array Value
/-- No digit lies there. -/
def Blank (c : Array Value) : Prop := ∀ (i : Nat) (n : Int), c[i]? ≠ some (Value.int .u32 n)
/-- What is known stays true where a variable that holds z is stored into. -/
def FarK (z : Array Value) (k : Kw) : Prop := ∀ y w b d, blk w b = z → k.ok y w → k.ok y (setBlk w b d)
section
variable {z : Array Value}
theorem fkc {v : Value} : FarK z (.c v) := fun _ _ _ _ _ _ => trivial
theorem fku : FarK z .u := fun _ _ _ _ _ _ => trivial
theorem fka : FarK z .a := fun _ _ _ _ _ _ => trivial
theorem fkp {x y : Nat} {f : Bool} (h : Blank z) : FarK z (.pt x y f) := fun _ _ _ _ e k => ⟨Sl.set k.1 (e ▸ h), Sl.set k.2 (e ▸ h)⟩
theorem fkr {n : Nat} {c : Array Value} (h : c.size ≠ z.size) : FarK z (.r n c) := fun _ _ _ _ e k => k.other fun eb => h (by rw [← e, eb, k.h])
end
def FarL (z : Array Value) : List Kw → Prop
  | [] => True
  | k :: r => FarK z k ∧ FarL z r
theorem FarL.at {z : Array Value} : ∀ {kp : List Kw}, FarL z kp → ∀ i, FarK z (kW kp i)
  | [], _, _ => fku
  | _ :: _, h, 0 => h.1
  | _ :: r, h, i + 1 => FarL.at (kp := r) h.2 i
def ExV (ex : List Nat) (st : List Ent) : List Nat := ex ++ st.map Ent.j ++ st.map Ent.i
/-- What is to be shown of a new variable and its store. -/
structure ObV (P : Program) (l : List Oper) (kp : List Kw) (a0 : Act) (e : Ent) : Prop where
  hc : ∀ x x', (∀ j, wts l e.i j = true → (kW kp j).val (x j) = (kW kp j).val (x' j)) → e.c x = e.c x'
  hs : ∀ x v b, blk v b = e.z → frz v b = (0, 0) → (exI (.store e.t (.const (.pointer (some ⟨b, 0, none⟩))) (.const (.agg (e.c x))))).run P v = .ok .skip (setBlk v b (e.c x))
  hz : 0 < e.z.size
  hf : FarL e.z kp
  hn : ∀ v : World, (exI (.alloc e.t)).run P v = .ok (.value (.pointer (some ⟨v.heap.size, 0, none⟩))) (v.alloc (.cells e.z e.t)) := by intro vv; simp [go_sem, exI]
  ka : kW kp e.j = .a := by rfl
  ku : kW kp e.i = .u := by rfl
  hw : wts l e.i e.j = true := by rfl
  rj : runW l kp a0 e.j = fun _ => some (exI (.alloc e.t)) := by kernel_rfl
  ri : runW l kp a0 e.i = fun x => some (exI (.store e.t (.const (.pointer (some ⟨(x e.j 0).2, 0, none⟩))) (.const (.agg (e.c x))))) := by kernel_rfl
def ObsV (P : Program) (l : List Oper) (kp : List Kw) (a0 : Act) : List Ent → Prop
  | [] => True
  | e :: r => ObV P l kp a0 e ∧ ObsV P l kp a0 r
theorem ObsV.nil {P : Program} {l : List Oper} {kp : List Kw} {a0 : Act} : ObsV P l kp a0 [] := trivial
theorem ObsV.cons {P : Program} {l : List Oper} {kp : List Kw} {a0 : Act} {e : Ent} {r : List Ent} (h : ObV P l kp a0 e) (t : ObsV P l kp a0 r) : ObsV P l kp a0 (e :: r) := ⟨h, t⟩
theorem ObsV.at {P : Program} {l : List Oper} {kp : List Kw} {a0 : Act} : ∀ {st : List Ent}, ObsV P l kp a0 st → ∀ e, e ∈ st → ObV P l kp a0 e
  | [], _, _, h => by cases h
  | e :: r, ho, e', h => by
    rcases List.mem_cons.1 h with rfl | h
    · exact ho.1
    · exact ObsV.at ho.2 e' h
theorem map_one {α : Type} (f : α → Nat) : ∀ {st : List α}, (st.map f).Nodup → ∀ e e', e ∈ st → e' ∈ st → f e = f e' → e = e'
  | [], _, _, _, h, _, _ => by cases h
  | a :: r, hn, e, e', h, h', he => by
    rw [List.map_cons, List.nodup_cons] at hn
    rcases List.mem_cons.1 h with h1 | h1 <;> rcases List.mem_cons.1 h' with h2 | h2
    · rw [h1, h2]
    · rw [h1] at he; exact absurd (he ▸ List.mem_map_of_mem h2) hn.1
    · rw [h2] at he; exact absurd (he ▸ List.mem_map_of_mem h1) hn.1
    · exact map_one f hn.2 e e' h1 h2 he
/-- What is true while the region runs. -/
def RV (W : World) (l : List Oper) (kp : List Kw) (st : List Ent) (listed : Array Bool) (vals : Nat → Value) (w : World) : Prop :=
  RZ W (kp.map Kw.kz) listed vals w ∧ (∀ e, e ∈ st → listed.getD e.i false = true → ∀ j, wts l e.i j = true → listed.getD j false = true) ∧
  ∃ B : Nat → Nat, (∀ e, e ∈ st → listed.getD e.j false = true → vals e.j = .pointer (some ⟨B e.j, 0, none⟩) ∧ W.heap.size ≤ B e.j ∧ B e.j < w.heap.size ∧ frz w (B e.j) = (0, 0) ∧
      (listed.getD e.i false = false → blk w (B e.j) = e.z) ∧ (listed.getD e.i false = true → ∃ x : Nat → Wt, (∀ j, wts l e.i j = true → vals j = (kW kp j).val (x j)) ∧ blk w (B e.j) = e.c x)) ∧
    (∀ e e', e ∈ st → e' ∈ st → listed.getD e.j false = true → listed.getD e'.j false = true → B e.j = B e'.j → e = e')
section
variable {P : Program} {l : List Oper} {Q : Exit → Act → World → Prop} {a0 : Act} {W : World} {kp : List Kw} {ex : List Nat} {st : List Ent} {listed : Array Bool} {vals : Nat → Value} {w w' : World}
theorem set_mono {i j : Nat} (h : listed.getD j false = true) (hi : i < listed.size) : (listed.setIfInBounds i true).getD j false = true := by
  by_cases e : j = i
  · subst e; exact getD_set_same _ _ hi
  · rw [getD_set_other _ _ _ (Ne.symm e)]; exact h
theorem ne_un {i j : Nat} (h : listed.getD j false = true) (hl : listed.getD i false = false) : j ≠ i := fun e => by
  subst e; rw [h] at hl; cases hl
theorem RV.next (h : RV W l kp st listed vals w) {i : Nat} {v : Value} (hi : i < listed.size) (hl : listed.getD i false = false) (hA : ∀ e, e ∈ st → e.j ≠ i ∧ e.i ≠ i) (hg : Gr w w') (hv : kz (kp.map Kw.kz) i v w') :
    RV W l kp st (listed.setIfInBounds i true) (upd vals i v) w' := by
  obtain ⟨h1, h2, B, h3, h4⟩ := h
  refine ⟨h1.next hg hv, fun e he hle j hj => ?_, B, fun e he hlj => ?_, fun e e' he he' h5 h6 => ?_⟩
  · rw [getD_set_other _ _ _ (Ne.symm (hA e he).2)] at hle
    exact set_mono (h2 e he hle j hj) hi
  · rw [getD_set_other _ _ _ (Ne.symm (hA e he).1)] at hlj
    obtain ⟨a1, a2, a3, a4, a5, a6⟩ := h3 e he hlj
    refine ⟨by simp only [upd, (hA e he).1, if_false]; exact a1, a2, Nat.lt_of_lt_of_le a3 hg.below.size, by rw [hg.frz _ a3]; exact a4, fun h => ?_, fun h => ?_⟩
    · rw [getD_set_other _ _ _ (Ne.symm (hA e he).2)] at h
      rw [hg.blk _ a3]; exact a5 h
    · rw [getD_set_other _ _ _ (Ne.symm (hA e he).2)] at h
      obtain ⟨x, hx, hb⟩ := a6 h
      refine ⟨x, fun j hj => ?_, by rw [hg.blk _ a3]; exact hb⟩
      simp only [upd, ne_un (h2 e he h j hj) hl, if_false]
      exact hx j hj
  · rw [getD_set_other _ _ _ (Ne.symm (hA e he).1)] at h5
    rw [getD_set_other _ _ _ (Ne.symm (hA e' he').1)] at h6
    exact h4 e e' he he' h5 h6
theorem kz_W {j : Nat} (hj : j < kp.length) (u : Value) (v : World) : kz (kp.map Kw.kz) j u v ↔ ∃ y, u = (kW kp j).val y ∧ (kW kp j).ok y v := by
  have e : kp[j]? = some (kW kp j) := by rw [kW, List.getD_eq_getElem?_getD, List.getElem?_eq_getElem hj]; rfl
  unfold kz
  rw [List.getElem?_map, e]
  exact Iff.rfl
theorem RV.alloc (h : RV W l kp st listed vals w) (e : Ent) (he : e ∈ st) (hj1 : (st.map Ent.j).Nodup) (hij : ∀ e e', e ∈ st → e' ∈ st → e.i ≠ e'.j) (hw : wts l e.i e.j = true) (hi : e.j < listed.size) (hl : listed.getD e.j false = false) (hk : e.j < kp.length) (ka : kW kp e.j = .a) :
    RV W l kp st (listed.setIfInBounds e.j true) (upd vals e.j (.pointer (some ⟨w.heap.size, 0, none⟩))) (w.alloc (.cells e.z e.t)) := by
  obtain ⟨h1, h2, B, h3, h4⟩ := h
  have hg : Gr w (w.alloc (.cells e.z e.t)) := (Gr.refl w).alloc _
  have hei : listed.getD e.i false ≠ true := fun h => by rw [h2 e he h e.j hw] at hl; cases hl
  refine ⟨h1.next hg ((kz_W hk _ _).2 ⟨fun _ => (none, w.heap.size), by rw [ka]; rfl, by rw [ka]; trivial⟩), fun e' he' hle j hj => ?_, fun m => if m = e.j then w.heap.size else B m, fun e' he' hlj => ?_, fun e1 e2 he1 he2 h5 h6 h7 => ?_⟩
  · rw [getD_set_other _ _ _ (Ne.symm (hij e' e he' he))] at hle
    exact set_mono (h2 e' he' hle j hj) hi
  · by_cases ee : e'.j = e.j
    · obtain rfl := map_one Ent.j hj1 e' e he' he ee
      simp only [if_true, upd]
      refine ⟨trivial, h1.1.below.size, by simp, frz_alloc_at _ _ _ _ _ rfl, fun _ => blk_alloc_at _ _ _ _ _ rfl, fun h => ?_⟩
      rw [getD_set_other _ _ _ (Ne.symm (hij e' e' he' he'))] at h
      exact absurd h hei
    · rw [getD_set_other _ _ _ (Ne.symm ee)] at hlj
      obtain ⟨a1, a2, a3, a4, a5, a6⟩ := h3 e' he' hlj
      simp only [ee, if_false, upd]
      refine ⟨a1, a2, Nat.lt_of_lt_of_le a3 hg.below.size, by rw [hg.frz _ a3]; exact a4, fun h => ?_, fun h => ?_⟩
      · rw [getD_set_other _ _ _ (Ne.symm (hij e' e he' he))] at h
        rw [hg.blk _ a3]; exact a5 h
      · rw [getD_set_other _ _ _ (Ne.symm (hij e' e he' he))] at h
        obtain ⟨x, hx, hb⟩ := a6 h
        refine ⟨x, fun j hj => ?_, by rw [hg.blk _ a3]; exact hb⟩
        simp only [ne_un (h2 e' he' h j hj) hl, if_false]
        exact hx j hj
  · by_cases x1 : e1.j = e.j <;> by_cases x2 : e2.j = e.j
    · exact map_one Ent.j hj1 e1 e2 he1 he2 (x1.trans x2.symm)
    · rw [getD_set_other _ _ _ (Ne.symm x2)] at h6
      simp only [x1, x2, if_true, if_false] at h7
      have := (h3 e2 he2 h6).2.2.1
      omega
    · rw [getD_set_other _ _ _ (Ne.symm x1)] at h5
      simp only [x1, x2, if_true, if_false] at h7
      have := (h3 e1 he1 h5).2.2.1
      omega
    · rw [getD_set_other _ _ _ (Ne.symm x1)] at h5
      rw [getD_set_other _ _ _ (Ne.symm x2)] at h6
      simp only [x1, x2, if_false] at h7
      exact h4 e1 e2 he1 he2 h5 h6 h7
theorem RV.store (h : RV W l kp st listed vals w) (e : Ent) (he : e ∈ st) (hi1 : (st.map Ent.i).Nodup) (hij : ∀ e e', e ∈ st → e' ∈ st → e.i ≠ e'.j) (hfar : FarL e.z kp) (hlen : listed.size ≤ kp.length) (hi : e.i < listed.size) (hl : listed.getD e.i false = false) (ku : kW kp e.i = .u)
    (hz : 0 < e.z.size) (x : Nat → Wt) (hx : ∀ j, wts l e.i j = true → listed.getD j false = true ∧ vals j = (kW kp j).val (x j)) (hw : wts l e.i e.j = true) (ka : kW kp e.j = .a) :
    blk w (x e.j 0).2 = e.z ∧ frz w (x e.j 0).2 = (0, 0) ∧ RV W l kp st (listed.setIfInBounds e.i true) (upd vals e.i undef) (setBlk w (x e.j 0).2 (e.c x)) := by
  obtain ⟨h1, h2, B, h3, h4⟩ := h
  obtain ⟨hlj, hvj⟩ := hx e.j hw
  obtain ⟨a1, a2, a3, a4, a5, a6⟩ := h3 e he hlj
  have hB : (x e.j 0).2 = B e.j := by
    rw [hvj, ka] at a1
    simpa [Kw.a] using a1
  rw [hB]
  have hb := a5 hl
  refine ⟨hb, a4, ⟨gr_setNew h1.1 a2, fun j hj => ?_⟩, fun e' he' hle j hj => ?_, B, fun e' he' hlj' => ?_, fun e1 e2 he1 he2 h5 h6 h7 => ?_⟩
  · by_cases ee : j = e.i
    · subst ee
      refine (kz_W (by omega) _ _).2 ⟨fun _ => (none, 0), ?_, ?_⟩
      · rw [ku]; simp only [upd, if_true]; rfl
      · rw [ku]; trivial
    · rw [getD_set_other _ _ _ (Ne.symm ee)] at hj
      simp only [upd, ee, if_false]
      have hjl : j < kp.length := by
        rcases Nat.lt_or_ge j listed.size with h | h
        · omega
        · simp [h] at hj
      obtain ⟨y, h5, h6⟩ := (kz_W hjl _ _).1 (h1.2 j hj)
      exact (kz_W hjl _ _).2 ⟨y, h5, hfar.at j y w _ _ hb h6⟩
  · by_cases ee : e'.i = e.i
    · obtain rfl := map_one Ent.i hi1 e' e he' he ee
      exact set_mono (hx j hj).1 hi
    · rw [getD_set_other _ _ _ (Ne.symm ee)] at hle
      exact set_mono (h2 e' he' hle j hj) hi
  · rw [getD_set_other _ _ _ (hij e e' he he')] at hlj'
    obtain ⟨b1, b2, b3, b4, b5, b6⟩ := h3 e' he' hlj'
    refine ⟨by simp only [upd, Ne.symm (hij e e' he he'), if_false]; exact b1, b2, by rw [size_setBlk]; exact b3, by rw [frz_setBlk]; exact b4, fun h => ?_, fun h => ?_⟩
    · by_cases ee : e'.i = e.i
      · rw [ee, getD_set_same _ _ hi] at h; cases h
      · rw [getD_set_other _ _ _ (Ne.symm ee)] at h
        have hne : B e.j ≠ B e'.j := fun eb => ee (by rw [h4 e e' he he' hlj hlj' eb])
        rw [blk_other _ _ _ _ hne]; exact b5 h
    · by_cases ee : e'.i = e.i
      · obtain rfl := map_one Ent.i hi1 e' e he' he ee
        refine ⟨x, fun j hj => ?_, blk_setBlk _ _ _ (by rw [hb]; exact hz)⟩
        simp only [upd, ne_un (hx j hj).1 hl, if_false]
        exact (hx j hj).2
      · rw [getD_set_other _ _ _ (Ne.symm ee)] at h
        have hne : B e.j ≠ B e'.j := fun eb => ee (by rw [h4 e e' he he' hlj hlj' eb])
        obtain ⟨y, hy, hby⟩ := b6 h
        refine ⟨y, fun j hj => ?_, by rw [blk_other _ _ _ _ hne]; exact hby⟩
        simp only [upd, ne_un (h2 e' he' h j hj) hl, if_false]
        exact hy j hj
  · rw [getD_set_other _ _ _ (hij e e1 he he1)] at h5
    rw [getD_set_other _ _ _ (hij e e2 he he2)] at h6
    exact h4 e1 e2 he1 he2 h5 h6 h7
/-- Where an operation is run, its operands are what the kinds say. -/
theorem atW {q : Nat} (hk : chkW l kp ex q = true) {a : Act} {v : World} {i : Nat} {o : Oper} (hK : ∀ j, listed.getD j false = true → kz (kp.map Kw.kz) j (vals j) v) (hF : Frm l.toArray a0 vals listed a) (hi : l.toArray[i]? = some o) (hq : i < q)
    (hd : ∀ e ∈ o.after, Region.binds .any e = true → listed.getD e.on false = true) :
    ∃ x : Nat → Wt, (∀ j, wts l i j = true → listed.getD j false = true ∧ vals j = (kW kp j).val (x j) ∧ (kW kp j).ok (x j) v) ∧ execOp a.eval o = execOp (FW l kp a0 x).eval o ∧ Region.wanted o (yielded l.toArray a.tmps) = wnt l i (FW l kp a0 x) := by
  simp only [chkW, Bool.and_eq_true, beq_iff_eq] at hk
  obtain ⟨⟨⟨hu, hr⟩, hlen⟩, hcs⟩ := hk
  have hoi := opW_is hi
  have hx0 : ∀ j, ∃ y : Wt, wts l i j = true → vals j = (kW kp j).val y ∧ (kW kp j).ok y v := fun j => by
    by_cases h : wts l i j = true
    · have hl : listed.getD j false = true := on_of hd j (by rw [wts, hoi, Array.any_toList] at h; exact h)
      have hj : j < i := by
        obtain ⟨e, he, hb⟩ := Array.any_eq_true.1 (show (o.after.any fun e => e.on == j && Region.binds .any e) = true by rw [wts, hoi, Array.any_toList] at h; exact h)
        simp only [Bool.and_eq_true, beq_iff_eq] at hb
        rw [← hb.1]
        exact (uniq_at hu hi).2 _ (Array.getElem_mem he) hb.2
      obtain ⟨y, h1, h2⟩ := (kz_W (by omega) _ _).1 (hK j hl)
      exact ⟨y, fun _ => ⟨h1, h2⟩⟩
    · exact ⟨fun _ => (none, 0), fun h' => absurd h' h⟩
  obtain ⟨x, hx⟩ := Classical.axiomOfChoice hx0
  have hro := List.all_eq_true.1 hr i (by simpa using hq)
  rw [hoi] at hro
  simp only [rdyO, Bool.and_eq_true] at hro
  obtain ⟨⟨hsel, hops⟩, hgd⟩ := hro
  have hlt : ∀ j, wts l i j = true → listed.getD j false = true := fun j h => on_of hd j (by rw [wts, hoi, Array.any_toList] at h; exact h)
  have hslot : ∀ s, (match own l.toArray s with | some j => wts l i j | none => true) = true → a.tmps[s]? = (FW l kp a0 x).tmps[s]? := fun s hs => by
    refine eval_F hu hF s fun j hj => ?_
    have hs' : wts l i j = true := by rw [hj] at hs; exact hs
    exact ⟨hlt j hs', (hx j hs').1⟩
  refine ⟨x, fun j hj => ⟨hlt j hj, hx j hj⟩, ?_, ?_⟩
  · refine execOp_congr o (fun cs b h => by rw [h] at hsel; cases hsel) fun y hy => ?_
    have hy' := Array.all_eq_true_iff_forall_mem.1 hops y hy
    cases y with
    | tmp s =>
      have := hslot s hy'
      simp only [Act.eval, Array.getD_eq_getD_getElem?, this]
    | _ => rfl
  · rw [wnt, hoi]
    unfold Region.wanted
    cases hg : o.guard with
    | none => rfl
    | some gw =>
      obtain ⟨g, b⟩ := gw
      rw [hg] at hgd
      simp only
      have hy : yielded l.toArray a.tmps g = yielded l.toArray (FW l kp a0 x).tmps g := by
        unfold yielded
        cases ht : (l.toArray[g]?).bind (·.dst) with
        | none => rfl
        | some t =>
          have : own l.toArray t = some g := by
            obtain ⟨og, h1, h2⟩ := Option.bind_eq_some_iff.1 ht
            exact (uniq_at hu h1).1 t h2
          simp only [Option.bind_some]
          rw [hslot t (by rw [this]; exact hgd)]
      rw [hy]
theorem run_W {i : Nat} {x : Nat → Wt} {e : (Nat → Wt) → Sem Next} (h : runW l kp a0 i = fun x => some (e x)) : wnt l i (FW l kp a0 x) = true ∧ execOp (FW l kp a0 x).eval (opW l i) = e x := by
  have := congrFun h x
  unfold runW at this
  cases hw : wnt l i (FW l kp a0 x) with
  | false => rw [hw] at this; cases this
  | true => rw [hw] at this; exact ⟨rfl, Option.some.inj this⟩
theorem stepV (hk : chkW l kp (ExV ex st) l.length = true) (hp : pureL P l kp a0 (ExV ex st) l.length = pureR kp (ExV ex st) l.length) (ho : ObsW P l kp a0 W ex) (hv : ObsV P l kp a0 st)
    (hnd : (st.map Ent.j).Nodup ∧ (st.map Ent.i).Nodup ∧ ∀ a, a ∈ st.map Ent.i → ∀ b, b ∈ st.map Ent.j → a ≠ b) : StepR P l Q a0 (RV W l kp st) := by
  intro listed vals a w i o hz hR hF hi hl hd
  have hil : i < l.length := by simpa using (Array.getElem?_eq_some_iff.1 hi).1
  have his : i < listed.size := by rw [hz]; simpa using hil
  have hlen := (chk_u hk).2
  have hoi := opW_is hi
  have hij : ∀ e e', e ∈ st → e' ∈ st → e.i ≠ e'.j := fun e e' he he' => hnd.2.2 _ (List.mem_map_of_mem he) _ (List.mem_map_of_mem he')
  obtain ⟨x, hx, hev, hwn⟩ := atW hk hR.1.2 hF hi hil hd
  rw [hwn]
  by_cases hA : ∃ e, e ∈ st ∧ e.j = i
  · obtain ⟨e, he, rfl⟩ := hA
    have ob := hv.at e he
    obtain ⟨h1, h2⟩ := run_W (x := x) ob.rj
    refine Or.inl ⟨h1, wp_val _ (by rw [hev, ← hoi, h2]; exact ob.hn w) ⟨_, rfl, hR.alloc e he hnd.1 hij ob.hw his hl (by omega) ob.ka⟩⟩
  by_cases hB : ∃ e, e ∈ st ∧ e.i = i
  · obtain ⟨e, he, rfl⟩ := hB
    have ob := hv.at e he
    obtain ⟨h1, h2⟩ := run_W (x := x) ob.ri
    obtain ⟨hb, hf, hR'⟩ := hR.store e he hnd.2.1 hij ob.hf (by rw [hz]; simp [hlen]) his hl ob.ku ob.hz x (fun j hj => ⟨(hx j hj).1, (hx j hj).2.1⟩) ob.hw ob.ka
    refine Or.inl ⟨h1, wp_skip (by rw [hev, ← hoi, h2]; exact ob.hs x w _ hb hf) ⟨_, rfl, hR'⟩⟩
  have hAB : ∀ e, e ∈ st → e.j ≠ i ∧ e.i ≠ i := fun e he => ⟨fun h => hA ⟨e, he, h⟩, fun h => hB ⟨e, he, h⟩⟩
  have hkz := fun (u : Value) (v : World) => kz_W (kp := kp) (j := i) (by omega) u v
  by_cases hm : i ∈ ex
  · obtain ⟨h1, h2⟩ := ho.at i hm x w hR.1.1 fun j hj => (hx j hj).2.2
    refine Or.inl ⟨h1, ?_⟩
    rw [hoi] at h2
    obtain ⟨y, w', hrun, hg, hok⟩ | ⟨f, args, hrun, hc⟩ := h2
    · exact wp_val _ (by rw [hev]; exact hrun) ⟨_, rfl, hR.next his hl hAB hg ((hkz _ _).2 ⟨y, rfl, hok⟩)⟩
    · refine wp_retz (k := (kW kp i).kz) (by rw [hev]; exact hrun) (hc.mono fun e w' ⟨y, he, hok, hg⟩ => ⟨_, he, ⟨y, rfl, hok⟩, hg⟩) fun u w' hu' hg => ⟨u, rfl, hR.next his hl hAB hg ((hkz _ _).2 hu')⟩
  · have hmem : i ∈ others (ExV ex st) l.length := by
      refine List.mem_filter.2 ⟨by simpa using hil, ?_⟩
      have : i ∉ ExV ex st := by
        intro h
        unfold ExV at h
        rw [List.mem_append, List.mem_append] at h
        rcases h with (h | h) | h
        · exact hm h
        · obtain ⟨e, he, h⟩ := List.mem_map.1 h; exact hA ⟨e, he, h⟩
        · obtain ⟨e, he, h⟩ := List.mem_map.1 h; exact hB ⟨e, he, h⟩
      simpa using this
    simp only [chkW, Bool.and_eq_true, beq_iff_eq] at hk
    have hcst := List.all_eq_true.1 hk.2 i hmem
    simp only [bne_iff_ne, ne_eq] at hcst
    have hpi : resW P l kp a0 x w i = expW kp x w i := List.map_inj_left.1 (congrFun (congrFun hp x) w) i hmem
    simp only [resW, expW, hoi] at hpi
    cases hw : wnt l i (FW l kp a0 x) with
    | true =>
      rw [hw] at hpi
      refine Or.inl ⟨rfl, ?_⟩
      cases h2 : (kW kp i).cst == 2 with
      | true => rw [h2] at hpi; cases hpi
      | false =>
        rw [h2] at hpi
        exact wp_val _ (by rw [hev]; exact Option.some.inj hpi) ⟨_, rfl, hR.next his hl hAB (Gr.refl _) ((hkz _ _).2 ⟨x i, rfl, (kW kp i).hc hcst _ _⟩)⟩
    | false =>
      rw [hw] at hpi
      refine Or.inr ⟨rfl, ?_⟩
      cases h2 : (kW kp i).cst == 2 with
      | true => exact hR.next his hl hAB (Gr.refl _) ((hkz _ _).2 ⟨x i, ((kW kp i).hs (by simpa using h2) _).symm, (kW kp i).hc hcst _ _⟩)
      | false => rw [h2] at hpi; cases hpi
/-- The new variables behind the region. -/
def NewV (W : World) (x : Nat → Wt) (v : World) : List Ent → Prop
  | [] => True
  | e :: r => (W.heap.size ≤ (x e.j 0).2 ∧ Vr v (x e.j 0).2 (e.c x)) ∧ NewV W x v r
theorem NewV.of {x : Nat → Wt} {v : World} : ∀ {st : List Ent}, (∀ e, e ∈ st → W.heap.size ≤ (x e.j 0).2 ∧ Vr v (x e.j 0).2 (e.c x)) → NewV W x v st
  | [], _ => trivial
  | e :: _, h => ⟨h e (List.mem_cons_self ..), NewV.of fun e' he' => h e' (List.mem_cons_of_mem _ he')⟩
/-- The new variables are other ones than each other. -/
def chkV (st : List Ent) : Bool := decide (st.map Ent.j).Nodup && decide (st.map Ent.i).Nodup && ((st.map Ent.i).all fun a => (st.map Ent.j).all fun b => a != b)
theorem wp_v (d : Bool) {id : Nat} (kp : List Kw) (ex : List Nat) (st : List Ent) (ho : ObsW P l kp a0 W ex) (hv : ObsV P l kp a0 st)
    (hfin : ∀ x v, Gr W v → (∀ j, (kW kp j).ok (x j) v) → NewV W x v st → Q .normal (FW l kp a0 x) v) (hm : (!d || P.follows .mixedOrders) = true := by kernel_rfl) (hk : (chkW l kp (ExV ex st) l.length && chkV st) = true := by kernel_rfl) (hp : pureL P l kp a0 (ExV ex st) l.length = pureR kp (ExV ex st) l.length := by kernel_rfl) : (Code.region id l.toArray d).wp P Q a0 W := by
  simp only [Bool.and_eq_true] at hk
  obtain ⟨hk, hk2⟩ := hk
  simp only [chkV, Bool.and_eq_true, decide_eq_true_eq, List.all_eq_true, bne_iff_ne, ne_eq] at hk2
  obtain ⟨⟨n1, n2⟩, n3⟩ := hk2
  obtain ⟨hu, hlen⟩ := chk_u hk
  refine wp_region_ord d (fun h => by subst h; simpa using hm) hu (RV W l kp st) (fun listed w' hn hg => ?_) (stepV hk hp ho hv ⟨n1, n2, n3⟩) fun listed vals a v hall hR hF => ?_
  · have hx : ∀ (i : Nat) (p : Prop), listed.getD i false = true → p := fun i p h => by rw [hn] at h; cases h
    exact ⟨⟨hg, fun j hj => hx j _ hj⟩, fun e _ h => hx e.i _ h, fun _ => 0, fun e _ h => hx e.j _ h, fun e _ _ _ h => hx e.j _ h⟩
  · rw [hF.final hu hall]
    obtain ⟨h1, h2, B, h3, -⟩ := hR
    obtain ⟨x, hx1, hx2⟩ := finW hlen fun j hj => h1.2 j (hall j (by simpa using hj))
    rw [putFrom_congr (vals' := wvals kp x) l 0 a0 fun j o hj _ => by rw [Nat.zero_add]; exact hx1 j (List.getElem?_eq_some_iff.1 hj).1]
    refine hfin x v h1.1 hx2 (NewV.of fun e he => ?_)
    have ob := hv.at e he
    have hw : ∀ j, wts l e.i j = true → j < l.length ∧ e.i < l.length := fun j hj => by
      have hi : e.i < l.length := by
        rcases Nat.lt_or_ge e.i l.length with h | h
        · exact h
        · rw [wts, opW, List.getElem?_eq_none (by omega)] at hj
          simp at hj
      have ho : l.toArray[e.i]? = some l[e.i] := by simp [hi]
      rw [wts, opW_is ho, Array.any_toList] at hj
      obtain ⟨ed, hed, hb⟩ := Array.any_eq_true.1 hj
      simp only [Bool.and_eq_true, beq_iff_eq] at hb
      have := (uniq_at hu ho).2 _ (Array.getElem_mem hed) hb.2
      omega
    have hjl := hw e.j ob.hw
    obtain ⟨a1, a2, a3, a4, -, a6⟩ := h3 e he (hall e.j (by simpa using hjl.1))
    obtain ⟨y, hy, hb⟩ := a6 (hall e.i (by simpa using hjl.2))
    have hB : (x e.j 0).2 = B e.j := by
      rw [hx1 e.j hjl.1, wvals, ob.ka] at a1
      simpa [Kw.a] using a1
    rw [hB]
    exact ⟨a2, by rw [hb]; exact ob.hc y x fun j hj => by rw [← hy j hj, hx1 j (hw j hj).1]; rfl, a4, a3⟩
end

end Go.Proofs.YtlbkhhihkomahaaGreat
namespace Go.Proofs.YtlbkhhihkomahaaGreat
open Go.RowKit
theorem loadGp_is (v : Value) : Instr.loadAt 74 v = loadS 74 v := rfl
theorem storeGp_is (p v : Value) : Instr.storeAt 74 p v = storeS 74 p v := rfl
theorem zvGp_is : zeroValue 74 = zvS 74 := rfl
theorem buildGp_is (p : Array (Nat × Value)) : Instr.build 74 p = buildF 74 p := rfl
theorem zvGp (w : World) : (zvS 74).run Tryz.prog w = .ok (.agg (cu 0 0 0 0 0 0 0 0 0 false)) w := by kernel_rfl
theorem buildGp0 (w : World) : (buildF 74 #[]).run Tryz.prog w = .ok (.agg (cu 0 0 0 0 0 0 0 0 0 false)) w := by kernel_rfl
theorem buildGp1 (id : Int) (p a b n x y : Nat) (s z : Int) (l : Bool) (w : World) : (buildF 74 #[(0, .agg (cu id p a b n x y s z l))]).run Tryz.prog w = .ok (.agg (cu id p a b n x y s z l)) w := by kernel_rfl
theorem buildPn0 (w : World) : (buildF 27 #[]).run Tryz.prog w = .ok (.agg (pnt 0 0 false)) w := by kernel_rfl
theorem loadGp (w : World) (b : Nat) (hs : (blk w b).size = 59) : (loadS 74 (.pointer (some ⟨b, 0, none⟩))).run Tryz.prog w = .ok (.agg (blk w b)) w :=
  loadS_run 59 Tryz.underlying74 rfl (by kernel_rfl) w b hs
theorem storeGp (w : World) (b : Nat) (id : Int) (p a bb n x y : Nat) (s z : Int) (l : Bool) (hs : (blk w b).size = 59) (hf : frz w b = (0, 0)) : (storeS 74 (.pointer (some ⟨b, 0, none⟩)) (.agg (cu id p a bb n x y s z l))).run Tryz.prog w = .ok () (setBlk w b (cu id p a bb n x y s z l)) :=
  storeS_run 59 (by decide) (by kernel_rfl) w b _ (cu_size id p a bb n x y s z l) (cu_one id p a bb n x y s z l) hs hf
theorem rd_gp {tmps : Array Value} {t : Tmp} {w : World} {b : Nat} {id : Int} {p a bb n x y : Nat} {s z : Int} {l : Bool} (h : tmps.getD t undef = .pointer (some ⟨b, 0, none⟩)) (hc : blk w b = cu id p a bb n x y s z l) : (readR tmps (.cell t 74)).run Tryz.prog w = .ok (.agg (cu id p a bb n x y s z l)) w :=
  rd_cell 59 Tryz.underlying74 rfl (by kernel_rfl) h hc (cu_size id p a bb n x y s z l)
/-- The steps to a sum; to a product. -/
def tabA : Array Value := #[.func (.func 67) #[] #[], .func (.func 68) #[] #[], .func (.func 69) #[] #[], .func (.func 70) #[] #[], .func (.func 71) #[] #[]]
def tabB : Array Value := #[.func (.func 77) #[] #[], .func (.func 78) #[] #[]]
theorem storeTA_is (p v : Value) : Instr.storeAt 97 p v = storeS 97 p v := rfl
theorem storeTB_is (p v : Value) : Instr.storeAt 104 p v = storeS 104 p v := rfl
theorem storeTA (w : World) (b : Nat) (hs : (blk w b).size = 5) (hf : frz w b = (0, 0)) : (storeS 97 (.pointer (some ⟨b, 0, none⟩)) (.agg tabA)).run Tryz.prog w = .ok () (setBlk w b tabA) :=
  storeS_run 5 (by decide) (by kernel_rfl) w b tabA rfl (by simp [tabA, Value.oneCell']) hs hf
theorem storeTB (w : World) (b : Nat) (hs : (blk w b).size = 2) (hf : frz w b = (0, 0)) : (storeS 104 (.pointer (some ⟨b, 0, none⟩)) (.agg tabB)).run Tryz.prog w = .ok () (setBlk w b tabB) :=
  storeS_run 2 (by decide) (by kernel_rfl) w b tabB rfl (by simp [tabB, Value.oneCell']) hs hf
theorem buildTA_is (p : Array (Nat × Value)) : Instr.build 97 p = buildF 97 p := rfl
theorem buildTB_is (p : Array (Nat × Value)) : Instr.build 104 p = buildF 104 p := rfl
theorem buildTA (w : World) : (buildF 97 #[(0, .func (.func 67) #[] #[]), (1, .func (.func 68) #[] #[]), (2, .func (.func 69) #[] #[]), (3, .func (.func 70) #[] #[]), (4, .func (.func 71) #[] #[])]).run Tryz.prog w = .ok (.agg tabA) w := by kernel_rfl
theorem buildTB (w : World) : (buildF 104 #[(0, .func (.func 77) #[] #[]), (1, .func (.func 78) #[] #[])]).run Tryz.prog w = .ok (.agg tabB) w := by kernel_rfl
theorem tabA_size : tabA.size = 5 := rfl
theorem tabB_size : tabB.size = 2 := rfl
theorem blank_of {c : Array Value} (h : c.all (fun v => match v with | .int .u32 _ => false | _ => true) = true) : Blank c := fun i n e => by
  obtain ⟨hi, hv⟩ := Array.getElem?_eq_some_iff.1 e
  have := Array.all_eq_true.1 h i hi
  rw [hv] at this
  cases this
theorem bPnt : Blank (pnt 0 0 false) := blank_of (by decide +kernel)
theorem zNat : 0 < (nw 9 0).size := by decide +kernel
theorem zPnt : 0 < (pnt 0 0 false).size := by decide +kernel
theorem zCu : 0 < (cu 0 0 0 0 0 0 0 0 0 false).size := by decide +kernel
/-- New rows. -/
theorem rowN2 (a b : Nat) (w : World) : (exI (.buildSlice 127 2 #[(0, .const (.agg (nw 9 a))), (1, .const (.agg (nw 9 b)))])).run Tryz.prog w = .ok (.value (.slice (some ⟨w.heap.size, 0, none⟩) 2 2)) (w.alloc (.cells (nw 9 a ++ nw 9 b) 25)) := by kernel_rfl
theorem rowN4 (a b c d : Nat) (w : World) : (exI (.buildSlice 127 4 #[(0, .const (.agg (nw 9 a))), (1, .const (.agg (nw 9 b))), (2, .const (.agg (nw 9 c))), (3, .const (.agg (nw 9 d)))])).run Tryz.prog w = .ok (.value (.slice (some ⟨w.heap.size, 0, none⟩) 4 4)) (w.alloc (.cells (nw 9 a ++ nw 9 b ++ nw 9 c ++ nw 9 d) 25)) := by kernel_rfl
theorem rowP1 (x y : Nat) (f : Bool) (w : World) : (exI (.buildSlice 94 1 #[(0, .const (.agg (pnt x y f)))])).run Tryz.prog w = .ok (.value (.slice (some ⟨w.heap.size, 0, none⟩) 1 1)) (w.alloc (.cells (pnt x y f) 27)) := by kernel_rfl
theorem rowP2 (x y : Nat) (f : Bool) (u v : Nat) (g : Bool) (w : World) : (exI (.buildSlice 94 2 #[(0, .const (.agg (pnt x y f))), (1, .const (.agg (pnt u v g)))])).run Tryz.prog w = .ok (.value (.slice (some ⟨w.heap.size, 0, none⟩) 2 2)) (w.alloc (.cells (pnt x y f ++ pnt u v g) 27)) := by kernel_rfl

end Go.Proofs.YtlbkhhihkomahaaGreat
namespace Go.Proofs.YtlbkhhihkomahaaGreat.EC
/-- Inverses by Fermat's rule. -/
def iP (p : Nat) [NeZero p] (d : Fin p) : Fin p := Fin.ofNat p (d.val ^ (p - 2))
theorem iP_is {p : Nat} [NeZero p] (h : Prm p) (d : Fin p) (hd : d ≠ 0) : iP p d * d = 1 := by
  have h2 := h.1
  have hv : d.val ≠ 0 := fun e => hd (Fin.ext (e.trans (Fin.val_zero p).symm))
  have nd : ¬ p ∣ d.val := fun e => by
    have := Nat.le_of_dvd (by omega) e
    have := d.isLt
    omega
  apply Fin.ext
  rw [Fin.val_mul]
  show d.val ^ (p - 2) % p * d.val % p = 1 % p
  rw [Nat.mod_mul_mod, ← Nat.pow_succ, show (p - 2).succ = p - 1 by omega, h.fermat nd, Nat.mod_eq_of_lt (by omega)]
theorem cur_of (p a b : Nat) [NeZero p] (hp : Prm p) (h2 : 2 < p) (ha : a < p) (hb : b < p) (hdis : (4 * (a * a % p * a % p) % p + 27 * (b * b % p) % p) % p ≠ 0) : Cur (iP p) ⟨a, ha⟩ ⟨b, hb⟩ := by
  refine ⟨hp, fun e => ?_, fun e => hdis ?_, fun d hd => iP_is hp d hd⟩
  · have e' : 2 % p = 0 % p := congrArg Fin.val e
    rw [Nat.mod_eq_of_lt h2, Nat.zero_mod] at e'
    cases e'
  · have e' := congrArg Fin.val e
    rw [Fin.val_add, Fin.val_mul, Fin.val_mul, Fin.val_mul, Fin.val_mul, Fin.val_mul] at e'
    have f4 : (4 : Fin p).val = 4 % p := rfl
    have f27 : (27 : Fin p).val = 27 % p := rfl
    have f0 : (0 : Fin p).val = 0 := Fin.val_zero p
    have g4 : ∀ y, 4 % p * y % p = 4 * y % p := fun y => by rw [Nat.mod_mul_mod]
    have g27 : ∀ y, 27 % p * y % p = 27 * y % p := fun y => by rw [Nat.mod_mul_mod]
    rw [f4, f27, f0, g4, g27] at e'
    exact e'
theorem nzP (i : Nat) (h1 : 1 ≤ i) (h2 : i ≤ 15) : NeZero (pN i) := ⟨by have := pN_bd i h1 h2; omega⟩
theorem disN (i : Nat) (h1 : 1 ≤ i) (h2 : i ≤ 15) : 2 < pN i ∧ (4 * (aN i * aN i % pN i * aN i % pN i) % pN i + 27 * (bN i * bN i % pN i) % pN i) % pN i ≠ 0 := by
  obtain rfl | rfl | rfl | rfl | rfl | rfl | rfl | rfl | rfl | rfl | rfl | rfl | rfl | rfl | rfl : i = 1 ∨ i = 2 ∨ i = 3 ∨ i = 4 ∨ i = 5 ∨ i = 6 ∨ i = 7 ∨ i = 8 ∨ i = 9 ∨ i = 10 ∨ i = 11 ∨ i = 12 ∨ i = 13 ∨ i = 14 ∨ i = 15 := by omega
  all_goals decide +kernel
section
variable (i : Nat) (h1 : 1 ≤ i) (h2 : i ≤ 15)
def aF : Fin (pN i) := ⟨aN i, aN_lt i h1 h2⟩
def bF : Fin (pN i) := ⟨bN i, bN_lt i h1 h2⟩
def xF : Fin (pN i) := ⟨xN i, xN_lt i h1 h2⟩
def yF : Fin (pN i) := ⟨yN i, (yN_lt i h1 h2).1⟩
variable [NeZero (pN i)]
theorem curN : Cur (iP (pN i)) (aF i h1 h2) (bF i h1 h2) := cur_of _ _ _ (prm_pN i h1 h2) (disN i h1 h2).1 _ _ (disN i h1 h2).2
theorem onG : OnC (aF i h1 h2) (bF i h1 h2) (xF i h1 h2) (yF i h1 h2) := by
  have h := gN_on i h1 h2
  simp only [onB, Bool.false_eq_true, if_false, Bool.and_eq_true, decide_eq_true_eq] at h
  have e : yF i h1 h2 * yF i h1 h2 = (xF i h1 h2 * xF i h1 h2 + aF i h1 h2) * xF i h1 h2 + bF i h1 h2 := Fin.ext h.2.2
  unfold OnC
  rw [e]
  clear e h
  grobner
end
/-- N - 1 times the base point is its opposite. -/
theorem ml_pred_G (i : Nat) (h1 : 1 ≤ i) (h2 : i ≤ 15) [NeZero (pN i)] : ml (iP (pN i)) (aF i h1 h2) (oN i - 1) (some (xF i h1 h2, yF i h1 h2)) = ng (some (xF i h1 h2, yF i h1 h2)) := by
  have C := curN i h1 h2
  have hG := onG i h1 h2
  obtain rfl | rfl | rfl | rfl | rfl | rfl | rfl | rfl | rfl | rfl | rfl | rfl | rfl | rfl | rfl : i = 1 ∨ i = 2 ∨ i = 3 ∨ i = 4 ∨ i = 5 ∨ i = 6 ∨ i = 7 ∨ i = 8 ∨ i = 9 ∨ i = 10 ∨ i = 11 ∨ i = 12 ∨ i = 13 ∨ i = 14 ∨ i = 15 := by omega
  · exact ml_opp C hG _ 191 top_1 run_1
  · exact ml_opp C hG _ 223 top_2 run_2
  · exact ml_opp C hG _ 255 top_3 run_3
  · exact ml_opp C hG _ 383 top_4 run_4
  · exact ml_opp C hG _ 520 top_5 run_5
  · exact ml_opp C hG _ 255 top_6 run_6
  · exact ml_opp C hG _ 159 top_7 run_7
  · exact ml_opp C hG _ 223 top_8 run_8
  · exact ml_opp C hG _ 255 top_9 run_9
  · exact ml_opp C hG _ 319 top_10 run_10
  · exact ml_opp C hG _ 383 top_11 run_11
  · exact ml_opp C hG _ 511 top_12 run_12
  · exact ml_opp C hG _ 7 top_13 run_13
  · exact ml_opp C hG _ 7 top_14 run_14
  · exact ml_opp C hG _ 7 top_15 run_15
theorem oN_pos (i : Nat) (h1 : 1 ≤ i) (h2 : i ≤ 15) : 2 < oN i := by
  obtain rfl | rfl | rfl | rfl | rfl | rfl | rfl | rfl | rfl | rfl | rfl | rfl | rfl | rfl | rfl : i = 1 ∨ i = 2 ∨ i = 3 ∨ i = 4 ∨ i = 5 ∨ i = 6 ∨ i = 7 ∨ i = 8 ∨ i = 9 ∨ i = 10 ∨ i = 11 ∨ i = 12 ∨ i = 13 ∨ i = 14 ∨ i = 15 := by omega
  all_goals decide +kernel
/-- N times the base point is infinity. -/
theorem ml_G (i : Nat) (h1 : 1 ≤ i) (h2 : i ≤ 15) [NeZero (pN i)] : ml (iP (pN i)) (aF i h1 h2) (oN i) (some (xF i h1 h2, yF i h1 h2)) = none := by
  have h := oN_pos i h1 h2
  obtain ⟨n, hn⟩ : ∃ n, oN i = n + 1 := ⟨oN i - 1, by omega⟩
  have e := ml_pred_G i h1 h2
  rw [hn] at e ⊢
  show pl _ _ (ml _ _ n _) _ = none
  rw [show n + 1 - 1 = n from rfl] at e
  rw [e]
  have C := curN i h1 h2
  have := pl_ng C (ng (some (xF i h1 h2, yF i h1 h2)))
  rw [ng_ng] at this
  exact this

end Go.Proofs.YtlbkhhihkomahaaGreat.EC
namespace Go.Proofs.YtlbkhhihkomahaaGreat
open Go.RowKit
/-- A curve's seven cells. -/
theorem loadC_is (v : Value) : Instr.loadAt 31 v = loadS 31 v := rfl
theorem storeC_is (p v : Value) : Instr.storeAt 31 p v = storeS 31 p v := rfl
theorem loadC (w : World) (b : Nat) (hs : (blk w b).size = 7) : (loadS 31 (.pointer (some ⟨b, 0, none⟩))).run Tryz.prog w = .ok (.agg (blk w b)) w :=
  loadS_run 7 Tryz.underlying31 rfl (by kernel_rfl) w b hs
theorem storeC (w : World) (b : Nat) (id : Int) (p0 p1 p2 p3 p4 : Option Addr) (l0 l1 l2 l3 l4 n0 n1 n2 n3 n4 : Nat) (hs : (blk w b).size = 7) (hf : frz w b = (0, 0)) :
    (storeS 31 (.pointer (some ⟨b, 0, none⟩)) (.agg #[.int .i64 id, .slice p0 l0 n0, .slice none 0 0, .slice p1 l1 n1, .slice p2 l2 n2, .slice p3 l3 n3, .slice p4 l4 n4])).run Tryz.prog w = .ok () (setBlk w b #[.int .i64 id, .slice p0 l0 n0, .slice none 0 0, .slice p1 l1 n1, .slice p2 l2 n2, .slice p3 l3 n3, .slice p4 l4 n4]) :=
  storeS_run 7 (by decide) (by kernel_rfl) w b _ rfl (by simp [Value.oneCell']) hs hf
theorem storeC7 (w : World) (b : Nat) (id : Int) (p0 p1 p2 p3 p4 p5 : Option Addr) (l0 l1 l2 l3 l4 l5 n0 n1 n2 n3 n4 n5 : Nat) (hs : (blk w b).size = 7) (hf : frz w b = (0, 0)) :
    (storeS 31 (.pointer (some ⟨b, 0, none⟩)) (.agg #[.int .i64 id, .slice p0 l0 n0, .slice p5 l5 n5, .slice p1 l1 n1, .slice p2 l2 n2, .slice p3 l3 n3, .slice p4 l4 n4])).run Tryz.prog w = .ok () (setBlk w b #[.int .i64 id, .slice p0 l0 n0, .slice p5 l5 n5, .slice p1 l1 n1, .slice p2 l2 n2, .slice p3 l3 n3, .slice p4 l4 n4]) :=
  storeS_run 7 (by decide) (by kernel_rfl) w b _ rfl (by simp [Value.oneCell']) hs hf
/-- A curve's cells: its id, its P, and five more numbers. -/
def cvA (id : Int) (p : Option Addr) (l n : Nat) (q : Nat → Option Addr × Nat × Nat) : Array Value := #[.int .i64 id, .slice p l n, .slice (q 0).1 (q 0).2.1 (q 0).2.2, .slice (q 1).1 (q 1).2.1 (q 1).2.2, .slice (q 2).1 (q 2).2.1 (q 2).2.2, .slice (q 3).1 (q 3).2.1 (q 3).2.2, .slice (q 4).1 (q 4).2.1 (q 4).2.2]
/-- A curve's cells, each number known. -/
def crA (id : Int) (x : Nat → Nat) (q : Nat → Option Addr × Nat) : Array Value := #[.int .i64 id, .slice (q 0).1 (dl (x 0)) (q 0).2, .slice (q 1).1 (dl (x 1)) (q 1).2, .slice (q 2).1 (dl (x 2)) (q 2).2, .slice (q 3).1 (dl (x 3)) (q 3).2, .slice (q 4).1 (dl (x 4)) (q 4).2, .slice (q 5).1 (dl (x 5)) (q 5).2]
theorem crA_cvA (id : Int) (x : Nat → Nat) (q : Nat → Option Addr × Nat) : crA id x q = cvA id (q 0).1 (dl (x 0)) (q 0).2 (fun k => ((q (k + 1)).1, dl (x (k + 1)), (q (k + 1)).2)) := rfl
def six {α : Type} (a b c d e f : α) : Nat → α
  | 0 => a
  | 1 => b
  | 2 => c
  | 3 => d
  | 4 => e
  | _ => f
theorem storeC0 (w : World) (b : Nat) (hs : (blk w b).size = 7) (hf : frz w b = (0, 0)) :
    (storeS 31 (.pointer (some ⟨b, 0, none⟩)) (.agg #[.int .i64 0, .slice none 0 0, .slice none 0 0, .slice none 0 0, .slice none 0 0, .slice none 0 0, .slice none 0 0])).run Tryz.prog w = .ok () (setBlk w b #[.int .i64 0, .slice none 0 0, .slice none 0 0, .slice none 0 0, .slice none 0 0, .slice none 0 0, .slice none 0 0]) :=
  storeS_run 7 (by decide) (by kernel_rfl) w b _ rfl (by simp [Value.oneCell']) hs hf
def buildG (t : TypeId) (p : Array (Nat × Value)) : Sem Value := Instr.build t p
theorem buildC_is (p : Array (Nat × Value)) : Instr.build 31 p = buildG 31 p := rfl
theorem buildC0 (w : World) : (buildG 31 #[]).run Tryz.prog w = .ok (.agg #[.int .i64 0, .slice none 0 0, .slice none 0 0, .slice none 0 0, .slice none 0 0, .slice none 0 0, .slice none 0 0]) w := by kernel_rfl
theorem buildC6 (w : World) (id : Int) (p0 p1 p2 p3 p4 : Option Addr) (l0 l1 l2 l3 l4 n0 n1 n2 n3 n4 : Nat) :
    (buildG 31 #[(0, .int .i64 id), (1, .slice p0 l0 n0), (3, .slice p1 l1 n1), (4, .slice p2 l2 n2), (5, .slice p3 l3 n3), (6, .slice p4 l4 n4)]).run Tryz.prog w = .ok (.agg #[.int .i64 id, .slice p0 l0 n0, .slice none 0 0, .slice p1 l1 n1, .slice p2 l2 n2, .slice p3 l3 n3, .slice p4 l4 n4]) w := by kernel_rfl
theorem eqSl (b : Nat) (w : World) : (binOp .eql 70 (.slice (some ⟨b, 0, none⟩) 6 6) (.slice none 0 0)).run Tryz.prog w = .ok (.bool false) w := by kernel_rfl
theorem eqSl0 (w : World) : (binOp .eql 70 (.slice none 0 0) (.slice none 0 0)).run Tryz.prog w = .ok (.bool true) w := by kernel_rfl
attribute [local go_sem ↓] loadNat_is loadArr_is loadWide_is loadArrW_is storeNat_is storeWide_is
attribute [local go_sem] loadNat loadArr loadWide loadArrW storeNat storeWide idxArr fold9 fold18 nw_size nw_elem pre_self pre_1 pre_2 pre_3 pre_4 pre_5 pre_6 pre_7 pre_8 pre_9 pre_10 pre_11 pre_12 pre_13 pre_14 pre_15 pre_16 pre_17 pre_18 pre_19 pre_20 pre_21 pre_22 pre_23 pre_24 pre_25 pre_26 pre_27 pre_28 pre_29 pre_30 pre_31 pre_32 pre_33 pre_34 pre_35 pre_36 pre_37 pre_38 pre_39 pre_40 gro_size gro_drew gro_drewN drew_gro drewN_gro gro_gro blk_gro frz_gro blk_drew frz_drew blk_drewN frz_drewN blk_alloc_at frz_alloc_at blk_alloc frz_alloc cell_gro frozen_gro cell_alloc_pre frozen_alloc_pre setCell_drewN alloc_drewN setBlk_drew setBlk_drewN setBlk_alloc_at setBlk_alloc setBlk_gro setCell_gro setCell_alloc_pre size_setBlk size_setCell
attribute [local go_sem ↓] loadC_is storeC_is buildC_is bsl_is
attribute [local go_sem] eqSl eqSl0 loadC storeC0 buildC0 buildC6 frz_setBlk blk_setBlk setBlk_setBlk
theorem noU (id : Int) (c1 c2 c3 c4 c5 c6 : Option Addr × Nat × Nat) (i : Nat) (n : Int) : (#[.int .i64 id, .slice c1.1 c1.2.1 c1.2.2, .slice c2.1 c2.2.1 c2.2.2, .slice c3.1 c3.2.1 c3.2.2, .slice c4.1 c4.2.1 c4.2.2, .slice c5.1 c5.2.1 c5.2.2, .slice c6.1 c6.2.1 c6.2.2] : Array Value)[i]? ≠ some (Value.int .u32 n) := by
  intro h
  match i, h with
  | 0, h => simp at h
  | 1, h => simp at h
  | 2, h => simp at h
  | 3, h => simp at h
  | 4, h => simp at h
  | 5, h => simp at h
  | 6, h => simp at h
  | k + 7, h => simp at h
set_option maxRecDepth 100000 in
set_option maxHeartbeats 4000000 in
theorem get_of (id : Int) (s0 s1 s2 s3 s4 s5 : ByteArray) (x0 x1 x2 x3 x4 x5 : Nat)
    (HR : ∀ w, Calls Tryz.prog 34 #[.int .i64 id] w fun e w' => ∃ b, e = .returned (.slice (some ⟨b, 0, none⟩) 6 6) ∧ blk w' b = #[.string s0, .string s1, .string s2, .string s3, .string s4, .string s5] ∧ Pre (b + 1) w'.heap.size ∧ Gr w w')
    (H0 : ∀ w, Calls Tryz.prog 35 #[.string s0] w (Nm x0 w)) (H2 : ∀ w, Calls Tryz.prog 35 #[.string s2] w (Nm x2 w)) (H3 : ∀ w, Calls Tryz.prog 35 #[.string s3] w (Nm x3 w))
    (H4 : ∀ w, Calls Tryz.prog 35 #[.string s4] w (Nm x4 w)) (H5 : ∀ w, Calls Tryz.prog 35 #[.string s5] w (Nm x5 w))
    (h1 : (s1 = ⟨#[45]⟩ ∧ 3 ≤ x0 ∧ dl x0 ≤ 50000 ∧ x0 - 3 = x1) ∨ ((s1.toList == [45]) = false ∧ ∀ w, Calls Tryz.prog 35 #[.string s1] w (Nm x1 w))) (w : World) :
    Calls Tryz.prog 12 #[.int .i64 id] w fun e w' => ∃ q, e = .returned (.tuple #[.agg (crA id (six x0 x1 x2 x3 x4 x5) q), .bool true]) ∧ (∀ k, Sl w' (q k).1 (six x0 x1 x2 x3 x4 x5 k)) ∧ Gr w w' := by
  have HR' : Hid (∀ w, Calls Tryz.prog 34 #[.int .i64 id] w fun e w' => ∃ b, e = .returned (.slice (some ⟨b, 0, none⟩) 6 6) ∧ blk w' b = #[.string s0, .string s1, .string s2, .string s3, .string s4, .string s5] ∧ Pre (b + 1) w'.heap.size ∧ Gr w w') := HR
  have HX0 : Hid (∀ w, Calls Tryz.prog 35 #[.string s0] w (Nm x0 w)) := H0
  have HX2 : Hid (∀ w, Calls Tryz.prog 35 #[.string s2] w (Nm x2 w)) := H2
  have HX3 : Hid (∀ w, Calls Tryz.prog 35 #[.string s3] w (Nm x3 w)) := H3
  have HX4 : Hid (∀ w, Calls Tryz.prog 35 #[.string s4] w (Nm x4 w)) := H4
  have HX5 : Hid (∀ w, Calls Tryz.prog 35 #[.string s5] w (Nm x5 w)) := H5
  clear HR H0 H2 H3 H4 H5
  go_enter Tryz.func12, Tryz.ntmps12
  go_upto_region 4 with (go_at_call 34; refine (HR'.out _).mono ?_; rintro e W1 ⟨rb, rfl, hrb, prb, G1⟩)
  have G0 : Gr w W1 := Gr.trans ((Gr.refl _).alloc _) G1
  have c1 : blk W1 w.heap.size = #[.int .i64 0, .slice none 0 0, .slice none 0 0, .slice none 0 0, .slice none 0 0, .slice none 0 0, .slice none 0 0] := by rw [G1.blk _ (by simp)]; simp [go_sem]
  have c2 : frz W1 w.heap.size = (0, 0) := by rw [G1.frz _ (by simp)]; simp [go_sem]
  have c3 : Pre (w.heap.size + 1) W1.heap.size := by have := G1.below.size; simp at this; exact this
  have hmk : ∀ f g : Nat → Value, (∀ j ∈ [4, 8, 12, 16, 20], f j = g j) → (fun f => #[.int .i64 id, f 4, .slice none 0 0, f 8, f 12, f 16, f 20]) f = (fun f => #[.int .i64 id, f 4, .slice none 0 0, f 8, f 12, f 16, f 20]) g := fun f g h => by
    show #[Value.int .i64 id, f 4, .slice none 0 0, f 8, f 12, f 16, f 20] = #[Value.int .i64 id, g 4, .slice none 0 0, g 8, g 12, g 16, g 20]
    rw [h 4 (by simp), h 8 (by simp), h 12 (by simp), h 16 (by simp), h 20 (by simp)]
  refine wp_region_mix (by kernel_rfl) (by kernel_rfl) (RQ _ [.c (.int .i64 id), .c (.slice (some ⟨rb, 0, none⟩) 6 6), .c (.pointer (some ⟨rb, 0, none⟩)), .c (.string s0), .n x0, .c (.slice (some ⟨rb, 0, none⟩) 6 6), .c (.pointer (some ⟨rb, 2, none⟩)), .c (.string s2), .n x2, .c (.slice (some ⟨rb, 0, none⟩) 6 6), .c (.pointer (some ⟨rb, 3, none⟩)), .c (.string s3), .n x3, .c (.slice (some ⟨rb, 0, none⟩) 6 6), .c (.pointer (some ⟨rb, 4, none⟩)), .c (.string s4), .n x4, .c (.slice (some ⟨rb, 0, none⟩) 6 6), .c (.pointer (some ⟨rb, 5, none⟩)), .c (.string s5), .n x5] [4, 8, 12, 16, 20] (fun f => #[.int .i64 id, f 4, .slice none 0 0, f 8, f 12, f 16, f 20]) #[.int .i64 0, .slice none 0 0, .slice none 0 0, .slice none 0 0, .slice none 0 0, .slice none 0 0, .slice none 0 0] 21 22 23) (RQ.start _ _ _ _ _ _ _ _ _ _) ?hs ?hf
  case hs =>
    intro listed vals a1 v1 i o2 hz hR hF ho hl hd
    have hi : i < 24 := by simpa using (Array.getElem?_eq_some_iff.1 ho).1
    have hil : i < listed.size := by rw [hz]; simpa using hi
    have hc0 : v1.cell? ⟨rb, 0, none⟩ = some (.string s0) := by rw [cell_blk, hR.g.blk _ prb, hrb]; rfl
    have hc2 : v1.cell? ⟨rb, 2, none⟩ = some (.string s2) := by rw [cell_blk, hR.g.blk _ prb, hrb]; rfl
    have hc3 : v1.cell? ⟨rb, 3, none⟩ = some (.string s3) := by rw [cell_blk, hR.g.blk _ prb, hrb]; rfl
    have hc4 : v1.cell? ⟨rb, 4, none⟩ = some (.string s4) := by rw [cell_blk, hR.g.blk _ prb, hrb]; rfl
    have hc5 : v1.cell? ⟨rb, 5, none⟩ = some (.string s5) := by rw [cell_blk, hR.g.blk _ prb, hrb]; rfl
    obtain rfl | rfl | rfl | rfl | rfl | rfl | rfl | rfl | rfl | rfl | rfl | rfl | rfl | rfl | rfl | rfl | rfl | rfl | rfl | rfl | rfl | rfl | rfl | rfl : i = 0 ∨ i = 1 ∨ i = 2 ∨ i = 3 ∨ i = 4 ∨ i = 5 ∨ i = 6 ∨ i = 7 ∨ i = 8 ∨ i = 9 ∨ i = 10 ∨ i = 11 ∨ i = 12 ∨ i = 13 ∨ i = 14 ∨ i = 15 ∨ i = 16 ∨ i = 17 ∨ i = 18 ∨ i = 19 ∨ i = 20 ∨ i = 21 ∨ i = 22 ∨ i = 23 := by omega
    · obtain rfl := Option.some.inj ho
      have f0 := hF.old (s := 0) (v := .int .i64 id) (by kernel_rfl) rfl
      exact wp_val (.int .i64 id) (by simp [go_sem, f0]) ⟨_, rfl, RQ.quiet hmk 0 _ hil hl (by decide) (by decide) (by decide) (Gr.refl _) rfl hR⟩
    · obtain rfl := Option.some.inj ho
      have f0 := hF.old (s := 4) (v := .slice (some ⟨rb, 0, none⟩) 6 6) (by kernel_rfl) rfl
      exact wp_val (.slice (some ⟨rb, 0, none⟩) 6 6) (by simp [go_sem, f0]) ⟨_, rfl, RQ.quiet hmk 1 _ hil hl (by decide) (by decide) (by decide) (Gr.refl _) rfl hR⟩
    · obtain rfl := Option.some.inj ho
      have l0 := hd ⟨1, .data⟩ (by simp) rfl
      have f0 := hF.at (s := 12) (i := 1) (by kernel_rfl) (by simp) l0
      rw [show vals 1 = .slice (some ⟨rb, 0, none⟩) 6 6 from hR.k 1 l0] at f0
      exact wp_val (.pointer (some ⟨rb, 0, none⟩)) (by simp [go_sem, f0]) ⟨_, rfl, RQ.quiet hmk 2 _ hil hl (by decide) (by decide) (by decide) (Gr.refl _) rfl hR⟩
    · obtain rfl := Option.some.inj ho
      have l0 := hd ⟨2, .data⟩ (by simp) rfl
      have f0 := hF.at (s := 13) (i := 2) (by kernel_rfl) (by simp) l0
      rw [show vals 2 = .pointer (some ⟨rb, 0, none⟩) from hR.k 2 l0] at f0
      exact wp_val (.string s0) (by simp [go_sem, f0, hc0]) ⟨_, rfl, RQ.quiet hmk 3 _ hil hl (by decide) (by decide) (by decide) (Gr.refl _) rfl hR⟩
    · obtain rfl := Option.some.inj ho
      have l0 := hd ⟨3, .data⟩ (by simp) rfl
      have f0 := hF.at (s := 14) (i := 3) (by kernel_rfl) (by simp) l0
      rw [show vals 3 = .string s0 from hR.k 3 l0] at f0
      exact wp_retN (by simp [go_sem, f0]) (HX0.out _) (fun p n w2 hS hg => ⟨_, rfl, RQ.quiet hmk 4 _ hil hl (by decide) (by decide) (by decide) hg ⟨p, n, rfl, hS⟩ hR⟩)
    · obtain rfl := Option.some.inj ho
      have f0 := hF.old (s := 4) (v := .slice (some ⟨rb, 0, none⟩) 6 6) (by kernel_rfl) rfl
      exact wp_val (.slice (some ⟨rb, 0, none⟩) 6 6) (by simp [go_sem, f0]) ⟨_, rfl, RQ.quiet hmk 5 _ hil hl (by decide) (by decide) (by decide) (Gr.refl _) rfl hR⟩
    · obtain rfl := Option.some.inj ho
      have l0 := hd ⟨5, .data⟩ (by simp) rfl
      have f0 := hF.at (s := 16) (i := 5) (by kernel_rfl) (by simp) l0
      rw [show vals 5 = .slice (some ⟨rb, 0, none⟩) 6 6 from hR.k 5 l0] at f0
      exact wp_val (.pointer (some ⟨rb, 2, none⟩)) (by simp [go_sem, f0]) ⟨_, rfl, RQ.quiet hmk 6 _ hil hl (by decide) (by decide) (by decide) (Gr.refl _) rfl hR⟩
    · obtain rfl := Option.some.inj ho
      have l0 := hd ⟨6, .data⟩ (by simp) rfl
      have f0 := hF.at (s := 17) (i := 6) (by kernel_rfl) (by simp) l0
      rw [show vals 6 = .pointer (some ⟨rb, 2, none⟩) from hR.k 6 l0] at f0
      exact wp_val (.string s2) (by simp [go_sem, f0, hc2]) ⟨_, rfl, RQ.quiet hmk 7 _ hil hl (by decide) (by decide) (by decide) (Gr.refl _) rfl hR⟩
    · obtain rfl := Option.some.inj ho
      have l0 := hd ⟨7, .data⟩ (by simp) rfl
      have f0 := hF.at (s := 18) (i := 7) (by kernel_rfl) (by simp) l0
      rw [show vals 7 = .string s2 from hR.k 7 l0] at f0
      exact wp_retN (by simp [go_sem, f0]) (HX2.out _) (fun p n w2 hS hg => ⟨_, rfl, RQ.quiet hmk 8 _ hil hl (by decide) (by decide) (by decide) hg ⟨p, n, rfl, hS⟩ hR⟩)
    · obtain rfl := Option.some.inj ho
      have f0 := hF.old (s := 4) (v := .slice (some ⟨rb, 0, none⟩) 6 6) (by kernel_rfl) rfl
      exact wp_val (.slice (some ⟨rb, 0, none⟩) 6 6) (by simp [go_sem, f0]) ⟨_, rfl, RQ.quiet hmk 9 _ hil hl (by decide) (by decide) (by decide) (Gr.refl _) rfl hR⟩
    · obtain rfl := Option.some.inj ho
      have l0 := hd ⟨9, .data⟩ (by simp) rfl
      have f0 := hF.at (s := 20) (i := 9) (by kernel_rfl) (by simp) l0
      rw [show vals 9 = .slice (some ⟨rb, 0, none⟩) 6 6 from hR.k 9 l0] at f0
      exact wp_val (.pointer (some ⟨rb, 3, none⟩)) (by simp [go_sem, f0]) ⟨_, rfl, RQ.quiet hmk 10 _ hil hl (by decide) (by decide) (by decide) (Gr.refl _) rfl hR⟩
    · obtain rfl := Option.some.inj ho
      have l0 := hd ⟨10, .data⟩ (by simp) rfl
      have f0 := hF.at (s := 21) (i := 10) (by kernel_rfl) (by simp) l0
      rw [show vals 10 = .pointer (some ⟨rb, 3, none⟩) from hR.k 10 l0] at f0
      exact wp_val (.string s3) (by simp [go_sem, f0, hc3]) ⟨_, rfl, RQ.quiet hmk 11 _ hil hl (by decide) (by decide) (by decide) (Gr.refl _) rfl hR⟩
    · obtain rfl := Option.some.inj ho
      have l0 := hd ⟨11, .data⟩ (by simp) rfl
      have f0 := hF.at (s := 22) (i := 11) (by kernel_rfl) (by simp) l0
      rw [show vals 11 = .string s3 from hR.k 11 l0] at f0
      exact wp_retN (by simp [go_sem, f0]) (HX3.out _) (fun p n w2 hS hg => ⟨_, rfl, RQ.quiet hmk 12 _ hil hl (by decide) (by decide) (by decide) hg ⟨p, n, rfl, hS⟩ hR⟩)
    · obtain rfl := Option.some.inj ho
      have f0 := hF.old (s := 4) (v := .slice (some ⟨rb, 0, none⟩) 6 6) (by kernel_rfl) rfl
      exact wp_val (.slice (some ⟨rb, 0, none⟩) 6 6) (by simp [go_sem, f0]) ⟨_, rfl, RQ.quiet hmk 13 _ hil hl (by decide) (by decide) (by decide) (Gr.refl _) rfl hR⟩
    · obtain rfl := Option.some.inj ho
      have l0 := hd ⟨13, .data⟩ (by simp) rfl
      have f0 := hF.at (s := 24) (i := 13) (by kernel_rfl) (by simp) l0
      rw [show vals 13 = .slice (some ⟨rb, 0, none⟩) 6 6 from hR.k 13 l0] at f0
      exact wp_val (.pointer (some ⟨rb, 4, none⟩)) (by simp [go_sem, f0]) ⟨_, rfl, RQ.quiet hmk 14 _ hil hl (by decide) (by decide) (by decide) (Gr.refl _) rfl hR⟩
    · obtain rfl := Option.some.inj ho
      have l0 := hd ⟨14, .data⟩ (by simp) rfl
      have f0 := hF.at (s := 25) (i := 14) (by kernel_rfl) (by simp) l0
      rw [show vals 14 = .pointer (some ⟨rb, 4, none⟩) from hR.k 14 l0] at f0
      exact wp_val (.string s4) (by simp [go_sem, f0, hc4]) ⟨_, rfl, RQ.quiet hmk 15 _ hil hl (by decide) (by decide) (by decide) (Gr.refl _) rfl hR⟩
    · obtain rfl := Option.some.inj ho
      have l0 := hd ⟨15, .data⟩ (by simp) rfl
      have f0 := hF.at (s := 26) (i := 15) (by kernel_rfl) (by simp) l0
      rw [show vals 15 = .string s4 from hR.k 15 l0] at f0
      exact wp_retN (by simp [go_sem, f0]) (HX4.out _) (fun p n w2 hS hg => ⟨_, rfl, RQ.quiet hmk 16 _ hil hl (by decide) (by decide) (by decide) hg ⟨p, n, rfl, hS⟩ hR⟩)
    · obtain rfl := Option.some.inj ho
      have f0 := hF.old (s := 4) (v := .slice (some ⟨rb, 0, none⟩) 6 6) (by kernel_rfl) rfl
      exact wp_val (.slice (some ⟨rb, 0, none⟩) 6 6) (by simp [go_sem, f0]) ⟨_, rfl, RQ.quiet hmk 17 _ hil hl (by decide) (by decide) (by decide) (Gr.refl _) rfl hR⟩
    · obtain rfl := Option.some.inj ho
      have l0 := hd ⟨17, .data⟩ (by simp) rfl
      have f0 := hF.at (s := 28) (i := 17) (by kernel_rfl) (by simp) l0
      rw [show vals 17 = .slice (some ⟨rb, 0, none⟩) 6 6 from hR.k 17 l0] at f0
      exact wp_val (.pointer (some ⟨rb, 5, none⟩)) (by simp [go_sem, f0]) ⟨_, rfl, RQ.quiet hmk 18 _ hil hl (by decide) (by decide) (by decide) (Gr.refl _) rfl hR⟩
    · obtain rfl := Option.some.inj ho
      have l0 := hd ⟨18, .data⟩ (by simp) rfl
      have f0 := hF.at (s := 29) (i := 18) (by kernel_rfl) (by simp) l0
      rw [show vals 18 = .pointer (some ⟨rb, 5, none⟩) from hR.k 18 l0] at f0
      exact wp_val (.string s5) (by simp [go_sem, f0, hc5]) ⟨_, rfl, RQ.quiet hmk 19 _ hil hl (by decide) (by decide) (by decide) (Gr.refl _) rfl hR⟩
    · obtain rfl := Option.some.inj ho
      have l0 := hd ⟨19, .data⟩ (by simp) rfl
      have f0 := hF.at (s := 30) (i := 19) (by kernel_rfl) (by simp) l0
      rw [show vals 19 = .string s5 from hR.k 19 l0] at f0
      exact wp_retN (by simp [go_sem, f0]) (HX5.out _) (fun p n w2 hS hg => ⟨_, rfl, RQ.quiet hmk 20 _ hil hl (by decide) (by decide) (by decide) hg ⟨p, n, rfl, hS⟩ hR⟩)
    · obtain rfl := Option.some.inj ho
      have l0 := hd ⟨0, .data⟩ (by simp) rfl
      have f0 := hF.at (s := 11) (i := 0) (by kernel_rfl) (by simp) l0
      rw [show vals 0 = .int .i64 id from hR.k 0 l0] at f0
      have l1 := hd ⟨4, .data⟩ (by simp) rfl
      have f1 := hF.at (s := 15) (i := 4) (by kernel_rfl) (by simp) l1
      obtain ⟨p1, n1, e1, -⟩ := (show ∃ p n, vals 4 = Value.slice p (dl x0) n ∧ Sl v1 p x0 from hR.k 4 l1)
      rw [e1] at f1
      have l2 := hd ⟨8, .data⟩ (by simp) rfl
      have f2 := hF.at (s := 19) (i := 8) (by kernel_rfl) (by simp) l2
      obtain ⟨p2, n2, e2, -⟩ := (show ∃ p n, vals 8 = Value.slice p (dl x2) n ∧ Sl v1 p x2 from hR.k 8 l2)
      rw [e2] at f2
      have l3 := hd ⟨12, .data⟩ (by simp) rfl
      have f3 := hF.at (s := 23) (i := 12) (by kernel_rfl) (by simp) l3
      obtain ⟨p3, n3, e3, -⟩ := (show ∃ p n, vals 12 = Value.slice p (dl x3) n ∧ Sl v1 p x3 from hR.k 12 l3)
      rw [e3] at f3
      have l4 := hd ⟨16, .data⟩ (by simp) rfl
      have f4 := hF.at (s := 27) (i := 16) (by kernel_rfl) (by simp) l4
      obtain ⟨p4, n4, e4, -⟩ := (show ∃ p n, vals 16 = Value.slice p (dl x4) n ∧ Sl v1 p x4 from hR.k 16 l4)
      rw [e4] at f4
      have l5 := hd ⟨20, .data⟩ (by simp) rfl
      have f5 := hF.at (s := 31) (i := 20) (by kernel_rfl) (by simp) l5
      obtain ⟨p5, n5, e5, -⟩ := (show ∃ p n, vals 20 = Value.slice p (dl x5) n ∧ Sl v1 p x5 from hR.k 20 l5)
      rw [e5] at f5
      have hb := RQ.build hmk hil hl (by decide) (by decide) (by decide) rfl (fun j hj => by
        simp only [List.mem_cons, List.not_mem_nil, or_false] at hj
        rcases hj with rfl | rfl | rfl | rfl | rfl
        · exact l1
        · exact l2
        · exact l3
        · exact l4
        · exact l5) hR
      refine wp_val _ ?_ ⟨_, rfl, hb⟩
      simp [go_sem, f0, f1, f2, f3, f4, f5, e1, e2, e3, e4, e5]
    · obtain rfl := Option.some.inj ho
      exact wp_val (.pointer (some ⟨v1.heap.size, 0, none⟩)) (w' := v1.alloc (.cells #[.int .i64 0, .slice none 0 0, .slice none 0 0, .slice none 0 0, .slice none 0 0, .slice none 0 0, .slice none 0 0] 31)) (by simp [go_sem]) ⟨_, rfl, RQ.alloc hmk 31 hil hl (by decide) (by decide) (by decide) rfl hR⟩
    · obtain rfl := Option.some.inj ho
      have lb := hd ⟨21, .data⟩ (by simp) rfl
      have la := hd ⟨22, .data⟩ (by simp) rfl
      obtain ⟨b, e0, g2, g3, g4, g5, -⟩ := hR.a la
      have f0 := hF.at (s := 5) (i := 22) (by kernel_rfl) (by simp) la
      rw [e0] at f0
      have f1 := hF.at (s := 32) (i := 21) (by kernel_rfl) (by simp) lb
      rw [(hR.d lb).2] at f1
      obtain ⟨p0, n0, e1, -⟩ := (show ∃ p n, vals 4 = Value.slice p (dl x0) n ∧ Sl v1 p x0 from hR.k 4 ((hR.d lb).1 4 (by simp)))
      obtain ⟨p1, n1, e2, -⟩ := (show ∃ p n, vals 8 = Value.slice p (dl x2) n ∧ Sl v1 p x2 from hR.k 8 ((hR.d lb).1 8 (by simp)))
      obtain ⟨p2, n2, e3, -⟩ := (show ∃ p n, vals 12 = Value.slice p (dl x3) n ∧ Sl v1 p x3 from hR.k 12 ((hR.d lb).1 12 (by simp)))
      obtain ⟨p3, n3, e4, -⟩ := (show ∃ p n, vals 16 = Value.slice p (dl x4) n ∧ Sl v1 p x4 from hR.k 16 ((hR.d lb).1 16 (by simp)))
      obtain ⟨p4, n4, e5, -⟩ := (show ∃ p n, vals 20 = Value.slice p (dl x5) n ∧ Sl v1 p x5 from hR.k 20 ((hR.d lb).1 20 (by simp)))
      have hst := RQ.store hmk hil hl (by decide) (by decide) (by decide) rfl (fun i n => by
        intro h
        match i, h with
        | 0, h => simp at h
        | 1, h => simp at h
        | 2, h => simp at h
        | 3, h => simp at h
        | 4, h => simp at h
        | 5, h => simp at h
        | 6, h => simp at h
        | k + 7, h => simp at h) (by decide) lb la b e0 hR
      refine wp_skip ?_ ⟨undef, rfl, hst⟩
      have g6 := g5 hl
      simp only [e1, e2, e3, e4, e5] at f1 ⊢
      have hsr := storeC v1 b id p0 p1 p2 p3 p4 (dl x0) (dl x2) (dl x3) (dl x4) (dl x5) n0 n1 n2 n3 n4 (by rw [g6]; rfl) g4
      simp [go_sem, f0, f1, hsr]
  case hf =>
    intro listed vals a1 v1 hall hR hF
    have y0 : vals 0 = .int .i64 id := hR.k 0 (hall 0 (by simp))
    have y1 : vals 1 = .slice (some ⟨rb, 0, none⟩) 6 6 := hR.k 1 (hall 1 (by simp))
    have y2 : vals 2 = .pointer (some ⟨rb, 0, none⟩) := hR.k 2 (hall 2 (by simp))
    have y3 : vals 3 = .string s0 := hR.k 3 (hall 3 (by simp))
    obtain ⟨p4, n4, y4, S4⟩ := (show ∃ p n, vals 4 = Value.slice p (dl x0) n ∧ Sl v1 p x0 from hR.k 4 (hall 4 (by simp)))
    have y5 : vals 5 = .slice (some ⟨rb, 0, none⟩) 6 6 := hR.k 5 (hall 5 (by simp))
    have y6 : vals 6 = .pointer (some ⟨rb, 2, none⟩) := hR.k 6 (hall 6 (by simp))
    have y7 : vals 7 = .string s2 := hR.k 7 (hall 7 (by simp))
    obtain ⟨p8, n8, y8, S8⟩ := (show ∃ p n, vals 8 = Value.slice p (dl x2) n ∧ Sl v1 p x2 from hR.k 8 (hall 8 (by simp)))
    have y9 : vals 9 = .slice (some ⟨rb, 0, none⟩) 6 6 := hR.k 9 (hall 9 (by simp))
    have y10 : vals 10 = .pointer (some ⟨rb, 3, none⟩) := hR.k 10 (hall 10 (by simp))
    have y11 : vals 11 = .string s3 := hR.k 11 (hall 11 (by simp))
    obtain ⟨p12, n12, y12, S12⟩ := (show ∃ p n, vals 12 = Value.slice p (dl x3) n ∧ Sl v1 p x3 from hR.k 12 (hall 12 (by simp)))
    have y13 : vals 13 = .slice (some ⟨rb, 0, none⟩) 6 6 := hR.k 13 (hall 13 (by simp))
    have y14 : vals 14 = .pointer (some ⟨rb, 4, none⟩) := hR.k 14 (hall 14 (by simp))
    have y15 : vals 15 = .string s4 := hR.k 15 (hall 15 (by simp))
    obtain ⟨p16, n16, y16, S16⟩ := (show ∃ p n, vals 16 = Value.slice p (dl x4) n ∧ Sl v1 p x4 from hR.k 16 (hall 16 (by simp)))
    have y17 : vals 17 = .slice (some ⟨rb, 0, none⟩) 6 6 := hR.k 17 (hall 17 (by simp))
    have y18 : vals 18 = .pointer (some ⟨rb, 5, none⟩) := hR.k 18 (hall 18 (by simp))
    have y19 : vals 19 = .string s5 := hR.k 19 (hall 19 (by simp))
    obtain ⟨p20, n20, y20, S20⟩ := (show ∃ p n, vals 20 = Value.slice p (dl x5) n ∧ Sl v1 p x5 from hR.k 20 (hall 20 (by simp)))
    obtain ⟨b, y22, q1, q2, q3, -, q4⟩ := hR.a (hall 22 (by simp))
    have q4 := q4 (hall 23 (by simp))
    have y21 := (hR.d (hall 21 (by simp))).2
    simp only [y4, y8, y12, y16, y20] at q4 y21
    have g1 := hR.g
    rw [hF.final (by kernel_rfl) hall]
    simp only [putFrom, Act.put, List.setIfInBounds_toArray, List.set_cons_zero, List.set_cons_succ, y0, y1, y2, y3, y4, y5, y6, y7, y8, y9, y10, y11, y12, y13, y14, y15, y16, y17, y18, y19, y20, y21, y22]
    clear hR hF hall y0 y1 y2 y3 y4 y5 y6 y7 y8 y9 y10 y11 y12 y13 y14 y15 y16 y17 y18 y19 y20 y21 y22
    have hr1 : v1.cell? ⟨rb, 1, none⟩ = some (.string s1) := by rw [cell_blk, g1.blk _ prb, hrb]; rfl
    have pr1 : Pre (rb + 1) v1.heap.size := Nat.le_trans prb g1.below.size
    have d1 : blk v1 w.heap.size = #[.int .i64 0, .slice none 0 0, .slice none 0 0, .slice none 0 0, .slice none 0 0, .slice none 0 0, .slice none 0 0] := by rw [g1.blk _ c3]; exact c1
    have d2 : frz v1 w.heap.size = (0, 0) := by rw [g1.frz _ c3]; exact c2
    have d3 : Pre (w.heap.size + 1) v1.heap.size := Nat.le_trans c3 g1.below.size
    have q0 : w.heap.size ≤ b := Nat.le_trans G0.below.size q1
    have nb : b ≠ w.heap.size := by have : w.heap.size + 1 ≤ W1.heap.size := c3; omega
    have nb' : ¬ w.heap.size = b := Ne.symm nb
    have hcP : v1.cell? ⟨b, 1, none⟩ = some (.slice p4 (dl x0) n4) := by rw [cell_blk, q4]; rfl
    have GA : Gr w v1 := G0.trans g1
    clear hmk HR' HX0 HX2 HX3 HX4 HX5 c1 c2 c3 G0 G1
    rcases h1 with ⟨hs1, h3, h5, hx1⟩ | ⟨hne, H1⟩
    · have HS : Hid (∀ w' q k, Gr v1 w' → Sl w' q 3 → Calls Tryz.prog 36 #[.slice p4 (dl x0) n4, .slice q 1 k] w' (Nm (x0 - 3) w')) := fun w' q k g hq => rsub_any x0 3 n4 k p4 q w' (S4.gr g) hq h5 h3
      have hb3 : ∀ w, (bslS 29 1 #[(0, .int .u32 3)]).run Tryz.prog w = .ok (.slice (some ⟨w.heap.size, 0, none⟩) 1 1) (w.alloc (.cells (nd 1 3) 65)) := fun w => build1 3 (by decide) w
      have hT : Sl (v1.alloc (.cells (nd 1 3) 65)) (some ⟨v1.heap.size, 0, none⟩) 3 := Sl.of_blk (n := 1) (by simp [go_sem]) (by simp [go_sem]) (by decide)
      subst hs1 hx1
      clear h3 h5
      go_upto_region 8 with (go_at_call 36; refine (HS.out _ _ _ ?_ ?_).mono ?_; exact (Gr.refl _).alloc _; exact hT; rintro e W2 ⟨p2, n2, rfl, S2, G2⟩; (have g2 : Gr v1 W2 := ((Gr.refl _).alloc _).trans G2); (have hcb : blk W2 b = #[.int .i64 id, .slice p4 (dl x0) n4, .slice none 0 0, .slice p8 (dl x2) n8, .slice p12 (dl x3) n12, .slice p16 (dl x4) n16, .slice p20 (dl x5) n20] := by rw [g2.blk _ q2]; exact q4); (have hfb : frz W2 b = (0, 0) := by rw [g2.frz _ q2]; exact q3); (have hpb : Pre (b + 1) W2.heap.size := Nat.le_trans q2 g2.below.size); (have hcr : blk W2 w.heap.size = #[.int .i64 0, .slice none 0 0, .slice none 0 0, .slice none 0 0, .slice none 0 0, .slice none 0 0, .slice none 0 0] := by rw [g2.blk _ d3]; exact d1); (have hfr : frz W2 w.heap.size = (0, 0) := by rw [g2.frz _ d3]; exact d2); (have hpr : Pre (w.heap.size + 1) W2.heap.size := Nat.le_trans d3 g2.below.size); (have hS4 : Sl W2 p4 x0 := S4.gr g2); (have hc2 : W2.cell? ⟨b, 2, none⟩ = some (.slice none 0 0) := by rw [cell_blk, hcb]; rfl); (have hz2 : W2.frozen? ⟨b, 2, none⟩ = false := frozen_frz _ _ _ hfb); (have hset : ∀ v, W2.setCell ⟨b, 2, none⟩ v = setBlk W2 b #[.int .i64 id, .slice p4 (dl x0) n4, v, .slice p8 (dl x2) n8, .slice p12 (dl x3) n12, .slice p16 (dl x4) n16, .slice p20 (dl x5) n20] := fun v => by rw [setCell_setBlk, hcb]; rfl))
      try simp only [hset]
      refine gen_w (fun v => Hid (Gr w v ∧ blk v b = #[.int .i64 id, .slice p4 (dl x0) n4, .slice p2 (dl (x0 - 3)) n2, .slice p8 (dl x2) n8, .slice p12 (dl x3) n12, .slice p16 (dl x4) n16, .slice p20 (dl x5) n20] ∧ frz v b = (0, 0) ∧ Pre (b + 1) v.heap.size ∧ blk v w.heap.size = #[.int .i64 0, .slice none 0 0, .slice none 0 0, .slice none 0 0, .slice none 0 0, .slice none 0 0, .slice none 0 0] ∧ frz v w.heap.size = (0, 0) ∧ Pre (w.heap.size + 1) v.heap.size ∧ Sl v p4 x0 ∧ Sl v p2 (x0 - 3) ∧ Sl v p8 x2 ∧ Sl v p12 x3 ∧ Sl v p16 x4 ∧ Sl v p20 x5)) ?_ ?_
      · refine ⟨?_, ?_, ?_, ?_, ?_, ?_, ?_, ?_, ?_, ?_, ?_, ?_, ?_⟩
        · exact gr_setNew (GA.trans g2) q0
        · rw [blk_setBlk _ _ _ (by rw [hcb]; simp)]
        · rw [frz_setBlk]; exact hfb
        · rw [size_setBlk]; exact hpb
        · rw [blk_other _ _ _ _ nb]; exact hcr
        · rw [frz_setBlk]; exact hfr
        · rw [size_setBlk]; exact hpr
        · exact Sl.set hS4 (by rw [hcb]; exact noU id (p4, dl x0, n4) (none, 0, 0) (p8, dl x2, n8) (p12, dl x3, n12) (p16, dl x4, n16) (p20, dl x5, n20))
        · exact Sl.set S2 (by rw [hcb]; exact noU id (p4, dl x0, n4) (none, 0, 0) (p8, dl x2, n8) (p12, dl x3, n12) (p16, dl x4, n16) (p20, dl x5, n20))
        · exact Sl.set (S8.gr g2) (by rw [hcb]; exact noU id (p4, dl x0, n4) (none, 0, 0) (p8, dl x2, n8) (p12, dl x3, n12) (p16, dl x4, n16) (p20, dl x5, n20))
        · exact Sl.set (S12.gr g2) (by rw [hcb]; exact noU id (p4, dl x0, n4) (none, 0, 0) (p8, dl x2, n8) (p12, dl x3, n12) (p16, dl x4, n16) (p20, dl x5, n20))
        · exact Sl.set (S16.gr g2) (by rw [hcb]; exact noU id (p4, dl x0, n4) (none, 0, 0) (p8, dl x2, n8) (p12, dl x3, n12) (p16, dl x4, n16) (p20, dl x5, n20))
        · exact Sl.set (S20.gr g2) (by rw [hcb]; exact noU id (p4, dl x0, n4) (none, 0, 0) (p8, dl x2, n8) (p12, dl x3, n12) (p16, dl x4, n16) (p20, dl x5, n20))
      intro v0 HV
      obtain ⟨G, k1, k2, k3, k4, k5, k6, k7, k8, k9, k10, k11, k12⟩ := HV.out
      have hst := storeC7 v0 w.heap.size id p4 p8 p12 p16 p20 p2 (dl x0) (dl x2) (dl x3) (dl x4) (dl x5) (dl (x0 - 3)) n4 n8 n12 n16 n20 n2 (by rw [k4]; rfl) k5
      clear HV
      go_wp2_with fail
      refine bodyPost_ret (res_two Tryz.results12 (rd_cell (c := #[.int .i64 id, .slice p4 (dl x0) n4, .slice p2 (dl (x0 - 3)) n2, .slice p8 (dl x2) n8, .slice p12 (dl x3) n12, .slice p16 (dl x4) n16, .slice p20 (dl x5) n20]) 7 Tryz.underlying31 rfl (by kernel_rfl) (by rfl) ?_ rfl) (rd_tmp (by rfl))) rfl ⟨six (p4, n4) (p2, n2) (p8, n8) (p12, n12) (p16, n16) (p20, n20), rfl, ?_, ?_⟩
      · simp [go_sem, k4]
      · intro k
        match k with
        | 0 => exact Sl.set k7 (by rw [k4]; exact noU 0 (none, 0, 0) (none, 0, 0) (none, 0, 0) (none, 0, 0) (none, 0, 0) (none, 0, 0))
        | 1 => exact Sl.set k8 (by rw [k4]; exact noU 0 (none, 0, 0) (none, 0, 0) (none, 0, 0) (none, 0, 0) (none, 0, 0) (none, 0, 0))
        | 2 => exact Sl.set k9 (by rw [k4]; exact noU 0 (none, 0, 0) (none, 0, 0) (none, 0, 0) (none, 0, 0) (none, 0, 0) (none, 0, 0))
        | 3 => exact Sl.set k10 (by rw [k4]; exact noU 0 (none, 0, 0) (none, 0, 0) (none, 0, 0) (none, 0, 0) (none, 0, 0) (none, 0, 0))
        | 4 => exact Sl.set k11 (by rw [k4]; exact noU 0 (none, 0, 0) (none, 0, 0) (none, 0, 0) (none, 0, 0) (none, 0, 0) (none, 0, 0))
        | k + 5 => exact Sl.set k12 (by rw [k4]; exact noU 0 (none, 0, 0) (none, 0, 0) (none, 0, 0) (none, 0, 0) (none, 0, 0) (none, 0, 0))
      · exact gr_setNew G (Nat.le_refl _)
    · have H1' : Hid (∀ w, Calls Tryz.prog 35 #[.string s1] w (Nm x1 w)) := H1
      clear H1
      go_upto_region 8 with (go_at_call 35; refine (H1'.out _).mono ?_; rintro e W2 ⟨p2, n2, rfl, S2, g2⟩; (have hcb : blk W2 b = #[.int .i64 id, .slice p4 (dl x0) n4, .slice none 0 0, .slice p8 (dl x2) n8, .slice p12 (dl x3) n12, .slice p16 (dl x4) n16, .slice p20 (dl x5) n20] := by rw [g2.blk _ q2]; exact q4); (have hfb : frz W2 b = (0, 0) := by rw [g2.frz _ q2]; exact q3); (have hpb : Pre (b + 1) W2.heap.size := Nat.le_trans q2 g2.below.size); (have hcr : blk W2 w.heap.size = #[.int .i64 0, .slice none 0 0, .slice none 0 0, .slice none 0 0, .slice none 0 0, .slice none 0 0, .slice none 0 0] := by rw [g2.blk _ d3]; exact d1); (have hfr : frz W2 w.heap.size = (0, 0) := by rw [g2.frz _ d3]; exact d2); (have hpr : Pre (w.heap.size + 1) W2.heap.size := Nat.le_trans d3 g2.below.size); (have hS4 : Sl W2 p4 x0 := S4.gr g2); (have hc2 : W2.cell? ⟨b, 2, none⟩ = some (.slice none 0 0) := by rw [cell_blk, hcb]; rfl); (have hz2 : W2.frozen? ⟨b, 2, none⟩ = false := frozen_frz _ _ _ hfb); (have hset : ∀ v, W2.setCell ⟨b, 2, none⟩ v = setBlk W2 b #[.int .i64 id, .slice p4 (dl x0) n4, v, .slice p8 (dl x2) n8, .slice p12 (dl x3) n12, .slice p16 (dl x4) n16, .slice p20 (dl x5) n20] := fun v => by rw [setCell_setBlk, hcb]; rfl))
      try simp only [hset]
      refine gen_w (fun v => Hid (Gr w v ∧ blk v b = #[.int .i64 id, .slice p4 (dl x0) n4, .slice p2 (dl x1) n2, .slice p8 (dl x2) n8, .slice p12 (dl x3) n12, .slice p16 (dl x4) n16, .slice p20 (dl x5) n20] ∧ frz v b = (0, 0) ∧ Pre (b + 1) v.heap.size ∧ blk v w.heap.size = #[.int .i64 0, .slice none 0 0, .slice none 0 0, .slice none 0 0, .slice none 0 0, .slice none 0 0, .slice none 0 0] ∧ frz v w.heap.size = (0, 0) ∧ Pre (w.heap.size + 1) v.heap.size ∧ Sl v p4 x0 ∧ Sl v p2 x1 ∧ Sl v p8 x2 ∧ Sl v p12 x3 ∧ Sl v p16 x4 ∧ Sl v p20 x5)) ?_ ?_
      · refine ⟨?_, ?_, ?_, ?_, ?_, ?_, ?_, ?_, ?_, ?_, ?_, ?_, ?_⟩
        · exact gr_setNew (GA.trans g2) q0
        · rw [blk_setBlk _ _ _ (by rw [hcb]; simp)]
        · rw [frz_setBlk]; exact hfb
        · rw [size_setBlk]; exact hpb
        · rw [blk_other _ _ _ _ nb]; exact hcr
        · rw [frz_setBlk]; exact hfr
        · rw [size_setBlk]; exact hpr
        · exact Sl.set hS4 (by rw [hcb]; exact noU id (p4, dl x0, n4) (none, 0, 0) (p8, dl x2, n8) (p12, dl x3, n12) (p16, dl x4, n16) (p20, dl x5, n20))
        · exact Sl.set S2 (by rw [hcb]; exact noU id (p4, dl x0, n4) (none, 0, 0) (p8, dl x2, n8) (p12, dl x3, n12) (p16, dl x4, n16) (p20, dl x5, n20))
        · exact Sl.set (S8.gr g2) (by rw [hcb]; exact noU id (p4, dl x0, n4) (none, 0, 0) (p8, dl x2, n8) (p12, dl x3, n12) (p16, dl x4, n16) (p20, dl x5, n20))
        · exact Sl.set (S12.gr g2) (by rw [hcb]; exact noU id (p4, dl x0, n4) (none, 0, 0) (p8, dl x2, n8) (p12, dl x3, n12) (p16, dl x4, n16) (p20, dl x5, n20))
        · exact Sl.set (S16.gr g2) (by rw [hcb]; exact noU id (p4, dl x0, n4) (none, 0, 0) (p8, dl x2, n8) (p12, dl x3, n12) (p16, dl x4, n16) (p20, dl x5, n20))
        · exact Sl.set (S20.gr g2) (by rw [hcb]; exact noU id (p4, dl x0, n4) (none, 0, 0) (p8, dl x2, n8) (p12, dl x3, n12) (p16, dl x4, n16) (p20, dl x5, n20))
      intro v0 HV
      obtain ⟨G, k1, k2, k3, k4, k5, k6, k7, k8, k9, k10, k11, k12⟩ := HV.out
      have hst := storeC7 v0 w.heap.size id p4 p8 p12 p16 p20 p2 (dl x0) (dl x2) (dl x3) (dl x4) (dl x5) (dl x1) n4 n8 n12 n16 n20 n2 (by rw [k4]; rfl) k5
      clear HV
      go_wp2_with fail
      refine bodyPost_ret (res_two Tryz.results12 (rd_cell (c := #[.int .i64 id, .slice p4 (dl x0) n4, .slice p2 (dl x1) n2, .slice p8 (dl x2) n8, .slice p12 (dl x3) n12, .slice p16 (dl x4) n16, .slice p20 (dl x5) n20]) 7 Tryz.underlying31 rfl (by kernel_rfl) (by rfl) ?_ rfl) (rd_tmp (by rfl))) rfl ⟨six (p4, n4) (p2, n2) (p8, n8) (p12, n12) (p16, n16) (p20, n20), rfl, ?_, ?_⟩
      · simp [go_sem, k4]
      · intro k
        match k with
        | 0 => exact Sl.set k7 (by rw [k4]; exact noU 0 (none, 0, 0) (none, 0, 0) (none, 0, 0) (none, 0, 0) (none, 0, 0) (none, 0, 0))
        | 1 => exact Sl.set k8 (by rw [k4]; exact noU 0 (none, 0, 0) (none, 0, 0) (none, 0, 0) (none, 0, 0) (none, 0, 0) (none, 0, 0))
        | 2 => exact Sl.set k9 (by rw [k4]; exact noU 0 (none, 0, 0) (none, 0, 0) (none, 0, 0) (none, 0, 0) (none, 0, 0) (none, 0, 0))
        | 3 => exact Sl.set k10 (by rw [k4]; exact noU 0 (none, 0, 0) (none, 0, 0) (none, 0, 0) (none, 0, 0) (none, 0, 0) (none, 0, 0))
        | 4 => exact Sl.set k11 (by rw [k4]; exact noU 0 (none, 0, 0) (none, 0, 0) (none, 0, 0) (none, 0, 0) (none, 0, 0) (none, 0, 0))
        | k + 5 => exact Sl.set k12 (by rw [k4]; exact noU 0 (none, 0, 0) (none, 0, 0) (none, 0, 0) (none, 0, 0) (none, 0, 0) (none, 0, 0))
      · exact gr_setNew G (Nat.le_refl _)

end Go.Proofs.YtlbkhhihkomahaaGreat
