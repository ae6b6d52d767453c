import Derived.Test.YtempibiahmmppaaGreatXKIX
namespace Go.Proofs.YtempibiahmmppaaGreat
open Go.RowKit
set_option maxRecDepth 100000
set_option maxHeartbeats 8000000
section
structure Sto where
 i : Nat
 t : TypeId
 b : Nat
 c : Array Value
def ObS (P : Program) (l : List Oper) (kp : List Kw) (a0 : Act) (I : World → Prop) (e : Sto) : Prop :=
 (∀ v, I v → (exI (.store e.t (.const (.pointer (some ⟨e.b, 0, none⟩))) (.const (.agg e.c)))).run P v = .ok .skip (setBlk v e.b e.c) ∧ I (setBlk v e.b e.c) ∧ 0 < (blk v e.b).size ∧ e.b < v.heap.size) ∧
 kW kp e.i = .u ∧ runW l kp a0 e.i = fun _ => some (exI (.store e.t (.const (.pointer (some ⟨e.b, 0, none⟩))) (.const (.agg e.c))))
theorem ObS.mk {P : Program} {l : List Oper} {kp : List Kw} {a0 : Act} {I : World → Prop} {e : Sto} (h : ∀ v, I v → (exI (.store e.t (.const (.pointer (some ⟨e.b, 0, none⟩))) (.const (.agg e.c)))).run P v = .ok .skip (setBlk v e.b e.c) ∧ I (setBlk v e.b e.c) ∧ 0 < (blk v e.b).size ∧ e.b < v.heap.size)
   (ku : kW kp e.i = .u := by rfl) (hr : runW l kp a0 e.i = fun _ => some (exI (.store e.t (.const (.pointer (some ⟨e.b, 0, none⟩))) (.const (.agg e.c)))) := by kernel_rfl) : ObS P l kp a0 I e := ⟨h, ku, hr⟩
abbrev w0 : Wt := fun _ => (none, 0)
def ExS (ex : List Nat) (st : List Sto) : List Nat := ex ++ st.map Sto.i
def chkS (l : List Oper) (kp : List Kw) : Bool := (List.range l.length).all fun j => (kW kp j).cst != 0
section
variable {P : Program} {l : List Oper} {Q : Exit → Act → World → Prop} {a0 : Act} {kp : List Kw} {ex : List Nat} {st : List Sto} {I : World → Prop}
def RS3 (I : World → Prop) (kp : List Kw) (st : List Sto) (listed : Array Bool) (vals : Nat → Value) (w : World) : Prop :=
 I w ∧ (∀ j, listed.getD j false = true → vals j = (kW kp j).val w0) ∧ ∀ e, e ∈ st → listed.getD e.i false = true → blk w e.b = e.c
theorem stepU (hk : chkW l kp (ExS ex st) l.length = true) (hp : pureL P l kp a0 (ExS ex st) l.length = pureR kp (ExS ex st) l.length) (hc : chkS l kp = true) (hI : ∀ v v', I v → Gr v v' → I v') (ho : ∀ v, I v → ObsW P l kp a0 v ex) (hs : ForY (ObS P l kp a0 I) st)
   (hi1 : (st.map Sto.i).Nodup) (hb1 : (st.map Sto.b).Nodup) (hv1 : ∀ i, i < l.length → i ∉ st.map Sto.i → ∀ y, (kW kp i).val y = (kW kp i).val w0) : StepR P l Q a0 (RS3 I kp st) := by
 intro listed vals a w i o hz hR hF hi hl hd
 obtain ⟨h1, h2, h3⟩ := hR
 have hil : i < l.length := by simpa using (Array.getElem?_eq_some_iff.1 hi).1
 have his : i < listed.size := by rw [hz]; simpa using hil
 have hlen := (chk_u hk).2
 have hoi := opW_is hi
 have hcs : ∀ j, j < l.length → (kW kp j).cst ≠ 0 := fun j hj => by
   have := List.all_eq_true.1 hc j (List.mem_range.2 hj)
   simpa using this
 have hlj : ∀ j, listed.getD j false = true → j < l.length := fun j hj => by
   rcases Nat.lt_or_ge j listed.size with h | h
   · rw [hz] at h; simpa using h
   · simp [h] at hj
 obtain ⟨x, hx, hev, hwn⟩ := atW hk (fun j hj => (kz_W (by have := hlj j hj; omega) _ _).2 ⟨w0, h2 j hj, (kW kp j).hc (hcs j (hlj j hj)) _ _⟩) hF hi hil hd
 rw [hwn]
 by_cases hB : ∃ e, e ∈ st ∧ e.i = i
 · obtain ⟨e, he, rfl⟩ := hB
   obtain ⟨ob, ku, hr⟩ := hs.at e he
   obtain ⟨g1, g2⟩ := run_W (x := x) hr
   obtain ⟨o1, o2, o3, o4⟩ := ob w h1
   refine Or.inl ⟨g1, wp_skip (by rw [hev, ← hoi, g2]; exact o1) ⟨_, rfl, o2, fun j hj => ?_, fun e' he' hle => ?_⟩⟩
   · by_cases ee : j = e.i
     · subst ee
       rw [ku]; simp only [upd, if_true]; rfl
     · rw [getD_set_other _ _ _ (Ne.symm ee)] at hj
       simp only [upd, ee, if_false]
       exact h2 j hj
   · by_cases ee : e'.i = e.i
     · obtain rfl := map_one Sto.i hi1 e' e he' he ee
       exact blk_setBlk _ _ _ o3
     · rw [getD_set_other _ _ _ (Ne.symm ee)] at hle
       rw [blk_other _ _ _ _ fun eb => ee (by rw [map_one Sto.b hb1 e' e he' he eb.symm])]
       exact h3 e' he' hle
 have hBi : i ∉ st.map Sto.i := fun h => by
   obtain ⟨e, he, h⟩ := List.mem_map.1 h
   exact hB ⟨e, he, h⟩
 have nx : ∀ v w', Gr w w' → v = (kW kp i).val w0 → RS3 I kp st (listed.setIfInBounds i true) (upd vals i v) w' := fun v w' hg hv => by
   refine ⟨hI _ _ h1 hg, fun j hj => ?_, fun e he hle => ?_⟩
   · by_cases ee : j = i
     · subst ee; simp only [upd, if_true]; exact hv
     · rw [getD_set_other _ _ _ (Ne.symm ee)] at hj
       simp only [upd, ee, if_false]
       exact h2 j hj
   · rw [getD_set_other _ _ _ (fun ee => hB ⟨e, he, ee.symm⟩)] at hle
     rw [hg.blk _ ((hs.at e he).1 w h1).2.2.2]
     exact h3 e he hle
 by_cases hm : i ∈ ex
 · obtain ⟨g1, g2⟩ := (ho w h1).at i hm x w (Gr.refl _) fun j hj => (hx j hj).2.2
   refine Or.inl ⟨g1, ?_⟩
   rw [hoi] at g2
   obtain ⟨y, w', hrun, hg, hok⟩ | ⟨f, args, hrun, hc⟩ := g2
   · exact wp_val _ (by rw [hev]; exact hrun) ⟨_, rfl, nx _ _ hg (hv1 i hil hBi y)⟩
   · refine wp_retz (k := (kW kp i).kz) (by rw [hev]; exact hrun) (hc.mono fun e w' ⟨y, he, hok, hg⟩ => ⟨_, he, ⟨y, rfl, hok⟩, hg⟩) fun u w' ⟨y, hy, _⟩ hg => ⟨u, rfl, nx _ _ hg (hy.trans (hv1 i hil hBi y))⟩
 · have hmem : i ∈ others (ExS ex st) l.length := by
     refine List.mem_filter.2 ⟨by simpa using hil, ?_⟩
     have : i ∉ ExS ex st := fun h => by
       rcases List.mem_append.1 h with h | h
       · exact hm h
       · exact hBi h
     simpa using this
   have hpi : resW P l kp a0 x w i = expW kp x w i := List.map_inj_left.1 (congrFun (congrFun hp x) w) i hmem
   simp only [resW, expW, hoi] at hpi
   cases hw : wnt l i (FW l kp a0 x) with
   | true =>
     rw [hw] at hpi
     refine Or.inl ⟨rfl, ?_⟩
     cases h2 : (kW kp i).cst == 2 with
     | true => rw [h2] at hpi; cases hpi
     | false =>
       rw [h2] at hpi
       exact wp_val _ (by rw [hev]; exact Option.some.inj hpi) ⟨_, rfl, nx _ _ (Gr.refl _) (hv1 i hil hBi _)⟩
   | false =>
     rw [hw] at hpi
     refine Or.inr ⟨rfl, ?_⟩
     cases h2 : (kW kp i).cst == 2 with
     | true => exact nx _ _ (Gr.refl _) ((kW kp i).hs (by simpa using h2) _).symm
     | false => rw [h2] at hpi; cases hpi
theorem wp_u (d : Bool) {id : Nat} {W : World} (kp : List Kw) (ex : List Nat) (st : List Sto) (I : World → Prop) (h0 : I W) (hI : ∀ v v', I v → Gr v v' → I v') (ho : ∀ v, I v → ObsW P l kp a0 v ex) (hs : ForY (ObS P l kp a0 I) st) (hb1 : (st.map Sto.b).Nodup)
   (hfin : ∀ v, I v → ForY (fun e => blk v e.b = e.c) st → Q .normal (FW l kp a0 fun _ => w0) v) (hm : (!d || P.follows .mixedOrders) = true := by kernel_rfl) (hk : (chkW l kp (ExS ex st) l.length && chkS l kp && decide (st.map Sto.i).Nodup) = true := by kernel_rfl) (hp : pureL P l kp a0 (ExS ex st) l.length = pureR kp (ExS ex st) l.length := by kernel_rfl)
   (hv : (fun y => (List.range l.length).map fun i => (kW kp i).val y) = fun _ => (List.range l.length).map fun i => (kW kp i).val w0 := by kernel_rfl) : (Code.region id l.toArray d).wp P Q a0 W := by
 simp only [Bool.and_eq_true, decide_eq_true_eq] at hk
 obtain ⟨⟨hk, hc⟩, hi1⟩ := hk
 obtain ⟨hu, hlen⟩ := chk_u hk
 refine wp_region_ord d (fun h => by subst h; simpa using hm) hu (RS3 I kp st) (fun listed w' hn hg => ?_) (stepU hk hp hc hI ho hs hi1 hb1 fun i hi _ y => List.map_inj_left.1 (congrFun hv y) i (List.mem_range.2 hi)) fun listed vals a v hall hR hF => ?_
 · have hx : ∀ (i : Nat) (p : Prop), listed.getD i false = true → p := fun i p h => by rw [hn] at h; cases h
   exact ⟨hI _ _ h0 hg, fun j hj => hx j _ hj, fun e _ h => hx e.i _ h⟩
 · rw [hF.final hu hall]
   obtain ⟨h1, h2, h3⟩ := hR
   rw [putFrom_congr (vals' := wvals kp fun _ => w0) l 0 a0 fun j o hj _ => by rw [Nat.zero_add]; exact h2 j (hall j (by simpa using (List.getElem?_eq_some_iff.1 hj).1))]
   refine hfin v h1 ?_
   have : ∀ e, e ∈ st → blk v e.b = e.c := fun e he => by
     rcases Nat.lt_or_ge e.i l.length with h | h
     · exact h3 e he (hall e.i (by simpa using h))
     · obtain ⟨-, -, hr⟩ := hs.at e he
       have hq := (run_W (x := fun _ => w0) hr).2
       rw [opW, List.getElem?_eq_none h] at hq
       cases hq
   clear h3 hs hi1 hb1 hk hc hp ho hfin
   induction st with
   | nil => trivial
   | cons e r ih => exact ⟨this e (List.mem_cons_self ..), ih fun e' he' => this e' (List.mem_cons_of_mem _ he')⟩
end
def Vs (v : World) (b n : Nat) : Prop := (blk v b).size = n ∧ frz v b = (0, 0) ∧ b + 1 ≤ v.heap.size
theorem Vr.vs {v : World} {b n : Nat} {c : Array Value} (h : Vr v b c) (hn : c.size = n) : Vs v b n := ⟨by rw [h.h]; exact hn, h.f, h.p⟩
theorem Vs.gr {v v' : World} {b n : Nat} (h : Vs v b n) (g : Gr v v') : Vs v' b n := ⟨by rw [g.blk _ h.2.2]; exact h.1, by rw [g.frz _ h.2.2]; exact h.2.1, Nat.le_trans h.2.2 g.below.size⟩
theorem Vs.set {v : World} {b n : Nat} (h : Vs v b n) {d : Array Value} (hd : d.size = n) (hn : 0 < n) : Vs (setBlk v b d) b n := ⟨by rw [blk_setBlk _ _ _ (by rw [h.1]; exact hn)]; exact hd, by rw [frz_setBlk]; exact h.2.1, by rw [size_setBlk]; exact h.2.2⟩
theorem Vs.other {v : World} {b c n : Nat} {d : Array Value} (h : Vs v b n) (ne : c ≠ b) : Vs (setBlk v c d) b n := ⟨by rw [blk_other _ _ _ _ ne]; exact h.1, by rw [frz_setBlk]; exact h.2.1, by rw [size_setBlk]; exact h.2.2⟩
end
end Go.Proofs.YtempibiahmmppaaGreat
