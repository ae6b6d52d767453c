/-
  The statement Traces, walked: it answers true for every two rows of events.
-/
import Derived.Test.YtbiobhjafmmdhaaLTGrows
namespace Go.Proofs.Ytbiobhjafmmdhaa
open Go.RowKit
theorem Ev.old {w w' : World} {p : Option Addr} {xs : List (Int × Int)} (h : Ev w p xs) (k : Kp (Fro w.heap.size) w w') : Ev w' p xs := by
  rcases h with h | ⟨b, o, rfl, hb, hc⟩
  · exact Or.inl h
  · have h2 : Ev w (some ⟨b, o, none⟩) xs := Or.inr ⟨b, o, rfl, hb, hc⟩
    exact h2.kept k fun c hc hF => by
      obtain ⟨o', e⟩ := hc
      cases e
      unfold Fro at hF
      omega
theorem sameev_len (W : World) (p q : Option Addr) (xs ys : List (Int × Int)) (n m L K : Nat) (b : Bool) (hp : Ev W p xs) (hq : Ev W q ys) (hL : xs.length = L) (hK : ys.length = K) (hl : L ≤ 4611686018427387904) (hk : K ≤ 4611686018427387904) (hb : decide (xs = ys) = b) :
    Calls Try.prog 12 #[.slice p L n, .slice q K m] W fun e w' => e = .returned (.bool b) ∧ ∃ k, w' = W.drewN k := by
  subst hL hK hb
  exact sameev_any W p q xs ys n m hp hq hl hk
/-- The rounds' state: the recorder and the row that is wanted hold the same events, apart from one another. -/
structure Tg (w wr : World) (ta k : Nat) (xs : List (Int × Int)) (v vw : Value) : Prop where
  tr : Tr wr ta v xs
  row : wr.ownsRow (ta + 1) 26 2 vw k (evc xs)
  ne : ∀ g, vw.ownBlock = some g → ¬ Own ta v g
  len : xs.length = k
  na : w.heap.size ≤ ta
  kp : Kp (Fro w.heap.size) w wr
theorem Tg.next {w wr w1 w2 : World} {ta k g cap H : Nat} {xs : List (Int × Int)} {v v' vw : Value} {a1 a2 : Int} {o : Obj} (h : Tg w wr ta k xs v vw) (r : Rec wr w1 ta v v' (xs ++ [(a1, a2)]))
    (hg : (w1.alloc o).grownBy w2 vw.ownBlock) (ho : w2.ownsRow (ta + 1) 26 2 (.slice (some ⟨g, 0, none⟩) (k + 1) cap) (k + 1) (evc xs ++ [.int .i64 a1, .int .i64 a2])) (hat : vw.ownBlock = some g ∨ g = H) (hH : (w1.alloc o).heap.size = H) :
    Tg w w2 ta (k + 1) (xs ++ [(a1, a2)]) v' (.slice (some ⟨g, 0, none⟩) (k + 1) cap) := by
  have hz : (w1.alloc o).heap.size = w1.heap.size + 1 := by simp
  have s1 := r.kp.size
  have far : ∀ b, Own ta v' b → vw.ownBlock ≠ some b := fun b hb e => by
    rcases hb with rfl | hb
    · exact h.ne _ e (Or.inl rfl)
    · rcases r.at' with e2 | ⟨g', e2, hg'⟩
      · exact h.ne _ e (Or.inr (e2 ▸ hb))
      · rw [e2] at hb
        cases hb
        have := (h.row.lt _ e).2
        omega
  have k2 : Kp (Fro w.heap.size) w1 w2 := ((Kp.refl _ w1).alloc o).trans ((Kp.grown hg).mono fun b _ hb => by
    have := (h.row.lt b hb).1
    have := h.na
    unfold Fro
    omega)
  refine ⟨(r.tr.kept ((Kp.refl (fun _ => False) w1).alloc o) fun _ _ h => h).kept (Kp.grown hg) far, by rw [evc_append]; exact ho, fun b hb hO => ?_, by simp [h.len], h.na, (h.kp.trans (r.fro h.tr h.na)).trans k2⟩
  cases hb
  rcases hat with e | e
  · exact far _ hO e
  · have h3 : g < w1.heap.size := (r.tr.own _ hO).2
    omega
/-- Events, of a recorder of L events, that may be written over. -/
theorem ev_sp (W : World) (t : Nat) (v : Value) (xs : List (Int × Int)) (L : Nat) (h : Tr W t v xs) (hL : xs.length = L) (hn : L ≤ 1000000) :
    Calls Try.prog 11 #[.pointer (some ⟨t, 0, none⟩)] W fun e w' => ∃ p c, e = .returned (.slice p L c) ∧ Ev w' p xs ∧ Sp w' p L ∧ Kp (fun _ => False) W w' ∧ ∀ b, At p b → W.heap.size ≤ b := by
  refine (Events_tr W t v xs h (by omega)).mono ?_
  rintro e w' ⟨v, rfl, hc⟩
  have e := Ev.of_owns hc.row
  have hlt := hc.row.lt
  have hs := Sp.of hc.row
  rw [hL] at hs
  obtain ⟨p, c, rfl, h1, _, _⟩ := owns_parts hc.row
  exact ⟨p, c, by rw [hL], e, hs, hc.kp, fun b hb => (hlt b (At.own hb)).1⟩
/-- What is lent, still marked. -/
def LnE (W : World) (P : Option Addr) (cap : Nat) (xs : List (Int × Int)) : Prop := ∃ g, P = some ⟨g, 0, none⟩ ∧ xs.length + 2 ≤ cap ∧ Ev W P (xs ++ mks)
theorem LnE.kept {w w' : World} {P : Option Addr} {cap : Nat} {xs : List (Int × Int)} (h : LnE w P cap xs) (k : Kp (fun _ => False) w w') : LnE w' P cap xs := by
  obtain ⟨g, h1, h2, h3⟩ := h
  exact ⟨g, h1, h2, h3.kept k fun _ _ h => h⟩
theorem LnE.ev {w : World} {P : Option Addr} {cap : Nat} {xs : List (Int × Int)} (h : LnE w P cap xs) : Ev w P xs := by
  obtain ⟨g, h1, h2, h3⟩ := h
  have := h3.take xs.length
  rwa [List.take_left'] at this
  rfl
theorem lend_len (w : World) (p : Option Addr) (xs : List (Int × Int)) (c L : Nat) (h : Ev w p xs) (hL : xs.length = L) (hn : L * 16 ≤ 140737488351232) :
    Calls Try.prog 15 #[.slice p L c] w fun e w' => ∃ P cap, e = .returned (.slice P L cap) ∧ LnE w' P cap xs ∧ Kp (fun _ => False) w w' := by
  subst hL
  refine (lend_any w p xs c h hn).mono ?_
  rintro e w' ⟨g, cap, rfl, hl⟩
  exact ⟨_, cap, rfl, ⟨g, rfl, hl.room, Ev.of_owns hl.row⟩, hl.kp⟩
theorem kept_len (w : World) (P q : Option Addr) (cap c L : Nat) (xs : List (Int × Int)) (h : LnE w P cap xs) (hq : Ev w q xs) (hL : xs.length = L) (hn : L * 16 ≤ 140737488351232) :
    Calls Try.prog 17 #[.slice P L cap, .slice q L c] w fun e w' => e = .returned (.bool true) ∧ ∃ k, w' = w.drewN k := by
  subst hL
  obtain ⟨g, rfl, h2, h3⟩ := h
  exact kept_any w g cap q c xs h3 h2 hq hn
theorem same_big (W : World) (p q : Option Addr) (xs ys : List (Int × Int)) (n m L K : Nat) (b : Bool) (hp : Ev W p xs) (hq : Ev W q ys) (hL : xs.length = L) (hK : ys.length = K) (hl : L ≤ 4611686018427387904) (hk : K ≤ 4611686018427387904) (hb : decide (xs = ys) = b) :
    Calls Try.prog 16 #[.slice p L n, .slice q K m] W fun e w' => e = .returned (.bool b) ∧ ∃ k, w' = W.drewN k := by
  subst hL hK hb
  exact same_ev W p q xs ys n m hp hq hl hk
theorem Sp.drewN {w : World} {p : Option Addr} {n : Nat} (h : Sp w p n) (m : Nat) : Sp (w.drewN m) p n := h
theorem and1 (a : Int) : bits .and .i64 a 1 = 0 ∨ bits .and .i64 a 1 = 1 := by
  show IntKind.i64.wrap ((BitVec.ofInt 64 a &&& BitVec.ofInt 64 1).toNat : Int) = 0 ∨ IntKind.i64.wrap ((BitVec.ofInt 64 a &&& BitVec.ofInt 64 1).toNat : Int) = 1
  rw [BitVec.toNat_and, show (BitVec.ofInt 64 1).toNat = 1 from rfl, Nat.and_one_is_mod]
  rcases Nat.mod_two_eq_zero_or_one (BitVec.ofInt 64 a).toNat with h | h <;> rw [h]
  · exact Or.inl rfl
  · exact Or.inr rfl
set_option maxRecDepth 100000 in
set_option maxHeartbeats 1600000 in
theorem traces_any (w : World) (p q : Option Addr) (es ot : List (Int × Int)) (c d : Nat) (he : Ev w p es) (ht : Ev w q ot) (hn : es.length * 16 ≤ 140737488351232) (hm : ot.length * 16 ≤ 140737488351232) :
    Calls Try.prog 3 #[.slice p es.length c, .slice q ot.length d] w fun e w' => e = .returned (.bool true) ∧ Below w.heap.size w w' := by
  obtain ⟨i0, hi0, hz0, hz1, hz2⟩ := info_parts Try.infoEv
  have HE : Hid (Ev w p es) := he
  have HT : Hid (Ev w q ot) := ht
  obtain ⟨N, hN⟩ : ∃ N, es.length = N := ⟨_, rfl⟩
  obtain ⟨M, hM⟩ : ∃ N, ot.length = N := ⟨_, rfl⟩
  rw [hN] at hn ⊢
  rw [hM] at hm ⊢
  have HN : Hid (es.length = N) := hN
  have HM : Hid (ot.length = M) := hM
  have N0 : (N : Int) ≤ 8796093022208 := by omega
  clear he ht hN hM
  go_enter Try.func3, Try.ntmps3
  go_wp2_with (go_at_call 7; refine (new_any _).mono ?_; rintro e w' ⟨rfl, rfl⟩)
  have g0 : Tg w (w.alloc (.cells #[.slice none 0 0] 41)) w.heap.size 0 [] (.slice none 0 0) (.slice none 0 0) :=
    ⟨Tr.new w, World.ownsRow_nil _ _ _ _, (fun g h => by cases h), rfl, Nat.le_refl _, (Kp.refl _ _).alloc _⟩
  go_loopw [6, 7] (fun vw i wr => ∃ k xs v, i = .int .i64 (k : Nat) ∧ k ≤ N ∧ k ≤ 200 ∧ Hid (Tg w wr w.heap.size k xs v vw)) (fun _ i _ => 200 - (intOf i).toNat)
  case atStart => exact ⟨0, [], .slice none 0 0, rfl, by omega, by omega, g0⟩
  case round =>
    obtain ⟨k, xs, v, rfl, hk, hk6, HG⟩ := hrel
    clear g0
    by_cases hlt : k < N ∧ k < 200
    · obtain ⟨h1, h2⟩ := hlt
      have i0' : (0 : Int) ≤ (k : Int) := by omega
      have i1 : (k : Int) < (N : Int) := by omega
      have i2 : (k : Int) < 200 := by omega
      have hx1 : k < es.length := by rw [HN.out]; exact h1
      obtain ⟨⟨a1, a2⟩, ha⟩ : ∃ a, es[k] = a := ⟨_, rfl⟩
      have ha' : es[k]? = some (a1, a2) := by rw [List.getElem?_eq_getElem hx1, ha]
      obtain ⟨b, o, rfl, hb0, hc⟩ : ∃ b o, p = some ⟨b, o, none⟩ ∧ b < w.heap.size ∧ ∀ i k a, es[i]? = some (k, a) → w.cell? ⟨b, o + i * 2, none⟩ = some (.int .i64 k) ∧ w.cell? ⟨b, o + i * 2 + 1, none⟩ = some (.int .i64 a) := by
        rcases HE.out with h | h
        · rw [h] at hx1; simp at hx1
        · exact h
      have HC1 : Hid (∀ wx, Kp (Fro w.heap.size) w wx → wx.cell? ⟨b, o + k * 2, none⟩ = some (.int .i64 a1)) := fun wx kx => at_cell kx hb0 rfl (hc k a1 a2 ha').1
      have HC2 : Hid (∀ wx, Kp (Fro w.heap.size) w wx → wx.cell? ⟨b, o + k * 2 + 1, none⟩ = some (.int .i64 a2)) := fun wx kx => at_cell kx hb0 rfl (hc k a1 a2 ha').2
      have e1 := HC1.out _ HG.out.kp
      have e2 := HC2.out _ HG.out.kp
      clear hc ha ha' hx1
      by_cases hk2 : a1 = 2
      · subst hk2
        go_wp2_with (first
          | (go_at_call 8; refine (Index_tr _ _ _ xs _ HG.out.tr ?_).mono ?_; (rw [HG.out.len]; omega); rintro e w1 ⟨rfl, v1, r1⟩; have kk1 := HG.out.kp.trans (r1.fro HG.out.tr HG.out.na); have c1 := HC1.out _ kk1; have c2 := HC2.out _ kk1; have hr1 := owns_kept HG.out.row r1.kp HG.out.ne; have z1 := r1.kp.size; have z2 := HG.out.tr.lt)
          | (go_at_call 9; refine (numE_any _ _).mono ?_; rintro e w' ⟨rfl, rfl⟩)
          | (at_builtin; refine wpList_append_lies _ rfl (.tmp 40) (.tmp 45) 22 rfl (w.heap.size + 1) 26 i0 _ 2 16 Try.underlying22 hi0 hz0 hz1 hz2 rfl (by omega) _ k (evc xs) rfl (hr1.alloc _)
                ⟨w1.heap.size, 0, none⟩ 1 1 [.int .i64 2, .int .i64 a2] rfl rfl (World.news_of_block (cs := #[.int .i64 2, .int .i64 a2]) (t := 26) (fr := (0, 0)) (heap_alloc_new w1 _)) (by simp [Value.oneCell']) (by omega) (by unfold maxLen; omega) (by omega) (by simp; omega) _ rfl ?_; intro g cap w2 hown hgrow hat hlt))
        go_roundw
        case rel => exact ⟨k + 1, xs ++ [(2, a2)], v1, by go_num, by omega, by omega, HG.out.next r1 hgrow hown hat rfl⟩
        case measure => simp [intOf]; omega
      · have hk2' : (a1 == 2) = false := by simpa using hk2
        clear hk2
        rcases and1 a2 with hb | hb
        · go_wp2_with (first
            | (go_at_call 10; refine (Branch_tr _ _ _ xs _ HG.out.tr ?_).mono ?_; (rw [HG.out.len]; omega); rintro e w1 ⟨rfl, v1, r1⟩; have kk1 := HG.out.kp.trans (r1.fro HG.out.tr HG.out.na); have c1 := HC1.out _ kk1; have c2 := HC2.out _ kk1; have hr1 := owns_kept HG.out.row r1.kp HG.out.ne; have z1 := r1.kp.size; have z2 := HG.out.tr.lt)
            | (go_at_call 9; refine (numE_any _ _).mono ?_; rintro e w' ⟨rfl, rfl⟩)
            | (at_builtin; refine wpList_append_lies _ rfl (.tmp 59) (.tmp 67) 22 rfl (w.heap.size + 1) 26 i0 _ 2 16 Try.underlying22 hi0 hz0 hz1 hz2 rfl (by omega) _ k (evc xs) rfl (hr1.alloc _)
                  ⟨w1.heap.size, 0, none⟩ 1 1 [.int .i64 1, .int .i64 0] rfl rfl (World.news_of_block (cs := #[.int .i64 1, .int .i64 0]) (t := 26) (fr := (0, 0)) (heap_alloc_new w1 _)) (by simp [Value.oneCell']) (by omega) (by unfold maxLen; omega) (by omega) (by simp; omega) _ rfl ?_; intro g cap w2 hown hgrow hat hlt))
          go_roundw
          case rel => exact ⟨k + 1, xs ++ [(1, tk false)], v1, by go_num, by omega, by omega, HG.out.next r1 hgrow hown hat rfl⟩
          case measure => simp [intOf]; omega
        · go_wp2_with (first
            | (go_at_call 10; refine (Branch_tr _ _ _ xs _ HG.out.tr ?_).mono ?_; (rw [HG.out.len]; omega); rintro e w1 ⟨rfl, v1, r1⟩; have kk1 := HG.out.kp.trans (r1.fro HG.out.tr HG.out.na); have c1 := HC1.out _ kk1; have c2 := HC2.out _ kk1; have hr1 := owns_kept HG.out.row r1.kp HG.out.ne; have z1 := r1.kp.size; have z2 := HG.out.tr.lt)
            | (go_at_call 9; refine (numE_any _ _).mono ?_; rintro e w' ⟨rfl, rfl⟩)
            | (at_builtin; refine wpList_append_lies _ rfl (.tmp 59) (.tmp 67) 22 rfl (w.heap.size + 1) 26 i0 _ 2 16 Try.underlying22 hi0 hz0 hz1 hz2 rfl (by omega) _ k (evc xs) rfl (hr1.alloc _)
                  ⟨w1.heap.size, 0, none⟩ 1 1 [.int .i64 1, .int .i64 1] rfl rfl (World.news_of_block (cs := #[.int .i64 1, .int .i64 1]) (t := 26) (fr := (0, 0)) (heap_alloc_new w1 _)) (by simp [Value.oneCell']) (by omega) (by unfold maxLen; omega) (by omega) (by simp; omega) _ rfl ?_; intro g cap w2 hown hgrow hat hlt))
          go_roundw
          case rel => exact ⟨k + 1, xs ++ [(1, tk true)], v1, by go_num, by omega, by omega, HG.out.next r1 hgrow hown hat rfl⟩
          case measure => simp [intOf]; omega
    · have hz : (k : Int) < (N : Int) ∧ ¬ (k : Int) < 200 ∨ ¬ (k : Int) < (N : Int) := by omega
      obtain ⟨B, hB⟩ : ∃ B, decide (es = ot) = B := ⟨_, rfl⟩
      have HB : Hid (Unit → decide (es = ot) = B) := fun _ => hB
      have hown := HG.out.row.lt
      have xw := Ev.of_owns HG.out.row
      obtain ⟨pw, cw, rfl, hcw, hcm, _⟩ := owns_parts HG.out.row
      have HO : Hid (∀ b, At pw b → b < wr.heap.size) := fun b hb => (hown b (At.own hb)).2
      have HW : Hid (Ev wr pw xs) := xw
      have L1 : Hid (xs.length = k) := HG.out.len
      have kB : k ≤ 1000000 := by omega
      have nB : N ≤ 4611686018427387904 := by omega
      have mB : M ≤ 4611686018427387904 := by omega
      clear hown xw hB hlt hk hk6 hcm hcw
      rcases hz with ⟨z1, z2⟩ | z1
      all_goals
        go_wp2_with (first
          | (go_at_call_of 12 (Value.slice pa k ca); refine (sameev_len _ _ _ xs xs _ _ k k true e1 x1 L1.out L1.out ?_ ?_ ?_).mono ?_; omega; omega; exact decide_eq_true rfl; rintro e w' ⟨rfl, d1, rfl⟩)
          | (go_at_call 13; refine (len_len _ _ _ _ k (tr1.drewN _) L1.out).mono ?_; rintro e w' ⟨rfl, rfl⟩)
          | (go_at_call 14; refine (spoil_any _ _ _ _ (s1.drewN _) kB).mono ?_; rintro e w2 ⟨rfl, k2⟩; have tr2 := (tr1.drewN _).kept k2 (fun b hb h => by have := o1 b h; have := (HG.out.tr.own b hb).2; omega); have x2 := (x1.drewN _).kept k2 (fun b hb h => by have := o1 b h; have := HO.out b hb; omega); have kk2 := (kk1.drewN _).trans (k2.mono fun b _ h => show Fro w.heap.size b from by have := o1 b h; have := HG.out.kp.size; unfold Fro; omega); clear x1 tr1 s1 o1 k1 kk1 e1)
          | (go_at_call_of 15 (Value.slice p N c); refine (lend_len _ _ es _ N (HE.out.old kk2) HN.out hn).mono ?_; rintro e w3 ⟨P1, cap1, rfl, l1, k3⟩; have kk3 := kk2.trans (k3.mono fun _ _ h => h.elim); have tr3 := tr2.kept k3 fun _ _ h => h; have x3 := x2.kept k3 fun _ _ h => h; clear k3 kk2 tr2 x2)
          | (go_at_call 15; refine (lend_len _ _ ot _ M (HT.out.old kk3) HM.out hm).mono ?_; rintro e w4 ⟨P2, cap2, rfl, l2, k4⟩; have kk4 := kk3.trans (k4.mono fun _ _ h => h.elim); have tr4 := tr3.kept k4 fun _ _ h => h; have x4 := x3.kept k4 fun _ _ h => h; have l1' := l1.kept k4; clear k4 kk3 tr3 x3 l1)
          | (go_at_call 11; refine (ev_sp _ _ _ xs k tr4 L1.out kB).mono ?_; rintro e w5 ⟨pb, cb, rfl, e5, s5, k5, o5⟩; have kk5 := kk4.trans (k5.mono fun _ _ h => h.elim); have x5 := x4.kept k5 fun _ _ h => h; have m1 := l1'.kept k5; have m2 := l2.kept k5; clear k5 kk4 tr4 x4 l1' l2 s5 o5)
          | (go_at_call 11; refine (ev_sp wr _ _ _ k HG.out.tr L1.out kB).mono ?_; rintro e w1 ⟨pa, ca, rfl, e1, s1, k1, o1⟩; have tr1 := HG.out.tr.kept k1 fun _ _ h => h; have x1 := HW.out.kept k1 fun _ _ h => h; have kk1 := HG.out.kp.trans (k1.mono fun _ _ h => h.elim))
          | (go_at_call_of 12 (Value.slice pb k cb); refine (sameev_len _ _ _ xs xs _ _ k k true e5 x5 L1.out L1.out ?_ ?_ ?_).mono ?_; omega; omega; exact decide_eq_true rfl; rintro e w' ⟨rfl, d5, rfl⟩)
          | (go_at_call_of 16 (Value.slice P1 N cap1); refine (same_big _ _ _ es ot _ _ N M B (m1.ev.drewN _) (m2.ev.drewN _) HN.out HM.out nB mB (HB.out ())).mono ?_; rintro e w' ⟨rfl, d6, rfl⟩)
          | (go_at_call 12; refine (sameev_len _ _ _ es ot _ _ N M B ((HE.out.old kk5).drewN _) ((HT.out.old kk5).drewN _) HN.out HM.out nB mB (HB.out ())).mono ?_; rintro e w' ⟨rfl, d7, rfl⟩)
          | (go_at_call 16; refine (same_big _ _ _ ot ot _ _ M M true (m2.ev.drewN _) (m2.ev.drewN _) HM.out HM.out mB mB (decide_eq_true rfl)).mono ?_; rintro e w' ⟨rfl, d8, rfl⟩)
          | (go_at_call_of 17 (Value.slice P1 N cap1); refine (kept_len _ _ _ _ _ N es (m1.kept ((Kp.refl _ _).drewN _)) ((HE.out.old kk5).drewN _) HN.out hn).mono ?_; rintro e w' ⟨rfl, d9, rfl⟩)
          | (go_at_call 17; refine (kept_len _ _ _ _ _ M ot (m2.kept ((Kp.refl _ _).drewN _)) ((HT.out.old kk5).drewN _) HM.out hm).mono ?_; rintro e w' ⟨rfl, d10, rfl⟩)
          | (go_at_call 18; refine (awake3_any _).mono ?_; rintro e wz ⟨rfl, kz⟩))
        go_ret
        exact ⟨rfl, ((kk5.drewN _).trans (kz.mono fun b _ h => Nat.le_trans kk5.size h)).below _ (Nat.le_refl _) fun _ h => h⟩
end Go.Proofs.Ytbiobhjafmmdhaa
