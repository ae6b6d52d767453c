/-
  The statements' own SpoilEvents, LendEvents and KeptEvents.
-/
import Derived.Test.YtbiobhjafmmdhaaTE
namespace Go.Proofs.Ytbiobhjafmmdhaa
open Go.RowKit

theorem xor_read {w : World} {g : Nat} {cur : Array Value} {e : TypeId} {f : Nat × Nat} (h : w.heap[g]? = some (.cells cur e f)) (o : Nat) : w.cell? ⟨g, o, none⟩ = cur[o]? := cell_of_row w g o cur e f h
theorem frozen_at {w : World} {g : Nat} {cur : Array Value} {e : TypeId} (h : w.heap[g]? = some (.cells cur e (0, 0))) (o : Nat) : w.frozen? ⟨g, o, none⟩ = false := by
  unfold World.frozen?; rw [h]; simp
/-- A row whose n events may be written over. -/
def Sp (w : World) (p : Option Addr) (n : Nat) : Prop :=
  n = 0 ∨ ∃ g cur, p = some ⟨g, 0, none⟩ ∧ w.heap[g]? = some (.cells cur 26 (0, 0)) ∧ ∀ i, i < n → ∃ z, cur[i * 2 + 1]? = some (.int .i64 z)
theorem Sp.of {w : World} {base : Nat} {v : Value} {xs : List (Int × Int)} (h : w.ownsRow base 26 2 v xs.length (evc xs)) : Sp w (adr v) xs.length := by
  rcases h.2 with ⟨rfl, h0⟩ | ⟨g, cap, cur, rfl, hb, hg, h1, h2, h3, h4⟩
  · exact Or.inl h0
  · refine Or.inr ⟨g, cur, rfl, hg, fun i hi => ?_⟩
    obtain ⟨⟨k, a⟩, hx⟩ : ∃ x, xs[i]? = some x := ⟨_, List.getElem?_eq_getElem hi⟩
    have hu := (evc_at xs i k a hx).2
    rw [← h4, List.getElem?_take] at hu
    split at hu
    · exact ⟨a, by simpa using hu⟩
    · cases hu
set_option maxRecDepth 100000 in
set_option maxHeartbeats 800000 in
theorem spoil_any (w : World) (p : Option Addr) (n c : Nat) (h : Sp w p n) (hn : n ≤ 1000000) :
    Calls Try.prog 14 #[.slice p n c] w fun e w' => e = .returned (.tuple #[]) ∧ Kp (At p) w w' := by
  have n0 : (n : Int) ≤ 1000000 := by omega
  have HS : Hid (Sp w p n) := h
  clear h
  go_enter Try.func14, Try.ntmps14
  go_wp2
  go_loopw [2] (fun i wr => ∃ k : Nat, k ≤ n ∧ i = .int .i64 (k : Int) ∧ Hid (Sp wr p n) ∧ Hid (Kp (At p) w wr)) (fun i _ => n - (intOf i).toNat)
  case atStart => exact ⟨0, by omega, rfl, HS, Kp.refl _ _⟩
  case round =>
    obtain ⟨k, hk, rfl, HS, HK⟩ := hrel
    by_cases hlt : k < n
    · obtain ⟨g, cur, rfl, hg, hc⟩ : ∃ g cur, p = some ⟨g, 0, none⟩ ∧ wr.heap[g]? = some (.cells cur 26 (0, 0)) ∧ ∀ i, i < n → ∃ z, cur[i * 2 + 1]? = some (.int .i64 z) := by
        rcases HS.out with h | h
        · omega
        · exact h
      obtain ⟨z, hz⟩ := hc k hlt
      have c0 : wr.cell? ⟨g, k * 2 + 1, none⟩ = some (.int .i64 z) := by rw [xor_read hg]; exact hz
      have f0 := frozen_at hg (k * 2 + 1)
      have k0 : (0 : Int) ≤ (k : Int) := by omega
      have k1 : (k : Int) < (n : Int) := by omega
      have HG : Hid (wr.heap[g]? = some (.cells cur 26 (0, 0))) := hg
      have HC : Hid (∀ i, i < n → ∃ z, cur[i * 2 + 1]? = some (.int .i64 z)) := hc
      clear hg hc hz HS
      go_wp2
      go_roundw
      case rel =>
        refine ⟨k + 1, by omega, by go_num, Or.inr ⟨g, _, rfl, setCell_at _ _ _ _ _ _ _ HG.out, fun i hi => ?_⟩, HK.out.setCell _ _ ⟨0, rfl⟩⟩
        obtain ⟨z', hz'⟩ := HC.out i hi
        rw [Array.getElem?_setIfInBounds]
        by_cases e : k * 2 + 1 = i * 2 + 1
        · rw [if_pos e]
          have hlt2 : i * 2 + 1 < cur.size := (Array.getElem?_eq_some_iff.1 hz').1
          exact ⟨_, by rw [if_pos (by omega)]⟩
        · rw [if_neg e]; exact ⟨z', hz'⟩
      case measure => simp [intOf]; omega
    · have ki : ¬ (k : Int) < (n : Int) := by omega
      clear hlt hk
      go_wp2
      go_end0
      exact ⟨rfl, HK.out⟩
/-- The mark behind what is lent. -/
def mks : List (Int × Int) := [(77777, 0), (77777, 0)]
/-- What a lending leaves: a new row, marked behind its end. -/
structure Ln (w w' : World) (g cap : Nat) (xs : List (Int × Int)) : Prop where
  room : xs.length + 2 ≤ cap
  row : w'.ownsRow w.heap.size 26 2 (.slice (some ⟨g, 0, none⟩) (xs.length + 2) cap) (xs.length + 2) (evc (xs ++ mks))
  kp : Kp (fun _ => False) w w'
theorem owns_cap {w : World} {base g n cap : Nat} {e : TypeId} {s : Nat} {xs : List Value} (h : w.ownsRow base e s (.slice (some ⟨g, 0, none⟩) (n + 2) cap) (n + 2) xs) : (n : Int) + 2 ≤ (cap : Int) := by
  obtain ⟨p, c, e, h1, _⟩ := owns_parts h
  cases e
  omega
theorem lend_kp {w w1 w2 : World} {v : Value} {xs : List (Int × Int)} {o : Obj} (hc : Cp w w1 v xs) (hg : (w1.alloc o).grownBy w2 v.ownBlock) : Kp (fun _ => False) w w2 :=
  (((hc.kp.alloc o).mono (T := fun b => v.ownBlock = some b) fun _ _ h => h.elim).trans (Kp.grown hg)).mono fun b hb h => by
    have := hc.row.lt b h
    omega
set_option maxRecDepth 100000 in
set_option maxHeartbeats 800000 in
theorem lend_any (w : World) (p : Option Addr) (xs : List (Int × Int)) (c : Nat) (h : Ev w p xs) (hn : xs.length * 16 ≤ 140737488351232) :
    Calls Try.prog 15 #[.slice p xs.length c] w fun e w' => ∃ g cap, e = .returned (.slice (some ⟨g, 0, none⟩) xs.length cap) ∧ Ln w w' g cap xs := by
  obtain ⟨i0, hi0, hz0, hz1, hz2⟩ := info_parts Try.infoEv
  have H : Hid (Unit → Calls Try.prog 23 #[.slice p xs.length c] w fun e w' => ∃ v, e = .returned v ∧ v.ownBlock ≠ none ∧ Cp w w' v xs) := fun _ => copyev_any w p xs c h (by omega)
  have n1 : xs.length + 2 ≤ maxLen := by unfold maxLen; omega
  have HE : Hid (evc (xs ++ mks) = evc xs ++ [.int .i64 77777, .int .i64 0, .int .i64 77777, .int .i64 0]) := evc_append xs mks
  obtain ⟨n, hnn⟩ : ∃ n, xs.length = n := ⟨_, rfl⟩
  rw [hnn] at n1 hn H ⊢
  have HN : Hid (xs.length = n) := hnn
  have n0 : (n : Int) ≤ 8796093022208 := by omega
  have n2 : (0 : Int) ≤ (n : Int) := by omega
  clear h hnn
  go_enter Try.func15, Try.ntmps15
  go_wp2_with (first
    | (go_at_call 23; refine (H.out ()).mono ?_; rintro e w1 ⟨v, rfl, hv, hc⟩; have hr : w1.ownsRow w.heap.size 26 2 v n (evc xs) := HN.out ▸ hc.row; have hz := hc.kp.size)
    | (at_builtin; refine wpList_append_lies _ rfl (.tmp 5) (.tmp 8) 22 rfl w.heap.size 26 i0 _ 2 16 Try.underlying22 hi0 hz0 hz1 hz2 rfl (by omega) _ n (evc xs) rfl (hr.alloc _)
          ⟨w1.heap.size, 0, none⟩ 2 2 [.int .i64 77777, .int .i64 0, .int .i64 77777, .int .i64 0] rfl rfl (World.news_of_block (cs := #[.int .i64 77777, .int .i64 0, .int .i64 77777, .int .i64 0]) (t := 26) (fr := (0, 0)) (heap_alloc_new w1 _)) (by simp [Value.oneCell']) (by omega) n1 (by omega) (by simp; omega) _ rfl ?_; intro g cap w2 hown hgrow hat hlt; have hcap : (n : Int) + 2 ≤ (cap : Int) := owns_cap hown))
  go_ret
  refine ⟨g, cap, rfl, ?_, ?_, ?_⟩
  · rw [HN.out]; omega
  · rw [HN.out, HE.out]; exact hown
  · exact lend_kp hc hgrow
theorem mks_at (xs : List (Int × Int)) : (xs ++ mks)[xs.length]? = some (77777, 0) ∧ (xs ++ mks)[xs.length + 1]? = some (77777, 0) := by
  constructor
  · rw [List.getElem?_append_right (by omega), Nat.sub_self]; rfl
  · rw [List.getElem?_append_right (by omega), show xs.length + 1 - xs.length = 1 by omega]; rfl
set_option maxRecDepth 100000 in
set_option maxHeartbeats 800000 in
theorem kept_any (w : World) (g cap : Nat) (q : Option Addr) (c : Nat) (xs : List (Int × Int)) (hl : Ev w (some ⟨g, 0, none⟩) (xs ++ mks)) (hc : xs.length + 2 ≤ cap) (hq : Ev w q xs) (hn : xs.length * 16 ≤ 140737488351232) :
    Calls Try.prog 17 #[.slice (some ⟨g, 0, none⟩) xs.length cap, .slice q xs.length c] w fun e w' => e = .returned (.bool true) ∧ ∃ k, w' = w.drewN k := by
  have hx : Ev w (some ⟨g, 0, none⟩) xs := by have := hl.take xs.length; rwa [List.take_left'] at this; rfl
  have H : Hid (Unit → Calls Try.prog 12 #[.slice (some ⟨g, 0, none⟩) xs.length cap, .slice q xs.length c] w fun e w' => e = .returned (.bool true) ∧ ∃ k, w' = w.drewN k) := fun _ => by
    have := sameev_any w _ q xs xs cap c hx hq (by omega) (by omega)
    rwa [decide_eq_true rfl] at this
  obtain ⟨b, o, e, hb, hcell⟩ : ∃ b o, some (⟨g, 0, none⟩ : Addr) = some ⟨b, o, none⟩ ∧ b < w.heap.size ∧ ∀ i k a, (xs ++ mks)[i]? = some (k, a) → w.cell? ⟨b, o + i * 2, none⟩ = some (.int .i64 k) ∧ w.cell? ⟨b, o + i * 2 + 1, none⟩ = some (.int .i64 a) := by
    rcases hl with h | h
    · simp [mks] at h
    · exact h
  cases e
  have m1 := hcell _ _ _ (mks_at xs).1
  have m2 := hcell _ _ _ (mks_at xs).2
  obtain ⟨n, hnn⟩ : ∃ n, xs.length = n := ⟨_, rfl⟩
  rw [hnn] at hn hc H m1 m2 ⊢
  have n0 : (n : Int) ≤ 8796093022208 := by omega
  have n2 : (0 : Int) ≤ (n : Int) := by omega
  have n3 : (n : Int) + 2 ≤ (cap : Int) := by omega
  simp only [Nat.zero_add] at m1 m2
  obtain ⟨c1, c2⟩ := m1
  obtain ⟨c3, c4⟩ := m2
  clear hl hq hx hcell hnn
  go_enter Try.func17, Try.ntmps17
  go_wp2_with (go_at_call 12; refine (H.out ()).mono ?_; rintro e w' ⟨rfl, k, rfl⟩)
  go_ret
  exact ⟨rfl, k, rfl⟩
end Go.Proofs.Ytbiobhjafmmdhaa
