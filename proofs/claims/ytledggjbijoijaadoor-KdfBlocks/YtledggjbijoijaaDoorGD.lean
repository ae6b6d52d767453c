/-
  A stream in memory: its 139 cells; sha512's turn: one block taken in.
-/
import Derived.Test.YtledggjbijoijaaDoorGC
import Derived.Test.YtledggjbijoijaaDoorHD
namespace Go.Proofs.YtledggjbijoijaaDoor.L8
open Go.RowKit

/-- A stream: the state, what is pending, how many of it, the length, the digest's size. -/
def hc (f p : Nat → Nat) (h l z : Int) : Array Value := wz 8 f ++ (br 128 p ++ #[.int .i64 h, .int .u64 l, .int .i64 z])
theorem hc_size (f p : Nat → Nat) (h l z : Int) : (hc f p h l z).size = 139 := by simp [hc, wz_size, br_size]
theorem hc_st (f p : Nat → Nat) (h l z : Int) (i : Nat) (hi : i < 8) : (hc f p h l z)[i]? = some (.int .u64 ((f i : Nat) : Int)) := by
  unfold hc
  rw [Array.getElem?_append_left (by rw [wz_size]; exact hi), wz_get 8 f i hi]
theorem hc_up (f p : Nat → Nat) (h l z : Int) (i : Nat) : (hc f p h l z)[8 + i]? = (br 128 p ++ #[.int .i64 h, .int .u64 l, .int .i64 z])[i]? := by
  unfold hc
  rw [Array.getElem?_append_right (by rw [wz_size]; omega), wz_size]
  congr 1
  omega
theorem hc_pd (f p : Nat → Nat) (h l z : Int) (i : Nat) (hi : i < 128) : (hc f p h l z)[8 + i]? = some (.int .u8 ((p i : Nat) : Int)) := by
  rw [hc_up, Array.getElem?_append_left (by rw [br_size]; exact hi), br_get 128 p i hi]
theorem hc_h (f p : Nat → Nat) (h l z : Int) : (hc f p h l z)[136]? = some (.int .i64 h) := by
  rw [show 136 = 8 + 128 from rfl, hc_up, Array.getElem?_append_right (by rw [br_size]; exact Nat.le_refl _), br_size]; rfl
theorem hc_l (f p : Nat → Nat) (h l z : Int) : (hc f p h l z)[137]? = some (.int .u64 l) := by
  rw [show 137 = 8 + 129 from rfl, hc_up, Array.getElem?_append_right (by rw [br_size]; decide), br_size]; rfl
theorem hc_z (f p : Nat → Nat) (h l z : Int) : (hc f p h l z)[138]? = some (.int .i64 z) := by
  rw [show 138 = 8 + 130 from rfl, hc_up, Array.getElem?_append_right (by rw [br_size]; decide), br_size]; rfl
theorem hc_all (f p : Nat → Nat) (h l z : Int) (i : Nat) : (hc f p h l z)[i]? = if i < 8 then some (.int .u64 ((f i : Nat) : Int)) else if i < 136 then some (.int .u8 ((p (i - 8) : Nat) : Int)) else if i = 136 then some (.int .i64 h) else if i = 137 then some (.int .u64 l) else if i = 138 then some (.int .i64 z) else none := by
  split
  · exact hc_st _ _ _ _ _ i ‹_›
  · split
    · rw [show i = 8 + (i - 8) by omega, hc_pd _ _ _ _ _ _ (by omega)]
      simp
    · split
      · subst i; exact hc_h _ _ _ _ _
      · split
        · subst i; exact hc_l _ _ _ _ _
        · split
          · subst i; exact hc_z _ _ _ _ _
          · exact Array.getElem?_eq_none (by rw [hc_size]; omega)
theorem hc_ext {f p f' p' : Nat → Nat} {h l z : Int} (h1 : ∀ i, i < 8 → f i = f' i) (h2 : ∀ i, i < 128 → p i = p' i) : hc f p h l z = hc f' p' h l z := by
  unfold hc
  rw [wz_ext 8 f f' h1, br_ext 128 p p' h2]
theorem hc_put (f g p : Nat → Nat) (h l z : Int) (k x : Nat) (hk : k < 8) (hx : g k = x) (hj : ∀ j, j < 8 → j ≠ k → g j = f j) : (hc f p h l z).setIfInBounds k (.int .u64 ((x : Nat) : Int)) = hc g p h l z := by
  refine set_ext (by rw [hc_size, hc_size]) (by rw [hc_st _ _ _ _ _ k hk, hx]) fun j hne => ?_
  rw [hc_all, hc_all]
  by_cases h8 : j < 8
  · rw [if_pos h8, if_pos h8, hj j h8 hne]
  · rw [if_neg h8, if_neg h8]
theorem hc_seth (f p : Nat → Nat) (h h' l z : Int) : (hc f p h l z).setIfInBounds 136 (.int .i64 h') = hc f p h' l z := by
  refine set_ext (by rw [hc_size, hc_size]) (hc_h _ _ _ _ _) fun j hne => ?_
  rw [hc_all, hc_all, if_neg hne, if_neg hne]
theorem hc_setl (f p : Nat → Nat) (h l l' z : Int) : (hc f p h l z).setIfInBounds 137 (.int .u64 l') = hc f p h l' z := by
  refine set_ext (by rw [hc_size, hc_size]) (hc_l _ _ _ _ _) fun j hne => ?_
  rw [hc_all, hc_all, if_neg hne, if_neg hne]
theorem hc_one (f p : Nat → Nat) (h l z : Int) : (hc f p h l z).all (·.oneCell') = true := by
  unfold hc
  rw [Array.all_append, wz_one, Array.all_append, br_one]
  simp [Value.oneCell']
attribute [local go_sem ↓] ldB_is ldW_is stW_is stS_is
set_option maxRecDepth 100000 in
set_option maxHeartbeats 1600000 in
theorem turn_any (b : Nat) (f p q : Nat → Nat) (h l z : Int) (hf : ∀ i, i < 8 → f i < 18446744073709551616) (hq : ∀ i, i < 128 → q i < 256) (w : World) (hK : Kk w) (hb : Bk w b (hc f p h l z) 96) :
    Calls Tryd.prog 62 #[.pointer (some ⟨b, 0, none⟩), .agg (br 128 q)] w fun e w' => e = .returned (.tuple #[]) ∧ Bk w' b (hc (cmp f q) p h l z) 96 ∧ Kp (At1 b) w w' := by
  have C1 : Hid (∀ w, Calls Tryd.prog 68 #[.agg (br 128 q)] w fun e w' => e = .returned (.agg (wz 80 (rw0 q 80))) ∧ Sm w w') := fun w => schedule_any q hq w
  obtain ⟨W, hW⟩ : ∃ W, rw0 q 80 = W := ⟨_, rfl⟩
  obtain ⟨N, hN⟩ : ∃ N, (rds W (Rg.of f) 80).at = N := ⟨_, rfl⟩
  have HC : Hid (Unit → ∀ i, cmp f q i = ad (f i) (N i)) := fun _ i => by rw [← hN, ← hW]; rfl
  have C2 : Hid (∀ w', Sm w w' → Calls Tryd.prog 67 #[.pointer (some ⟨b, 0, none⟩), .agg (wz 80 W)] w' fun e w'' => e = .returned (.agg (wz 8 N)) ∧ Sm w' w'') := fun w' hs => by
    rw [← hN]
    exact mixed_any b f W hf w' (hK.sm hs) (fun i hi => ((hb.sm hs).cell i).trans (hc_st _ _ _ _ _ i hi)) (hb.sm hs).lt
  rw [hW] at C1
  clear hW hN hf hq hK
  go_enter Tryd.func62, Tryd.ntmps62
  have ld := ldB (w.alloc (Obj.cells (br 128 q) 94)) w.heap.size q 94 (Bk.new _ _ _)
  have HV : Sm w (w.alloc (Obj.cells (br 128 q) 94)) := (Sm.refl _).alloc _
  go_wp2_with (first
    | (go_at_call 68; refine (C1.out _).mono ?_; rintro e w1 ⟨rfl, S1⟩)
    | (go_at_call 67; refine (C2.out _ (HV.trans S1)).mono ?_; rintro e w2 ⟨rfl, S2⟩; have st := storeS_part (P := Tryd.prog) (ty := 92) 8 (by kernel_rfl) (Bk.new w2 #[Value.int .u64 0, Value.int .u64 0, Value.int .u64 0, Value.int .u64 0, Value.int .u64 0, Value.int .u64 0, Value.int .u64 0, Value.int .u64 0] 92) (by rfl) (wz_size 8 N) (by decide) (wz_one _ _)))
  have HS : Sm w w2 := (HV.trans S1).trans S2
  have hlt := (hb.sm HS).lt
  have HN : Bk (setBlk (w2.alloc (Obj.cells #[Value.int .u64 0, Value.int .u64 0, Value.int .u64 0, Value.int .u64 0, Value.int .u64 0, Value.int .u64 0, Value.int .u64 0, Value.int .u64 0] 92)) w2.heap.size (wz 8 N)) w2.heap.size (wz 8 N) 92 := (Bk.new w2 #[Value.int .u64 0, Value.int .u64 0, Value.int .u64 0, Value.int .u64 0, Value.int .u64 0, Value.int .u64 0, Value.int .u64 0, Value.int .u64 0] 92).put _
  have HB : Bk (setBlk (w2.alloc (Obj.cells #[Value.int .u64 0, Value.int .u64 0, Value.int .u64 0, Value.int .u64 0, Value.int .u64 0, Value.int .u64 0, Value.int .u64 0, Value.int .u64 0] 92)) w2.heap.size (wz 8 N)) b (hc f p h l z) 96 := ((hb.sm HS).alloc _).aside _ (by omega)
  have HK : Kp (fun k => k = b ∨ w.heap.size ≤ k) w (setBlk (w2.alloc (Obj.cells #[Value.int .u64 0, Value.int .u64 0, Value.int .u64 0, Value.int .u64 0, Value.int .u64 0, Value.int .u64 0, Value.int .u64 0, Value.int .u64 0] 92)) w2.heap.size (wz 8 N)) := ((HS.kp _).alloc _).put _ _ (Or.inr HS.size)
  have hne : b ≠ w2.heap.size := by omega
  clear HV S1 S2 st ld HS hlt C1 C2
  generalize setBlk (w2.alloc (Obj.cells #[Value.int .u64 0, Value.int .u64 0, Value.int .u64 0, Value.int .u64 0, Value.int .u64 0, Value.int .u64 0, Value.int .u64 0, Value.int .u64 0] 92)) w2.heap.size (wz 8 N) = v at *
  generalize w2.heap.size = m at *
  go_loopw [10] (fun i u => ∃ k : Nat, k ≤ 8 ∧ i = .int .i64 (k : Int) ∧ Bk u m (wz 8 N) 92 ∧ Bk u b (hc (fun j => if j < k then cmp f q j else f j) p h l z) 96 ∧ Kp (fun k => k = b ∨ w.heap.size ≤ k) w u) (fun i _ => 8 - (intOf i).toNat)
  case atStart => exact ⟨0, by omega, rfl, HN, HB.cast (hc_ext (fun i _ => by simp) fun _ _ => rfl), HK⟩
  case round =>
    obtain ⟨k, hk, rfl, HN, HB, HK⟩ := hrel
    by_cases hlt : k < 8
    · have k0 : (0 : Int) ≤ (k : Int) := by omega
      have k1 : (k : Int) < 8 := by omega
      have c1 := (HN.cell k).trans (wz_get 8 N k hlt)
      have c2 := (HB.cell k).trans (hc_st _ _ _ _ _ k hlt)
      rw [if_neg (Nat.lt_irrefl k)] at c2
      have f2 := HB.fz k
      go_wp2
      refine wp_region_tail (by kernel_rfl) (by kernel_rfl) (by kernel_rfl) ?_
      simp only [swp, nop, lastL]
      repeat (go_big_quiet_step (fail))
      refine wpQuiet_nil ?_
      intro nq
      go_wp2
      go_roundw
      case rel =>
        refine ⟨k + 1, by omega, by go_num, (HN.drewN nq).far _ _ ?_, ((HB.drewN nq).set k _).cast ?_, (HK.drewN nq).setCell _ _ (Or.inl rfl)⟩
        · exact Ne.symm hne
        · rw [ad_w, ← HC.out () k]
          refine hc_put _ _ _ _ _ _ k _ hlt (by simp) fun j _ hj => ?_
          by_cases e : j < k
          · simp [e, show j < k + 1 by omega]
          · simp [e, show ¬ j < k + 1 by omega]
      case measure => simp [intOf]; omega
    · have ki : ¬ (k : Int) < 8 := by omega
      have hk8 : Hid (k = 8) := show k = 8 by omega
      clear hlt hk
      go_wp2
      go_end0
      refine ⟨rfl, HB.cast (hc_ext (fun i hi => ?_) fun _ _ => rfl), HK.mono fun j hj hs => ?_⟩
      · rw [hk8.out, if_pos hi]
      · rcases hs with e | e
        · exact e
        · omega
end Go.Proofs.YtledggjbijoijaaDoor.L8
