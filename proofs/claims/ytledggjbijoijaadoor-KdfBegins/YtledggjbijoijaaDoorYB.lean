/-
  hash's find, Size, Block: what the table answers.
-/
import Derived.Test.YtledggjbijoijaaDoorYA
namespace Go.Proofs.YtledggjbijoijaaDoor
open Go.RowKit
attribute [local go_sem ↓] stK_is stA_is ldK_is
theorem find_st {w : World} {g : Nat} (h : Bk w g #[.int .i64 0, .int .i64 0, .nilFunc] 50) (z k : Int) (v : Value) (hv : v.oneCell' = true) :
    (storeS 50 (.pointer (some ⟨g, 0, none⟩)) (.agg #[.int .i64 z, .int .i64 k, v])).run Tryd.prog w = .ok () (setBlk w g #[.int .i64 z, .int .i64 k, v]) :=
  storeS_part 3 (by kernel_rfl) h rfl rfl (by decide) (by simp [hv]; exact ⟨rfl, rfl⟩)
theorem find_ld {w : World} {g o : Nat} {a b c d : Value} (h : Bk w g (k15 a b c d) 69) (z k : Int) (v : Value) (hv : ∀ i, i < 3 → (k15 a b c d)[o + i]? = (#[.int .i64 z, .int .i64 k, v] : Array Value)[i]?) :
    (loadS 50 (.pointer (some ⟨g, o, none⟩))).run Tryd.prog w = .ok (.agg #[.int .i64 z, .int .i64 k, v]) w :=
  loadS_part 3 Tryd.underlying50 rfl (by kernel_rfl) rfl fun i hi => (h.cell (o + i)).trans (hv i hi)
theorem three (p : Nat → Prop) (h0 : p 0) (h1 : p 1) (h2 : p 2) : ∀ i, i < 3 → p i
  | 0, _ => h0
  | 1, _ => h1
  | 2, _ => h2
  | n + 3, h => absurd h (by omega)
set_option maxRecDepth 100000 in
set_option maxHeartbeats 800000 in
theorem find1 (w : World) :
    Calls Tryd.prog 20 #[.int .i64 1] w fun e w' => ∃ c, e = .returned (.tuple #[.agg #[.int .i64 28, .int .i64 64, c], .bool true]) ∧ Fd w' 1 28 64 c ∧ Sm w w' := by
  have CK : Hid (∀ w, Calls Tryd.prog 35 #[] w fun e w' => ∃ a b c d, e = .returned (.agg (k15 a b c d)) ∧ Kt w' a b c d ∧ Sm w w') := kinds_any
  have HB := Bk.new w #[.int .i64 0, .int .i64 0, .nilFunc] 50
  go_enter Tryd.func20, Tryd.ntmps20
  go_wp2_with (go_at_call 35; refine (CK.out _).mono ?_; rintro e w1 ⟨c1, c2, c3, c4, rfl, KT, S1⟩; have st := stAn w1 _ rfl c1 c2 c3 c4 KT; unfold z15 at st; have HA := Bk.new w1 (k15 c1 c2 c3 c4) 69; have KT2 := KT.sm ((Sm.refl _).alloc (.cells (k15 c1 c2 c3 c4) 69)); have HB2 := (HB.sm S1).alloc (.cells (k15 c1 c2 c3 c4) 69); have FD : Fd (w1.alloc (.cells (k15 c1 c2 c3 c4) 69)) 1 28 64 c1 := Or.inl ⟨rfl, rfl, rfl, KT2.a⟩; have ld := find_ld (o := 3) HA 28 64 c1 (three _ rfl rfl rfl); have st2 := find_st HB2 28 64 c1 FD.one)
  exact bodyPost_ret (res_two Tryd.results20 (rd_row 3 Tryd.underlying50 rfl (by kernel_rfl) (by rfl) (HB2.put _) (by rfl)) (rd_tmp (by rfl))) rfl ⟨_, rfl, FD.put HB2 (show 1 < 3 by decide) _, Sm.of (((((Kp.refl _ w).alloc _).trans (S1.kp _)).alloc _).put _ _ (Nat.le_refl _))⟩
set_option maxRecDepth 100000 in
set_option maxHeartbeats 800000 in
theorem find2 (w : World) :
    Calls Tryd.prog 20 #[.int .i64 2] w fun e w' => ∃ c, e = .returned (.tuple #[.agg #[.int .i64 32, .int .i64 64, c], .bool true]) ∧ Fd w' 2 32 64 c ∧ Sm w w' := by
  have CK : Hid (∀ w, Calls Tryd.prog 35 #[] w fun e w' => ∃ a b c d, e = .returned (.agg (k15 a b c d)) ∧ Kt w' a b c d ∧ Sm w w') := kinds_any
  have HB := Bk.new w #[.int .i64 0, .int .i64 0, .nilFunc] 50
  go_enter Tryd.func20, Tryd.ntmps20
  go_wp2_with (go_at_call 35; refine (CK.out _).mono ?_; rintro e w1 ⟨c1, c2, c3, c4, rfl, KT, S1⟩; have st := stAn w1 _ rfl c1 c2 c3 c4 KT; unfold z15 at st; have HA := Bk.new w1 (k15 c1 c2 c3 c4) 69; have KT2 := KT.sm ((Sm.refl _).alloc (.cells (k15 c1 c2 c3 c4) 69)); have HB2 := (HB.sm S1).alloc (.cells (k15 c1 c2 c3 c4) 69); have FD : Fd (w1.alloc (.cells (k15 c1 c2 c3 c4) 69)) 2 32 64 c2 := Or.inr (Or.inl ⟨rfl, rfl, rfl, KT2.b⟩); have ld := find_ld (o := 6) HA 32 64 c2 (three _ rfl rfl rfl); have st2 := find_st HB2 32 64 c2 FD.one)
  exact bodyPost_ret (res_two Tryd.results20 (rd_row 3 Tryd.underlying50 rfl (by kernel_rfl) (by rfl) (HB2.put _) (by rfl)) (rd_tmp (by rfl))) rfl ⟨_, rfl, FD.put HB2 (show 1 < 3 by decide) _, Sm.of (((((Kp.refl _ w).alloc _).trans (S1.kp _)).alloc _).put _ _ (Nat.le_refl _))⟩
set_option maxRecDepth 100000 in
set_option maxHeartbeats 800000 in
theorem find3 (w : World) :
    Calls Tryd.prog 20 #[.int .i64 3] w fun e w' => ∃ c, e = .returned (.tuple #[.agg #[.int .i64 48, .int .i64 128, c], .bool true]) ∧ Fd w' 3 48 128 c ∧ Sm w w' := by
  have CK : Hid (∀ w, Calls Tryd.prog 35 #[] w fun e w' => ∃ a b c d, e = .returned (.agg (k15 a b c d)) ∧ Kt w' a b c d ∧ Sm w w') := kinds_any
  have HB := Bk.new w #[.int .i64 0, .int .i64 0, .nilFunc] 50
  go_enter Tryd.func20, Tryd.ntmps20
  go_wp2_with (go_at_call 35; refine (CK.out _).mono ?_; rintro e w1 ⟨c1, c2, c3, c4, rfl, KT, S1⟩; have st := stAn w1 _ rfl c1 c2 c3 c4 KT; unfold z15 at st; have HA := Bk.new w1 (k15 c1 c2 c3 c4) 69; have KT2 := KT.sm ((Sm.refl _).alloc (.cells (k15 c1 c2 c3 c4) 69)); have HB2 := (HB.sm S1).alloc (.cells (k15 c1 c2 c3 c4) 69); have FD : Fd (w1.alloc (.cells (k15 c1 c2 c3 c4) 69)) 3 48 128 c3 := Or.inr (Or.inr (Or.inl ⟨rfl, rfl, rfl, KT2.c⟩)); have ld := find_ld (o := 9) HA 48 128 c3 (three _ rfl rfl rfl); have st2 := find_st HB2 48 128 c3 FD.one)
  exact bodyPost_ret (res_two Tryd.results20 (rd_row 3 Tryd.underlying50 rfl (by kernel_rfl) (by rfl) (HB2.put _) (by rfl)) (rd_tmp (by rfl))) rfl ⟨_, rfl, FD.put HB2 (show 1 < 3 by decide) _, Sm.of (((((Kp.refl _ w).alloc _).trans (S1.kp _)).alloc _).put _ _ (Nat.le_refl _))⟩
set_option maxRecDepth 100000 in
set_option maxHeartbeats 800000 in
theorem find4 (w : World) :
    Calls Tryd.prog 20 #[.int .i64 4] w fun e w' => ∃ c, e = .returned (.tuple #[.agg #[.int .i64 64, .int .i64 128, c], .bool true]) ∧ Fd w' 4 64 128 c ∧ Sm w w' := by
  have CK : Hid (∀ w, Calls Tryd.prog 35 #[] w fun e w' => ∃ a b c d, e = .returned (.agg (k15 a b c d)) ∧ Kt w' a b c d ∧ Sm w w') := kinds_any
  have HB := Bk.new w #[.int .i64 0, .int .i64 0, .nilFunc] 50
  go_enter Tryd.func20, Tryd.ntmps20
  go_wp2_with (go_at_call 35; refine (CK.out _).mono ?_; rintro e w1 ⟨c1, c2, c3, c4, rfl, KT, S1⟩; have st := stAn w1 _ rfl c1 c2 c3 c4 KT; unfold z15 at st; have HA := Bk.new w1 (k15 c1 c2 c3 c4) 69; have KT2 := KT.sm ((Sm.refl _).alloc (.cells (k15 c1 c2 c3 c4) 69)); have HB2 := (HB.sm S1).alloc (.cells (k15 c1 c2 c3 c4) 69); have FD : Fd (w1.alloc (.cells (k15 c1 c2 c3 c4) 69)) 4 64 128 c4 := Or.inr (Or.inr (Or.inr (⟨rfl, rfl, rfl, KT2.d⟩))); have ld := find_ld (o := 12) HA 64 128 c4 (three _ rfl rfl rfl); have st2 := find_st HB2 64 128 c4 FD.one)
  exact bodyPost_ret (res_two Tryd.results20 (rd_row 3 Tryd.underlying50 rfl (by kernel_rfl) (by rfl) (HB2.put _) (by rfl)) (rd_tmp (by rfl))) rfl ⟨_, rfl, FD.put HB2 (show 1 < 3 by decide) _, Sm.of (((((Kp.refl _ w).alloc _).trans (S1.kp _)).alloc _).put _ _ (Nat.le_refl _))⟩
/-- id is a hash's number; its digests have z bytes, its blocks k. -/
def Hi (id z k : Int) : Prop := (id = 1 ∧ z = 28 ∧ k = 64) ∨ (id = 2 ∧ z = 32 ∧ k = 64) ∨ (id = 3 ∧ z = 48 ∧ k = 128) ∨ (id = 4 ∧ z = 64 ∧ k = 128)
theorem find_any (id z k : Int) (h : Hi id z k) (w : World) :
    Calls Tryd.prog 20 #[.int .i64 id] w fun e w' => ∃ c, e = .returned (.tuple #[.agg #[.int .i64 z, .int .i64 k, c], .bool true]) ∧ Fd w' id z k c ∧ Sm w w' := by
  rcases h with ⟨rfl, rfl, rfl⟩ | ⟨rfl, rfl, rfl⟩ | ⟨rfl, rfl, rfl⟩ | ⟨rfl, rfl, rfl⟩
  · exact find1 w
  · exact find2 w
  · exact find3 w
  · exact find4 w
theorem hi_or (id : Int) : (id ≤ 0 ∨ 5 ≤ id) ∨ ∃ z k, Hi id z k := by
  by_cases h1 : id = 1
  · exact Or.inr ⟨_, _, Or.inl ⟨h1, rfl, rfl⟩⟩
  by_cases h2 : id = 2
  · exact Or.inr ⟨_, _, Or.inr (Or.inl ⟨h2, rfl, rfl⟩)⟩
  by_cases h3 : id = 3
  · exact Or.inr ⟨_, _, Or.inr (Or.inr (Or.inl ⟨h3, rfl, rfl⟩))⟩
  by_cases h4 : id = 4
  · exact Or.inr ⟨_, _, Or.inr (Or.inr (Or.inr ⟨h4, rfl, rfl⟩))⟩
  exact Or.inl (by omega)
attribute [local go_sem] find_st
set_option maxRecDepth 100000 in
set_option maxHeartbeats 800000 in
theorem find_no (id : Int) (h : id ≤ 0 ∨ 5 ≤ id) (w : World) :
    Calls Tryd.prog 20 #[.int .i64 id] w fun e w' => e = .returned (.tuple #[.agg #[.int .i64 0, .int .i64 0, .nilFunc], .bool false]) ∧ Sm w w' := by
  have CK : Hid (∀ w, Calls Tryd.prog 35 #[] w fun e w' => ∃ a b c d, e = .returned (.agg (k15 a b c d)) ∧ Kt w' a b c d ∧ Sm w w') := kinds_any
  have HB := Bk.new w #[.int .i64 0, .int .i64 0, .nilFunc] 50
  rcases h with h | h
  all_goals
    go_enter Tryd.func20, Tryd.ntmps20
    go_wp2_with (go_at_call 35; refine (CK.out _).mono ?_; rintro e w1 ⟨c1, c2, c3, c4, rfl, KT, S1⟩; have st := stAn w1 _ rfl c1 c2 c3 c4 KT; unfold z15 at st; have HB2 := (HB.sm S1).alloc (.cells (k15 c1 c2 c3 c4) 69); have st2 := find_st HB2 0 0 .nilFunc rfl)
    exact bodyPost_ret (res_two Tryd.results20 (rd_row 3 Tryd.underlying50 rfl (by kernel_rfl) (by rfl) (HB2.put _) (by rfl)) (rd_tmp (by rfl))) rfl ⟨rfl, Sm.of (((((Kp.refl _ w).alloc _).trans (S1.kp _)).alloc _).put _ _ (Nat.le_refl _))⟩
end Go.Proofs.YtledggjbijoijaaDoor
