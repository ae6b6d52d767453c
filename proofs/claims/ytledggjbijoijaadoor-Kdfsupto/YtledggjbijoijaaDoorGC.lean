/-
  The rounds over a state: sha512's mixed and turn.
-/
import Derived.Test.YtledggjbijoijaaDoorGB
namespace Go.Proofs.YtledggjbijoijaaDoor.L8
open Go.RowKit
attribute [local go_sem ↓] ldB_is ldW_is stW_is stS_is
/-- The constants lie in their block. -/
def Kk (w : World) : Prop := ∀ i, i < 80 → w.cell? ⟨1, i, none⟩ = some (.int .u64 ((kc i : Nat) : Int))
theorem Kk.lt {w : World} (h : Kk w) : 1 < w.heap.size := by
  have h0 := h 0 (by decide)
  unfold World.cell? at h0
  cases e : w.heap[1]? with
  | none => simp [e] at h0
  | some o => exact (Array.getElem?_eq_some_iff.1 e).1
theorem Kk.kp {S : Nat → Prop} {w w' : World} (h : Kk w) (k : Kp S w w') (hn : ¬ S 1) : Kk w' := fun i hi => (k.cell 1 i h.lt hn).trans (h i hi)
theorem Kk.sm {w w' : World} (h : Kk w) (k : Sm w w') : Kk w' := h.kp k fun h => h
set_option maxRecDepth 100000 in
set_option maxHeartbeats 1600000 in
theorem mixed_any (b : Nat) (f W : Nat → Nat) (hf : ∀ i, i < 8 → f i < 18446744073709551616) (w : World) (hK : Kk w) (hc : ∀ i, i < 8 → w.cell? ⟨b, i, none⟩ = some (.int .u64 ((f i : Nat) : Int))) (hb : b < w.heap.size) :
    Calls Tryd.prog 67 #[.pointer (some ⟨b, 0, none⟩), .agg (wz 80 W)] w fun e w' => e = .returned (.agg (wz 8 (rds W (Rg.of f) 80).at)) ∧ Sm w w' := by
  have HO : Hid (∀ k, (rds W (Rg.of f) k).Ok) := fun k => rds_ok W (Rg.Ok.of hf) k
  have C1 : Hid (∀ (x : Nat) w, x < 18446744073709551616 → Calls Tryd.prog 78 #[.int .u64 (x : Int)] w fun e w' => e = .returned (.int .u64 ((S1 x : Nat) : Int)) ∧ w = w') := fun x w h => highSum_any x h w
  have C2 : Hid (∀ (x : Nat) w, x < 18446744073709551616 → Calls Tryd.prog 80 #[.int .u64 (x : Int)] w fun e w' => e = .returned (.int .u64 ((S0 x : Nat) : Int)) ∧ w = w') := fun x w h => lowSum_any x h w
  have C3 : Hid (∀ (x y z : Nat) w, x < 18446744073709551616 → y < 18446744073709551616 → z < 18446744073709551616 → Calls Tryd.prog 79 #[.int .u64 (x : Int), .int .u64 (y : Int), .int .u64 (z : Int)] w fun e w' => e = .returned (.int .u64 ((chN x y z : Nat) : Int)) ∧ w = w') := fun x y z w h1 h2 h3 => choose_any x y z h1 h2 h3 w
  have C4 : Hid (∀ (x y z : Nat) w, x < 18446744073709551616 → y < 18446744073709551616 → z < 18446744073709551616 → Calls Tryd.prog 81 #[.int .u64 (x : Int), .int .u64 (y : Int), .int .u64 (z : Int)] w fun e w' => e = .returned (.int .u64 ((mjN x y z : Nat) : Int)) ∧ w = w') := fun x y z w h1 h2 h3 => majority_any x y z h1 h2 h3 w
  clear hf
  go_enter Tryd.func67, Tryd.ntmps67
  go_wp2
  generalize hv : (w.alloc (Obj.cells (wz 80 W) 119)).alloc (Obj.cells #[Value.int .u64 0, Value.int .u64 0, Value.int .u64 0, Value.int .u64 0, Value.int .u64 0, Value.int .u64 0, Value.int .u64 0, Value.int .u64 0] 92) = v
  have HV : Sm w v := by rw [← hv]; exact ((Sm.refl _).alloc _).alloc _
  have HB : Bk v w.heap.size (wz 80 W) 119 := by rw [← hv]; exact (Bk.new _ _ _).alloc _
  have HR : Bk v (w.heap.size + 1) #[Value.int .u64 0, Value.int .u64 0, Value.int .u64 0, Value.int .u64 0, Value.int .u64 0, Value.int .u64 0, Value.int .u64 0, Value.int .u64 0] 92 := by
    rw [← hv]
    have := Bk.new (w.alloc (Obj.cells (wz 80 W) 119)) #[Value.int .u64 0, Value.int .u64 0, Value.int .u64 0, Value.int .u64 0, Value.int .u64 0, Value.int .u64 0, Value.int .u64 0, Value.int .u64 0] 92
    simpa using this
  have HK : Hid (Kk v) := hK.sm HV
  have cc : ∀ i, i < 8 → v.cell? ⟨b, i, none⟩ = some (.int .u64 ((f i : Nat) : Int)) := fun i hi => (HV.cell b i hb (fun h => h)).trans (hc i hi)
  have c0 := cc 0 (by decide)
  have c1 := cc 1 (by decide)
  have c2 := cc 2 (by decide)
  have c3 := cc 3 (by decide)
  have c4 := cc 4 (by decide)
  have c5 := cc 5 (by decide)
  have c6 := cc 6 (by decide)
  have c7 := cc 7 (by decide)
  clear cc hc hb hK hv
  go_quiet (fail)
  go_wp2
  go_loopw [5, 6, 7, 8, 9, 10, 11, 12, 48] (fun p0 p1 p2 p3 p4 p5 p6 p7 i u => ∃ k : Nat, k ≤ 80 ∧ i = .int .i64 (k : Int) ∧ p0 = .int .u64 (((rds W (Rg.of f) k).a : Nat) : Int) ∧ p1 = .int .u64 (((rds W (Rg.of f) k).b : Nat) : Int) ∧ p2 = .int .u64 (((rds W (Rg.of f) k).c : Nat) : Int) ∧ p3 = .int .u64 (((rds W (Rg.of f) k).d : Nat) : Int) ∧ p4 = .int .u64 (((rds W (Rg.of f) k).e : Nat) : Int) ∧ p5 = .int .u64 (((rds W (Rg.of f) k).f : Nat) : Int) ∧ p6 = .int .u64 (((rds W (Rg.of f) k).g : Nat) : Int) ∧ p7 = .int .u64 (((rds W (Rg.of f) k).h : Nat) : Int) ∧ Sm v u) (fun _ _ _ _ _ _ _ _ i _ => 80 - (intOf i).toNat)
  case atStart => exact ⟨0, by omega, rfl, rfl, rfl, rfl, rfl, rfl, rfl, rfl, rfl, (Sm.refl _).drewN _⟩
  case round =>
    obtain ⟨k, hk, rfl, rfl, rfl, rfl, rfl, rfl, rfl, rfl, rfl, HU⟩ := hrel
    have ok := HO.out k
    have HS : Hid (Unit → rds W (Rg.of f) (k + 1) = rnd (kc k) (W k) (rds W (Rg.of f) k)) := fun _ => rfl
    by_cases hlt : k < 80
    · generalize rds W (Rg.of f) k = s at *
      obtain ⟨A, B, C, D, E, F, G, H⟩ := s
      obtain ⟨oA, oB, oC, oD, oE, oF, oG, oH⟩ := ok
      have k0 : (0 : Int) ≤ (k : Int) := by omega
      have k1 : (k : Int) < 80 := by omega
      have g0 := (HK.out.sm HU) k hlt
      have g1 := ((HB.sm HU).cell k).trans (wz_get 80 W k hlt)
      go_wp2
      go_quiet (first
        | (go_at_call 78; exact quiet_eq (C1.out _ _ oE))
        | (go_at_call 79; exact quiet_eq (C3.out _ _ _ _ oE oF oG)))
      go_wp2_with (first
        | (go_at_call 80; refine (C2.out _ _ oA).mono ?_; rintro e w' ⟨rfl, rfl⟩)
        | (go_at_call 81; refine (C4.out _ _ _ _ oA oB oC).mono ?_; rintro e w' ⟨rfl, rfl⟩))
      go_roundw
      case rel =>
        refine ⟨k + 1, by omega, by go_num, ?_, ?_, ?_, ?_, ?_, ?_, ?_, ?_, HU.drewN _⟩
        all_goals rw [HS.out ()]
        · simp only [ad_w]; rfl
        · rfl
        · rfl
        · rfl
        · first | rfl | (simp only [ad_w]; rfl)
        · rfl
        · rfl
        · rfl
      case measure => simp [intOf]; omega
    · have hk80 : k = 80 := by omega
      have ki : ¬ (k : Int) < 80 := by omega
      generalize hs : rds W (Rg.of f) k = s at *
      have HE : Hid (Unit → wz 8 s.at = wz 8 (rds W (Rg.of f) 80).at) := fun _ => by rw [← hs, hk80]
      clear HS ok hlt hk hs hk80
      have st := storeS_part (P := Tryd.prog) (ty := 92) 8 (by kernel_rfl) (HR.sm HU) (by rfl) (d := #[Value.int .u64 ((s.a : Nat) : Int), Value.int .u64 ((s.b : Nat) : Int), Value.int .u64 ((s.c : Nat) : Int), Value.int .u64 ((s.d : Nat) : Int), Value.int .u64 ((s.e : Nat) : Int), Value.int .u64 ((s.f : Nat) : Int), Value.int .u64 ((s.g : Nat) : Int), Value.int .u64 ((s.h : Nat) : Int)]) (by rfl) (by decide) (by simp [Value.oneCell'])
      go_wp2
      refine bodyPost_ret (res_one Tryd.results67 (rd_row (c := wz 8 s.at) 8 Tryd.underlying92 rfl (by kernel_rfl) (by rfl) (((HR.sm HU).put _).cast ?_) (wz_size _ _))) rfl ⟨congrArg (fun z => Ending.returned (Value.agg z)) (HE.out ()), Sm.of ((((HV.trans HU).kp _)).put _ _ ?_)⟩
      · unfold wz; rfl
      · show w.heap.size ≤ w.heap.size + 1; omega
end Go.Proofs.YtledggjbijoijaaDoor.L8
