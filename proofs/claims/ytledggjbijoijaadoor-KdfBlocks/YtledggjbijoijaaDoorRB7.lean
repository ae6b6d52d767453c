/-
  The documents' one block (curvetref7.block32).
-/
import Derived.Test.YtledggjbijoijaaDoorRA7
import Derived.Deep.AppendSrc
namespace Go.Proofs.YtledggjbijoijaaDoor
open Go.RowKit
/-! ### a row of eight words with room behind -/
theorem vz_get (g : Nat → Nat) (Z : Array Value) (i : Nat) (hi : i < 8) : (wz 8 g ++ Z)[i]? = some (.int .u32 ((g i : Nat) : Int)) := by
  rw [Array.getElem?_append_left (by rw [wz_size]; exact hi), wz_get 8 g i hi]
theorem vr_cells {u : World} {m : Nat} {s : Rg} {Z : Array Value} {t : TypeId} (h : Bk u m (wz 8 s.at ++ Z) t) :
    u.cell? ⟨m, 0, none⟩ = some (.int .u32 ((s.a : Nat) : Int)) ∧ u.cell? ⟨m, 1, none⟩ = some (.int .u32 ((s.b : Nat) : Int)) ∧ u.cell? ⟨m, 2, none⟩ = some (.int .u32 ((s.c : Nat) : Int)) ∧ u.cell? ⟨m, 3, none⟩ = some (.int .u32 ((s.d : Nat) : Int)) ∧
      u.cell? ⟨m, 4, none⟩ = some (.int .u32 ((s.e : Nat) : Int)) ∧ u.cell? ⟨m, 5, none⟩ = some (.int .u32 ((s.f : Nat) : Int)) ∧ u.cell? ⟨m, 6, none⟩ = some (.int .u32 ((s.g : Nat) : Int)) ∧ u.cell? ⟨m, 7, none⟩ = some (.int .u32 ((s.h : Nat) : Int)) :=
  ⟨(h.cell 0).trans (vz_get _ _ 0 (by decide)), (h.cell 1).trans (vz_get _ _ 1 (by decide)), (h.cell 2).trans (vz_get _ _ 2 (by decide)), (h.cell 3).trans (vz_get _ _ 3 (by decide)), (h.cell 4).trans (vz_get _ _ 4 (by decide)), (h.cell 5).trans (vz_get _ _ 5 (by decide)), (h.cell 6).trans (vz_get _ _ 6 (by decide)), (h.cell 7).trans (vz_get _ _ 7 (by decide))⟩
theorem vz_set (g h : Nat → Nat) (Z : Array Value) (k x : Nat) (hk : k < 8) (hx : h k = x) (hj : ∀ j, j < 8 → j ≠ k → h j = g j) : (wz 8 g ++ Z).setIfInBounds k (.int .u32 ((x : Nat) : Int)) = wz 8 h ++ Z := by
  rw [Array.setIfInBounds_append_left (by rw [wz_size]; exact hk), wz_set 8 g h k x hx hj]
/-- Eight words set one by one, the last first. -/
theorem vz_all (s t : Rg) (Z : Array Value) : ((((((((wz 8 s.at ++ Z).setIfInBounds 7 (.int .u32 ((t.h : Nat) : Int))).setIfInBounds 6 (.int .u32 ((t.g : Nat) : Int))).setIfInBounds 5 (.int .u32 ((t.f : Nat) : Int))).setIfInBounds 4 (.int .u32 ((t.e : Nat) : Int))).setIfInBounds 3 (.int .u32 ((t.d : Nat) : Int))).setIfInBounds 2 (.int .u32 ((t.c : Nat) : Int))).setIfInBounds 1 (.int .u32 ((t.b : Nat) : Int))).setIfInBounds 0 (.int .u32 ((t.a : Nat) : Int)) = wz 8 t.at ++ Z := by
  rw [vz_set s.at (Rg.at ⟨s.a, s.b, s.c, s.d, s.e, s.f, s.g, t.h⟩) Z 7 t.h (by decide) rfl (fun j h1 h2 => by match j, h1, h2 with | 0, _, _ | 1, _, _ | 2, _, _ | 3, _, _ | 4, _, _ | 5, _, _ | 6, _, _ => rfl | 7, _, h => exact absurd rfl h),
    vz_set _ (Rg.at ⟨s.a, s.b, s.c, s.d, s.e, s.f, t.g, t.h⟩) Z 6 t.g (by decide) rfl (fun j h1 h2 => by match j, h1, h2 with | 0, _, _ | 1, _, _ | 2, _, _ | 3, _, _ | 4, _, _ | 5, _, _ | 7, _, _ => rfl | 6, _, h => exact absurd rfl h),
    vz_set _ (Rg.at ⟨s.a, s.b, s.c, s.d, s.e, t.f, t.g, t.h⟩) Z 5 t.f (by decide) rfl (fun j h1 h2 => by match j, h1, h2 with | 0, _, _ | 1, _, _ | 2, _, _ | 3, _, _ | 4, _, _ | 6, _, _ | 7, _, _ => rfl | 5, _, h => exact absurd rfl h),
    vz_set _ (Rg.at ⟨s.a, s.b, s.c, s.d, t.e, t.f, t.g, t.h⟩) Z 4 t.e (by decide) rfl (fun j h1 h2 => by match j, h1, h2 with | 0, _, _ | 1, _, _ | 2, _, _ | 3, _, _ | 5, _, _ | 6, _, _ | 7, _, _ => rfl | 4, _, h => exact absurd rfl h),
    vz_set _ (Rg.at ⟨s.a, s.b, s.c, t.d, t.e, t.f, t.g, t.h⟩) Z 3 t.d (by decide) rfl (fun j h1 h2 => by match j, h1, h2 with | 0, _, _ | 1, _, _ | 2, _, _ | 4, _, _ | 5, _, _ | 6, _, _ | 7, _, _ => rfl | 3, _, h => exact absurd rfl h),
    vz_set _ (Rg.at ⟨s.a, s.b, t.c, t.d, t.e, t.f, t.g, t.h⟩) Z 2 t.c (by decide) rfl (fun j h1 h2 => by match j, h1, h2 with | 0, _, _ | 1, _, _ | 3, _, _ | 4, _, _ | 5, _, _ | 6, _, _ | 7, _, _ => rfl | 2, _, h => exact absurd rfl h),
    vz_set _ (Rg.at ⟨s.a, t.b, t.c, t.d, t.e, t.f, t.g, t.h⟩) Z 1 t.b (by decide) rfl (fun j h1 h2 => by match j, h1, h2 with | 0, _, _ | 2, _, _ | 3, _, _ | 4, _, _ | 5, _, _ | 6, _, _ | 7, _, _ => rfl | 1, _, h => exact absurd rfl h),
    vz_set _ t.at Z 0 t.a (by decide) rfl (fun j h1 h2 => by match j, h1, h2 with | 1, _, _ | 2, _, _ | 3, _, _ | 4, _, _ | 5, _, _ | 6, _, _ | 7, _, _ => rfl | 0, _, h => exact absurd rfl h)]
theorem ch_cast (x y z : Nat) (hx : x < 4294967296) (hy : y < 4294967296) (hz : z < 4294967296) : bits BinOp.xor IntKind.u32 (bits BinOp.and IntKind.u32 (x : Int) (y : Int)) (bits BinOp.and IntKind.u32 (bits BinOp.xor IntKind.u32 (x : Int) 4294967295) (z : Int)) = ((chN x y z : Nat) : Int) := by
  have e : bits BinOp.xor IntKind.u32 (x : Int) 4294967295 = ((4294967295 ^^^ x : Nat) : Int) := by
    rw [show (4294967295 : Int) = ((4294967295 : Nat) : Int) from rfl, u32_xor_nat _ _ hx (by decide), Nat.xor_comm]
  rw [e, u32_and_nat _ _ hx hy, u32_and_nat _ _ (xor32 (by decide) hx) hz, u32_xor_nat _ _ (and32 _ hy) (and32 _ hz)]; rfl
theorem mj_cast (x y z : Nat) (hx : x < 4294967296) (hy : y < 4294967296) (hz : z < 4294967296) : bits BinOp.xor IntKind.u32 (bits BinOp.xor IntKind.u32 (bits BinOp.and IntKind.u32 (x : Int) (y : Int)) (bits BinOp.and IntKind.u32 (x : Int) (z : Int))) (bits BinOp.and IntKind.u32 (y : Int) (z : Int)) = ((mjN x y z : Nat) : Int) := by
  rw [u32_and_nat _ _ hx hy, u32_and_nat _ _ hx hz, u32_and_nat _ _ hy hz, u32_xor_nat _ _ (and32 _ hy) (and32 _ hz), u32_xor_nat _ _ (xor32 (and32 _ hy) (and32 _ hz)) (and32 _ hz)]; rfl
theorem e_cast (d h s c k w : Nat) : ((d : Int) + ((h : Int) + (s : Int) + (c : Int) + (k : Int) + (w : Int))) % 4294967296 = ((ad d (ad (ad (ad (ad h s) c) k) w) : Nat) : Int) := by unfold ad; omega
theorem a_cast (h s c k w r m : Nat) : ((h : Int) + (s : Int) + (c : Int) + (k : Int) + (w : Int) + (r : Int) + (m : Int)) % 4294967296 = ((ad (ad (ad (ad (ad h s) c) k) w) (ad r m) : Nat) : Int) := by unfold ad; omega
/-! ### append of a row to an empty one -/
def ap4 (ty : TypeId) (xs : Array Value) : Sem Value := Builtin.append_ #[59, 59] ty xs
theorem ap4_is (ty : TypeId) (xs : Array Value) : Builtin.append_ #[59, 59] ty xs = ap4 ty xs := rfl
theorem Tryd.info32 : (Tryd.prog.info? 39).map (fun i => (i.zero, i.size, i.bytes)) = some (some (.int .u32 0), 1, 4) := by kernel_rfl
theorem ap4_run (w : World) (b m c : Nat) (f : Nat → Nat) (t : TypeId) (h : Bk w b (wz 8 f) t) :
    ∃ cap Z w', (∀ ty, (ap4 ty #[.slice (some ⟨m, 0, none⟩) 0 0, .slice (some ⟨b, 0, none⟩) 8 c]).run Tryd.prog w = .ok (.slice (some ⟨w.heap.size, 0, none⟩) 8 cap) w') ∧ Bk w' w.heap.size (wz 8 f ++ Z) 39 ∧ Sm w w' := by
  obtain ⟨i, hi, hz, hs, hb⟩ := info_parts Tryd.info32
  have hsrc : Src Tryd.prog i.size 59 (.slice (some ⟨b, 0, none⟩) 8 c) 8 (wz 8 f).toList w := by
    refine Src.ofSlice w Tryd.underlying59 ⟨b, 0, none⟩ 8 c _ (by rw [hs, Array.length_toList, wz_size]) (fun j u hj => ?_) (fun u hu => ?_)
    · have e : (⟨b, 0, none⟩ : Addr).add j = ⟨b, j, none⟩ := by rw [Addr.add_lit, Nat.zero_add]
      rw [e, h.cell j, ← Array.getElem?_toList]
      exact hj
    · exact Array.all_eq_true_iff_forall_mem.1 (wz_one 8 f) u (by simpa using hu)
  have hr := fun ty => run_append_grow_src (P := Tryd.prog) w 59 59 ty 39 i _ Tryd.underlying59 hi hz (some ⟨m, 0, none⟩) 0 0 [] (run_firstCells_some w.drew i.size 0 ⟨m, 0, none⟩ 0 0 [] (by simp) (fun j u hj => by simp at hj)) (.slice (some ⟨b, 0, none⟩) 8 c) 8 (wz 8 f).toList hsrc (by omega) (by omega) (by rw [hb, Nat.zero_add]; simp only [Builtin.nextslicecap]; rw [if_pos (by omega)]; omega)
  simp only [Nat.zero_add, List.nil_append] at hr
  refine ⟨_, Builtin.zeroCells (Value.int .u32 0).cells (grownCap w 8 0 39 - 8), _, hr, ?_, ((Sm.refl _).drew).alloc _⟩
  have := Bk.new w.drew ((wz 8 f).toList.toArray ++ Builtin.zeroCells (Value.int .u32 0).cells (grownCap w 8 0 39 - 8)) 39
  rw [Array.toArray_toList] at this
  exact this
attribute [local go_sem ↓] ap4_is
set_option maxRecDepth 100000 in
set_option maxHeartbeats 3200000 in
theorem block_any (hb bb o c kb ch ck : Nat) (f q : Nat → Nat) (hf : ∀ i, i < 8 → f i < 4294967296) (hq : ∀ i, i < 64 → q i < 256) (w : World) (hH : Bk w hb (wz 8 f) 39) (hB : By w bb o 64 q) (hC : Bk w kb (wz 64 kc) 39) :
    Calls Tryd.prog 30 #[.slice (some ⟨hb, 0, none⟩) 8 ch, .slice (some ⟨bb, o, none⟩) 64 c, .slice (some ⟨kb, 0, none⟩) 64 ck] w fun e w' => e = .returned (.tuple #[]) ∧ Bk w' hb (wz 8 (cmp f q)) 39 ∧ Kp (At1 hb) w w' := by
  have CW : Hid (Unit → Calls Tryd.prog 37 #[.slice (some ⟨bb, o, none⟩) 64 c] w fun e w' => ∃ m, e = .returned (.slice (some ⟨m, 0, none⟩) 64 64) ∧ w.heap.size ≤ m ∧ Bk w' m (wz 64 (rw0 q 64)) 39 ∧ Sm w w') := fun _ => words_any bb o c q hq w hB
  have CR : Hid (∀ (x : Nat) (k : Int) w, x < 4294967296 → 0 < k → k < 32 → Calls Tryd.prog 38 #[.int .u32 (x : Int), .int .i64 k] w fun e w' => e = .returned (.int .u32 ((rr x k.toNat : Nat) : Int)) ∧ ∃ n, w' = w.drewN n) := fun x k w h1 h2 h3 => by
    obtain ⟨k, rfl⟩ := Int.eq_ofNat_of_zero_le (Int.le_of_lt h2)
    exact rot_any x k h1 (by omega) (by omega) w
  obtain ⟨W, hW⟩ : ∃ W, rw0 q 64 = W := ⟨_, rfl⟩
  rw [hW] at CW
  have HO : Hid (∀ k, (rds W (Rg.of f) k).Ok) := fun k => rds_ok W (Rg.Ok.of hf) k
  have HM : Hid (Unit → ∀ i, cmp f q i = ad (f i) ((rds W (Rg.of f) 64).at i)) := fun _ i => by rw [← hW]; rfl
  have HF : Hid (Unit → wz 8 f = wz 8 (rds W (Rg.of f) 0).at) := fun _ => by unfold wz; rfl
  clear hf hq hW hB
  go_enter Tryd.func30, Tryd.ntmps30
  go_wp2_with (go_at_call 37; refine (CW.out ()).mono ?_; rintro e w1 ⟨m, rfl, hm, HW, S1⟩; obtain ⟨cap, Z, w2, hap, HV, S2⟩ := ap4_run (w1.alloc (.cells #[] 39)) hb w1.heap.size ch f 39 ((hH.sm S1).alloc _))
  have hsz : (w1.alloc (.cells #[] 39)).heap.size = w1.heap.size + 1 := by simp
  rw [hsz] at HV
  have hlm := HW.lt
  have S2' : Sm w1 w2 := ((Sm.refl _).alloc _).trans S2
  have HK : Kp (Fr w.heap.size) w w2 := (S1.trans S2').kp _
  have HH := (hH.sm S1).sm S2'
  have HC := (hC.sm S1).sm S2'
  have HW := HW.sm S2'
  have hlh := hH.lt
  have hlc := hC.lt
  have hl1 := S1.size
  obtain ⟨mv, hmv⟩ : ∃ mv, w1.heap.size + 1 = mv := ⟨_, rfl⟩
  rw [hmv] at HV ⊢
  have hge : w.heap.size ≤ mv := by omega
  have ne1 : m ≠ mv := by omega
  have ne2 : kb ≠ mv := by omega
  have ne3 : hb ≠ mv := by omega
  clear hap S1 S2 S2' hsz hmv hl1
  go_loopw [8] (fun i u => ∃ k : Nat, k ≤ 64 ∧ i = .int .i64 (k : Int) ∧ Bk u mv (wz 8 (rds W (Rg.of f) k).at ++ Z) 39 ∧ Bk u m (wz 64 W) 39 ∧ Bk u kb (wz 64 kc) 39 ∧ Bk u hb (wz 8 f) 39 ∧ Kp (Fr w.heap.size) w u) (fun i _ => 64 - (intOf i).toNat)
  case atStart => exact ⟨0, by omega, rfl, HV.cast (by rw [HF.out ()]), HW, HC, HH, HK⟩
  case round =>
    clear HV HW HC HH HK
    obtain ⟨k, hk, rfl, HV, HW, HC, HH, HK⟩ := hrel
    have ok := HO.out k
    have HS : Hid (Unit → rds W (Rg.of f) (k + 1) = rnd (kc k) (W k) (rds W (Rg.of f) k)) := fun _ => rfl
    by_cases hlt : k < 64
    · generalize rds W (Rg.of f) k = s at *
      obtain ⟨A, B, C, D, E, F, G, H⟩ := s
      obtain ⟨oA, oB, oC, oD, oE, oF, oG, oH⟩ := ok
      have k0 : (0 : Int) ≤ (k : Int) := by omega
      have k1 : (k : Int) < 64 := by omega
      obtain ⟨c0, c1, c2, c3, c4, c5, c6, c7⟩ := vr_cells HV
      have d0 := (HW.cell k).trans (wz_get 64 W k hlt)
      have d1 := (HC.cell k).trans (wz_get 64 kc k hlt)
      go_wp2
      go_quiet (first | (go_at_call 38; exact Calls.quiet_of (CR.out _ _ _ oE (by decide) (by decide))))
      have HV := HV.drewN nq
      have HW := HW.drewN nq
      have HC := HC.drewN nq
      have HH := HH.drewN nq
      have HK := HK.drewN nq
      generalize World.drewN _ nq = u1 at *
      clear c0 c1 c2 c3 c4 c5 c6 c7 d0 d1
      obtain ⟨c0, c1, c2, c3, c4, c5, c6, c7⟩ := vr_cells HV
      have d0 := (HW.cell k).trans (wz_get 64 W k hlt)
      have d1 := (HC.cell k).trans (wz_get 64 kc k hlt)
      go_wp2
      go_quiet (fail)
      have HV := HV.drewN nq
      have HW := HW.drewN nq
      have HC := HC.drewN nq
      have HH := HH.drewN nq
      have HK := HK.drewN nq
      generalize World.drewN _ nq = u2 at *
      clear c0 c1 c2 c3 c4 c5 c6 c7 d0 d1
      obtain ⟨c0, c1, c2, c3, c4, c5, c6, c7⟩ := vr_cells HV
      have d0 := (HW.cell k).trans (wz_get 64 W k hlt)
      have d1 := (HC.cell k).trans (wz_get 64 kc k hlt)
      go_wp2
      go_quiet (fail)
      have HV := HV.drewN nq
      have HW := HW.drewN nq
      have HC := HC.drewN nq
      have HH := HH.drewN nq
      have HK := HK.drewN nq
      generalize World.drewN _ nq = u3 at *
      clear c0 c1 c2 c3 c4 c5 c6 c7 d0 d1
      obtain ⟨c0, c1, c2, c3, c4, c5, c6, c7⟩ := vr_cells HV
      have d0 := (HW.cell k).trans (wz_get 64 W k hlt)
      have d1 := (HC.cell k).trans (wz_get 64 kc k hlt)
      go_wp2
      go_quiet (first | (go_at_call 38; exact Calls.quiet_of (CR.out _ _ _ oA (by decide) (by decide))))
      have HV := HV.drewN nq
      have HW := HW.drewN nq
      have HC := HC.drewN nq
      have HH := HH.drewN nq
      have HK := HK.drewN nq
      generalize World.drewN _ nq = u4 at *
      clear c0 c1 c2 c3 c4 c5 c6 c7 d0 d1
      obtain ⟨c0, c1, c2, c3, c4, c5, c6, c7⟩ := vr_cells HV
      have d0 := (HW.cell k).trans (wz_get 64 W k hlt)
      have d1 := (HC.cell k).trans (wz_get 64 kc k hlt)
      go_wp2
      have z0 := HV.fz 0
      have z1 := HV.fz 1
      have z2 := HV.fz 2
      have z3 := HV.fz 3
      have z4 := HV.fz 4
      have z5 := HV.fz 5
      have z6 := HV.fz 6
      have z7 := HV.fz 7
      go_quiet (fail)
      go_wp2
      go_roundw
      case rel =>
        refine ⟨k + 1, by omega, by go_num, (((((((((HV.drewN nq).set 7 _).set 6 _).set 5 _).set 4 _).set 3 _).set 2 _).set 1 _).set 0 _).cast ?_, ?_, ?_, ?_, ?_⟩
        · rw [HS.out (), S1_cast E oE, S0_cast A oA, ch_cast E F G oE oF oG, mj_cast A B C oA oB oC, e_cast, a_cast]
          exact vz_all ⟨A, B, C, D, E, F, G, H⟩ (rnd (kc k) (W k) ⟨A, B, C, D, E, F, G, H⟩) Z
        · repeat (refine Bk.far ?_ _ _ ne1)
          exact HW.drewN nq
        · repeat (refine Bk.far ?_ _ _ ne2)
          exact HC.drewN nq
        · repeat (refine Bk.far ?_ _ _ ne3)
          exact HH.drewN nq
        · repeat (refine Kp.setCell ?_ _ _ hge)
          exact HK.drewN nq
      case measure => simp [intOf]; omega
    · have ki : ¬ (k : Int) < 64 := by omega
      have hk64 : k = 64 := by omega
      generalize hs : rds W (Rg.of f) k = s at *
      have HE : Hid (Unit → ∀ i, cmp f q i = ad (f i) (s.at i)) := fun _ i => by rw [HM.out () i, ← hs, hk64]
      have HK : Kp (fun k => k = hb ∨ w.heap.size ≤ k) w _ := HK.mono fun _ _ h => Or.inr h
      clear HS ok hlt hk hs hk64 HO HM
      go_wp2
      go_loopw [14] (fun i u => ∃ k : Nat, k ≤ 8 ∧ i = .int .i64 (k : Int) ∧ Bk u mv (wz 8 s.at ++ Z) 39 ∧ Bk u hb (wz 8 fun j => if j < k then cmp f q j else f j) 39 ∧ Kp (fun k => k = hb ∨ w.heap.size ≤ k) w u) (fun i _ => 8 - (intOf i).toNat)
      case atStart => exact ⟨0, by omega, rfl, HV, HH.cast (wz_ext _ _ _ fun i _ => by simp), HK⟩
      case round =>
        clear HV HH HK HW HC
        obtain ⟨k, hk, rfl, HV, HH, HK⟩ := hrel
        by_cases hlt : k < 8
        · have k0 : (0 : Int) ≤ (k : Int) := by omega
          have k1 : (k : Int) < 8 := by omega
          have c1 := (HV.cell k).trans (vz_get _ _ k hlt)
          have c2 := (HH.cell k).trans (wz_get 8 _ k hlt)
          rw [if_neg (Nat.lt_irrefl k)] at c2
          have f2 := HH.fz k
          go_wp2
          refine wp_region_tail (by kernel_rfl) (by kernel_rfl) (by kernel_rfl) ?_
          simp only [swp, nop, lastL]
          repeat (go_big_quiet_step (fail))
          refine wpQuiet_nil ?_
          intro nq
          go_wp2
          go_roundw
          case rel =>
            refine ⟨k + 1, by omega, by go_num, (HV.drewN nq).far _ _ (Ne.symm ne3), ((HH.drewN nq).set k _).cast ?_, (HK.drewN nq).setCell _ _ (Or.inl rfl)⟩
            rw [ad_cast, ← HE.out () k]
            refine wz_set _ _ _ k _ (by simp) fun j _ hj => ?_
            by_cases e : j < k
            · simp [e, show j < k + 1 by omega]
            · simp [e, show ¬ j < k + 1 by omega]
          case measure => simp [intOf]; omega
        · have ki : ¬ (k : Int) < 8 := by omega
          have hk8 : Hid (k = 8) := show k = 8 by omega
          clear hlt hk
          go_wp2
          go_end0
          refine ⟨rfl, HH.cast (wz_ext _ _ _ fun i hi => ?_), HK.mono fun j hj hs => ?_⟩
          · rw [hk8.out, if_pos hi]
          · rcases hs with e | e
            · exact e
            · omega
end Go.Proofs.YtledggjbijoijaaDoor
