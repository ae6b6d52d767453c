/-
  What the statements DrbgFirst and DrbgMore share: the rule's first bytes.
-/
/-
  The statement DrbgFirst, walked: it answers true for every number and any two texts.
-/
import Derived.Test.YtconibmdlfkopaaGreatDoorWI
namespace Go.Proofs.YtconibmdlfkopaaGreatDoor
open Go.RowKit
/-- So many ones. -/
def oz (k : Nat) : ByteArray := bt (fun _ => 1) k
theorem oz_size (k : Nat) : (oz k).size = k := bt_size _ _
theorem oz_succ (k : Nat) : oz k ++ ⟨#[1]⟩ = oz (k + 1) := by
  apply ByteArray.ext
  rw [ByteArray.data_append]
  unfold oz bt
  rw [List.range_succ]
  simp
theorem gt_one {id k : Int} {z : Nat} (h : Hi id (z : Int) k) (p : ByteArray × ByteArray) : gt id z z p = mac id p.1 p.2 := by
  have h28 := h.z28
  have e : rn z z = 1 := (rn_is z z 1 (by omega) (by omega) (Or.inr (by omega))).symm
  have hs := mac_size h p.1 p.2
  unfold gt
  rw [e]
  show (ByteArray.empty ++ mac id p.1 p.2).extract 0 z = _
  rw [app_nil, ex_all _ _ (by omega)]
/-- The list of sizes. -/
def zR (w : World) : World := w.alloc (.cells #[.int .i64 0, .int .i64 28, .int .i64 32, .int .i64 48, .int .i64 64] 3)
theorem app_end (a : ByteArray) : a ++ (⟨#[]⟩ : ByteArray) = a := by
  apply ByteArray.ext
  simp
/-- The key and the value behind r steps with S. -/
def pr (id : Int) (z : Nat) (S M : ByteArray) : Nat → ByteArray × ByteArray
  | 0 => ini z
  | 1 => st1 id ⟨#[0]⟩ S (ini z)
  | 2 => st1 id ⟨#[1]⟩ S (st1 id ⟨#[0]⟩ S (ini z))
  | 3 => st1 id ⟨#[0]⟩ M (st1 id ⟨#[1]⟩ S (st1 id ⟨#[0]⟩ S (ini z)))
  | _ => st1 id ⟨#[1]⟩ M (st1 id ⟨#[0]⟩ M (st1 id ⟨#[1]⟩ S (st1 id ⟨#[0]⟩ S (ini z))))
theorem pr_two (id : Int) (z : Nat) (S M : ByteArray) (h : ¬ S.size = 0) : pr id z S M 2 = upd id S (ini z) := by
  unfold upd
  rw [if_neg h]
  rfl
theorem pr_four (id : Int) (z : Nat) (S M : ByteArray) (h : ¬ S.size = 0) (h2 : ¬ M.size = 0) : pr id z S M 4 = upd id M (upd id S (ini z)) := by
  unfold upd
  rw [if_neg h, if_neg h2]
  rfl
theorem pr_wf {id k : Int} {z : Nat} (h : Hi id (z : Int) k) (S M : ByteArray) : ∀ r, Wf z (pr id z S M r)
  | 0 => ini_wf z
  | 1 => st1_wf h _ _ _
  | 2 => st1_wf h _ _ _
  | 3 => st1_wf h _ _ _
  | _ + 4 => st1_wf h _ _ _
/-- One byte as a text. -/
theorem cv_byte (x : Nat) (W : World) (b c : Nat) (t : TypeId) (h : Bk W b #[.int .u8 (x : Int)] t) : (cvS (.slice (some ⟨b, 0, none⟩) 1 c)).run Tryz.prog W = .ok (.string (bt (fun _ => x) 1)) W :=
  cvS_run W b 0 1 c (fun _ => x) fun i hi => by
    rw [Nat.zero_add, h.cell]
    obtain rfl : i = 0 := by omega
    rfl
end Go.Proofs.YtconibmdlfkopaaGreatDoor
namespace Go.Proofs.YtconibmdlfkopaaGreatDoor
open Go.RowKit
attribute [local go_sem ↓] mkS_is cvS_is
set_option maxRecDepth 100000 in
set_option maxHeartbeats 3200000 in
theorem lwfirst_any (i : Int) (E N : ByteArray) (hE : E.size ≤ 140737488351232) (hN : N.size ≤ 140737488351232) (w : World) (hK : KK w) :
    Calls Tryz.prog 8 #[.int .i64 i, .string E, .string N] w fun e w' => e = .returned (.bool true) ∧ Sm w w' := by
  have CN : Hid (∀ x w, Calls Tryz.prog 13 #[.int .i64 x] w fun e w' => e = .returned (.int .i64 x) ∧ w = w') := num7_any
  have CA : Hid (∀ w, KK w → Calls Tryz.prog 14 #[] w fun e w' => e = .returned (.bool true) ∧ Sm w w') := awake11_any
  have CE : Hid (∀ w, Calls Tryz.prog 21 #[.string E] w fun e w' => e = .returned (.string (sh E)) ∧ w = w') := fun w => short_any E (by omega) w
  have CB : Hid (∀ w, Calls Tryz.prog 21 #[.string N] w fun e w' => e = .returned (.string (sh N)) ∧ w = w') := fun w => short_any N (by omega) w
  have HK : Hid (KK w) := hK
  obtain ⟨p, hp, hp4⟩ := and_3 i
  obtain ⟨z, kk, h⟩ := hi_nat p hp4
  have hS := sh_size E
  have hT := sh_size N
  generalize sh E = A at *
  generalize sh N = B at *
  have hs : (e32 ++ A).size = 32 + A.size := by rw [ByteArray.size_append]; rfl
  have e32' : e32 = ⟨#[48, 49, 50, 51, 52, 53, 54, 55, 56, 57, 97, 98, 99, 100, 101, 102, 48, 49, 50, 51, 52, 53, 54, 55, 56, 57, 97, 98, 99, 100, 101, 102]⟩ := rfl
  rw [e32'] at hs
  generalize hX : (⟨#[48, 49, 50, 51, 52, 53, 54, 55, 56, 57, 97, 98, 99, 100, 101, 102, 48, 49, 50, 51, 52, 53, 54, 55, 56, 57, 97, 98, 99, 100, 101, 102]⟩ ++ A : ByteArray) = X at *
  have hno : No (z : Int) X B ⟨#[]⟩ := ⟨eo_32 h _ (by omega) (by omega), by omega, by decide⟩
  have hXB : ¬ (X ++ B).size = 0 := by rw [ByteArray.size_append]; omega
  have C1 : Hid (∀ w, KK w → Calls Tryz.prog 11 #[.int .i64 (1 + (p : Int)), .string X, .string B, .string ⟨#[]⟩] w fun e w' => ∃ d, e = .returned (.tuple #[.pointer (some ⟨d, 0, none⟩), .int .i64 0]) ∧ w.heap.size ≤ d ∧ Dg w' d (1 + (p : Int)) (pr (1 + (p : Int)) z (X ++ B) .empty 2) 1 ∧ Sm w w') := fun w hw => by
    have := dnew_ok _ kk z h _ _ _ hno w hw
    rw [app_end, ← pr_two (1 + (p : Int)) z (X ++ B) .empty hXB] at this
    exact this
  have hwf := pr_wf h (X ++ B) .empty
  have C2 : Hid (∀ r w, r < 2 → KK w → Calls Tryz.prog 22 #[.int .i64 (1 + (p : Int)), .string (pr (1 + (p : Int)) z (X ++ B) .empty r).1, .string ((((pr (1 + (p : Int)) z (X ++ B) .empty r).2 ++ bt (fun _ => r) 1) ++ X) ++ B)] w fun e w' => e = .returned (.tuple #[.string (pr (1 + (p : Int)) z (X ++ B) .empty (r + 1)).1, .int .i64 0]) ∧ Sm w w') := fun r w hr hw => by
    have hz := h.z64
    have h1 := (hwf r).1
    have h2 := (hwf r).2
    have hb : (bt (fun _ => r) 1).size = 1 := bt_size _ _
    have := mof_any (1 + (p : Int)) z kk h (pr (1 + (p : Int)) z (X ++ B) .empty r).1 ((((pr (1 + (p : Int)) z (X ++ B) .empty r).2 ++ bt (fun _ => r) 1) ++ X) ++ B) (by omega) (by simp only [ByteArray.size_append, hb]; omega) w hw
    have e : mac (1 + (p : Int)) (pr (1 + (p : Int)) z (X ++ B) .empty r).1 ((((pr (1 + (p : Int)) z (X ++ B) .empty r).2 ++ bt (fun _ => r) 1) ++ X) ++ B) = (pr (1 + (p : Int)) z (X ++ B) .empty (r + 1)).1 := by
      rw [app_assoc, app_assoc]
      have : r = 0 ∨ r = 1 := by omega
      rcases this with rfl | rfl
      · have e1 : bt (fun _ => 0) 1 = ⟨#[0]⟩ := rfl
        rw [e1]
        rfl
      · have e1 : bt (fun _ => 1) 1 = ⟨#[1]⟩ := rfl
        rw [e1]
        rfl
    rw [e] at this
    exact this
  have C3 : Hid (∀ r w, r < 2 → KK w → Calls Tryz.prog 22 #[.int .i64 (1 + (p : Int)), .string (pr (1 + (p : Int)) z (X ++ B) .empty (r + 1)).1, .string (pr (1 + (p : Int)) z (X ++ B) .empty r).2] w fun e w' => e = .returned (.tuple #[.string (pr (1 + (p : Int)) z (X ++ B) .empty (r + 1)).2, .int .i64 0]) ∧ Sm w w') := fun r w hr hw => by
    have hz := h.z64
    have h1 := (hwf (r + 1)).1
    have h2 := (hwf r).2
    have := mof_any (1 + (p : Int)) z kk h (pr (1 + (p : Int)) z (X ++ B) .empty (r + 1)).1 (pr (1 + (p : Int)) z (X ++ B) .empty r).2 (by omega) (by omega) w hw
    have e : mac (1 + (p : Int)) (pr (1 + (p : Int)) z (X ++ B) .empty (r + 1)).1 (pr (1 + (p : Int)) z (X ++ B) .empty r).2 = (pr (1 + (p : Int)) z (X ++ B) .empty (r + 1)).2 := by
      have : r = 0 ∨ r = 1 := by omega
      rcases this with rfl | rfl <;> rfl
    rw [e] at this
    exact this
  obtain ⟨W, hW⟩ : ∃ W, mac (1 + (p : Int)) (pr (1 + (p : Int)) z (X ++ B) .empty 2).1 (pr (1 + (p : Int)) z (X ++ B) .empty 2).2 = W := ⟨_, rfl⟩
  have C4 : Hid (∀ w, KK w → Calls Tryz.prog 22 #[.int .i64 (1 + (p : Int)), .string (pr (1 + (p : Int)) z (X ++ B) .empty 2).1, .string (pr (1 + (p : Int)) z (X ++ B) .empty 2).2] w fun e w' => e = .returned (.tuple #[.string W, .int .i64 0]) ∧ Sm w w') := fun w hw => by
    have hz := h.z64
    have h1 := (hwf 2).1
    have h2 := (hwf 2).2
    exact hW ▸ mof_any (1 + (p : Int)) z kk h _ _ (by omega) (by omega) w hw
  have hz64 := h.z64
  have hz28 := h.z28
  have C5 : Hid (∀ d w, KK w → Nc d → Dg w d (1 + (p : Int)) (pr (1 + (p : Int)) z (X ++ B) .empty 2) 1 → Calls Tryz.prog 15 #[.pointer (some ⟨d, 0, none⟩), .int .i64 (z : Int), .string ⟨#[]⟩] w fun e w' => ∃ q, e = .returned (.tuple #[.string W, .int .i64 0]) ∧ Kp (At1 d) w w' ∧ Dg w' d (1 + (p : Int)) q 2) := fun d w k1 k2 k3 => by
    have := dgen_ok d _ kk z h _ (hwf 2) 1 z ⟨#[]⟩ (by omega) (by decide) (by decide) (by decide) w k1 k2 k3
    have e : gtx (1 + (p : Int)) z z ⟨#[]⟩ (pr (1 + (p : Int)) z (X ++ B) .empty 2) = W := by
      unfold gtx
      rw [gt_one h, ← hW]
      rfl
    rw [e] at this
    exact this.mono fun _ _ ⟨h1, h2, h3⟩ => ⟨_, h1, h2, h3⟩
  have HV : Hid (∀ r, r < 2 → ((pr (1 + (p : Int)) z (X ++ B) .empty r).2.size : Int) ≤ 64) := fun r _ => by have := (hwf r).2; omega
  have H0 : Hid ((pr (1 + (p : Int)) z (X ++ B) .empty 0).1 = nz z ∧ (pr (1 + (p : Int)) z (X ++ B) .empty 0).2 = oz z) := ⟨rfl, rfl⟩
  have HC : Hid (∀ u : World, (u.alloc (.cells #[.int .i64 0, .int .i64 28, .int .i64 32, .int .i64 48, .int .i64 64] 3)).cell? ⟨u.heap.size, 1 + p, none⟩ = some (.int .i64 (z : Int))) := fun u => by
    rw [(Bk.new u _ _).cell]
    rcases h with ⟨h1, h2, _⟩ | ⟨h1, h2, _⟩ | ⟨h1, h2, _⟩ | ⟨h1, h2, _⟩
    · obtain rfl : p = 0 := by omega
      rw [h2]; rfl
    · obtain rfl : p = 1 := by omega
      rw [h2]; rfl
    · obtain rfl : p = 2 := by omega
      rw [h2]; rfl
    · obtain rfl : p = 3 := by omega
      rw [h2]; rfl
  have p1 : (p : Int) < 4 := by omega
  have z1 : (z : Int) ≤ 64 := by omega
  have z0 : (0 : Int) ≤ (z : Int) := by omega
  have a1 : (32 : Int) + (A.size : Int) ≤ 200 := by omega
  have a2 : (X.size : Int) ≤ 200 := by omega
  have a3 : (B.size : Int) ≤ 200 := by omega
  have HZ : Hid (z ≤ 64) := show z ≤ 64 by omega
  have mk := fun w => mkS_run w .i64 .i64 z (by omega)
  have HCV : Hid (∀ (u : World) c, (cvS (.slice (some ⟨u.heap.size + 1, 0, none⟩) z c)).run Tryz.prog ((u.alloc (.cells #[.int .i64 0, .int .i64 28, .int .i64 32, .int .i64 48, .int .i64 64] 3)).alloc (.cells (br z fun _ => 0) 5)) = .ok (.string (nz z)) ((u.alloc (.cells #[.int .i64 0, .int .i64 28, .int .i64 32, .int .i64 48, .int .i64 64] 3)).alloc (.cells (br z fun _ => 0) 5))) := fun u c => cvS_run _ (u.heap.size + 1) 0 z c (fun _ => 0) fun i hi => by
    rw [Nat.zero_add]
    have hB : Bk ((u.alloc (.cells #[.int .i64 0, .int .i64 28, .int .i64 32, .int .i64 48, .int .i64 64] 3)).alloc (.cells (br z fun _ => 0) 5)) (u.heap.size + 1) (br z fun _ => 0) 5 := Bk.at (by simp)
    exact (hB.cell i).trans (br_get z _ i hi)
  generalize hq : pr (1 + (p : Int)) z (X ++ B) .empty = f at *
  clear h hK hp4 hS hT hs hno hXB hwf hE hN e32' hW hz64 hz28 hq
  go_enter Tryz.func8, Tryz.ntmps8
  go_wp2_with (first
    | (go_at_call 14; refine (CA.out _ HK.out).mono ?_; rintro e w1 ⟨rfl, S1⟩; have hc := HC.out w1; have cv := HCV.out w1)
    | (go_at_call 21; refine (CE.out _).mono ?_; rintro e w' ⟨rfl, rfl⟩))
  have S2 := (S1.alloc (.cells #[.int .i64 0, .int .i64 28, .int .i64 32, .int .i64 48, .int .i64 64] 3)).alloc (.cells (br z fun _ => 0) 5)
  generalize ((w1.alloc (.cells #[.int .i64 0, .int .i64 28, .int .i64 32, .int .i64 48, .int .i64 64] 3)).alloc (.cells (br z fun _ => 0) 5)) = v at *
  clear hc cv mk HC HCV CA CE S1
  go_loopw [11, 12] (fun x y u => ∃ k : Nat, k ≤ z ∧ x = .string (oz k) ∧ y = .int .i64 (k : Int) ∧ u = v) (fun _ y _ => 64 - (intOf y).toNat)
  case atStart => exact ⟨0, by omega, rfl, rfl, rfl⟩
  case round =>
    obtain ⟨k, hk, rfl, rfl, rfl⟩ := hrel
    have k0 : (0 : Int) ≤ (k : Int) := by omega
    have HZ2 := HZ.out
    by_cases c : k < z
    · have k1 : (k : Int) < (z : Int) := by omega
      have o1 : ((oz k).size : Int) + 1 ≤ 100 := by rw [oz_size]; omega
      have o2 := oz_succ k
      clear c HZ2
      go_wp2
      go_roundw
      case rel => exact ⟨k + 1, by omega, rfl, by go_num, by trivial⟩
      case measure => simp [intOf]; omega
    · obtain rfl : z = k := by omega
      have k1 : ¬ (z : Int) < (z : Int) := by omega
      clear c hk HZ2
      go_wp2_with fail
      go_loopw [10, 11, 13] (fun a b y u => ∃ r : Nat, r ≤ 2 ∧ a = .string (f r).1 ∧ b = .string (f r).2 ∧ y = .int .i64 (r : Int) ∧ Sm w u) (fun _ _ y _ => 2 - (intOf y).toNat)
      case atStart => exact ⟨0, by omega, by rw [H0.out.1], by rw [H0.out.2], rfl, S2⟩
      case round =>
        clear S2
        obtain ⟨r, hr, rfl, rfl, rfl, S2⟩ := hrel
        have r0 : (0 : Int) ≤ (r : Int) := by omega
        by_cases c : r < 2
        · have r1 : (r : Int) < 2 := by omega
          have HR : Hid (r < 2) := c
          have x0 := HK.out.sm S2
          have hv := HV.out r c
          have rw8 : IntKind.u8.wrap (r : Int) = (r : Int) := by
            rw [IntKind.wrap_u8]
            omega
          obtain ⟨Y, hY⟩ : ∃ Y, bt (fun _ => r) 1 = Y := ⟨_, rfl⟩
          have hYs : Y.size = 1 := by rw [← hY]; exact bt_size _ _
          have s1 : ((f r).2.size : Int) + (Y.size : Int) ≤ 100 := by omega
          have s2 : (((f r).2 ++ Y).size : Int) + (X.size : Int) ≤ 1000 := by rw [ByteArray.size_append]; omega
          have s3 : ((((f r).2 ++ Y) ++ X).size : Int) + (B.size : Int) ≤ 1000 := by rw [ByteArray.size_append, ByteArray.size_append]; omega
          have C2r : Hid (∀ w, KK w → Calls Tryz.prog 22 #[.int .i64 (1 + (p : Int)), .string (f r).1, .string ((((f r).2 ++ Y) ++ X) ++ B)] w fun e w' => e = .returned (.tuple #[.string (f (r + 1)).1, .int .i64 0]) ∧ Sm w w') := fun w hw => hY ▸ C2.out r w c hw
          have C3r : Hid (∀ w, KK w → Calls Tryz.prog 22 #[.int .i64 (1 + (p : Int)), .string (f (r + 1)).1, .string (f r).2] w fun e w' => e = .returned (.tuple #[.string (f (r + 1)).2, .int .i64 0]) ∧ Sm w w') := fun w hw => C3.out r w c hw
          clear c hr hYs C1 C4 C5 C2 C3
          go_wp2_with fail
          go_cut [14, 15] from 50 to 66 (fun x y wx => x = .string (f (r + 1)).1 ∧ y = .int .i64 0 ∧ Sm w wx)
          case first =>
            have B1 := (Bk.new wr #[.int .u8 (r : Int)] 5).drew
            have cv1 : ∀ c, (cvS (.slice (some ⟨wr.heap.size, 0, none⟩) 1 c)).run Tryz.prog (wr.alloc (.cells #[.int .u8 (r : Int)] 5)).drew = .ok (.string Y) (wr.alloc (.cells #[.int .u8 (r : Int)] 5)).drew := fun c => hY ▸ cv_byte r _ _ c _ B1
            have x1 := x0.sm ((Sm.refl wr).alloc (.cells #[.int .u8 (r : Int)] 5)).drew
            go_region_with (first | (go_at_call 21; refine (CB.out _).mono ?_; rintro e w' ⟨rfl, rfl⟩) | (go_at_call 22; refine (C2r.out _ x1).mono ?_; rintro e u1 ⟨rfl, S3⟩))
            all_goals
              go_wp2
              go_meet
              exact ⟨rfl, rfl, ((S2.alloc _).drew).trans S3⟩
          case rest =>
            obtain ⟨rfl, rfl, S3⟩ := hcut
            have x1 := HK.out.sm S3
            go_wp2_with (first
              | (go_at_call 22; refine (C3r.out _ x1).mono ?_; rintro e u2 ⟨rfl, S4⟩)
              | (go_at_call 13; refine (CN.out _ _).mono ?_; rintro e w' ⟨rfl, rfl⟩))
            go_roundw
            case rel => exact ⟨r + 1, by have := HR.out; omega, rfl, rfl, by go_num, S3.trans S4⟩
            case measure => have := HR.out; simp [intOf]; omega
        · obtain rfl : r = 2 := by omega
          have x0 := HK.out.sm S2
          clear c hr r0 C2 C3
          go_wp2_with (first
            | (go_at_call 22; refine (C4.out _ x0).mono ?_; rintro e u1 ⟨rfl, S3⟩; have x1 := x0.sm S3)
            | (go_at_call 21; refine (CB.out _).mono ?_; rintro e w' ⟨rfl, rfl⟩)
            | (go_at_call 11; refine (C1.out _ x1).mono ?_; rintro e u2 ⟨d, rfl, hd, D2, S4⟩; have x2 := x1.sm S4; have nd := x1.nc hd; have gd := Nat.le_trans (S2.trans S3).size hd)
            | (go_at_call 15; refine (C5.out _ _ x2 nd D2).mono ?_; rintro e u3 ⟨q, rfl, K5, D5⟩)
            | (go_at_call 13; refine (CN.out _ _).mono ?_; rintro e w' ⟨rfl, rfl⟩))
          go_ret
          exact ⟨rfl, Sm.of ((((S2.trans S3).trans S4).kp _).trans (K5.fr gd))⟩
end Go.Proofs.YtconibmdlfkopaaGreatDoor
