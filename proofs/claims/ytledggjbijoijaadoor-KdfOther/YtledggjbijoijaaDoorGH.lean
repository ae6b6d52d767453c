/-
  sha512's New, Write, Sum, Of: what they hand back.
-/
import Derived.Test.YtledggjbijoijaaDoorGG
import Derived.Test.YtledggjbijoijaaDoorHH
namespace Go.Proofs.YtledggjbijoijaaDoor.L8
open Go.RowKit
attribute [local go_sem ↓] ldS_is stS_is ldH_is stH_is bdH_is
attribute [local go_sem] bdH wz8_zero stN
theorem ldS0 (w : World) (b : Nat) (f : Nat → Nat) (t : TypeId) (h : Bk w b (wz 8 f) t) : (loadS 92 (.pointer (some ⟨b, 0, none⟩))).run Tryd.prog w = .ok (.agg (wz 8 f)) w :=
  loadS_part 8 Tryd.underlying92 rfl (by kernel_rfl) (wz_size _ _) fun i _ => by rw [Nat.zero_add]; exact h.cell i
theorem ldH0 (w : World) (b : Nat) (f p : Nat → Nat) (h l z : Int) (t : TypeId) (hb : Bk w b (hc f p h l z) t) : (loadS 96 (.pointer (some ⟨b, 0, none⟩))).run Tryd.prog w = .ok (.agg (hc f p h l z)) w :=
  loadS_part 139 Tryd.underlying96 rfl (by kernel_rfl) (hc_size _ _ _ _ _) fun i _ => by rw [Nat.zero_add]; exact hb.cell i
/-- The stream at b: of the hash that begins with iv and has z bytes; the text t is written. -/
def Hs (w : World) (b : Nat) (iv : Nat → Nat) (z : Nat) (t : ByteArray) : Prop :=
  ∃ f p, Rp iv t f p ∧ Bk w b (hc f p ((t.size % 128 : Nat) : Int) ((t.size : Nat) : Int) (z : Int)) 96
theorem Hs.lt {w : World} {b : Nat} {iv : Nat → Nat} {z : Nat} {t : ByteArray} (h : Hs w b iv z t) : b < w.heap.size := by
  obtain ⟨f, p, _, h⟩ := h
  exact h.lt
theorem Hs.kp {S : Nat → Prop} {w w' : World} {b : Nat} {iv : Nat → Nat} {z : Nat} {t : ByteArray} (h : Hs w b iv z t) (k : Kp S w w') (hn : ¬ S b) : Hs w' b iv z t := by
  obtain ⟨f, p, hr, h⟩ := h
  exact ⟨f, p, hr, h.kp k hn⟩
theorem Hs.sm {w w' : World} {b : Nat} {iv : Nat → Nat} {z : Nat} {t : ByteArray} (h : Hs w b iv z t) (k : Sm w w') : Hs w' b iv z t := h.kp k fun h => h
theorem rp_empty (iv : Nat → Nat) : Rp iv .empty iv fun _ => 0 := ⟨fun _ _ => rfl, fun _ _ => by decide, fun i hi => by simp at hi⟩
set_option maxRecDepth 100000 in
set_option maxHeartbeats 1600000 in
theorem New_any (bits : Int) (iv : Nat → Nat) (z : Nat) (hk : Kd bits iv z) (w : World) :
    Calls Tryd.prog 46 #[.int .i64 bits] w fun e w' => ∃ b, e = .returned (.tuple #[.pointer (some ⟨b, 0, none⟩), .int .i64 0]) ∧ w.heap.size ≤ b ∧ Hs w' b iv z .empty ∧ Sm w w' := by
  have C1 : Hid (∀ w, Calls Tryd.prog 60 #[.int .i64 bits] w fun e w' => e = .returned (.tuple #[.agg (wz 8 iv), .bool true]) ∧ Sm w w') := fun w => beginning_any bits iv z hk w
  have e1 : Int.tdiv bits 8 = (z : Int) := by rcases hk.is with ⟨rfl, _, rfl⟩ | ⟨rfl, _, rfl⟩ <;> rfl
  have e2 : bits / 8 = (z : Int) := by rcases hk.is with ⟨rfl, _, rfl⟩ | ⟨rfl, _, rfl⟩ <;> rfl
  have b1 : bits ≤ 512 := by rcases hk.is with ⟨rfl, _, rfl⟩ | ⟨rfl, _, rfl⟩ <;> decide
  have b2 : 0 ≤ bits := by rcases hk.is with ⟨rfl, _, rfl⟩ | ⟨rfl, _, rfl⟩ <;> decide
  clear hk
  go_enter Tryd.func46, Tryd.ntmps46
  go_wp2_with (go_at_call 60; refine (C1.out _).mono ?_; rintro e w1 ⟨rfl, S1⟩; have hB := (Bk.new w1 (wz 8 fun _ => 0) 92).put (wz 8 iv); have ld := ldS0 _ _ _ _ hB)
  go_ret2
  have hs : (setBlk (w1.alloc (.cells (wz 8 fun _ => 0) 92)) w1.heap.size (wz 8 iv)).heap.size = w1.heap.size + 1 := by rw [size_setBlk]; simp
  have h1 := S1.size
  have hN := Bk.new (setBlk (w1.alloc (.cells (wz 8 fun _ => 0) 92)) w1.heap.size (wz 8 iv)) (hc iv (fun _ => 0) 0 0 (z : Int)) 96
  exact ⟨_, rfl, by rw [hs]; omega, ⟨iv, _, rp_empty iv, hN⟩, Sm.of ((((S1.kp _).alloc _).put _ _ h1).alloc _)⟩
set_option maxRecDepth 100000 in
set_option maxHeartbeats 1600000 in
theorem New_no (bits : Int) (h1 : bits ≠ 384) (h2 : bits ≠ 512) (w : World) :
    Calls Tryd.prog 46 #[.int .i64 bits] w fun e w' => e = .returned (.tuple #[.pointer none, .int .i64 800]) ∧ Sm w w' := by
  have C1 : Hid (∀ w, Calls Tryd.prog 60 #[.int .i64 bits] w fun e w' => e = .returned (.tuple #[.agg (wz 8 fun _ => 0), .bool false]) ∧ Sm w w') := fun w => beginning_no bits h1 h2 w
  clear h1 h2
  go_enter Tryd.func46, Tryd.ntmps46
  go_wp2_with (go_at_call 60; refine (C1.out _).mono ?_; rintro e w1 ⟨rfl, S1⟩)
  go_ret2
  exact ⟨rfl, Sm.of (((S1.kp _).alloc _).put _ _ S1.size)⟩
theorem mkF (b : Nat) : trn b = .func (.func 62) #[.pointer (some ⟨b, 0, none⟩)] #[] := rfl
set_option maxRecDepth 100000 in
set_option maxHeartbeats 1600000 in
theorem Write_any (b : Nat) (iv : Nat → Nat) (z : Nat) (t s : ByteArray) (hv : ∀ i, iv i < 18446744073709551616) (hl : t.size + s.size < 2305843009213693952) (w : World) (hK : Kk w) (h0 : b ≠ 1) (hH : Hs w b iv z t) :
    Calls Tryd.prog 47 #[.pointer (some ⟨b, 0, none⟩), .string s] w fun e w' => e = .returned (.int .i64 0) ∧ Kp (At1 b) w w' ∧ Hs w' b iv z (t ++ s) := by
  obtain ⟨f, p, hR, hb⟩ := hH
  have hw : IntKind.u64.wrap ((t.size : Int) + (s.size : Int)) = (((t ++ s).size : Nat) : Int) := by rw [IntKind.wrap_u64, ByteArray.size_append]; omega
  have hws : IntKind.u64.wrap (s.size : Int) = (s.size : Int) := by rw [IntKind.wrap_u64]; omega
  have c137 := (hb.cell 137).trans (hc_l _ _ _ _ _)
  have f137 := hb.fz 137
  obtain ⟨S, hS⟩ : ∃ S : Nat, s.size = S := ⟨_, rfl⟩
  obtain ⟨T, hT⟩ : ∃ T : Nat, t.size = T := ⟨_, rfl⟩
  obtain ⟨U, hU⟩ : ∃ U : Nat, (t ++ s).size = U := ⟨_, rfl⟩
  have HU : Hid (U = T + S) := show U = T + S by rw [← hU, ← hT, ← hS, ByteArray.size_append]
  have hb2 := (hb.set 137 (.int .u64 (U : Int))).cast (hc_setl _ _ _ _ _ _)
  have CE : Hid (Unit → Calls Tryd.prog 61 #[.pointer (some ⟨b, 0, none⟩), .string s, .func (.func 62) #[.pointer (some ⟨b, 0, none⟩)] #[]] (w.setCell ⟨b, 137, none⟩ (.int .u64 (U : Int))) fun e w' => e = .returned (.tuple #[]) ∧ Kp (At1 b) (w.setCell ⟨b, 137, none⟩ (.int .u64 (U : Int))) w' ∧ ∃ f' p', Rp iv (t ++ s) f' p' ∧ Bk w' b (hc f' p' (((t ++ s).size % 128 : Nat) : Int) (U : Int) (z : Int)) 96) := fun _ =>
    each_any b iv f p _ _ t s (fun i _ => hv i) hR (by omega) _ (hK.kp ((Kp.refl (At1 b) w).setCell ⟨b, 137, none⟩ (.int .u64 (U : Int)) rfl) (fun e => h0 e.symm)) h0 hb2
  have HH : Hid (∀ w', (∃ f' p', Rp iv (t ++ s) f' p' ∧ Bk w' b (hc f' p' (((t ++ s).size % 128 : Nat) : Int) (U : Int) (z : Int)) 96) → Hs w' b iv z (t ++ s)) := fun w' ⟨f', p', h1, h2⟩ => ⟨f', p', h1, by rw [hU] at h2 ⊢; exact h2⟩
  have HKp : Hid (Kp (At1 b) w (w.setCell ⟨b, 137, none⟩ (.int .u64 (U : Int)))) := (Kp.refl (At1 b) w).setCell ⟨b, 137, none⟩ (.int .u64 (U : Int)) rfl
  rw [hT, hU, hS] at hw
  rw [hS] at hws
  rw [hT] at c137
  have S1 : (S : Int) < 2305843009213693952 := by omega
  clear hl hK hb hb2 hT hU hR hv h0
  go_enter Tryd.func47, Tryd.ntmps47
  go_wp2_with (go_at_call 61; refine (CE.out ()).mono ?_; rintro e w1 ⟨rfl, K1, H1⟩)
  go_ret
  exact ⟨rfl, HKp.out.trans K1, HH.out _ H1⟩
/-! ### Sum -/
theorem zvH_is : zeroValue 96 = zvS 96 := rfl
theorem zvH (w : World) : (zvS 96).run Tryd.prog w = .ok (.agg (hc (fun _ => 0) (fun _ => 0) 0 0 0)) w := by kernel_rfl
attribute [local go_sem ↓] zvH_is
attribute [local go_sem] zvH
theorem pdT_size (n : Nat) : (pdT n).size = 128 * nb n - n := bt_size _ _
theorem nb_ge (n : Nat) : n ≤ 128 * nb n := by unfold nb; omega
theorem pf_lt (n : Nat) (t : Nat → Nat) (k : Nat) (h : ¬ k < n) : pf n t k < 256 := by
  unfold pf
  rw [if_neg h]
  split
  · decide
  · split
    · decide
    · exact Nat.mod_lt _ (by decide)
theorem xb_pad (t : ByteArray) (k : Nat) (hk : k < 128 * nb t.size) : xb (t ++ pdT t.size) k = pf t.size (xb t) k := by
  by_cases c : k < t.size
  · rw [xb_left _ _ _ c]
    unfold pf
    rw [if_pos c]
  · obtain ⟨j, rfl⟩ : ∃ j, k = t.size + j := ⟨k - t.size, by omega⟩
    rw [xb_right]
    unfold pdT
    rw [xb_bt (fun k => pf t.size (fun _ => 0) (t.size + k)) _ j (by omega) (pf_lt _ _ _ (by omega))]
    unfold pf
    rw [if_neg c, if_neg c]
/-- The digest by a stream's state behind the text's end. -/
theorem sha_is (iv f p : Nat → Nat) (z : Nat) (t : ByteArray) (hz : z ≤ 64) (hR : Rp iv (t ++ pdT t.size) f p) : bt (dg8 f) z = sha iv z t := by
  have hs : (t ++ pdT t.size).size = 128 * nb t.size := by rw [ByteArray.size_append, pdT_size]; have := nb_ge t.size; omega
  unfold sha
  refine bt_ext _ _ _ fun i hi => ?_
  unfold dg8
  rw [hR.st (i / 8) (by omega), hs, Nat.mul_div_cancel_left _ (by decide)]
  rw [bls_ext iv _ _ (nb t.size) (fun j hj => xb_pad t j hj) (i / 8) (by omega)]
set_option maxRecDepth 100000 in
set_option maxHeartbeats 1600000 in
theorem Sum_any (b : Nat) (iv : Nat → Nat) (z : Nat) (t : ByteArray) (hv : ∀ i, iv i < 18446744073709551616) (hz : z ≤ 64) (hl : t.size < 2305843009213693952) (w : World) (hK : Kk w) (hH : Hs w b iv z t) :
    Calls Tryd.prog 48 #[.pointer (some ⟨b, 0, none⟩)] w fun e w' => e = .returned (.string (sha iv z t)) ∧ Sm w w' := by
  obtain ⟨f, p, hR, hb⟩ := hH
  have hbt := hb
  obtain ⟨h, hh⟩ : ∃ h, t.size % 128 = h := ⟨_, rfl⟩
  obtain ⟨n, hn⟩ : ∃ n, t.size = n := ⟨_, rfl⟩
  rw [hh, hn] at hb
  obtain ⟨v, hv0⟩ : ∃ v, setBlk (w.alloc (.cells (hc (fun _ => 0) (fun _ => 0) 0 0 0) 96)) w.heap.size (hc f p (h : Int) (n : Int) (z : Int)) = v := ⟨_, rfl⟩
  have st := storeS_part (P := Tryd.prog) (ty := 96) 139 (by kernel_rfl) (Bk.new w (hc (fun _ => 0) (fun _ => 0) 0 0 0) 96) (hc_size _ _ _ _ _) (hc_size f p (h : Int) (n : Int) (z : Int)) (by decide) (hc_one _ _ _ _ _)
  rw [hv0] at st
  have ld := ldH0 _ _ _ _ _ _ _ _ hb
  have HV : Sm w v := by rw [← hv0]; exact Sm.of (((Kp.refl _ _).alloc _).put _ _ (Nat.le_refl _))
  have hbm : Bk v w.heap.size (hc f p (h : Int) (n : Int) (z : Int)) 96 := by rw [← hv0]; exact (Bk.new w _ _).put _
  have hbv := hb.sm HV
  have c137 := (hbv.cell 137).trans (hc_l _ _ _ _ _)
  have hlt := hb.lt
  obtain ⟨P, hP⟩ : ∃ P, pdT t.size = P := ⟨_, rfl⟩
  have CP : Hid (∀ w, Calls Tryd.prog 63 #[.int .u64 (n : Int)] w fun e w' => e = .returned (.string P) ∧ Sm w w') := fun w => by rw [← hP, hn]; exact padding_any n (by omega) w
  have hm := hbm
  rw [← hh, ← hn] at hm
  have CE : Hid (∀ v', Sm v v' → Calls Tryd.prog 61 #[.pointer (some ⟨w.heap.size, 0, none⟩), .string P, .func (.func 62) #[.pointer (some ⟨w.heap.size, 0, none⟩)] #[]] v' fun e w' => e = .returned (.tuple #[]) ∧ Kp (At1 w.heap.size) v' w' ∧ ∃ f' p', Rp iv (t ++ P) f' p' ∧ ∃ h l, Bk w' w.heap.size (hc f' p' h l (z : Int)) 96) := fun v' hs =>
    (each_any w.heap.size iv f p _ _ t P (fun i _ => hv i) hR (by rw [← hP, pdT_size, pad_len]; omega) _ ((hK.sm HV).sm hs) (by have := hK.lt; omega) (hm.sm hs)).mono fun e w' ⟨h1, h2, f', p', h3, h4⟩ => ⟨h1, h2, f', p', h3, _, _, h4⟩
  have HZ : Hid (∀ f' p', Rp iv (t ++ P) f' p' → (bt (dg8 f') 64).extract 0 z = sha iv z t) := fun f' p' h => by rw [bt_cut _ _ _ hz]; exact sha_is iv f' p' z t hz (by rw [hP]; exact h)
  have z1 : (z : Int) ≤ 64 := by omega
  have CT : Hid (∀ (f : Nat → Nat) w' h l p, Bk w' w.heap.size (hc f p h l (z : Int)) 96 → Calls Tryd.prog 64 #[.pointer (some ⟨w.heap.size, 0, none⟩)] w' fun e w'' => e = .returned (.string (bt (dg8 f) 64)) ∧ Sm w' w'') := fun f w' h l p hb => text_any w.heap.size f w' (fun i hi => (hb.cell i).trans (hc_st _ _ _ _ _ i hi)) hb.lt
  have sz : ∀ g : Nat → Nat, (bt g 64).size = 64 := fun g => bt_size g 64
  clear hl hR hK hv hz hP hh hn hbt hm
  go_enter Tryd.func48, Tryd.ntmps48
  go_wp2_with (first
    | (go_at_call 63; refine (CP.out _).mono ?_; rintro e v1 ⟨rfl, S1⟩)
    | (go_at_call 61; refine (CE.out _ S1).mono ?_; rintro e v2 ⟨rfl, K2, f', p', hR', h', l', hb'⟩; have c138 := ((((hbv.sm S1).kp K2 (fun e => by have : b = w.heap.size := e; omega))).cell 138).trans (hc_z _ _ _ _ _)))
  have hbv2 := (hbv.sm S1).kp K2 (fun e => by have : b = w.heap.size := e; omega)
  go_region_with (go_at_call 64; refine (CT.out f' _ h' l' p' hb'.drew).mono ?_; rintro e v3 ⟨rfl, S3⟩; have c138' := ((hbv2.drew.sm S3).cell 138).trans (hc_z _ _ _ _ _))
  all_goals
    go_wp2
    go_ret
    refine ⟨congrArg (fun z => Ending.returned (Value.string z)) (HZ.out f' p' hR'), ?_⟩
    exact Sm.of ((((HV.trans S1).kp _).trans (K2.mono fun k _ hk => by have : k = w.heap.size := hk; exact Nat.le_of_eq this.symm)).drew.trans (S3.kp _))
end Go.Proofs.YtledggjbijoijaaDoor.L8
