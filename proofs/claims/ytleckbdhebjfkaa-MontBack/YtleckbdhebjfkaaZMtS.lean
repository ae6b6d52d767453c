/-
  What the walks of the statements over package mont have in common.
-/
/-
  curvetlaw6.add: what it hands back.
-/
import Derived.BigQuiet
import Derived.Deep.QuietTactic
import Derived.Test.YtleckbdhebjfkaaZMtNw
import Derived.Test.YtleckbdhebjfkaaZQt
import Derived.Test.YtleckbdhebjfkaaZMixQ
import Derived.Test.YtleckbdhebjfkaaZEq
import Derived.Test.YtleckbdhebjfkaaZDI
import Derived.Test.YtleckbdhebjfkaaZDF
namespace Go.Proofs.Ytleckbdhebjfkaa
open Go.RowKit

theorem num5_gr (x : Int) (w : World) : Calls Try.prog 12 #[.int .i64 x] w fun e w' => e = .returned (.int .i64 x) ∧ Gr w w' :=
  (num_any x w).mono fun _ _ ⟨h1, h2⟩ => ⟨h1, h2 ▸ Gr.refl _⟩

/-- A number whose lowest bits are set. -/
theorem odd_of (m c : Nat) (hm : m < M) (hc : c < 18446744073709551616) (hodd : c % 2 = 1) (h3 : 3 ≤ c) :
    ∃ y O : Nat, bits BinOp.or IntKind.u64 ((wd m 0 : Nat) : Int) (c : Int) = (y : Int) ∧ (nw 9 m).setIfInBounds 0 (.int .u64 (y : Int)) = nw 9 O ∧ O % 2 = 1 ∧ 3 ≤ O ∧ O < M ∧ ∀ n, 0 < n → m < pw n → O < pw n := by
  have hl := wd_lt m 0
  have hy : wd m 0 ||| c < 18446744073709551616 := Nat.or_lt_two_pow (n := 64) hl hc
  have hge : c ≤ wd m 0 ||| c := Nat.right_le_or
  have h2 : (wd m 0 ||| c) % 2 = 1 := by
    have := Nat.or_mod_two_pow (a := wd m 0) (b := c) (n := 1)
    rw [Nat.pow_one, hodd] at this
    rw [this]
    obtain e | e : wd m 0 % 2 = 0 ∨ wd m 0 % 2 = 1 := by omega
    · rw [e]; rfl
    · rw [e]; rfl
  refine ⟨wd m 0 ||| c, wset m 0 (wd m 0 ||| c), bits_or_u64_nat _ _ hl hc, nw_wset 9 m 0 _ hy, ?_, ?_, wset_lt m 0 _ 9 hm (by decide) hy, fun n h0 hn => wset_lt m 0 _ n hn h0 hy⟩
  · unfold wset
    rw [pw_zero, Nat.mod_one, Nat.mul_one, Nat.zero_add, show pw (0 + 1) = 18446744073709551616 from rfl]
    omega
  · unfold wset
    rw [pw_zero, Nat.mod_one, Nat.mul_one, Nat.zero_add]
    omega
theorem kw_one (m : Nat) (h0 : 0 < m) (h : m < 18446744073709551616) : kw m = 1 := by
  unfold kw
  have h1 := bl_le64 m h
  obtain ⟨s, hs⟩ : ∃ s, bl m = s := ⟨_, rfl⟩
  have h2 := (bl_facts m s h0 hs).1
  omega
/-- A product there, brought back. -/
theorem Mo.prod {m k u : Nat} (h : Mo m k u) (a b : Nat) : (a * pw k % m) * (b * pw k % m) * u % m * u % m = a * b % m := by
  have e1 : (a * pw k % m) * (b * pw k % m) * u % m * u % m = a * pw k * (b * pw k) * u * u % m := by
    rw [mod_mul1, Nat.mul_assoc, Nat.mul_assoc, mod_mul1]
    have : a * pw k * (b * pw k % m * (u * u)) = (b * pw k % m) * (a * pw k * (u * u)) := by grind
    rw [this, mod_mul1]
    congr 1
    grind
  have e2 : a * pw k * (b * pw k) * u * u = (a * b * pw k * u) * pw k * u := by grind
  rw [e1, e2, h.un, h.un]
theorem Mo.pos {m k u : Nat} (h : Mo m k u) : 0 < m := by have := h.ge; omega
/-- To and From. -/
theorem Mo.back {m k u : Nat} (h : Mo m k u) (a : Nat) (ha : a < m) : a * pw k % m * u % m = a := by
  rw [mod_mul1, h.un, Nat.mod_eq_of_lt ha]
/-- To of 1 is neutral. -/
theorem Mo.one {m k u : Nat} (h : Mo m k u) (a : Nat) (ha : a < m) : a * (1 * pw k % m) * u % m = a := by
  have : a * (1 * pw k % m) * u = (1 * pw k % m) * (a * u) := by grind
  rw [this, mod_mul1, Nat.one_mul, show pw k * (a * u) = a * pw k * u by grind, h.un, Nat.mod_eq_of_lt ha]
/-- A number and its inverse there. -/
theorem Mo.inv1 {m k u : Nat} (h : Mo m k u) (a x : Nat) (hx : a * x % m = 1) : a * (x * pw k % m * pw k % m) * u % m = 1 * pw k % m := by
  have e1 : a * (x * pw k % m * pw k % m) * u % m = a * x * pw k * pw k * u % m := by
    have h1 : a * (x * pw k % m * pw k % m) * u = (x * pw k % m * pw k % m) * (a * u) := by grind
    rw [h1, mod_mul1, Nat.mul_assoc, mod_mul1]
    congr 1
    grind
  rw [e1, h.un, Nat.mul_mod, hx, Nat.one_mul, Nat.mod_mod, Nat.one_mul]
/-- A product shares out over a sum. -/
theorem Mo.share {m k u : Nat} (h : Mo m k u) (p q r : Nat) : p * ((q + r) % m) * u % m = (p * q * u % m + p * r * u % m) % m := by
  have h1 : p * ((q + r) % m) * u = ((q + r) % m) * (p * u) := by grind
  rw [h1, mod_mul1, ← Nat.add_mod]
  have := h.pos
  congr 1
  grind

end Go.Proofs.Ytleckbdhebjfkaa
namespace Go.Proofs.Ytleckbdhebjfkaa
open Go.RowKit
attribute [local go_sem ↓] loadNat_is loadArr_is loadWide_is loadArrW_is storeNat_is storeWide_is
attribute [local go_sem] loadNat loadArr loadWide loadArrW storeNat storeWide idxArr fold9 fold18 nw_size nw_elem pre_self pre_1 pre_2 pre_3 pre_4 pre_5 pre_6 pre_7 pre_8 pre_9 pre_10 pre_11 pre_12 pre_13 pre_14 pre_15 pre_16 pre_17 pre_18 pre_19 pre_20 pre_21 pre_22 pre_23 pre_24 pre_25 pre_26 pre_27 pre_28 pre_29 pre_30 pre_31 pre_32 pre_33 pre_34 pre_35 pre_36 pre_37 pre_38 pre_39 pre_40 gro_size gro_drew gro_drewN drew_gro drewN_gro gro_gro blk_gro frz_gro blk_drew frz_drew blk_drewN frz_drewN blk_alloc_at frz_alloc_at blk_alloc frz_alloc cell_gro frozen_gro cell_alloc_pre frozen_alloc_pre setCell_drewN alloc_drewN setBlk_drew setBlk_drewN setBlk_alloc_at setBlk_alloc setBlk_gro setCell_gro setCell_alloc_pre size_setBlk size_setCell
attribute [local go_sem ↓] loadDv_is load19_is storeDv_is store19_is copy_is
attribute [local go_sem] idx18 loadDv load19 storeDv store19 dv_size dv_9 dv_10 dv_e9 dv_e10 dv_elem fold11 fold19 setCell_in cell_in frozen_in frz_setBlk blk_setBlk setBlk_setBlk copy_run cpA_nw ones_nw


theorem carry_yes (x y c s t : Nat) (hx : x < 18446744073709551616) (hy : y < 18446744073709551616) (hc : c ≤ 1) (hs : (x + y) % 18446744073709551616 = s) (ht : (s + c) % 18446744073709551616 = t) (h : s < x ∨ t < s) : (x + y + c) / 18446744073709551616 = 1 := by omega
theorem carry_no (x y c s t : Nat) (hx : x < 18446744073709551616) (hy : y < 18446744073709551616) (hc : c ≤ 1) (hs : (x + y) % 18446744073709551616 = s) (ht : (s + c) % 18446744073709551616 = t) (h : ¬ (s < x ∨ t < s)) : (x + y + c) / 18446744073709551616 = 0 := by omega
theorem carry_sum (x y c s t : Nat) (hs : (x + y) % 18446744073709551616 = s) (ht : (s + c) % 18446744073709551616 = t) : (x + y + c) % 18446744073709551616 = t := by omega
theorem addS_next (a b k t : Nat) (h : (wd a k + wd b k + addC a b k) % 18446744073709551616 = t) : (nw 9 (addS a b k)).setIfInBounds k (.int .u64 (t : Int)) = nw 9 (addS a b (k + 1)) := by
  rw [← addS_set, ← h]
  rfl
set_option maxRecDepth 100000 in
set_option maxHeartbeats 800000 in
theorem add6_any (a b : Nat) (ha : a < M) (hb : b < M) (hs : a + b < M) (w : World) :
    Calls Try.prog 30 #[.agg (nw 9 a), .agg (nw 9 b)] w fun e w' => e = .returned (.agg (nw 9 (a + b))) ∧ Gr w w' := by
  have HF : Hid (Unit → addS a b 9 = a + b) := fun _ => by rw [addS_M a b ha hb, Nat.mod_eq_of_lt hs]
  clear ha hb hs
  go_enter Try.func30, Try.ntmps30
  go_wp2
  go_loopw [6, 7] (fun c i wr => ∃ (k : Nat) (cc : Nat), k ≤ 9 ∧ i = .int .i64 (k : Int) ∧ c = .int .u64 (cc : Int) ∧ Hid (Unit → cc = addC a b k) ∧ Hid (Gr w wr ∧ Cl wr w.heap.size a ∧ Cl wr (w.heap.size + 1) b ∧ Cl wr (w.heap.size + 1 + 1) 0 ∧ Cl wr (w.heap.size + 1 + 1 + 1) (addS a b k))) (fun _ i _ => 9 - (intOf i).toNat)
  case atStart =>
    refine ⟨0, 0, by decide, rfl, rfl, fun _ => (addC_zero a b).symm, (by repeat (first | exact Gr.refl _ | apply Gr.drewN | apply Gr.drew | apply Gr.alloc | apply Gr.gro)), ⟨by simp [go_sem], by simp [go_sem], by simp [go_sem]⟩, ⟨by simp [go_sem], by simp [go_sem], by simp [go_sem]⟩, ⟨by simp [go_sem], by simp [go_sem], by simp [go_sem]⟩, ?_⟩
    rw [addS_zero]
    exact ⟨by simp [go_sem], by simp [go_sem], by simp [go_sem]⟩
  case round =>
    obtain ⟨k, cc, hk, rfl, rfl, HCc, HV⟩ := hrel
    have ⟨G, ⟨h1, f1, p1⟩, ⟨h2, f2, p2⟩, ⟨h3, f3, p3⟩, ⟨h4, f4, p4⟩⟩ := HV.out
    by_cases hlt : k < 9
    · have k0 : (0 : Int) ≤ (k : Int) := by omega
      have k1 : (k : Int) < 9 := by omega
      have ga := nw_get 9 a k hlt
      have gb := nw_get 9 b k hlt
      have gs := nw_get 9 (addS a b k) k hlt
      obtain ⟨x, hx⟩ : ∃ x, wd a k = x := ⟨_, rfl⟩
      obtain ⟨y, hy⟩ : ∃ y, wd b k = y := ⟨_, rfl⟩
      have hcc : cc ≤ 1 := by rw [HCc.out ()]; exact addC_le a b k
      have hxl : x < 18446744073709551616 := hx ▸ wd_lt a k
      have hyl : y < 18446744073709551616 := hy ▸ wd_lt b k
      obtain ⟨s, hs⟩ : ∃ s, (x + y) % 18446744073709551616 = s := ⟨_, rfl⟩
      obtain ⟨t, ht⟩ : ∃ t, (s + cc) % 18446744073709551616 = t := ⟨_, rfl⟩
      have w1 : IntKind.u64.wrap ((x : Int) + (y : Int)) = (s : Int) := by rw [IntKind.wrap_u64]; omega
      have w2 : IntKind.u64.wrap ((s : Int) + (cc : Int)) = (t : Int) := by rw [IntKind.wrap_u64]; omega
      have w3 : ((x : Int) + (y : Int)) % 18446744073709551616 = (s : Int) := by omega
      have w4 : ((s : Int) + (cc : Int)) % 18446744073709551616 = (t : Int) := by omega
      have hset := addS_next a b k t (by rw [hx, hy, ← HCc.out ()]; exact carry_sum x y cc s t hs ht)
      rw [hx] at ga
      rw [hy] at gb
      have ca : ∀ w', blk w' w.heap.size = nw 9 a → w'.cell? ⟨w.heap.size, k, none⟩ = some (.int .u64 (x : Int)) := fun w' h => by rw [cell_blk, h, ga]
      have ca1 := ca _ h1
      have cb1 : wr.cell? ⟨w.heap.size + 1, k, none⟩ = some (.int .u64 (y : Int)) := by rw [cell_blk, h2, gb]
      have cs1 : wr.cell? ⟨w.heap.size + 1 + 1 + 1, k, none⟩ = some (.int .u64 ((wd (addS a b k) k : Nat) : Int)) := by rw [cell_blk, h4, gs]
      have fz : wr.frozen? ⟨w.heap.size + 1 + 1 + 1, k, none⟩ = false := frozen_frz _ _ _ f4
      have hput : wr.setCell ⟨w.heap.size + 1 + 1 + 1, k, none⟩ (.int .u64 (t : Int)) = setBlk wr (w.heap.size + 1 + 1 + 1) (nw 9 (addS a b (k + 1))) := by rw [setCell_setBlk, h4, hset]
      clear ca
      by_cases hcy : s < x ∨ t < s
      · have HN : Hid (Unit → 1 = addC a b (k + 1)) := fun _ => by rw [addC_succ, hx, hy, ← HCc.out ()]; exact (carry_yes x y cc s t hxl hyl hcc hs ht hcy).symm
        by_cases h5 : s < x
        · have d6 : (s : Int) < (x : Int) := by omega
          clear hs ht hxl hyl hcc hx hy h5 hcy hset
          go_wp2_with fail
          go_quiet (fail)
          go_wp2_with fail
          go_roundw
          case rel =>
            refine ⟨k + 1, 1, by omega, by go_num, rfl, HN, ?_⟩
            obtain ⟨G, c1, c2, c3, c4⟩ := HV.out
            have gd := (Gr.refl (setBlk wr (w.heap.size + 1 + 1 + 1) (nw 9 (addS a b (k + 1))))).drewN nq
            exact ⟨(gr_setNew G (by omega)).trans gd, (c1.other (by omega)).gr gd, (c2.other (by omega)).gr gd, (c3.other (by omega)).gr gd, (c4.set _).gr gd⟩
          case measure => simp [intOf]; omega
        · have d6 : ¬ (s : Int) < (x : Int) := by omega
          have d7 : (t : Int) < (s : Int) := by omega
          clear hs ht hxl hyl hcc hx hy h5 hcy hset
          go_wp2_with fail
          go_quiet (fail)
          go_wp2_with fail
          go_roundw
          case rel =>
            refine ⟨k + 1, 1, by omega, by go_num, rfl, HN, ?_⟩
            obtain ⟨G, c1, c2, c3, c4⟩ := HV.out
            have gd := (Gr.refl (setBlk wr (w.heap.size + 1 + 1 + 1) (nw 9 (addS a b (k + 1))))).drewN nq
            exact ⟨(gr_setNew G (by omega)).trans gd, (c1.other (by omega)).gr gd, (c2.other (by omega)).gr gd, (c3.other (by omega)).gr gd, (c4.set _).gr gd⟩
          case measure => simp [intOf]; omega
      · have HN : Hid (Unit → 0 = addC a b (k + 1)) := fun _ => by rw [addC_succ, hx, hy, ← HCc.out ()]; exact (carry_no x y cc s t hxl hyl hcc hs ht hcy).symm
        have d6 : ¬ (s : Int) < (x : Int) := by omega
        have d7 : ¬ (t : Int) < (s : Int) := by omega
        clear hs ht hxl hyl hcc hx hy hcy hset
        go_wp2_with fail
        go_quiet (fail)
        go_wp2_with fail
        go_roundw
        case rel =>
          refine ⟨k + 1, 0, by omega, by go_num, rfl, HN, ?_⟩
          obtain ⟨G, c1, c2, c3, c4⟩ := HV.out
          have gd := (Gr.refl (setBlk wr (w.heap.size + 1 + 1 + 1) (nw 9 (addS a b (k + 1))))).drewN nq
          exact ⟨(gr_setNew G (by omega)).trans gd, (c1.other (by omega)).gr gd, (c2.other (by omega)).gr gd, (c3.other (by omega)).gr gd, (c4.set _).gr gd⟩
        case measure => simp [intOf]; omega
    · have hk9 : k = 9 := by omega
      subst hk9
      have HF' : Hid (addS a b 9 = a + b) := HF.out ()
      clear hlt hk
      go_wp2_with fail
      refine bodyPost_ret (res_one Try.results30 (rd_nat (x := addS a b 9) (by rfl) ?_)) rfl ⟨by rw [HF'.out], ?_⟩
      · simp [go_sem, *]
      · repeat (first | exact G | apply Gr.drewN | apply Gr.drew | apply Gr.alloc | apply Gr.gro | (refine gr_setNew ?_ (by omega)))

end Go.Proofs.Ytleckbdhebjfkaa
