/-
  The documents' numbers: Nat and Wide.
-/
import Derived.Shelf.Bits.Mul64
import Derived.Test.YtleckbdhebjfkaaZSl
namespace Go.Proofs.Ytleckbdhebjfkaa
open Go.RowKit
attribute [local go_sem ↓] loadNat_is loadArr_is loadWide_is loadArrW_is storeNat_is storeWide_is
attribute [local go_sem] loadNat loadArr loadWide loadArrW storeNat storeWide idxArr fold9 fold18 nw_size nw_elem pre_self pre_1 pre_2 pre_3 pre_4 pre_5 pre_6 pre_7 pre_8 pre_9 pre_10 pre_11 pre_12 pre_13 pre_14 pre_15 pre_16 pre_17 pre_18 pre_19 pre_20 pre_21 pre_22 pre_23 pre_24 pre_25 pre_26 pre_27 pre_28 pre_29 pre_30 pre_31 pre_32 pre_33 pre_34 pre_35 pre_36 pre_37 pre_38 pre_39 pre_40 gro_size gro_drew gro_drewN drew_gro drewN_gro gro_gro blk_gro frz_gro blk_drew frz_drew blk_drewN frz_drewN blk_alloc_at frz_alloc_at blk_alloc frz_alloc cell_gro frozen_gro cell_alloc_pre frozen_alloc_pre setCell_drewN alloc_drewN setBlk_drew setBlk_drewN setBlk_alloc_at setBlk_alloc setBlk_gro setCell_gro setCell_alloc_pre size_setBlk size_setCell
theorem digits_in (w : World) (p : Option Addr) (x n : Nat) (h : Sl w p x) : ∀ (i : Int) (j : Nat) (v : World), i = (j : Int) → Gr w v → Calls Try.prog 38 #[.slice p (dl x) n, .int .i64 i] v fun e w' => e = .returned (.int .u64 ((dg x j : Nat) : Int)) ∧ w' = v := fun i j v e g => by
  subst e
  exact digit_any v p x n j (h.gr g)
theorem wd_mod (x n k : Nat) (h : k < n) : wd (x % pw n) k = wd x k := by
  obtain ⟨d, rfl⟩ : ∃ d, n = k + 1 + d := ⟨n - (k + 1), by omega⟩
  unfold wd
  rw [pw_add, pow_succ64, Nat.mul_assoc, Nat.mod_mul_right_div_self, Nat.mod_mul_right_mod]
theorem nw_mod (x n : Nat) : nw n (x % pw n) = nw n x := by
  apply Array.ext_getElem?
  intro j
  by_cases hj : j < n
  · rw [nw_get _ _ _ hj, nw_get _ _ _ hj, wd_mod x n j hj]
  · rw [Array.getElem?_eq_none (by rw [nw_size]; omega), Array.getElem?_eq_none (by rw [nw_size]; omega)]
theorem or_word (x k : Nat) : bits BinOp.or IntKind.u64 ((dg x (2 * k) : Nat) : Int) (IntKind.u64.wrap (((dg x (2 * k + 1) : Nat) : Int) * 4294967296)) = ((wd x k : Nat) : Int) := by
  have h0 := dg_lt x (2 * k)
  have h1 := dg_lt x (2 * k + 1)
  rw [wd_two]
  generalize dg x (2 * k) = d at *
  generalize dg x (2 * k + 1) = e at *
  have e1 : IntKind.u64.wrap ((e : Int) * 4294967296) = ((e * 4294967296 : Nat) : Int) := by rw [IntKind.wrap_u64]; omega
  rw [e1, bits_or_u64_nat d (e * 4294967296) (by omega) (by omega)]
  have e2 := Nat.two_pow_add_eq_or_of_lt (i := 32) (b := d) h0 e
  rw [Nat.or_comm, show e * 4294967296 = 2 ^ 32 * e from Nat.mul_comm _ _, ← e2, Nat.add_comm]
set_option maxRecDepth 100000 in
set_option maxHeartbeats 800000 in
theorem rnat_any (x n : Nat) (p : Option Addr) (w : World) (h : Sl w p x) : Calls Try.prog 23 #[.slice p (dl x) n] w fun e w' => e = .returned (.agg (nw 9 x)) ∧ Gr w w' := by
  have cd := digits_in w p x n h
  obtain ⟨L, hL⟩ : ∃ L, dl x = L := ⟨_, rfl⟩
  rw [hL] at cd ⊢
  have CD : Hid (∀ (i : Int) (j : Nat) (v : World), i = (j : Int) → Gr w v → Calls Try.prog 38 #[.slice p L n, .int .i64 i] v fun e w' => e = .returned (.int .u64 ((dg x j : Nat) : Int)) ∧ w' = v) := cd
  clear cd h hL
  go_enter Try.func23, Try.ntmps23
  go_wp2
  go_loopw [4] (fun i wr => ∃ k : Nat, k ≤ 9 ∧ i = .int .i64 (k : Int) ∧ wr = (w.alloc (.cells (nw 9 0) 25)).alloc (.cells (nw 9 (x % pw k)) 25)) (fun i _ => 9 - (intOf i).toNat)
  case atStart => exact ⟨0, by omega, rfl, by rw [pw_zero, Nat.mod_one]⟩
  case round =>
    obtain ⟨k, hk, rfl, rfl⟩ := hrel
    by_cases hlt : k < 9
    · have k0 : (0 : Int) ≤ (k : Int) := by omega
      have k1 : (k : Int) < 9 := by omega
      obtain ⟨V, hV⟩ : ∃ V, x % pw k = V := ⟨_, rfl⟩
      rw [hV]
      have gV := nw_get 9 V k (by omega)
      have HV : Hid (Unit → x % pw k = V) := fun _ => hV
      clear hV
      go_wp2_with (first
        | (go_at_call 38; refine (CD.out _ (2 * k) _ ?_ ?_).mono ?_; omega; exact (by repeat (first | exact Gr.refl _ | apply Gr.drewN | apply Gr.drew | apply Gr.alloc | apply Gr.gro)); rintro e w' ⟨rfl, rfl⟩)
        | (go_at_call 38; refine (CD.out _ (2 * k + 1) _ ?_ ?_).mono ?_; omega; exact (by repeat (first | exact Gr.refl _ | apply Gr.drewN | apply Gr.drew | apply Gr.alloc | apply Gr.gro)); rintro e w' ⟨rfl, rfl⟩))
      go_roundw
      case rel =>
        refine ⟨k + 1, by omega, by go_num, ?_⟩
        rw [or_word, nw_set_top 9 V k _ (wd_lt x k) (by rw [← HV.out ()]; exact Nat.mod_lt _ (pw_pos k)), mod_succ, HV.out ()]
      case measure => simp [intOf]; omega
    · have hk9 : Hid (Unit → k = 9) := fun _ => by omega
      obtain ⟨V, hV⟩ : ∃ V, x % pw k = V := ⟨_, rfl⟩
      have HV : Hid (Unit → nw 9 V = nw 9 x) := fun _ => by rw [← hV, hk9.out (), nw_mod]
      have ki : ¬ (k : Int) < 9 := by omega
      rw [hV]
      clear hV hlt hk
      go_wp2
      exact bodyPost_ret (v := .agg (nw 9 V)) (by simp [results, Try.results23, go_sem, nw9_lit]) rfl ⟨by rw [HV.out ()], (by repeat (first | exact Gr.refl _ | apply Gr.drewN | apply Gr.drew | apply Gr.alloc | apply Gr.gro))⟩

end Go.Proofs.Ytleckbdhebjfkaa
