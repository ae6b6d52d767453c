/-
  The statement HmacKeys, walked: it answers true for every number, key, text and int.
-/
import Derived.Test.YtcdkajfpllpgaaaDoorXD
import Derived.Test.YtcdkajfpllpgaaaDoorLG7
namespace Go.Proofs.YtcdkajfpllpgaaaDoor
open Go.RowKit
theorem xb_nz (s : ByteArray) (j i : Nat) : xb (s ++ nz j) i = xb s i := by
  by_cases c : i < s.size
  · exact xb_left s _ i c
  · rw [show i = s.size + (i - s.size) by omega, xb_right, xb_none s _ (by omega)]
    by_cases d : i - s.size < j
    · unfold nz
      exact xb_bt _ _ _ d (by decide)
    · exact xb_none _ _ (by rw [nz_size]; omega)
theorem hk_ge (id : Int) : 64 ≤ hk id := by rcases hk_or id with e | e <;> omega
theorem hk_le (id : Int) : hk id ≤ 128 := by rcases hk_or id with e | e <;> omega
/-- Noughts behind a short key are no other key. -/
theorem mac_short (id : Int) (K msg : ByteArray) (j : Nat) (h : K.size + j ≤ 64) : mac id (K ++ nz j) msg = mac id K msg := by
  have hg := hk_ge id
  have e1 : ky id (K ++ nz j) = K ++ nz j := by unfold ky; rw [if_neg (by rw [ByteArray.size_append, nz_size]; omega)]
  have e2 : ky id K = K := by unfold ky; rw [if_neg (by omega)]
  have e : ∀ x, pd id (K ++ nz j) x = pd id K x := fun x => by
    unfold pd
    rw [e1, e2]
    exact bt_ext _ _ _ fun i _ => by rw [xb_nz]
  unfold mac
  rw [e, e]
/-- A key longer than a block is its digest. -/
theorem mac_long {id z k : Int} (h : Hi id z k) (L msg : ByteArray) (hl : 129 ≤ L.size) : mac id (dig id L) msg = mac id L msg := by
  have hg := hk_le id
  have e1 : ky id L = dig id L := by unfold ky; rw [if_pos (by omega)]
  have hz := dig_size h L
  have e2 : ky id (dig id L) = dig id L := by
    unfold ky
    refine if_neg ?_
    have := hk_ge id
    rcases h with ⟨_, rfl, _⟩ | ⟨_, rfl, _⟩ | ⟨_, rfl, _⟩ | ⟨_, rfl, _⟩ <;> omega
  have e : ∀ x, pd id (dig id L) x = pd id L x := fun x => by
    unfold pd
    rw [e1, e2]
  unfold mac
  rw [e, e]
theorem and_15 (i : Int) : ∃ k : Nat, bits .and .i64 i 15 = (k : Int) ∧ k < 16 := by
  have h : (BitVec.ofInt 64 i &&& BitVec.ofInt 64 15).toNat ≤ 15 := by
    rw [BitVec.toNat_and]
    exact Nat.and_le_right
  refine ⟨(BitVec.ofInt 64 i &&& BitVec.ofInt 64 15).toNat, ?_, by omega⟩
  show IntKind.i64.wrap ((BitVec.ofInt 64 i &&& BitVec.ofInt 64 15).toNat : Int) = _
  rw [IntKind.wrap_i64]
  omega
attribute [local go_sem ↓] mkS_is cvS_is
set_option maxRecDepth 100000 in
set_option maxHeartbeats 1600000 in
theorem lxkeys_any (i : Int) (key msg : ByteArray) (more : Int) (hm : msg.size ≤ 140737488351232) (w : World) (hK : KK w) :
    Calls Tryd.prog 4 #[.int .i64 i, .string key, .string msg, .int .i64 more] w fun e w' => e = .returned (.bool true) ∧ Sm w w' := by
  have CN : Hid (∀ x w, Calls Tryd.prog 11 #[.int .i64 x] w fun e w' => e = .returned (.int .i64 x) ∧ w = w') := num7_any
  have CA : Hid (∀ w, KK w → Calls Tryd.prog 12 #[] w fun e w' => e = .returned (.bool true) ∧ Sm w w') := awake10_any
  have HK : Hid (KK w) := hK
  obtain ⟨p, hp, hp4⟩ := and_3 i
  obtain ⟨j, hj, hj16⟩ := and_15 more
  obtain ⟨z, kk, h, _, _, _⟩ := hi_of p hp4
  obtain ⟨K, hKs, hc⟩ : ∃ K : ByteArray, K.size ≤ 40 ∧ ((40 < key.size ∧ key.extract 0 40 = K) ∨ (¬ 40 < key.size ∧ key = K)) := by
    by_cases c : 40 < key.size
    · exact ⟨key.extract 0 40, by simp [ByteArray.size_extract]; omega, Or.inl ⟨c, rfl⟩⟩
    · exact ⟨key, by omega, Or.inr ⟨c, rfl⟩⟩
  have mk := fun w => mkS_run w .i64 .i64 j (by omega)
  have cv : ∀ w c, (cvS (.slice (some ⟨w.heap.size, 0, none⟩) j c)).run Tryd.prog (World.alloc w (.cells (br j fun _ => 0) 5)) = .ok (.string (nz j)) (World.alloc w (.cells (br j fun _ => 0) 5)) := fun w c => cvS_run (World.alloc w (.cells (br j fun _ => 0) 5)) w.heap.size 0 j c (fun _ => 0) fun i hi => by rw [Nat.zero_add]; exact ((Bk.new w _ _).cell i).trans (br_get j _ i hi)
  have mq : ∀ w, (mkS (.int .i64 129) (.int .i64 129)).run Tryd.prog w = _ := fun w => mkS_run w .i64 .i64 129 (by omega)
  have cq : ∀ w c, (cvS (.slice (some ⟨w.heap.size, 0, none⟩) 129 c)).run Tryd.prog (World.alloc w (.cells (br 129 fun _ => 0) 5)) = .ok (.string (nz 129)) (World.alloc w (.cells (br 129 fun _ => 0) 5)) := fun w c => cvS_run (World.alloc w (.cells (br 129 fun _ => 0) 5)) w.heap.size 0 129 c (fun _ => 0) fun i hi => by rw [Nat.zero_add]; exact ((Bk.new w _ _).cell i).trans (br_get 129 _ i hi)
  have hJs := nz_size j
  have hQs := nz_size 129
  have hKJ := ByteArray.size_append (a := K) (b := nz j)
  have hKQ := ByteArray.size_append (a := K) (b := nz 129)
  have eA := mac_short (1 + (p : Int)) K msg j (by omega)
  have eB := mac_long h (K ++ nz 129) msg (by omega)
  have hDs := dig_size h (K ++ nz 129)
  have hAs : ((mac (1 + (p : Int)) K msg).size : Int) = z := dig_size h _
  have hz64 : z ≤ 64 := by rcases h with ⟨_, rfl, _⟩ | ⟨_, rfl, _⟩ | ⟨_, rfl, _⟩ | ⟨_, rfl, _⟩ <;> omega
  have C1 : Hid (∀ w, KK w → Calls Tryd.prog 8 #[.int .i64 (1 + (p : Int)), .string K, .string msg] w fun e w' => e = .returned (.tuple #[.string (mac (1 + (p : Int)) K msg), .int .i64 0]) ∧ Sm w w') := fun w hw => mof_any _ z kk h K msg (by omega) (by omega) w hw
  have C2 : Hid (∀ w, KK w → Calls Tryd.prog 8 #[.int .i64 (1 + (p : Int)), .string (K ++ nz j), .string msg] w fun e w' => e = .returned (.tuple #[.string (mac (1 + (p : Int)) K msg), .int .i64 0]) ∧ Sm w w') := fun w hw => eA ▸ mof_any _ z kk h (K ++ nz j) msg (by omega) (by omega) w hw
  have C3 : Hid (∀ w, KK w → Calls Tryd.prog 8 #[.int .i64 (1 + (p : Int)), .string (K ++ nz 129), .string msg] w fun e w' => e = .returned (.tuple #[.string (mac (1 + (p : Int)) (K ++ nz 129) msg), .int .i64 0]) ∧ Sm w w') := fun w hw => mof_any _ z kk h (K ++ nz 129) msg (by omega) (by omega) w hw
  have C4 : Hid (∀ w, KK w → Calls Tryd.prog 16 #[.int .i64 (1 + (p : Int)), .string (K ++ nz 129)] w fun e w' => e = .returned (.tuple #[.string (dig (1 + (p : Int)) (K ++ nz 129)), .int .i64 0]) ∧ Sm w w') := fun w hw => hof_any _ z kk (K ++ nz 129) h (by omega) w hw
  have C5 : Hid (∀ w, KK w → Calls Tryd.prog 8 #[.int .i64 (1 + (p : Int)), .string (dig (1 + (p : Int)) (K ++ nz 129)), .string msg] w fun e w' => e = .returned (.tuple #[.string (mac (1 + (p : Int)) (K ++ nz 129) msg), .int .i64 0]) ∧ Sm w w') := fun w hw => eB ▸ mof_any _ z kk h (dig (1 + (p : Int)) (K ++ nz 129)) msg (by omega) (by omega) w hw
  have C6 : Hid (∀ w, Calls Tryd.prog 17 #[.int .i64 (1 + (p : Int))] w fun e w' => e = .returned (.int .i64 z) ∧ Sm w w') := hsize_any _ z kk h
  clear eA eB hDs
  generalize mac (1 + (p : Int)) K msg = A at *
  generalize mac (1 + (p : Int)) (K ++ nz 129) msg = B at *
  generalize dig (1 + (p : Int)) (K ++ nz 129) = D at *
  generalize nz j = J at *
  generalize nz 129 = Q at *
  have x1 : (K.size : Int) + (J.size : Int) ≤ 64 := by omega
  have x2 : (K.size : Int) + (Q.size : Int) ≤ 200 := by omega
  have j1 : (j : Int) < 16 := by omega
  have p1 : (p : Int) < 4 := by omega
  have hAe : ((A.size : Int) == z) = true := by simp; exact hAs
  clear h hK hm hKs hJs hQs hKJ hKQ hz64 hp4 hj16 hAs
  rcases hc with ⟨c, hE⟩ | ⟨c, hE⟩
  · have c1 : (40 : Int) < (key.size : Int) := by omega
    clear c
    go_enter Tryd.func4, Tryd.ntmps4
    go_wp2_with (first
      | (go_at_call 12; refine (CA.out _ HK.out).mono ?_; rintro e w1 ⟨rfl, S1⟩; have k1 := HK.out.sm S1)
      | (go_at_call_of 8 (Value.string K); refine (C1.out _ k1).mono ?_; rintro e w2 ⟨rfl, S2⟩; have k2 := (k1.sm S2).sm ((Sm.refl _).alloc (.cells (br j fun _ => 0) 5)))
      | (go_at_call_of 8 (Value.string (K ++ J)); refine (C2.out _ k2).mono ?_; rintro e w3 ⟨rfl, S3⟩; have k3 := (k2.sm S3).sm ((Sm.refl _).alloc (.cells (br 129 fun _ => 0) 5)))
      | (go_at_call_of 8 (Value.string (K ++ Q)); refine (C3.out _ k3).mono ?_; rintro e w4 ⟨rfl, S4⟩; have k4 := k3.sm S4)
      | (go_at_call 16; refine (C4.out _ k4).mono ?_; rintro e w5 ⟨rfl, S5⟩; have k5 := k4.sm S5)
      | (go_at_call_of 8 (Value.string D); refine (C5.out _ k5).mono ?_; rintro e w6 ⟨rfl, S6⟩)
      | (go_at_call 17; refine (C6.out _).mono ?_; rintro e w7 ⟨rfl, S7⟩)
      | (go_at_call 11; refine (CN.out _ _).mono ?_; rintro e w' ⟨rfl, rfl⟩))
    go_ret
    exact ⟨rfl, (((((((S1.trans S2).alloc _).trans S3).alloc _).trans S4).trans S5).trans S6).trans S7⟩
  · subst hE
    have c1 : ¬ (40 : Int) < (key.size : Int) := by omega
    clear c
    go_enter Tryd.func4, Tryd.ntmps4
    go_wp2_with (first
      | (go_at_call 12; refine (CA.out _ HK.out).mono ?_; rintro e w1 ⟨rfl, S1⟩; have k1 := HK.out.sm S1)
      | (go_at_call_of 8 (Value.string key); refine (C1.out _ k1).mono ?_; rintro e w2 ⟨rfl, S2⟩; have k2 := (k1.sm S2).sm ((Sm.refl _).alloc (.cells (br j fun _ => 0) 5)))
      | (go_at_call_of 8 (Value.string (key ++ J)); refine (C2.out _ k2).mono ?_; rintro e w3 ⟨rfl, S3⟩; have k3 := (k2.sm S3).sm ((Sm.refl _).alloc (.cells (br 129 fun _ => 0) 5)))
      | (go_at_call_of 8 (Value.string (key ++ Q)); refine (C3.out _ k3).mono ?_; rintro e w4 ⟨rfl, S4⟩; have k4 := k3.sm S4)
      | (go_at_call 16; refine (C4.out _ k4).mono ?_; rintro e w5 ⟨rfl, S5⟩; have k5 := k4.sm S5)
      | (go_at_call_of 8 (Value.string D); refine (C5.out _ k5).mono ?_; rintro e w6 ⟨rfl, S6⟩)
      | (go_at_call 17; refine (C6.out _).mono ?_; rintro e w7 ⟨rfl, S7⟩)
      | (go_at_call 11; refine (CN.out _ _).mono ?_; rintro e w' ⟨rfl, rfl⟩))
    go_ret
    exact ⟨rfl, (((((((S1.trans S2).alloc _).trans S3).alloc _).trans S4).trans S5).trans S6).trans S7⟩
end Go.Proofs.YtcdkajfpllpgaaaDoor
