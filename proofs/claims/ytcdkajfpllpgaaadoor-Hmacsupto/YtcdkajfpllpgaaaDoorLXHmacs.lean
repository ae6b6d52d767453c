/-
  The statement Hmacs, walked: it answers true for every number, any key and any two texts of 2^47 - 4224 bytes together.
-/
import Derived.Test.YtcdkajfpllpgaaaDoorXD
namespace Go.Proofs.YtcdkajfpllpgaaaDoor
open Go.RowKit
set_option maxRecDepth 100000 in
set_option maxHeartbeats 1600000 in
theorem lxhmacs_any (id : Int) (key a b : ByteArray) (hky : key.size ≤ 140737488351232) (hs : a.size + b.size + 128 ≤ 140737488351232) (w : World) (hK : KK w) :
    Calls Tryd.prog 3 #[.int .i64 id, .string key, .string a, .string b] w fun e w' => e = .returned (.bool true) ∧ Sm w w' := by
  have CN : Hid (∀ x w, Calls Tryd.prog 11 #[.int .i64 x] w fun e w' => e = .returned (.int .i64 x) ∧ w = w') := num7_any
  have CA : Hid (∀ w, KK w → Calls Tryd.prog 12 #[] w fun e w' => e = .returned (.bool true) ∧ Sm w w') := awake10_any
  have HK : Hid (KK w) := hK
  have hab : (a.size : Int) + (b.size : Int) ≤ 140737488351232 := by omega
  rcases hi_or id with h | ⟨z, k, h⟩
  · have C1 : Hid (∀ s w, Calls Tryd.prog 8 #[.int .i64 id, .string key, .string s] w fun e w' => e = .returned (.tuple #[.string .empty, .int .i64 1000]) ∧ Sm w w') := fun s w => mof_no id key s h w
    have C2 : Hid (∀ w, Calls Tryd.prog 9 #[.int .i64 id, .string key] w fun e w' => e = .returned (.tuple #[.pointer none, .int .i64 1000]) ∧ Sm w w') := fun w => mnew_no id key h w
    have C5 : Hid (∀ w, Calls Tryd.prog 10 #[.int .i64 id] w fun e w' => e = .returned (.int .i64 0) ∧ w = w') := rsize_no id h
    clear h hs hK hky
    go_enter Tryd.func3, Tryd.ntmps3
    go_wp2_with (first
      | (go_at_call 8; refine (C1.out _ _).mono ?_; rintro e w1 ⟨rfl, S1⟩)
      | (go_at_call 9; refine (C2.out _).mono ?_; rintro e w2 ⟨rfl, S2⟩; have S14 := S1.trans S2)
      | (go_at_call 10; refine (C5.out _).mono ?_; rintro e w' ⟨rfl, rfl⟩)
      | (go_at_call 11; refine (CN.out _ _).mono ?_; rintro e w' ⟨rfl, rfl⟩)
      | (go_at_call 12; refine (CA.out _ (HK.out.sm S14)).mono ?_; rintro e w5 ⟨rfl, S5⟩))
    go_ret
    exact ⟨rfl, S14.trans S5⟩
  · have hsz : (a ++ b).size = a.size + b.size := ByteArray.size_append
    have hO : (pd id key 92).size ≤ 128 := by rw [pd_size]; rcases hk_or id with e | e <;> omega
    have hI : (pd id key 54).size ≤ 128 := by rw [pd_size]; rcases hk_or id with e | e <;> omega
    have hM1 : dig id (pd id key 92 ++ dig id (pd id key 54 ++ a)) = mac id key a := rfl
    have hM2 : dig id (pd id key 92 ++ dig id (pd id key 54 ++ (a ++ b))) = mac id key (a ++ b) := rfl
    have C1 : Hid (∀ w, KK w → Calls Tryd.prog 8 #[.int .i64 id, .string key, .string (a ++ b)] w fun e w' => e = .returned (.tuple #[.string (mac id key (a ++ b)), .int .i64 0]) ∧ Sm w w') := fun w hw => mof_any id z k h key (a ++ b) (by omega) (by omega) w hw
    have C2 : Hid (∀ w, KK w → Calls Tryd.prog 9 #[.int .i64 id, .string key] w fun e w' => ∃ m b, e = .returned (.tuple #[.pointer (some ⟨m, 0, none⟩), .int .i64 0]) ∧ w.heap.size ≤ m ∧ w.heap.size ≤ b ∧ Mc w' m b id (pd id key 92) (pd id key 54) ∧ Sm w w') := mnew_any id z k h key (by omega)
    have C5 : Hid (∀ w, Calls Tryd.prog 10 #[.int .i64 id] w fun e w' => e = .returned (.int .i64 z) ∧ w = w') := rsizeA_any id z k h
    have C11 : Hid (∀ w, Calls Tryd.prog 15 #[.int .i64 id, .string key, .string a] w fun e w' => e = .returned (.string (mac id key a)) ∧ Sm w w') := fun w => rhmac_any id z k h key a (by omega) (by omega) w
    have C12 : Hid (∀ w, Calls Tryd.prog 15 #[.int .i64 id, .string key, .string (a ++ b)] w fun e w' => e = .returned (.string (mac id key (a ++ b))) ∧ Sm w w') := fun w => rhmac_any id z k h key (a ++ b) (by omega) (by omega) w
    generalize mac id key a = A at *
    generalize mac id key (a ++ b) = B at *
    generalize pd id key 92 = O at *
    generalize pd id key 54 = I at *
    have hIa : (I ++ a).size = I.size + a.size := ByteArray.size_append
    have hIab : (I ++ (a ++ b)).size = I.size + (a ++ b).size := ByteArray.size_append
    have C7 : Hid (∀ m c w, KK w → Nc c → Mc w m c id O I → Calls Tryd.prog 13 #[.pointer (some ⟨m, 0, none⟩), .string a] w fun e w' => e = .returned (.int .i64 0) ∧ Kp (At1 c) w w' ∧ Mc w' m c id O (I ++ a)) := fun m c w h1 h2 h3 => mwrite_any m c id O I a (by omega) w h1 h2 h3
    have C8 : Hid (∀ m c w, KK w → Nc c → Mc w m c id O (I ++ a) → Calls Tryd.prog 13 #[.pointer (some ⟨m, 0, none⟩), .string b] w fun e w' => e = .returned (.int .i64 0) ∧ Kp (At1 c) w w' ∧ Mc w' m c id O (I ++ (a ++ b))) := fun m c w h1 h2 h3 => by
      rw [← app_assoc]
      exact mwrite_any m c id O (I ++ a) b (by omega) w h1 h2 h3
    have C9 : Hid (∀ m c w, KK w → Mc w m c id O (I ++ a) → Calls Tryd.prog 14 #[.pointer (some ⟨m, 0, none⟩)] w fun e w' => e = .returned (.string A) ∧ Sm w w') := fun m c w h1 h2 => hM1 ▸ msum_any m c id z k h O (I ++ a) hO (by omega) w h1 h2
    have C10 : Hid (∀ m c w, KK w → Mc w m c id O (I ++ (a ++ b)) → Calls Tryd.prog 14 #[.pointer (some ⟨m, 0, none⟩)] w fun e w' => e = .returned (.string B) ∧ Sm w w') := fun m c w h1 h2 => hM2 ▸ msum_any m c id z k h O (I ++ (a ++ b)) hO (by omega) w h1 h2
    have z0 : (z == 0) = false := by rcases h with ⟨_, rfl, _⟩ | ⟨_, rfl, _⟩ | ⟨_, rfl, _⟩ | ⟨_, rfl, _⟩ <;> rfl
    clear h hs hK hM1 hM2 hsz hky hO hI hIa hIab
    go_enter Tryd.func3, Tryd.ntmps3
    go_wp2_with (first
      | (go_at_call 8; refine (C1.out _ HK.out).mono ?_; rintro e w1 ⟨rfl, S1⟩; have k1 := HK.out.sm S1)
      | (go_at_call 9; refine (C2.out _ k1).mono ?_; rintro e w2 ⟨m, c, rfl, hm, hc, H2, S2⟩; have S14 := S1.trans S2; have k4 := HK.out.sm S14; have hn := k1.nc hc)
      | (go_at_call 10; refine (C5.out _).mono ?_; rintro e w' ⟨rfl, rfl⟩)
      | (go_at_call 13; first | (refine (C8.out _ _ _ k6 hn H6).mono ?_; rintro e w7 ⟨rfl, K7, H7⟩; have k7 := k6.at1 K7 hn) | (refine (C7.out _ _ _ k4 hn H2).mono ?_; rintro e w5 ⟨rfl, K5, H5⟩; have k5 := k4.at1 K5 hn))
      | (go_at_call 14; first | (refine (C10.out _ _ _ k8 H8).mono ?_; rintro e w9 ⟨rfl, S9⟩; have k9 := k8.sm S9) | (refine (C9.out _ _ _ k5 H5).mono ?_; rintro e w6 ⟨rfl, S6⟩; have k6 := k5.sm S6; have H6 := H5.sm S6))
      | (go_at_call_of 15 (Value.string a); refine (C11.out _).mono ?_; rintro e w8 ⟨rfl, S8⟩; have k8 := k7.sm S8; have H8 := H7.sm S8)
      | (go_at_call_of 15 (Value.string (a ++ b)); refine (C12.out _).mono ?_; rintro e w10 ⟨rfl, S10⟩; have k10 := k9.sm S10)
      | (go_at_call 11; refine (CN.out _ _).mono ?_; rintro e w' ⟨rfl, rfl⟩)
      | (go_at_call 12; refine (CA.out _ k10).mono ?_; rintro e w11 ⟨rfl, S11⟩))
    go_ret
    have hle : w.heap.size ≤ c := Nat.le_trans S1.size hc
    exact ⟨rfl, Sm.of ((((((((S14.kp _).trans (K5.fr hle)).trans (S6.kp _)).trans (K7.fr hle)).trans (S8.kp _)).trans (S9.kp _)).trans (S10.kp _)).trans (S11.kp _))⟩
end Go.Proofs.YtcdkajfpllpgaaaDoor
