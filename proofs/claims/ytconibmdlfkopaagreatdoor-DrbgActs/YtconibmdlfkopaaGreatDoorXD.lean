/-
  hmac's Of; the documents' xor and Hmac; the statements' awake.
-/
import Derived.Test.YtconibmdlfkopaaGreatDoorXC
namespace Go.Proofs.YtconibmdlfkopaaGreatDoor
open Go.RowKit
set_option maxRecDepth 100000 in
set_option maxHeartbeats 1600000 in
theorem mof_any (id z k : Int) (h : Hi id z k) (key msg : ByteArray) (hk1 : key.size < 2305843009213693952) (hm : msg.size < 1152921504606846976) (w : World) (hK : KK w) :
    Calls Tryz.prog 22 #[.int .i64 id, .string key, .string msg] w fun e w' => e = .returned (.tuple #[.string (mac id key msg), .int .i64 0]) ∧ Sm w w' := by
  have HK : Hid (KK w) := hK
  have hO : (pd id key 92).size ≤ 128 := by rw [pd_size]; rcases hk_or id with e | e <;> omega
  have hI : (pd id key 54).size ≤ 128 := by rw [pd_size]; rcases hk_or id with e | e <;> omega
  have C1 : Hid (∀ w, KK w → Calls Tryz.prog 34 #[.int .i64 id, .string key] w fun e w' => ∃ m b, e = .returned (.tuple #[.pointer (some ⟨m, 0, none⟩), .int .i64 0]) ∧ w.heap.size ≤ m ∧ w.heap.size ≤ b ∧ Mc w' m b id (pd id key 92) (pd id key 54) ∧ Sm w w') := mnew_any id z k h key hk1
  have hMac : dig id (pd id key 92 ++ dig id (pd id key 54 ++ msg)) = mac id key msg := rfl
  generalize mac id key msg = A at *
  generalize pd id key 92 = O at *
  generalize pd id key 54 = I at *
  have hIm : (I ++ msg).size < 2305843009213693952 := by rw [ByteArray.size_append]; omega
  have C2 : Hid (∀ m b w, KK w → Nc b → Mc w m b id O I → Calls Tryz.prog 35 #[.pointer (some ⟨m, 0, none⟩), .string msg] w fun e w' => e = .returned (.int .i64 0) ∧ Kp (At1 b) w w' ∧ Mc w' m b id O (I ++ msg)) := fun m b w h1 h2 h3 => mwrite_any m b id O I msg (by omega) w h1 h2 h3
  have C3 : Hid (∀ m b w, KK w → Mc w m b id O (I ++ msg) → Calls Tryz.prog 36 #[.pointer (some ⟨m, 0, none⟩)] w fun e w' => e = .returned (.string A) ∧ Sm w w') := fun m b w h1 h2 => hMac ▸ msum_any m b id z k h O (I ++ msg) hO hIm w h1 h2
  clear h hk1 hm hK hO hI hMac hIm
  go_enter Tryz.func22, Tryz.ntmps22
  go_wp2_with (first
    | (go_at_call 34; refine (C1.out _ HK.out).mono ?_; rintro e w1 ⟨m, b, rfl, hm, hb, H1, S1⟩; have k1 := HK.out.sm S1; have hnc := HK.out.nc hb)
    | (go_at_call 35; refine (C2.out _ _ _ k1 hnc H1).mono ?_; rintro e w2 ⟨rfl, K2, H2⟩; have k2 := k1.at1 K2 hnc)
    | (go_at_call 36; refine (C3.out _ _ _ k2 H2).mono ?_; rintro e w3 ⟨rfl, S3⟩))
  go_ret2
  exact ⟨rfl, Sm.of (((S1.kp _).trans (K2.fr hb)).trans (S3.kp _))⟩
set_option maxRecDepth 100000 in
set_option maxHeartbeats 800000 in
theorem mof_no (id : Int) (key msg : ByteArray) (h : id ≤ 0 ∨ 5 ≤ id) (w : World) :
    Calls Tryz.prog 22 #[.int .i64 id, .string key, .string msg] w fun e w' => e = .returned (.tuple #[.string .empty, .int .i64 1000]) ∧ Sm w w' := by
  have C1 : Hid (∀ w, Calls Tryz.prog 34 #[.int .i64 id, .string key] w fun e w' => e = .returned (.tuple #[.pointer none, .int .i64 1000]) ∧ Sm w w') := mnew_no id key h
  clear h
  go_enter Tryz.func22, Tryz.ntmps22
  go_wp2_with (go_at_call 34; refine (C1.out _).mono ?_; rintro e w1 ⟨rfl, S1⟩)
  go_ret2
  exact ⟨rfl, S1⟩
/-! ### the documents' side -/
attribute [local go_sem ↓] mkS_is cvS_is copyT_is
/-- A row of which the first k bytes are xored. -/
def pz (f : Nat → Nat) (x k : Nat) (j : Nat) : Nat := if j < k then f j ^^^ x else f j
/-- The rest of xor: behind the copy. -/
theorem pz_zero (f : Nat → Nat) (x : Nat) : pz f x 0 = f := by
  funext j
  unfold pz
  rw [if_neg (by omega)]
theorem pz_step (n : Nat) (f : Nat → Nat) (x k : Nat) : (br n (pz f x k)).setIfInBounds k (.int .u8 ((f k ^^^ x : Nat) : Int)) = br n (pz f x (k + 1)) := by
  refine br_put n _ _ k _ ?_ fun i hi hne => ?_
  · unfold pz
    rw [if_pos (by omega)]
  · unfold pz
    by_cases d : i < k
    · rw [if_pos d, if_pos (by omega)]
    · rw [if_neg d, if_neg (by omega)]
set_option maxRecDepth 100000 in
set_option maxHeartbeats 1600000 in
theorem rxor_any (id z k : Int) (h : Hi id z k) (key : ByteArray) (x : Nat) (hx : x < 256) (hl : key.size ≤ 140737488351232) (w : World) :
    Calls Tryz.prog 46 #[.int .i64 id, .string key, .int .u8 (x : Int)] w fun e w' => e = .returned (.string (pd id key x)) ∧ Sm w w' := by
  have hs := ky_size h key
  obtain ⟨n, hn⟩ : ∃ n, hk id = n := ⟨_, rfl⟩
  have hk' := h.hk
  rw [hn] at hs hk'
  subst hk'
  have hn2 := hk_or id
  rw [hn] at hn2
  have CB : Hid (∀ w, Calls Tryz.prog 58 #[.int .i64 id] w fun e w' => e = .returned (.int .i64 (n : Int)) ∧ w = w') := fun w => rblockA_any id z n h w
  have CO : Hid (∀ w, Calls Tryz.prog 45 #[.int .i64 id, .string key] w fun e w' => e = .returned (.string (dig id key)) ∧ Sm w w') := fun w => rofA_any id z n h key hl w
  have mk := fun w => mkS_run w .i64 .i64 n (by omega)
  have n0 : (0 : Int) ≤ (n : Int) := by omega
  have n1 : (n : Int) ≤ 128 := by omega
  have HN : Hid (0 < n) := show 0 < n by omega
  have HX : Hid (x < 256) := hx
  have hpd : pd id key x = bt (fun i => xb (ky id key) i ^^^ x) n := by unfold pd; rw [hn]
  rw [hpd]
  have hky : (n < key.size ∧ ky id key = dig id key) ∨ (¬ n < key.size ∧ ky id key = key) := by
    unfold ky
    rw [hn]
    by_cases c : n < key.size
    · exact Or.inl ⟨c, if_pos c⟩
    · exact Or.inr ⟨c, if_neg c⟩
  clear hpd h hl hx hn2 hn
  generalize ky id key = K at *
  have HS : Hid (K.size ≤ n) := hs
  clear hs
  rcases hky with ⟨c, hD⟩ | ⟨c, hD⟩
  · subst hD
    generalize dig id key = K at *
    have c1 : (n : Int) < (key.size : Int) := by omega
    clear c
    go_enter Tryz.func46, Tryz.ntmps46
    go_wp2_with (first
      | (go_at_call 58; refine (CB.out _).mono ?_; rintro e w' ⟨rfl, rfl⟩)
      | (go_at_call 45; refine (CO.out _).mono ?_; rintro e w1 ⟨rfl, S1⟩; have b1 := Bk.new w1 (br n fun _ => 0) 5; have cp := fun ty c => copy_key ty _ w1.heap.size n c 5 K b1 HS.out HN.out))
    have b2 := b1.put (br n (xb K))
    have K2 : Kp (Fr w.heap.size) w (setBlk _ w1.heap.size (br n (xb K))) := ((S1.kp _).alloc (.cells (br n fun _ => 0) 5)).put w1.heap.size (br n (xb K)) S1.size
    have hg := S1.size
    generalize w1.heap.size = g at *
    generalize setBlk _ g (br n (xb K)) = v at *
    clear b1 cp mk S1 CO CB c1
    go_loopw [8] (fun i u => ∃ k : Nat, k ≤ n ∧ i = .int .i64 (k : Int) ∧ Bk u g (br n (pz (xb K) x k)) 5 ∧ Kp (Fr w.heap.size) w u) (fun i _ => n - (intOf i).toNat)
    case atStart => exact ⟨0, by omega, rfl, by rw [pz_zero]; exact b2, K2⟩
    case round =>
      clear b2 K2
      obtain ⟨k, hk, rfl, b1, K1⟩ := hrel
      by_cases c : k < n
      · have k0 : (0 : Int) ≤ (k : Int) := by omega
        have k1 : (k : Int) < (n : Int) := by omega
        have ev : pz (xb K) x k k = xb K k := by unfold pz; rw [if_neg (by omega)]
        have c2 := (b1.cell k).trans (br_get n _ k c)
        rw [ev] at c2
        have f2 := b1.fz k
        have HE : Hid (Unit → _) := fun (_ : Unit) => u8_xor_nat (xb K k) x (xb_lt K k) HX.out
        clear ev
        go_wp2
        go_roundw
        case rel =>
          refine ⟨k + 1, by omega, by go_num, (b1.set k _).cast ?_, K1.setCell _ _ hg⟩
          rw [HE.out ()]
          exact pz_step n _ _ _
        case measure => simp [intOf]; omega
      · have ki : ¬ (k : Int) < (n : Int) := by omega
        have cv := fun c => cvS_run _ g 0 n c (pz (xb K) x k) fun i hi => by rw [Nat.zero_add]; exact (b1.cell i).trans (br_get n _ i hi)
        have HE : Hid (Unit → bt (pz (xb K) x k) n = bt (fun i => xb K i ^^^ x) n) := fun _ => bt_ext _ _ _ fun i hi => by unfold pz; rw [if_pos (by omega)]
        clear c hk
        go_wp2
        go_ret
        exact ⟨congrArg (fun z => Ending.returned (Value.string z)) (HE.out ()), Sm.of K1⟩
  · subst hD
    have c1 : ¬ (n : Int) < (K.size : Int) := by omega
    clear c CO
    go_enter Tryz.func46, Tryz.ntmps46
    have b1 := Bk.new w (br n fun _ => 0) 5
    have cp := fun ty c => copy_key ty _ w.heap.size n c 5 _ b1 HS.out HN.out
    go_wp2_with (go_at_call 58; refine (CB.out _).mono ?_; rintro e w' ⟨rfl, rfl⟩)
    have b2 := b1.put (br n (xb K))
    have K2 : Kp (Fr w.heap.size) w (setBlk _ w.heap.size (br n (xb K))) := ((Kp.refl _ w).alloc (.cells (br n fun _ => 0) 5)).put w.heap.size (br n (xb K)) (Nat.le_refl _)
    obtain ⟨g, hge⟩ : ∃ g, w.heap.size = g := ⟨_, rfl⟩
    have hg : w.heap.size ≤ g := by omega
    generalize setBlk _ w.heap.size (br n (xb K)) = v at *
    rw [hge] at b2 ⊢
    clear b1 cp mk CB c1 hge
    go_loopw [8] (fun i u => ∃ k : Nat, k ≤ n ∧ i = .int .i64 (k : Int) ∧ Bk u g (br n (pz (xb K) x k)) 5 ∧ Kp (Fr w.heap.size) w u) (fun i _ => n - (intOf i).toNat)
    case atStart => exact ⟨0, by omega, rfl, by rw [pz_zero]; exact b2, K2⟩
    case round =>
      clear b2 K2
      obtain ⟨k, hk, rfl, b1, K1⟩ := hrel
      by_cases c : k < n
      · have k0 : (0 : Int) ≤ (k : Int) := by omega
        have k1 : (k : Int) < (n : Int) := by omega
        have ev : pz (xb K) x k k = xb K k := by unfold pz; rw [if_neg (by omega)]
        have c2 := (b1.cell k).trans (br_get n _ k c)
        rw [ev] at c2
        have f2 := b1.fz k
        have HE : Hid (Unit → _) := fun (_ : Unit) => u8_xor_nat (xb K k) x (xb_lt K k) HX.out
        clear ev
        go_wp2
        go_roundw
        case rel =>
          refine ⟨k + 1, by omega, by go_num, (b1.set k _).cast ?_, K1.setCell _ _ hg⟩
          rw [HE.out ()]
          exact pz_step n _ _ _
        case measure => simp [intOf]; omega
      · have ki : ¬ (k : Int) < (n : Int) := by omega
        have cv := fun c => cvS_run _ g 0 n c (pz (xb K) x k) fun i hi => by rw [Nat.zero_add]; exact (b1.cell i).trans (br_get n _ i hi)
        have HE : Hid (Unit → bt (pz (xb K) x k) n = bt (fun i => xb K i ^^^ x) n) := fun _ => bt_ext _ _ _ fun i hi => by unfold pz; rw [if_pos (by omega)]
        clear c hk
        go_wp2
        go_ret
        exact ⟨congrArg (fun z => Ending.returned (Value.string z)) (HE.out ()), Sm.of K1⟩
set_option maxRecDepth 100000 in
set_option maxHeartbeats 800000 in
theorem rhmac_any (id z k : Int) (h : Hi id z k) (key msg : ByteArray) (hl : key.size ≤ 140737488351232) (hm : msg.size + 128 ≤ 140737488351232) (w : World) :
    Calls Tryz.prog 33 #[.int .i64 id, .string key, .string msg] w fun e w' => e = .returned (.string (mac id key msg)) ∧ Sm w w' := by
  have hO : (pd id key 92).size ≤ 128 := by rw [pd_size]; rcases hk_or id with e | e <;> omega
  have hI : (pd id key 54).size ≤ 128 := by rw [pd_size]; rcases hk_or id with e | e <;> omega
  have C1 : Hid (∀ w, Calls Tryz.prog 46 #[.int .i64 id, .string key, .int .u8 92] w fun e w' => e = .returned (.string (pd id key 92)) ∧ Sm w w') := fun w => rxor_any id z k h key 92 (by decide) hl w
  have C2 : Hid (∀ w, Calls Tryz.prog 46 #[.int .i64 id, .string key, .int .u8 54] w fun e w' => e = .returned (.string (pd id key 54)) ∧ Sm w w') := fun w => rxor_any id z k h key 54 (by decide) hl w
  have hMac : dig id (pd id key 92 ++ dig id (pd id key 54 ++ msg)) = mac id key msg := rfl
  generalize mac id key msg = A at *
  generalize pd id key 92 = O at *
  generalize pd id key 54 = I at *
  have hIm : (I ++ msg).size = I.size + msg.size := ByteArray.size_append
  obtain ⟨D, hD⟩ : ∃ D, dig id (I ++ msg) = D := ⟨_, rfl⟩
  rw [hD] at hMac
  have hDz := dig_size h (I ++ msg)
  rw [hD] at hDz
  have hDs : D.size ≤ 64 := by rcases h with ⟨_, rfl, _⟩ | ⟨_, rfl, _⟩ | ⟨_, rfl, _⟩ | ⟨_, rfl, _⟩ <;> omega
  have hOD : (O ++ D).size = O.size + D.size := ByteArray.size_append
  have C3 : Hid (∀ w, Calls Tryz.prog 45 #[.int .i64 id, .string (I ++ msg)] w fun e w' => e = .returned (.string D) ∧ Sm w w') := fun w => hD ▸ rofA_any id z k h (I ++ msg) (by omega) w
  have C4 : Hid (∀ w, Calls Tryz.prog 45 #[.int .i64 id, .string (O ++ D)] w fun e w' => e = .returned (.string A) ∧ Sm w w') := fun w => hMac ▸ rofA_any id z k h (O ++ D) (by omega) w
  have z1 : (I.size : Int) + (msg.size : Int) ≤ 140737488351232 := by omega
  have z2 : (O.size : Int) + (D.size : Int) ≤ 192 := by omega
  clear h hl hm hO hI hMac hIm hD hDz hDs hOD
  go_enter Tryz.func33, Tryz.ntmps33
  go_wp2_with (first
    | (go_at_call_of 46 (Value.int IntKind.u8 92); refine (C1.out _).mono ?_; rintro e w1 ⟨rfl, S1⟩)
    | (go_at_call_of 46 (Value.int IntKind.u8 54); refine (C2.out _).mono ?_; rintro e w2 ⟨rfl, S2⟩)
    | (go_at_call_of 45 (Value.string (I ++ msg)); refine (C3.out _).mono ?_; rintro e w3 ⟨rfl, S3⟩)
    | (go_at_call_of 45 (Value.string (O ++ D)); refine (C4.out _).mono ?_; rintro e w4 ⟨rfl, S4⟩))
  go_ret
  exact ⟨rfl, ((S1.trans S2).trans S3).trans S4⟩
end Go.Proofs.YtconibmdlfkopaaGreatDoor
