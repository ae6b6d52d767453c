/-
  hmac's keyBlock and pad: the key's block, and its bytes xored with one.
-/
import Derived.Test.YtcdkajfpllpgaaaDoorXA
namespace Go.Proofs.YtcdkajfpllpgaaaDoor
open Go.RowKit
theorem u8_xor_nat (a b : Nat) (ha : a < 256) (hb : b < 256) : bits .xor .u8 (a : Int) (b : Int) = ((a ^^^ b : Nat) : Int) := by
  have hx : a ^^^ b < 2 ^ 8 := Nat.xor_lt_two_pow (by omega) (by omega)
  have h1 : (BitVec.ofInt 8 (a : Int)).toNat = a := by rw [BitVec.ofInt_natCast, BitVec.toNat_ofNat]; exact Nat.mod_eq_of_lt (by omega)
  have h2 : (BitVec.ofInt 8 (b : Int)).toNat = b := by rw [BitVec.ofInt_natCast, BitVec.toNat_ofNat]; exact Nat.mod_eq_of_lt (by omega)
  show IntKind.u8.wrap ((BitVec.ofInt 8 (a : Int) ^^^ BitVec.ofInt 8 (b : Int)).toNat : Int) = _
  rw [BitVec.toNat_xor, h1, h2]
  have : IntKind.u8.wrap ((a ^^^ b : Nat) : Int) = ((a ^^^ b : Nat) : Int) % 256 := IntKind.wrap_u8 _
  rw [this]
  omega
theorem xor8 {a b : Nat} (ha : a < 256) (hb : b < 256) : a ^^^ b < 256 := Nat.xor_lt_two_pow (n := 8) ha hb
/-- How many bytes a block of the hash id has. -/
def hk (id : Int) : Nat := if id = 1 ∨ id = 2 then 64 else 128
theorem Hi.hk {id z k : Int} (h : Hi id z k) : k = ((hk id : Nat) : Int) := by
  rcases h with ⟨rfl, rfl, rfl⟩ | ⟨rfl, rfl, rfl⟩ | ⟨rfl, rfl, rfl⟩ | ⟨rfl, rfl, rfl⟩ <;> rfl
theorem hk_or (id : Int) : hk id = 64 ∨ hk id = 128 := by
  unfold hk
  split
  · exact Or.inl rfl
  · exact Or.inr rfl
/-- What is laid into the key's block: the key, or its digest. -/
def ky (id : Int) (key : ByteArray) : ByteArray := if hk id < key.size then dig id key else key
/-- The pads. -/
def pd (id : Int) (key : ByteArray) (x : Nat) : ByteArray := bt (fun i => xb (ky id key) i ^^^ x) (hk id)
/-- The mac. -/
def mac (id : Int) (key msg : ByteArray) : ByteArray := dig id (pd id key 92 ++ dig id (pd id key 54 ++ msg))
theorem pd_size (id : Int) (key : ByteArray) (x : Nat) : (pd id key x).size = hk id := bt_size _ _
theorem ky_size {id z k : Int} (h : Hi id z k) (key : ByteArray) : (ky id key).size ≤ hk id := by
  unfold ky
  split
  · have e := dig_size h key
    rcases h with ⟨rfl, rfl, rfl⟩ | ⟨rfl, rfl, rfl⟩ | ⟨rfl, rfl, rfl⟩ | ⟨rfl, rfl, rfl⟩
    · have : hk 1 = 64 := rfl
      omega
    · have : hk 2 = 64 := rfl
      omega
    · have : hk 3 = 128 := rfl
      omega
    · have : hk 4 = 128 := rfl
      omega
  · omega
theorem xb_none (s : ByteArray) (k : Nat) (h : s.size ≤ k) : xb s k = 0 := by
  rw [xb_data, Array.getElem?_eq_none h]
  rfl
/-- A text copied over noughts. -/
theorem setL_key (n : Nat) (K : ByteArray) (h : K.size ≤ n) : setL (br n fun _ => 0) 0 (br K.size (xb K)).toList = br n (xb K) := by
  apply Array.ext_getElem?
  intro j
  rw [setL_get, Array.length_toList, br_size, br_size]
  by_cases c : j < K.size
  · rw [if_pos ⟨by omega, by omega, by omega⟩, Array.getElem?_toList, br_get _ _ _ (by omega), br_get n _ j (by omega), Nat.sub_zero]
  · rw [if_neg (by omega)]
    by_cases c2 : j < n
    · rw [br_get n _ j c2, br_get n _ j c2, xb_none K j (by omega)]
    · rw [br_none n _ j (by omega), br_none n _ j (by omega)]
theorem copy_key (ty : TypeId) (w : World) (b n c : Nat) (t : TypeId) (K : ByteArray) (hb : Bk w b (br n fun _ => 0) t) (hK : K.size ≤ n) (h0 : 0 < n) :
    (copyT ty (.slice (some ⟨b, 0, none⟩) n c) (.string K)).run Tryd.prog w = .ok (goInt ((K.size : Nat) : Int)) (setBlk w b (br n (xb K))) := by
  unfold copyT
  rw [run_copy_min w 35 9 ty 5 b 0 n c K K.size Tryd.underlying35 run_size8 (Nat.min_eq_left hK) (fun j hj => ?_) (fun j _ => hb.fz _), setCells_setBlk _ _ _ _ (by rw [hb.blk, br_size]; exact h0), hb.blk, setL_key n K hK]
  rw [hb.cell, br_get n _ _ (by omega)]
  rfl
attribute [local go_sem ↓] mkS_is cvS_is copyT_is
set_option maxRecDepth 100000 in
set_option maxHeartbeats 800000 in
theorem keyb_any (id z k : Int) (h : Hi id z k) (key : ByteArray) (hl : key.size < 2305843009213693952) (w : World) (hK : KK w) :
    Calls Tryd.prog 21 #[.int .i64 id, .string key] w fun e w' => ∃ g, e = .returned (.slice (some ⟨g, 0, none⟩) (hk id) (hk id)) ∧ w.heap.size ≤ g ∧ Bk w' g (br (hk id) (xb (ky id key))) 5 ∧ Sm w w' := by
  have hs := ky_size h key
  obtain ⟨n, hn⟩ : ∃ n, hk id = n := ⟨_, rfl⟩
  have hk' := h.hk
  rw [hn] at hs hk'
  subst hk'
  have hn2 := hk_or id
  rw [hn] at hn2
  have CB : Hid (∀ w, Calls Tryd.prog 18 #[.int .i64 id] w fun e w' => e = .returned (.int .i64 (n : Int)) ∧ Sm w w') := fun w => hblock_any id z n h w
  have mk := fun w => mkS_run w .i64 .i64 n (by omega)
  have HK : Hid (KK w) := hK
  have n0 : (0 : Int) ≤ (n : Int) := by omega
  have n1 : (n : Int) ≤ 128 := by omega
  have HN : Hid (0 < n) := show 0 < n by omega
  by_cases c : n < key.size
  · obtain ⟨K, hKy⟩ : ∃ K, dig id key = K := ⟨_, rfl⟩
    have e : ky id key = K := by unfold ky; rw [hn, if_pos c, hKy]
    rw [e] at hs
    rw [e, hn]
    have CO : Hid (∀ w, KK w → Calls Tryd.prog 16 #[.int .i64 id, .string key] w fun e w' => e = .returned (.tuple #[.string K, .int .i64 0]) ∧ Sm w w') := fun w hw => hKy ▸ hof_any id z n key h hl w hw
    have HS : Hid (K.size ≤ n) := hs
    have c1 : (n : Int) < (key.size : Int) := by omega
    clear h hl hK hn hn2 hKy e c hs
    go_enter Tryd.func21, Tryd.ntmps21
    go_wp2_with (first
      | (go_at_call 18; refine (CB.out _).mono ?_; rintro e w1 ⟨rfl, S1⟩; have k1 := (HK.out.sm S1).sm ((Sm.refl _).alloc (.cells (br n fun _ => 0) 5)); have b1 := Bk.new w1 (br n fun _ => 0) 5)
      | (go_at_call 16; refine (CO.out _ k1).mono ?_; rintro e w2 ⟨rfl, S2⟩; have b2 := b1.sm S2; have cp := fun ty c => copy_key ty w2 w1.heap.size n c 5 K b2 HS.out HN.out))
    go_ret
    exact ⟨_, rfl, S1.size, b2.put _, Sm.of ((((S1.kp _).alloc _).trans (S2.kp _)).put _ _ S1.size)⟩
  · have e : ky id key = key := by unfold ky; rw [hn, if_neg c]
    rw [e] at hs
    rw [e, hn]
    have HS : Hid (key.size ≤ n) := hs
    have c1 : ¬ (n : Int) < (key.size : Int) := by omega
    clear h hl hK hn hn2 e c hs
    go_enter Tryd.func21, Tryd.ntmps21
    go_wp2_with (go_at_call 18; refine (CB.out _).mono ?_; rintro e w1 ⟨rfl, S1⟩; have b1 := Bk.new w1 (br n fun _ => 0) 5; have cp := fun ty c => copy_key ty _ w1.heap.size n c 5 key b1 HS.out HN.out)
    go_ret
    exact ⟨_, rfl, S1.size, b1.put _, Sm.of (((S1.kp _).alloc _).put _ _ S1.size)⟩
/-- A row of which the first k bytes are done. -/
def px (f : Nat → Nat) (x k : Nat) (j : Nat) : Nat := if j < k then f j ^^^ x else 0
set_option maxRecDepth 100000 in
set_option maxHeartbeats 800000 in
theorem pad_any (g n x : Nat) (f : Nat → Nat) (hf : ∀ i, f i < 256) (hx : x < 256) (hn : n ≤ 128) (w : World) (hb : Bk w g (br n f) 5) :
    Calls Tryd.prog 23 #[.slice (some ⟨g, 0, none⟩) n n, .int .u8 (x : Int)] w fun e w' => e = .returned (.string (bt (fun i => f i ^^^ x) n)) ∧ Sm w w' := by
  have mk := fun w => mkS_run w .i64 .i64 n (by omega)
  have n0 : (0 : Int) ≤ (n : Int) := by omega
  have n1 : (n : Int) ≤ 128 := by omega
  have HF : Hid (∀ i, f i < 256) := hf
  have HX : Hid (x < 256) := hx
  clear hf hx hn
  go_enter Tryd.func23, Tryd.ntmps23
  go_wp2
  have b1 := Bk.new w (br n fun _ => 0) 5
  have S1 := (Sm.refl w).alloc (.cells (br n fun _ => 0) 5)
  generalize w.alloc (.cells (br n fun _ => 0) 5) = v at *
  clear mk
  go_loopw [13] (fun i u => ∃ k : Nat, k ≤ n ∧ i = .int .i64 (k : Int) ∧ Bk u w.heap.size (br n (px f x k)) 5 ∧ Kp (Fr w.heap.size) w u) (fun i _ => n - (intOf i).toNat)
  case atStart => exact ⟨0, by omega, rfl, b1, S1.kp _⟩
  case round =>
    clear b1 S1
    obtain ⟨k, hk, rfl, b1, K1⟩ := hrel
    have hg := hb.lt
    have hb1 := hb.kp K1 (fun e => by have e : w.heap.size ≤ g := e; omega)
    by_cases c : k < n
    · have k0 : (0 : Int) ≤ (k : Int) := by omega
      have k1 : (k : Int) < (n : Int) := by omega
      have c1 := (hb1.cell k).trans (br_get n _ k c)
      have c2 := (b1.cell k).trans (br_get n _ k c)
      have f2 := b1.fz k
      have HE : Hid (Unit → _) := fun (_ : Unit) => u8_xor_nat (f k) x (HF.out k) HX.out
      go_wp2
      go_roundw
      case rel =>
        refine ⟨k + 1, by omega, by go_num, (b1.set k _).cast ?_, K1.setCell _ _ (Nat.le_refl _)⟩
        rw [HE.out ()]
        refine br_put n _ _ k _ ?_ fun i hi hne => ?_
        · unfold px
          rw [if_pos (by omega)]
        · unfold px
          by_cases d : i < k
          · rw [if_pos d, if_pos (by omega)]
          · rw [if_neg d, if_neg (by omega)]
      case measure => simp [intOf]; omega
    · have ki : ¬ (k : Int) < (n : Int) := by omega
      have cv := fun c => cvS_run _ w.heap.size 0 n c (px f x k) fun i hi => by rw [Nat.zero_add]; exact (b1.cell i).trans (br_get n _ i hi)
      have HE : Hid (Unit → bt (px f x k) n = bt (fun i => f i ^^^ x) n) := fun _ => bt_ext _ _ _ fun i hi => by unfold px; rw [if_pos (by omega)]
      clear c hk
      go_wp2
      go_ret
      exact ⟨congrArg (fun z => Ending.returned (Value.string z)) (HE.out ()), Sm.of K1⟩
end Go.Proofs.YtcdkajfpllpgaaaDoor
