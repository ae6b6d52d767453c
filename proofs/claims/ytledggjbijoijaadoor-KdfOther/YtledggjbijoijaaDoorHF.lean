/-
  sha256's padding and text: the end of a text, a state as bytes.
-/
import Derived.Test.YtledggjbijoijaaDoorHE
import Derived.Laws.MakeOwn
import Derived.Laws.BytesString
namespace Go.Proofs.YtledggjbijoijaaDoor
open Go.RowKit

/-! ### make, and bytes as a text -/
def mkS (a b : Value) : Sem Value := Instr.makeSlice 33 a b
theorem mkS_is (a b : Value) : Instr.makeSlice 33 a b = mkS a b := rfl
theorem Tryd.info8 : (Tryd.prog.info? 5).map (fun i => (i.zero, i.size, i.bytes)) = some (some (.int .u8 0), 1, 1) := by kernel_rfl
theorem made_br (n : Nat) : madeCells (Value.int .u8 0).cells (n * 1) = br n fun _ => 0 := by
  apply Array.ext_getElem?
  intro j
  rw [Nat.mul_one]
  by_cases hj : j < n
  · rw [br_get n _ j hj, Array.getElem?_eq_getElem (by rw [size_madeCells]; exact hj)]
    simp [madeCells, Value.cells, Nat.mod_one]
  · rw [br_none n _ j (by omega), Array.getElem?_eq_none (by rw [size_madeCells]; omega)]
theorem mkS_run (w : World) (k1 k2 : IntKind) (n : Nat) (hn : n ≤ 281474976710656) : (mkS (.int k1 (n : Int)) (.int k2 (n : Int))).run Tryd.prog w = .ok (.slice (some ⟨w.heap.size, 0, none⟩) n n) (w.alloc (.cells (br n fun _ => 0) 5)) := by
  obtain ⟨i0, hi0, hz0, hz1, hz2⟩ := info_parts Tryd.info8
  unfold mkS
  rw [run_make w 33 5 i0 _ Tryd.underlying33 hi0 hz0 k1 k2 (n : Int) (n : Int) (by omega) (by omega) (by rw [hz2]; omega) (by omega), hz1, Int.toNat_natCast, made_br]
def cvS (x : Value) : Sem Value := convert 33 9 x
theorem cvS_is (x : Value) : convert 33 9 x = cvS x := rfl
theorem push_fold (f : Nat → Nat) : ∀ n, ((List.range n).map fun i => ((f i : Nat) : Int)).foldl (fun r z => r.push (UInt8.ofNat z.toNat)) ByteArray.empty = bt f n
  | 0 => rfl
  | n + 1 => by
    rw [List.range_succ, List.map_append, List.foldl_append, push_fold f n]
    apply ByteArray.ext
    simp [bt, List.range_succ]
theorem cvS_run (w : World) (b o n c : Nat) (g : Nat → Nat) (h : ∀ i, i < n → w.cell? ⟨b, o + i, none⟩ = some (.int .u8 ((g i : Nat) : Int))) : (cvS (.slice (some ⟨b, o, none⟩) n c)).run Tryd.prog w = .ok (.string (bt g n)) w := by
  unfold cvS
  rw [run_convert_bytes_string w 33 9 5 _ _ _ Tryd.underlying33 Tryd.underlying5 Tryd.underlying9]
  have hadd : ∀ j, (⟨b, o, none⟩ : Addr).add j = ⟨b, o + j, none⟩ := fun j => by unfold Addr.add; split <;> simp_all
  have hl := run_loadCells_list (P := Tryd.prog) (w := w) ⟨b, o, none⟩ ((List.range n).map fun i => Value.int .u8 ((g i : Nat) : Int)) (fun j v hv => by
    rw [hadd]
    rw [List.getElem?_map] at hv
    by_cases hj : j < n
    · rw [List.getElem?_range hj] at hv
      rw [h j hj]
      simpa using hv
    · rw [List.getElem?_eq_none (by simp; omega)] at hv
      cases hv)
  rw [List.length_map, List.length_range] at hl
  rw [run_bytesToString w ⟨b, o, none⟩ n c ((List.range n).map fun i => ((g i : Nat) : Int)) ?_, push_fold]
  rw [hl, List.map_map]
  rfl

/-! ### the end of a text -/
/-- The bytes behind a text of n bytes. -/
def pdT (n : Nat) : ByteArray := bt (fun k => pf n (fun _ => 0) (n + k)) (64 * nb n - n)
/-- The row when k bytes of the length are laid; B: the length in bits. -/
def pk (L B k : Nat) (j : Nat) : Nat := if L - k ≤ j then B / 2 ^ (8 * (L - 1 - j)) % 256 else if j = 0 then 128 else 0
theorem br_put (n : Nat) (f g : Nat → Nat) (k x : Nat) (hk : g k = x) (h : ∀ j, j < n → j ≠ k → g j = f j) : (br n f).setIfInBounds k (.int .u8 ((x : Nat) : Int)) = br n g := by
  apply Array.ext_getElem?
  intro j
  rw [Array.getElem?_setIfInBounds]
  by_cases hj : j < n
  · rw [br_get n g j hj]
    by_cases e : k = j
    · subst e
      rw [if_pos rfl, if_pos (by rw [br_size]; exact hj), hk]
    · rw [if_neg e, br_get n f j hj, h j hj (Ne.symm e)]
  · rw [br_none n g j (by omega)]
    by_cases e : k = j
    · subst e
      rw [if_pos rfl, if_neg (by rw [br_size]; exact hj)]
    · rw [if_neg e, br_none n f j (by omega)]
theorem pad_len (n : Nat) : 64 * nb n - n = 1 + (119 - n % 64) % 64 + 8 := by unfold nb; omega
theorem pk_end (n L : Nat) (hL : 64 * nb n - n = L) (k : Nat) (hk : k < L) : pk L (n * 8) 8 k = pf n (fun _ => 0) (n + k) := by
  have h9 : 9 ≤ L := by rw [← hL, pad_len]; omega
  have hn : 64 * nb n = n + L := by unfold nb at hL ⊢; omega
  unfold pk pf
  rw [hn, if_neg (show ¬ n + k < n by omega)]
  by_cases c : L - 8 ≤ k
  · rw [if_pos c, if_neg (show ¬ n + k = n by omega), if_neg (show ¬ n + k < n + L - 8 by omega), show n + L - 1 - (n + k) = L - 1 - k by omega]
  · rw [if_neg c]
    by_cases c0 : k = 0
    · rw [if_pos c0, if_pos (show n + k = n by omega)]
    · rw [if_neg c0, if_neg (show ¬ n + k = n by omega), if_pos (show n + k < n + L - 8 by omega)]
theorem byte_cast (B k : Nat) : (B : Int) / 2 ^ k % 256 = ((B / 2 ^ k % 256 : Nat) : Int) := by rw [shr_cast, Int.natCast_emod]; rfl
attribute [local go_sem ↓] mkS_is cvS_is
set_option maxRecDepth 100000 in
set_option maxHeartbeats 1600000 in
theorem padding_any (n : Nat) (hn : n < 2305843009213693952) (w : World) :
    Calls Tryd.prog 55 #[.int .u64 (n : Int)] w fun e w' => e = .returned (.string (pdT n)) ∧ Sm w w' := by
  obtain ⟨L, hL⟩ : ∃ L, 64 * nb n - n = L := ⟨_, rfl⟩
  have hL2 := pad_len n
  rw [hL] at hL2
  obtain ⟨B, hB⟩ : ∃ B, n * 8 = B := ⟨_, rfl⟩
  obtain ⟨q, hq⟩ : ∃ q, (119 - n % 64) % 64 = q := ⟨_, rfl⟩
  rw [hq] at hL2
  have hr : ((119 : Int) - (n : Int) % 64) % 64 = (q : Int) := by omega
  have hB2 : (n : Int) * 8 = (B : Int) := by omega
  have mk := fun w => mkS_run w .u64 .u64 L (by omega)
  have hLq : (1 : Int) + (q : Int) + 8 = (L : Int) := by omega
  have HX : Hid (9 ≤ L ∧ L ≤ 72 ∧ pdT n = bt (pk L B 8) L) := ⟨by omega, by omega, by
    unfold pdT
    rw [hL]
    exact bt_ext _ _ _ fun k hk => by rw [← hB]; exact (pk_end n L hL k hk).symm⟩
  have g0 := br_get L (fun _ => 0) 0 (by omega)
  have q1 : (q : Int) < 64 := by omega
  have L1 : (L : Int) ≤ 72 := by omega
  have L2 : (9 : Int) ≤ (L : Int) := by omega
  have wL : IntKind.u64.wrap ((1 : Int) + (q : Int) + 8) = (L : Int) := by rw [IntKind.wrap_u64]; omega
  have HW : Hid (Unit → IntKind.u64.wrap ((n : Int) * 8) = (B : Int)) := fun _ => by rw [IntKind.wrap_u64]; omega
  clear hL2 hL hB hq hB2 hLq hn
  go_enter Tryd.func55, Tryd.ntmps55
  go_wp2
  rw [HW.out ()]
  have hb : Bk (w.alloc (Obj.cells ((br L fun _ => 0).setIfInBounds 0 (.int .u8 128)) 5)) w.heap.size (br L (pk L B 0)) 5 := (Bk.new w _ _).cast (br_put L _ _ 0 128 (by unfold pk; rw [if_neg (by have := HX.out.1; omega), if_pos rfl]) fun j hj h0 => by unfold pk; rw [if_neg (by omega), if_neg h0])
  have HK : Kp (Fr w.heap.size) w (w.alloc (Obj.cells ((br L fun _ => 0).setIfInBounds 0 (.int .u8 128)) 5)) := (Kp.refl _ _).alloc _
  generalize w.alloc (Obj.cells ((br L fun _ => 0).setIfInBounds 0 (.int .u8 128)) 5) = v at *
  clear mk HW wL hr g0
  go_loopw [19] (fun i u => ∃ k : Nat, k ≤ 8 ∧ i = .int .i64 (k : Int) ∧ Bk u w.heap.size (br L (pk L B k)) 5 ∧ Kp (Fr w.heap.size) w u) (fun i _ => 8 - (intOf i).toNat)
  case atStart => exact ⟨0, by omega, rfl, hb, HK⟩
  case round =>
    clear hb HK
    obtain ⟨k, hk, rfl, hb, HK⟩ := hrel
    by_cases hlt : k < 8
    · have k0 : (0 : Int) ≤ (k : Int) := by omega
      have k1 : (k : Int) < 8 := by omega
      obtain ⟨j, hj⟩ : ∃ j, L - 1 - k = j := ⟨_, rfl⟩
      have c1 := (hb.cell j).trans (br_get L _ j (by have := HX.out.1; omega))
      have f1 := hb.fz j
      have e1 : (L : Int) - 1 - (k : Int) = (j : Int) := by have := HX.out.1; omega
      have e2 : (j : Int) < (L : Int) := by have := HX.out.1; omega
      go_wp2
      go_roundw
      case rel =>
        refine ⟨k + 1, by omega, by go_num, (hb.set j _).cast ?_, HK.setCell _ _ (Nat.le_refl _)⟩
        have h9 := HX.out.1
        rw [byte_cast]
        refine br_put L _ _ j _ ?_ fun i hi hne => ?_
        · unfold pk
          rw [if_pos (by omega), show L - 1 - j = k by omega]
        · unfold pk
          by_cases c : L - k ≤ i
          · rw [if_pos c, if_pos (by omega)]
          · rw [if_neg c, if_neg (by omega)]
      case measure => simp [intOf]; omega
    · have ki : ¬ (k : Int) < 8 := by omega
      have cv := fun c => cvS_run _ w.heap.size 0 L c (pk L B k) fun i hi => by rw [Nat.zero_add]; exact (hb.cell i).trans (br_get L _ i hi)
      have HE : Hid (Unit → bt (pk L B k) L = pdT n) := fun _ => by rw [show k = 8 by omega]; exact HX.out.2.2.symm
      clear hlt hk
      go_wp2
      go_ret
      exact ⟨congrArg (fun z => Ending.returned (Value.string z)) (HE.out ()), Sm.of HK⟩
end Go.Proofs.YtledggjbijoijaaDoor
