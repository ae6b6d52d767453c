/-
  sha256's eachBlock: what a stream becomes by a text.
-/
import Derived.Test.YtledggjbijoijaaDoorHD
namespace Go.Proofs.YtledggjbijoijaaDoor
open Go.RowKit

/-! ### bytes of texts -/
theorem xb_left (s t : ByteArray) (k : Nat) (h : k < s.size) : xb (s ++ t) k = xb s k := by
  rw [xb_data, xb_data, ByteArray.data_append, Array.getElem?_append_left h]
theorem xb_right (s t : ByteArray) (k : Nat) : xb (s ++ t) (s.size + k) = xb t k := by
  have h : s.data.size = s.size := rfl
  rw [xb_data, xb_data, ByteArray.data_append, Array.getElem?_append_right (by rw [h]; omega), h, Nat.add_sub_cancel_left]
theorem xb_cut (s : ByteArray) (a b k : Nat) (h : a + k < b) (hb : b ≤ s.size) : xb (s.extract a b) k = xb s (a + k) := by
  have hs : s.data.size = s.size := rfl
  rw [xb_data, xb_data, ByteArray.data_extract, Array.getElem?_extract, if_pos (by rw [hs]; omega)]
theorem cut_two (s : ByteArray) (m : Nat) (h : m ≤ s.size) : s.extract 0 m ++ s.extract m s.size = s := by
  apply ByteArray.ext
  rw [ByteArray.data_append, ByteArray.data_extract, ByteArray.data_extract]
  have hs : s.data.size = s.size := rfl
  rw [← hs, Array.extract_append_extract]
  simp [hs, Nat.min_eq_left (Nat.zero_le _)]
  omega
theorem app_assoc (a b c : ByteArray) : a ++ b ++ c = a ++ (b ++ c) := by
  apply ByteArray.ext
  simp [ByteArray.data_append, Array.append_assoc]

theorem app_empty (a : ByteArray) : a ++ ByteArray.empty = a := by
  apply ByteArray.ext
  simp
/-- What is pending of a text, and the state of what was taken in. -/
structure Rp (iv : Nat → Nat) (t : ByteArray) (f p : Nat → Nat) : Prop where
  st : ∀ i, i < 8 → f i = bls iv (xb t) (t.size / 64) i
  by8 : ∀ i, i < 64 → p i < 256
  pd : ∀ i, i < t.size % 64 → p i = xb t (64 * (t.size / 64) + i)
/-- m bytes of s laid over p from place h on. -/
def ov (p : Nat → Nat) (h m : Nat) (s : ByteArray) : Nat → Nat := fun i => if h ≤ i ∧ i < h + m then xb s (i - h) else p i
theorem ov_lt {p : Nat → Nat} (h m : Nat) (s : ByteArray) (hp : ∀ i, i < 64 → p i < 256) (i : Nat) (hi : i < 64) : ov p h m s i < 256 := by
  unfold ov
  split
  · exact xb_lt _ _
  · exact hp i hi
theorem Rp.bytes {iv : Nat → Nat} {t r : ByteArray} {f p : Nat → Nat} (h : Rp iv t f p) (m : Nat) (hm : m ≤ r.size) (i : Nat) (hi : i < t.size % 64 + m) : ov p (t.size % 64) m r i = xb (t ++ r.extract 0 m) (64 * (t.size / 64) + i) := by
  unfold ov
  by_cases c : t.size % 64 ≤ i
  · rw [if_pos ⟨c, hi⟩]
    have e : 64 * (t.size / 64) + i = t.size + (i - t.size % 64) := by omega
    rw [e, xb_right, xb_cut _ _ _ _ (by omega) hm, Nat.zero_add]
  · rw [if_neg (by omega), h.pd i (by omega), xb_left _ _ _ (by omega)]
theorem ex_size (r : ByteArray) (m : Nat) (hm : m ≤ r.size) : (r.extract 0 m).size = m := by simp [ByteArray.size_extract, Nat.min_eq_left hm]
theorem Rp.some {iv : Nat → Nat} {t r : ByteArray} {f p : Nat → Nat} (h : Rp iv t f p) (m : Nat) (hm : m ≤ r.size) (hl : t.size % 64 + m < 64) : Rp iv (t ++ r.extract 0 m) f (ov p (t.size % 64) m r) := by
  have hs : (t ++ r.extract 0 m).size = t.size + m := by rw [ByteArray.size_append, ex_size r m hm]
  refine ⟨fun i hi => ?_, ov_lt _ _ _ h.by8, fun i hi => ?_⟩
  · rw [h.st i hi, hs, show (t.size + m) / 64 = t.size / 64 by omega]
    exact bls_ext _ _ _ _ (fun j hj => (xb_left _ _ _ (by omega)).symm) i hi
  · rw [hs] at hi ⊢
    rw [show (t.size + m) / 64 = t.size / 64 by omega]
    exact h.bytes m hm i (by omega)
theorem Rp.full {iv : Nat → Nat} {t r : ByteArray} {f p : Nat → Nat} (h : Rp iv t f p) (m : Nat) (hm : m ≤ r.size) (hl : t.size % 64 + m = 64) : Rp iv (t ++ r.extract 0 m) (cmp f (ov p (t.size % 64) m r)) (ov p (t.size % 64) m r) := by
  have hs : (t ++ r.extract 0 m).size = t.size + m := by rw [ByteArray.size_append, ex_size r m hm]
  refine ⟨fun i hi => ?_, ov_lt _ _ _ h.by8, fun i hi => ?_⟩
  · rw [hs, show (t.size + m) / 64 = t.size / 64 + 1 by omega]
    show _ = cmp (bls iv (xb (t ++ r.extract 0 m)) (t.size / 64)) (fun i => xb (t ++ r.extract 0 m) (64 * (t.size / 64) + i)) i
    refine cmp_ext _ _ _ _ (fun j hj => h.bytes m hm j (by omega)) (fun j hj => ?_) i hi
    rw [h.st j hj]
    exact bls_ext _ _ _ _ (fun j hj => (xb_left _ _ _ (by omega)).symm) j hj
  · rw [hs] at hi
    omega
theorem Rp.lt {iv : Nat → Nat} {t : ByteArray} {f p : Nat → Nat} (h : Rp iv t f p) (hv : ∀ i, i < 8 → iv i < 4294967296) (i : Nat) (hi : i < 8) : f i < 4294967296 := by
  rw [h.st i hi]
  exact bls_lt _ _ hv _ i hi

/-! ### copy from a text into what is pending -/
def copyT (ty : TypeId) (d s : Value) : Sem Value := Builtin.copy_ #[33, 9] ty #[d, s]
theorem copyT_is (ty : TypeId) (d s : Value) : Builtin.copy_ #[33, 9] ty #[d, s] = copyT ty d s := rfl
theorem run_size8 (w : World) : (Go.sizeOf 5).run Tryd.prog w = .ok 1 w := by kernel_rfl
theorem cells_br (s : ByteArray) (m : Nat) (h : m ≤ s.size) : List.take m (List.map (fun x => Value.int .u8 (x.toNat : Int)) s.data.toList) = (br m (xb s)).toList := by
  apply List.ext_getElem?
  intro j
  have hs : s.data.size = s.size := rfl
  rw [List.getElem?_take, List.getElem?_map, Array.getElem?_toList, Array.getElem?_toList]
  by_cases hj : j < m
  · rw [br_get m _ j hj, if_pos hj, xb_data, Array.getElem?_eq_getElem (by rw [hs]; omega)]
    rfl
  · rw [br_none m _ j (by omega), if_neg hj]
theorem run_copy_min {P : Program} (w : World) (dT sT ty elem : TypeId) (b o dLen dCap : Nat) (t : ByteArray) (m : Nat)
    (hu : P.underlying dT = some (.slice elem)) (hz : ∀ w, (Go.sizeOf elem).run P w = .ok 1 w) (hm : Nat.min t.size dLen = m)
    (hc : ∀ j, j < m → (w.cell? ⟨b, o + j, none⟩).isSome = true) (hf : ∀ j, j < m → w.frozen? ⟨b, o + j, none⟩ = false) :
    (Builtin.copy_ #[dT, sT] ty #[.slice (some ⟨b, o, none⟩) dLen dCap, .string t]).run P w = .ok (goInt m) (w.setCells b o (br m (xb t)).toList) := by
  have hle : m ≤ t.size := by rw [← hm]; exact Nat.min_le_left _ _
  have hl : (br m (xb t)).toList.length = m := by rw [Array.length_toList, br_size]
  have hst := run_storeCells_cells (P := P) b o (br m (xb t)).toList 0 w (by rw [hl]; simpa using hc) (by rw [hl]; simpa using hf) (by
    intro v hv
    have := Array.all_eq_true_iff_forall_mem.1 (br_one m (xb t)) v (by simpa using hv)
    exact this)
  have hcells := cells_br t m hle
  simp [Builtin.copy_, run_underlying hu, Builtin.lenOf, Builtin.firstCells, hz, hm]
  rw [hcells, hst]
  rfl
theorem setL_hc (f p : Nat → Nat) (H l z : Int) (h m : Nat) (s : ByteArray) (hm : h + m ≤ 64) : setL (hc f p H l z) (8 + h) (br m (xb s)).toList = hc f (ov p h m s) H l z := by
  apply Array.ext_getElem?
  intro j
  rw [setL_get, Array.length_toList, br_size, hc_size]
  by_cases c : 8 + h ≤ j ∧ j < 8 + h + m
  · rw [if_pos ⟨c.1, c.2, by omega⟩, Array.getElem?_toList, br_get m _ _ (by omega), show j = 8 + (j - 8) by omega, hc_pd _ _ _ _ _ _ (by omega)]
    unfold ov
    rw [if_pos (by omega), show 8 + (j - 8) - (8 + h) = j - 8 - h by omega]
  · rw [if_neg (by omega), hc_all, hc_all]
    by_cases c1 : j < 8
    · rw [if_pos c1, if_pos c1]
    · rw [if_neg c1, if_neg c1]
      by_cases c2 : j < 72
      · rw [if_pos c2, if_pos c2]
        unfold ov
        rw [if_neg (by omega)]
      · rw [if_neg c2, if_neg c2]
theorem copy_hc (ty : TypeId) (w : World) (b h m c : Nat) (f p : Nat → Nat) (H l z : Int) (t : TypeId) (s : ByteArray) (hb : Bk w b (hc f p H l z) t) (hm : Nat.min s.size (64 - h) = m) (hh : h ≤ 64) :
    (copyT ty (.slice (some ⟨b, 8 + h, none⟩) (64 - h) c) (.string s)).run Tryd.prog w = .ok (goInt (m : Int)) (setBlk w b (hc f (ov p h m s) H l z)) := by
  have hl2 : m ≤ 64 - h := by rw [← hm]; exact Nat.min_le_right _ _
  have hl : h + m ≤ 64 := by omega
  unfold copyT
  rw [run_copy_min w 33 9 ty 5 b (8 + h) (64 - h) c s m Tryd.underlying33 run_size8 hm (fun j hj => ?_) (fun j _ => hb.fz _), setCells_setBlk _ _ _ _ (by rw [hb.blk, hc_size]; decide), hb.blk, setL_hc f p H l z h m s hl]
  rw [hb.cell, show 8 + h + j = 8 + (h + j) by omega, hc_pd _ _ _ _ _ _ (by omega)]
  rfl
attribute [local go_sem ↓] ldB_is copyT_is
theorem ldP (w : World) (b : Nat) (f p : Nat → Nat) (H l z : Int) (t : TypeId) (h : Bk w b (hc f p H l z) t) : (loadS 83 (.pointer (some ⟨b, 8, none⟩))).run Tryd.prog w = .ok (.agg (br 64 p)) w :=
  loadS_part 64 Tryd.underlying83 rfl (by kernel_rfl) (br_size _ _) fun i hi => by rw [h.cell, hc_pd _ _ _ _ _ i hi, br_get 64 p i hi]
/-- The method value of turn at the stream b. -/
def trn (b : Nat) : Value := .func (.func 54) #[.pointer (some ⟨b, 0, none⟩)] #[]
set_option maxRecDepth 100000 in
set_option maxHeartbeats 1600000 in
theorem each_any (b : Nat) (iv f p : Nat → Nat) (l z : Int) (t s : ByteArray) (hv : ∀ i, i < 8 → iv i < 4294967296) (hR : Rp iv t f p) (hs : s.size ≤ 9223372036854775807) (w : World) (hK : Kk w) (h0 : b ≠ 0) (hb : Bk w b (hc f p ((t.size % 64 : Nat) : Int) l z) 85) :
    Calls Tryd.prog 53 #[.pointer (some ⟨b, 0, none⟩), .string s, trn b] w fun e w' => e = .returned (.tuple #[]) ∧ Kp (At1 b) w w' ∧ ∃ f' p', Rp iv (t ++ s) f' p' ∧ Bk w' b (hc f' p' (((t ++ s).size % 64 : Nat) : Int) l z) 85 := by
  unfold trn
  have CT : Hid (∀ (f p q : Nat → Nat) (h : Int) w', (∀ i, i < 8 → f i < 4294967296) → (∀ i, i < 64 → q i < 256) → Kk w' → Bk w' b (hc f p h l z) 85 → Calls Tryd.prog 54 #[.pointer (some ⟨b, 0, none⟩), .agg (br 64 q)] w' fun e w'' => e = .returned (.tuple #[]) ∧ Bk w'' b (hc (cmp f q) p h l z) 85 ∧ Kp (At1 b) w' w'') := fun f p q h w' h1 h2 h3 h4 => turn_any b f p q h l z h1 h2 w' h3 h4
  go_enter Tryd.func53, Tryd.ntmps53
  go_wp2
  go_loopw [1] (fun x v => ∃ r u f p, u ++ r = s ∧ x = .string r ∧ Rp iv (t ++ u) f p ∧ Bk v b (hc f p (((t ++ u).size % 64 : Nat) : Int) l z) 85 ∧ Kp (At1 b) w v) (fun x _ => (match x with | .string r => r.size | _ => 0))
  case atStart => exact ⟨s, .empty, f, p, by apply ByteArray.ext; simp, rfl, by rw [app_empty]; exact hR, by rw [app_empty]; exact hb, Kp.refl _ _⟩
  case round =>
    clear hR hb f p
    obtain ⟨r, u, f, p, hur, rfl, hR, hb, HK⟩ := hrel
    have hrs : r.size ≤ 9223372036854775807 := by
      have := congrArg ByteArray.size hur
      rw [ByteArray.size_append] at this
      omega
    by_cases hr : 0 < r.size
    · obtain ⟨T, hT⟩ : ∃ T, t ++ u = T := ⟨_, rfl⟩
      rw [hT] at hR hb
      obtain ⟨h, hh⟩ : ∃ h, T.size % 64 = h := ⟨_, rfl⟩
      obtain ⟨m, hm⟩ : ∃ m, Nat.min r.size (64 - h) = m := ⟨_, rfl⟩
      have hm1 : m ≤ r.size := by rw [← hm]; exact Nat.min_le_left _ _
      have hm2 : m ≤ 64 - h := by rw [← hm]; exact Nat.min_le_right _ _
      have hm0 : 0 < m := by rw [← hm]; exact Nat.lt_min.2 ⟨hr, by omega⟩
      have hrest : u ++ r.extract 0 m ++ r.extract m r.size = s := by rw [app_assoc, cut_two r m hm1]; exact hur
      have hTu : t ++ (u ++ r.extract 0 m) = T ++ r.extract 0 m := by rw [← app_assoc, hT]
      have hsz : (T ++ r.extract 0 m).size = T.size + m := by rw [ByteArray.size_append, ex_size r m hm1]
      have hrr : (r.extract m r.size).size = r.size - m := by simp [ByteArray.size_extract]
      rw [hh] at hb
      have c72 := (hb.cell 72).trans (hc_h _ _ _ _ _)
      have hcp := fun ty c => copy_hc ty _ b h m c f p (h : Int) l z _ r hb.drew hm (by omega)
      have r0 : (0 : Int) < (r.size : Int) := by omega
      have h00 : (0 : Int) ≤ (h : Int) := by omega
      have h1 : (h : Int) ≤ 64 := by omega
      have h2 : h < 64 := by omega
      have h3 : ¬ 64 = h := by omega
      have m1 : (m : Int) ≤ (r.size : Int) := by omega
      have hb1 := hb.drew.put (hc f (ov p h m r) (h : Int) l z)
      have HK1 : Kp (At1 b) w (setBlk _ b (hc f (ov p h m r) (h : Int) l z)) := HK.drew.put b (hc f (ov p h m r) (h : Int) l z) rfl
      go_wp2
      go_big_region
      clear hcp c72 hb HK
      generalize setBlk _ b (hc f (ov p h m r) (h : Int) l z) = v1 at *
      have c72 := (hb1.cell 72).trans (hc_h _ _ _ _ _)
      have f72 := hb1.fz 72
      have hb2 := (hb1.set 72 (.int .i64 ((h : Int) + (m : Int)))).cast (hc_seth _ _ _ _ _ _)
      have HK2 := HK1.setCell ⟨b, 72, none⟩ (.int .i64 ((h : Int) + (m : Int))) rfl
      have e1 : (h : Int) + (m : Int) ≤ 64 := by omega
      by_cases full : h + m = 64
      · have e2 : ((h : Int) + (m : Int) == 64) = true := by simp; omega
        have ld := ldP _ _ _ _ _ _ _ _ hb2
        have hq : ∀ i, i < 64 → ov p h m r i < 256 := ov_lt _ _ _ hR.by8
        have hfl := hR.lt hv
        have hkk := hK.kp HK2 (fun e => h0 e.symm)
        have hN : Rp iv (T ++ r.extract 0 m) (cmp f (ov p h m r)) (ov p h m r) := by rw [← hh]; exact hR.full m hm1 (by omega)
        go_wp2_with (go_at_call 54; refine (CT.out f _ _ _ _ hfl hq hkk hb2).mono ?_; rintro e v2 ⟨rfl, hb3, HK3⟩; have c3 := (hb3.cell 72).trans (hc_h _ _ _ _ _); have f3 := hb3.fz 72)
        go_roundw
        case rel =>
          refine ⟨_, _, _, _, hrest, rfl, by rw [hTu]; exact hN, ?_, (HK2.trans HK3).setCell _ _ rfl⟩
          rw [hTu, hsz]
          refine (hb3.set 72 _).cast ?_
          rw [show (T.size + m) % 64 = 0 by omega]
          exact hc_seth _ _ _ _ _ _
        case measure => simp [hrr]; omega
      · have e2 : ((h : Int) + (m : Int) == 64) = false := by simp; omega
        have hN : Rp iv (T ++ r.extract 0 m) f (ov p h m r) := by rw [← hh]; exact hR.some m hm1 (by omega)
        go_wp2
        go_roundw
        case rel =>
          refine ⟨_, _, _, _, hrest, rfl, by rw [hTu]; exact hN, ?_, HK2⟩
          rw [hTu, hsz, show (T.size + m) % 64 = h + m by omega]
          exact hb2
        case measure => simp [hrr]; omega
    · have hr0 : r = .empty := by
        apply ByteArray.ext
        have : r.data.size = r.size := rfl
        exact Array.eq_empty_of_size_eq_zero (by omega)
      subst hr0
      rw [app_empty] at hur
      subst hur
      go_wp2
      go_end0
      exact ⟨rfl, HK, f, p, hR, hb⟩
end Go.Proofs.YtledggjbijoijaaDoor
