/-
  strings.Repeat, strings.Builder: the library's contracts laid at this program (the numbers of its functions and types).
-/
/-
  The row of macs: drbg's chain.
-/
import Derived.Test.YtconibmdlfkopaaGreatDoorXD
import Derived.Shelf.Strings.Builder1
import Derived.Shelf.Strings.Repeat
import Derived.Test.YtconibmdlfkopaaGreatDoorWB
namespace Go.Proofs.YtconibmdlfkopaaGreatDoor
open Go.RowKit
def lays105_ren : Go.Shelf.Ren := ⟨fun | 105 => 25 | 212 => 38 | 99 => 39 | 165 => 40 | 166 => 41 | 170 => 42 | 169 => 43 | 263 => 53 | 264 => 54 | 206 => 55 | 240 => 56 | 241 => 57 | 276 => 77 | 277 => 78 | n => n, fun | 9 => 9 | 3 => 3 | 4 => 4 | 20 => 20 | 0 => 0 | 46 => 79 | 109 => 80 | 5 => 5 | 72 => 85 | 76 => 89 | 51 => 105 | 146 => 106 | 53 => 108 | 148 => 109 | 70 => 83 | 37 => 46 | 75 => 88 | 127 => 111 | 164 => 143 | 80 => 73 | n => n, fun | n => n⟩
theorem lays105 : Go.Proofs.Lays.n105 Tryz.prog lays105_ren := {
  mixed := by kernel_rfl
  f99 := Tryz.func39.trans (congrArg some (by kernel_rfl))
  f105 := Tryz.func25.trans (congrArg some (by kernel_rfl))
  f165 := Tryz.func40.trans (congrArg some (by kernel_rfl))
  f166 := Tryz.func41.trans (congrArg some (by kernel_rfl))
  f169 := Tryz.func43.trans (congrArg some (by kernel_rfl))
  f170 := Tryz.func42.trans (congrArg some (by kernel_rfl))
  f206 := Tryz.func55.trans (congrArg some (by kernel_rfl))
  f212 := Tryz.func38.trans (congrArg some (by kernel_rfl))
  f240 := Tryz.func56.trans (congrArg some (by kernel_rfl))
  f241 := Tryz.func57.trans (congrArg some (by kernel_rfl))
  f263 := Tryz.func53.trans (congrArg some (by kernel_rfl))
  f264 := Tryz.func54.trans (congrArg some (by kernel_rfl))
  f276 := Tryz.func77.trans (congrArg some (by kernel_rfl))
  f277 := Tryz.func78.trans (congrArg some (by kernel_rfl))
  t0 := Tryz.underlying0
  a0 := Tryz.isAgg0
  z0 := Tryz.sizeOf0
  v0 := Tryz.zeroValue0
  t3 := Tryz.underlying3
  a3 := Tryz.isAgg3
  z3 := Tryz.sizeOf3
  v3 := Tryz.zeroValue3
  t4 := Tryz.underlying4
  a4 := Tryz.isAgg4
  z4 := Tryz.sizeOf4
  v4 := Tryz.zeroValue4
  t5 := Tryz.underlying5
  a5 := Tryz.isAgg5
  z5 := Tryz.sizeOf5
  v5 := Tryz.zeroValue5
  t9 := Tryz.underlying9
  a9 := Tryz.isAgg9
  z9 := Tryz.sizeOf9
  v9 := Tryz.zeroValue9
  t20 := Tryz.underlying20
  a20 := Tryz.isAgg20
  z20 := Tryz.sizeOf20
  v20 := Tryz.zeroValue20
  t37 := Tryz.underlying46
  a37 := Tryz.isAgg46
  z37 := Tryz.sizeOf46
  v37 := Tryz.zeroValue46
  t46 := Tryz.underlying79
  a46 := Tryz.isAgg79
  z46 := Tryz.sizeOf79
  v46 := Tryz.zeroValue79
  t51 := Tryz.underlying105
  a51 := Tryz.isAgg105
  z51 := Tryz.sizeOf105
  v51 := Tryz.zeroValue105
  t53 := Tryz.underlying108
  a53 := Tryz.isAgg108
  z53 := Tryz.sizeOf108
  v53 := Tryz.zeroValue108
  t70 := Tryz.underlying83
  a70 := Tryz.isAgg83
  z70 := Tryz.sizeOf83
  v70 := Tryz.zeroValue83
  t72 := Tryz.underlying85
  a72 := Tryz.isAgg85
  z72 := Tryz.sizeOf85
  v72 := Tryz.zeroValue85
  t75 := Tryz.underlying88
  a75 := Tryz.isAgg88
  z75 := Tryz.sizeOf88
  v75 := Tryz.zeroValue88
  t76 := Tryz.underlying89
  a76 := Tryz.isAgg89
  z76 := Tryz.sizeOf89
  v76 := Tryz.zeroValue89
  t109 := Tryz.underlying80
  a109 := Tryz.isAgg80
  z109 := Tryz.sizeOf80
  v109 := Tryz.zeroValue80
  t127 := Tryz.underlying111
  a127 := Tryz.isAgg111
  z127 := Tryz.sizeOf111
  v127 := Tryz.zeroValue111
  t146 := Tryz.underlying106
  a146 := Tryz.isAgg106
  z146 := Tryz.sizeOf106
  v146 := Tryz.zeroValue106
  t148 := Tryz.underlying109
  a148 := Tryz.isAgg109
  z148 := Tryz.sizeOf109
  v148 := Tryz.zeroValue109
  t164 := Tryz.underlying143
  a164 := Tryz.isAgg143
  z164 := Tryz.sizeOf143
  v164 := Tryz.zeroValue143 }
theorem extra105 : Builder.Extra Tryz.prog lays105_ren := {
  sizeBuilder := by kernel_rfl
  liesBuilder := by kernel_rfl
  t5 := Tryz.underlying5
  a5 := Tryz.isAgg5
  z5 := Tryz.sizeOf5
  v5 := Tryz.zeroValue5
  infoByte := by kernel_rfl
  cellsByte := by kernel_rfl
  sizeByte := by kernel_rfl
  neB5 := by decide }
theorem sm_below {w w' : World} (h : Below w.heap.size w w') : Sm w w' := ⟨h.os, h.tape, h.output, h.size, fun k hk _ => h.block k hk⟩
theorem kp_below {w w' : World} {B : Nat} (h : Below B w w') : Kp (Fr B) w w' := ⟨h.os, h.tape, h.output, h.size, fun k _ hn => h.block k (Nat.lt_of_not_le hn)⟩
theorem rep_is (x : UInt8) : ∀ n, Lib.repeatL [x] n = List.replicate n x := fun n => by
  have := Lib.repeatL_replicate x 1 n
  rw [Nat.mul_one] at this
  exact this
theorem rep_bt (x : UInt8) (n : Nat) : (⟨(Lib.repeatL [x] n).toArray⟩ : ByteArray) = bt (fun _ => x.toNat) n := by
  rw [rep_is]
  unfold bt
  have e : (List.range n).map (fun _ => UInt8.ofNat x.toNat) = List.replicate n x := by
    apply List.ext_getElem
    · simp
    · intro i h1 h2
      simp
  rw [e]
/-- strings.Repeat of one byte. -/
theorem rep_any (x : UInt8) (n : Nat) (hn : n ≤ 64) (w : World) : Calls Tryz.prog 25 #[.string ⟨#[x]⟩, .int .i64 (n : Int)] w fun e w' => e = .returned (.string (bt (fun _ => x.toNat) n)) ∧ Sm w w' := by
  have h : Calls Tryz.prog 25 #[.string ⟨#[x]⟩, .int .i64 (n : Int)] w fun e w' => e = .returned (.string ⟨(Lib.repeatL [x] n).toArray⟩) ∧ Below w.heap.size w w' := Any.strings_Repeat lays105 extra105 ⟨#[x]⟩ n w (by omega) (by show 1 * n ≤ _; omega)
  rw [rep_bt] at h
  exact h.mono fun _ _ ⟨h1, h2⟩ => ⟨h1, sm_below h2⟩
/-- The Builder at b, from the block B on: the text t is written. -/
def Bd (w : World) (B b : Nat) (t : ByteArray) : Prop := Lib.IsBuilder 85 5 B b (Lib.strCells t) w
theorem bat_sm {T e : TypeId} {B b : Nat} {p : Value} {bs : List Value} {w w' : World} (h : Lib.BuilderAt T e B b p bs w) (k : Sm w w') : Lib.BuilderAt T e B b p bs w' := by
  have hl := h.lt
  obtain ⟨hB, v, hb, ⟨ho, hor⟩, hn⟩ := h
  refine ⟨hB, v, (k.block b hl fun h => h).trans hb, ⟨ho, ?_⟩, hn⟩
  rcases hor with h | ⟨g, cap, cur, h1, h2, h3, h4⟩
  · exact Or.inl h
  · refine Or.inr ⟨g, cap, cur, h1, h2, (k.block g ?_ fun h => h).trans h3, h4⟩
    exact (Array.getElem?_eq_some_iff.1 h3).1
theorem Bd.sm {B b : Nat} {t : ByteArray} {w w' : World} (h : Bd w B b t) (k : Sm w w') : Bd w' B b t := by
  rcases h with h | h
  · exact Or.inl (bat_sm h k)
  · exact Or.inr (bat_sm h k)
theorem Bd.new (w : World) : Bd (w.alloc (.cells #[.pointer none, .slice none 0 0] 85)) w.heap.size w.heap.size .empty := Lib.fresh_isBuilder _ _ w
/-- How long the row of the Builder at b is. -/
def bl (w : World) (b : Nat) : Nat := match w.cell? ⟨b, 1, none⟩ with
  | some (.slice _ n _) => n
  | _ => 0
theorem Bd.bl {B b : Nat} {t : ByteArray} {w : World} (h : Bd w B b t) : bl w b = t.size := by
  have : ∃ p, Lib.BuilderAt 85 5 B b p (Lib.strCells t) w := by
    rcases h with h | h <;> exact ⟨_, h⟩
  obtain ⟨p, _, v, hb, ⟨ho, hor⟩, _⟩ := this
  have hc : w.cell? ⟨b, 1, none⟩ = some v := by rw [Lib.cell_of_heap hb]; rfl
  unfold Proofs.YtconibmdlfkopaaGreatDoor.bl
  rw [hc]
  have hl := Lib.strCells_length t
  rcases hor with ⟨rfl, h2⟩ | ⟨g, cap, cur, rfl, _⟩
  · show 0 = _
    omega
  · show (Lib.strCells t).length = _
    exact hl
theorem blen_any (B b : Nat) (t : ByteArray) (w : World) (h : Bd w B b t) : Calls Tryz.prog 42 #[.pointer (some ⟨b, 0, none⟩)] w fun e w' => e = .returned (.int .i64 (t.size : Int)) ∧ w = w' := by
  have := Any.Builder_Len (P := Tryz.prog) (ρ := lays105_ren) { lays105 with } B b (Lib.strCells t) w h
  rw [Lib.strCells_length] at this
  exact this.mono fun _ _ ⟨h1, h2⟩ => ⟨h1, h2.symm⟩
theorem bwrite_any (B b : Nat) (t s : ByteArray) (w : World) (h : Bd w B b t) (hl : t.size + s.size ≤ 140737488355328) (hB : B ≤ w.heap.size) : Calls Tryz.prog 41 #[.pointer (some ⟨b, 0, none⟩), .string s] w fun e w' => e = .returned (.tuple #[.int .i64 (s.size : Int), .nilIface]) ∧ Bd w' B b (t ++ s) ∧ Kp (Fr B) w w' := by
  have := Any.Builder_WriteString (P := Tryz.prog) (ρ := lays105_ren) { lays105 with } extra105 B b (Lib.strCells t) s w h (by rw [Lib.strCells_length]; exact hl) hB
  refine this.mono fun _ _ ⟨h1, h2, h3⟩ => ⟨h1, Or.inr ?_, kp_below h3⟩
  have e : Lib.strCells (t ++ s) = Lib.strCells t ++ Lib.strCells s := by
    unfold Lib.strCells
    rw [ByteArray.data_append]
    simp
  rw [e]
  exact h2
theorem bstr_any (B b : Nat) (t : ByteArray) (w : World) (h : Bd w B b t) (hB : B ≤ w.heap.size) : Calls Tryz.prog 43 #[.pointer (some ⟨b, 0, none⟩)] w fun e w' => e = .returned (.string t) ∧ Kp (Fr B) w w' := by
  have := Any.Builder_String_any (P := Tryz.prog) (ρ := lays105_ren) { lays105 with } extra105 B b t.data.toList w h hB
  refine this.mono fun _ _ ⟨h1, h3⟩ => ⟨?_, kp_below h3⟩
  rw [h1]
end Go.Proofs.YtconibmdlfkopaaGreatDoor
namespace Go.Proofs.YtconibmdlfkopaaGreatDoor
open Go.RowKit
/-- The i-th mac of the row. -/
def vi (id : Int) (k v : ByteArray) : Nat → ByteArray
  | 0 => v
  | i + 1 => mac id k (vi id k v i)
/-- The first i macs, one behind the other. -/
def vs (id : Int) (k v : ByteArray) : Nat → ByteArray
  | 0 => .empty
  | i + 1 => vs id k v i ++ vi id k v (i + 1)
/-- How many macs n bytes want. -/
def rn (z n : Nat) : Nat := (n + z - 1) / z
/-- The first n bytes of the row. -/
def gt (id : Int) (z n : Nat) (p : ByteArray × ByteArray) : ByteArray := (vs id p.1 p.2 (rn z n)).extract 0 n
/-- The last mac of the row. -/
def gl (id : Int) (z n : Nat) (p : ByteArray × ByteArray) : ByteArray := vi id p.1 p.2 (rn z n)
theorem vi_size {id z k : Int} (h : Hi id z k) (K V : ByteArray) (hV : (V.size : Int) = z) : ∀ i, ((vi id K V i).size : Int) = z
  | 0 => hV
  | _ + 1 => mac_size h _ _
theorem vs_size {id k : Int} {z : Nat} (h : Hi id (z : Int) k) (K V : ByteArray) (hV : V.size = z) : ∀ i, (vs id K V i).size = i * z
  | 0 => by rw [Nat.zero_mul]; rfl
  | i + 1 => by
    have h1 := vs_size h K V hV i
    have h2 := vi_size h K V (by omega) (i + 1)
    rw [vs, ByteArray.size_append, h1, Nat.succ_mul]
    omega
theorem rn_is (z n i : Nat) (hz : 0 < z) (h1 : n ≤ i * z) (h2 : i = 0 ∨ (i - 1) * z < n) : i = rn z n := by
  unfold rn
  rcases h2 with rfl | h2
  · rw [Nat.zero_mul] at h1
    obtain rfl : n = 0 := by omega
    rw [Nat.div_eq_of_lt (by omega)]
  · have hi : 0 < i := by
      rcases Nat.eq_zero_or_pos i with rfl | h
      · omega
      · exact h
    have e : i * z = (i - 1) * z + z := by
      have := Nat.succ_mul (i - 1) z
      rw [show (i - 1).succ = i by omega] at this
      exact this
    symm
    rw [Nat.div_eq_iff hz]
    rw [Nat.mul_comm] at e h2
    have := Nat.mul_comm z i
    have := Nat.mul_comm z (i - 1)
    omega
theorem ex_app (a b : ByteArray) (n : Nat) (h : a.size ≤ n) : (a ++ b).extract 0 n = a ++ b.extract 0 (n - a.size) := by
  rw [ByteArray.extract_append]
  have e : a.extract 0 n = a := by
    apply ByteArray.ext
    simp
    omega
  rw [e]
  simp
theorem ex_all (a : ByteArray) (n : Nat) (h : a.size ≤ n) : a.extract 0 n = a := by
  apply ByteArray.ext
  simp
  omega
theorem ex_sz (a : ByteArray) (n : Nat) : (a.extract 0 n).size = min n a.size := by simp
set_option maxRecDepth 100000 in
set_option maxHeartbeats 1600000 in
theorem chain_any (id kk : Int) (z : Nat) (h : Hi id (z : Int) kk) (K V : ByteArray) (hKz : K.size = z) (hV : V.size = z) (n : Nat) (hn : n ≤ 256) (w : World) (hK : KK w) :
    Calls Tryz.prog 31 #[.func (.func 32) #[.agg #[.int .i64 id, .string K]] #[], .string V, .int .i64 (n : Int)] w fun e w' => e = .returned (.tuple #[.string (gt id z n (K, V)), .string (gl id z n (K, V))]) ∧ Sm w w' := by
  have HK : Hid (KK w) := hK
  have hz := h.z64
  have hz0 := h.z28
  have C1 : Hid (∀ i g w, KK w → Bk w g #[.string (vi id K V i)] 9 → Calls Tryz.prog 32 #[.agg #[.int .i64 id, .string K], .slice (some ⟨g, 0, none⟩) 1 1] w fun e w' => e = .returned (.string (vi id K V (i + 1))) ∧ Sm w w') := fun i g w h1 h2 => by
    have hi := vi_size h K V (by omega) i
    exact mk1_any id z kk h K _ (by omega) (by omega) _ g w h1 h2
  have HI : Hid (∀ i, (vi id K V i).size = z) := fun i => by have := vi_size h K V (by omega) i; omega
  have HS : Hid (∀ i, (vs id K V i).size = i * z) := vs_size h K V hV
  have HG : Hid (∀ i, n ≤ i * z → (i = 0 ∨ (i - 1) * z < n) → gt id z n (K, V) = (vs id K V i).extract 0 n ∧ gl id z n (K, V) = vi id K V i) := fun i h1 h2 => by
    have e := rn_is z n i (by omega) h1 h2
    unfold gt gl
    rw [← e]
    exact ⟨rfl, rfl⟩
  have HZ : Hid (28 ≤ z ∧ z ≤ 64) := show 28 ≤ z ∧ z ≤ 64 by omega
  have CL : Hid (∀ B b t w, Bd w B b t → Calls Tryz.prog 42 #[.pointer (some ⟨b, 0, none⟩)] w fun e w' => e = .returned (.int .i64 (t.size : Int)) ∧ w = w') := blen_any
  have CW : Hid (∀ B b t s w, Bd w B b t → t.size + s.size ≤ 140737488355328 → B ≤ w.heap.size → Calls Tryz.prog 41 #[.pointer (some ⟨b, 0, none⟩), .string s] w fun e w' => e = .returned (.tuple #[.int .i64 (s.size : Int), .nilIface]) ∧ Bd w' B b (t ++ s) ∧ Kp (Fr B) w w') := bwrite_any
  have CS : Hid (∀ B b t w, Bd w B b t → B ≤ w.heap.size → Calls Tryz.prog 43 #[.pointer (some ⟨b, 0, none⟩)] w fun e w' => e = .returned (.string t) ∧ Kp (Fr B) w w') := bstr_any
  have n0 : (0 : Int) ≤ (n : Int) := by omega
  have n1 : (n : Int) ≤ 256 := by omega
  generalize gt id z n (K, V) = GT at *
  generalize gl id z n (K, V) = GL at *
  generalize hvi : vi id K V = f at *
  generalize hvs : vs id K V = g at *
  have HF : Hid (f 0 = V ∧ g 0 = .empty ∧ ∀ i, g (i + 1) = g i ++ f (i + 1)) := show f 0 = V ∧ g 0 = .empty ∧ ∀ i, g (i + 1) = g i ++ f (i + 1) from by
    subst hvi hvs
    exact ⟨rfl, rfl, fun _ => rfl⟩
  clear h hK hz hz0 hKz hV hn hvi hvs
  go_enter Tryz.func31, Tryz.ntmps31
  go_wp2_with fail
  have B0 := Bd.new w
  have K0 : Kp (Fr w.heap.size) w (w.alloc (.cells #[.pointer none, .slice none 0 0] 85)) := ((Sm.refl w).alloc _).kp _
  generalize w.alloc (.cells #[.pointer none, .slice none 0 0] 85) = v at *
  have hw0 : w.heap.size ≤ w.heap.size := Nat.le_refl _
  obtain ⟨b, hb⟩ : ∃ b, w.heap.size = b := ⟨_, rfl⟩
  have HB : Hid (w.heap.size = b) := hb
  rw [hb]
  rw [hb] at B0
  clear hb
  go_loopw [1] (fun x u => ∃ i : Nat, x = .string (f i) ∧ Bd u b b ((g i).extract 0 n) ∧ (i = 0 ∨ (i - 1) * z < n) ∧ Kp (Fr w.heap.size) w u) (fun _ u => n - bl u b)
  case atStart =>
    obtain ⟨e1, e2, _⟩ := HF.out
    exact ⟨0, by rw [e1], by rw [e2, ex_all _ _ (Nat.zero_le n)]; exact B0, Or.inl rfl, K0⟩
  case round =>
    clear B0 K0
    obtain ⟨i, rfl, B0, hi, K0⟩ := hrel
    have x0 := HK.out.fr K0 hw0
    have hgs := HS.out i
    have hbw : b ≤ wr.heap.size := by rw [← HB.out]; exact K0.size
    by_cases c : i * z < n
    · obtain ⟨T, hT⟩ : ∃ T, g i = T := ⟨_, rfl⟩
      have hE : (g i).extract 0 n = T := by rw [ex_all _ _ (by omega), hT]
      rw [hE] at B0
      rw [hT] at hgs
      have hfs := HI.out (i + 1)
      have HN : Hid (T ++ (f (i + 1)).extract 0 (n - T.size) = (g (i + 1)).extract 0 n) := show _ = _ from by
        rw [(HF.out).2.2 i, hT, ex_app _ _ _ (by omega)]
      have HR : Hid (i + 1 = 0 ∨ (i + 1 - 1) * z < n) := Or.inr c
      have HBL : Hid (Unit → bl wr b = T.size) := fun _ => B0.bl
      have hTn : (T.size : Int) < (n : Int) := by omega
      have hA : ((f (i + 1)).size : Int) = (z : Int) := by omega
      have HZ2 := HZ.out
      clear hE hT hi c hgs
      have HL : Hid (∀ m, T.size + ((f (i + 1)).extract 0 m).size ≤ 140737488355328) := fun m => by
        rw [ex_sz]
        omega
      have HX : Hid (Unit → (f (i + 1)).extract 0 (min (z : Int) ((n : Int) - (T.size : Int))).toNat = (f (i + 1)).extract 0 (n - T.size)) := fun _ => by
        by_cases c : (z : Int) ≤ (n : Int) - (T.size : Int)
        · rw [Int.min_eq_left c, ex_all _ _ (by omega), ex_all _ _ (by omega)]
        · rw [Int.min_eq_right (by omega), show ((n : Int) - (T.size : Int)).toNat = n - T.size by omega]
      have HM : Hid (0 < ((f (i + 1)).extract 0 (n - T.size)).size) := show _ < _ by rw [ex_sz]; omega
      have HNB : Hid (T.size < n) := show T.size < n by omega
      clear HZ2 hfs
      have k1 := x0.sm ((Sm.refl wr).alloc (.cells #[.string (f i)] 9))
      have R1 := Bk.new wr #[.string (f i)] 9
      go_wp2_with (first
        | (go_at_call 42; first | (refine (CL.out _ _ _ _ B1).mono ?_; rintro e w' ⟨rfl, rfl⟩) | (refine (CL.out _ _ _ _ B0).mono ?_; rintro e w' ⟨rfl, rfl⟩))
        | (go_at_call 32; refine (C1.out _ _ _ k1 R1).mono ?_; rintro e u1 ⟨rfl, S1⟩; have B1 := B0.sm (((Sm.refl wr).alloc (.cells #[.string (f i)] 9)).trans S1); have hb1 := Nat.le_trans hbw (((Sm.refl wr).alloc (.cells #[.string (f i)] 9)).trans S1).size)
        | (go_at_call 41; refine (CW.out _ _ _ _ _ B1 (HL.out _) hb1).mono ?_; rintro e u2 ⟨rfl, B2, K2⟩))
      go_roundw
      case rel =>
        refine ⟨i + 1, rfl, ?_, HR.out, ((K0.alloc _).trans (S1.kp _)).trans ?_⟩
        · rw [HX.out ()] at B2
          rw [← HN.out]
          exact B2
        · rw [HB.out]
          exact K2
      case measure =>
        have e1 := B2.bl
        rw [HX.out (), ByteArray.size_append] at e1
        have e2 := HBL.out ()
        have := HM.out
        have := HNB.out
        omega
    · have HQ := HG.out i (by omega) hi
      obtain ⟨T, hT⟩ : ∃ T, (g i).extract 0 n = T := ⟨_, rfl⟩
      have hTs : T.size = n := by rw [← hT, ex_sz, hgs]; omega
      rw [hT] at HQ B0
      have HQ' : Hid (GT = T ∧ GL = f i) := HQ
      have hTn : ¬ (T.size : Int) < (n : Int) := by omega
      clear HQ hT hTs hgs c hi
      go_wp2_with (first
        | (go_at_call 42; refine (CL.out _ _ _ _ B0).mono ?_; rintro e w' ⟨rfl, rfl⟩)
        | (go_at_call 43; refine (CS.out _ _ _ _ B0 hbw).mono ?_; rintro e u1 ⟨rfl, K1⟩))
      go_ret2
      refine ⟨by rw [HQ'.out.1, HQ'.out.2]; rfl, Sm.of (K0.trans ?_)⟩
      rw [HB.out]
      exact K1
end Go.Proofs.YtconibmdlfkopaaGreatDoor
