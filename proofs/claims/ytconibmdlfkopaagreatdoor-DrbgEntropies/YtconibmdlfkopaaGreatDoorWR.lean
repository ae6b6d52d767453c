/-
  The law of a region with one store behind reads and calls that make memory: one walk in the text's order, in every world in which what lay there lies as it was.
-/
/-
  The documents' Drbg: same, update.
-/
import Derived.Test.YtconibmdlfkopaaGreatDoorXD
import Derived.Test.YtconibmdlfkopaaGreatDoorWE
namespace Go.Proofs.YtconibmdlfkopaaGreatDoor
open Go.RowKit
section
variable {P : Program} {C : World → Prop} {L : List Oper}
theorem wp_region_tailC {id : Nat} {Q : Exit → Act → World → Prop} {a : Act} {w : World} (hm : P.follows .mixedOrders = true) (hB : Region.lexB .any (swp L).toArray = true) (hT : tailB L = true) (hC : C w.drew)
    (h : wpQuiet P (swp L).toArray C (fun a' => ∀ w', C w' → wpList P L.toArray Q (lastL L) a' w') (swp L) a) : (Code.region id L.toArray true).wp P Q a w := by
  have hT' := hT
  simp only [tailB, Bool.and_eq_true] at hT'
  obtain ⟨⟨⟨hl, hb⟩, hs⟩, hc⟩ := hT'
  obtain ⟨ol, hol, hd, hg, h0⟩ := last_some hl
  simp only [Region.lexB, Bool.and_eq_true] at hB
  have hdrop : L.drop (L.length - 1) = [ol] := by
    have hlt : L.length - 1 < L.length := by omega
    rw [List.drop_eq_getElem_cons hlt, List.drop_eq_nil_of_le (by omega)]
    rw [List.getElem?_eq_getElem hlt] at hol
    rw [Option.some.inj hol]
  rw [lastL_is, hdrop] at h
  refine wp_region_any hm (wpAny_tail (C := C) (R := fun a' => ∀ w', C w' → wpList P L.toArray Q [ol] a' w') hT ?_ _ _ _ _ hC ⟨by simp, fun j oj _ hl => ?_, fun t _ ht => ?_⟩ ?_ ?_)
  · intro a' w' hw' hr
    have := hr w' hw'
    unfold wpOp
    rw [List.getElem?_toArray, hol]
    exact this
  · rw [getD_replicate_false] at hl; cases hl
  · simp at ht; simp [ht]
  · have : L.length - 1 < L.length := by omega
    simp [this]
  · have := wpAnyQ_lex (P := P) (C := C) (md := .any) hB.1 (swp L) 0 (Array.replicate (swp L).toArray.size false) a (by simp) (by simpa using hB.2) h
    rw [show (swp L).toArray.size = L.toArray.size by simp [swp_len], swp_len] at this
    simpa using this
/-- The worlds in which all that lay in w lies as it was. -/
def Sx (w : World) : Type := { u : World // Sm w u }
/-- The world itself. -/
def Sx.to {w : World} (x : Sx w) : World := x.1
def Sc (w : World) (u : World) : Prop := ∃ x : Sx w, u = x.to
theorem Sx.ne (w : World) : Nonempty (Sx w) := ⟨⟨w, Sm.refl w⟩⟩
theorem Sx.sm {w : World} (x : Sx w) : Sm w x.to := x.2
theorem Sc.mk {w u : World} (h : Sm w u) : Sc w u := ⟨⟨u, h⟩, rfl⟩
theorem Sc.drew (w : World) : Sc w w.drew := Sc.mk (Sm.refl w).drew
theorem Sx.call {w : World} {x : Sx w} {P : Program} {f : FuncId} {args : Array Value} {v : Value} (h : Calls P f args x.to fun e w' => e = .returned v ∧ Sm x.to w') : Calls P f args x.to fun e w' => e = .returned v ∧ ∃ y : Sx w, w' = y.to :=
  h.mono fun _ u ⟨he, hs⟩ => ⟨he, ⟨u, x.2.trans hs⟩, rfl⟩
theorem Sx.cell {w : World} {b : Nat} {c : Array Value} {t : TypeId} (h : Bk w b c t) (x : Sx w) (i : Nat) : x.to.cell? ⟨b, i, none⟩ = c[i]? := (h.sm x.2).cell i
end
end Go.Proofs.YtconibmdlfkopaaGreatDoor
namespace Go.Proofs.YtconibmdlfkopaaGreatDoor
open Go.RowKit
/-- The documents' generator at r. -/
def Rfg (w : World) (r : Nat) (id : Int) (p : ByteArray × ByteArray) (c : Int) : Prop := Bk w r #[.int .i64 id, .string p.1, .string p.2, .int .i64 c] 40
theorem Rfg.sm {w w' : World} {d : Nat} {id : Int} {p : ByteArray × ByteArray} {c : Int} (h : Rfg w d id p c) (k : Sm w w') : Rfg w' d id p c := Bk.sm h k
theorem Rfg.far {w w' : World} {d a : Nat} {id : Int} {p : ByteArray × ByteArray} {c : Int} (h : Rfg w d id p c) (k : Kp (At1 a) w w') (hn : d ≠ a) : Rfg w' d id p c := Bk.kp h k hn
/-- A row of which the first k bytes are x. -/
def sx (x k j : Nat) : Nat := if j < k then x else 0
attribute [local go_sem ↓] mkS_is cvS_is
set_option maxRecDepth 100000 in
set_option maxHeartbeats 800000 in
theorem rsame_any (n x : Nat) (hn : n ≤ 64) (w : World) : Calls Tryz.prog 27 #[.int .i64 (n : Int), .int .u8 (x : Int)] w fun e w' => e = .returned (.string (bt (fun _ => x) n)) ∧ Sm w w' := by
  have mk := fun w => mkS_run w .i64 .i64 n (by omega)
  have n0 : (0 : Int) ≤ (n : Int) := by omega
  have n1 : (n : Int) ≤ 64 := by omega
  clear hn
  go_enter Tryz.func27, Tryz.ntmps27
  go_wp2
  have b1 := Bk.new w (br n fun _ => 0) 5
  have S1 := (Sm.refl w).alloc (.cells (br n fun _ => 0) 5)
  generalize w.alloc (.cells (br n fun _ => 0) 5) = v at *
  clear mk
  go_loopw [6] (fun i u => ∃ k : Nat, k ≤ n ∧ i = .int .i64 (k : Int) ∧ Bk u w.heap.size (br n (sx x k)) 5 ∧ Kp (Fr w.heap.size) w u) (fun i _ => n - (intOf i).toNat)
  case atStart => exact ⟨0, by omega, rfl, b1, S1.kp _⟩
  case round =>
    clear b1 S1
    obtain ⟨k, hk, rfl, b1, K1⟩ := hrel
    by_cases c : k < n
    · have k0 : (0 : Int) ≤ (k : Int) := by omega
      have k1 : (k : Int) < (n : Int) := by omega
      have c2 := (b1.cell k).trans (br_get n _ k c)
      have f2 := b1.fz k
      go_wp2
      go_roundw
      case rel =>
        refine ⟨k + 1, by omega, by go_num, (b1.set k _).cast ?_, K1.setCell _ _ (Nat.le_refl _)⟩
        refine br_put n _ _ k _ ?_ fun i hi hne => ?_
        · unfold sx
          rw [if_pos (by omega)]
        · unfold sx
          by_cases d : i < k
          · rw [if_pos d, if_pos (by omega)]
          · rw [if_neg d, if_neg (by omega)]
      case measure => simp [intOf]; omega
    · have ki : ¬ (k : Int) < (n : Int) := by omega
      have cv := fun c => cvS_run _ w.heap.size 0 n c (sx x k) fun i hi => by rw [Nat.zero_add]; exact (b1.cell i).trans (br_get n _ i hi)
      have HE : Hid (Unit → bt (sx x k) n = bt (fun _ => x) n) := fun _ => bt_ext _ _ _ fun i hi => by unfold sx; rw [if_pos (by omega)]
      clear c hk
      go_wp2
      go_ret
      exact ⟨congrArg (fun z => Ending.returned (Value.string z)) (HE.out ()), Sm.of K1⟩
set_option maxRecDepth 100000 in
set_option maxHeartbeats 3200000 in
theorem rupd_any (d : Nat) (id z kk : Int) (h : Hi id z kk) (p : ByteArray × ByteArray) (hp : Wf z p) (c : Int) (s : ByteArray) (hs : s.size ≤ 900) (w : World) (hD : Rfg w d id p c) :
    Calls Tryz.prog 28 #[.pointer (some ⟨d, 0, none⟩), .string s] w fun e w' => e = .returned (.tuple #[]) ∧ Kp (At1 d) w w' ∧ Rfg w' d id (upd id s p) c := by
  obtain ⟨K, V⟩ := p
  have hz := h.z64
  obtain ⟨hk1, hk2⟩ := hp
  have hk1 : (K.size : Int) = z := hk1
  have hk2 : (V.size : Int) = z := hk2
  have s0 : (V ++ ⟨#[0]⟩ : ByteArray).size = V.size + 1 := ByteArray.size_append
  have s1 : ((V ++ ⟨#[0]⟩) ++ s : ByteArray).size = V.size + 1 + s.size := by rw [ByteArray.size_append, s0]
  obtain ⟨A, hA⟩ : ∃ A, mac id K ((V ++ ⟨#[0]⟩) ++ s) = A := ⟨_, rfl⟩
  have hAs := mac_size h K ((V ++ ⟨#[0]⟩) ++ s)
  rw [hA] at hAs
  obtain ⟨B, hB⟩ : ∃ B, mac id A V = B := ⟨_, rfl⟩
  have hBs := mac_size h A V
  rw [hB] at hBs
  have hE : st1 id ⟨#[0]⟩ s (K, V) = (A, B) := by
    show (mac id K (V ++ (⟨#[0]⟩ ++ s)), mac id (mac id K (V ++ (⟨#[0]⟩ ++ s))) V) = (A, B)
    rw [← app_assoc, hA, hB]
  have s2 : (B ++ ⟨#[1]⟩ : ByteArray).size = B.size + 1 := ByteArray.size_append
  have s3 : ((B ++ ⟨#[1]⟩) ++ s : ByteArray).size = B.size + 1 + s.size := by rw [ByteArray.size_append, s2]
  obtain ⟨F, hF⟩ : ∃ F, mac id A ((B ++ ⟨#[1]⟩) ++ s) = F := ⟨_, rfl⟩
  have hFs := mac_size h A ((B ++ ⟨#[1]⟩) ++ s)
  rw [hF] at hFs
  obtain ⟨G, hG⟩ : ∃ G, mac id F B = G := ⟨_, rfl⟩
  have hE2 : st1 id ⟨#[1]⟩ s (A, B) = (F, G) := by
    show (mac id A (B ++ (⟨#[1]⟩ ++ s)), mac id (mac id A (B ++ (⟨#[1]⟩ ++ s))) B) = (F, G)
    rw [← app_assoc, hF, hG]
  have C1 : Hid (∀ w, Calls Tryz.prog 33 #[.int .i64 id, .string K, .string ((V ++ ⟨#[0]⟩) ++ s)] w fun e w' => e = .returned (.string A) ∧ Sm w w') := fun w => hA ▸ rhmac_any id z kk h K _ (by omega) (by omega) w
  have C2 : Hid (∀ w, Calls Tryz.prog 33 #[.int .i64 id, .string A, .string V] w fun e w' => e = .returned (.string B) ∧ Sm w w') := fun w => hB ▸ rhmac_any id z kk h A _ (by omega) (by omega) w
  have C3 : Hid (∀ w, Calls Tryz.prog 33 #[.int .i64 id, .string A, .string ((B ++ ⟨#[1]⟩) ++ s)] w fun e w' => e = .returned (.string F) ∧ Sm w w') := fun w => hF ▸ rhmac_any id z kk h A _ (by omega) (by omega) w
  have C4 : Hid (∀ w, Calls Tryz.prog 33 #[.int .i64 id, .string F, .string B] w fun e w' => e = .returned (.string G) ∧ Sm w w') := fun w => hG ▸ rhmac_any id z kk h F _ (by omega) (by omega) w
  have D0 : Bk w d #[.int .i64 id, .string K, .string V, .int .i64 c] 40 := hD
  have i1 : (V.size : Int) + 1 ≤ 1000 := by omega
  have i2 : ((V ++ ⟨#[0]⟩ : ByteArray).size : Int) + (s.size : Int) ≤ 1000 := by omega
  have i3 : (B.size : Int) + 1 ≤ 1000 := by omega
  have i4 : ((B ++ ⟨#[1]⟩ : ByteArray).size : Int) + (s.size : Int) ≤ 1000 := by omega
  have hU : (s.size = 0 ∧ upd id s (K, V) = (A, B)) ∨ (¬ s.size = 0 ∧ upd id s (K, V) = (F, G)) := by
    unfold upd
    rw [hE]
    by_cases e : s.size = 0
    · exact Or.inl ⟨e, if_pos e⟩
    · exact Or.inr ⟨e, by rw [if_neg e, hE2]⟩
  clear h hs hA hB hE hz hk1 hk2 hAs hBs hFs hD hE2 hF hG s0 s1 s2 s3
  generalize hq : upd id s (K, V) = q at *
  have HQ : Hid ((s.size = 0 ∧ q = (A, B)) ∨ (¬ s.size = 0 ∧ q = (F, G))) := hU
  clear hU hq
  go_enter Tryz.func28, Tryz.ntmps28
  go_wp2_with fail
  go_cut [] from 4 to 22 (fun wx => Bk wx d #[.int .i64 id, .string A, .string V, .int .i64 c] 40 ∧ Kp (At1 d) w wx)
  case first =>
    have ne := Sx.ne w
    have y0 : ∀ x : Sx w, x.to.cell? ⟨d, 0, none⟩ = some (.int .i64 id) := fun x => Sx.cell D0 x 0
    have y1 : ∀ x : Sx w, x.to.cell? ⟨d, 1, none⟩ = some (.string K) := fun x => Sx.cell D0 x 1
    have y2 : ∀ x : Sx w, x.to.cell? ⟨d, 2, none⟩ = some (.string V) := fun x => Sx.cell D0 x 2
    refine wp_region_tailC (C := fun u => ∃ x : Sx w, u = x.to) (by kernel_rfl) (by kernel_rfl) (by kernel_rfl) (Sc.drew w) ?_
    simp only [swp, nop, lastL]
    repeat (go_big_quiet_step (first | (go_at_call 33; exact Sx.call (C1.out _))))
    refine wpQuiet_nil ?_
    rintro u ⟨x, rfl⟩
    have X1 := D0.sm x.sm
    have X2 := x.sm
    generalize x.to = u at *
    have fx := X1.fz 1
    have cx := X1.cell 1
    clear y0 y1 y2 ne
    go_wp2
    go_meet
    exact ⟨X1.set 1 _, (X2.kp _).setCell _ _ rfl⟩
  case rest =>
    obtain ⟨E0, K0⟩ := hcut
    clear D0 C1
    go_wp2_with fail
    go_cut [] from 23 to 38 (fun wx => Bk wx d #[.int .i64 id, .string A, .string B, .int .i64 c] 40 ∧ Kp (At1 d) w wx)
    case first =>
      have ne := Sx.ne wc
      have y0 : ∀ x : Sx wc, x.to.cell? ⟨d, 0, none⟩ = some (.int .i64 id) := fun x => Sx.cell E0 x 0
      have y1 : ∀ x : Sx wc, x.to.cell? ⟨d, 1, none⟩ = some (.string A) := fun x => Sx.cell E0 x 1
      have y2 : ∀ x : Sx wc, x.to.cell? ⟨d, 2, none⟩ = some (.string V) := fun x => Sx.cell E0 x 2
      refine wp_region_tailC (C := fun u => ∃ x : Sx wc, u = x.to) (by kernel_rfl) (by kernel_rfl) (by kernel_rfl) (Sc.drew wc) ?_
      simp only [swp, nop, lastL]
      repeat (go_big_quiet_step (first | (go_at_call 33; exact Sx.call (C2.out _))))
      refine wpQuiet_nil ?_
      rintro u ⟨x, rfl⟩
      have X1 := E0.sm x.sm
      have X2 := x.sm
      generalize x.to = u at *
      have fx := X1.fz 2
      have cx := X1.cell 2
      clear y0 y1 y2 ne
      go_wp2
      go_meet
      exact ⟨X1.set 2 _, (K0.trans (X2.kp _)).setCell _ _ rfl⟩
    case rest =>
      obtain ⟨E1, K1⟩ := hcut
      clear E0 K0 C2
      rcases HQ.out with ⟨e0, rfl⟩ | ⟨e0, rfl⟩
      · have e1 := no_text e0
        subst e1
        go_wp2
        go_end0
        exact ⟨rfl, K1, E1⟩
      · have e1 := ne_text e0
        clear e0 HQ
        go_wp2_with fail
        go_cut [] from 41 to 59 (fun wx => Bk wx d #[.int .i64 id, .string F, .string B, .int .i64 c] 40 ∧ Kp (At1 d) w wx)
        case first =>
          have ne := Sx.ne wc
          have y0 : ∀ x : Sx wc, x.to.cell? ⟨d, 0, none⟩ = some (.int .i64 id) := fun x => Sx.cell E1 x 0
          have y1 : ∀ x : Sx wc, x.to.cell? ⟨d, 1, none⟩ = some (.string A) := fun x => Sx.cell E1 x 1
          have y2 : ∀ x : Sx wc, x.to.cell? ⟨d, 2, none⟩ = some (.string B) := fun x => Sx.cell E1 x 2
          refine wp_region_tailC (C := fun u => ∃ x : Sx wc, u = x.to) (by kernel_rfl) (by kernel_rfl) (by kernel_rfl) (Sc.drew wc) ?_
          simp only [swp, nop, lastL]
          repeat (go_big_quiet_step (first | (go_at_call 33; exact Sx.call (C3.out _))))
          refine wpQuiet_nil ?_
          rintro u ⟨x, rfl⟩
          have X1 := E1.sm x.sm
          have X2 := x.sm
          generalize x.to = u at *
          have fx := X1.fz 1
          have cx := X1.cell 1
          clear y0 y1 y2 ne
          go_wp2
          go_meet
          exact ⟨X1.set 1 _, (K1.trans (X2.kp _)).setCell _ _ rfl⟩
        case rest =>
          obtain ⟨E2, K2⟩ := hcut
          clear E1 K1 C3
          go_wp2_with fail
          have ne := Sx.ne wc
          have y0 : ∀ x : Sx wc, x.to.cell? ⟨d, 0, none⟩ = some (.int .i64 id) := fun x => Sx.cell E2 x 0
          have y1 : ∀ x : Sx wc, x.to.cell? ⟨d, 1, none⟩ = some (.string F) := fun x => Sx.cell E2 x 1
          have y2 : ∀ x : Sx wc, x.to.cell? ⟨d, 2, none⟩ = some (.string B) := fun x => Sx.cell E2 x 2
          refine wp_region_tailC (C := fun u => ∃ x : Sx wc, u = x.to) (by kernel_rfl) (by kernel_rfl) (by kernel_rfl) (Sc.drew wc) ?_
          simp only [swp, nop, lastL]
          repeat (go_big_quiet_step (first | (go_at_call 33; exact Sx.call (C4.out _))))
          refine wpQuiet_nil ?_
          rintro u ⟨x, rfl⟩
          have X1 := E2.sm x.sm
          have X2 := x.sm
          generalize x.to = u at *
          have fx := X1.fz 2
          have cx := X1.cell 2
          clear y0 y1 y2 ne
          go_wp2
          go_end0
          exact ⟨rfl, (K2.trans (X2.kp _)).setCell _ _ rfl, X1.set 2 _⟩
end Go.Proofs.YtconibmdlfkopaaGreatDoor
