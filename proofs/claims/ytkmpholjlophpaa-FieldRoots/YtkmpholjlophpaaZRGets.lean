/-
  The curves: curvetref13.Get.
-/
/-
  The curves: what curvetref13.Get hands back, whatever the id.
-/
import Derived.Test.YtkmpholjlophpaaZRRow
import Derived.Test.YtkmpholjlophpaaZMixQ
import Derived.Test.YtkmpholjlophpaaZRSub
import Derived.Test.YtkmpholjlophpaaZRShort
import Derived.Test.YtkmpholjlophpaaZFB
import Derived.Test.YtkmpholjlophpaaZPC
namespace Go.Proofs.Ytkmpholjlophpaa
open Go.RowKit
/-- A curve's seven cells. -/
theorem loadC_is (v : Value) : Instr.loadAt 32 v = loadS 32 v := rfl
theorem storeC_is (p v : Value) : Instr.storeAt 32 p v = storeS 32 p v := rfl
theorem loadC (w : World) (b : Nat) (hs : (blk w b).size = 7) : (loadS 32 (.pointer (some ⟨b, 0, none⟩))).run Try.prog w = .ok (.agg (blk w b)) w :=
  loadS_run 7 Try.underlying32 rfl (by kernel_rfl) w b hs
theorem storeC (w : World) (b : Nat) (id : Int) (p0 p1 p2 p3 p4 : Option Addr) (l0 l1 l2 l3 l4 n0 n1 n2 n3 n4 : Nat) (hs : (blk w b).size = 7) (hf : frz w b = (0, 0)) :
    (storeS 32 (.pointer (some ⟨b, 0, none⟩)) (.agg #[.int .i64 id, .slice p0 l0 n0, .slice none 0 0, .slice p1 l1 n1, .slice p2 l2 n2, .slice p3 l3 n3, .slice p4 l4 n4])).run Try.prog w = .ok () (setBlk w b #[.int .i64 id, .slice p0 l0 n0, .slice none 0 0, .slice p1 l1 n1, .slice p2 l2 n2, .slice p3 l3 n3, .slice p4 l4 n4]) :=
  storeS_run 7 (by decide) (by kernel_rfl) w b _ rfl (by simp [Value.oneCell']) hs hf
theorem storeC7 (w : World) (b : Nat) (id : Int) (p0 p1 p2 p3 p4 p5 : Option Addr) (l0 l1 l2 l3 l4 l5 n0 n1 n2 n3 n4 n5 : Nat) (hs : (blk w b).size = 7) (hf : frz w b = (0, 0)) :
    (storeS 32 (.pointer (some ⟨b, 0, none⟩)) (.agg #[.int .i64 id, .slice p0 l0 n0, .slice p5 l5 n5, .slice p1 l1 n1, .slice p2 l2 n2, .slice p3 l3 n3, .slice p4 l4 n4])).run Try.prog w = .ok () (setBlk w b #[.int .i64 id, .slice p0 l0 n0, .slice p5 l5 n5, .slice p1 l1 n1, .slice p2 l2 n2, .slice p3 l3 n3, .slice p4 l4 n4]) :=
  storeS_run 7 (by decide) (by kernel_rfl) w b _ rfl (by simp [Value.oneCell']) hs hf
/-- A curve's cells: its id, its P, and five more numbers. -/
def cvA (id : Int) (p : Option Addr) (l n : Nat) (q : Nat → Option Addr × Nat × Nat) : Array Value := #[.int .i64 id, .slice p l n, .slice (q 0).1 (q 0).2.1 (q 0).2.2, .slice (q 1).1 (q 1).2.1 (q 1).2.2, .slice (q 2).1 (q 2).2.1 (q 2).2.2, .slice (q 3).1 (q 3).2.1 (q 3).2.2, .slice (q 4).1 (q 4).2.1 (q 4).2.2]
theorem cvA_size (id : Int) (p : Option Addr) (l n : Nat) (q : Nat → Option Addr × Nat × Nat) : (cvA id p l n q).size = 7 := rfl
theorem cvA_0 (id : Int) (p : Option Addr) (l n : Nat) (q : Nat → Option Addr × Nat × Nat) : (cvA id p l n q)[0]? = some (.int .i64 id) := rfl
theorem cvA_1 (id : Int) (p : Option Addr) (l n : Nat) (q : Nat → Option Addr × Nat × Nat) : (cvA id p l n q)[1]? = some (.slice p l n) := rfl
theorem storeCv (w : World) (b : Nat) (id : Int) (p : Option Addr) (l n : Nat) (q : Nat → Option Addr × Nat × Nat) (hs : (blk w b).size = 7) (hf : frz w b = (0, 0)) :
    (storeS 32 (.pointer (some ⟨b, 0, none⟩)) (.agg (cvA id p l n q))).run Try.prog w = .ok () (setBlk w b (cvA id p l n q)) :=
  storeS_run 7 (by decide) (by kernel_rfl) w b _ rfl (by simp [cvA, Value.oneCell']) hs hf
theorem storeC0 (w : World) (b : Nat) (hs : (blk w b).size = 7) (hf : frz w b = (0, 0)) :
    (storeS 32 (.pointer (some ⟨b, 0, none⟩)) (.agg #[.int .i64 0, .slice none 0 0, .slice none 0 0, .slice none 0 0, .slice none 0 0, .slice none 0 0, .slice none 0 0])).run Try.prog w = .ok () (setBlk w b #[.int .i64 0, .slice none 0 0, .slice none 0 0, .slice none 0 0, .slice none 0 0, .slice none 0 0, .slice none 0 0]) :=
  storeS_run 7 (by decide) (by kernel_rfl) w b _ rfl (by simp [Value.oneCell']) hs hf
def buildG (t : TypeId) (p : Array (Nat × Value)) : Sem Value := Instr.build t p
theorem buildC_is (p : Array (Nat × Value)) : Instr.build 32 p = buildG 32 p := rfl
theorem buildC0 (w : World) : (buildG 32 #[]).run Try.prog w = .ok (.agg #[.int .i64 0, .slice none 0 0, .slice none 0 0, .slice none 0 0, .slice none 0 0, .slice none 0 0, .slice none 0 0]) w := by kernel_rfl
theorem buildC6 (w : World) (id : Int) (p0 p1 p2 p3 p4 : Option Addr) (l0 l1 l2 l3 l4 n0 n1 n2 n3 n4 : Nat) :
    (buildG 32 #[(0, .int .i64 id), (1, .slice p0 l0 n0), (3, .slice p1 l1 n1), (4, .slice p2 l2 n2), (5, .slice p3 l3 n3), (6, .slice p4 l4 n4)]).run Try.prog w = .ok (.agg #[.int .i64 id, .slice p0 l0 n0, .slice none 0 0, .slice p1 l1 n1, .slice p2 l2 n2, .slice p3 l3 n3, .slice p4 l4 n4]) w := by kernel_rfl
theorem eqSl (b : Nat) (w : World) : (binOp .eql 66 (.slice (some ⟨b, 0, none⟩) 6 6) (.slice none 0 0)).run Try.prog w = .ok (.bool false) w := by kernel_rfl
theorem eqSl0 (w : World) : (binOp .eql 66 (.slice none 0 0) (.slice none 0 0)).run Try.prog w = .ok (.bool true) w := by kernel_rfl
attribute [local go_sem ↓] loadNat_is loadArr_is loadWide_is loadArrW_is storeNat_is storeWide_is
attribute [local go_sem] loadNat loadArr loadWide loadArrW storeNat storeWide idxArr fold9 fold18 nw_size nw_elem pre_self pre_1 pre_2 pre_3 pre_4 pre_5 pre_6 pre_7 pre_8 pre_9 pre_10 pre_11 pre_12 pre_13 pre_14 pre_15 pre_16 pre_17 pre_18 pre_19 pre_20 pre_21 pre_22 pre_23 pre_24 pre_25 pre_26 pre_27 pre_28 pre_29 pre_30 pre_31 pre_32 pre_33 pre_34 pre_35 pre_36 pre_37 pre_38 pre_39 pre_40 gro_size gro_drew gro_drewN drew_gro drewN_gro gro_gro blk_gro frz_gro blk_drew frz_drew blk_drewN frz_drewN blk_alloc_at frz_alloc_at blk_alloc frz_alloc cell_gro frozen_gro cell_alloc_pre frozen_alloc_pre setCell_drewN alloc_drewN setBlk_drew setBlk_drewN setBlk_alloc_at setBlk_alloc setBlk_gro setCell_gro setCell_alloc_pre size_setBlk size_setCell
attribute [local go_sem ↓] loadC_is storeC_is buildC_is bsl_is
attribute [local go_sem] eqSl eqSl0 loadC storeC0 buildC0 buildC6 frz_setBlk blk_setBlk setBlk_setBlk
theorem noU (id : Int) (c1 c2 c3 c4 c5 c6 : Option Addr × Nat × Nat) (i : Nat) (n : Int) : (#[.int .i64 id, .slice c1.1 c1.2.1 c1.2.2, .slice c2.1 c2.2.1 c2.2.2, .slice c3.1 c3.2.1 c3.2.2, .slice c4.1 c4.2.1 c4.2.2, .slice c5.1 c5.2.1 c5.2.2, .slice c6.1 c6.2.1 c6.2.2] : Array Value)[i]? ≠ some (Value.int .u32 n) := by
  intro h
  match i, h with
  | 0, h => simp at h
  | 1, h => simp at h
  | 2, h => simp at h
  | 3, h => simp at h
  | 4, h => simp at h
  | 5, h => simp at h
  | 6, h => simp at h
  | k + 7, h => simp at h
set_option maxRecDepth 100000 in
set_option maxHeartbeats 4000000 in
theorem get_of (id : Int) (s0 s1 s2 s3 s4 s5 : ByteArray) (x0 x2 x3 x4 x5 : Nat)
    (HR : ∀ w, Calls Try.prog 38 #[.int .i64 id] w fun e w' => ∃ b, e = .returned (.slice (some ⟨b, 0, none⟩) 6 6) ∧ blk w' b = #[.string s0, .string s1, .string s2, .string s3, .string s4, .string s5] ∧ Pre (b + 1) w'.heap.size ∧ Gr w w')
    (H0 : ∀ w, Calls Try.prog 39 #[.string s0] w (Nm x0 w)) (H2 : ∀ w, Calls Try.prog 39 #[.string s2] w (Nm x2 w)) (H3 : ∀ w, Calls Try.prog 39 #[.string s3] w (Nm x3 w))
    (H4 : ∀ w, Calls Try.prog 39 #[.string s4] w (Nm x4 w)) (H5 : ∀ w, Calls Try.prog 39 #[.string s5] w (Nm x5 w))
    (h1 : (s1 = ⟨#[45]⟩ ∧ 3 ≤ x0 ∧ dl x0 ≤ 50000) ∨ ∃ x1, (s1.toList == [45]) = false ∧ ∀ w, Calls Try.prog 39 #[.string s1] w (Nm x1 w)) (w : World) :
    Calls Try.prog 13 #[.int .i64 id] w fun e w' => ∃ p n q, e = .returned (.tuple #[.agg (cvA id p (dl x0) n q), .bool true]) ∧ Sl w' p x0 ∧ Gr w w' := by
  have HR' : Hid (∀ w, Calls Try.prog 38 #[.int .i64 id] w fun e w' => ∃ b, e = .returned (.slice (some ⟨b, 0, none⟩) 6 6) ∧ blk w' b = #[.string s0, .string s1, .string s2, .string s3, .string s4, .string s5] ∧ Pre (b + 1) w'.heap.size ∧ Gr w w') := HR
  have HX0 : Hid (∀ w, Calls Try.prog 39 #[.string s0] w (Nm x0 w)) := H0
  have HX2 : Hid (∀ w, Calls Try.prog 39 #[.string s2] w (Nm x2 w)) := H2
  have HX3 : Hid (∀ w, Calls Try.prog 39 #[.string s3] w (Nm x3 w)) := H3
  have HX4 : Hid (∀ w, Calls Try.prog 39 #[.string s4] w (Nm x4 w)) := H4
  have HX5 : Hid (∀ w, Calls Try.prog 39 #[.string s5] w (Nm x5 w)) := H5
  clear HR H0 H2 H3 H4 H5
  go_enter Try.func13, Try.ntmps13
  go_upto_region 4 with (go_at_call 38; refine (HR'.out _).mono ?_; rintro e W1 ⟨rb, rfl, hrb, prb, G1⟩)
  have G0 : Gr w W1 := Gr.trans ((Gr.refl _).alloc _) G1
  have c1 : blk W1 w.heap.size = #[.int .i64 0, .slice none 0 0, .slice none 0 0, .slice none 0 0, .slice none 0 0, .slice none 0 0, .slice none 0 0] := by rw [G1.blk _ (by simp)]; simp [go_sem]
  have c2 : frz W1 w.heap.size = (0, 0) := by rw [G1.frz _ (by simp)]; simp [go_sem]
  have c3 : Pre (w.heap.size + 1) W1.heap.size := by have := G1.below.size; simp at this; exact this
  have hmk : ∀ f g : Nat → Value, (∀ j ∈ [4, 8, 12, 16, 20], f j = g j) → (fun f => #[.int .i64 id, f 4, .slice none 0 0, f 8, f 12, f 16, f 20]) f = (fun f => #[.int .i64 id, f 4, .slice none 0 0, f 8, f 12, f 16, f 20]) g := fun f g h => by
    show #[Value.int .i64 id, f 4, .slice none 0 0, f 8, f 12, f 16, f 20] = #[Value.int .i64 id, g 4, .slice none 0 0, g 8, g 12, g 16, g 20]
    rw [h 4 (by simp), h 8 (by simp), h 12 (by simp), h 16 (by simp), h 20 (by simp)]
  refine wp_region_mix (by kernel_rfl) (by kernel_rfl) (RQ _ [.c (.int .i64 id), .c (.slice (some ⟨rb, 0, none⟩) 6 6), .c (.pointer (some ⟨rb, 0, none⟩)), .c (.string s0), .n x0, .c (.slice (some ⟨rb, 0, none⟩) 6 6), .c (.pointer (some ⟨rb, 2, none⟩)), .c (.string s2), .n x2, .c (.slice (some ⟨rb, 0, none⟩) 6 6), .c (.pointer (some ⟨rb, 3, none⟩)), .c (.string s3), .n x3, .c (.slice (some ⟨rb, 0, none⟩) 6 6), .c (.pointer (some ⟨rb, 4, none⟩)), .c (.string s4), .n x4, .c (.slice (some ⟨rb, 0, none⟩) 6 6), .c (.pointer (some ⟨rb, 5, none⟩)), .c (.string s5), .n x5] [4, 8, 12, 16, 20] (fun f => #[.int .i64 id, f 4, .slice none 0 0, f 8, f 12, f 16, f 20]) #[.int .i64 0, .slice none 0 0, .slice none 0 0, .slice none 0 0, .slice none 0 0, .slice none 0 0, .slice none 0 0] 21 22 23) (RQ.start _ _ _ _ _ _ _ _ _ _) ?hs ?hf
  case hs =>
    intro listed vals a1 v1 i o2 hz hR hF ho hl hd
    have hi : i < 24 := by simpa using (Array.getElem?_eq_some_iff.1 ho).1
    have hil : i < listed.size := by rw [hz]; simpa using hi
    have hc0 : v1.cell? ⟨rb, 0, none⟩ = some (.string s0) := by rw [cell_blk, hR.g.blk _ prb, hrb]; rfl
    have hc2 : v1.cell? ⟨rb, 2, none⟩ = some (.string s2) := by rw [cell_blk, hR.g.blk _ prb, hrb]; rfl
    have hc3 : v1.cell? ⟨rb, 3, none⟩ = some (.string s3) := by rw [cell_blk, hR.g.blk _ prb, hrb]; rfl
    have hc4 : v1.cell? ⟨rb, 4, none⟩ = some (.string s4) := by rw [cell_blk, hR.g.blk _ prb, hrb]; rfl
    have hc5 : v1.cell? ⟨rb, 5, none⟩ = some (.string s5) := by rw [cell_blk, hR.g.blk _ prb, hrb]; rfl
    obtain rfl | rfl | rfl | rfl | rfl | rfl | rfl | rfl | rfl | rfl | rfl | rfl | rfl | rfl | rfl | rfl | rfl | rfl | rfl | rfl | rfl | rfl | rfl | rfl : i = 0 ∨ i = 1 ∨ i = 2 ∨ i = 3 ∨ i = 4 ∨ i = 5 ∨ i = 6 ∨ i = 7 ∨ i = 8 ∨ i = 9 ∨ i = 10 ∨ i = 11 ∨ i = 12 ∨ i = 13 ∨ i = 14 ∨ i = 15 ∨ i = 16 ∨ i = 17 ∨ i = 18 ∨ i = 19 ∨ i = 20 ∨ i = 21 ∨ i = 22 ∨ i = 23 := by omega
    · obtain rfl := Option.some.inj ho
      have f0 := hF.old (s := 0) (v := .int .i64 id) (by kernel_rfl) rfl
      exact wp_val (.int .i64 id) (by simp [go_sem, f0]) ⟨_, rfl, RQ.quiet hmk 0 _ hil hl (by decide) (by decide) (by decide) (Gr.refl _) rfl hR⟩
    · obtain rfl := Option.some.inj ho
      have f0 := hF.old (s := 4) (v := .slice (some ⟨rb, 0, none⟩) 6 6) (by kernel_rfl) rfl
      exact wp_val (.slice (some ⟨rb, 0, none⟩) 6 6) (by simp [go_sem, f0]) ⟨_, rfl, RQ.quiet hmk 1 _ hil hl (by decide) (by decide) (by decide) (Gr.refl _) rfl hR⟩
    · obtain rfl := Option.some.inj ho
      have l0 := hd ⟨1, .data⟩ (by simp) rfl
      have f0 := hF.at (s := 12) (i := 1) (by kernel_rfl) (by simp) l0
      rw [show vals 1 = .slice (some ⟨rb, 0, none⟩) 6 6 from hR.k 1 l0] at f0
      exact wp_val (.pointer (some ⟨rb, 0, none⟩)) (by simp [go_sem, f0]) ⟨_, rfl, RQ.quiet hmk 2 _ hil hl (by decide) (by decide) (by decide) (Gr.refl _) rfl hR⟩
    · obtain rfl := Option.some.inj ho
      have l0 := hd ⟨2, .data⟩ (by simp) rfl
      have f0 := hF.at (s := 13) (i := 2) (by kernel_rfl) (by simp) l0
      rw [show vals 2 = .pointer (some ⟨rb, 0, none⟩) from hR.k 2 l0] at f0
      exact wp_val (.string s0) (by simp [go_sem, f0, hc0]) ⟨_, rfl, RQ.quiet hmk 3 _ hil hl (by decide) (by decide) (by decide) (Gr.refl _) rfl hR⟩
    · obtain rfl := Option.some.inj ho
      have l0 := hd ⟨3, .data⟩ (by simp) rfl
      have f0 := hF.at (s := 14) (i := 3) (by kernel_rfl) (by simp) l0
      rw [show vals 3 = .string s0 from hR.k 3 l0] at f0
      exact wp_retN (by simp [go_sem, f0]) (HX0.out _) (fun p n w2 hS hg => ⟨_, rfl, RQ.quiet hmk 4 _ hil hl (by decide) (by decide) (by decide) hg ⟨p, n, rfl, hS⟩ hR⟩)
    · obtain rfl := Option.some.inj ho
      have f0 := hF.old (s := 4) (v := .slice (some ⟨rb, 0, none⟩) 6 6) (by kernel_rfl) rfl
      exact wp_val (.slice (some ⟨rb, 0, none⟩) 6 6) (by simp [go_sem, f0]) ⟨_, rfl, RQ.quiet hmk 5 _ hil hl (by decide) (by decide) (by decide) (Gr.refl _) rfl hR⟩
    · obtain rfl := Option.some.inj ho
      have l0 := hd ⟨5, .data⟩ (by simp) rfl
      have f0 := hF.at (s := 16) (i := 5) (by kernel_rfl) (by simp) l0
      rw [show vals 5 = .slice (some ⟨rb, 0, none⟩) 6 6 from hR.k 5 l0] at f0
      exact wp_val (.pointer (some ⟨rb, 2, none⟩)) (by simp [go_sem, f0]) ⟨_, rfl, RQ.quiet hmk 6 _ hil hl (by decide) (by decide) (by decide) (Gr.refl _) rfl hR⟩
    · obtain rfl := Option.some.inj ho
      have l0 := hd ⟨6, .data⟩ (by simp) rfl
      have f0 := hF.at (s := 17) (i := 6) (by kernel_rfl) (by simp) l0
      rw [show vals 6 = .pointer (some ⟨rb, 2, none⟩) from hR.k 6 l0] at f0
      exact wp_val (.string s2) (by simp [go_sem, f0, hc2]) ⟨_, rfl, RQ.quiet hmk 7 _ hil hl (by decide) (by decide) (by decide) (Gr.refl _) rfl hR⟩
    · obtain rfl := Option.some.inj ho
      have l0 := hd ⟨7, .data⟩ (by simp) rfl
      have f0 := hF.at (s := 18) (i := 7) (by kernel_rfl) (by simp) l0
      rw [show vals 7 = .string s2 from hR.k 7 l0] at f0
      exact wp_retN (by simp [go_sem, f0]) (HX2.out _) (fun p n w2 hS hg => ⟨_, rfl, RQ.quiet hmk 8 _ hil hl (by decide) (by decide) (by decide) hg ⟨p, n, rfl, hS⟩ hR⟩)
    · obtain rfl := Option.some.inj ho
      have f0 := hF.old (s := 4) (v := .slice (some ⟨rb, 0, none⟩) 6 6) (by kernel_rfl) rfl
      exact wp_val (.slice (some ⟨rb, 0, none⟩) 6 6) (by simp [go_sem, f0]) ⟨_, rfl, RQ.quiet hmk 9 _ hil hl (by decide) (by decide) (by decide) (Gr.refl _) rfl hR⟩
    · obtain rfl := Option.some.inj ho
      have l0 := hd ⟨9, .data⟩ (by simp) rfl
      have f0 := hF.at (s := 20) (i := 9) (by kernel_rfl) (by simp) l0
      rw [show vals 9 = .slice (some ⟨rb, 0, none⟩) 6 6 from hR.k 9 l0] at f0
      exact wp_val (.pointer (some ⟨rb, 3, none⟩)) (by simp [go_sem, f0]) ⟨_, rfl, RQ.quiet hmk 10 _ hil hl (by decide) (by decide) (by decide) (Gr.refl _) rfl hR⟩
    · obtain rfl := Option.some.inj ho
      have l0 := hd ⟨10, .data⟩ (by simp) rfl
      have f0 := hF.at (s := 21) (i := 10) (by kernel_rfl) (by simp) l0
      rw [show vals 10 = .pointer (some ⟨rb, 3, none⟩) from hR.k 10 l0] at f0
      exact wp_val (.string s3) (by simp [go_sem, f0, hc3]) ⟨_, rfl, RQ.quiet hmk 11 _ hil hl (by decide) (by decide) (by decide) (Gr.refl _) rfl hR⟩
    · obtain rfl := Option.some.inj ho
      have l0 := hd ⟨11, .data⟩ (by simp) rfl
      have f0 := hF.at (s := 22) (i := 11) (by kernel_rfl) (by simp) l0
      rw [show vals 11 = .string s3 from hR.k 11 l0] at f0
      exact wp_retN (by simp [go_sem, f0]) (HX3.out _) (fun p n w2 hS hg => ⟨_, rfl, RQ.quiet hmk 12 _ hil hl (by decide) (by decide) (by decide) hg ⟨p, n, rfl, hS⟩ hR⟩)
    · obtain rfl := Option.some.inj ho
      have f0 := hF.old (s := 4) (v := .slice (some ⟨rb, 0, none⟩) 6 6) (by kernel_rfl) rfl
      exact wp_val (.slice (some ⟨rb, 0, none⟩) 6 6) (by simp [go_sem, f0]) ⟨_, rfl, RQ.quiet hmk 13 _ hil hl (by decide) (by decide) (by decide) (Gr.refl _) rfl hR⟩
    · obtain rfl := Option.some.inj ho
      have l0 := hd ⟨13, .data⟩ (by simp) rfl
      have f0 := hF.at (s := 24) (i := 13) (by kernel_rfl) (by simp) l0
      rw [show vals 13 = .slice (some ⟨rb, 0, none⟩) 6 6 from hR.k 13 l0] at f0
      exact wp_val (.pointer (some ⟨rb, 4, none⟩)) (by simp [go_sem, f0]) ⟨_, rfl, RQ.quiet hmk 14 _ hil hl (by decide) (by decide) (by decide) (Gr.refl _) rfl hR⟩
    · obtain rfl := Option.some.inj ho
      have l0 := hd ⟨14, .data⟩ (by simp) rfl
      have f0 := hF.at (s := 25) (i := 14) (by kernel_rfl) (by simp) l0
      rw [show vals 14 = .pointer (some ⟨rb, 4, none⟩) from hR.k 14 l0] at f0
      exact wp_val (.string s4) (by simp [go_sem, f0, hc4]) ⟨_, rfl, RQ.quiet hmk 15 _ hil hl (by decide) (by decide) (by decide) (Gr.refl _) rfl hR⟩
    · obtain rfl := Option.some.inj ho
      have l0 := hd ⟨15, .data⟩ (by simp) rfl
      have f0 := hF.at (s := 26) (i := 15) (by kernel_rfl) (by simp) l0
      rw [show vals 15 = .string s4 from hR.k 15 l0] at f0
      exact wp_retN (by simp [go_sem, f0]) (HX4.out _) (fun p n w2 hS hg => ⟨_, rfl, RQ.quiet hmk 16 _ hil hl (by decide) (by decide) (by decide) hg ⟨p, n, rfl, hS⟩ hR⟩)
    · obtain rfl := Option.some.inj ho
      have f0 := hF.old (s := 4) (v := .slice (some ⟨rb, 0, none⟩) 6 6) (by kernel_rfl) rfl
      exact wp_val (.slice (some ⟨rb, 0, none⟩) 6 6) (by simp [go_sem, f0]) ⟨_, rfl, RQ.quiet hmk 17 _ hil hl (by decide) (by decide) (by decide) (Gr.refl _) rfl hR⟩
    · obtain rfl := Option.some.inj ho
      have l0 := hd ⟨17, .data⟩ (by simp) rfl
      have f0 := hF.at (s := 28) (i := 17) (by kernel_rfl) (by simp) l0
      rw [show vals 17 = .slice (some ⟨rb, 0, none⟩) 6 6 from hR.k 17 l0] at f0
      exact wp_val (.pointer (some ⟨rb, 5, none⟩)) (by simp [go_sem, f0]) ⟨_, rfl, RQ.quiet hmk 18 _ hil hl (by decide) (by decide) (by decide) (Gr.refl _) rfl hR⟩
    · obtain rfl := Option.some.inj ho
      have l0 := hd ⟨18, .data⟩ (by simp) rfl
      have f0 := hF.at (s := 29) (i := 18) (by kernel_rfl) (by simp) l0
      rw [show vals 18 = .pointer (some ⟨rb, 5, none⟩) from hR.k 18 l0] at f0
      exact wp_val (.string s5) (by simp [go_sem, f0, hc5]) ⟨_, rfl, RQ.quiet hmk 19 _ hil hl (by decide) (by decide) (by decide) (Gr.refl _) rfl hR⟩
    · obtain rfl := Option.some.inj ho
      have l0 := hd ⟨19, .data⟩ (by simp) rfl
      have f0 := hF.at (s := 30) (i := 19) (by kernel_rfl) (by simp) l0
      rw [show vals 19 = .string s5 from hR.k 19 l0] at f0
      exact wp_retN (by simp [go_sem, f0]) (HX5.out _) (fun p n w2 hS hg => ⟨_, rfl, RQ.quiet hmk 20 _ hil hl (by decide) (by decide) (by decide) hg ⟨p, n, rfl, hS⟩ hR⟩)
    · obtain rfl := Option.some.inj ho
      have l0 := hd ⟨0, .data⟩ (by simp) rfl
      have f0 := hF.at (s := 11) (i := 0) (by kernel_rfl) (by simp) l0
      rw [show vals 0 = .int .i64 id from hR.k 0 l0] at f0
      have l1 := hd ⟨4, .data⟩ (by simp) rfl
      have f1 := hF.at (s := 15) (i := 4) (by kernel_rfl) (by simp) l1
      obtain ⟨p1, n1, e1, -⟩ := (show ∃ p n, vals 4 = Value.slice p (dl x0) n ∧ Sl v1 p x0 from hR.k 4 l1)
      rw [e1] at f1
      have l2 := hd ⟨8, .data⟩ (by simp) rfl
      have f2 := hF.at (s := 19) (i := 8) (by kernel_rfl) (by simp) l2
      obtain ⟨p2, n2, e2, -⟩ := (show ∃ p n, vals 8 = Value.slice p (dl x2) n ∧ Sl v1 p x2 from hR.k 8 l2)
      rw [e2] at f2
      have l3 := hd ⟨12, .data⟩ (by simp) rfl
      have f3 := hF.at (s := 23) (i := 12) (by kernel_rfl) (by simp) l3
      obtain ⟨p3, n3, e3, -⟩ := (show ∃ p n, vals 12 = Value.slice p (dl x3) n ∧ Sl v1 p x3 from hR.k 12 l3)
      rw [e3] at f3
      have l4 := hd ⟨16, .data⟩ (by simp) rfl
      have f4 := hF.at (s := 27) (i := 16) (by kernel_rfl) (by simp) l4
      obtain ⟨p4, n4, e4, -⟩ := (show ∃ p n, vals 16 = Value.slice p (dl x4) n ∧ Sl v1 p x4 from hR.k 16 l4)
      rw [e4] at f4
      have l5 := hd ⟨20, .data⟩ (by simp) rfl
      have f5 := hF.at (s := 31) (i := 20) (by kernel_rfl) (by simp) l5
      obtain ⟨p5, n5, e5, -⟩ := (show ∃ p n, vals 20 = Value.slice p (dl x5) n ∧ Sl v1 p x5 from hR.k 20 l5)
      rw [e5] at f5
      have hb := RQ.build hmk hil hl (by decide) (by decide) (by decide) rfl (fun j hj => by
        simp only [List.mem_cons, List.not_mem_nil, or_false] at hj
        rcases hj with rfl | rfl | rfl | rfl | rfl
        · exact l1
        · exact l2
        · exact l3
        · exact l4
        · exact l5) hR
      refine wp_val _ ?_ ⟨_, rfl, hb⟩
      simp [go_sem, f0, f1, f2, f3, f4, f5, e1, e2, e3, e4, e5]
    · obtain rfl := Option.some.inj ho
      exact wp_val (.pointer (some ⟨v1.heap.size, 0, none⟩)) (w' := v1.alloc (.cells #[.int .i64 0, .slice none 0 0, .slice none 0 0, .slice none 0 0, .slice none 0 0, .slice none 0 0, .slice none 0 0] 32)) (by simp [go_sem]) ⟨_, rfl, RQ.alloc hmk 32 hil hl (by decide) (by decide) (by decide) rfl hR⟩
    · obtain rfl := Option.some.inj ho
      have lb := hd ⟨21, .data⟩ (by simp) rfl
      have la := hd ⟨22, .data⟩ (by simp) rfl
      obtain ⟨b, e0, g2, g3, g4, g5, -⟩ := hR.a la
      have f0 := hF.at (s := 5) (i := 22) (by kernel_rfl) (by simp) la
      rw [e0] at f0
      have f1 := hF.at (s := 32) (i := 21) (by kernel_rfl) (by simp) lb
      rw [(hR.d lb).2] at f1
      obtain ⟨p0, n0, e1, -⟩ := (show ∃ p n, vals 4 = Value.slice p (dl x0) n ∧ Sl v1 p x0 from hR.k 4 ((hR.d lb).1 4 (by simp)))
      obtain ⟨p1, n1, e2, -⟩ := (show ∃ p n, vals 8 = Value.slice p (dl x2) n ∧ Sl v1 p x2 from hR.k 8 ((hR.d lb).1 8 (by simp)))
      obtain ⟨p2, n2, e3, -⟩ := (show ∃ p n, vals 12 = Value.slice p (dl x3) n ∧ Sl v1 p x3 from hR.k 12 ((hR.d lb).1 12 (by simp)))
      obtain ⟨p3, n3, e4, -⟩ := (show ∃ p n, vals 16 = Value.slice p (dl x4) n ∧ Sl v1 p x4 from hR.k 16 ((hR.d lb).1 16 (by simp)))
      obtain ⟨p4, n4, e5, -⟩ := (show ∃ p n, vals 20 = Value.slice p (dl x5) n ∧ Sl v1 p x5 from hR.k 20 ((hR.d lb).1 20 (by simp)))
      have hst := RQ.store hmk hil hl (by decide) (by decide) (by decide) rfl (fun i n => by
        intro h
        match i, h with
        | 0, h => simp at h
        | 1, h => simp at h
        | 2, h => simp at h
        | 3, h => simp at h
        | 4, h => simp at h
        | 5, h => simp at h
        | 6, h => simp at h
        | k + 7, h => simp at h) (by decide) lb la b e0 hR
      refine wp_skip ?_ ⟨undef, rfl, hst⟩
      have g6 := g5 hl
      simp only [e1, e2, e3, e4, e5] at f1 ⊢
      have hsr := storeC v1 b id p0 p1 p2 p3 p4 (dl x0) (dl x2) (dl x3) (dl x4) (dl x5) n0 n1 n2 n3 n4 (by rw [g6]; rfl) g4
      simp [go_sem, f0, f1, hsr]
  case hf =>
    intro listed vals a1 v1 hall hR hF
    have y0 : vals 0 = .int .i64 id := hR.k 0 (hall 0 (by simp))
    have y1 : vals 1 = .slice (some ⟨rb, 0, none⟩) 6 6 := hR.k 1 (hall 1 (by simp))
    have y2 : vals 2 = .pointer (some ⟨rb, 0, none⟩) := hR.k 2 (hall 2 (by simp))
    have y3 : vals 3 = .string s0 := hR.k 3 (hall 3 (by simp))
    obtain ⟨p4, n4, y4, S4⟩ := (show ∃ p n, vals 4 = Value.slice p (dl x0) n ∧ Sl v1 p x0 from hR.k 4 (hall 4 (by simp)))
    have y5 : vals 5 = .slice (some ⟨rb, 0, none⟩) 6 6 := hR.k 5 (hall 5 (by simp))
    have y6 : vals 6 = .pointer (some ⟨rb, 2, none⟩) := hR.k 6 (hall 6 (by simp))
    have y7 : vals 7 = .string s2 := hR.k 7 (hall 7 (by simp))
    obtain ⟨p8, n8, y8, S8⟩ := (show ∃ p n, vals 8 = Value.slice p (dl x2) n ∧ Sl v1 p x2 from hR.k 8 (hall 8 (by simp)))
    have y9 : vals 9 = .slice (some ⟨rb, 0, none⟩) 6 6 := hR.k 9 (hall 9 (by simp))
    have y10 : vals 10 = .pointer (some ⟨rb, 3, none⟩) := hR.k 10 (hall 10 (by simp))
    have y11 : vals 11 = .string s3 := hR.k 11 (hall 11 (by simp))
    obtain ⟨p12, n12, y12, S12⟩ := (show ∃ p n, vals 12 = Value.slice p (dl x3) n ∧ Sl v1 p x3 from hR.k 12 (hall 12 (by simp)))
    have y13 : vals 13 = .slice (some ⟨rb, 0, none⟩) 6 6 := hR.k 13 (hall 13 (by simp))
    have y14 : vals 14 = .pointer (some ⟨rb, 4, none⟩) := hR.k 14 (hall 14 (by simp))
    have y15 : vals 15 = .string s4 := hR.k 15 (hall 15 (by simp))
    obtain ⟨p16, n16, y16, S16⟩ := (show ∃ p n, vals 16 = Value.slice p (dl x4) n ∧ Sl v1 p x4 from hR.k 16 (hall 16 (by simp)))
    have y17 : vals 17 = .slice (some ⟨rb, 0, none⟩) 6 6 := hR.k 17 (hall 17 (by simp))
    have y18 : vals 18 = .pointer (some ⟨rb, 5, none⟩) := hR.k 18 (hall 18 (by simp))
    have y19 : vals 19 = .string s5 := hR.k 19 (hall 19 (by simp))
    obtain ⟨p20, n20, y20, S20⟩ := (show ∃ p n, vals 20 = Value.slice p (dl x5) n ∧ Sl v1 p x5 from hR.k 20 (hall 20 (by simp)))
    obtain ⟨b, y22, q1, q2, q3, -, q4⟩ := hR.a (hall 22 (by simp))
    have q4 := q4 (hall 23 (by simp))
    have y21 := (hR.d (hall 21 (by simp))).2
    simp only [y4, y8, y12, y16, y20] at q4 y21
    have g1 := hR.g
    rw [hF.final (by kernel_rfl) hall]
    simp only [putFrom, Act.put, List.setIfInBounds_toArray, List.set_cons_zero, List.set_cons_succ, y0, y1, y2, y3, y4, y5, y6, y7, y8, y9, y10, y11, y12, y13, y14, y15, y16, y17, y18, y19, y20, y21, y22]
    clear hR hF hall y0 y1 y2 y3 y4 y5 y6 y7 y8 y9 y10 y11 y12 y13 y14 y15 y16 y17 y18 y19 y20 y21 y22
    have hr1 : v1.cell? ⟨rb, 1, none⟩ = some (.string s1) := by rw [cell_blk, g1.blk _ prb, hrb]; rfl
    have pr1 : Pre (rb + 1) v1.heap.size := Nat.le_trans prb g1.below.size
    have d1 : blk v1 w.heap.size = #[.int .i64 0, .slice none 0 0, .slice none 0 0, .slice none 0 0, .slice none 0 0, .slice none 0 0, .slice none 0 0] := by rw [g1.blk _ c3]; exact c1
    have d2 : frz v1 w.heap.size = (0, 0) := by rw [g1.frz _ c3]; exact c2
    have d3 : Pre (w.heap.size + 1) v1.heap.size := Nat.le_trans c3 g1.below.size
    have q0 : w.heap.size ≤ b := Nat.le_trans G0.below.size q1
    have nb : b ≠ w.heap.size := by have : w.heap.size + 1 ≤ W1.heap.size := c3; omega
    have nb' : ¬ w.heap.size = b := Ne.symm nb
    have hcP : v1.cell? ⟨b, 1, none⟩ = some (.slice p4 (dl x0) n4) := by rw [cell_blk, q4]; rfl
    have GA : Gr w v1 := G0.trans g1
    clear hmk HR' HX0 HX2 HX3 HX4 HX5 c1 c2 c3 G0 G1
    rcases h1 with ⟨hs1, h3, h5⟩ | ⟨x1, hne, H1⟩
    · have HS : Hid (∀ w' q k, Gr v1 w' → Sl w' q 3 → Calls Try.prog 40 #[.slice p4 (dl x0) n4, .slice q 1 k] w' (Nm (x0 - 3) w')) := fun w' q k g hq => rsub_any x0 3 n4 k p4 q w' (S4.gr g) hq h5 h3
      have hb3 : ∀ w, (bslS 30 1 #[(0, .int .u32 3)]).run Try.prog w = .ok (.slice (some ⟨w.heap.size, 0, none⟩) 1 1) (w.alloc (.cells (nd 1 3) 63)) := fun w => build1 3 (by decide) w
      have hT : Sl (v1.alloc (.cells (nd 1 3) 63)) (some ⟨v1.heap.size, 0, none⟩) 3 := Sl.of_blk (n := 1) (by simp [go_sem]) (by simp [go_sem]) (by decide)
      subst hs1
      clear h3 h5
      go_upto_region 8 with (go_at_call 40; refine (HS.out _ _ _ ?_ ?_).mono ?_; exact (Gr.refl _).alloc _; exact hT; rintro e W2 ⟨p2, n2, rfl, S2, G2⟩; (have g2 : Gr v1 W2 := ((Gr.refl _).alloc _).trans G2); (have hcb : blk W2 b = #[.int .i64 id, .slice p4 (dl x0) n4, .slice none 0 0, .slice p8 (dl x2) n8, .slice p12 (dl x3) n12, .slice p16 (dl x4) n16, .slice p20 (dl x5) n20] := by rw [g2.blk _ q2]; exact q4); (have hfb : frz W2 b = (0, 0) := by rw [g2.frz _ q2]; exact q3); (have hpb : Pre (b + 1) W2.heap.size := Nat.le_trans q2 g2.below.size); (have hcr : blk W2 w.heap.size = #[.int .i64 0, .slice none 0 0, .slice none 0 0, .slice none 0 0, .slice none 0 0, .slice none 0 0, .slice none 0 0] := by rw [g2.blk _ d3]; exact d1); (have hfr : frz W2 w.heap.size = (0, 0) := by rw [g2.frz _ d3]; exact d2); (have hpr : Pre (w.heap.size + 1) W2.heap.size := Nat.le_trans d3 g2.below.size); (have hS4 : Sl W2 p4 x0 := S4.gr g2); (have hc2 : W2.cell? ⟨b, 2, none⟩ = some (.slice none 0 0) := by rw [cell_blk, hcb]; rfl); (have hz2 : W2.frozen? ⟨b, 2, none⟩ = false := frozen_frz _ _ _ hfb); (have hset : ∀ v, W2.setCell ⟨b, 2, none⟩ v = setBlk W2 b #[.int .i64 id, .slice p4 (dl x0) n4, v, .slice p8 (dl x2) n8, .slice p12 (dl x3) n12, .slice p16 (dl x4) n16, .slice p20 (dl x5) n20] := fun v => by rw [setCell_setBlk, hcb]; rfl))
      try simp only [hset]
      refine gen_w (fun v => Hid (Gr w v ∧ blk v b = #[.int .i64 id, .slice p4 (dl x0) n4, .slice p2 (dl (x0 - 3)) n2, .slice p8 (dl x2) n8, .slice p12 (dl x3) n12, .slice p16 (dl x4) n16, .slice p20 (dl x5) n20] ∧ frz v b = (0, 0) ∧ Pre (b + 1) v.heap.size ∧ blk v w.heap.size = #[.int .i64 0, .slice none 0 0, .slice none 0 0, .slice none 0 0, .slice none 0 0, .slice none 0 0, .slice none 0 0] ∧ frz v w.heap.size = (0, 0) ∧ Pre (w.heap.size + 1) v.heap.size ∧ Sl v p4 x0)) ?_ ?_
      · refine ⟨?_, ?_, ?_, ?_, ?_, ?_, ?_, ?_⟩
        · exact gr_setNew (GA.trans g2) q0
        · rw [blk_setBlk _ _ _ (by rw [hcb]; simp)]
        · rw [frz_setBlk]; exact hfb
        · rw [size_setBlk]; exact hpb
        · rw [blk_other _ _ _ _ nb]; exact hcr
        · rw [frz_setBlk]; exact hfr
        · rw [size_setBlk]; exact hpr
        · exact Sl.set hS4 (by rw [hcb]; exact noU id (p4, dl x0, n4) (none, 0, 0) (p8, dl x2, n8) (p12, dl x3, n12) (p16, dl x4, n16) (p20, dl x5, n20))
      intro v0 HV
      obtain ⟨G, k1, k2, k3, k4, k5, k6, k7⟩ := HV.out
      have hst := storeC7 v0 w.heap.size id p4 p8 p12 p16 p20 p2 (dl x0) (dl x2) (dl x3) (dl x4) (dl x5) (dl (x0 - 3)) n4 n8 n12 n16 n20 n2 (by rw [k4]; rfl) k5
      clear HV
      go_wp2_with fail
      refine bodyPost_ret (res_two Try.results13 (rd_cell (c := #[.int .i64 id, .slice p4 (dl x0) n4, .slice p2 (dl (x0 - 3)) n2, .slice p8 (dl x2) n8, .slice p12 (dl x3) n12, .slice p16 (dl x4) n16, .slice p20 (dl x5) n20]) 7 Try.underlying32 rfl (by kernel_rfl) (by rfl) ?_ rfl) (rd_tmp (by rfl))) rfl ⟨p4, n4, (fun k => match k with | 0 => (p2, dl (x0 - 3), n2) | 1 => (p8, dl x2, n8) | 2 => (p12, dl x3, n12) | 3 => (p16, dl x4, n16) | _ => (p20, dl x5, n20)), rfl, ?_, ?_⟩
      · simp [go_sem, k4]
      · exact Sl.set k7 (by rw [k4]; exact noU 0 (none, 0, 0) (none, 0, 0) (none, 0, 0) (none, 0, 0) (none, 0, 0) (none, 0, 0))
      · exact gr_setNew G (Nat.le_refl _)
    · have H1' : Hid (∀ w, Calls Try.prog 39 #[.string s1] w (Nm x1 w)) := H1
      clear H1
      go_upto_region 8 with (go_at_call 39; refine (H1'.out _).mono ?_; rintro e W2 ⟨p2, n2, rfl, S2, g2⟩; (have hcb : blk W2 b = #[.int .i64 id, .slice p4 (dl x0) n4, .slice none 0 0, .slice p8 (dl x2) n8, .slice p12 (dl x3) n12, .slice p16 (dl x4) n16, .slice p20 (dl x5) n20] := by rw [g2.blk _ q2]; exact q4); (have hfb : frz W2 b = (0, 0) := by rw [g2.frz _ q2]; exact q3); (have hpb : Pre (b + 1) W2.heap.size := Nat.le_trans q2 g2.below.size); (have hcr : blk W2 w.heap.size = #[.int .i64 0, .slice none 0 0, .slice none 0 0, .slice none 0 0, .slice none 0 0, .slice none 0 0, .slice none 0 0] := by rw [g2.blk _ d3]; exact d1); (have hfr : frz W2 w.heap.size = (0, 0) := by rw [g2.frz _ d3]; exact d2); (have hpr : Pre (w.heap.size + 1) W2.heap.size := Nat.le_trans d3 g2.below.size); (have hS4 : Sl W2 p4 x0 := S4.gr g2); (have hc2 : W2.cell? ⟨b, 2, none⟩ = some (.slice none 0 0) := by rw [cell_blk, hcb]; rfl); (have hz2 : W2.frozen? ⟨b, 2, none⟩ = false := frozen_frz _ _ _ hfb); (have hset : ∀ v, W2.setCell ⟨b, 2, none⟩ v = setBlk W2 b #[.int .i64 id, .slice p4 (dl x0) n4, v, .slice p8 (dl x2) n8, .slice p12 (dl x3) n12, .slice p16 (dl x4) n16, .slice p20 (dl x5) n20] := fun v => by rw [setCell_setBlk, hcb]; rfl))
      try simp only [hset]
      refine gen_w (fun v => Hid (Gr w v ∧ blk v b = #[.int .i64 id, .slice p4 (dl x0) n4, .slice p2 (dl x1) n2, .slice p8 (dl x2) n8, .slice p12 (dl x3) n12, .slice p16 (dl x4) n16, .slice p20 (dl x5) n20] ∧ frz v b = (0, 0) ∧ Pre (b + 1) v.heap.size ∧ blk v w.heap.size = #[.int .i64 0, .slice none 0 0, .slice none 0 0, .slice none 0 0, .slice none 0 0, .slice none 0 0, .slice none 0 0] ∧ frz v w.heap.size = (0, 0) ∧ Pre (w.heap.size + 1) v.heap.size ∧ Sl v p4 x0)) ?_ ?_
      · refine ⟨?_, ?_, ?_, ?_, ?_, ?_, ?_, ?_⟩
        · exact gr_setNew (GA.trans g2) q0
        · rw [blk_setBlk _ _ _ (by rw [hcb]; simp)]
        · rw [frz_setBlk]; exact hfb
        · rw [size_setBlk]; exact hpb
        · rw [blk_other _ _ _ _ nb]; exact hcr
        · rw [frz_setBlk]; exact hfr
        · rw [size_setBlk]; exact hpr
        · exact Sl.set hS4 (by rw [hcb]; exact noU id (p4, dl x0, n4) (none, 0, 0) (p8, dl x2, n8) (p12, dl x3, n12) (p16, dl x4, n16) (p20, dl x5, n20))
      intro v0 HV
      obtain ⟨G, k1, k2, k3, k4, k5, k6, k7⟩ := HV.out
      have hst := storeC7 v0 w.heap.size id p4 p8 p12 p16 p20 p2 (dl x0) (dl x2) (dl x3) (dl x4) (dl x5) (dl x1) n4 n8 n12 n16 n20 n2 (by rw [k4]; rfl) k5
      clear HV
      go_wp2_with fail
      refine bodyPost_ret (res_two Try.results13 (rd_cell (c := #[.int .i64 id, .slice p4 (dl x0) n4, .slice p2 (dl x1) n2, .slice p8 (dl x2) n8, .slice p12 (dl x3) n12, .slice p16 (dl x4) n16, .slice p20 (dl x5) n20]) 7 Try.underlying32 rfl (by kernel_rfl) (by rfl) ?_ rfl) (rd_tmp (by rfl))) rfl ⟨p4, n4, (fun k => match k with | 0 => (p2, dl x1, n2) | 1 => (p8, dl x2, n8) | 2 => (p12, dl x3, n12) | 3 => (p16, dl x4, n16) | _ => (p20, dl x5, n20)), rfl, ?_, ?_⟩
      · simp [go_sem, k4]
      · exact Sl.set k7 (by rw [k4]; exact noU 0 (none, 0, 0) (none, 0, 0) (none, 0, 0) (none, 0, 0) (none, 0, 0) (none, 0, 0))
      · exact gr_setNew G (Nat.le_refl _)

end Go.Proofs.Ytkmpholjlophpaa
namespace Go.Proofs.Ytkmpholjlophpaa
open Go.RowKit
theorem hex_of (s : ByteArray) (x : Nat) (h : (Nat.ble s.size 1000 && s.data.toList.all fun c => hexOk c.toNat) = true) (e : hexN s.data.toList = x) (w : World) : Calls Try.prog 39 #[.string s] w (Nm x w) := by
  rw [Bool.and_eq_true] at h
  have := rhex_any s (Nat.le_of_ble_eq_true h.1) (fun c hc => List.all_eq_true.1 h.2 c hc) w
  rw [e] at this
  exact this
/-- A curve's row: its id, its P, and five more slices. -/
def GetR (i : Nat) (w : World) (e : Ending) (w' : World) : Prop := ∃ p n q, e = .returned (.tuple #[.agg (cvA (i : Int) p (dl (pN i)) n q), .bool true]) ∧ Sl w' p (pN i) ∧ Gr w w'
set_option maxRecDepth 100000 in
theorem get_1 (w : World) : Calls Try.prog 13 #[.int .i64 1] w (GetR 1 w) :=
  get_of 1 rs1_0 rs1_1 rs1_2 rs1_3 rs1_4 rs1_5 (pN 1) _ _ _ _ row_1 (hex_of rs1_0 _ (by decide +kernel) (by decide +kernel)) (hex_of rs1_2 _ (by decide +kernel) rfl) (hex_of rs1_3 _ (by decide +kernel) rfl) (hex_of rs1_4 _ (by decide +kernel) rfl) (hex_of rs1_5 _ (by decide +kernel) rfl) (.inl ⟨rfl, by decide +kernel, by decide +kernel⟩) w
set_option maxRecDepth 100000 in
theorem get_2 (w : World) : Calls Try.prog 13 #[.int .i64 2] w (GetR 2 w) :=
  get_of 2 rs2_0 rs2_1 rs2_2 rs2_3 rs2_4 rs2_5 (pN 2) _ _ _ _ row_2 (hex_of rs2_0 _ (by decide +kernel) (by decide +kernel)) (hex_of rs2_2 _ (by decide +kernel) rfl) (hex_of rs2_3 _ (by decide +kernel) rfl) (hex_of rs2_4 _ (by decide +kernel) rfl) (hex_of rs2_5 _ (by decide +kernel) rfl) (.inl ⟨rfl, by decide +kernel, by decide +kernel⟩) w
set_option maxRecDepth 100000 in
theorem get_3 (w : World) : Calls Try.prog 13 #[.int .i64 3] w (GetR 3 w) :=
  get_of 3 rs3_0 rs3_1 rs3_2 rs3_3 rs3_4 rs3_5 (pN 3) _ _ _ _ row_3 (hex_of rs3_0 _ (by decide +kernel) (by decide +kernel)) (hex_of rs3_2 _ (by decide +kernel) rfl) (hex_of rs3_3 _ (by decide +kernel) rfl) (hex_of rs3_4 _ (by decide +kernel) rfl) (hex_of rs3_5 _ (by decide +kernel) rfl) (.inl ⟨rfl, by decide +kernel, by decide +kernel⟩) w
set_option maxRecDepth 100000 in
theorem get_4 (w : World) : Calls Try.prog 13 #[.int .i64 4] w (GetR 4 w) :=
  get_of 4 rs4_0 rs4_1 rs4_2 rs4_3 rs4_4 rs4_5 (pN 4) _ _ _ _ row_4 (hex_of rs4_0 _ (by decide +kernel) (by decide +kernel)) (hex_of rs4_2 _ (by decide +kernel) rfl) (hex_of rs4_3 _ (by decide +kernel) rfl) (hex_of rs4_4 _ (by decide +kernel) rfl) (hex_of rs4_5 _ (by decide +kernel) rfl) (.inl ⟨rfl, by decide +kernel, by decide +kernel⟩) w
set_option maxRecDepth 100000 in
theorem get_5 (w : World) : Calls Try.prog 13 #[.int .i64 5] w (GetR 5 w) :=
  get_of 5 rs5_0 rs5_1 rs5_2 rs5_3 rs5_4 rs5_5 (pN 5) _ _ _ _ row_5 (hex_of rs5_0 _ (by decide +kernel) (by decide +kernel)) (hex_of rs5_2 _ (by decide +kernel) rfl) (hex_of rs5_3 _ (by decide +kernel) rfl) (hex_of rs5_4 _ (by decide +kernel) rfl) (hex_of rs5_5 _ (by decide +kernel) rfl) (.inl ⟨rfl, by decide +kernel, by decide +kernel⟩) w
set_option maxRecDepth 100000 in
theorem get_6 (w : World) : Calls Try.prog 13 #[.int .i64 6] w (GetR 6 w) :=
  get_of 6 rs6_0 rs6_1 rs6_2 rs6_3 rs6_4 rs6_5 (pN 6) _ _ _ _ row_6 (hex_of rs6_0 _ (by decide +kernel) (by decide +kernel)) (hex_of rs6_2 _ (by decide +kernel) rfl) (hex_of rs6_3 _ (by decide +kernel) rfl) (hex_of rs6_4 _ (by decide +kernel) rfl) (hex_of rs6_5 _ (by decide +kernel) rfl) (.inr ⟨_, by decide +kernel, hex_of rs6_1 _ (by decide +kernel) rfl⟩) w
set_option maxRecDepth 100000 in
theorem get_7 (w : World) : Calls Try.prog 13 #[.int .i64 7] w (GetR 7 w) :=
  get_of 7 rs7_0 rs7_1 rs7_2 rs7_3 rs7_4 rs7_5 (pN 7) _ _ _ _ row_7 (hex_of rs7_0 _ (by decide +kernel) (by decide +kernel)) (hex_of rs7_2 _ (by decide +kernel) rfl) (hex_of rs7_3 _ (by decide +kernel) rfl) (hex_of rs7_4 _ (by decide +kernel) rfl) (hex_of rs7_5 _ (by decide +kernel) rfl) (.inr ⟨_, by decide +kernel, hex_of rs7_1 _ (by decide +kernel) rfl⟩) w
set_option maxRecDepth 100000 in
theorem get_8 (w : World) : Calls Try.prog 13 #[.int .i64 8] w (GetR 8 w) :=
  get_of 8 rs8_0 rs8_1 rs8_2 rs8_3 rs8_4 rs8_5 (pN 8) _ _ _ _ row_8 (hex_of rs8_0 _ (by decide +kernel) (by decide +kernel)) (hex_of rs8_2 _ (by decide +kernel) rfl) (hex_of rs8_3 _ (by decide +kernel) rfl) (hex_of rs8_4 _ (by decide +kernel) rfl) (hex_of rs8_5 _ (by decide +kernel) rfl) (.inr ⟨_, by decide +kernel, hex_of rs8_1 _ (by decide +kernel) rfl⟩) w
set_option maxRecDepth 100000 in
theorem get_9 (w : World) : Calls Try.prog 13 #[.int .i64 9] w (GetR 9 w) :=
  get_of 9 rs9_0 rs9_1 rs9_2 rs9_3 rs9_4 rs9_5 (pN 9) _ _ _ _ row_9 (hex_of rs9_0 _ (by decide +kernel) (by decide +kernel)) (hex_of rs9_2 _ (by decide +kernel) rfl) (hex_of rs9_3 _ (by decide +kernel) rfl) (hex_of rs9_4 _ (by decide +kernel) rfl) (hex_of rs9_5 _ (by decide +kernel) rfl) (.inr ⟨_, by decide +kernel, hex_of rs9_1 _ (by decide +kernel) rfl⟩) w
set_option maxRecDepth 100000 in
theorem get_10 (w : World) : Calls Try.prog 13 #[.int .i64 10] w (GetR 10 w) :=
  get_of 10 rs10_0 rs10_1 rs10_2 rs10_3 rs10_4 rs10_5 (pN 10) _ _ _ _ row_10 (hex_of rs10_0 _ (by decide +kernel) (by decide +kernel)) (hex_of rs10_2 _ (by decide +kernel) rfl) (hex_of rs10_3 _ (by decide +kernel) rfl) (hex_of rs10_4 _ (by decide +kernel) rfl) (hex_of rs10_5 _ (by decide +kernel) rfl) (.inr ⟨_, by decide +kernel, hex_of rs10_1 _ (by decide +kernel) rfl⟩) w
set_option maxRecDepth 100000 in
theorem get_11 (w : World) : Calls Try.prog 13 #[.int .i64 11] w (GetR 11 w) :=
  get_of 11 rs11_0 rs11_1 rs11_2 rs11_3 rs11_4 rs11_5 (pN 11) _ _ _ _ row_11 (hex_of rs11_0 _ (by decide +kernel) (by decide +kernel)) (hex_of rs11_2 _ (by decide +kernel) rfl) (hex_of rs11_3 _ (by decide +kernel) rfl) (hex_of rs11_4 _ (by decide +kernel) rfl) (hex_of rs11_5 _ (by decide +kernel) rfl) (.inr ⟨_, by decide +kernel, hex_of rs11_1 _ (by decide +kernel) rfl⟩) w
set_option maxRecDepth 100000 in
theorem get_12 (w : World) : Calls Try.prog 13 #[.int .i64 12] w (GetR 12 w) :=
  get_of 12 rs12_0 rs12_1 rs12_2 rs12_3 rs12_4 rs12_5 (pN 12) _ _ _ _ row_12 (hex_of rs12_0 _ (by decide +kernel) (by decide +kernel)) (hex_of rs12_2 _ (by decide +kernel) rfl) (hex_of rs12_3 _ (by decide +kernel) rfl) (hex_of rs12_4 _ (by decide +kernel) rfl) (hex_of rs12_5 _ (by decide +kernel) rfl) (.inr ⟨_, by decide +kernel, hex_of rs12_1 _ (by decide +kernel) rfl⟩) w
set_option maxRecDepth 100000 in
theorem get_13 (w : World) : Calls Try.prog 13 #[.int .i64 13] w (GetR 13 w) :=
  get_of 13 rs13_0 rs13_1 rs13_2 rs13_3 rs13_4 rs13_5 (pN 13) _ _ _ _ row_13 (hex_of rs13_0 _ (by decide +kernel) (by decide +kernel)) (hex_of rs13_2 _ (by decide +kernel) rfl) (hex_of rs13_3 _ (by decide +kernel) rfl) (hex_of rs13_4 _ (by decide +kernel) rfl) (hex_of rs13_5 _ (by decide +kernel) rfl) (.inl ⟨rfl, by decide +kernel, by decide +kernel⟩) w
set_option maxRecDepth 100000 in
theorem get_14 (w : World) : Calls Try.prog 13 #[.int .i64 14] w (GetR 14 w) :=
  get_of 14 rs14_0 rs14_1 rs14_2 rs14_3 rs14_4 rs14_5 (pN 14) _ _ _ _ row_14 (hex_of rs14_0 _ (by decide +kernel) (by decide +kernel)) (hex_of rs14_2 _ (by decide +kernel) rfl) (hex_of rs14_3 _ (by decide +kernel) rfl) (hex_of rs14_4 _ (by decide +kernel) rfl) (hex_of rs14_5 _ (by decide +kernel) rfl) (.inr ⟨_, by decide +kernel, hex_of rs14_1 _ (by decide +kernel) rfl⟩) w
set_option maxRecDepth 100000 in
theorem get_15 (w : World) : Calls Try.prog 13 #[.int .i64 15] w (GetR 15 w) :=
  get_of 15 rs15_0 rs15_1 rs15_2 rs15_3 rs15_4 rs15_5 (pN 15) _ _ _ _ row_15 (hex_of rs15_0 _ (by decide +kernel) (by decide +kernel)) (hex_of rs15_2 _ (by decide +kernel) rfl) (hex_of rs15_3 _ (by decide +kernel) rfl) (hex_of rs15_4 _ (by decide +kernel) rfl) (hex_of rs15_5 _ (by decide +kernel) rfl) (.inr ⟨_, by decide +kernel, hex_of rs15_1 _ (by decide +kernel) rfl⟩) w
theorem get_yes (i : Nat) (h1 : 1 ≤ i) (h2 : i ≤ 15) (w : World) : Calls Try.prog 13 #[.int .i64 (i : Int)] w (GetR i w) := by
  obtain rfl | rfl | rfl | rfl | rfl | rfl | rfl | rfl | rfl | rfl | rfl | rfl | rfl | rfl | rfl : i = 1 ∨ i = 2 ∨ i = 3 ∨ i = 4 ∨ i = 5 ∨ i = 6 ∨ i = 7 ∨ i = 8 ∨ i = 9 ∨ i = 10 ∨ i = 11 ∨ i = 12 ∨ i = 13 ∨ i = 14 ∨ i = 15 := by omega
  · exact get_1 w
  · exact get_2 w
  · exact get_3 w
  · exact get_4 w
  · exact get_5 w
  · exact get_6 w
  · exact get_7 w
  · exact get_8 w
  · exact get_9 w
  · exact get_10 w
  · exact get_11 w
  · exact get_12 w
  · exact get_13 w
  · exact get_14 w
  · exact get_15 w
attribute [local go_sem ↓] loadNat_is loadArr_is loadWide_is loadArrW_is storeNat_is storeWide_is
attribute [local go_sem] loadNat loadArr loadWide loadArrW storeNat storeWide idxArr fold9 fold18 nw_size nw_elem pre_self pre_1 pre_2 pre_3 pre_4 pre_5 pre_6 pre_7 pre_8 pre_9 pre_10 pre_11 pre_12 pre_13 pre_14 pre_15 pre_16 pre_17 pre_18 pre_19 pre_20 pre_21 pre_22 pre_23 pre_24 pre_25 pre_26 pre_27 pre_28 pre_29 pre_30 pre_31 pre_32 pre_33 pre_34 pre_35 pre_36 pre_37 pre_38 pre_39 pre_40 gro_size gro_drew gro_drewN drew_gro drewN_gro gro_gro blk_gro frz_gro blk_drew frz_drew blk_drewN frz_drewN blk_alloc_at frz_alloc_at blk_alloc frz_alloc cell_gro frozen_gro cell_alloc_pre frozen_alloc_pre setCell_drewN alloc_drewN setBlk_drew setBlk_drewN setBlk_alloc_at setBlk_alloc setBlk_gro setCell_gro setCell_alloc_pre size_setBlk size_setCell
attribute [local go_sem ↓] loadC_is storeC_is buildC_is
attribute [local go_sem] eqSl0 loadC storeC0 buildC0 frz_setBlk blk_setBlk setBlk_setBlk
set_option maxRecDepth 100000 in
set_option maxHeartbeats 400000 in
theorem get_no (x : Int) (h : x < 1 ∨ 15 < x) (w : World) : Calls Try.prog 13 #[.int .i64 x] w fun e w' => e = .returned (.tuple #[.agg #[.int .i64 0, .slice none 0 0, .slice none 0 0, .slice none 0 0, .slice none 0 0, .slice none 0 0, .slice none 0 0], .bool false]) ∧ Gr w w' := by
  have HR : Hid (∀ w, Calls Try.prog 38 #[.int .i64 x] w fun e w' => e = .returned (.slice none 0 0) ∧ Gr w w') := fun w => row_no x h w
  clear h
  go_enter Try.func13, Try.ntmps13
  go_wp2_with (go_at_call 38; refine (HR.out _).mono ?_; rintro e w' ⟨rfl, g, rfl⟩)
  refine bodyPost_ret (res_two Try.results13 (rd_cell (c := #[.int .i64 0, .slice none 0 0, .slice none 0 0, .slice none 0 0, .slice none 0 0, .slice none 0 0, .slice none 0 0]) 7 Try.underlying32 rfl (by kernel_rfl) (by rfl) ?_ rfl) (rd_tmp (by rfl))) rfl ⟨rfl, (by repeat (first | exact Gr.refl _ | apply Gr.drewN | apply Gr.drew | apply Gr.alloc | apply Gr.gro))⟩
  simp [go_sem]

end Go.Proofs.Ytkmpholjlophpaa
