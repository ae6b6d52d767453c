/-
  The statement HmacKeys, walked: it answers true for every number, key, text and int.
-/
/-
  drbg on plain texts: a step of an update, an update; macKey's mac.
-/
/-
  drbg's turn, update, seed, Count.
-/
import Derived.Test.YtconibmdlfkopaaGreatDoorXD
import Derived.Test.YtconibmdlfkopaaGreatDoorLG7
namespace Go.Proofs.YtconibmdlfkopaaGreatDoor
open Go.RowKit
theorem xb_nz (s : ByteArray) (j i : Nat) : xb (s ++ nz j) i = xb s i := by
  by_cases c : i < s.size
  · exact xb_left s _ i c
  · rw [show i = s.size + (i - s.size) by omega, xb_right, xb_none s _ (by omega)]
    by_cases d : i - s.size < j
    · unfold nz
      exact xb_bt _ _ _ d (by decide)
    · exact xb_none _ _ (by rw [nz_size]; omega)
theorem hk_ge (id : Int) : 64 ≤ hk id := by rcases hk_or id with e | e <;> omega
theorem hk_le (id : Int) : hk id ≤ 128 := by rcases hk_or id with e | e <;> omega
/-- Noughts behind a short key are no other key. -/
theorem mac_short (id : Int) (K msg : ByteArray) (j : Nat) (h : K.size + j ≤ 64) : mac id (K ++ nz j) msg = mac id K msg := by
  have hg := hk_ge id
  have e1 : ky id (K ++ nz j) = K ++ nz j := by unfold ky; rw [if_neg (by rw [ByteArray.size_append, nz_size]; omega)]
  have e2 : ky id K = K := by unfold ky; rw [if_neg (by omega)]
  have e : ∀ x, pd id (K ++ nz j) x = pd id K x := fun x => by
    unfold pd
    rw [e1, e2]
    exact bt_ext _ _ _ fun i _ => by rw [xb_nz]
  unfold mac
  rw [e, e]
/-- A key longer than a block is its digest. -/
theorem mac_long {id z k : Int} (h : Hi id z k) (L msg : ByteArray) (hl : 129 ≤ L.size) : mac id (dig id L) msg = mac id L msg := by
  have hg := hk_le id
  have e1 : ky id L = dig id L := by unfold ky; rw [if_pos (by omega)]
  have hz := dig_size h L
  have e2 : ky id (dig id L) = dig id L := by
    unfold ky
    refine if_neg ?_
    have := hk_ge id
    rcases h with ⟨_, rfl, _⟩ | ⟨_, rfl, _⟩ | ⟨_, rfl, _⟩ | ⟨_, rfl, _⟩ <;> omega
  have e : ∀ x, pd id (dig id L) x = pd id L x := fun x => by
    unfold pd
    rw [e1, e2]
  unfold mac
  rw [e, e]
theorem and_15 (i : Int) : ∃ k : Nat, bits .and .i64 i 15 = (k : Int) ∧ k < 16 := by
  have h : (BitVec.ofInt 64 i &&& BitVec.ofInt 64 15).toNat ≤ 15 := by
    rw [BitVec.toNat_and]
    exact Nat.and_le_right
  refine ⟨(BitVec.ofInt 64 i &&& BitVec.ofInt 64 15).toNat, ?_, by omega⟩
  show IntKind.i64.wrap ((BitVec.ofInt 64 i &&& BitVec.ofInt 64 15).toNat : Int) = _
  rw [IntKind.wrap_i64]
  omega
attribute [local go_sem ↓] mkS_is cvS_is
end Go.Proofs.YtconibmdlfkopaaGreatDoor
namespace Go.Proofs.YtconibmdlfkopaaGreatDoor
open Go.RowKit
theorem mac_size {id z k : Int} (h : Hi id z k) (key msg : ByteArray) : ((mac id key msg).size : Int) = z := dig_size h _
theorem Hi.z64 {id z k : Int} (h : Hi id z k) : z ≤ 64 := by rcases h with ⟨_, rfl, _⟩ | ⟨_, rfl, _⟩ | ⟨_, rfl, _⟩ | ⟨_, rfl, _⟩ <;> omega
theorem Hi.z28 {id z k : Int} (h : Hi id z k) : 28 ≤ z := by rcases h with ⟨_, rfl, _⟩ | ⟨_, rfl, _⟩ | ⟨_, rfl, _⟩ | ⟨_, rfl, _⟩ <;> omega
/-- A step of an update: the key and the value anew. -/
def st1 (id : Int) (x s : ByteArray) (p : ByteArray × ByteArray) : ByteArray × ByteArray := (mac id p.1 (p.2 ++ (x ++ s)), mac id (mac id p.1 (p.2 ++ (x ++ s))) p.2)
/-- An update. -/
def upd (id : Int) (s : ByteArray) (p : ByteArray × ByteArray) : ByteArray × ByteArray := if s.size = 0 then st1 id ⟨#[0]⟩ s p else st1 id ⟨#[1]⟩ s (st1 id ⟨#[0]⟩ s p)
/-- Both are as long as a digest. -/
def Wf (z : Int) (p : ByteArray × ByteArray) : Prop := (p.1.size : Int) = z ∧ (p.2.size : Int) = z
theorem st1_wf {id z k : Int} (h : Hi id z k) (x s : ByteArray) (p : ByteArray × ByteArray) : Wf z (st1 id x s p) := ⟨mac_size h _ _, mac_size h _ _⟩
theorem upd_wf {id z k : Int} (h : Hi id z k) (s : ByteArray) (p : ByteArray × ByteArray) : Wf z (upd id s p) := by
  unfold upd
  split <;> exact st1_wf h _ _ _
set_option maxRecDepth 100000 in
set_option maxHeartbeats 1600000 in
theorem mk_any (id z kk : Int) (h : Hi id z kk) (K : ByteArray) (hKs : K.size ≤ 64) (q : Option Addr) (n c : Nat) (f : Nat → ByteArray) (w : World) (hP : Ps w q n f) (hn : n ≤ 3) (hf : ∀ i, (f i).size ≤ 1000) (hK : KK w) :
    Calls Tryz.prog 32 #[.agg #[.int .i64 id, .string K], .slice q n c] w fun e w' => e = .returned (.string (mac id K (cat f n))) ∧ Sm w w' := by
  have HK : Hid (KK w) := hK
  have HP : Hid (Ps w q n f) := hP
  have hcat : ∀ k, k ≤ 3 → (cat f k).size ≤ 3000 := fun k hk => by
    have h1 := cat_size f 1000 hf k
    omega
  have HC : Hid (∀ k, k ≤ 3 → (cat f k).size ≤ 3000) := hcat
  have HF : Hid (∀ i, (f i).size ≤ 1000) := hf
  have hIs : (pd id K 54).size ≤ 128 := by rw [pd_size]; exact hk_le _
  have hOs : (pd id K 92).size ≤ 128 := by rw [pd_size]; exact hk_le _
  have hMac : ∀ t, dig id (pd id K 92 ++ dig id (pd id K 54 ++ t)) = mac id K t := fun t => rfl
  have C1 : Hid (∀ w, KK w → Calls Tryz.prog 34 #[.int .i64 id, .string K] w fun e w' => ∃ m b, e = .returned (.tuple #[.pointer (some ⟨m, 0, none⟩), .int .i64 0]) ∧ w.heap.size ≤ m ∧ w.heap.size ≤ b ∧ Mc w' m b id (pd id K 92) (pd id K 54) ∧ Sm w w') := mnew_any _ z kk h K (by omega)
  generalize mac id K = M at *
  generalize pd id K 92 = O at *
  generalize pd id K 54 = I at *
  have C3 : Hid (∀ m b t s w, t.size + s.size ≤ 4000 → KK w → Nc b → Mc w m b id O (I ++ t) → Calls Tryz.prog 35 #[.pointer (some ⟨m, 0, none⟩), .string s] w fun e w' => e = .returned (.int .i64 0) ∧ Kp (At1 b) w w' ∧ Mc w' m b id O (I ++ (t ++ s))) := fun m b t s w ht h1 h2 h3 => by
    rw [← app_assoc]
    exact mwrite_any m b _ O (I ++ t) s (by rw [ByteArray.size_append]; omega) w h1 h2 h3
  have C4 : Hid (∀ m b t w, t.size ≤ 4000 → KK w → Mc w m b id O (I ++ t) → Calls Tryz.prog 36 #[.pointer (some ⟨m, 0, none⟩)] w fun e w' => e = .returned (.string (M t)) ∧ Sm w w') := fun m b t w ht h1 h2 => by
    rw [← hMac]
    exact msum_any m b _ z kk h O (I ++ t) hOs (by rw [ByteArray.size_append]; omega) w h1 h2
  have HE : Hid (I ++ ByteArray.empty = I) := by
    show I ++ ByteArray.empty = I
    apply ByteArray.ext
    simp
  have n1 : (n : Int) ≤ 3 := by omega
  have HN : Hid (n ≤ 3) := hn
  clear h hK hP hf hIs hOs hMac hcat hKs hn
  go_enter Tryz.func32, Tryz.ntmps32
  have k0 := HK.out.sm ((Sm.refl w).alloc (.cells #[.int .i64 id, .string K] 59))
  go_wp2_with (first
    | (go_at_call 34; refine (C1.out _ k0).mono ?_; rintro e w2 ⟨ma, ba, rfl, hma, hba, A2, S2⟩; have k2 := k0.sm S2))
  have n2 := k0.nc hba
  have ga : w.heap.size ≤ ba := Nat.le_trans ((Sm.refl w).alloc _).size hba
  have K0 : Kp (Fr w.heap.size) w w2 := ((Sm.refl w).alloc _ |>.trans S2).kp _
  have hw0 : w.heap.size ≤ w.heap.size := Nat.le_refl _
  have A0 : Mc w2 ma ba id O (I ++ ByteArray.empty) := by rw [HE.out]; exact A2
  clear S2 k2 A2 hba hma k0
  go_loopw [19] (fun y u => ∃ k : Nat, k ≤ n ∧ y = .int .i64 (k : Int) ∧ Mc u ma ba id O (I ++ cat f k) ∧ Kp (Fr w.heap.size) w u) (fun y _ => 3 - (intOf y).toNat)
  case atStart => exact ⟨0, by omega, rfl, A0, K0⟩
  case round =>
    clear A0 K0
    obtain ⟨k, hkn, rfl, A0, K0⟩ := hrel
    have x0 := HK.out.fr K0 hw0
    have k0 : (0 : Int) ≤ (k : Int) := by omega
    by_cases hlt : k < n
    · have k1 : (k : Int) < (n : Int) := by omega
      obtain ⟨pb, po, rfl, pc⟩ := HP.out.at K0 k hlt
      have hcs := HC.out (k + 1) (by have := HN.out; omega)
      rw [cat, ByteArray.size_append] at hcs
      have HS2 : Hid ((cat f k).size + (f k).size ≤ 4000) := show (cat f k).size + (f k).size ≤ 4000 by omega
      clear hcs
      have hc1 : k + 1 ≤ n := by omega
      clear hkn hlt
      go_wp2_with (go_at_call 35; refine (C3.out _ _ _ _ _ HS2.out x0 n2 A0).mono ?_; rintro e u1 ⟨rfl, K1, A1⟩; have U1 := K0.trans (K1.fr ga))
      go_roundw
      case rel => exact ⟨k + 1, hc1, by go_num, A1, U1⟩
      case measure => simp [intOf]; omega
    · have hkn' : k = n := by omega
      have k1 : ¬ (k : Int) < (n : Int) := by omega
      have HS2 : Hid ((cat f k).size ≤ 4000) := Nat.le_trans (HC.out k (by have := HN.out; omega)) (by omega)
      have HQ : Hid (k = n) := hkn'
      clear hkn' hlt hkn
      go_wp2_with (go_at_call 36; refine (C4.out _ _ _ _ HS2.out x0 A0).mono ?_; rintro e u1 ⟨rfl, S3⟩)
      go_ret
      exact ⟨by rw [HQ.out]; rfl, Sm.of (K0.trans (S3.kp _))⟩
end Go.Proofs.YtconibmdlfkopaaGreatDoor
namespace Go.Proofs.YtconibmdlfkopaaGreatDoor
open Go.RowKit
/-- The generator at d: of the hash id, key and value p, count c. -/
def Dg (w : World) (d : Nat) (id : Int) (p : ByteArray × ByteArray) (c : Int) : Prop := Bk w d #[.int .i64 id, .string p.1, .string p.2, .int .i64 c] 61
theorem Dg.sm {w w' : World} {d : Nat} {id : Int} {p : ByteArray × ByteArray} {c : Int} (h : Dg w d id p c) (k : Sm w w') : Dg w' d id p c := Bk.sm h k
theorem Dg.far {w w' : World} {d a : Nat} {id : Int} {p : ByteArray × ByteArray} {c : Int} (h : Dg w d id p c) (k : Kp (At1 a) w w') (hn : d ≠ a) : Dg w' d id p c := Bk.kp h k hn
/-- Three texts as a row. -/
def f3 (a b c : ByteArray) (i : Nat) : ByteArray := if i = 0 then a else if i = 1 then b else c
theorem f3_ps {w : World} {g : Nat} {a b c : ByteArray} {t : TypeId} (h : Bk w g #[.string a, .string b, .string c] t) : Ps w (some ⟨g, 0, none⟩) 3 (f3 a b c) :=
  Or.inr ⟨g, 0, rfl, h.lt, fun i hi => by
    rw [h.cell]
    have : i = 0 ∨ i = 1 ∨ i = 2 := by omega
    rcases this with rfl | rfl | rfl <;> rfl⟩
theorem f1_ps {w : World} {g : Nat} {a : ByteArray} {t : TypeId} (h : Bk w g #[.string a] t) : Ps w (some ⟨g, 0, none⟩) 1 (f3 a a a) :=
  Or.inr ⟨g, 0, rfl, h.lt, fun i hi => by
    rw [h.cell]
    have : i = 0 := by omega
    subst this
    rfl⟩
theorem f3_cat (a b c : ByteArray) : cat (f3 a b c) 3 = a ++ (b ++ c) := by
  show ((ByteArray.empty ++ a) ++ b) ++ c = _
  rw [app_nil, app_assoc]
theorem f1_cat (a : ByteArray) : cat (f3 a a a) 1 = a := app_nil a
theorem f3_le {a b c : ByteArray} {M : Nat} (h1 : a.size ≤ M) (h2 : b.size ≤ M) (h3 : c.size ≤ M) (i : Nat) : (f3 a b c i).size ≤ M := by
  unfold f3
  split
  · exact h1
  · split
    · exact h2
    · exact h3
theorem mk3_any (id z kk : Int) (h : Hi id z kk) (K a b c : ByteArray) (hKs : K.size ≤ 64) (h1 : a.size ≤ 1000) (h2 : b.size ≤ 1000) (h3 : c.size ≤ 1000) (t : TypeId) (g : Nat) (w : World) (hK : KK w) (hB : Bk w g #[.string a, .string b, .string c] t) :
    Calls Tryz.prog 32 #[.agg #[.int .i64 id, .string K], .slice (some ⟨g, 0, none⟩) 3 3] w fun e w' => e = .returned (.string (mac id K (a ++ (b ++ c)))) ∧ Sm w w' := by
  rw [← f3_cat a b c]
  exact mk_any id z kk h K hKs _ 3 3 _ w (f3_ps hB) (by omega) (f3_le h1 h2 h3) hK
theorem mk1_any (id z kk : Int) (h : Hi id z kk) (K a : ByteArray) (hKs : K.size ≤ 64) (h1 : a.size ≤ 1000) (t : TypeId) (g : Nat) (w : World) (hK : KK w) (hB : Bk w g #[.string a] t) :
    Calls Tryz.prog 32 #[.agg #[.int .i64 id, .string K], .slice (some ⟨g, 0, none⟩) 1 1] w fun e w' => e = .returned (.string (mac id K a)) ∧ Sm w w' := by
  have e := f1_cat a
  have := mk_any id z kk h K hKs _ 1 1 _ w (f1_ps hB) (by omega) (f3_le h1 h1 h1) hK
  rwa [e] at this
theorem dldK_is (v : Value) : Instr.loadAt 59 v = loadS 59 v := rfl
theorem dldK {w : World} {g : Nat} {i : Int} {a b : ByteArray} {c : Value} {t : TypeId} (h : Bk w g #[.int .i64 i, .string a, .string b, c] t) : (loadS 59 (.pointer (some ⟨g, 0, none⟩))).run Tryz.prog w = .ok (.agg #[.int .i64 i, .string a]) w :=
  loadS_part 2 Tryz.underlying59 rfl (by kernel_rfl) rfl fun j hj => by
    rw [h.cell, Nat.zero_add]
    have : j = 0 ∨ j = 1 := by omega
    rcases this with rfl | rfl <;> rfl
attribute [local go_sem ↓] dldK_is
set_option maxRecDepth 100000 in
set_option maxHeartbeats 1600000 in
theorem dturn_any (d : Nat) (id z kk : Int) (h : Hi id z kk) (p : ByteArray × ByteArray) (hp : Wf z p) (c : Int) (x s : ByteArray) (hx : x.size ≤ 1) (hs : s.size ≤ 900) (w : World) (hK : KK w) (hn : Nc d) (hD : Dg w d id p c) :
    Calls Tryz.prog 44 #[.pointer (some ⟨d, 0, none⟩), .string x, .string s] w fun e w' => e = .returned (.tuple #[]) ∧ Kp (At1 d) w w' ∧ Dg w' d id (st1 id x s p) c := by
  obtain ⟨K, V⟩ := p
  have hz := h.z64
  obtain ⟨hk1, hk2⟩ := hp
  have hk1 : (K.size : Int) = z := hk1
  have hk2 : (V.size : Int) = z := hk2
  obtain ⟨A, hA⟩ : ∃ A, mac id K (V ++ (x ++ s)) = A := ⟨_, rfl⟩
  have hAs := mac_size h K (V ++ (x ++ s))
  rw [hA] at hAs
  obtain ⟨B, hB⟩ : ∃ B, mac id A V = B := ⟨_, rfl⟩
  have C1 : Hid (∀ g w, KK w → Bk w g #[.string V, .string x, .string s] 9 → Calls Tryz.prog 32 #[.agg #[.int .i64 id, .string K], .slice (some ⟨g, 0, none⟩) 3 3] w fun e w' => e = .returned (.string A) ∧ Sm w w') := fun g w h1 h2 => hA ▸ mk3_any id z kk h K V x s (by omega) (by omega) (by omega) (by omega) _ g w h1 h2
  have C2 : Hid (∀ g w, KK w → Bk w g #[.string V] 9 → Calls Tryz.prog 32 #[.agg #[.int .i64 id, .string A], .slice (some ⟨g, 0, none⟩) 1 1] w fun e w' => e = .returned (.string B) ∧ Sm w w') := fun g w h1 h2 => hB ▸ mk1_any id z kk h A V (by omega) (by omega) _ g w h1 h2
  have hE : st1 id x s (K, V) = (A, B) := by
    show (mac id K (V ++ (x ++ s)), mac id (mac id K (V ++ (x ++ s))) V) = (A, B)
    rw [hA, hB]
  rw [hE]
  have D0 : Bk w d #[.int .i64 id, .string K, .string V, .int .i64 c] 61 := hD
  have HK : Hid (KK w) := hK
  have HD : Hid (Nc d) := hn
  clear h hK hx hs hA hB hE hz hk1 hk2 hAs hD hn
  go_enter Tryz.func44, Tryz.ntmps44
  have D1 := D0.drew
  have ld1 := dldK D1
  have c1 : w.drew.cell? ⟨d, 2, none⟩ = some (.string V) := D1.cell 2
  have D2 := (D0.alloc (.cells #[.string V, .string x, .string s] 9)).drew
  have ld2 := dldK D2
  have k2 := HK.out.sm (((Sm.refl w).alloc (.cells #[.string V, .string x, .string s] 9)).drew)
  have B2 := (Bk.new w #[.string V, .string x, .string s] 9).drew
  go_wp2_with fail
  go_cut [] from 6 to 21 (fun wx => Bk wx d #[.int .i64 id, .string A, .string V, .int .i64 c] 61 ∧ Kp (At1 d) w wx)
  case first =>
    go_region_with (go_at_call 32; refine (C1.out _ _ k2 B2).mono ?_; rintro e w1 ⟨rfl, S1⟩; have D3 := D2.sm S1; have fz3 := D3.fz 1; have cc3 := D3.cell 1)
    all_goals
      go_wp2
      go_meet
      exact ⟨D3.set 1 _, ((((Kp.refl _ w).alloc _).drew).trans (S1.kp _)).setCell _ _ rfl⟩
  case rest =>
    obtain ⟨E0, K0⟩ := hcut
    clear D0 D1 ld1 c1 D2 ld2 k2 B2 C1
    have HKc : Hid (KK wc) := HK.out.at1 K0 HD.out
    have E1 := E0.drew
    have ld1 := dldK E1
    have c1 : wc.drew.cell? ⟨d, 2, none⟩ = some (.string V) := E1.cell 2
    have E2 := (E0.alloc (.cells #[.string V] 9)).drew
    have ld2 := dldK E2
    have k2 := HKc.out.sm (((Sm.refl wc).alloc (.cells #[.string V] 9)).drew)
    have B2 := (Bk.new wc #[.string V] 9).drew
    go_wp2_with fail
    go_region_with (go_at_call 32; refine (C2.out _ _ k2 B2).mono ?_; rintro e w1 ⟨rfl, S1⟩; have E3 := E2.sm S1; have fz3 := E3.fz 2; have cc3 := E3.cell 2)
    all_goals
      go_wp2
      go_end0
      exact ⟨rfl, ((((K0.alloc _).drew).trans (S1.kp _)).setCell _ _ rfl), E3.set 2 _⟩
/-! ### update, seed, Count -/
theorem ne_text {s : ByteArray} (h : ¬ s.size = 0) : s.toList.isEmpty = false := by
  rw [← decide_eq_emptyBytes]
  exact decide_eq_false fun e => h (by rw [e]; rfl)
theorem no_text {s : ByteArray} (h : s.size = 0) : s = ⟨#[]⟩ := ByteArray.ext (Array.eq_empty_of_size_eq_zero h)
set_option maxRecDepth 100000 in
set_option maxHeartbeats 1600000 in
theorem dupd_any (d : Nat) (id z kk : Int) (h : Hi id z kk) (p : ByteArray × ByteArray) (hp : Wf z p) (c : Int) (s : ByteArray) (hs : s.size ≤ 900) (w : World) (hK : KK w) (hn : Nc d) (hD : Dg w d id p c) :
    Calls Tryz.prog 30 #[.pointer (some ⟨d, 0, none⟩), .string s] w fun e w' => e = .returned (.tuple #[]) ∧ Kp (At1 d) w w' ∧ Dg w' d id (upd id s p) c := by
  have C1 : Hid (Calls Tryz.prog 44 #[.pointer (some ⟨d, 0, none⟩), .string ⟨#[0]⟩, .string s] w fun e w' => e = .returned (.tuple #[]) ∧ Kp (At1 d) w w' ∧ Dg w' d id (st1 id ⟨#[0]⟩ s p) c) := dturn_any d id z kk h p hp c ⟨#[0]⟩ s (by decide) hs w hK hn hD
  have C2 : Hid (∀ w, KK w → Dg w d id (st1 id ⟨#[0]⟩ s p) c → Calls Tryz.prog 44 #[.pointer (some ⟨d, 0, none⟩), .string ⟨#[1]⟩, .string s] w fun e w' => e = .returned (.tuple #[]) ∧ Kp (At1 d) w w' ∧ Dg w' d id (st1 id ⟨#[1]⟩ s (st1 id ⟨#[0]⟩ s p)) c) := fun w h1 h2 => dturn_any d id z kk h _ (st1_wf h _ _ _) c ⟨#[1]⟩ s (by decide) hs w h1 hn h2
  have HK : Hid (KK w) := hK
  have HD : Hid (Nc d) := hn
  by_cases c0 : s.size = 0
  · have e := no_text c0
    have hU : upd id s p = st1 id ⟨#[0]⟩ s p := by unfold upd; rw [if_pos c0]
    rw [hU]
    subst e
    clear h hp hs hK hn hD c0 hU C2
    go_enter Tryz.func30, Tryz.ntmps30
    go_wp2_with (go_at_call 44; refine C1.out.mono ?_; rintro e w1 ⟨rfl, K1, D1⟩)
    go_end0
    exact ⟨rfl, K1, D1⟩
  · have hU : upd id s p = st1 id ⟨#[1]⟩ s (st1 id ⟨#[0]⟩ s p) := by unfold upd; rw [if_neg c0]
    rw [hU]
    have e := ne_text c0
    clear h hp hs hK hn hD c0 hU
    go_enter Tryz.func30, Tryz.ntmps30
    go_wp2_with (first
      | (go_at_call_of 44 (Value.string ⟨#[1]⟩); refine (C2.out _ k1 D1).mono ?_; rintro e w2 ⟨rfl, K2, D2⟩)
      | (go_at_call_of 44 (Value.string ⟨#[0]⟩); refine C1.out.mono ?_; rintro e w1 ⟨rfl, K1, D1⟩; have k1 := HK.out.at1 K1 HD.out))
    go_end0
    exact ⟨rfl, K1.trans K2, D2⟩
set_option maxRecDepth 100000 in
set_option maxHeartbeats 1600000 in
theorem dseed_any (d : Nat) (id z kk : Int) (h : Hi id z kk) (p : ByteArray × ByteArray) (hp : Wf z p) (c : Int) (s : ByteArray) (hs : s.size ≤ 900) (w : World) (hK : KK w) (hn : Nc d) (hD : Dg w d id p c) :
    Calls Tryz.prog 26 #[.pointer (some ⟨d, 0, none⟩), .string s] w fun e w' => e = .returned (.tuple #[]) ∧ Kp (At1 d) w w' ∧ Dg w' d id (upd id s p) 1 := by
  have C1 : Hid (Calls Tryz.prog 30 #[.pointer (some ⟨d, 0, none⟩), .string s] w fun e w' => e = .returned (.tuple #[]) ∧ Kp (At1 d) w w' ∧ Dg w' d id (upd id s p) c) := dupd_any d id z kk h p hp c s hs w hK hn hD
  generalize upd id s p = q at *
  clear h hp hs hK hn hD
  go_enter Tryz.func26, Tryz.ntmps26
  go_wp2_with (go_at_call 30; refine C1.out.mono ?_; rintro e w1 ⟨rfl, K1, D1⟩; have f1 := Bk.fz D1 3; have c1 : w1.cell? ⟨d, 3, none⟩ = some (.int .i64 c) := Bk.cell D1 3)
  go_end0
  exact ⟨rfl, K1.setCell _ _ rfl, Bk.set D1 3 _⟩
set_option maxRecDepth 100000 in
set_option maxHeartbeats 1600000 in
theorem dcount_any (d : Nat) (id c : Int) (p : ByteArray × ByteArray) (w : World) (hD : Dg w d id p c) :
    Calls Tryz.prog 17 #[.pointer (some ⟨d, 0, none⟩)] w fun e w' => e = .returned (.int .i64 c) ∧ w = w' := by
  have c1 : w.cell? ⟨d, 3, none⟩ = some (.int .i64 c) := Bk.cell hD 3
  clear hD
  go_enter Tryz.func17, Tryz.ntmps17
  go_wp2
  go_ret
  exact ⟨rfl, rfl⟩
end Go.Proofs.YtconibmdlfkopaaGreatDoor
