/-
  The documents' numbers: Inverse.
-/
import Derived.Deep.AppendSrc
import Derived.Test.YtleckbdhebjfkaaZRMod
import Derived.Test.YtleckbdhebjfkaaZMtN
namespace Go.Proofs.Ytleckbdhebjfkaa
open Go.RowKit
attribute [local go_sem ↓] loadNat_is loadArr_is loadWide_is loadArrW_is storeNat_is storeWide_is
attribute [local go_sem] loadNat loadArr loadWide loadArrW storeNat storeWide idxArr fold9 fold18 nw_size nw_elem pre_self pre_1 pre_2 pre_3 pre_4 pre_5 pre_6 pre_7 pre_8 pre_9 pre_10 pre_11 pre_12 pre_13 pre_14 pre_15 pre_16 pre_17 pre_18 pre_19 pre_20 pre_21 pre_22 pre_23 pre_24 pre_25 pre_26 pre_27 pre_28 pre_29 pre_30 pre_31 pre_32 pre_33 pre_34 pre_35 pre_36 pre_37 pre_38 pre_39 pre_40 gro_size gro_drew gro_drewN drew_gro drewN_gro gro_gro blk_gro frz_gro blk_drew frz_drew blk_drewN frz_drewN blk_alloc_at frz_alloc_at blk_alloc frz_alloc cell_gro frozen_gro cell_alloc_pre frozen_alloc_pre setCell_drewN alloc_drewN setBlk_drew setBlk_drewN setBlk_alloc_at setBlk_alloc setBlk_gro setCell_gro setCell_alloc_pre size_setBlk size_setCell
attribute [local go_sem ↓] bsl_is
/-- append of one row of digits to another, shut. -/
def appS (ty : TypeId) (xs : Array Value) : Sem Value := Builtin.append_ #[31, 31] ty xs
theorem app_is (ty : TypeId) (xs : Array Value) : Builtin.append_ #[31, 31] ty xs = appS ty xs := rfl
theorem infoU : (Try.prog.info? 35).map (fun i => (i.zero, i.size, i.bytes)) = some (some (.int .u32 0), 1, 4) := by kernel_rfl
theorem append_digits (w : World) (b n x : Nat) (p : Option Addr) (h : Sl w p x) (hx : dl x ≤ 1000) :
    ∃ p' c w', (∀ ty, (appS ty #[.slice (some ⟨b, 0, none⟩) 0 0, .slice p (dl x) n]).run Try.prog w = .ok (.slice p' (dl x) c) w') ∧ Sl w' p' x ∧ Gr w w' := by
  obtain ⟨i, hi, hz, hs, hb⟩ : ∃ i, Try.prog.info? 35 = some i ∧ i.zero = some (.int .u32 0) ∧ i.size = 1 ∧ i.bytes = 4 := by
    have h0 := infoU
    cases hc : Try.prog.info? 35 with
    | none => rw [hc] at h0; cases h0
    | some i =>
      rw [hc] at h0
      simp only [Option.map_some, Option.some.injEq, Prod.mk.injEq] at h0
      exact ⟨i, rfl, h0.1, h0.2.1, h0.2.2⟩
  by_cases h0 : dl x = 0
  · have e0 := dl_eq_zero x h0
    subst e0
    have hsrc : Src Try.prog i.size 31 (.slice p 0 n) 0 [] w := by
      cases p with
      | none => exact Src.ofNil w Try.underlying31 n
      | some a => exact Src.ofSlice w Try.underlying31 a 0 n [] (by simp) (fun j u hj => by simp at hj) (fun u hu => by cases hu)
    refine ⟨some ⟨b, 0, none⟩, 0, w, fun ty => ?_, Sl.zero _ _, Gr.refl _⟩
    have hr := run_append_room_src (P := Try.prog) w 31 31 ty 35 i Try.underlying31 hi b 0 0 0 (.slice p 0 n) 0 [] hsrc (by omega) (fun j hj => by simp at hj) (fun j hj => by simp at hj)
    rw [dl_zero]
    exact hr
  · obtain ⟨c, rfl, hc, hd⟩ := h.some (by omega)
    have hnd : (nd (dl x) x).toList.length = dl x * i.size := by rw [hs, Array.length_toList, nd_size, Nat.mul_one]
    have hsrc : Src Try.prog i.size 31 (.slice (some ⟨c, 0, none⟩) (dl x) n) (dl x) (nd (dl x) x).toList w := by
      refine Src.ofSlice w Try.underlying31 ⟨c, 0, none⟩ (dl x) n _ hnd (fun j u hj => ?_) (fun u hu => ?_)
      · rw [Array.getElem?_toList] at hj
        have hjl : j < dl x := by
          by_cases hl : j < dl x
          · exact hl
          · rw [Array.getElem?_eq_none (by rw [nd_size]; omega)] at hj; cases hj
        rw [nd_get _ _ _ hjl] at hj
        have e : (⟨c, 0, none⟩ : Addr).add j = ⟨c, j, none⟩ := by rw [Addr.add_lit, Nat.zero_add]
        rw [e, cell_blk, hd j hjl, hj]
      · obtain ⟨j, hj⟩ := List.mem_iff_getElem?.1 hu
        rw [Array.getElem?_toList] at hj
        have hjl : j < dl x := by
          by_cases hl : j < dl x
          · exact hl
          · rw [Array.getElem?_eq_none (by rw [nd_size]; omega)] at hj; cases hj
        rw [nd_get _ _ _ hjl] at hj
        cases hj
        rfl
    have hr := fun ty => run_append_grow_src (P := Try.prog) w 31 31 ty 35 i _ Try.underlying31 hi hz (some ⟨b, 0, none⟩) 0 0 [] (run_firstCells_some w.drew i.size 0 ⟨b, 0, none⟩ 0 0 [] (by simp) (fun j u hj => by simp at hj)) (.slice (some ⟨c, 0, none⟩) (dl x) n) (dl x) (nd (dl x) x).toList hsrc (by omega) (by omega) (by rw [hb, Nat.zero_add]; simp only [Builtin.nextslicecap]; rw [if_pos (by omega)]; omega)
    simp only [Nat.zero_add, List.nil_append] at hr
    refine ⟨_, _, _, hr, ?_, ?_⟩
    · intro k hk
      refine ⟨w.heap.size, rfl, ?_, ?_⟩
      · simp [go_sem]
      · have e : w.heap.size = w.drew.heap.size := by simp [go_sem]
        rw [blk_alloc_at _ _ _ _ _ e, Array.getElem?_append_left (by simp [nd_size, hk])]
        simp [nd_get _ _ _ hk]
    · exact (by repeat (first | exact Gr.refl _ | apply Gr.drewN | apply Gr.drew | apply Gr.alloc | apply Gr.gro))
def rdD (w : World) (b i : Nat) : Nat := match (blk w b)[i]? with | some (.int _ z) => z.toNat | _ => 0
def numD (f : Nat → Nat) : Nat → Nat
  | 0 => 0
  | n + 1 => numD f n + f n * pq n
def mS (w : World) : Value → Nat
  | .slice (some ⟨b, _, _⟩) n _ => numD (rdD w b) n
  | _ => 0
theorem numD_is (f : Nat → Nat) (x : Nat) : ∀ n, (∀ i, i < n → f i = dg x i) → numD f n = x % pq n
  | 0, _ => by rw [pq_zero, Nat.mod_one]; rfl
  | n + 1, h => by
    show numD f n + f n * pq n = _
    rw [numD_is f x n (fun i hi => h i (by omega)), h n (by omega), dmod_succ]
theorem mS_is {w : World} {p : Option Addr} {x n : Nat} (h : Sl w p x) : mS w (.slice p (dl x) n) = x := by
  by_cases h0 : dl x = 0
  · have e := dl_eq_zero x h0
    subst e
    cases p <;> rfl
  · obtain ⟨b, rfl, hb, hc⟩ := h.some (by omega)
    show numD (rdD w b) (dl x) = x
    rw [numD_is (rdD w b) x (dl x) (fun i hi => by unfold rdD; rw [hc i hi]; rfl), Nat.mod_eq_of_lt (dl_lt x)]
theorem subM_is (t c m : Nat) (ht : t < m) (hc : c < m) : subM t c m < m ∧ ∃ k : Int, (subM t c m : Int) = t - c + k * m := by
  unfold subM
  split
  · exact ⟨by omega, 0, by omega⟩
  · exact ⟨by omega, 1, by omega⟩
structure RI (a m r s t u : Nat) : Prop where
  rm : r ≤ m
  sm : s ≤ m
  tm : t < m
  um : u < m
  d1 : (m : Int) ∣ (a : Int) * t - r
  d2 : (m : Int) ∣ (a : Int) * u - s
  g : Nat.gcd r s = Nat.gcd m a
theorem RI.start (a m : Nat) (h : 1 < m) : RI a m m (a % m) 0 1 := by
  refine ⟨Nat.le_refl _, Nat.le_of_lt (Nat.mod_lt _ (by omega)), by omega, h, ⟨-1, by simp⟩, ⟨((a / m : Nat) : Int), ?_⟩, ?_⟩
  · have h1 := Nat.div_add_mod a m
    obtain ⟨q, hq⟩ : ∃ q, a / m = q := ⟨_, rfl⟩
    obtain ⟨v, hv⟩ : ∃ q, a % m = q := ⟨_, rfl⟩
    rw [hq, hv] at h1 ⊢
    have h2 : (m : Int) * q + v = a := by exact_mod_cast h1
    rw [← h2]
    grind
  · rw [Nat.gcd_comm, ← Nat.gcd_rec]
theorem RI.step {a m r s t u : Nat} (h : RI a m r s t u) (h0 : 0 < s) (q v c x : Nat) (hq : r / s = q) (hv : r % s = v) (hc : q % m * u % m = c) (hx : subM t c m = x) : RI a m s v u x ∧ v < s := by
  have hm : 0 < m := by have := h.tm; omega
  have hvs : v < s := by rw [← hv]; exact Nat.mod_lt _ h0
  have hcm : c < m := by rw [← hc]; exact Nat.mod_lt _ hm
  obtain ⟨h1, k, h2⟩ := subM_is t c m h.tm hcm
  rw [hx] at h1 h2
  refine ⟨⟨h.sm, by have := h.sm; omega, h.um, h1, h.d2, ?_, ?_⟩, hvs⟩
  · obtain ⟨c1, e1⟩ := h.d1
    obtain ⟨c2, e2⟩ := h.d2
    have h3 := Nat.div_add_mod r s
    rw [hq, hv] at h3
    have h4 : (s : Int) * q + v = r := by exact_mod_cast h3
    rw [pow_mul] at hc
    have h5 := Nat.div_add_mod (q * u) m
    rw [hc] at h5
    obtain ⟨k', hk⟩ : ∃ k', q * u / m = k' := ⟨_, rfl⟩
    rw [hk] at h5
    have h6 : (m : Int) * k' + c = q * u := by exact_mod_cast h5
    refine ⟨c1 - q * c2 + a * k' + a * k, ?_⟩
    rw [h2]
    grind
  · rw [← h.g, ← hv, Nat.gcd_comm, ← Nat.gcd_rec, Nat.gcd_comm]
theorem RI.last {a m r t u : Nat} (h : RI a m r 0 t u) (h1 : 1 < m) : r = Nat.gcd m a ∧ 0 < r ∧ (r = 1 → a * t % m = 1) := by
  have hg := h.g
  rw [Nat.gcd_zero_right] at hg
  have hp : 0 < Nat.gcd m a := Nat.gcd_pos_of_pos_left _ (by omega)
  refine ⟨hg, by omega, fun e => ?_⟩
  obtain ⟨c, hc⟩ := h.d1
  rw [e] at hc
  obtain ⟨k, hk⟩ := inv_pos (a * t) m c h1 (by rw [← hc]; simp)
  rw [hk, Nat.add_mul_mod_self_left, Nat.mod_eq_of_lt h1]
/-- What Inverse hands back. -/
def InvR (a m : Nat) (w : World) (e : Ending) (w' : World) : Prop :=
  (Nat.gcd m a = 1 → ∃ t p n, t < m ∧ a * t % m = 1 ∧ e = .returned (.tuple #[.slice p (dl t) n, .bool true]) ∧ Sl w' p t) ∧ (Nat.gcd m a ≠ 1 → e = .returned (.tuple #[.slice none 0 0, .bool false])) ∧ Gr w w'

attribute [local go_sem ↓] app_is
set_option maxRecDepth 100000 in
set_option maxHeartbeats 3200000 in
theorem rinv_any (a m n n' : Nat) (p q : Option Addr) (w : World) (hp : Sl w p a) (hq : Sl w q m) (ha : dl a ≤ 400) (hm : dl m ≤ 400) (h1 : 1 < m) :
    Calls Try.prog 22 #[.slice p (dl a) n, .slice q (dl m) n'] w (InvR a m w) := by
  have H1 : Hid (∀ w' r z k k' p1 p', dl r ≤ 400 → Sl w' p1 r → Sl w' p' 1 → cmpZ r 1 = z → Calls Try.prog 11 #[.slice p1 (dl r) k, .slice p' 1 k'] w' fun e w'' => e = .returned (.int .i64 z) ∧ Gr w' w'') := fun w' r z k k' p1 p' h2 h3 h4 e => e ▸ rcmp_any r 1 k k' p1 p' w' h3 h4 (by omega) (by decide)
  have hcm : cmpZ m 1 = 1 := by unfold cmpZ; split <;> (try split) <;> omega
  have hc := fun w' k' p' (g : Gr w w') (h : Sl w' p' 1) => H1.out w' m 1 n' k' q p' hm (hq.gr g) h hcm
  have hmod := fun w' (g : Gr w w') => rmod_any a m n n' p q w' (hp.gr g) (hq.gr g) (by omega) (by omega) (by omega)
  have hqm := fun w' k p' x y (g : Gr w w') (h : Sl w' p' x) (hx : dl x ≤ 400) (e : x % m = y) => (e ▸ rmod_any x m k n' p' q w' h (hq.gr g) (by omega) (by omega) (by omega) : Calls Try.prog 20 #[.slice p' (dl x) k, .slice q (dl m) n'] w' (Nm y w'))
  have hmm := fun w' k k' p1 p2 x y z (g : Gr w w') (s1 : Sl w' p1 x) (s2 : Sl w' p2 y) (l1 : x < m) (l2 : y < m) (e : x * y % m = z) => (e ▸ rmulmod_any x y m k k' n' p1 p2 q w' s1 s2 (hq.gr g) (dl_low x m 400 (by omega) hm) (dl_low y m 400 (by omega) hm) hm (by omega) : Calls Try.prog 24 #[.slice p1 (dl x) k, .slice p2 (dl y) k', .slice q (dl m) n'] w' (Nm z w'))
  have hsm := fun w' k k' p1 p2 x y z (g : Gr w w') (s1 : Sl w' p1 x) (s2 : Sl w' p2 y) (l1 : x < m) (l2 : y < m) (e : subM x y m = z) => (e ▸ rsubmod_any x y m k k' n' p1 p2 q w' s1 s2 (hq.gr g) hm l1 l2 : Calls Try.prog 43 #[.slice p1 (dl x) k, .slice p2 (dl y) k', .slice q (dl m) n'] w' (Nm z w'))
  have hap := fun w' b (g : Gr w w') => append_digits w' b n' m q (hq.gr g) (by omega)
  have HB : Hid (∀ x, x ≤ m → dl x ≤ 400) := fun x hx => dl_low x m 400 hx hm
  have HS : Hid (RI a m m (a % m) 0 1) := RI.start a m h1
  obtain ⟨X, eX⟩ : ∃ X, a % m = X := ⟨_, rfl⟩
  obtain ⟨A, eA⟩ : ∃ L, dl a = L := ⟨_, rfl⟩
  obtain ⟨K, eK⟩ : ∃ L, dl m = L := ⟨_, rfl⟩
  simp only [eX, eA, eK] at hc hmod hqm hmm hsm hap HS ⊢
  have HC : Hid (∀ w' k' p', Gr w w' → Sl w' p' 1 → Calls Try.prog 11 #[.slice q K n', .slice p' 1 k'] w' fun e w'' => e = .returned (.int .i64 1) ∧ Gr w' w'') := hc
  have HM : Hid (∀ w', Gr w w' → Calls Try.prog 20 #[.slice p A n, .slice q K n'] w' (Nm X w')) := hmod
  have HQ : Hid (∀ w' k p' x y, Gr w w' → Sl w' p' x → dl x ≤ 400 → x % m = y → Calls Try.prog 20 #[.slice p' (dl x) k, .slice q K n'] w' (Nm y w')) := hqm
  have HMM : Hid (∀ w' k k' p1 p2 x y z, Gr w w' → Sl w' p1 x → Sl w' p2 y → x < m → y < m → x * y % m = z → Calls Try.prog 24 #[.slice p1 (dl x) k, .slice p2 (dl y) k', .slice q K n'] w' (Nm z w')) := hmm
  have HSM : Hid (∀ w' k k' p1 p2 x y z, Gr w w' → Sl w' p1 x → Sl w' p2 y → x < m → y < m → subM x y m = z → Calls Try.prog 43 #[.slice p1 (dl x) k, .slice p2 (dl y) k', .slice q K n'] w' (Nm z w')) := hsm
  have HA : Hid (∀ w' b, Gr w w' → ∃ p' c w'', (∀ ty, (appS ty #[.slice (some ⟨b, 0, none⟩) 0 0, .slice q K n']).run Try.prog w' = .ok (.slice p' K c) w'') ∧ Sl w'' p' m ∧ Gr w' w'') := hap
  have HK : Hid (Unit → dl m = K ∧ 1 < m) := fun _ => ⟨eK, h1⟩
  have hb1 : ∀ w, (bslS 31 1 #[(0, .int .u32 1)]).run Try.prog w = .ok (.slice (some ⟨w.heap.size, 0, none⟩) 1 1) (w.alloc (.cells (nd 1 1) 35)) := fun w => build1 1 (by decide) w
  have hb0 : ∀ w, (bslS 31 0 #[]).run Try.prog w = .ok (.slice (some ⟨w.heap.size, 0, none⟩) 0 0) (w.alloc (.cells #[] 35)) := fun w => by kernel_rfl
  clear hc hmod hqm hmm hsm hap hp hq ha hm h1 hcm eX eA eK
  go_enter Try.func22, Try.ntmps22
  go_upto_region 6 with (first
    | (go_at_call 11; refine (HC.out _ _ _ ((Gr.refl _).alloc _) (sl_new w)).mono ?_; rintro e W1 ⟨rfl, G1⟩; have GW1 := (((Gr.refl w).alloc _).trans G1).alloc (.cells #[] 35); obtain ⟨pr, cr, Wa, hrun, SR, GA⟩ := HA.out _ W1.heap.size GW1; have GWa := GW1.trans GA)
    | (go_at_call 20; refine (HM.out _ GWa).mono ?_; rintro e W2 ⟨ps, ns, rfl, SS, G2⟩; have GW2 := GWa.trans G2; have SR2 := SR.gr G2))
  have HS0 : Hid (Sl W2 pr m ∧ Sl W2 ps X ∧ Gr w W2) := ⟨SR2, SS, GW2⟩
  clear hrun HC HM HA SR GA GWa SS G2 GW2 SR2 G1 GW1
  go_loopw [6, 7, 8, 9] (fun ra sa ta ua wr => ∃ (r s t u n1 n2 n3 n4 : Nat) (p1 p2 p3 p4 : Option Addr), ra = .slice p1 (dl r) n1 ∧ sa = .slice p2 (dl s) n2 ∧ ta = .slice p3 (dl t) n3 ∧ ua = .slice p4 (dl u) n4 ∧ Hid (RI a m r s t u) ∧ Hid (Sl wr p1 r ∧ Sl wr p2 s ∧ Sl wr p3 t ∧ Sl wr p4 u ∧ Gr w wr)) (fun _ sa _ _ wr => mS wr sa)
  case atStart =>
    refine ⟨m, X, 0, 1, cr, ns, 0, 1, pr, ps, none, some ⟨W2.heap.size, 0, none⟩, by rw [(HK.out ()).1], rfl, rfl, rfl, HS, ⟨HS0.out.1.gr ((Gr.refl _).alloc _), HS0.out.2.1.gr ((Gr.refl _).alloc _), Sl.zero _ _, sl_new W2, HS0.out.2.2.alloc _⟩⟩
  case round =>
    obtain ⟨r, s, t, u, n1, n2, n3, n4, p1, p2, p3, p4, rfl, rfl, rfl, rfl, HI, HL⟩ := hrel
    clear HS HS0
    by_cases hs : s = 0
    · subst hs
      obtain ⟨l1, l2, l3⟩ := HI.out.last (HK.out ()).2
      have hr4 : dl r ≤ 400 := HB.out r HI.out.rm
      have htm := HI.out.tm
      rw [dl_zero]
      by_cases hr1 : r = 1
      · have HC1 : Hid (∀ w' k' p', Sl w' p1 r → Sl w' p' 1 → Calls Try.prog 11 #[.slice p1 (dl r) n1, .slice p' 1 k'] w' fun e w'' => e = .returned (.int .i64 0) ∧ Gr w' w'') := fun w' k' p' g h => H1.out w' r 0 n1 k' p1 p' hr4 g h (by rw [hr1]; rfl)
        have HE : Hid (Nat.gcd m a = 1 ∧ a * t % m = 1 ∧ t < m) := ⟨by rw [← l1]; exact hr1, l3 hr1, htm⟩
        clear H1 HQ HMM HSM HB HK HI hr1 l1 l2 l3 hr4 htm hb0
        go_wp2_with (go_at_call 11; refine (HC1.out _ _ _ (HL.out.1.gr ((Gr.refl _).alloc _)) (sl_new _)).mono ?_; rintro e W3 ⟨rfl, G3⟩; have G3' := ((Gr.refl _).alloc _).trans G3)
        go_ret2
        exact ⟨fun _ => ⟨t, p3, n3, HE.out.2.2, HE.out.2.1, rfl, HL.out.2.2.1.gr G3'⟩, fun h => absurd HE.out.1 h, HL.out.2.2.2.2.trans G3'⟩
      · have HC1 : Hid (∀ w' k' p', Sl w' p1 r → Sl w' p' 1 → Calls Try.prog 11 #[.slice p1 (dl r) n1, .slice p' 1 k'] w' fun e w'' => e = .returned (.int .i64 1) ∧ Gr w' w'') := fun w' k' p' g h => H1.out w' r 1 n1 k' p1 p' hr4 g h (by unfold cmpZ; split <;> (try split) <;> omega)
        have HE : Hid (¬ Nat.gcd m a = 1) := by rw [← l1]; exact hr1
        clear H1 HQ HMM HSM HB HK HI hr1 l1 l2 l3 hr4 htm hb0
        go_wp2_with (go_at_call 11; refine (HC1.out _ _ _ (HL.out.1.gr ((Gr.refl _).alloc _)) (sl_new _)).mono ?_; rintro e W3 ⟨rfl, G3⟩; have G3' := ((Gr.refl _).alloc _).trans G3)
        go_ret2
        exact ⟨fun h => absurd h HE.out, fun _ => rfl, HL.out.2.2.2.2.trans G3'⟩
    · have s0 : 0 < s := by omega
      have hl0 : (0 : Int) < ((dl s : Nat) : Int) := by
        have : dl s ≠ 0 := fun e => hs (dl_eq_zero s e)
        omega
      have hl1 : decide ((0 : Int) < ((dl s : Nat) : Int)) = true := decide_eq_true hl0
      obtain ⟨b, hb⟩ : ∃ b, r / s = b := ⟨_, rfl⟩
      obtain ⟨v, hv⟩ : ∃ v, r % s = v := ⟨_, rfl⟩
      obtain ⟨y, hy⟩ : ∃ y, b % m = y := ⟨_, rfl⟩
      obtain ⟨c, hc⟩ : ∃ c, y * u % m = c := ⟨_, rfl⟩
      obtain ⟨x, hx⟩ : ∃ x, subM t c m = x := ⟨_, rfl⟩
      have hi := HI.out
      have hm0 : 0 < m := by have := (HK.out ()).2; omega
      have HN := hi.step s0 b v c x hb hv (by rw [hy]; exact hc) hx
      have hbr : b ≤ r := by rw [← hb]; exact Nat.div_le_self _ _
      have HF : Hid (b % m = y ∧ y * u % m = c ∧ subM t c m = x ∧ dl b ≤ 400 ∧ y < m ∧ u < m ∧ t < m ∧ c < m ∧ dl v ≤ 400 ∧ RI a m s v u x ∧ v < s) := ⟨hy, hc, hx, HB.out b (by have := hi.rm; omega), by rw [← hy]; exact Nat.mod_lt _ hm0, hi.um, hi.tm, by rw [← hc]; exact Nat.mod_lt _ hm0, HB.out v (by have := hi.sm; have := HN.2; omega), HN.1, HN.2⟩
      have HD : Hid (Unit → Calls Try.prog 42 #[.slice p1 (dl r) n1, .slice p2 (dl s) n2] wr (Nm2 b v wr)) := fun _ => by
        have h := rdiv_any r s n1 n2 p1 p2 wr HL.out.1 HL.out.2.1 (by have := HB.out r hi.rm; omega) (by have := HB.out s hi.sm; omega) s0
        rw [hb, hv] at h
        exact h
      clear hb hv hy hc hx hi hm0 HN hbr hs s0 HI H1 HB HK hb1
      go_wp2_with (first
        | (go_at_call 42; refine (HD.out ()).mono ?_; rintro e W3 ⟨pb, nb, pv, nv, rfl, Sb, Sv, G3⟩; have GW3 := HL.out.2.2.2.2.trans G3)
        | (go_at_call 20; refine (HQ.out _ nb pb b y GW3 Sb HF.out.2.2.2.1 HF.out.1).mono ?_; rintro e W4 ⟨py, ny, rfl, Sy, G4⟩; have GW4 := GW3.trans G4)
        | (go_at_call 24; refine (HMM.out _ ny n4 py p4 y u c GW4 Sy (HL.out.2.2.2.1.gr (G3.trans G4)) HF.out.2.2.2.2.1 HF.out.2.2.2.2.2.1 HF.out.2.1).mono ?_; rintro e W5 ⟨pc, nc, rfl, Sc, G5⟩; have GW5 := GW4.trans G5)
        | (go_at_call 43; refine (HSM.out _ n3 nc p3 pc t c x GW5 (HL.out.2.2.1.gr ((G3.trans G4).trans G5)) Sc HF.out.2.2.2.2.2.2.1 HF.out.2.2.2.2.2.2.2.1 HF.out.2.2.1).mono ?_; rintro e W6 ⟨px, nx, rfl, Sx, G6⟩; have GW6 := (GW5.trans G6).alloc (.cells #[] 35); have GG := (((G4.trans G5).trans G6).alloc (.cells #[] 35)); obtain ⟨pw', cw, Wa, hrun, SV, GA⟩ := append_digits _ W6.heap.size nv v pv (Sv.gr GG) (Nat.le_trans HF.out.2.2.2.2.2.2.2.2.1 (by decide))))
      go_roundw
      case rel =>
        have GT := (G3.trans GG).trans GA
        exact ⟨s, v, u, x, n2, cw, n4, nx, p2, pw', p4, px, rfl, rfl, rfl, rfl, HF.out.2.2.2.2.2.2.2.2.2.1, ⟨HL.out.2.1.gr GT, SV, HL.out.2.2.2.1.gr GT, Sx.gr (((Gr.refl _).alloc _).trans GA), GW6.trans GA⟩⟩
      case measure =>
        rw [mS_is SV, mS_is HL.out.2.1]
        exact HF.out.2.2.2.2.2.2.2.2.2.2

end Go.Proofs.Ytleckbdhebjfkaa
