import Derived.Deep.AppendSrc
import Derived.Test.YtgmaalokfgdpaaaXSRAddM
import Derived.Test.YtgmaalokfgdpaaaXSEJ
import Derived.Test.YtgmaalokfgdpaaaXSEL
import Derived.Test.YtgmaalokfgdpaaaXSRSub
import Derived.Test.YtgmaalokfgdpaaaXSRBit
namespace Go.Proofs.Ytgmaalokfgdpaaa
open Go.RowKit
attribute [local go_sem ↓] loadNat_is loadArr_is loadWide_is loadArrW_is storeNat_is storeWide_is
attribute [local go_sem] loadNat loadArr loadWide loadArrW storeNat storeWide idxArr fold9 fold18 nw_size nw_elem pre_self pre_1 pre_2 pre_3 pre_4 pre_5 pre_6 pre_7 pre_8 pre_9 pre_10 pre_11 pre_12 pre_13 pre_14 pre_15 pre_16 pre_17 pre_18 pre_19 pre_20 pre_21 pre_22 pre_23 pre_24 pre_25 pre_26 pre_27 pre_28 pre_29 pre_30 pre_31 pre_32 pre_33 pre_34 pre_35 pre_36 pre_37 pre_38 pre_39 pre_40 gro_size gro_drew gro_drewN drew_gro drewN_gro gro_gro blk_gro frz_gro blk_drew frz_drew blk_drewN frz_drewN blk_alloc_at frz_alloc_at blk_alloc frz_alloc cell_gro frozen_gro cell_alloc_pre frozen_alloc_pre setCell_drewN alloc_drewN setBlk_drew setBlk_drewN setBlk_alloc_at setBlk_alloc setBlk_gro setCell_gro setCell_alloc_pre size_setBlk size_setCell
attribute [local go_sem ↓] bsl_is
/-- append of one row of digits to another, shut. -/
def appS (ty : TypeId) (xs : Array Value) : Sem Value := Builtin.append_ #[34, 34] ty xs
theorem app_is (ty : TypeId) (xs : Array Value) : Builtin.append_ #[34, 34] ty xs = appS ty xs := rfl
theorem infoU : (Try.prog.info? 55).map (fun i => (i.zero, i.size, i.bytes)) = some (some (.int .u32 0), 1, 4) := by kernel_rfl
theorem append_digits (w : World) (b n x : Nat) (p : Option Addr) (h : Sl w p x) (hx : dl x ≤ 1000) :
    ∃ p' c w', (∀ ty, (appS ty #[.slice (some ⟨b, 0, none⟩) 0 0, .slice p (dl x) n]).run Try.prog w = .ok (.slice p' (dl x) c) w') ∧ Sl w' p' x ∧ Gr w w' := by
  obtain ⟨i, hi, hz, hs, hb⟩ : ∃ i, Try.prog.info? 55 = some i ∧ i.zero = some (.int .u32 0) ∧ i.size = 1 ∧ i.bytes = 4 := by
    have h0 := infoU
    cases hc : Try.prog.info? 55 with
    | none => rw [hc] at h0; cases h0
    | some i =>
      rw [hc] at h0
      simp only [Option.map_some, Option.some.injEq, Prod.mk.injEq] at h0
      exact ⟨i, rfl, h0.1, h0.2.1, h0.2.2⟩
  by_cases h0 : dl x = 0
  · have e0 := dl_eq_zero x h0
    subst e0
    have hsrc : Src Try.prog i.size 34 (.slice p 0 n) 0 [] w := by
      cases p with
      | none => exact Src.ofNil w Try.underlying34 n
      | some a => exact Src.ofSlice w Try.underlying34 a 0 n [] (by simp) (fun j u hj => by simp at hj) (fun u hu => by cases hu)
    refine ⟨some ⟨b, 0, none⟩, 0, w, fun ty => ?_, Sl.zero _ _, Gr.refl _⟩
    have hr := run_append_room_src (P := Try.prog) w 34 34 ty 55 i Try.underlying34 hi b 0 0 0 (.slice p 0 n) 0 [] hsrc (by omega) (fun j hj => by simp at hj) (fun j hj => by simp at hj)
    rw [dl_zero]
    exact hr
  · obtain ⟨c, rfl, hc, hd⟩ := h.some (by omega)
    have hnd : (nd (dl x) x).toList.length = dl x * i.size := by rw [hs, Array.length_toList, nd_size, Nat.mul_one]
    have hsrc : Src Try.prog i.size 34 (.slice (some ⟨c, 0, none⟩) (dl x) n) (dl x) (nd (dl x) x).toList w := by
      refine Src.ofSlice w Try.underlying34 ⟨c, 0, none⟩ (dl x) n _ hnd (fun j u hj => ?_) (fun u hu => ?_)
      · rw [Array.getElem?_toList] at hj
        have hjl : j < dl x := by
          by_cases hl : j < dl x
          · exact hl
          · rw [Array.getElem?_eq_none (by rw [nd_size]; omega)] at hj; cases hj
        rw [nd_get _ _ _ hjl] at hj
        have e : (⟨c, 0, none⟩ : Addr).add j = ⟨c, j, none⟩ := by rw [Addr.add_lit, Nat.zero_add]
        rw [e, cell_blk, hd j hjl, hj]
      · obtain ⟨j, hj⟩ := List.mem_iff_getElem?.1 hu
        rw [Array.getElem?_toList] at hj
        have hjl : j < dl x := by
          by_cases hl : j < dl x
          · exact hl
          · rw [Array.getElem?_eq_none (by rw [nd_size]; omega)] at hj; cases hj
        rw [nd_get _ _ _ hjl] at hj
        cases hj
        rfl
    have hr := fun ty => run_append_grow_src (P := Try.prog) w 34 34 ty 55 i _ Try.underlying34 hi hz (some ⟨b, 0, none⟩) 0 0 [] (run_firstCells_some w.drew i.size 0 ⟨b, 0, none⟩ 0 0 [] (by simp) (fun j u hj => by simp at hj)) (.slice (some ⟨c, 0, none⟩) (dl x) n) (dl x) (nd (dl x) x).toList hsrc (by omega) (by omega) (by rw [hb, Nat.zero_add]; simp only [Builtin.nextslicecap]; rw [if_pos (by omega)]; omega)
    simp only [Nat.zero_add, List.nil_append] at hr
    refine ⟨_, _, _, hr, ?_, ?_⟩
    · intro k hk
      refine ⟨w.heap.size, rfl, ?_, ?_⟩
      · simp [go_sem]
      · have e : w.heap.size = w.drew.heap.size := by simp [go_sem]
        rw [blk_alloc_at _ _ _ _ _ e, Array.getElem?_append_left (by simp [nd_size, hk])]
        simp [nd_get _ _ _ hk]
    · exact (by repeat (first | exact Gr.refl _ | apply Gr.drewN | apply Gr.drew | apply Gr.alloc | apply Gr.gro))
def rdD (w : World) (b i : Nat) : Nat := match (blk w b)[i]? with | some (.int _ z) => z.toNat | _ => 0
def numD (f : Nat → Nat) : Nat → Nat
  | 0 => 0
  | n + 1 => numD f n + f n * pq n
def mS (w : World) : Value → Nat
  | .slice (some ⟨b, _, _⟩) n _ => numD (rdD w b) n
  | _ => 0
theorem numD_is (f : Nat → Nat) (x : Nat) : ∀ n, (∀ i, i < n → f i = dg x i) → numD f n = x % pq n
  | 0, _ => by rw [pq_zero, Nat.mod_one]; rfl
  | n + 1, h => by
    show numD f n + f n * pq n = _
    rw [numD_is f x n (fun i hi => h i (by omega)), h n (by omega), dmod_succ]
theorem mS_is {w : World} {p : Option Addr} {x n : Nat} (h : Sl w p x) : mS w (.slice p (dl x) n) = x := by
  by_cases h0 : dl x = 0
  · have e := dl_eq_zero x h0
    subst e
    cases p <;> rfl
  · obtain ⟨b, rfl, hb, hc⟩ := h.some (by omega)
    show numD (rdD w b) (dl x) = x
    rw [numD_is (rdD w b) x (dl x) (fun i hi => by unfold rdD; rw [hc i hi]; rfl), Nat.mod_eq_of_lt (dl_lt x)]
theorem subM_is (t c m : Nat) (ht : t < m) (hc : c < m) : subM t c m < m ∧ ∃ k : Int, (subM t c m : Int) = t - c + k * m := by
  unfold subM
  split
  · exact ⟨by omega, 0, by omega⟩
  · exact ⟨by omega, 1, by omega⟩
structure RI (a m r s t u : Nat) : Prop where
  rm : r ≤ m
  sm : s ≤ m
  tm : t < m
  um : u < m
  d1 : (m : Int) ∣ (a : Int) * t - r
  d2 : (m : Int) ∣ (a : Int) * u - s
  g : Nat.gcd r s = Nat.gcd m a
theorem RI.start (a m : Nat) (h : 1 < m) : RI a m m (a % m) 0 1 := by
  refine ⟨Nat.le_refl _, Nat.le_of_lt (Nat.mod_lt _ (by omega)), by omega, h, ⟨-1, by simp⟩, ⟨((a / m : Nat) : Int), ?_⟩, ?_⟩
  · have h1 := Nat.div_add_mod a m
    obtain ⟨q, hq⟩ : ∃ q, a / m = q := ⟨_, rfl⟩
    obtain ⟨v, hv⟩ : ∃ q, a % m = q := ⟨_, rfl⟩
    rw [hq, hv] at h1 ⊢
    have h2 : (m : Int) * q + v = a := by exact_mod_cast h1
    rw [← h2]
    grind
  · rw [Nat.gcd_comm, ← Nat.gcd_rec]
theorem RI.step {a m r s t u : Nat} (h : RI a m r s t u) (h0 : 0 < s) (q v c x : Nat) (hq : r / s = q) (hv : r % s = v) (hc : q % m * u % m = c) (hx : subM t c m = x) : RI a m s v u x ∧ v < s := by
  have hm : 0 < m := by have := h.tm; omega
  have hvs : v < s := by rw [← hv]; exact Nat.mod_lt _ h0
  have hcm : c < m := by rw [← hc]; exact Nat.mod_lt _ hm
  obtain ⟨h1, k, h2⟩ := subM_is t c m h.tm hcm
  rw [hx] at h1 h2
  refine ⟨⟨h.sm, by have := h.sm; omega, h.um, h1, h.d2, ?_, ?_⟩, hvs⟩
  · obtain ⟨c1, e1⟩ := h.d1
    obtain ⟨c2, e2⟩ := h.d2
    have h3 := Nat.div_add_mod r s
    rw [hq, hv] at h3
    have h4 : (s : Int) * q + v = r := by exact_mod_cast h3
    rw [pow_mul] at hc
    have h5 := Nat.div_add_mod (q * u) m
    rw [hc] at h5
    obtain ⟨k', hk⟩ : ∃ k', q * u / m = k' := ⟨_, rfl⟩
    rw [hk] at h5
    have h6 : (m : Int) * k' + c = q * u := by exact_mod_cast h5
    refine ⟨c1 - q * c2 + a * k' + a * k, ?_⟩
    rw [h2]
    grind
  · rw [← h.g, ← hv, Nat.gcd_comm, ← Nat.gcd_rec, Nat.gcd_comm]
theorem RI.last {a m r t u : Nat} (h : RI a m r 0 t u) (h1 : 1 < m) : r = Nat.gcd m a ∧ 0 < r ∧ (r = 1 → a * t % m = 1) := by
  have hg := h.g
  rw [Nat.gcd_zero_right] at hg
  have hp : 0 < Nat.gcd m a := Nat.gcd_pos_of_pos_left _ (by omega)
  refine ⟨hg, by omega, fun e => ?_⟩
  obtain ⟨c, hc⟩ := h.d1
  rw [e] at hc
  obtain ⟨k, hk⟩ := inv_pos (a * t) m c h1 (by rw [← hc]; simp)
  rw [hk, Nat.add_mul_mod_self_left, Nat.mod_eq_of_lt h1]
/-- What Inverse hands back. -/
def InvR (a m : Nat) (w : World) (e : Ending) (w' : World) : Prop :=
  (Nat.gcd m a = 1 → ∃ t p n, t < m ∧ a * t % m = 1 ∧ e = .returned (.tuple #[.slice p (dl t) n, .bool true]) ∧ Sl w' p t) ∧ (Nat.gcd m a ≠ 1 → e = .returned (.tuple #[.slice none 0 0, .bool false])) ∧ Gr w w'

attribute [local go_sem ↓] app_is
set_option maxRecDepth 100000 in
set_option maxHeartbeats 3200000 in
theorem rinv_any (a m n n' : Nat) (p q : Option Addr) (w : World) (hp : Sl w p a) (hq : Sl w q m) (ha : dl a ≤ 400) (hm : dl m ≤ 400) (h1 : 1 < m) :
    Calls Try.prog 70 #[.slice p (dl a) n, .slice q (dl m) n'] w (InvR a m w) := by
  have H1 : Hid (∀ w' r z k k' p1 p', dl r ≤ 400 → Sl w' p1 r → Sl w' p' 1 → cmpZ r 1 = z → Calls Try.prog 26 #[.slice p1 (dl r) k, .slice p' 1 k'] w' fun e w'' => e = .returned (.int .i64 z) ∧ Gr w' w'') := fun w' r z k k' p1 p' h2 h3 h4 e => e ▸ rcmp_any r 1 k k' p1 p' w' h3 h4 (by omega) (by decide)
  have hcm : cmpZ m 1 = 1 := by unfold cmpZ; split <;> (try split) <;> omega
  have hc := fun w' k' p' (g : Gr w w') (h : Sl w' p' 1) => H1.out w' m 1 n' k' q p' hm (hq.gr g) h hcm
  have hmod := fun w' (g : Gr w w') => rmod_any a m n n' p q w' (hp.gr g) (hq.gr g) (by omega) (by omega) (by omega)
  have hqm := fun w' k p' x y (g : Gr w w') (h : Sl w' p' x) (hx : dl x ≤ 400) (e : x % m = y) => (e ▸ rmod_any x m k n' p' q w' h (hq.gr g) (by omega) (by omega) (by omega) : Calls Try.prog 29 #[.slice p' (dl x) k, .slice q (dl m) n'] w' (Nm y w'))
  have hmm := fun w' k k' p1 p2 x y z (g : Gr w w') (s1 : Sl w' p1 x) (s2 : Sl w' p2 y) (l1 : x < m) (l2 : y < m) (e : x * y % m = z) => (e ▸ rmulmod_any x y m k k' n' p1 p2 q w' s1 s2 (hq.gr g) (dl_low x m 400 (by omega) hm) (dl_low y m 400 (by omega) hm) hm (by omega) : Calls Try.prog 27 #[.slice p1 (dl x) k, .slice p2 (dl y) k', .slice q (dl m) n'] w' (Nm z w'))
  have hsm := fun w' k k' p1 p2 x y z (g : Gr w w') (s1 : Sl w' p1 x) (s2 : Sl w' p2 y) (l1 : x < m) (l2 : y < m) (e : subM x y m = z) => (e ▸ rsubmod_any x y m k k' n' p1 p2 q w' s1 s2 (hq.gr g) hm l1 l2 : Calls Try.prog 69 #[.slice p1 (dl x) k, .slice p2 (dl y) k', .slice q (dl m) n'] w' (Nm z w'))
  have hap := fun w' b (g : Gr w w') => append_digits w' b n' m q (hq.gr g) (by omega)
  have HB : Hid (∀ x, x ≤ m → dl x ≤ 400) := fun x hx => dl_low x m 400 hx hm
  have HS : Hid (RI a m m (a % m) 0 1) := RI.start a m h1
  obtain ⟨X, eX⟩ : ∃ X, a % m = X := ⟨_, rfl⟩
  obtain ⟨A, eA⟩ : ∃ L, dl a = L := ⟨_, rfl⟩
  obtain ⟨K, eK⟩ : ∃ L, dl m = L := ⟨_, rfl⟩
  simp only [eX, eA, eK] at hc hmod hqm hmm hsm hap HS ⊢
  have HC : Hid (∀ w' k' p', Gr w w' → Sl w' p' 1 → Calls Try.prog 26 #[.slice q K n', .slice p' 1 k'] w' fun e w'' => e = .returned (.int .i64 1) ∧ Gr w' w'') := hc
  have HM : Hid (∀ w', Gr w w' → Calls Try.prog 29 #[.slice p A n, .slice q K n'] w' (Nm X w')) := hmod
  have HQ : Hid (∀ w' k p' x y, Gr w w' → Sl w' p' x → dl x ≤ 400 → x % m = y → Calls Try.prog 29 #[.slice p' (dl x) k, .slice q K n'] w' (Nm y w')) := hqm
  have HMM : Hid (∀ w' k k' p1 p2 x y z, Gr w w' → Sl w' p1 x → Sl w' p2 y → x < m → y < m → x * y % m = z → Calls Try.prog 27 #[.slice p1 (dl x) k, .slice p2 (dl y) k', .slice q K n'] w' (Nm z w')) := hmm
  have HSM : Hid (∀ w' k k' p1 p2 x y z, Gr w w' → Sl w' p1 x → Sl w' p2 y → x < m → y < m → subM x y m = z → Calls Try.prog 69 #[.slice p1 (dl x) k, .slice p2 (dl y) k', .slice q K n'] w' (Nm z w')) := hsm
  have HA : Hid (∀ w' b, Gr w w' → ∃ p' c w'', (∀ ty, (appS ty #[.slice (some ⟨b, 0, none⟩) 0 0, .slice q K n']).run Try.prog w' = .ok (.slice p' K c) w'') ∧ Sl w'' p' m ∧ Gr w' w'') := hap
  have HK : Hid (Unit → dl m = K ∧ 1 < m) := fun _ => ⟨eK, h1⟩
  have hb1 : ∀ w, (bslS 34 1 #[(0, .int .u32 1)]).run Try.prog w = .ok (.slice (some ⟨w.heap.size, 0, none⟩) 1 1) (w.alloc (.cells (nd 1 1) 55)) := fun w => build1 1 (by decide) w
  have hb0 : ∀ w, (bslS 34 0 #[]).run Try.prog w = .ok (.slice (some ⟨w.heap.size, 0, none⟩) 0 0) (w.alloc (.cells #[] 55)) := fun w => by kernel_rfl
  clear hc hmod hqm hmm hsm hap hp hq ha hm h1 hcm eX eA eK
  go_enter Try.func70, Try.ntmps70
  go_upto_region 6 with (first
    | (go_at_call 26; refine (HC.out _ _ _ ((Gr.refl _).alloc _) (sl_new w)).mono ?_; rintro e W1 ⟨rfl, G1⟩; have GW1 := (((Gr.refl w).alloc _).trans G1).alloc (.cells #[] 55); obtain ⟨pr, cr, Wa, hrun, SR, GA⟩ := HA.out _ W1.heap.size GW1; have GWa := GW1.trans GA)
    | (go_at_call 29; refine (HM.out _ GWa).mono ?_; rintro e W2 ⟨ps, ns, rfl, SS, G2⟩; have GW2 := GWa.trans G2; have SR2 := SR.gr G2))
  have HS0 : Hid (Sl W2 pr m ∧ Sl W2 ps X ∧ Gr w W2) := ⟨SR2, SS, GW2⟩
  clear hrun HC HM HA SR GA GWa SS G2 GW2 SR2 G1 GW1
  go_loopw [6, 7, 8, 9] (fun ra sa ta ua wr => ∃ (r s t u n1 n2 n3 n4 : Nat) (p1 p2 p3 p4 : Option Addr), ra = .slice p1 (dl r) n1 ∧ sa = .slice p2 (dl s) n2 ∧ ta = .slice p3 (dl t) n3 ∧ ua = .slice p4 (dl u) n4 ∧ Hid (RI a m r s t u) ∧ Hid (Sl wr p1 r ∧ Sl wr p2 s ∧ Sl wr p3 t ∧ Sl wr p4 u ∧ Gr w wr)) (fun _ sa _ _ wr => mS wr sa)
  case atStart =>
    refine ⟨m, X, 0, 1, cr, ns, 0, 1, pr, ps, none, some ⟨W2.heap.size, 0, none⟩, by rw [(HK.out ()).1], rfl, rfl, rfl, HS, ⟨HS0.out.1.gr ((Gr.refl _).alloc _), HS0.out.2.1.gr ((Gr.refl _).alloc _), Sl.zero _ _, sl_new W2, HS0.out.2.2.alloc _⟩⟩
  case round =>
    obtain ⟨r, s, t, u, n1, n2, n3, n4, p1, p2, p3, p4, rfl, rfl, rfl, rfl, HI, HL⟩ := hrel
    clear HS HS0
    by_cases hs : s = 0
    · subst hs
      obtain ⟨l1, l2, l3⟩ := HI.out.last (HK.out ()).2
      have hr4 : dl r ≤ 400 := HB.out r HI.out.rm
      have htm := HI.out.tm
      rw [dl_zero]
      by_cases hr1 : r = 1
      · have HC1 : Hid (∀ w' k' p', Sl w' p1 r → Sl w' p' 1 → Calls Try.prog 26 #[.slice p1 (dl r) n1, .slice p' 1 k'] w' fun e w'' => e = .returned (.int .i64 0) ∧ Gr w' w'') := fun w' k' p' g h => H1.out w' r 0 n1 k' p1 p' hr4 g h (by rw [hr1]; rfl)
        have HE : Hid (Nat.gcd m a = 1 ∧ a * t % m = 1 ∧ t < m) := ⟨by rw [← l1]; exact hr1, l3 hr1, htm⟩
        clear H1 HQ HMM HSM HB HK HI hr1 l1 l2 l3 hr4 htm hb0
        go_wp2_with (go_at_call 26; refine (HC1.out _ _ _ (HL.out.1.gr ((Gr.refl _).alloc _)) (sl_new _)).mono ?_; rintro e W3 ⟨rfl, G3⟩; have G3' := ((Gr.refl _).alloc _).trans G3)
        go_ret2
        exact ⟨fun _ => ⟨t, p3, n3, HE.out.2.2, HE.out.2.1, rfl, HL.out.2.2.1.gr G3'⟩, fun h => absurd HE.out.1 h, HL.out.2.2.2.2.trans G3'⟩
      · have HC1 : Hid (∀ w' k' p', Sl w' p1 r → Sl w' p' 1 → Calls Try.prog 26 #[.slice p1 (dl r) n1, .slice p' 1 k'] w' fun e w'' => e = .returned (.int .i64 1) ∧ Gr w' w'') := fun w' k' p' g h => H1.out w' r 1 n1 k' p1 p' hr4 g h (by unfold cmpZ; split <;> (try split) <;> omega)
        have HE : Hid (¬ Nat.gcd m a = 1) := by rw [← l1]; exact hr1
        clear H1 HQ HMM HSM HB HK HI hr1 l1 l2 l3 hr4 htm hb0
        go_wp2_with (go_at_call 26; refine (HC1.out _ _ _ (HL.out.1.gr ((Gr.refl _).alloc _)) (sl_new _)).mono ?_; rintro e W3 ⟨rfl, G3⟩; have G3' := ((Gr.refl _).alloc _).trans G3)
        go_ret2
        exact ⟨fun h => absurd h HE.out, fun _ => rfl, HL.out.2.2.2.2.trans G3'⟩
    · have s0 : 0 < s := by omega
      have hl0 : (0 : Int) < ((dl s : Nat) : Int) := by
        have : dl s ≠ 0 := fun e => hs (dl_eq_zero s e)
        omega
      have hl1 : decide ((0 : Int) < ((dl s : Nat) : Int)) = true := decide_eq_true hl0
      obtain ⟨b, hb⟩ : ∃ b, r / s = b := ⟨_, rfl⟩
      obtain ⟨v, hv⟩ : ∃ v, r % s = v := ⟨_, rfl⟩
      obtain ⟨y, hy⟩ : ∃ y, b % m = y := ⟨_, rfl⟩
      obtain ⟨c, hc⟩ : ∃ c, y * u % m = c := ⟨_, rfl⟩
      obtain ⟨x, hx⟩ : ∃ x, subM t c m = x := ⟨_, rfl⟩
      have hi := HI.out
      have hm0 : 0 < m := by have := (HK.out ()).2; omega
      have HN := hi.step s0 b v c x hb hv (by rw [hy]; exact hc) hx
      have hbr : b ≤ r := by rw [← hb]; exact Nat.div_le_self _ _
      have HF : Hid (b % m = y ∧ y * u % m = c ∧ subM t c m = x ∧ dl b ≤ 400 ∧ y < m ∧ u < m ∧ t < m ∧ c < m ∧ dl v ≤ 400 ∧ RI a m s v u x ∧ v < s) := ⟨hy, hc, hx, HB.out b (by have := hi.rm; omega), by rw [← hy]; exact Nat.mod_lt _ hm0, hi.um, hi.tm, by rw [← hc]; exact Nat.mod_lt _ hm0, HB.out v (by have := hi.sm; have := HN.2; omega), HN.1, HN.2⟩
      have HD : Hid (Unit → Calls Try.prog 46 #[.slice p1 (dl r) n1, .slice p2 (dl s) n2] wr (Nm2 b v wr)) := fun _ => by
        have h := rdiv_any r s n1 n2 p1 p2 wr HL.out.1 HL.out.2.1 (by have := HB.out r hi.rm; omega) (by have := HB.out s hi.sm; omega) s0
        rw [hb, hv] at h
        exact h
      clear hb hv hy hc hx hi hm0 HN hbr hs s0 HI H1 HB HK hb1
      go_wp2_with (first
        | (go_at_call 46; refine (HD.out ()).mono ?_; rintro e W3 ⟨pb, nb, pv, nv, rfl, Sb, Sv, G3⟩; have GW3 := HL.out.2.2.2.2.trans G3)
        | (go_at_call 29; refine (HQ.out _ nb pb b y GW3 Sb HF.out.2.2.2.1 HF.out.1).mono ?_; rintro e W4 ⟨py, ny, rfl, Sy, G4⟩; have GW4 := GW3.trans G4)
        | (go_at_call 27; refine (HMM.out _ ny n4 py p4 y u c GW4 Sy (HL.out.2.2.2.1.gr (G3.trans G4)) HF.out.2.2.2.2.1 HF.out.2.2.2.2.2.1 HF.out.2.1).mono ?_; rintro e W5 ⟨pc, nc, rfl, Sc, G5⟩; have GW5 := GW4.trans G5)
        | (go_at_call 69; refine (HSM.out _ n3 nc p3 pc t c x GW5 (HL.out.2.2.1.gr ((G3.trans G4).trans G5)) Sc HF.out.2.2.2.2.2.2.1 HF.out.2.2.2.2.2.2.2.1 HF.out.2.2.1).mono ?_; rintro e W6 ⟨px, nx, rfl, Sx, G6⟩; have GW6 := (GW5.trans G6).alloc (.cells #[] 55); have GG := (((G4.trans G5).trans G6).alloc (.cells #[] 55)); obtain ⟨pw', cw, Wa, hrun, SV, GA⟩ := append_digits _ W6.heap.size nv v pv (Sv.gr GG) (Nat.le_trans HF.out.2.2.2.2.2.2.2.2.1 (by decide))))
      go_roundw
      case rel =>
        have GT := (G3.trans GG).trans GA
        exact ⟨s, v, u, x, n2, cw, n4, nx, p2, pw', p4, px, rfl, rfl, rfl, rfl, HF.out.2.2.2.2.2.2.2.2.2.1, ⟨HL.out.2.1.gr GT, SV, HL.out.2.2.2.1.gr GT, Sx.gr (((Gr.refl _).alloc _).trans GA), GW6.trans GA⟩⟩
      case measure =>
        rw [mS_is SV, mS_is HL.out.2.1]
        exact HF.out.2.2.2.2.2.2.2.2.2.2

end Go.Proofs.Ytgmaalokfgdpaaa
namespace Go.Proofs.Ytgmaalokfgdpaaa
open Go.RowKit
section
variable {a b m c n n' n'' : Nat} {p q r : Option Addr} {w : World}
theorem mm_any (sa : Sl w p a) (sb : Sl w q b) (sm : Sl w r m) (ha : a < m) (hb : b < m) (hm : dl m ≤ 400) (hc : a * b % m = c) :
    Calls Try.prog 27 #[.slice p (dl a) n, .slice q (dl b) n', .slice r (dl m) n''] w (Rt (.n c) w) :=
  Rt.n (hc ▸ rmulmod_any a b m n n' n'' p q r w sa sb sm (dl_low a m 400 (by omega) hm) (dl_low b m 400 (by omega) hm) hm (by omega))
theorem am_any (sa : Sl w p a) (sb : Sl w q b) (sm : Sl w r m) (ha : a < m) (hb : b < m) (hm : dl m ≤ 400) (hc : (a + b) % m = c) :
    Calls Try.prog 28 #[.slice p (dl a) n, .slice q (dl b) n', .slice r (dl m) n''] w (Rt (.n c) w) :=
  Rt.n (hc ▸ raddmod_any a b m n n' n'' p q r w sa sb sm hm ha hb)
theorem sm_any (sa : Sl w p a) (sb : Sl w q b) (sm : Sl w r m) (ha : a < m) (hb : b < m) (hm : dl m ≤ 400) (hc : subM a b m = c) :
    Calls Try.prog 69 #[.slice p (dl a) n, .slice q (dl b) n', .slice r (dl m) n''] w (Rt (.n c) w) :=
  Rt.n (hc ▸ rsubmod_any a b m n n' n'' p q r w sa sb sm hm ha hb)
theorem iv_any (sa : Sl w p a) (sm : Sl w r m) (ha : a < m) (hm : dl m ≤ 400) (h1 : 1 < m) (hc : c < m) (hac : a * c % m = 1) :
    Calls Try.prog 70 #[.slice p (dl a) n, .slice r (dl m) n'] w (Rt (.nb c true) w) := by
  have hg : Nat.gcd m a = 1 := by
    have h1 : Nat.gcd m a ∣ m := Nat.gcd_dvd_left m a
    have h2 : Nat.gcd m a ∣ a * c := Nat.dvd_trans (Nat.gcd_dvd_right m a) (Nat.dvd_mul_right a c)
    have h3 : Nat.gcd m a ∣ a * c % m := (Nat.dvd_mod_iff h1).2 h2
    rw [hac] at h3
    exact Nat.dvd_one.1 h3
  refine (rinv_any a m n n' p r w sa sm (dl_low a m 400 (by omega) hm) hm h1).mono fun e w' h => ?_
  obtain ⟨t, p', k, ht, hat, he, hS⟩ := h.1 hg
  obtain rfl := inv_one a m t c ht hc hat hac
  exact ⟨_, he, ⟨_, _, rfl, hS⟩, h.2.2⟩
theorem cz_any {z : Int} (sa : Sl w p a) (sb : Sl w q b) (ha : dl a ≤ 400) (hb : dl b ≤ 400) (hz : cmpZ a b = z) :
    Calls Try.prog 26 #[.slice p (dl a) n, .slice q (dl b) n'] w (Rt (.c (.int .i64 z)) w) :=
  Rt.c (hz ▸ rcmp_any a b n n' p q w sa sb (by omega) (by omega))
theorem sb_any (sa : Sl w p a) (sb : Sl w q b) (ha : dl a ≤ 400) (h : b ≤ a) (hc : a - b = c) :
    Calls Try.prog 21 #[.slice p (dl a) n, .slice q (dl b) n'] w (Rt (.n c) w) :=
  Rt.n (hc ▸ rsub_any a b n n' p q w sa sb (by omega) h)
theorem nt_any (sa : Sl w p a) : Calls Try.prog 39 #[.slice p (dl a) n] w (Rt (.c (.agg (nw 9 a))) w) := Rt.c (rnat_any a n p w sa)
theorem fm_any (ha : a < M) : Calls Try.prog 20 #[.agg (nw 9 a)] w (Rt (.n a) w) := Rt.n (from_any a ha w)
theorem bt_any (sa : Sl w p a) (ha : dl a ≤ 400) (hc : bl a = c) : Calls Try.prog 33 #[.slice p (dl a) n] w (Rt (.c (.int .i64 (c : Int))) w) := Rt.same (hc ▸ rbits_any a n p w sa (by omega))
end
theorem wrap_id {x : Int} (h1 : -9223372036854775808 ≤ x) (h2 : x ≤ 9223372036854775807) : IntKind.i64.wrap x = x := by rw [IntKind.wrap_i64]; omega
theorem tdiv8 {x z : Int} (h0 : 0 ≤ x) (h1 : x ≤ 100000) (hz : x / 8 = z) : IntKind.i64.wrap (x.tdiv 8) = z := by
  rw [Int.tdiv_eq_ediv_of_nonneg h0, hz]
  exact wrap_id (by omega) (by omega)
theorem subM_lt {a b m : Nat} (ha : a < m) (hb : b < m) : subM a b m < m := by unfold subM; split <;> omega

end Go.Proofs.Ytgmaalokfgdpaaa
namespace Go.Proofs.Ytgmaalokfgdpaaa
open Go.RowKit
section
variable (p : Option Addr) (x n : Nat) (q : Option Addr) (y m : Nat) (f : Bool)
theorem ptA_size : (ptA p x n q y m f).size = 3 := rfl
theorem ptA_one : (ptA p x n q y m f).all (·.oneCell') = true := by simp [ptA, Value.oneCell']
theorem loadPt_is (v : Value) : Instr.loadAt 49 v = loadS 49 v := rfl
theorem storePt_is (p v : Value) : Instr.storeAt 49 p v = storeS 49 p v := rfl
theorem loadPt (w : World) (b : Nat) (hs : (blk w b).size = 3) : (loadS 49 (.pointer (some ⟨b, 0, none⟩))).run Try.prog w = .ok (.agg (blk w b)) w :=
  loadS_run 3 Try.underlying49 rfl (by kernel_rfl) w b hs
theorem storePt (w : World) (b : Nat) (hs : (blk w b).size = 3) (hf : frz w b = (0, 0)) : (storeS 49 (.pointer (some ⟨b, 0, none⟩)) (.agg (ptA p x n q y m f))).run Try.prog w = .ok () (setBlk w b (ptA p x n q y m f)) :=
  storeS_run 3 (by decide) (by kernel_rfl) w b _ (ptA_size p x n q y m f) (ptA_one p x n q y m f) hs hf
theorem zvPt_is : zeroValue 49 = zvS 49 := rfl
theorem zvPt (w : World) : (zvS 49).run Try.prog w = .ok (.agg (ptA none 0 0 none 0 0 false)) w := by kernel_rfl
theorem buildPt_is (p : Array (Nat × Value)) : Instr.build 49 p = buildF 49 p := rfl
theorem buildPt3 (w : World) : (buildF 49 #[(0, .slice p (dl x) n), (1, .slice q (dl y) m), (2, .bool f)]).run Try.prog w = .ok (.agg (ptA p x n q y m f)) w := by kernel_rfl
theorem buildPt2 (w : World) : (buildF 49 #[(0, .slice p (dl x) n), (1, .slice q (dl y) m)]).run Try.prog w = .ok (.agg (ptA p x n q y m false)) w := by kernel_rfl
theorem buildPtI (w : World) : (buildF 49 #[(2, .bool f)]).run Try.prog w = .ok (.agg (ptA none 0 0 none 0 0 f)) w := by kernel_rfl
theorem rd_pt {tmps : Array Value} {t : Tmp} {w : World} {b : Nat} (h : tmps.getD t undef = .pointer (some ⟨b, 0, none⟩)) (hc : blk w b = ptA p x n q y m f) : (readR tmps (.cell t 49)).run Try.prog w = .ok (.agg (ptA p x n q y m f)) w :=
  rd_cell 3 Try.underlying49 rfl (by kernel_rfl) h hc (ptA_size p x n q y m f)
theorem ptA_no (i : Nat) (z : Int) : (ptA p x n q y m f)[i]? ≠ some (Value.int .u32 z) := by
  intro h
  match i, h with
  | 0, h => simp [ptA] at h
  | 1, h => simp [ptA] at h
  | 2, h => simp [ptA] at h
  | k + 3, h => simp [ptA] at h
end
theorem crA_size (id : Int) (x : Nat → Nat) (q : Nat → Option Addr × Nat) : (crA id x q).size = 7 := rfl

end Go.Proofs.Ytgmaalokfgdpaaa
namespace Go.Proofs.Ytgmaalokfgdpaaa
open Go.RowKit
attribute [local go_sem ↓] loadNat_is loadArr_is loadWide_is loadArrW_is storeNat_is storeWide_is
attribute [local go_sem] loadNat loadArr loadWide loadArrW storeNat storeWide idxArr fold9 fold18 nw_size nw_elem pre_self pre_1 pre_2 pre_3 pre_4 pre_5 pre_6 pre_7 pre_8 pre_9 pre_10 pre_11 pre_12 pre_13 pre_14 pre_15 pre_16 pre_17 pre_18 pre_19 pre_20 pre_21 pre_22 pre_23 pre_24 pre_25 pre_26 pre_27 pre_28 pre_29 pre_30 pre_31 pre_32 pre_33 pre_34 pre_35 pre_36 pre_37 pre_38 pre_39 pre_40 gro_size gro_drew gro_drewN drew_gro drewN_gro gro_gro blk_gro frz_gro blk_drew frz_drew blk_drewN frz_drewN blk_alloc_at frz_alloc_at blk_alloc frz_alloc cell_gro frozen_gro cell_alloc_pre frozen_alloc_pre setCell_drewN alloc_drewN setBlk_drew setBlk_drewN setBlk_alloc_at setBlk_alloc setBlk_gro setCell_gro setCell_alloc_pre size_setBlk size_setCell
attribute [local go_sem ↓] loadPt_is storePt_is zvPt_is buildPt_is loadC_is loadPn_is loadCu_is storePn_is zvPn_is buildPn_is storeCu_is zvCu_is buildCu_is Go.wp_at_zero Go.wp_at_succ
attribute [local go_sem] loadPt storePt zvPt buildPt3 buildPt2 buildPtI ptA_size crA_size loadC loadPn loadPX loadPY pnt_size pnt_X pnt_Y storePn zvPn buildPn2 buildPn3 storeCu zvCu buildCu9 cu_size loadCu
theorem dl_nought (x : Nat) : ((dl x : Int) == 0) = decide (x = 0) := by
  by_cases h : x = 0
  · subst h; rfl
  · have : dl x ≠ 0 := fun e => h (dl_eq_zero x e)
    rw [decide_eq_false h, beq_eq_false_iff_ne]
    omega
theorem cmpZ_nought (a b : Nat) : (cmpZ a b == 0) = decide (a = b) := by
  unfold cmpZ
  by_cases h : a < b
  · rw [if_pos h, decide_eq_false (by omega)]; rfl
  · by_cases h2 : b < a
    · rw [if_neg h, if_pos h2, decide_eq_false (by omega)]; rfl
    · rw [if_neg h, if_neg h2, decide_eq_true (by omega)]; rfl
set_option maxRecDepth 100000 in
set_option maxHeartbeats 1600000 in
theorem rsize_any (id : Int) (P A B N X Y : Nat) (qc : Nat → Option Addr × Nat) (z : Nat) (hd : dl P ≤ 18) (hz : (bl P + 7) / 8 = z) (w : World) (HQ : ∀ k, Sl w (qc k).1 (six P A B N X Y k)) :
    Calls Try.prog 24 #[.agg (crA id (six P A B N X Y) qc)] w fun e w' => e = .returned (.int .i64 (z : Int)) ∧ Gr w w' := by
  obtain ⟨t, ht⟩ : ∃ t, bl P = t := ⟨_, rfl⟩
  have t0 : (t : Int) ≤ 576 := by
    have : (bl P + 31) / 32 ≤ 18 := hd
    omega
  have t2 : IntKind.i64.wrap ((t : Int) + 7) = (t : Int) + 7 := wrap_id (by omega) (by omega)
  have t3 : IntKind.i64.wrap (((t : Int) + 7).tdiv 8) = (z : Int) := tdiv8 (by omega) (by omega) (by omega)
  replace hd : dl P ≤ 400 := by omega
  go_enter Try.func24, Try.ntmps24
  go_upto_region 1 with fail
  refine gen_w (fun v => Gr w v ∧ Vr v (w.heap.size) (crA id (six P A B N X Y) qc)) ⟨(by repeat (first | exact Gr.refl _ | apply Gr.drewN | apply Gr.drew | apply Gr.alloc | apply Gr.gro)), ⟨by simp [go_sem], by simp [go_sem], by simp [go_sem]⟩⟩ ?_
  rintro v0 ⟨G, c1⟩
  replace HQ := fun k => (HQ k).gr G
  refine wp_region_qS (by kernel_rfl) [.c (.pointer (some ⟨w.heap.size, 1, none⟩)), .c (.slice (qc 0).1 (dl (P)) (qc 0).2), .c (.int .i64 (t : Int)), .c (.int .i64 ((t : Int) + 7)), .c (.int .i64 (z : Int)), .c (.int .i64 (z : Int))] ?hs ?hf
  case hs =>
    intro listed vals a1 v1 io oo hg zR zF zo zD
    have Hc1 : blk v1 (w.heap.size) = crA id (six P A B N X Y) qc := (hg.blk _ c1.p).trans c1.h
    have Kc1_1 : v1.cell? ⟨w.heap.size, 1, none⟩ = some (.slice (qc 0).1 (dl (P)) (qc 0).2) := by rw [cell_blk, Hc1]; rfl
    have zi : io < 6 := by simpa using (Array.getElem?_eq_some_iff.1 zo).1
    obtain rfl | rfl | rfl | rfl | rfl | rfl : io = 0 ∨ io = 1 ∨ io = 2 ∨ io = 3 ∨ io = 4 ∨ io = 5 := by omega
    · obtain rfl := Option.some.inj zo
      have f0 := zF.old (s := 1) (v := .pointer (some ⟨w.heap.size, 0, none⟩)) (by kernel_rfl) rfl
      refine Or.inl ⟨wanted_no rfl, ?_⟩
      exact wp_val (.pointer (some ⟨w.heap.size, 1, none⟩)) (by simp [go_sem, f0]) ⟨_, rfl, Gr.refl _, rfl⟩
    · obtain rfl := Option.some.inj zo
      have l0 := on_of zD 0 (by kernel_rfl)
      have f0 := zF.at (s := 3) (i := 0) (by kernel_rfl) (by simp) l0
      have e0 : vals 0 = .pointer (some ⟨w.heap.size, 1, none⟩) := zR 0 l0
      rw [e0] at f0
      refine Or.inl ⟨wanted_no rfl, ?_⟩
      exact wp_val (.slice (qc 0).1 (dl (P)) (qc 0).2) (by simp [go_sem, f0, Kc1_1]) ⟨_, rfl, Gr.refl _, rfl⟩
    · obtain rfl := Option.some.inj zo
      have l0 := on_of zD 1 (by kernel_rfl)
      have f0 := zF.at (s := 4) (i := 1) (by kernel_rfl) (by simp) l0
      have e0 : vals 1 = .slice (qc 0).1 (dl (P)) (qc 0).2 := zR 1 l0
      rw [e0] at f0
      refine Or.inl ⟨wanted_no rfl, ?_⟩
      exact wp_retz (k := .c (.int .i64 (t : Int))) (by simp [go_sem, f0]) (show Calls Try.prog 33 #[.slice (qc 0).1 (dl (P)) (qc 0).2] v1 (Rt (.c (.int .i64 (t : Int))) v1) from bt_any ((HQ 0).gr hg) hd ht) (fun u w2 hu hg2 => ⟨_, rfl, hg2, hu⟩)
    · obtain rfl := Option.some.inj zo
      have l0 := on_of zD 2 (by kernel_rfl)
      have f0 := zF.at (s := 5) (i := 2) (by kernel_rfl) (by simp) l0
      have e0 : vals 2 = .int .i64 (t : Int) := zR 2 l0
      rw [e0] at f0
      refine Or.inl ⟨wanted_no rfl, ?_⟩
      exact wp_val (.int .i64 ((t : Int) + 7)) (by simp [go_sem, f0, t2]) ⟨_, rfl, Gr.refl _, rfl⟩
    · obtain rfl := Option.some.inj zo
      have l0 := on_of zD 3 (by kernel_rfl)
      have f0 := zF.at (s := 6) (i := 3) (by kernel_rfl) (by simp) l0
      have e0 : vals 3 = .int .i64 ((t : Int) + 7) := zR 3 l0
      rw [e0] at f0
      refine Or.inl ⟨wanted_no rfl, ?_⟩
      exact wp_val (.int .i64 (z : Int)) (by simp [go_sem, f0, t3]) ⟨_, rfl, Gr.refl _, rfl⟩
    · obtain rfl := Option.some.inj zo
      have l0 := on_of zD 4 (by kernel_rfl)
      have f0 := zF.at (s := 7) (i := 4) (by kernel_rfl) (by simp) l0
      have e0 : vals 4 = .int .i64 (z : Int) := zR 4 l0
      rw [e0] at f0
      refine Or.inl ⟨wanted_no rfl, ?_⟩
      exact wp_val (.int .i64 (z : Int)) (by simp [go_sem, f0]) ⟨_, rfl, Gr.refl _, rfl⟩
  case hf =>
    intro vals v1 hg zR
    have e1_0 : vals 0 = .pointer (some ⟨w.heap.size, 1, none⟩) := zR 0 (by simp)
    have e1_1 : vals 1 = .slice (qc 0).1 (dl (P)) (qc 0).2 := zR 1 (by simp)
    have e1_2 : vals 2 = .int .i64 (t : Int) := zR 2 (by simp)
    have e1_3 : vals 3 = .int .i64 ((t : Int) + 7) := zR 3 (by simp)
    have e1_4 : vals 4 = .int .i64 (z : Int) := zR 4 (by simp)
    have e1_5 : vals 5 = .int .i64 (z : Int) := zR 5 (by simp)
    simp only [putFrom, Act.put, List.setIfInBounds_toArray, List.set_cons_zero, List.set_cons_succ, e1_0, e1_1, e1_2, e1_3, e1_4, e1_5]
    clear zR e1_0 e1_1 e1_2 e1_3 e1_4 e1_5
    replace G := G.trans hg
    replace c1 := c1.gr hg
    replace HQ := fun k => (HQ k).gr hg
    clear hg
    go_wp2_with fail
    go_ret
    exact ⟨rfl, G⟩
set_option maxRecDepth 100000 in
set_option maxHeartbeats 1600000 in
theorem rin_any (x y : Nat) (f : Bool) (hx : x < M) (hy : y < M) (w : World) :
    Calls Try.prog 18 #[.agg (pnt x y f)] w (Rt (.pt x y f) w) := by
  go_enter Try.func18, Try.ntmps18
  go_upto_region 1 with fail
  refine gen_w (fun v => Gr w v ∧ Vr v (w.heap.size) (pnt x y f) ∧ Vr v (w.heap.size + 1) (ptA none 0 0 none 0 0 false)) ⟨(by repeat (first | exact Gr.refl _ | apply Gr.drewN | apply Gr.drew | apply Gr.alloc | apply Gr.gro)), ⟨by simp [go_sem], by simp [go_sem], by simp [go_sem]⟩, ⟨by simp [go_sem], by simp [go_sem], by simp [go_sem]⟩⟩ ?_
  rintro v0 ⟨G, c1, c2⟩
  refine wp_region_qT (by kernel_rfl) (by kernel_rfl) 9 (by kernel_rfl) [.c (.pointer (some ⟨w.heap.size, 0, none⟩)), .c (.agg (nw 9 x)), .n (x), .c (.pointer (some ⟨w.heap.size, 9, none⟩)), .c (.agg (nw 9 y)), .n (y), .c (.pointer (some ⟨w.heap.size, 18, none⟩)), .c (.bool f), .pt (x) (y) f] ?hs ?hf
  case hs =>
    intro listed vals a1 v1 io oo hg zR zF zo zi zD
    have Hc1 : blk v1 (w.heap.size) = pnt x y f := (hg.blk _ c1.p).trans c1.h
    have Kc1_18 : v1.cell? ⟨w.heap.size, 18, none⟩ = some (.bool f) := by rw [cell_blk, Hc1]; exact pnt_18 _ _ _
    obtain rfl | rfl | rfl | rfl | rfl | rfl | rfl | rfl | rfl : io = 0 ∨ io = 1 ∨ io = 2 ∨ io = 3 ∨ io = 4 ∨ io = 5 ∨ io = 6 ∨ io = 7 ∨ io = 8 := by omega
    · obtain rfl := Option.some.inj zo
      have f0 := zF.old (s := 1) (v := .pointer (some ⟨w.heap.size, 0, none⟩)) (by kernel_rfl) rfl
      refine Or.inl ⟨wanted_no rfl, ?_⟩
      exact wp_val (.pointer (some ⟨w.heap.size, 0, none⟩)) (by simp [go_sem, f0]) ⟨_, rfl, Gr.refl _, rfl⟩
    · obtain rfl := Option.some.inj zo
      have l0 := on_of zD 0 (by kernel_rfl)
      have f0 := zF.at (s := 3) (i := 0) (by kernel_rfl) (by simp) l0
      have e0 : vals 0 = .pointer (some ⟨w.heap.size, 0, none⟩) := zR 0 l0
      rw [e0] at f0
      refine Or.inl ⟨wanted_no rfl, ?_⟩
      exact wp_val (.agg (nw 9 x)) (by simp [go_sem, f0, Hc1]) ⟨_, rfl, Gr.refl _, rfl⟩
    · obtain rfl := Option.some.inj zo
      have l0 := on_of zD 1 (by kernel_rfl)
      have f0 := zF.at (s := 4) (i := 1) (by kernel_rfl) (by simp) l0
      have e0 : vals 1 = .agg (nw 9 x) := zR 1 l0
      rw [e0] at f0
      refine Or.inl ⟨wanted_no rfl, ?_⟩
      exact wp_retz (k := .n (x)) (by simp [go_sem, f0]) (show Calls Try.prog 20 #[.agg (nw 9 x)] v1 (Rt (.n (x)) v1) from fm_any hx) (fun u w2 hu hg2 => ⟨_, rfl, hg2, hu⟩)
    · obtain rfl := Option.some.inj zo
      have f0 := zF.old (s := 1) (v := .pointer (some ⟨w.heap.size, 0, none⟩)) (by kernel_rfl) rfl
      refine Or.inl ⟨wanted_no rfl, ?_⟩
      exact wp_val (.pointer (some ⟨w.heap.size, 9, none⟩)) (by simp [go_sem, f0]) ⟨_, rfl, Gr.refl _, rfl⟩
    · obtain rfl := Option.some.inj zo
      have l0 := on_of zD 3 (by kernel_rfl)
      have f0 := zF.at (s := 6) (i := 3) (by kernel_rfl) (by simp) l0
      have e0 : vals 3 = .pointer (some ⟨w.heap.size, 9, none⟩) := zR 3 l0
      rw [e0] at f0
      refine Or.inl ⟨wanted_no rfl, ?_⟩
      exact wp_val (.agg (nw 9 y)) (by simp [go_sem, f0, Hc1]) ⟨_, rfl, Gr.refl _, rfl⟩
    · obtain rfl := Option.some.inj zo
      have l0 := on_of zD 4 (by kernel_rfl)
      have f0 := zF.at (s := 7) (i := 4) (by kernel_rfl) (by simp) l0
      have e0 : vals 4 = .agg (nw 9 y) := zR 4 l0
      rw [e0] at f0
      refine Or.inl ⟨wanted_no rfl, ?_⟩
      exact wp_retz (k := .n (y)) (by simp [go_sem, f0]) (show Calls Try.prog 20 #[.agg (nw 9 y)] v1 (Rt (.n (y)) v1) from fm_any hy) (fun u w2 hu hg2 => ⟨_, rfl, hg2, hu⟩)
    · obtain rfl := Option.some.inj zo
      have f0 := zF.old (s := 1) (v := .pointer (some ⟨w.heap.size, 0, none⟩)) (by kernel_rfl) rfl
      refine Or.inl ⟨wanted_no rfl, ?_⟩
      exact wp_val (.pointer (some ⟨w.heap.size, 18, none⟩)) (by simp [go_sem, f0]) ⟨_, rfl, Gr.refl _, rfl⟩
    · obtain rfl := Option.some.inj zo
      have l0 := on_of zD 6 (by kernel_rfl)
      have f0 := zF.at (s := 9) (i := 6) (by kernel_rfl) (by simp) l0
      have e0 : vals 6 = .pointer (some ⟨w.heap.size, 18, none⟩) := zR 6 l0
      rw [e0] at f0
      refine Or.inl ⟨wanted_no rfl, ?_⟩
      exact wp_val (.bool f) (by simp [go_sem, f0, Kc1_18]) ⟨_, rfl, Gr.refl _, rfl⟩
    · obtain rfl := Option.some.inj zo
      have l0 := on_of zD 2 (by kernel_rfl)
      have f0 := zF.at (s := 5) (i := 2) (by kernel_rfl) (by simp) l0
      obtain ⟨p0, n0, e0, S0⟩ := (show ∃ p n, vals 2 = .slice p (dl (x)) n ∧ Sl v1 p (x) from zR 2 l0)
      rw [e0] at f0
      have l1 := on_of zD 5 (by kernel_rfl)
      have f1 := zF.at (s := 8) (i := 5) (by kernel_rfl) (by simp) l1
      obtain ⟨p1, n1, e1, S1⟩ := (show ∃ p n, vals 5 = .slice p (dl (y)) n ∧ Sl v1 p (y) from zR 5 l1)
      rw [e1] at f1
      have l2 := on_of zD 7 (by kernel_rfl)
      have f2 := zF.at (s := 10) (i := 7) (by kernel_rfl) (by simp) l2
      have e2 : vals 7 = .bool f := zR 7 l2
      rw [e2] at f2
      refine Or.inl ⟨wanted_no rfl, ?_⟩
      exact wp_val (.agg (ptA p0 (x) n0 p1 (y) n1 f)) (by simp [go_sem, f0, f1, f2]) ⟨_, rfl, Gr.refl _, ⟨_, _, _, _, rfl, S0, S1⟩⟩
  case hf =>
    intro listed vals a1 v1 oo hg zR zF zA zo
    obtain rfl := Option.some.inj zo
    have f0 := zF.old (s := 2) (v := .pointer (some ⟨w.heap.size + 1, 0, none⟩)) (by kernel_rfl) rfl
    have l1_8 := zA 8 (by decide)
    have f1_8 := zF.at (s := 11) (i := 8) (by kernel_rfl) (by simp) l1_8
    obtain ⟨p1_8, n1_8, q1_8, k1_8, e1_8, S1_8, T1_8⟩ := (show ∃ p n q k, vals 8 = .agg (ptA p (x) n q (y) k f) ∧ Sl v1 p (x) ∧ Sl v1 q (y) from zR 8 (by decide))
    rw [e1_8] at f1_8
    have HT := (c2.gr hg).h
    have FT := (c2.gr hg).f
    refine wp_skip (w' := setBlk v1 (w.heap.size + 1) (ptA p1_8 (x) n1_8 q1_8 (y) k1_8 f)) (by simp [go_sem, f0, f1_8, HT, FT]) ⟨rfl, ?_⟩
    have e1_0 : vals 0 = .pointer (some ⟨w.heap.size, 0, none⟩) := zR 0 (by decide)
    have e1_1 : vals 1 = .agg (nw 9 x) := zR 1 (by decide)
    obtain ⟨p1_2, n1_2, e1_2, S1_2⟩ := (show ∃ p n, vals 2 = .slice p (dl (x)) n ∧ Sl v1 p (x) from zR 2 (by decide))
    have e1_3 : vals 3 = .pointer (some ⟨w.heap.size, 9, none⟩) := zR 3 (by decide)
    have e1_4 : vals 4 = .agg (nw 9 y) := zR 4 (by decide)
    obtain ⟨p1_5, n1_5, e1_5, S1_5⟩ := (show ∃ p n, vals 5 = .slice p (dl (y)) n ∧ Sl v1 p (y) from zR 5 (by decide))
    have e1_6 : vals 6 = .pointer (some ⟨w.heap.size, 18, none⟩) := zR 6 (by decide)
    have e1_7 : vals 7 = .bool f := zR 7 (by decide)
    simp only [putFrom, Act.put, List.setIfInBounds_toArray, List.set_cons_zero, List.set_cons_succ, e1_0, e1_1, e1_2, e1_3, e1_4, e1_5, e1_6, e1_7, e1_8]
    clear zR zF zA e1_0 e1_1 e1_2 e1_3 e1_4 e1_5 e1_6 e1_7 e1_8
    replace G := G.trans hg
    replace c1 := c1.gr hg
    replace c2 := c2.gr hg
    clear hg
    go_wp2_with fail
    exact bodyPost_ret (res_one Try.results18 (rd_pt _ _ _ _ _ _ _ (by rfl) (blk_setBlk _ _ _ (by rw [HT]; decide)))) rfl ⟨_, rfl, ⟨_, _, _, _, rfl, Sl.set S1_8 (by rw [HT]; exact ptA_no _ _ _ _ _ _ _), Sl.set T1_8 (by rw [HT]; exact ptA_no _ _ _ _ _ _ _)⟩, gr_setNew G (by omega)⟩
set_option maxRecDepth 100000 in
set_option maxHeartbeats 1600000 in
theorem rout_any (x y : Nat) (f : Bool) (p q : Option Addr) (n m : Nat) (w : World) (Sx : Sl w p x) (Sy : Sl w q y) :
    Calls Try.prog 22 #[.agg (ptA p x n q y m f)] w fun e w' => e = .returned (.agg (pnt x y f)) ∧ Gr w w' := by
  go_enter Try.func22, Try.ntmps22
  go_upto_region 1 with fail
  refine gen_w (fun v => Gr w v ∧ Vr v (w.heap.size) (ptA p x n q y m f) ∧ Vr v (w.heap.size + 1) (pnt 0 0 false)) ⟨(by repeat (first | exact Gr.refl _ | apply Gr.drewN | apply Gr.drew | apply Gr.alloc | apply Gr.gro)), ⟨by simp [go_sem], by simp [go_sem], by simp [go_sem]⟩, ⟨by simp [go_sem], by simp [go_sem], by simp [go_sem]⟩⟩ ?_
  rintro v0 ⟨G, c1, c2⟩
  replace Sx := Sx.gr G
  replace Sy := Sy.gr G
  refine wp_region_qT (by kernel_rfl) (by kernel_rfl) 9 (by kernel_rfl) [.c (.pointer (some ⟨w.heap.size, 0, none⟩)), .c (.slice p (dl (x)) n), .c (.agg (nw 9 x)), .c (.pointer (some ⟨w.heap.size, 1, none⟩)), .c (.slice q (dl (y)) m), .c (.agg (nw 9 y)), .c (.pointer (some ⟨w.heap.size, 2, none⟩)), .c (.bool f), .c (.agg (pnt x y f))] ?hs ?hf
  case hs =>
    intro listed vals a1 v1 io oo hg zR zF zo zi zD
    have Hc1 : blk v1 (w.heap.size) = ptA p (x) n q (y) m f := (hg.blk _ c1.p).trans c1.h
    have Kc1_0 : v1.cell? ⟨w.heap.size, 0, none⟩ = some (.slice p (dl (x)) n) := by rw [cell_blk, Hc1]; rfl
    have Kc1_1 : v1.cell? ⟨w.heap.size, 1, none⟩ = some (.slice q (dl (y)) m) := by rw [cell_blk, Hc1]; rfl
    have Kc1_2 : v1.cell? ⟨w.heap.size, 2, none⟩ = some (.bool f) := by rw [cell_blk, Hc1]; rfl
    obtain rfl | rfl | rfl | rfl | rfl | rfl | rfl | rfl | rfl : io = 0 ∨ io = 1 ∨ io = 2 ∨ io = 3 ∨ io = 4 ∨ io = 5 ∨ io = 6 ∨ io = 7 ∨ io = 8 := by omega
    · obtain rfl := Option.some.inj zo
      have f0 := zF.old (s := 1) (v := .pointer (some ⟨w.heap.size, 0, none⟩)) (by kernel_rfl) rfl
      refine Or.inl ⟨wanted_no rfl, ?_⟩
      exact wp_val (.pointer (some ⟨w.heap.size, 0, none⟩)) (by simp [go_sem, f0]) ⟨_, rfl, Gr.refl _, rfl⟩
    · obtain rfl := Option.some.inj zo
      have l0 := on_of zD 0 (by kernel_rfl)
      have f0 := zF.at (s := 3) (i := 0) (by kernel_rfl) (by simp) l0
      have e0 : vals 0 = .pointer (some ⟨w.heap.size, 0, none⟩) := zR 0 l0
      rw [e0] at f0
      refine Or.inl ⟨wanted_no rfl, ?_⟩
      exact wp_val (.slice p (dl (x)) n) (by simp [go_sem, f0, Kc1_0]) ⟨_, rfl, Gr.refl _, rfl⟩
    · obtain rfl := Option.some.inj zo
      have l0 := on_of zD 1 (by kernel_rfl)
      have f0 := zF.at (s := 4) (i := 1) (by kernel_rfl) (by simp) l0
      have e0 : vals 1 = .slice p (dl (x)) n := zR 1 l0
      rw [e0] at f0
      refine Or.inl ⟨wanted_no rfl, ?_⟩
      exact wp_retz (k := .c (.agg (nw 9 x))) (by simp [go_sem, f0]) (show Calls Try.prog 39 #[.slice p (dl (x)) n] v1 (Rt (.c (.agg (nw 9 x))) v1) from nt_any (Sx.gr hg)) (fun u w2 hu hg2 => ⟨_, rfl, hg2, hu⟩)
    · obtain rfl := Option.some.inj zo
      have f0 := zF.old (s := 1) (v := .pointer (some ⟨w.heap.size, 0, none⟩)) (by kernel_rfl) rfl
      refine Or.inl ⟨wanted_no rfl, ?_⟩
      exact wp_val (.pointer (some ⟨w.heap.size, 1, none⟩)) (by simp [go_sem, f0]) ⟨_, rfl, Gr.refl _, rfl⟩
    · obtain rfl := Option.some.inj zo
      have l0 := on_of zD 3 (by kernel_rfl)
      have f0 := zF.at (s := 6) (i := 3) (by kernel_rfl) (by simp) l0
      have e0 : vals 3 = .pointer (some ⟨w.heap.size, 1, none⟩) := zR 3 l0
      rw [e0] at f0
      refine Or.inl ⟨wanted_no rfl, ?_⟩
      exact wp_val (.slice q (dl (y)) m) (by simp [go_sem, f0, Kc1_1]) ⟨_, rfl, Gr.refl _, rfl⟩
    · obtain rfl := Option.some.inj zo
      have l0 := on_of zD 4 (by kernel_rfl)
      have f0 := zF.at (s := 7) (i := 4) (by kernel_rfl) (by simp) l0
      have e0 : vals 4 = .slice q (dl (y)) m := zR 4 l0
      rw [e0] at f0
      refine Or.inl ⟨wanted_no rfl, ?_⟩
      exact wp_retz (k := .c (.agg (nw 9 y))) (by simp [go_sem, f0]) (show Calls Try.prog 39 #[.slice q (dl (y)) m] v1 (Rt (.c (.agg (nw 9 y))) v1) from nt_any (Sy.gr hg)) (fun u w2 hu hg2 => ⟨_, rfl, hg2, hu⟩)
    · obtain rfl := Option.some.inj zo
      have f0 := zF.old (s := 1) (v := .pointer (some ⟨w.heap.size, 0, none⟩)) (by kernel_rfl) rfl
      refine Or.inl ⟨wanted_no rfl, ?_⟩
      exact wp_val (.pointer (some ⟨w.heap.size, 2, none⟩)) (by simp [go_sem, f0]) ⟨_, rfl, Gr.refl _, rfl⟩
    · obtain rfl := Option.some.inj zo
      have l0 := on_of zD 6 (by kernel_rfl)
      have f0 := zF.at (s := 9) (i := 6) (by kernel_rfl) (by simp) l0
      have e0 : vals 6 = .pointer (some ⟨w.heap.size, 2, none⟩) := zR 6 l0
      rw [e0] at f0
      refine Or.inl ⟨wanted_no rfl, ?_⟩
      exact wp_val (.bool f) (by simp [go_sem, f0, Kc1_2]) ⟨_, rfl, Gr.refl _, rfl⟩
    · obtain rfl := Option.some.inj zo
      have l0 := on_of zD 2 (by kernel_rfl)
      have f0 := zF.at (s := 5) (i := 2) (by kernel_rfl) (by simp) l0
      have e0 : vals 2 = .agg (nw 9 x) := zR 2 l0
      rw [e0] at f0
      have l1 := on_of zD 5 (by kernel_rfl)
      have f1 := zF.at (s := 8) (i := 5) (by kernel_rfl) (by simp) l1
      have e1 : vals 5 = .agg (nw 9 y) := zR 5 l1
      rw [e1] at f1
      have l2 := on_of zD 7 (by kernel_rfl)
      have f2 := zF.at (s := 10) (i := 7) (by kernel_rfl) (by simp) l2
      have e2 : vals 7 = .bool f := zR 7 l2
      rw [e2] at f2
      refine Or.inl ⟨wanted_no rfl, ?_⟩
      exact wp_val (.agg (pnt x y f)) (by simp [go_sem, f0, f1, f2]) ⟨_, rfl, Gr.refl _, rfl⟩
  case hf =>
    intro listed vals a1 v1 oo hg zR zF zA zo
    obtain rfl := Option.some.inj zo
    have f0 := zF.old (s := 2) (v := .pointer (some ⟨w.heap.size + 1, 0, none⟩)) (by kernel_rfl) rfl
    have l1_8 := zA 8 (by decide)
    have f1_8 := zF.at (s := 11) (i := 8) (by kernel_rfl) (by simp) l1_8
    have e1_8 : vals 8 = .agg (pnt x y f) := zR 8 (by decide)
    rw [e1_8] at f1_8
    have HT := (c2.gr hg).h
    have FT := (c2.gr hg).f
    refine wp_skip (w' := setBlk v1 (w.heap.size + 1) (pnt x y f)) (by simp [go_sem, f0, f1_8, HT, FT]) ⟨rfl, ?_⟩
    have e1_0 : vals 0 = .pointer (some ⟨w.heap.size, 0, none⟩) := zR 0 (by decide)
    have e1_1 : vals 1 = .slice p (dl (x)) n := zR 1 (by decide)
    have e1_2 : vals 2 = .agg (nw 9 x) := zR 2 (by decide)
    have e1_3 : vals 3 = .pointer (some ⟨w.heap.size, 1, none⟩) := zR 3 (by decide)
    have e1_4 : vals 4 = .slice q (dl (y)) m := zR 4 (by decide)
    have e1_5 : vals 5 = .agg (nw 9 y) := zR 5 (by decide)
    have e1_6 : vals 6 = .pointer (some ⟨w.heap.size, 2, none⟩) := zR 6 (by decide)
    have e1_7 : vals 7 = .bool f := zR 7 (by decide)
    simp only [putFrom, Act.put, List.setIfInBounds_toArray, List.set_cons_zero, List.set_cons_succ, e1_0, e1_1, e1_2, e1_3, e1_4, e1_5, e1_6, e1_7, e1_8]
    clear zR zF zA e1_0 e1_1 e1_2 e1_3 e1_4 e1_5 e1_6 e1_7 e1_8
    replace G := G.trans hg
    replace c1 := c1.gr hg
    replace c2 := c2.gr hg
    replace Sx := Sx.gr hg
    replace Sy := Sy.gr hg
    clear hg
    go_wp2_with fail
    exact bodyPost_ret (res_one Try.results22 (rd_pn (by rfl) (blk_setBlk _ _ _ (by rw [HT, pnt_size]; decide)))) rfl ⟨rfl, gr_setNew G (by omega)⟩
end Go.Proofs.Ytgmaalokfgdpaaa
namespace Go.Proofs.Ytgmaalokfgdpaaa
open Go.RowKit
attribute [local go_sem ↓] loadNat_is loadArr_is loadWide_is loadArrW_is storeNat_is storeWide_is
attribute [local go_sem] loadNat loadArr loadWide loadArrW storeNat storeWide idxArr fold9 fold18 nw_size nw_elem pre_self pre_1 pre_2 pre_3 pre_4 pre_5 pre_6 pre_7 pre_8 pre_9 pre_10 pre_11 pre_12 pre_13 pre_14 pre_15 pre_16 pre_17 pre_18 pre_19 pre_20 pre_21 pre_22 pre_23 pre_24 pre_25 pre_26 pre_27 pre_28 pre_29 pre_30 pre_31 pre_32 pre_33 pre_34 pre_35 pre_36 pre_37 pre_38 pre_39 pre_40 gro_size gro_drew gro_drewN drew_gro drewN_gro gro_gro blk_gro frz_gro blk_drew frz_drew blk_drewN frz_drewN blk_alloc_at frz_alloc_at blk_alloc frz_alloc cell_gro frozen_gro cell_alloc_pre frozen_alloc_pre setCell_drewN alloc_drewN setBlk_drew setBlk_drewN setBlk_alloc_at setBlk_alloc setBlk_gro setCell_gro setCell_alloc_pre size_setBlk size_setCell
attribute [local go_sem ↓] loadPt_is storePt_is zvPt_is buildPt_is loadC_is loadPn_is loadCu_is storePn_is zvPn_is buildPn_is storeCu_is zvCu_is buildCu_is Go.wp_at_zero Go.wp_at_succ
attribute [local go_sem] loadPt storePt zvPt buildPt3 buildPt2 buildPtI ptA_size crA_size loadC loadPn loadPX loadPY pnt_size pnt_X pnt_Y storePn zvPn buildPn2 buildPn3 storeCu zvCu buildCu9 cu_size loadCu
set_option maxRecDepth 100000 in
set_option maxHeartbeats 1600000 in
theorem rneg_ok (id : Int) (P A B N X Y : Nat) (qc : Nat → Option Addr × Nat) (x y : Nat) (p q : Option Addr) (n m : Nat) (z : Nat) (hd : dl P ≤ 400) (h0 : y ≠ 0) (hy : y < P) (hz : P - y = z) (w : World) (HQ : ∀ k, Sl w (qc k).1 (six P A B N X Y k)) (Sx : Sl w p x) (Sy : Sl w q y) :
    Calls Try.prog 23 #[.agg (crA id (six P A B N X Y) qc), .agg (ptA p x n q y m false)] w (Rt (.pt x z false) w) := by
  have zy : ((dl y : Int) == 0) = false := by rw [dl_nought, decide_eq_false h0]
  go_enter Try.func23, Try.ntmps23
  go_upto_region 1 with fail
  refine gen_w (fun v => Gr w v ∧ Vr v (w.heap.size) (crA id (six P A B N X Y) qc) ∧ Vr v (w.heap.size + 1) (ptA p x n q y m false) ∧ Vr v (w.heap.size + 1 + 1) (ptA none 0 0 none 0 0 false)) ⟨(by repeat (first | exact Gr.refl _ | apply Gr.drewN | apply Gr.drew | apply Gr.alloc | apply Gr.gro)), ⟨by simp [go_sem], by simp [go_sem], by simp [go_sem]⟩, ⟨by simp [go_sem], by simp [go_sem], by simp [go_sem]⟩, ⟨by simp [go_sem], by simp [go_sem], by simp [go_sem]⟩⟩ ?_
  rintro v0 ⟨G, c1, c2, c3⟩
  replace HQ := fun k => (HQ k).gr G
  replace Sx := Sx.gr G
  replace Sy := Sy.gr G
  refine wp_region_qS (by kernel_rfl) [.c (.pointer (some ⟨w.heap.size + 1, 2, none⟩)), .c (.bool false), .c (.bool false), .c (.pointer (some ⟨w.heap.size + 1, 1, none⟩)), .c (.slice q (dl (y)) m), .c (.int .i64 (dl (y))), .c (.bool false), .c (.bool false)] ?hs ?hf
  case hs =>
    intro listed vals a1 v1 io oo hg zR zF zo zD
    have Hc2 : blk v1 (w.heap.size + 1) = ptA p (x) n q (y) m false := (hg.blk _ c2.p).trans c2.h
    have Kc2_2 : v1.cell? ⟨w.heap.size + 1, 2, none⟩ = some (.bool false) := by rw [cell_blk, Hc2]; rfl
    have Kc2_1 : v1.cell? ⟨w.heap.size + 1, 1, none⟩ = some (.slice q (dl (y)) m) := by rw [cell_blk, Hc2]; rfl
    have zi : io < 8 := by simpa using (Array.getElem?_eq_some_iff.1 zo).1
    obtain rfl | rfl | rfl | rfl | rfl | rfl | rfl | rfl : io = 0 ∨ io = 1 ∨ io = 2 ∨ io = 3 ∨ io = 4 ∨ io = 5 ∨ io = 6 ∨ io = 7 := by omega
    · obtain rfl := Option.some.inj zo
      have f0 := zF.old (s := 3) (v := .pointer (some ⟨w.heap.size + 1, 0, none⟩)) (by kernel_rfl) rfl
      refine Or.inl ⟨wanted_no rfl, ?_⟩
      exact wp_val (.pointer (some ⟨w.heap.size + 1, 2, none⟩)) (by simp [go_sem, f0]) ⟨_, rfl, Gr.refl _, rfl⟩
    · obtain rfl := Option.some.inj zo
      have l0 := on_of zD 0 (by kernel_rfl)
      have f0 := zF.at (s := 5) (i := 0) (by kernel_rfl) (by simp) l0
      have e0 : vals 0 = .pointer (some ⟨w.heap.size + 1, 2, none⟩) := zR 0 l0
      rw [e0] at f0
      refine Or.inl ⟨wanted_no rfl, ?_⟩
      exact wp_val (.bool false) (by simp [go_sem, f0, Kc2_2]) ⟨_, rfl, Gr.refl _, rfl⟩
    · obtain rfl := Option.some.inj zo
      have l0 := on_of zD 1 (by kernel_rfl)
      have f0 := zF.at (s := 6) (i := 1) (by kernel_rfl) (by simp) l0
      have e0 : vals 1 = .bool false := zR 1 l0
      rw [e0] at f0
      refine Or.inl ⟨wanted_no rfl, ?_⟩
      exact wp_val (.bool false) (by simp [go_sem, f0]) ⟨_, rfl, Gr.refl _, rfl⟩
    · obtain rfl := Option.some.inj zo
      have lg := on_of zD 2 (by kernel_rfl)
      have fg := zF.at (s := 7) (i := 2) (by kernel_rfl) (by simp) lg
      rw [show vals 2 = .bool false from zR 2 lg] at fg
      have f0 := zF.old (s := 3) (v := .pointer (some ⟨w.heap.size + 1, 0, none⟩)) (by kernel_rfl) rfl
      refine Or.inl ⟨wanted_at (j := 2) (s := 7) rfl rfl rfl fg, ?_⟩
      exact wp_val (.pointer (some ⟨w.heap.size + 1, 1, none⟩)) (by simp [go_sem, f0]) ⟨_, rfl, Gr.refl _, rfl⟩
    · obtain rfl := Option.some.inj zo
      have lg := on_of zD 2 (by kernel_rfl)
      have fg := zF.at (s := 7) (i := 2) (by kernel_rfl) (by simp) lg
      rw [show vals 2 = .bool false from zR 2 lg] at fg
      have l0 := on_of zD 3 (by kernel_rfl)
      have f0 := zF.at (s := 8) (i := 3) (by kernel_rfl) (by simp) l0
      have e0 : vals 3 = .pointer (some ⟨w.heap.size + 1, 1, none⟩) := zR 3 l0
      rw [e0] at f0
      refine Or.inl ⟨wanted_at (j := 2) (s := 7) rfl rfl rfl fg, ?_⟩
      exact wp_val (.slice q (dl (y)) m) (by simp [go_sem, f0, Kc2_1]) ⟨_, rfl, Gr.refl _, rfl⟩
    · obtain rfl := Option.some.inj zo
      have lg := on_of zD 2 (by kernel_rfl)
      have fg := zF.at (s := 7) (i := 2) (by kernel_rfl) (by simp) lg
      rw [show vals 2 = .bool false from zR 2 lg] at fg
      have l0 := on_of zD 4 (by kernel_rfl)
      have f0 := zF.at (s := 9) (i := 4) (by kernel_rfl) (by simp) l0
      have e0 : vals 4 = .slice q (dl (y)) m := zR 4 l0
      rw [e0] at f0
      refine Or.inl ⟨wanted_at (j := 2) (s := 7) rfl rfl rfl fg, ?_⟩
      exact wp_val (.int .i64 (dl (y))) (by simp [go_sem, f0]) ⟨_, rfl, Gr.refl _, rfl⟩
    · obtain rfl := Option.some.inj zo
      have lg := on_of zD 2 (by kernel_rfl)
      have fg := zF.at (s := 7) (i := 2) (by kernel_rfl) (by simp) lg
      rw [show vals 2 = .bool false from zR 2 lg] at fg
      have l0 := on_of zD 5 (by kernel_rfl)
      have f0 := zF.at (s := 10) (i := 5) (by kernel_rfl) (by simp) l0
      have e0 : vals 5 = .int .i64 (dl (y)) := zR 5 l0
      rw [e0] at f0
      refine Or.inl ⟨wanted_at (j := 2) (s := 7) rfl rfl rfl fg, ?_⟩
      exact wp_val (.bool false) (by simp [go_sem, f0, zy]) ⟨_, rfl, Gr.refl _, rfl⟩
    · obtain rfl := Option.some.inj zo
      have l0 := on_of zD 2 (by kernel_rfl)
      have f0 := zF.at (s := 7) (i := 2) (by kernel_rfl) (by simp) l0
      have e0 : vals 2 = .bool false := zR 2 l0
      rw [e0] at f0
      have l1 := on_of zD 6 (by kernel_rfl)
      have f1 := zF.at (s := 11) (i := 6) (by kernel_rfl) (by simp) l1
      have e1 : vals 6 = .bool false := zR 6 l1
      rw [e1] at f1
      refine Or.inl ⟨wanted_no rfl, ?_⟩
      exact wp_val (.bool false) (by simp [go_sem, f0, f1]) ⟨_, rfl, Gr.refl _, rfl⟩
  case hf =>
    intro vals v1 hg zR
    have e1_0 : vals 0 = .pointer (some ⟨w.heap.size + 1, 2, none⟩) := zR 0 (by simp)
    have e1_1 : vals 1 = .bool false := zR 1 (by simp)
    have e1_2 : vals 2 = .bool false := zR 2 (by simp)
    have e1_3 : vals 3 = .pointer (some ⟨w.heap.size + 1, 1, none⟩) := zR 3 (by simp)
    have e1_4 : vals 4 = .slice q (dl (y)) m := zR 4 (by simp)
    have e1_5 : vals 5 = .int .i64 (dl (y)) := zR 5 (by simp)
    have e1_6 : vals 6 = .bool false := zR 6 (by simp)
    have e1_7 : vals 7 = .bool false := zR 7 (by simp)
    simp only [putFrom, Act.put, List.setIfInBounds_toArray, List.set_cons_zero, List.set_cons_succ, e1_0, e1_1, e1_2, e1_3, e1_4, e1_5, e1_6, e1_7]
    clear zR e1_0 e1_1 e1_2 e1_3 e1_4 e1_5 e1_6 e1_7
    replace G := G.trans hg
    replace c1 := c1.gr hg
    replace c2 := c2.gr hg
    replace c3 := c3.gr hg
    replace HQ := fun k => (HQ k).gr hg
    replace Sx := Sx.gr hg
    replace Sy := Sy.gr hg
    clear hg
    go_upto_region 3 with fail
    refine wp_region_qT (by kernel_rfl) (by kernel_rfl) 8 (by kernel_rfl) [.c (.pointer (some ⟨w.heap.size + 1, 0, none⟩)), .c (.slice p (dl (x)) n), .c (.pointer (some ⟨w.heap.size, 1, none⟩)), .c (.slice (qc 0).1 (dl (P)) (qc 0).2), .c (.pointer (some ⟨w.heap.size + 1, 1, none⟩)), .c (.slice q (dl (y)) m), .n (z), .pt (x) (z) false] ?hs ?hf
    case hs =>
      intro listed vals a1 v2 io oo hg zR zF zo zi zD
      have Hc1 : blk v2 (w.heap.size) = crA id (six P A B N X Y) qc := (hg.blk _ c1.p).trans c1.h
      have Kc1_1 : v2.cell? ⟨w.heap.size, 1, none⟩ = some (.slice (qc 0).1 (dl (P)) (qc 0).2) := by rw [cell_blk, Hc1]; rfl
      have Hc2 : blk v2 (w.heap.size + 1) = ptA p (x) n q (y) m false := (hg.blk _ c2.p).trans c2.h
      have Kc2_0 : v2.cell? ⟨w.heap.size + 1, 0, none⟩ = some (.slice p (dl (x)) n) := by rw [cell_blk, Hc2]; rfl
      have Kc2_1 : v2.cell? ⟨w.heap.size + 1, 1, none⟩ = some (.slice q (dl (y)) m) := by rw [cell_blk, Hc2]; rfl
      obtain rfl | rfl | rfl | rfl | rfl | rfl | rfl | rfl : io = 0 ∨ io = 1 ∨ io = 2 ∨ io = 3 ∨ io = 4 ∨ io = 5 ∨ io = 6 ∨ io = 7 := by omega
      · obtain rfl := Option.some.inj zo
        have f0 := zF.old (s := 3) (v := .pointer (some ⟨w.heap.size + 1, 0, none⟩)) (by kernel_rfl) rfl
        refine Or.inl ⟨wanted_no rfl, ?_⟩
        exact wp_val (.pointer (some ⟨w.heap.size + 1, 0, none⟩)) (by simp [go_sem, f0]) ⟨_, rfl, Gr.refl _, rfl⟩
      · obtain rfl := Option.some.inj zo
        have l0 := on_of zD 0 (by kernel_rfl)
        have f0 := zF.at (s := 14) (i := 0) (by kernel_rfl) (by simp) l0
        have e0 : vals 0 = .pointer (some ⟨w.heap.size + 1, 0, none⟩) := zR 0 l0
        rw [e0] at f0
        refine Or.inl ⟨wanted_no rfl, ?_⟩
        exact wp_val (.slice p (dl (x)) n) (by simp [go_sem, f0, Kc2_0]) ⟨_, rfl, Gr.refl _, rfl⟩
      · obtain rfl := Option.some.inj zo
        have f0 := zF.old (s := 2) (v := .pointer (some ⟨w.heap.size, 0, none⟩)) (by kernel_rfl) rfl
        refine Or.inl ⟨wanted_no rfl, ?_⟩
        exact wp_val (.pointer (some ⟨w.heap.size, 1, none⟩)) (by simp [go_sem, f0]) ⟨_, rfl, Gr.refl _, rfl⟩
      · obtain rfl := Option.some.inj zo
        have l0 := on_of zD 2 (by kernel_rfl)
        have f0 := zF.at (s := 16) (i := 2) (by kernel_rfl) (by simp) l0
        have e0 : vals 2 = .pointer (some ⟨w.heap.size, 1, none⟩) := zR 2 l0
        rw [e0] at f0
        refine Or.inl ⟨wanted_no rfl, ?_⟩
        exact wp_val (.slice (qc 0).1 (dl (P)) (qc 0).2) (by simp [go_sem, f0, Kc1_1]) ⟨_, rfl, Gr.refl _, rfl⟩
      · obtain rfl := Option.some.inj zo
        have f0 := zF.old (s := 3) (v := .pointer (some ⟨w.heap.size + 1, 0, none⟩)) (by kernel_rfl) rfl
        refine Or.inl ⟨wanted_no rfl, ?_⟩
        exact wp_val (.pointer (some ⟨w.heap.size + 1, 1, none⟩)) (by simp [go_sem, f0]) ⟨_, rfl, Gr.refl _, rfl⟩
      · obtain rfl := Option.some.inj zo
        have l0 := on_of zD 4 (by kernel_rfl)
        have f0 := zF.at (s := 18) (i := 4) (by kernel_rfl) (by simp) l0
        have e0 : vals 4 = .pointer (some ⟨w.heap.size + 1, 1, none⟩) := zR 4 l0
        rw [e0] at f0
        refine Or.inl ⟨wanted_no rfl, ?_⟩
        exact wp_val (.slice q (dl (y)) m) (by simp [go_sem, f0, Kc2_1]) ⟨_, rfl, Gr.refl _, rfl⟩
      · obtain rfl := Option.some.inj zo
        have l0 := on_of zD 3 (by kernel_rfl)
        have f0 := zF.at (s := 17) (i := 3) (by kernel_rfl) (by simp) l0
        have e0 : vals 3 = .slice (qc 0).1 (dl (P)) (qc 0).2 := zR 3 l0
        rw [e0] at f0
        have l1 := on_of zD 5 (by kernel_rfl)
        have f1 := zF.at (s := 19) (i := 5) (by kernel_rfl) (by simp) l1
        have e1 : vals 5 = .slice q (dl (y)) m := zR 5 l1
        rw [e1] at f1
        refine Or.inl ⟨wanted_no rfl, ?_⟩
        exact wp_retz (k := .n (z)) (by simp [go_sem, f0, f1]) (show Calls Try.prog 21 #[.slice (qc 0).1 (dl (P)) (qc 0).2, .slice q (dl (y)) m] v2 (Rt (.n (z)) v2) from sb_any ((HQ 0).gr hg) (Sy.gr hg) hd (by omega) hz) (fun u w2 hu hg2 => ⟨_, rfl, hg2, hu⟩)
      · obtain rfl := Option.some.inj zo
        have l0 := on_of zD 1 (by kernel_rfl)
        have f0 := zF.at (s := 15) (i := 1) (by kernel_rfl) (by simp) l0
        have e0 : vals 1 = .slice p (dl (x)) n := zR 1 l0
        rw [e0] at f0
        have l1 := on_of zD 6 (by kernel_rfl)
        have f1 := zF.at (s := 20) (i := 6) (by kernel_rfl) (by simp) l1
        obtain ⟨p1, n1, e1, S1⟩ := (show ∃ p n, vals 6 = .slice p (dl (z)) n ∧ Sl v2 p (z) from zR 6 l1)
        rw [e1] at f1
        refine Or.inl ⟨wanted_no rfl, ?_⟩
        exact wp_val (.agg (ptA p (x) n p1 (z) n1 false)) (by simp [go_sem, f0, f1]) ⟨_, rfl, Gr.refl _, ⟨_, _, _, _, rfl, (Sx.gr hg), S1⟩⟩
    case hf =>
      intro listed vals a1 v2 oo hg zR zF zA zo
      obtain rfl := Option.some.inj zo
      have f0 := zF.old (s := 4) (v := .pointer (some ⟨w.heap.size + 1 + 1, 0, none⟩)) (by kernel_rfl) rfl
      have l3_7 := zA 7 (by decide)
      have f3_7 := zF.at (s := 21) (i := 7) (by kernel_rfl) (by simp) l3_7
      obtain ⟨p3_7, n3_7, q3_7, k3_7, e3_7, S3_7, T3_7⟩ := (show ∃ p n q k, vals 7 = .agg (ptA p (x) n q (z) k false) ∧ Sl v2 p (x) ∧ Sl v2 q (z) from zR 7 (by decide))
      rw [e3_7] at f3_7
      have HT := (c3.gr hg).h
      have FT := (c3.gr hg).f
      refine wp_skip (w' := setBlk v2 (w.heap.size + 1 + 1) (ptA p3_7 (x) n3_7 q3_7 (z) k3_7 false)) (by simp [go_sem, f0, f3_7, HT, FT]) ⟨rfl, ?_⟩
      have e3_0 : vals 0 = .pointer (some ⟨w.heap.size + 1, 0, none⟩) := zR 0 (by decide)
      have e3_1 : vals 1 = .slice p (dl (x)) n := zR 1 (by decide)
      have e3_2 : vals 2 = .pointer (some ⟨w.heap.size, 1, none⟩) := zR 2 (by decide)
      have e3_3 : vals 3 = .slice (qc 0).1 (dl (P)) (qc 0).2 := zR 3 (by decide)
      have e3_4 : vals 4 = .pointer (some ⟨w.heap.size + 1, 1, none⟩) := zR 4 (by decide)
      have e3_5 : vals 5 = .slice q (dl (y)) m := zR 5 (by decide)
      obtain ⟨p3_6, n3_6, e3_6, S3_6⟩ := (show ∃ p n, vals 6 = .slice p (dl (z)) n ∧ Sl v2 p (z) from zR 6 (by decide))
      simp only [putFrom, Act.put, List.setIfInBounds_toArray, List.set_cons_zero, List.set_cons_succ, e3_0, e3_1, e3_2, e3_3, e3_4, e3_5, e3_6, e3_7]
      clear zR zF zA e3_0 e3_1 e3_2 e3_3 e3_4 e3_5 e3_6 e3_7
      replace G := G.trans hg
      replace c1 := c1.gr hg
      replace c2 := c2.gr hg
      replace c3 := c3.gr hg
      replace HQ := fun k => (HQ k).gr hg
      replace Sx := Sx.gr hg
      replace Sy := Sy.gr hg
      clear hg
      go_wp2_with fail
      exact bodyPost_ret (res_one Try.results23 (rd_pt _ _ _ _ _ _ _ (by rfl) (blk_setBlk _ _ _ (by rw [HT]; decide)))) rfl ⟨_, rfl, ⟨_, _, _, _, rfl, Sl.set S3_7 (by rw [HT]; exact ptA_no _ _ _ _ _ _ _), Sl.set T3_7 (by rw [HT]; exact ptA_no _ _ _ _ _ _ _)⟩, gr_setNew G (by omega)⟩

end Go.Proofs.Ytgmaalokfgdpaaa
namespace Go.Proofs.Ytgmaalokfgdpaaa
open Go.RowKit
attribute [local go_sem ↓] loadNat_is loadArr_is loadWide_is loadArrW_is storeNat_is storeWide_is
attribute [local go_sem] loadNat loadArr loadWide loadArrW storeNat storeWide idxArr fold9 fold18 nw_size nw_elem pre_self pre_1 pre_2 pre_3 pre_4 pre_5 pre_6 pre_7 pre_8 pre_9 pre_10 pre_11 pre_12 pre_13 pre_14 pre_15 pre_16 pre_17 pre_18 pre_19 pre_20 pre_21 pre_22 pre_23 pre_24 pre_25 pre_26 pre_27 pre_28 pre_29 pre_30 pre_31 pre_32 pre_33 pre_34 pre_35 pre_36 pre_37 pre_38 pre_39 pre_40 gro_size gro_drew gro_drewN drew_gro drewN_gro gro_gro blk_gro frz_gro blk_drew frz_drew blk_drewN frz_drewN blk_alloc_at frz_alloc_at blk_alloc frz_alloc cell_gro frozen_gro cell_alloc_pre frozen_alloc_pre setCell_drewN alloc_drewN setBlk_drew setBlk_drewN setBlk_alloc_at setBlk_alloc setBlk_gro setCell_gro setCell_alloc_pre size_setBlk size_setCell
attribute [local go_sem ↓] loadPt_is storePt_is zvPt_is buildPt_is loadC_is loadPn_is loadCu_is storePn_is zvPn_is buildPn_is storeCu_is zvCu_is buildCu_is Go.wp_at_zero Go.wp_at_succ
attribute [local go_sem] loadPt storePt zvPt buildPt3 buildPt2 buildPtI ptA_size crA_size loadC loadPn loadPX loadPY pnt_size pnt_X pnt_Y storePn zvPn buildPn2 buildPn3 storeCu zvCu buildCu9 cu_size loadCu
set_option maxRecDepth 100000 in
set_option maxHeartbeats 4000000 in
theorem rplus_inf1 (id : Int) (P A B N X Y : Nat) (qc : Nat → Option Addr × Nat) (x1 y1 x2 y2 : Nat) (f : Bool) (p1 q1 : Option Addr) (n1 m1 : Nat) (p2 q2 : Option Addr) (n2 m2 : Nat)  (w : World) (HQ : ∀ k, Sl w (qc k).1 (six P A B N X Y k)) (Sx1 : Sl w p1 x1) (Sy1 : Sl w q1 y1) (Sx2 : Sl w p2 x2) (Sy2 : Sl w q2 y2) :
    Calls Try.prog 43 #[.agg (crA id (six P A B N X Y) qc), .agg (ptA p1 (x1) n1 q1 (y1) m1 true), .agg (ptA p2 (x2) n2 q2 (y2) m2 f)] w (Rt (.pt x2 y2 f) w) := by
  go_enter Try.func43, Try.ntmps43
  go_upto_region 1 with fail
  refine gen_w (fun v => Gr w v ∧ Vr v (w.heap.size) (crA id (six P A B N X Y) qc) ∧ Vr v (w.heap.size + 1) (ptA p1 (x1) n1 q1 (y1) m1 true) ∧ Vr v (w.heap.size + 1 + 1) (ptA p2 (x2) n2 q2 (y2) m2 f) ∧ Vr v (w.heap.size + 1 + 1 + 1) (ptA none 0 0 none 0 0 false)) ⟨(by repeat (first | exact Gr.refl _ | apply Gr.drewN | apply Gr.drew | apply Gr.alloc | apply Gr.gro)), ⟨by simp [go_sem], by simp [go_sem], by simp [go_sem]⟩, ⟨by simp [go_sem], by simp [go_sem], by simp [go_sem]⟩, ⟨by simp [go_sem], by simp [go_sem], by simp [go_sem]⟩, ⟨by simp [go_sem], by simp [go_sem], by simp [go_sem]⟩⟩ ?_
  rintro v0 ⟨G, c1, c2, c3, c4⟩
  replace HQ := fun k => (HQ k).gr G
  replace Sx1 := Sx1.gr G
  replace Sy1 := Sy1.gr G
  replace Sx2 := Sx2.gr G
  replace Sy2 := Sy2.gr G
  refine wp_region_qS (by kernel_rfl) [.c (.pointer (some ⟨w.heap.size + 1, 2, none⟩)), .c (.bool true)] ?hs ?hf
  case hs =>
    intro listed vals a1 v1 io oo hg zR zF zo zD
    have Hc2 : blk v1 (w.heap.size + 1) = ptA p1 (x1) n1 q1 (y1) m1 true := (hg.blk _ c2.p).trans c2.h
    have Kc2_2 : v1.cell? ⟨w.heap.size + 1, 2, none⟩ = some (.bool true) := by rw [cell_blk, Hc2]; rfl
    have zi : io < 2 := by simpa using (Array.getElem?_eq_some_iff.1 zo).1
    obtain rfl | rfl : io = 0 ∨ io = 1 := by omega
    · obtain rfl := Option.some.inj zo
      have f0 := zF.old (s := 4) (v := .pointer (some ⟨w.heap.size + 1, 0, none⟩)) (by kernel_rfl) rfl
      refine Or.inl ⟨wanted_no rfl, ?_⟩
      exact wp_val (.pointer (some ⟨w.heap.size + 1, 2, none⟩)) (by simp [go_sem, f0]) ⟨_, rfl, Gr.refl _, rfl⟩
    · obtain rfl := Option.some.inj zo
      have l0 := on_of zD 0 (by kernel_rfl)
      have f0 := zF.at (s := 15) (i := 0) (by kernel_rfl) (by simp) l0
      have e0 : vals 0 = .pointer (some ⟨w.heap.size + 1, 2, none⟩) := zR 0 l0
      rw [e0] at f0
      refine Or.inl ⟨wanted_no rfl, ?_⟩
      exact wp_val (.bool true) (by simp [go_sem, f0, Kc2_2]) ⟨_, rfl, Gr.refl _, rfl⟩
  case hf =>
    intro vals v1 hg zR
    have e1_0 : vals 0 = .pointer (some ⟨w.heap.size + 1, 2, none⟩) := zR 0 (by simp)
    have e1_1 : vals 1 = .bool true := zR 1 (by simp)
    simp only [putFrom, Act.put, List.setIfInBounds_toArray, List.set_cons_zero, List.set_cons_succ, e1_0, e1_1]
    clear zR e1_0 e1_1
    replace G := G.trans hg
    replace c1 := c1.gr hg
    replace c2 := c2.gr hg
    replace c3 := c3.gr hg
    replace c4 := c4.gr hg
    replace HQ := fun k => (HQ k).gr hg
    replace Sx1 := Sx1.gr hg
    replace Sy1 := Sy1.gr hg
    replace Sx2 := Sx2.gr hg
    replace Sy2 := Sy2.gr hg
    clear hg
    go_upto_region 2 with fail
    refine wp_region_qTS (by kernel_rfl) 1 (by kernel_rfl) [.c (.agg (ptA p2 (x2) n2 q2 (y2) m2 f))] ?hs ?hf
    case hs =>
      intro listed vals a1 v2 io oo hg zR zF zo zi zD
      have Hc3 : blk v2 (w.heap.size + 1 + 1) = ptA p2 (x2) n2 q2 (y2) m2 f := (hg.blk _ c3.p).trans c3.h
      obtain rfl : io = 0 := by omega
      · obtain rfl := Option.some.inj zo
        have f0 := zF.old (s := 5) (v := .pointer (some ⟨w.heap.size + 1 + 1, 0, none⟩)) (by kernel_rfl) rfl
        refine Or.inl ⟨wanted_no rfl, ?_⟩
        exact wp_val (.agg (ptA p2 (x2) n2 q2 (y2) m2 f)) (by simp [go_sem, f0, Hc3]) ⟨_, rfl, Gr.refl _, rfl⟩
    case hf =>
      intro listed vals a1 v2 oo hg zR zF zA zo
      obtain rfl := Option.some.inj zo
      have f0 := zF.old (s := 6) (v := .pointer (some ⟨w.heap.size + 1 + 1 + 1, 0, none⟩)) (by kernel_rfl) rfl
      have l2_0 := zA 0 (by decide)
      have f2_0 := zF.at (s := 17) (i := 0) (by kernel_rfl) (by simp) l2_0
      have e2_0 : vals 0 = .agg (ptA p2 (x2) n2 q2 (y2) m2 f) := zR 0 (by decide)
      rw [e2_0] at f2_0
      have HT := (c4.gr hg).h
      have FT := (c4.gr hg).f
      refine wp_skip (w' := setBlk v2 (w.heap.size + 1 + 1 + 1) (ptA p2 (x2) n2 q2 (y2) m2 f)) (by simp [go_sem, f0, f2_0, HT, FT]) ⟨rfl, ?_⟩
      simp only [putFrom, Act.put, List.setIfInBounds_toArray, List.set_cons_zero, List.set_cons_succ, e2_0]
      clear zR zF zA e2_0
      replace G := G.trans hg
      replace c1 := c1.gr hg
      replace c2 := c2.gr hg
      replace c3 := c3.gr hg
      replace c4 := c4.gr hg
      replace HQ := fun k => (HQ k).gr hg
      replace Sx1 := Sx1.gr hg
      replace Sy1 := Sy1.gr hg
      replace Sx2 := Sx2.gr hg
      replace Sy2 := Sy2.gr hg
      clear hg
      go_wp2_with fail
      exact bodyPost_ret (res_one Try.results43 (rd_pt _ _ _ _ _ _ _ (by rfl) (blk_setBlk _ _ _ (by rw [HT]; decide)))) rfl ⟨_, rfl, ⟨_, _, _, _, rfl, Sl.set Sx2 (by rw [HT]; exact ptA_no _ _ _ _ _ _ _), Sl.set Sy2 (by rw [HT]; exact ptA_no _ _ _ _ _ _ _)⟩, gr_setNew G (by omega)⟩
set_option maxRecDepth 100000 in
set_option maxHeartbeats 4000000 in
theorem rplus_inf2 (id : Int) (P A B N X Y : Nat) (qc : Nat → Option Addr × Nat) (x1 y1 x2 y2 : Nat) (p1 q1 : Option Addr) (n1 m1 : Nat) (p2 q2 : Option Addr) (n2 m2 : Nat)  (w : World) (HQ : ∀ k, Sl w (qc k).1 (six P A B N X Y k)) (Sx1 : Sl w p1 x1) (Sy1 : Sl w q1 y1) (Sx2 : Sl w p2 x2) (Sy2 : Sl w q2 y2) :
    Calls Try.prog 43 #[.agg (crA id (six P A B N X Y) qc), .agg (ptA p1 (x1) n1 q1 (y1) m1 false), .agg (ptA p2 (x2) n2 q2 (y2) m2 true)] w (Rt (.pt x1 y1 false) w) := by
  go_enter Try.func43, Try.ntmps43
  go_upto_region 1 with fail
  refine gen_w (fun v => Gr w v ∧ Vr v (w.heap.size) (crA id (six P A B N X Y) qc) ∧ Vr v (w.heap.size + 1) (ptA p1 (x1) n1 q1 (y1) m1 false) ∧ Vr v (w.heap.size + 1 + 1) (ptA p2 (x2) n2 q2 (y2) m2 true) ∧ Vr v (w.heap.size + 1 + 1 + 1) (ptA none 0 0 none 0 0 false)) ⟨(by repeat (first | exact Gr.refl _ | apply Gr.drewN | apply Gr.drew | apply Gr.alloc | apply Gr.gro)), ⟨by simp [go_sem], by simp [go_sem], by simp [go_sem]⟩, ⟨by simp [go_sem], by simp [go_sem], by simp [go_sem]⟩, ⟨by simp [go_sem], by simp [go_sem], by simp [go_sem]⟩, ⟨by simp [go_sem], by simp [go_sem], by simp [go_sem]⟩⟩ ?_
  rintro v0 ⟨G, c1, c2, c3, c4⟩
  replace HQ := fun k => (HQ k).gr G
  replace Sx1 := Sx1.gr G
  replace Sy1 := Sy1.gr G
  replace Sx2 := Sx2.gr G
  replace Sy2 := Sy2.gr G
  refine wp_region_qS (by kernel_rfl) [.c (.pointer (some ⟨w.heap.size + 1, 2, none⟩)), .c (.bool false)] ?hs ?hf
  case hs =>
    intro listed vals a1 v1 io oo hg zR zF zo zD
    have Hc2 : blk v1 (w.heap.size + 1) = ptA p1 (x1) n1 q1 (y1) m1 false := (hg.blk _ c2.p).trans c2.h
    have Kc2_2 : v1.cell? ⟨w.heap.size + 1, 2, none⟩ = some (.bool false) := by rw [cell_blk, Hc2]; rfl
    have zi : io < 2 := by simpa using (Array.getElem?_eq_some_iff.1 zo).1
    obtain rfl | rfl : io = 0 ∨ io = 1 := by omega
    · obtain rfl := Option.some.inj zo
      have f0 := zF.old (s := 4) (v := .pointer (some ⟨w.heap.size + 1, 0, none⟩)) (by kernel_rfl) rfl
      refine Or.inl ⟨wanted_no rfl, ?_⟩
      exact wp_val (.pointer (some ⟨w.heap.size + 1, 2, none⟩)) (by simp [go_sem, f0]) ⟨_, rfl, Gr.refl _, rfl⟩
    · obtain rfl := Option.some.inj zo
      have l0 := on_of zD 0 (by kernel_rfl)
      have f0 := zF.at (s := 15) (i := 0) (by kernel_rfl) (by simp) l0
      have e0 : vals 0 = .pointer (some ⟨w.heap.size + 1, 2, none⟩) := zR 0 l0
      rw [e0] at f0
      refine Or.inl ⟨wanted_no rfl, ?_⟩
      exact wp_val (.bool false) (by simp [go_sem, f0, Kc2_2]) ⟨_, rfl, Gr.refl _, rfl⟩
  case hf =>
    intro vals v1 hg zR
    have e1_0 : vals 0 = .pointer (some ⟨w.heap.size + 1, 2, none⟩) := zR 0 (by simp)
    have e1_1 : vals 1 = .bool false := zR 1 (by simp)
    simp only [putFrom, Act.put, List.setIfInBounds_toArray, List.set_cons_zero, List.set_cons_succ, e1_0, e1_1]
    clear zR e1_0 e1_1
    replace G := G.trans hg
    replace c1 := c1.gr hg
    replace c2 := c2.gr hg
    replace c3 := c3.gr hg
    replace c4 := c4.gr hg
    replace HQ := fun k => (HQ k).gr hg
    replace Sx1 := Sx1.gr hg
    replace Sy1 := Sy1.gr hg
    replace Sx2 := Sx2.gr hg
    replace Sy2 := Sy2.gr hg
    clear hg
    go_upto_region 3 with fail
    refine wp_region_qS (by kernel_rfl) [.c (.pointer (some ⟨w.heap.size + 1 + 1, 2, none⟩)), .c (.bool true)] ?hs ?hf
    case hs =>
      intro listed vals a1 v2 io oo hg zR zF zo zD
      have Hc3 : blk v2 (w.heap.size + 1 + 1) = ptA p2 (x2) n2 q2 (y2) m2 true := (hg.blk _ c3.p).trans c3.h
      have Kc3_2 : v2.cell? ⟨w.heap.size + 1 + 1, 2, none⟩ = some (.bool true) := by rw [cell_blk, Hc3]; rfl
      have zi : io < 2 := by simpa using (Array.getElem?_eq_some_iff.1 zo).1
      obtain rfl | rfl : io = 0 ∨ io = 1 := by omega
      · obtain rfl := Option.some.inj zo
        have f0 := zF.old (s := 5) (v := .pointer (some ⟨w.heap.size + 1 + 1, 0, none⟩)) (by kernel_rfl) rfl
        refine Or.inl ⟨wanted_no rfl, ?_⟩
        exact wp_val (.pointer (some ⟨w.heap.size + 1 + 1, 2, none⟩)) (by simp [go_sem, f0]) ⟨_, rfl, Gr.refl _, rfl⟩
      · obtain rfl := Option.some.inj zo
        have l0 := on_of zD 0 (by kernel_rfl)
        have f0 := zF.at (s := 18) (i := 0) (by kernel_rfl) (by simp) l0
        have e0 : vals 0 = .pointer (some ⟨w.heap.size + 1 + 1, 2, none⟩) := zR 0 l0
        rw [e0] at f0
        refine Or.inl ⟨wanted_no rfl, ?_⟩
        exact wp_val (.bool true) (by simp [go_sem, f0, Kc3_2]) ⟨_, rfl, Gr.refl _, rfl⟩
    case hf =>
      intro vals v2 hg zR
      have e3_0 : vals 0 = .pointer (some ⟨w.heap.size + 1 + 1, 2, none⟩) := zR 0 (by simp)
      have e3_1 : vals 1 = .bool true := zR 1 (by simp)
      simp only [putFrom, Act.put, List.setIfInBounds_toArray, List.set_cons_zero, List.set_cons_succ, e3_0, e3_1]
      clear zR e3_0 e3_1
      replace G := G.trans hg
      replace c1 := c1.gr hg
      replace c2 := c2.gr hg
      replace c3 := c3.gr hg
      replace c4 := c4.gr hg
      replace HQ := fun k => (HQ k).gr hg
      replace Sx1 := Sx1.gr hg
      replace Sy1 := Sy1.gr hg
      replace Sx2 := Sx2.gr hg
      replace Sy2 := Sy2.gr hg
      clear hg
      go_upto_region 4 with fail
      refine wp_region_qTS (by kernel_rfl) 1 (by kernel_rfl) [.c (.agg (ptA p1 (x1) n1 q1 (y1) m1 false))] ?hs ?hf
      case hs =>
        intro listed vals a1 v3 io oo hg zR zF zo zi zD
        have Hc2 : blk v3 (w.heap.size + 1) = ptA p1 (x1) n1 q1 (y1) m1 false := (hg.blk _ c2.p).trans c2.h
        obtain rfl : io = 0 := by omega
        · obtain rfl := Option.some.inj zo
          have f0 := zF.old (s := 4) (v := .pointer (some ⟨w.heap.size + 1, 0, none⟩)) (by kernel_rfl) rfl
          refine Or.inl ⟨wanted_no rfl, ?_⟩
          exact wp_val (.agg (ptA p1 (x1) n1 q1 (y1) m1 false)) (by simp [go_sem, f0, Hc2]) ⟨_, rfl, Gr.refl _, rfl⟩
      case hf =>
        intro listed vals a1 v3 oo hg zR zF zA zo
        obtain rfl := Option.some.inj zo
        have f0 := zF.old (s := 6) (v := .pointer (some ⟨w.heap.size + 1 + 1 + 1, 0, none⟩)) (by kernel_rfl) rfl
        have l4_0 := zA 0 (by decide)
        have f4_0 := zF.at (s := 20) (i := 0) (by kernel_rfl) (by simp) l4_0
        have e4_0 : vals 0 = .agg (ptA p1 (x1) n1 q1 (y1) m1 false) := zR 0 (by decide)
        rw [e4_0] at f4_0
        have HT := (c4.gr hg).h
        have FT := (c4.gr hg).f
        refine wp_skip (w' := setBlk v3 (w.heap.size + 1 + 1 + 1) (ptA p1 (x1) n1 q1 (y1) m1 false)) (by simp [go_sem, f0, f4_0, HT, FT]) ⟨rfl, ?_⟩
        simp only [putFrom, Act.put, List.setIfInBounds_toArray, List.set_cons_zero, List.set_cons_succ, e4_0]
        clear zR zF zA e4_0
        replace G := G.trans hg
        replace c1 := c1.gr hg
        replace c2 := c2.gr hg
        replace c3 := c3.gr hg
        replace c4 := c4.gr hg
        replace HQ := fun k => (HQ k).gr hg
        replace Sx1 := Sx1.gr hg
        replace Sy1 := Sy1.gr hg
        replace Sx2 := Sx2.gr hg
        replace Sy2 := Sy2.gr hg
        clear hg
        go_wp2_with fail
        exact bodyPost_ret (res_one Try.results43 (rd_pt _ _ _ _ _ _ _ (by rfl) (blk_setBlk _ _ _ (by rw [HT]; decide)))) rfl ⟨_, rfl, ⟨_, _, _, _, rfl, Sl.set Sx1 (by rw [HT]; exact ptA_no _ _ _ _ _ _ _), Sl.set Sy1 (by rw [HT]; exact ptA_no _ _ _ _ _ _ _)⟩, gr_setNew G (by omega)⟩
set_option maxRecDepth 100000 in
set_option maxHeartbeats 4000000 in
theorem rplus_op (id : Int) (P A B N X Y : Nat) (qc : Nat → Option Addr × Nat) (x y1 y2 : Nat) (hd : dl P ≤ 400) (lx : x < P) (ly1 : y1 < P) (ly2 : y2 < P) (hy : y1 ≠ y2) (p1 q1 : Option Addr) (n1 m1 : Nat) (p2 q2 : Option Addr) (n2 m2 : Nat)  (w : World) (HQ : ∀ k, Sl w (qc k).1 (six P A B N X Y k)) (Sx1 : Sl w p1 x) (Sy1 : Sl w q1 y1) (Sx2 : Sl w p2 x) (Sy2 : Sl w q2 y2) :
    Calls Try.prog 43 #[.agg (crA id (six P A B N X Y) qc), .agg (ptA p1 (x) n1 q1 (y1) m1 false), .agg (ptA p2 (x) n2 q2 (y2) m2 false)] w (Rt (.pt 0 0 true) w) := by
  obtain ⟨zz, ez⟩ : ∃ z, cmpZ y1 y2 = z := ⟨_, rfl⟩
  have bz : (zz != 0) = true := by rw [bne, ← ez, cmpZ_nought, decide_eq_false hy]; rfl
  go_enter Try.func43, Try.ntmps43
  go_upto_region 1 with fail
  refine gen_w (fun v => Gr w v ∧ Vr v (w.heap.size) (crA id (six P A B N X Y) qc) ∧ Vr v (w.heap.size + 1) (ptA p1 (x) n1 q1 (y1) m1 false) ∧ Vr v (w.heap.size + 1 + 1) (ptA p2 (x) n2 q2 (y2) m2 false) ∧ Vr v (w.heap.size + 1 + 1 + 1) (ptA none 0 0 none 0 0 false)) ⟨(by repeat (first | exact Gr.refl _ | apply Gr.drewN | apply Gr.drew | apply Gr.alloc | apply Gr.gro)), ⟨by simp [go_sem], by simp [go_sem], by simp [go_sem]⟩, ⟨by simp [go_sem], by simp [go_sem], by simp [go_sem]⟩, ⟨by simp [go_sem], by simp [go_sem], by simp [go_sem]⟩, ⟨by simp [go_sem], by simp [go_sem], by simp [go_sem]⟩⟩ ?_
  rintro v0 ⟨G, c1, c2, c3, c4⟩
  replace HQ := fun k => (HQ k).gr G
  replace Sx1 := Sx1.gr G
  replace Sy1 := Sy1.gr G
  replace Sx2 := Sx2.gr G
  replace Sy2 := Sy2.gr G
  refine wp_region_qS (by kernel_rfl) [.c (.pointer (some ⟨w.heap.size + 1, 2, none⟩)), .c (.bool false)] ?hs ?hf
  case hs =>
    intro listed vals a1 v1 io oo hg zR zF zo zD
    have Hc2 : blk v1 (w.heap.size + 1) = ptA p1 (x) n1 q1 (y1) m1 false := (hg.blk _ c2.p).trans c2.h
    have Kc2_2 : v1.cell? ⟨w.heap.size + 1, 2, none⟩ = some (.bool false) := by rw [cell_blk, Hc2]; rfl
    have zi : io < 2 := by simpa using (Array.getElem?_eq_some_iff.1 zo).1
    obtain rfl | rfl : io = 0 ∨ io = 1 := by omega
    · obtain rfl := Option.some.inj zo
      have f0 := zF.old (s := 4) (v := .pointer (some ⟨w.heap.size + 1, 0, none⟩)) (by kernel_rfl) rfl
      refine Or.inl ⟨wanted_no rfl, ?_⟩
      exact wp_val (.pointer (some ⟨w.heap.size + 1, 2, none⟩)) (by simp [go_sem, f0]) ⟨_, rfl, Gr.refl _, rfl⟩
    · obtain rfl := Option.some.inj zo
      have l0 := on_of zD 0 (by kernel_rfl)
      have f0 := zF.at (s := 15) (i := 0) (by kernel_rfl) (by simp) l0
      have e0 : vals 0 = .pointer (some ⟨w.heap.size + 1, 2, none⟩) := zR 0 l0
      rw [e0] at f0
      refine Or.inl ⟨wanted_no rfl, ?_⟩
      exact wp_val (.bool false) (by simp [go_sem, f0, Kc2_2]) ⟨_, rfl, Gr.refl _, rfl⟩
  case hf =>
    intro vals v1 hg zR
    have e1_0 : vals 0 = .pointer (some ⟨w.heap.size + 1, 2, none⟩) := zR 0 (by simp)
    have e1_1 : vals 1 = .bool false := zR 1 (by simp)
    simp only [putFrom, Act.put, List.setIfInBounds_toArray, List.set_cons_zero, List.set_cons_succ, e1_0, e1_1]
    clear zR e1_0 e1_1
    replace G := G.trans hg
    replace c1 := c1.gr hg
    replace c2 := c2.gr hg
    replace c3 := c3.gr hg
    replace c4 := c4.gr hg
    replace HQ := fun k => (HQ k).gr hg
    replace Sx1 := Sx1.gr hg
    replace Sy1 := Sy1.gr hg
    replace Sx2 := Sx2.gr hg
    replace Sy2 := Sy2.gr hg
    clear hg
    go_upto_region 3 with fail
    refine wp_region_qS (by kernel_rfl) [.c (.pointer (some ⟨w.heap.size + 1 + 1, 2, none⟩)), .c (.bool false)] ?hs ?hf
    case hs =>
      intro listed vals a1 v2 io oo hg zR zF zo zD
      have Hc3 : blk v2 (w.heap.size + 1 + 1) = ptA p2 (x) n2 q2 (y2) m2 false := (hg.blk _ c3.p).trans c3.h
      have Kc3_2 : v2.cell? ⟨w.heap.size + 1 + 1, 2, none⟩ = some (.bool false) := by rw [cell_blk, Hc3]; rfl
      have zi : io < 2 := by simpa using (Array.getElem?_eq_some_iff.1 zo).1
      obtain rfl | rfl : io = 0 ∨ io = 1 := by omega
      · obtain rfl := Option.some.inj zo
        have f0 := zF.old (s := 5) (v := .pointer (some ⟨w.heap.size + 1 + 1, 0, none⟩)) (by kernel_rfl) rfl
        refine Or.inl ⟨wanted_no rfl, ?_⟩
        exact wp_val (.pointer (some ⟨w.heap.size + 1 + 1, 2, none⟩)) (by simp [go_sem, f0]) ⟨_, rfl, Gr.refl _, rfl⟩
      · obtain rfl := Option.some.inj zo
        have l0 := on_of zD 0 (by kernel_rfl)
        have f0 := zF.at (s := 18) (i := 0) (by kernel_rfl) (by simp) l0
        have e0 : vals 0 = .pointer (some ⟨w.heap.size + 1 + 1, 2, none⟩) := zR 0 l0
        rw [e0] at f0
        refine Or.inl ⟨wanted_no rfl, ?_⟩
        exact wp_val (.bool false) (by simp [go_sem, f0, Kc3_2]) ⟨_, rfl, Gr.refl _, rfl⟩
    case hf =>
      intro vals v2 hg zR
      have e3_0 : vals 0 = .pointer (some ⟨w.heap.size + 1 + 1, 2, none⟩) := zR 0 (by simp)
      have e3_1 : vals 1 = .bool false := zR 1 (by simp)
      simp only [putFrom, Act.put, List.setIfInBounds_toArray, List.set_cons_zero, List.set_cons_succ, e3_0, e3_1]
      clear zR e3_0 e3_1
      replace G := G.trans hg
      replace c1 := c1.gr hg
      replace c2 := c2.gr hg
      replace c3 := c3.gr hg
      replace c4 := c4.gr hg
      replace HQ := fun k => (HQ k).gr hg
      replace Sx1 := Sx1.gr hg
      replace Sy1 := Sy1.gr hg
      replace Sx2 := Sx2.gr hg
      replace Sy2 := Sy2.gr hg
      clear hg
      go_upto_region 5 with fail
      refine wp_region_qS (by kernel_rfl) [.c (.slice none 0 0), .c (.slice none 0 0)] ?hs ?hf
      case hs =>
        intro listed vals a1 v3 io oo hg zR zF zo zD
        have zi : io < 2 := by simpa using (Array.getElem?_eq_some_iff.1 zo).1
        obtain rfl | rfl : io = 0 ∨ io = 1 := by omega
        · obtain rfl := Option.some.inj zo
          refine Or.inl ⟨wanted_no rfl, ?_⟩
          exact wp_val (.slice none 0 0) (by simp [go_sem]) ⟨_, rfl, Gr.refl _, rfl⟩
        · obtain rfl := Option.some.inj zo
          refine Or.inl ⟨wanted_no rfl, ?_⟩
          exact wp_val (.slice none 0 0) (by simp [go_sem]) ⟨_, rfl, Gr.refl _, rfl⟩
      case hf =>
        intro vals v3 hg zR
        have e5_0 : vals 0 = .slice none 0 0 := zR 0 (by simp)
        have e5_1 : vals 1 = .slice none 0 0 := zR 1 (by simp)
        simp only [putFrom, Act.put, List.setIfInBounds_toArray, List.set_cons_zero, List.set_cons_succ, e5_0, e5_1]
        clear zR e5_0 e5_1
        replace G := G.trans hg
        replace c1 := c1.gr hg
        replace c2 := c2.gr hg
        replace c3 := c3.gr hg
        replace c4 := c4.gr hg
        replace HQ := fun k => (HQ k).gr hg
        replace Sx1 := Sx1.gr hg
        replace Sy1 := Sy1.gr hg
        replace Sx2 := Sx2.gr hg
        replace Sy2 := Sy2.gr hg
        clear hg
        go_upto_region 6 with fail
        refine wp_region_qS (by kernel_rfl) [.c (.pointer (some ⟨w.heap.size + 1, 0, none⟩)), .c (.slice p1 (dl (x)) n1), .c (.pointer (some ⟨w.heap.size + 1 + 1, 0, none⟩)), .c (.slice p2 (dl (x)) n2), .c (.int .i64 0), .c (.bool true)] ?hs ?hf
        case hs =>
          intro listed vals a1 v4 io oo hg zR zF zo zD
          have Hc2 : blk v4 (w.heap.size + 1) = ptA p1 (x) n1 q1 (y1) m1 false := (hg.blk _ c2.p).trans c2.h
          have Kc2_0 : v4.cell? ⟨w.heap.size + 1, 0, none⟩ = some (.slice p1 (dl (x)) n1) := by rw [cell_blk, Hc2]; rfl
          have Hc3 : blk v4 (w.heap.size + 1 + 1) = ptA p2 (x) n2 q2 (y2) m2 false := (hg.blk _ c3.p).trans c3.h
          have Kc3_0 : v4.cell? ⟨w.heap.size + 1 + 1, 0, none⟩ = some (.slice p2 (dl (x)) n2) := by rw [cell_blk, Hc3]; rfl
          have zi : io < 6 := by simpa using (Array.getElem?_eq_some_iff.1 zo).1
          obtain rfl | rfl | rfl | rfl | rfl | rfl : io = 0 ∨ io = 1 ∨ io = 2 ∨ io = 3 ∨ io = 4 ∨ io = 5 := by omega
          · obtain rfl := Option.some.inj zo
            have f0 := zF.old (s := 4) (v := .pointer (some ⟨w.heap.size + 1, 0, none⟩)) (by kernel_rfl) rfl
            refine Or.inl ⟨wanted_no rfl, ?_⟩
            exact wp_val (.pointer (some ⟨w.heap.size + 1, 0, none⟩)) (by simp [go_sem, f0]) ⟨_, rfl, Gr.refl _, rfl⟩
          · obtain rfl := Option.some.inj zo
            have l0 := on_of zD 0 (by kernel_rfl)
            have f0 := zF.at (s := 21) (i := 0) (by kernel_rfl) (by simp) l0
            have e0 : vals 0 = .pointer (some ⟨w.heap.size + 1, 0, none⟩) := zR 0 l0
            rw [e0] at f0
            refine Or.inl ⟨wanted_no rfl, ?_⟩
            exact wp_val (.slice p1 (dl (x)) n1) (by simp [go_sem, f0, Kc2_0]) ⟨_, rfl, Gr.refl _, rfl⟩
          · obtain rfl := Option.some.inj zo
            have f0 := zF.old (s := 5) (v := .pointer (some ⟨w.heap.size + 1 + 1, 0, none⟩)) (by kernel_rfl) rfl
            refine Or.inl ⟨wanted_no rfl, ?_⟩
            exact wp_val (.pointer (some ⟨w.heap.size + 1 + 1, 0, none⟩)) (by simp [go_sem, f0]) ⟨_, rfl, Gr.refl _, rfl⟩
          · obtain rfl := Option.some.inj zo
            have l0 := on_of zD 2 (by kernel_rfl)
            have f0 := zF.at (s := 23) (i := 2) (by kernel_rfl) (by simp) l0
            have e0 : vals 2 = .pointer (some ⟨w.heap.size + 1 + 1, 0, none⟩) := zR 2 l0
            rw [e0] at f0
            refine Or.inl ⟨wanted_no rfl, ?_⟩
            exact wp_val (.slice p2 (dl (x)) n2) (by simp [go_sem, f0, Kc3_0]) ⟨_, rfl, Gr.refl _, rfl⟩
          · obtain rfl := Option.some.inj zo
            have l0 := on_of zD 1 (by kernel_rfl)
            have f0 := zF.at (s := 22) (i := 1) (by kernel_rfl) (by simp) l0
            have e0 : vals 1 = .slice p1 (dl (x)) n1 := zR 1 l0
            rw [e0] at f0
            have l1 := on_of zD 3 (by kernel_rfl)
            have f1 := zF.at (s := 24) (i := 3) (by kernel_rfl) (by simp) l1
            have e1 : vals 3 = .slice p2 (dl (x)) n2 := zR 3 l1
            rw [e1] at f1
            refine Or.inl ⟨wanted_no rfl, ?_⟩
            exact wp_retz (k := .c (.int .i64 0)) (by simp [go_sem, f0, f1]) (show Calls Try.prog 26 #[.slice p1 (dl (x)) n1, .slice p2 (dl (x)) n2] v4 (Rt (.c (.int .i64 0)) v4) from cz_any (Sx1.gr hg) (Sx2.gr hg) (dl_low _ P 400 (by omega) hd) (dl_low _ P 400 (by omega) hd) (by unfold cmpZ; simp)) (fun u w2 hu hg2 => ⟨_, rfl, hg2, hu⟩)
          · obtain rfl := Option.some.inj zo
            have l0 := on_of zD 4 (by kernel_rfl)
            have f0 := zF.at (s := 25) (i := 4) (by kernel_rfl) (by simp) l0
            have e0 : vals 4 = .int .i64 0 := zR 4 l0
            rw [e0] at f0
            refine Or.inl ⟨wanted_no rfl, ?_⟩
            exact wp_val (.bool true) (by simp [go_sem, f0]) ⟨_, rfl, Gr.refl _, rfl⟩
        case hf =>
          intro vals v4 hg zR
          have e6_0 : vals 0 = .pointer (some ⟨w.heap.size + 1, 0, none⟩) := zR 0 (by simp)
          have e6_1 : vals 1 = .slice p1 (dl (x)) n1 := zR 1 (by simp)
          have e6_2 : vals 2 = .pointer (some ⟨w.heap.size + 1 + 1, 0, none⟩) := zR 2 (by simp)
          have e6_3 : vals 3 = .slice p2 (dl (x)) n2 := zR 3 (by simp)
          have e6_4 : vals 4 = .int .i64 0 := zR 4 (by simp)
          have e6_5 : vals 5 = .bool true := zR 5 (by simp)
          simp only [putFrom, Act.put, List.setIfInBounds_toArray, List.set_cons_zero, List.set_cons_succ, e6_0, e6_1, e6_2, e6_3, e6_4, e6_5]
          clear zR e6_0 e6_1 e6_2 e6_3 e6_4 e6_5
          replace G := G.trans hg
          replace c1 := c1.gr hg
          replace c2 := c2.gr hg
          replace c3 := c3.gr hg
          replace c4 := c4.gr hg
          replace HQ := fun k => (HQ k).gr hg
          replace Sx1 := Sx1.gr hg
          replace Sy1 := Sy1.gr hg
          replace Sx2 := Sx2.gr hg
          replace Sy2 := Sy2.gr hg
          clear hg
          go_upto_region 7 with fail
          refine wp_region_qS (by kernel_rfl) [.c (.pointer (some ⟨w.heap.size + 1, 1, none⟩)), .c (.slice q1 (dl (y1)) m1), .c (.pointer (some ⟨w.heap.size + 1 + 1, 1, none⟩)), .c (.slice q2 (dl (y2)) m2), .c (.int .i64 zz), .c (.bool true), .c (.bool true), .top, .top, .top, .top, .c (.bool true)] ?hs ?hf
          case hs =>
            intro listed vals a1 v5 io oo hg zR zF zo zD
            have Hc2 : blk v5 (w.heap.size + 1) = ptA p1 (x) n1 q1 (y1) m1 false := (hg.blk _ c2.p).trans c2.h
            have Kc2_1 : v5.cell? ⟨w.heap.size + 1, 1, none⟩ = some (.slice q1 (dl (y1)) m1) := by rw [cell_blk, Hc2]; rfl
            have Hc3 : blk v5 (w.heap.size + 1 + 1) = ptA p2 (x) n2 q2 (y2) m2 false := (hg.blk _ c3.p).trans c3.h
            have Kc3_1 : v5.cell? ⟨w.heap.size + 1 + 1, 1, none⟩ = some (.slice q2 (dl (y2)) m2) := by rw [cell_blk, Hc3]; rfl
            have zi : io < 12 := by simpa using (Array.getElem?_eq_some_iff.1 zo).1
            obtain rfl | rfl | rfl | rfl | rfl | rfl | rfl | rfl | rfl | rfl | rfl | rfl : io = 0 ∨ io = 1 ∨ io = 2 ∨ io = 3 ∨ io = 4 ∨ io = 5 ∨ io = 6 ∨ io = 7 ∨ io = 8 ∨ io = 9 ∨ io = 10 ∨ io = 11 := by omega
            · obtain rfl := Option.some.inj zo
              have f0 := zF.old (s := 4) (v := .pointer (some ⟨w.heap.size + 1, 0, none⟩)) (by kernel_rfl) rfl
              refine Or.inl ⟨wanted_no rfl, ?_⟩
              exact wp_val (.pointer (some ⟨w.heap.size + 1, 1, none⟩)) (by simp [go_sem, f0]) ⟨_, rfl, Gr.refl _, rfl⟩
            · obtain rfl := Option.some.inj zo
              have l0 := on_of zD 0 (by kernel_rfl)
              have f0 := zF.at (s := 27) (i := 0) (by kernel_rfl) (by simp) l0
              have e0 : vals 0 = .pointer (some ⟨w.heap.size + 1, 1, none⟩) := zR 0 l0
              rw [e0] at f0
              refine Or.inl ⟨wanted_no rfl, ?_⟩
              exact wp_val (.slice q1 (dl (y1)) m1) (by simp [go_sem, f0, Kc2_1]) ⟨_, rfl, Gr.refl _, rfl⟩
            · obtain rfl := Option.some.inj zo
              have f0 := zF.old (s := 5) (v := .pointer (some ⟨w.heap.size + 1 + 1, 0, none⟩)) (by kernel_rfl) rfl
              refine Or.inl ⟨wanted_no rfl, ?_⟩
              exact wp_val (.pointer (some ⟨w.heap.size + 1 + 1, 1, none⟩)) (by simp [go_sem, f0]) ⟨_, rfl, Gr.refl _, rfl⟩
            · obtain rfl := Option.some.inj zo
              have l0 := on_of zD 2 (by kernel_rfl)
              have f0 := zF.at (s := 29) (i := 2) (by kernel_rfl) (by simp) l0
              have e0 : vals 2 = .pointer (some ⟨w.heap.size + 1 + 1, 1, none⟩) := zR 2 l0
              rw [e0] at f0
              refine Or.inl ⟨wanted_no rfl, ?_⟩
              exact wp_val (.slice q2 (dl (y2)) m2) (by simp [go_sem, f0, Kc3_1]) ⟨_, rfl, Gr.refl _, rfl⟩
            · obtain rfl := Option.some.inj zo
              have l0 := on_of zD 1 (by kernel_rfl)
              have f0 := zF.at (s := 28) (i := 1) (by kernel_rfl) (by simp) l0
              have e0 : vals 1 = .slice q1 (dl (y1)) m1 := zR 1 l0
              rw [e0] at f0
              have l1 := on_of zD 3 (by kernel_rfl)
              have f1 := zF.at (s := 30) (i := 3) (by kernel_rfl) (by simp) l1
              have e1 : vals 3 = .slice q2 (dl (y2)) m2 := zR 3 l1
              rw [e1] at f1
              refine Or.inl ⟨wanted_no rfl, ?_⟩
              exact wp_retz (k := .c (.int .i64 zz)) (by simp [go_sem, f0, f1]) (show Calls Try.prog 26 #[.slice q1 (dl (y1)) m1, .slice q2 (dl (y2)) m2] v5 (Rt (.c (.int .i64 zz)) v5) from cz_any (Sy1.gr hg) (Sy2.gr hg) (dl_low _ P 400 (by omega) hd) (dl_low _ P 400 (by omega) hd) ez) (fun u w2 hu hg2 => ⟨_, rfl, hg2, hu⟩)
            · obtain rfl := Option.some.inj zo
              have l0 := on_of zD 4 (by kernel_rfl)
              have f0 := zF.at (s := 31) (i := 4) (by kernel_rfl) (by simp) l0
              have e0 : vals 4 = .int .i64 zz := zR 4 l0
              rw [e0] at f0
              refine Or.inl ⟨wanted_no rfl, ?_⟩
              exact wp_val (.bool true) (by simp [go_sem, f0, bz]) ⟨_, rfl, Gr.refl _, rfl⟩
            · obtain rfl := Option.some.inj zo
              have l0 := on_of zD 5 (by kernel_rfl)
              have f0 := zF.at (s := 32) (i := 5) (by kernel_rfl) (by simp) l0
              have e0 : vals 5 = .bool true := zR 5 l0
              rw [e0] at f0
              refine Or.inl ⟨wanted_no rfl, ?_⟩
              exact wp_val (.bool true) (by simp [go_sem, f0]) ⟨_, rfl, Gr.refl _, rfl⟩
            · obtain rfl := Option.some.inj zo
              have lg := on_of zD 6 (by kernel_rfl)
              have fg := zF.at (s := 33) (i := 6) (by kernel_rfl) (by simp) lg
              rw [show vals 6 = .bool true from zR 6 lg] at fg
              exact Or.inr ⟨unwanted_at (j := 6) (s := 33) rfl rfl rfl fg (by decide), trivial⟩
            · obtain rfl := Option.some.inj zo
              have lg := on_of zD 6 (by kernel_rfl)
              have fg := zF.at (s := 33) (i := 6) (by kernel_rfl) (by simp) lg
              rw [show vals 6 = .bool true from zR 6 lg] at fg
              exact Or.inr ⟨unwanted_at (j := 6) (s := 33) rfl rfl rfl fg (by decide), trivial⟩
            · obtain rfl := Option.some.inj zo
              have lg := on_of zD 6 (by kernel_rfl)
              have fg := zF.at (s := 33) (i := 6) (by kernel_rfl) (by simp) lg
              rw [show vals 6 = .bool true from zR 6 lg] at fg
              exact Or.inr ⟨unwanted_at (j := 6) (s := 33) rfl rfl rfl fg (by decide), trivial⟩
            · obtain rfl := Option.some.inj zo
              have lg := on_of zD 6 (by kernel_rfl)
              have fg := zF.at (s := 33) (i := 6) (by kernel_rfl) (by simp) lg
              rw [show vals 6 = .bool true from zR 6 lg] at fg
              exact Or.inr ⟨unwanted_at (j := 6) (s := 33) rfl rfl rfl fg (by decide), trivial⟩
            · obtain rfl := Option.some.inj zo
              have l0 := on_of zD 6 (by kernel_rfl)
              have f0 := zF.at (s := 33) (i := 6) (by kernel_rfl) (by simp) l0
              have e0 : vals 6 = .bool true := zR 6 l0
              rw [e0] at f0
              have l1 := on_of zD 10 (by kernel_rfl)
              have f1 := zF.at (s := 37) (i := 10) (by kernel_rfl) (by simp) l1
              refine Or.inl ⟨wanted_no rfl, ?_⟩
              exact wp_val (.bool true) (by simp [go_sem, f0, f1]) ⟨_, rfl, Gr.refl _, rfl⟩
          case hf =>
            intro vals v5 hg zR
            have e7_0 : vals 0 = .pointer (some ⟨w.heap.size + 1, 1, none⟩) := zR 0 (by simp)
            have e7_1 : vals 1 = .slice q1 (dl (y1)) m1 := zR 1 (by simp)
            have e7_2 : vals 2 = .pointer (some ⟨w.heap.size + 1 + 1, 1, none⟩) := zR 2 (by simp)
            have e7_3 : vals 3 = .slice q2 (dl (y2)) m2 := zR 3 (by simp)
            have e7_4 : vals 4 = .int .i64 zz := zR 4 (by simp)
            have e7_5 : vals 5 = .bool true := zR 5 (by simp)
            have e7_6 : vals 6 = .bool true := zR 6 (by simp)
            have e7_11 : vals 11 = .bool true := zR 11 (by simp)
            simp only [putFrom, Act.put, List.setIfInBounds_toArray, List.set_cons_zero, List.set_cons_succ, e7_0, e7_1, e7_2, e7_3, e7_4, e7_5, e7_6, e7_11]
            clear zR e7_0 e7_1 e7_2 e7_3 e7_4 e7_5 e7_6 e7_11
            replace G := G.trans hg
            replace c1 := c1.gr hg
            replace c2 := c2.gr hg
            replace c3 := c3.gr hg
            replace c4 := c4.gr hg
            replace HQ := fun k => (HQ k).gr hg
            replace Sx1 := Sx1.gr hg
            replace Sy1 := Sy1.gr hg
            replace Sx2 := Sx2.gr hg
            replace Sy2 := Sy2.gr hg
            clear hg
            go_upto_region 8 with fail
            refine wp_region_qTS (by kernel_rfl) 1 (by kernel_rfl) [.pt (0) (0) true] ?hs ?hf
            case hs =>
              intro listed vals a1 v6 io oo hg zR zF zo zi zD
              obtain rfl : io = 0 := by omega
              · obtain rfl := Option.some.inj zo
                refine Or.inl ⟨wanted_no rfl, ?_⟩
                exact wp_val (.agg (ptA none (0) 0 none (0) 0 true)) (by simp [go_sem]) ⟨_, rfl, Gr.refl _, ⟨_, _, _, _, rfl, Sl.zero _ _, Sl.zero _ _⟩⟩
            case hf =>
              intro listed vals a1 v6 oo hg zR zF zA zo
              obtain rfl := Option.some.inj zo
              have f0 := zF.old (s := 6) (v := .pointer (some ⟨w.heap.size + 1 + 1 + 1, 0, none⟩)) (by kernel_rfl) rfl
              have l8_0 := zA 0 (by decide)
              have f8_0 := zF.at (s := 39) (i := 0) (by kernel_rfl) (by simp) l8_0
              obtain ⟨p8_0, n8_0, q8_0, k8_0, e8_0, S8_0, T8_0⟩ := (show ∃ p n q k, vals 0 = .agg (ptA p (0) n q (0) k true) ∧ Sl v6 p (0) ∧ Sl v6 q (0) from zR 0 (by decide))
              rw [e8_0] at f8_0
              have HT := (c4.gr hg).h
              have FT := (c4.gr hg).f
              refine wp_skip (w' := setBlk v6 (w.heap.size + 1 + 1 + 1) (ptA p8_0 (0) n8_0 q8_0 (0) k8_0 true)) (by simp [go_sem, f0, f8_0, HT, FT]) ⟨rfl, ?_⟩
              simp only [putFrom, Act.put, List.setIfInBounds_toArray, List.set_cons_zero, List.set_cons_succ, e8_0]
              clear zR zF zA e8_0
              replace G := G.trans hg
              replace c1 := c1.gr hg
              replace c2 := c2.gr hg
              replace c3 := c3.gr hg
              replace c4 := c4.gr hg
              replace HQ := fun k => (HQ k).gr hg
              replace Sx1 := Sx1.gr hg
              replace Sy1 := Sy1.gr hg
              replace Sx2 := Sx2.gr hg
              replace Sy2 := Sy2.gr hg
              clear hg
              go_wp2_with fail
              exact bodyPost_ret (res_one Try.results43 (rd_pt _ _ _ _ _ _ _ (by rfl) (blk_setBlk _ _ _ (by rw [HT]; decide)))) rfl ⟨_, rfl, ⟨_, _, _, _, rfl, Sl.set S8_0 (by rw [HT]; exact ptA_no _ _ _ _ _ _ _), Sl.set T8_0 (by rw [HT]; exact ptA_no _ _ _ _ _ _ _)⟩, gr_setNew G (by omega)⟩
set_option maxRecDepth 100000 in
set_option maxHeartbeats 4000000 in
theorem rplus_flat (id : Int) (P A B N X Y : Nat) (qc : Nat → Option Addr × Nat) (x : Nat) (hd : dl P ≤ 400) (lx : x < P) (p1 q1 : Option Addr) (n1 m1 : Nat) (p2 q2 : Option Addr) (n2 m2 : Nat)  (w : World) (HQ : ∀ k, Sl w (qc k).1 (six P A B N X Y k)) (Sx1 : Sl w p1 x) (Sy1 : Sl w q1 0) (Sx2 : Sl w p2 x) (Sy2 : Sl w q2 0) :
    Calls Try.prog 43 #[.agg (crA id (six P A B N X Y) qc), .agg (ptA p1 (x) n1 q1 (0) m1 false), .agg (ptA p2 (x) n2 q2 (0) m2 false)] w (Rt (.pt 0 0 true) w) := by
  go_enter Try.func43, Try.ntmps43
  go_upto_region 1 with fail
  refine gen_w (fun v => Gr w v ∧ Vr v (w.heap.size) (crA id (six P A B N X Y) qc) ∧ Vr v (w.heap.size + 1) (ptA p1 (x) n1 q1 (0) m1 false) ∧ Vr v (w.heap.size + 1 + 1) (ptA p2 (x) n2 q2 (0) m2 false) ∧ Vr v (w.heap.size + 1 + 1 + 1) (ptA none 0 0 none 0 0 false)) ⟨(by repeat (first | exact Gr.refl _ | apply Gr.drewN | apply Gr.drew | apply Gr.alloc | apply Gr.gro)), ⟨by simp [go_sem], by simp [go_sem], by simp [go_sem]⟩, ⟨by simp [go_sem], by simp [go_sem], by simp [go_sem]⟩, ⟨by simp [go_sem], by simp [go_sem], by simp [go_sem]⟩, ⟨by simp [go_sem], by simp [go_sem], by simp [go_sem]⟩⟩ ?_
  rintro v0 ⟨G, c1, c2, c3, c4⟩
  replace HQ := fun k => (HQ k).gr G
  replace Sx1 := Sx1.gr G
  replace Sy1 := Sy1.gr G
  replace Sx2 := Sx2.gr G
  replace Sy2 := Sy2.gr G
  refine wp_region_qS (by kernel_rfl) [.c (.pointer (some ⟨w.heap.size + 1, 2, none⟩)), .c (.bool false)] ?hs ?hf
  case hs =>
    intro listed vals a1 v1 io oo hg zR zF zo zD
    have Hc2 : blk v1 (w.heap.size + 1) = ptA p1 (x) n1 q1 (0) m1 false := (hg.blk _ c2.p).trans c2.h
    have Kc2_2 : v1.cell? ⟨w.heap.size + 1, 2, none⟩ = some (.bool false) := by rw [cell_blk, Hc2]; rfl
    have zi : io < 2 := by simpa using (Array.getElem?_eq_some_iff.1 zo).1
    obtain rfl | rfl : io = 0 ∨ io = 1 := by omega
    · obtain rfl := Option.some.inj zo
      have f0 := zF.old (s := 4) (v := .pointer (some ⟨w.heap.size + 1, 0, none⟩)) (by kernel_rfl) rfl
      refine Or.inl ⟨wanted_no rfl, ?_⟩
      exact wp_val (.pointer (some ⟨w.heap.size + 1, 2, none⟩)) (by simp [go_sem, f0]) ⟨_, rfl, Gr.refl _, rfl⟩
    · obtain rfl := Option.some.inj zo
      have l0 := on_of zD 0 (by kernel_rfl)
      have f0 := zF.at (s := 15) (i := 0) (by kernel_rfl) (by simp) l0
      have e0 : vals 0 = .pointer (some ⟨w.heap.size + 1, 2, none⟩) := zR 0 l0
      rw [e0] at f0
      refine Or.inl ⟨wanted_no rfl, ?_⟩
      exact wp_val (.bool false) (by simp [go_sem, f0, Kc2_2]) ⟨_, rfl, Gr.refl _, rfl⟩
  case hf =>
    intro vals v1 hg zR
    have e1_0 : vals 0 = .pointer (some ⟨w.heap.size + 1, 2, none⟩) := zR 0 (by simp)
    have e1_1 : vals 1 = .bool false := zR 1 (by simp)
    simp only [putFrom, Act.put, List.setIfInBounds_toArray, List.set_cons_zero, List.set_cons_succ, e1_0, e1_1]
    clear zR e1_0 e1_1
    replace G := G.trans hg
    replace c1 := c1.gr hg
    replace c2 := c2.gr hg
    replace c3 := c3.gr hg
    replace c4 := c4.gr hg
    replace HQ := fun k => (HQ k).gr hg
    replace Sx1 := Sx1.gr hg
    replace Sy1 := Sy1.gr hg
    replace Sx2 := Sx2.gr hg
    replace Sy2 := Sy2.gr hg
    clear hg
    go_upto_region 3 with fail
    refine wp_region_qS (by kernel_rfl) [.c (.pointer (some ⟨w.heap.size + 1 + 1, 2, none⟩)), .c (.bool false)] ?hs ?hf
    case hs =>
      intro listed vals a1 v2 io oo hg zR zF zo zD
      have Hc3 : blk v2 (w.heap.size + 1 + 1) = ptA p2 (x) n2 q2 (0) m2 false := (hg.blk _ c3.p).trans c3.h
      have Kc3_2 : v2.cell? ⟨w.heap.size + 1 + 1, 2, none⟩ = some (.bool false) := by rw [cell_blk, Hc3]; rfl
      have zi : io < 2 := by simpa using (Array.getElem?_eq_some_iff.1 zo).1
      obtain rfl | rfl : io = 0 ∨ io = 1 := by omega
      · obtain rfl := Option.some.inj zo
        have f0 := zF.old (s := 5) (v := .pointer (some ⟨w.heap.size + 1 + 1, 0, none⟩)) (by kernel_rfl) rfl
        refine Or.inl ⟨wanted_no rfl, ?_⟩
        exact wp_val (.pointer (some ⟨w.heap.size + 1 + 1, 2, none⟩)) (by simp [go_sem, f0]) ⟨_, rfl, Gr.refl _, rfl⟩
      · obtain rfl := Option.some.inj zo
        have l0 := on_of zD 0 (by kernel_rfl)
        have f0 := zF.at (s := 18) (i := 0) (by kernel_rfl) (by simp) l0
        have e0 : vals 0 = .pointer (some ⟨w.heap.size + 1 + 1, 2, none⟩) := zR 0 l0
        rw [e0] at f0
        refine Or.inl ⟨wanted_no rfl, ?_⟩
        exact wp_val (.bool false) (by simp [go_sem, f0, Kc3_2]) ⟨_, rfl, Gr.refl _, rfl⟩
    case hf =>
      intro vals v2 hg zR
      have e3_0 : vals 0 = .pointer (some ⟨w.heap.size + 1 + 1, 2, none⟩) := zR 0 (by simp)
      have e3_1 : vals 1 = .bool false := zR 1 (by simp)
      simp only [putFrom, Act.put, List.setIfInBounds_toArray, List.set_cons_zero, List.set_cons_succ, e3_0, e3_1]
      clear zR e3_0 e3_1
      replace G := G.trans hg
      replace c1 := c1.gr hg
      replace c2 := c2.gr hg
      replace c3 := c3.gr hg
      replace c4 := c4.gr hg
      replace HQ := fun k => (HQ k).gr hg
      replace Sx1 := Sx1.gr hg
      replace Sy1 := Sy1.gr hg
      replace Sx2 := Sx2.gr hg
      replace Sy2 := Sy2.gr hg
      clear hg
      go_upto_region 5 with fail
      refine wp_region_qS (by kernel_rfl) [.c (.slice none 0 0), .c (.slice none 0 0)] ?hs ?hf
      case hs =>
        intro listed vals a1 v3 io oo hg zR zF zo zD
        have zi : io < 2 := by simpa using (Array.getElem?_eq_some_iff.1 zo).1
        obtain rfl | rfl : io = 0 ∨ io = 1 := by omega
        · obtain rfl := Option.some.inj zo
          refine Or.inl ⟨wanted_no rfl, ?_⟩
          exact wp_val (.slice none 0 0) (by simp [go_sem]) ⟨_, rfl, Gr.refl _, rfl⟩
        · obtain rfl := Option.some.inj zo
          refine Or.inl ⟨wanted_no rfl, ?_⟩
          exact wp_val (.slice none 0 0) (by simp [go_sem]) ⟨_, rfl, Gr.refl _, rfl⟩
      case hf =>
        intro vals v3 hg zR
        have e5_0 : vals 0 = .slice none 0 0 := zR 0 (by simp)
        have e5_1 : vals 1 = .slice none 0 0 := zR 1 (by simp)
        simp only [putFrom, Act.put, List.setIfInBounds_toArray, List.set_cons_zero, List.set_cons_succ, e5_0, e5_1]
        clear zR e5_0 e5_1
        replace G := G.trans hg
        replace c1 := c1.gr hg
        replace c2 := c2.gr hg
        replace c3 := c3.gr hg
        replace c4 := c4.gr hg
        replace HQ := fun k => (HQ k).gr hg
        replace Sx1 := Sx1.gr hg
        replace Sy1 := Sy1.gr hg
        replace Sx2 := Sx2.gr hg
        replace Sy2 := Sy2.gr hg
        clear hg
        go_upto_region 6 with fail
        refine wp_region_qS (by kernel_rfl) [.c (.pointer (some ⟨w.heap.size + 1, 0, none⟩)), .c (.slice p1 (dl (x)) n1), .c (.pointer (some ⟨w.heap.size + 1 + 1, 0, none⟩)), .c (.slice p2 (dl (x)) n2), .c (.int .i64 0), .c (.bool true)] ?hs ?hf
        case hs =>
          intro listed vals a1 v4 io oo hg zR zF zo zD
          have Hc2 : blk v4 (w.heap.size + 1) = ptA p1 (x) n1 q1 (0) m1 false := (hg.blk _ c2.p).trans c2.h
          have Kc2_0 : v4.cell? ⟨w.heap.size + 1, 0, none⟩ = some (.slice p1 (dl (x)) n1) := by rw [cell_blk, Hc2]; rfl
          have Hc3 : blk v4 (w.heap.size + 1 + 1) = ptA p2 (x) n2 q2 (0) m2 false := (hg.blk _ c3.p).trans c3.h
          have Kc3_0 : v4.cell? ⟨w.heap.size + 1 + 1, 0, none⟩ = some (.slice p2 (dl (x)) n2) := by rw [cell_blk, Hc3]; rfl
          have zi : io < 6 := by simpa using (Array.getElem?_eq_some_iff.1 zo).1
          obtain rfl | rfl | rfl | rfl | rfl | rfl : io = 0 ∨ io = 1 ∨ io = 2 ∨ io = 3 ∨ io = 4 ∨ io = 5 := by omega
          · obtain rfl := Option.some.inj zo
            have f0 := zF.old (s := 4) (v := .pointer (some ⟨w.heap.size + 1, 0, none⟩)) (by kernel_rfl) rfl
            refine Or.inl ⟨wanted_no rfl, ?_⟩
            exact wp_val (.pointer (some ⟨w.heap.size + 1, 0, none⟩)) (by simp [go_sem, f0]) ⟨_, rfl, Gr.refl _, rfl⟩
          · obtain rfl := Option.some.inj zo
            have l0 := on_of zD 0 (by kernel_rfl)
            have f0 := zF.at (s := 21) (i := 0) (by kernel_rfl) (by simp) l0
            have e0 : vals 0 = .pointer (some ⟨w.heap.size + 1, 0, none⟩) := zR 0 l0
            rw [e0] at f0
            refine Or.inl ⟨wanted_no rfl, ?_⟩
            exact wp_val (.slice p1 (dl (x)) n1) (by simp [go_sem, f0, Kc2_0]) ⟨_, rfl, Gr.refl _, rfl⟩
          · obtain rfl := Option.some.inj zo
            have f0 := zF.old (s := 5) (v := .pointer (some ⟨w.heap.size + 1 + 1, 0, none⟩)) (by kernel_rfl) rfl
            refine Or.inl ⟨wanted_no rfl, ?_⟩
            exact wp_val (.pointer (some ⟨w.heap.size + 1 + 1, 0, none⟩)) (by simp [go_sem, f0]) ⟨_, rfl, Gr.refl _, rfl⟩
          · obtain rfl := Option.some.inj zo
            have l0 := on_of zD 2 (by kernel_rfl)
            have f0 := zF.at (s := 23) (i := 2) (by kernel_rfl) (by simp) l0
            have e0 : vals 2 = .pointer (some ⟨w.heap.size + 1 + 1, 0, none⟩) := zR 2 l0
            rw [e0] at f0
            refine Or.inl ⟨wanted_no rfl, ?_⟩
            exact wp_val (.slice p2 (dl (x)) n2) (by simp [go_sem, f0, Kc3_0]) ⟨_, rfl, Gr.refl _, rfl⟩
          · obtain rfl := Option.some.inj zo
            have l0 := on_of zD 1 (by kernel_rfl)
            have f0 := zF.at (s := 22) (i := 1) (by kernel_rfl) (by simp) l0
            have e0 : vals 1 = .slice p1 (dl (x)) n1 := zR 1 l0
            rw [e0] at f0
            have l1 := on_of zD 3 (by kernel_rfl)
            have f1 := zF.at (s := 24) (i := 3) (by kernel_rfl) (by simp) l1
            have e1 : vals 3 = .slice p2 (dl (x)) n2 := zR 3 l1
            rw [e1] at f1
            refine Or.inl ⟨wanted_no rfl, ?_⟩
            exact wp_retz (k := .c (.int .i64 0)) (by simp [go_sem, f0, f1]) (show Calls Try.prog 26 #[.slice p1 (dl (x)) n1, .slice p2 (dl (x)) n2] v4 (Rt (.c (.int .i64 0)) v4) from cz_any (Sx1.gr hg) (Sx2.gr hg) (dl_low _ P 400 (by omega) hd) (dl_low _ P 400 (by omega) hd) (by unfold cmpZ; simp)) (fun u w2 hu hg2 => ⟨_, rfl, hg2, hu⟩)
          · obtain rfl := Option.some.inj zo
            have l0 := on_of zD 4 (by kernel_rfl)
            have f0 := zF.at (s := 25) (i := 4) (by kernel_rfl) (by simp) l0
            have e0 : vals 4 = .int .i64 0 := zR 4 l0
            rw [e0] at f0
            refine Or.inl ⟨wanted_no rfl, ?_⟩
            exact wp_val (.bool true) (by simp [go_sem, f0]) ⟨_, rfl, Gr.refl _, rfl⟩
        case hf =>
          intro vals v4 hg zR
          have e6_0 : vals 0 = .pointer (some ⟨w.heap.size + 1, 0, none⟩) := zR 0 (by simp)
          have e6_1 : vals 1 = .slice p1 (dl (x)) n1 := zR 1 (by simp)
          have e6_2 : vals 2 = .pointer (some ⟨w.heap.size + 1 + 1, 0, none⟩) := zR 2 (by simp)
          have e6_3 : vals 3 = .slice p2 (dl (x)) n2 := zR 3 (by simp)
          have e6_4 : vals 4 = .int .i64 0 := zR 4 (by simp)
          have e6_5 : vals 5 = .bool true := zR 5 (by simp)
          simp only [putFrom, Act.put, List.setIfInBounds_toArray, List.set_cons_zero, List.set_cons_succ, e6_0, e6_1, e6_2, e6_3, e6_4, e6_5]
          clear zR e6_0 e6_1 e6_2 e6_3 e6_4 e6_5
          replace G := G.trans hg
          replace c1 := c1.gr hg
          replace c2 := c2.gr hg
          replace c3 := c3.gr hg
          replace c4 := c4.gr hg
          replace HQ := fun k => (HQ k).gr hg
          replace Sx1 := Sx1.gr hg
          replace Sy1 := Sy1.gr hg
          replace Sx2 := Sx2.gr hg
          replace Sy2 := Sy2.gr hg
          clear hg
          go_upto_region 7 with fail
          refine wp_region_qS (by kernel_rfl) [.c (.pointer (some ⟨w.heap.size + 1, 1, none⟩)), .c (.slice q1 (dl (0)) m1), .c (.pointer (some ⟨w.heap.size + 1 + 1, 1, none⟩)), .c (.slice q2 (dl (0)) m2), .c (.int .i64 0), .c (.bool false), .c (.bool false), .c (.pointer (some ⟨w.heap.size + 1, 1, none⟩)), .c (.slice q1 (dl (0)) m1), .c (.int .i64 (dl (0))), .c (.bool true), .c (.bool true)] ?hs ?hf
          case hs =>
            intro listed vals a1 v5 io oo hg zR zF zo zD
            have Hc2 : blk v5 (w.heap.size + 1) = ptA p1 (x) n1 q1 (0) m1 false := (hg.blk _ c2.p).trans c2.h
            have Kc2_1 : v5.cell? ⟨w.heap.size + 1, 1, none⟩ = some (.slice q1 (dl (0)) m1) := by rw [cell_blk, Hc2]; rfl
            have Hc3 : blk v5 (w.heap.size + 1 + 1) = ptA p2 (x) n2 q2 (0) m2 false := (hg.blk _ c3.p).trans c3.h
            have Kc3_1 : v5.cell? ⟨w.heap.size + 1 + 1, 1, none⟩ = some (.slice q2 (dl (0)) m2) := by rw [cell_blk, Hc3]; rfl
            have zi : io < 12 := by simpa using (Array.getElem?_eq_some_iff.1 zo).1
            obtain rfl | rfl | rfl | rfl | rfl | rfl | rfl | rfl | rfl | rfl | rfl | rfl : io = 0 ∨ io = 1 ∨ io = 2 ∨ io = 3 ∨ io = 4 ∨ io = 5 ∨ io = 6 ∨ io = 7 ∨ io = 8 ∨ io = 9 ∨ io = 10 ∨ io = 11 := by omega
            · obtain rfl := Option.some.inj zo
              have f0 := zF.old (s := 4) (v := .pointer (some ⟨w.heap.size + 1, 0, none⟩)) (by kernel_rfl) rfl
              refine Or.inl ⟨wanted_no rfl, ?_⟩
              exact wp_val (.pointer (some ⟨w.heap.size + 1, 1, none⟩)) (by simp [go_sem, f0]) ⟨_, rfl, Gr.refl _, rfl⟩
            · obtain rfl := Option.some.inj zo
              have l0 := on_of zD 0 (by kernel_rfl)
              have f0 := zF.at (s := 27) (i := 0) (by kernel_rfl) (by simp) l0
              have e0 : vals 0 = .pointer (some ⟨w.heap.size + 1, 1, none⟩) := zR 0 l0
              rw [e0] at f0
              refine Or.inl ⟨wanted_no rfl, ?_⟩
              exact wp_val (.slice q1 (dl (0)) m1) (by simp [go_sem, f0, Kc2_1]) ⟨_, rfl, Gr.refl _, rfl⟩
            · obtain rfl := Option.some.inj zo
              have f0 := zF.old (s := 5) (v := .pointer (some ⟨w.heap.size + 1 + 1, 0, none⟩)) (by kernel_rfl) rfl
              refine Or.inl ⟨wanted_no rfl, ?_⟩
              exact wp_val (.pointer (some ⟨w.heap.size + 1 + 1, 1, none⟩)) (by simp [go_sem, f0]) ⟨_, rfl, Gr.refl _, rfl⟩
            · obtain rfl := Option.some.inj zo
              have l0 := on_of zD 2 (by kernel_rfl)
              have f0 := zF.at (s := 29) (i := 2) (by kernel_rfl) (by simp) l0
              have e0 : vals 2 = .pointer (some ⟨w.heap.size + 1 + 1, 1, none⟩) := zR 2 l0
              rw [e0] at f0
              refine Or.inl ⟨wanted_no rfl, ?_⟩
              exact wp_val (.slice q2 (dl (0)) m2) (by simp [go_sem, f0, Kc3_1]) ⟨_, rfl, Gr.refl _, rfl⟩
            · obtain rfl := Option.some.inj zo
              have l0 := on_of zD 1 (by kernel_rfl)
              have f0 := zF.at (s := 28) (i := 1) (by kernel_rfl) (by simp) l0
              have e0 : vals 1 = .slice q1 (dl (0)) m1 := zR 1 l0
              rw [e0] at f0
              have l1 := on_of zD 3 (by kernel_rfl)
              have f1 := zF.at (s := 30) (i := 3) (by kernel_rfl) (by simp) l1
              have e1 : vals 3 = .slice q2 (dl (0)) m2 := zR 3 l1
              rw [e1] at f1
              refine Or.inl ⟨wanted_no rfl, ?_⟩
              exact wp_retz (k := .c (.int .i64 0)) (by simp [go_sem, f0, f1]) (show Calls Try.prog 26 #[.slice q1 (dl (0)) m1, .slice q2 (dl (0)) m2] v5 (Rt (.c (.int .i64 0)) v5) from cz_any (Sy1.gr hg) (Sy2.gr hg) (dl_low _ P 400 (by omega) hd) (dl_low _ P 400 (by omega) hd) (by unfold cmpZ; simp)) (fun u w2 hu hg2 => ⟨_, rfl, hg2, hu⟩)
            · obtain rfl := Option.some.inj zo
              have l0 := on_of zD 4 (by kernel_rfl)
              have f0 := zF.at (s := 31) (i := 4) (by kernel_rfl) (by simp) l0
              have e0 : vals 4 = .int .i64 0 := zR 4 l0
              rw [e0] at f0
              refine Or.inl ⟨wanted_no rfl, ?_⟩
              exact wp_val (.bool false) (by simp [go_sem, f0]) ⟨_, rfl, Gr.refl _, rfl⟩
            · obtain rfl := Option.some.inj zo
              have l0 := on_of zD 5 (by kernel_rfl)
              have f0 := zF.at (s := 32) (i := 5) (by kernel_rfl) (by simp) l0
              have e0 : vals 5 = .bool false := zR 5 l0
              rw [e0] at f0
              refine Or.inl ⟨wanted_no rfl, ?_⟩
              exact wp_val (.bool false) (by simp [go_sem, f0]) ⟨_, rfl, Gr.refl _, rfl⟩
            · obtain rfl := Option.some.inj zo
              have lg := on_of zD 6 (by kernel_rfl)
              have fg := zF.at (s := 33) (i := 6) (by kernel_rfl) (by simp) lg
              rw [show vals 6 = .bool false from zR 6 lg] at fg
              have f0 := zF.old (s := 4) (v := .pointer (some ⟨w.heap.size + 1, 0, none⟩)) (by kernel_rfl) rfl
              refine Or.inl ⟨wanted_at (j := 6) (s := 33) rfl rfl rfl fg, ?_⟩
              exact wp_val (.pointer (some ⟨w.heap.size + 1, 1, none⟩)) (by simp [go_sem, f0]) ⟨_, rfl, Gr.refl _, rfl⟩
            · obtain rfl := Option.some.inj zo
              have lg := on_of zD 6 (by kernel_rfl)
              have fg := zF.at (s := 33) (i := 6) (by kernel_rfl) (by simp) lg
              rw [show vals 6 = .bool false from zR 6 lg] at fg
              have l0 := on_of zD 7 (by kernel_rfl)
              have f0 := zF.at (s := 34) (i := 7) (by kernel_rfl) (by simp) l0
              have e0 : vals 7 = .pointer (some ⟨w.heap.size + 1, 1, none⟩) := zR 7 l0
              rw [e0] at f0
              refine Or.inl ⟨wanted_at (j := 6) (s := 33) rfl rfl rfl fg, ?_⟩
              exact wp_val (.slice q1 (dl (0)) m1) (by simp [go_sem, f0, Kc2_1]) ⟨_, rfl, Gr.refl _, rfl⟩
            · obtain rfl := Option.some.inj zo
              have lg := on_of zD 6 (by kernel_rfl)
              have fg := zF.at (s := 33) (i := 6) (by kernel_rfl) (by simp) lg
              rw [show vals 6 = .bool false from zR 6 lg] at fg
              have l0 := on_of zD 8 (by kernel_rfl)
              have f0 := zF.at (s := 35) (i := 8) (by kernel_rfl) (by simp) l0
              have e0 : vals 8 = .slice q1 (dl (0)) m1 := zR 8 l0
              rw [e0] at f0
              refine Or.inl ⟨wanted_at (j := 6) (s := 33) rfl rfl rfl fg, ?_⟩
              exact wp_val (.int .i64 (dl (0))) (by simp [go_sem, f0]) ⟨_, rfl, Gr.refl _, rfl⟩
            · obtain rfl := Option.some.inj zo
              have lg := on_of zD 6 (by kernel_rfl)
              have fg := zF.at (s := 33) (i := 6) (by kernel_rfl) (by simp) lg
              rw [show vals 6 = .bool false from zR 6 lg] at fg
              have l0 := on_of zD 9 (by kernel_rfl)
              have f0 := zF.at (s := 36) (i := 9) (by kernel_rfl) (by simp) l0
              have e0 : vals 9 = .int .i64 (dl (0)) := zR 9 l0
              rw [e0] at f0
              refine Or.inl ⟨wanted_at (j := 6) (s := 33) rfl rfl rfl fg, ?_⟩
              exact wp_val (.bool true) (by simp [go_sem, f0, dl_zero]) ⟨_, rfl, Gr.refl _, rfl⟩
            · obtain rfl := Option.some.inj zo
              have l0 := on_of zD 6 (by kernel_rfl)
              have f0 := zF.at (s := 33) (i := 6) (by kernel_rfl) (by simp) l0
              have e0 : vals 6 = .bool false := zR 6 l0
              rw [e0] at f0
              have l1 := on_of zD 10 (by kernel_rfl)
              have f1 := zF.at (s := 37) (i := 10) (by kernel_rfl) (by simp) l1
              have e1 : vals 10 = .bool true := zR 10 l1
              rw [e1] at f1
              refine Or.inl ⟨wanted_no rfl, ?_⟩
              exact wp_val (.bool true) (by simp [go_sem, f0, f1]) ⟨_, rfl, Gr.refl _, rfl⟩
          case hf =>
            intro vals v5 hg zR
            have e7_0 : vals 0 = .pointer (some ⟨w.heap.size + 1, 1, none⟩) := zR 0 (by simp)
            have e7_1 : vals 1 = .slice q1 (dl (0)) m1 := zR 1 (by simp)
            have e7_2 : vals 2 = .pointer (some ⟨w.heap.size + 1 + 1, 1, none⟩) := zR 2 (by simp)
            have e7_3 : vals 3 = .slice q2 (dl (0)) m2 := zR 3 (by simp)
            have e7_4 : vals 4 = .int .i64 0 := zR 4 (by simp)
            have e7_5 : vals 5 = .bool false := zR 5 (by simp)
            have e7_6 : vals 6 = .bool false := zR 6 (by simp)
            have e7_7 : vals 7 = .pointer (some ⟨w.heap.size + 1, 1, none⟩) := zR 7 (by simp)
            have e7_8 : vals 8 = .slice q1 (dl (0)) m1 := zR 8 (by simp)
            have e7_9 : vals 9 = .int .i64 (dl (0)) := zR 9 (by simp)
            have e7_10 : vals 10 = .bool true := zR 10 (by simp)
            have e7_11 : vals 11 = .bool true := zR 11 (by simp)
            simp only [putFrom, Act.put, List.setIfInBounds_toArray, List.set_cons_zero, List.set_cons_succ, e7_0, e7_1, e7_2, e7_3, e7_4, e7_5, e7_6, e7_7, e7_8, e7_9, e7_10, e7_11]
            clear zR e7_0 e7_1 e7_2 e7_3 e7_4 e7_5 e7_6 e7_7 e7_8 e7_9 e7_10 e7_11
            replace G := G.trans hg
            replace c1 := c1.gr hg
            replace c2 := c2.gr hg
            replace c3 := c3.gr hg
            replace c4 := c4.gr hg
            replace HQ := fun k => (HQ k).gr hg
            replace Sx1 := Sx1.gr hg
            replace Sy1 := Sy1.gr hg
            replace Sx2 := Sx2.gr hg
            replace Sy2 := Sy2.gr hg
            clear hg
            go_upto_region 8 with fail
            refine wp_region_qTS (by kernel_rfl) 1 (by kernel_rfl) [.pt (0) (0) true] ?hs ?hf
            case hs =>
              intro listed vals a1 v6 io oo hg zR zF zo zi zD
              obtain rfl : io = 0 := by omega
              · obtain rfl := Option.some.inj zo
                refine Or.inl ⟨wanted_no rfl, ?_⟩
                exact wp_val (.agg (ptA none (0) 0 none (0) 0 true)) (by simp [go_sem]) ⟨_, rfl, Gr.refl _, ⟨_, _, _, _, rfl, Sl.zero _ _, Sl.zero _ _⟩⟩
            case hf =>
              intro listed vals a1 v6 oo hg zR zF zA zo
              obtain rfl := Option.some.inj zo
              have f0 := zF.old (s := 6) (v := .pointer (some ⟨w.heap.size + 1 + 1 + 1, 0, none⟩)) (by kernel_rfl) rfl
              have l8_0 := zA 0 (by decide)
              have f8_0 := zF.at (s := 39) (i := 0) (by kernel_rfl) (by simp) l8_0
              obtain ⟨p8_0, n8_0, q8_0, k8_0, e8_0, S8_0, T8_0⟩ := (show ∃ p n q k, vals 0 = .agg (ptA p (0) n q (0) k true) ∧ Sl v6 p (0) ∧ Sl v6 q (0) from zR 0 (by decide))
              rw [e8_0] at f8_0
              have HT := (c4.gr hg).h
              have FT := (c4.gr hg).f
              refine wp_skip (w' := setBlk v6 (w.heap.size + 1 + 1 + 1) (ptA p8_0 (0) n8_0 q8_0 (0) k8_0 true)) (by simp [go_sem, f0, f8_0, HT, FT]) ⟨rfl, ?_⟩
              simp only [putFrom, Act.put, List.setIfInBounds_toArray, List.set_cons_zero, List.set_cons_succ, e8_0]
              clear zR zF zA e8_0
              replace G := G.trans hg
              replace c1 := c1.gr hg
              replace c2 := c2.gr hg
              replace c3 := c3.gr hg
              replace c4 := c4.gr hg
              replace HQ := fun k => (HQ k).gr hg
              replace Sx1 := Sx1.gr hg
              replace Sy1 := Sy1.gr hg
              replace Sx2 := Sx2.gr hg
              replace Sy2 := Sy2.gr hg
              clear hg
              go_wp2_with fail
              exact bodyPost_ret (res_one Try.results43 (rd_pt _ _ _ _ _ _ _ (by rfl) (blk_setBlk _ _ _ (by rw [HT]; decide)))) rfl ⟨_, rfl, ⟨_, _, _, _, rfl, Sl.set S8_0 (by rw [HT]; exact ptA_no _ _ _ _ _ _ _), Sl.set T8_0 (by rw [HT]; exact ptA_no _ _ _ _ _ _ _)⟩, gr_setNew G (by omega)⟩

end Go.Proofs.Ytgmaalokfgdpaaa
