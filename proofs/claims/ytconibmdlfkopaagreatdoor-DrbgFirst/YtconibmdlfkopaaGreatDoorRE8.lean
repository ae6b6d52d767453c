/-
  The documents' digest (curvetref7.Of).
-/
/-
  The documents' digest (curvetref7.Of), whole.
-/
import Derived.Test.YtconibmdlfkopaaGreatDoorRC8
import Derived.Test.YtconibmdlfkopaaGreatDoorGN
import Derived.Test.YtconibmdlfkopaaGreatDoorHF
namespace Go.Proofs.YtconibmdlfkopaaGreatDoor.L8
open Go.RowKit
/-- Which hash, by the documents' number. -/
structure Kr (id : Int) (iv : Nat → Nat) (z : Nat) : Prop where
  is : (id = 3 ∧ iv = iv384 ∧ z = 48) ∨ (id = 4 ∧ iv = iv512 ∧ z = 64)
theorem Kr.lt {id : Int} {iv : Nat → Nat} {z : Nat} (h : Kr id iv z) (i : Nat) : iv i < 18446744073709551616 := by
  rcases h.is with ⟨_, rfl, _⟩ | ⟨_, rfl, _⟩
  · exact iv384_lt i
  · exact iv512_lt i
theorem Kr.le {id : Int} {iv : Nat → Nat} {z : Nat} (h : Kr id iv z) : z ≤ 64 := by
  rcases h.is with ⟨_, _, rfl⟩ | ⟨_, _, rfl⟩ <;> decide
set_option maxRecDepth 100000 in
theorem rblock_any (id : Int) (iv : Nat → Nat) (z : Nat) (hk : Kr id iv z) (w : World) : Calls Tryz.prog 58 #[.int .i64 id] w fun e w' => e = .returned (.int .i64 128) ∧ w = w' := by
  rcases hk.is with ⟨rfl, rfl, _⟩ | ⟨rfl, rfl, _⟩
  all_goals
    go_enter Tryz.func58, Tryz.ntmps58
    go_wp2
    go_ret
    exact ⟨rfl, rfl⟩
set_option maxRecDepth 100000 in
theorem rsize_any (id : Int) (iv : Nat → Nat) (z : Nat) (hk : Kr id iv z) (w : World) : Calls Tryz.prog 20 #[.int .i64 id] w fun e w' => e = .returned (.int .i64 (z : Int)) ∧ w = w' := by
  rcases hk.is with ⟨rfl, _, rfl⟩ | ⟨rfl, _, rfl⟩
  all_goals
    go_enter Tryz.func20, Tryz.ntmps20
    go_wp2
    go_ret
    exact ⟨rfl, rfl⟩
set_option maxRecDepth 100000 in
theorem rbegin_any (id : Int) (iv : Nat → Nat) (z : Nat) (hk : Kr id iv z) (w : World) : Calls Tryz.prog 63 #[.int .i64 id] w fun e w' => e = .returned (.slice (some ⟨w.heap.size, 0, none⟩) 8 8) ∧ Bk w' w.heap.size (wz 8 iv) 108 ∧ Sm w w' := by
  rcases hk.is with ⟨rfl, rfl, _⟩ | ⟨rfl, rfl, _⟩
  all_goals
    go_enter Tryz.func63, Tryz.ntmps63
    go_wp2
    go_ret
    exact ⟨rfl, (Bk.new w _ _).cast (by unfold wz; rfl), (Sm.refl _).alloc _⟩
def bsl8 (t : TypeId) (n : Nat) (p : Array (Nat × Value)) : Sem Value := Instr.buildSlice t n p
theorem bsl8_is (p : Array (Nat × Value)) : Instr.buildSlice 117 80 p = bsl8 117 80 p := rfl
theorem bsl8_run (w : World) : (bsl8 117 80 #[(0, .int .u64 4794697086780616226), (1, .int .u64 8158064640168781261), (2, .int .u64 13096744586834688815), (3, .int .u64 16840607885511220156), (4, .int .u64 4131703408338449720), (5, .int .u64 6480981068601479193), (6, .int .u64 10538285296894168987), (7, .int .u64 12329834152419229976), (8, .int .u64 15566598209576043074), (9, .int .u64 1334009975649890238), (10, .int .u64 2608012711638119052), (11, .int .u64 6128411473006802146), (12, .int .u64 8268148722764581231), (13, .int .u64 9286055187155687089), (14, .int .u64 11230858885718282805), (15, .int .u64 13951009754708518548), (16, .int .u64 16472876342353939154), (17, .int .u64 17275323862435702243), (18, .int .u64 1135362057144423861), (19, .int .u64 2597628984639134821), (20, .int .u64 3308224258029322869), (21, .int .u64 5365058923640841347), (22, .int .u64 6679025012923562964), (23, .int .u64 8573033837759648693), (24, .int .u64 10970295158949994411), (25, .int .u64 12119686244451234320), (26, .int .u64 12683024718118986047), (27, .int .u64 13788192230050041572), (28, .int .u64 14330467153632333762), (29, .int .u64 15395433587784984357), (30, .int .u64 489312712824947311), (31, .int .u64 1452737877330783856), (32, .int .u64 2861767655752347644), (33, .int .u64 3322285676063803686), (34, .int .u64 5560940570517711597), (35, .int .u64 5996557281743188959), (36, .int .u64 7280758554555802590), (37, .int .u64 8532644243296465576), (38, .int .u64 9350256976987008742), (39, .int .u64 10552545826968843579), (40, .int .u64 11727347734174303076), (41, .int .u64 12113106623233404929), (42, .int .u64 14000437183269869457), (43, .int .u64 14369950271660146224), (44, .int .u64 15101387698204529176), (45, .int .u64 15463397548674623760), (46, .int .u64 17586052441742319658), (47, .int .u64 1182934255886127544), (48, .int .u64 1847814050463011016), (49, .int .u64 2177327727835720531), (50, .int .u64 2830643537854262169), (51, .int .u64 3796741975233480872), (52, .int .u64 4115178125766777443), (53, .int .u64 5681478168544905931), (54, .int .u64 6601373596472566643), (55, .int .u64 7507060721942968483), (56, .int .u64 8399075790359081724), (57, .int .u64 8693463985226723168), (58, .int .u64 9568029438360202098), (59, .int .u64 10144078919501101548), (60, .int .u64 10430055236837252648), (61, .int .u64 11840083180663258601), (62, .int .u64 13761210420658862357), (63, .int .u64 14299343276471374635), (64, .int .u64 14566680578165727644), (65, .int .u64 15097957966210449927), (66, .int .u64 16922976911328602910), (67, .int .u64 17689382322260857208), (68, .int .u64 500013540394364858), (69, .int .u64 748580250866718886), (70, .int .u64 1242879168328830382), (71, .int .u64 1977374033974150939), (72, .int .u64 2944078676154940804), (73, .int .u64 3659926193048069267), (74, .int .u64 4368137639120453308), (75, .int .u64 4836135668995329356), (76, .int .u64 5532061633213252278), (77, .int .u64 6448918945643986474), (78, .int .u64 6902733635092675308), (79, .int .u64 7801388544844847127)]).run Tryz.prog w = .ok (.slice (some ⟨w.heap.size, 0, none⟩) 80 80) (w.alloc (.cells (wz 80 kc) 108)) := by kernel_rfl
attribute [local go_sem ↓] bsl8_is
attribute [local go_sem] bsl8_run
set_option maxRecDepth 100000 in
set_option maxHeartbeats 1600000 in
theorem rk_any (w : World) : Calls Tryz.prog 64 #[] w fun e w' => e = .returned (.slice (some ⟨w.heap.size, 0, none⟩) 80 80) ∧ Bk w' w.heap.size (wz 80 kc) 108 ∧ Sm w w' := by
  go_enter Tryz.func64, Tryz.ntmps64
  go_wp2
  go_ret
  exact ⟨rfl, Bk.new w _ _, (Sm.refl _).alloc _⟩
end Go.Proofs.YtconibmdlfkopaaGreatDoor.L8
namespace Go.Proofs.YtconibmdlfkopaaGreatDoor.L8
open Go.RowKit
theorem pf_lt8 (n : Nat) (t : Nat → Nat) (ht : ∀ k, t k < 256) (k : Nat) : pf n t k < 256 := by
  unfold pf
  split
  · exact ht k
  · split
    · decide
    · split
      · decide
      · exact Nat.mod_lt _ (by decide)
theorem dg8_of (f : Nat → Nat) (k c j : Nat) (hj : j + c = 7) : dg8 f (8 * k + c) = f k / 2 ^ (8 * j) % 256 := by
  unfold dg8
  rw [show (8 * k + c) / 8 = k by omega, show 7 - (8 * k + c) % 8 = j by omega]
attribute [local go_sem ↓] ap1_is cvS_is
set_option maxRecDepth 100000 in
set_option maxHeartbeats 1600000 in
theorem rof_any (id : Int) (iv : Nat → Nat) (z : Nat) (hk : Kr id iv z) (s : ByteArray) (hs : s.size ≤ 140737488351232) (w : World) :
    Calls Tryz.prog 45 #[.int .i64 id, .string s] w fun e w' => e = .returned (.string (sha iv z s)) ∧ Sm w w' := by
  have C1 : Hid (∀ w, Calls Tryz.prog 58 #[.int .i64 id] w fun e w' => e = .returned (.int .i64 128) ∧ w = w') := fun w => rblock_any id iv z hk w
  have C2 : Hid (∀ w, Calls Tryz.prog 20 #[.int .i64 id] w fun e w' => e = .returned (.int .i64 (z : Int)) ∧ w = w') := fun w => rsize_any id iv z hk w
  have C3 : Hid (∀ w, Calls Tryz.prog 63 #[.int .i64 id] w fun e w' => e = .returned (.slice (some ⟨w.heap.size, 0, none⟩) 8 8) ∧ Bk w' w.heap.size (wz 8 iv) 108 ∧ Sm w w') := fun w => rbegin_any id iv z hk w
  have C4 : Hid (∀ w, Calls Tryz.prog 64 #[] w fun e w' => e = .returned (.slice (some ⟨w.heap.size, 0, none⟩) 80 80) ∧ Bk w' w.heap.size (wz 80 kc) 108 ∧ Sm w w') := rk_any
  obtain ⟨P, hP⟩ : ∃ P, pf s.size (xb s) = P := ⟨_, rfl⟩
  obtain ⟨n, hn⟩ : ∃ n, nb s.size = n := ⟨_, rfl⟩
  have C5 : Hid (∀ w, Calls Tryz.prog 65 #[.string s] w fun e w' => ∃ g cap, e = .returned (.slice (some ⟨g, 0, none⟩) (128 * n) cap) ∧ w.heap.size ≤ g ∧ Rb w' g (128 * n) cap P ∧ Sm w w') := fun w => by rw [← hP, ← hn]; exact long_any s hs w
  have P8 : Hid (∀ k, P k < 256) := fun k => by rw [← hP]; exact pf_lt8 _ _ (xb_lt s) k
  have HL : Hid (∀ t i, i < 8 → bls iv P t i < 18446744073709551616) := fun t i hi => bls_lt iv P (fun i _ => hk.lt i) t i hi
  have HZ : Hid (bt (dg8 (bls iv P n)) z = sha iv z s ∧ z ≤ 64 ∧ n ≤ 1099511627776) := ⟨by rw [← hP, ← hn]; rfl, hk.le, by rw [← hn]; unfold nb; omega⟩
  clear hP hn hs hk
  go_enter Tryz.func45, Tryz.ntmps45
  go_wp2_with (first
    | (go_at_call 58; refine (C1.out _).mono ?_; rintro e w' ⟨rfl, rfl⟩)
    | (go_at_call 63; refine (C3.out _).mono ?_; rintro e w1 ⟨rfl, H1, S1⟩)
    | (go_at_call 64; refine (C4.out _).mono ?_; rintro e w2 ⟨rfl, H2, S2⟩)
    | (go_at_call 65; refine (C5.out _).mono ?_; rintro e w3 ⟨g, cap, rfl, hg, H3, S3⟩))
  have l1 := H1.lt
  have l2 := H2.lt
  have hz1 := S1.size
  have H1' := (H1.sm S2).sm S3
  have H2' := H2.sm S3
  have HK : Kp (Fr w.heap.size) w w3 := ((S1.trans S2).trans S3).kp _
  obtain ⟨hb, hhb⟩ : ∃ hb, w.heap.size = hb := ⟨_, rfl⟩
  obtain ⟨kb, hkb⟩ : ∃ kb, w1.heap.size = kb := ⟨_, rfl⟩
  obtain ⟨L, hL⟩ : ∃ L, 128 * n = L := ⟨_, rfl⟩
  have n1 : kb ≠ hb := by omega
  have n2 : g ≠ hb := by omega
  rw [hhb] at H1' HK ⊢
  rw [hkb] at H2' ⊢
  rw [hL] at H3 ⊢
  have HD : Hid (128 * n = L ∧ hb = w.heap.size) := ⟨hL, hhb.symm⟩
  clear H1 H2 S1 S2 S3 l1 l2 hz1 hhb hkb hL hg
  go_loopw [14] (fun i u => ∃ t o : Nat, t ≤ n ∧ o = 128 * t ∧ i = .int .i64 (o : Int) ∧ Bk u hb (wz 8 (bls iv P t)) 108 ∧ Bk u kb (wz 80 kc) 108 ∧ Rb u g L cap P ∧ Kp (Fr hb) w u) (fun i _ => L - (intOf i).toNat)
  case atStart => exact ⟨0, 0, by omega, rfl, rfl, H1', H2', H3, HK⟩
  case round =>
    clear H1' H2' H3 HK
    obtain ⟨t, o, ht, ho, rfl, H1, H2, H3, HK⟩ := hrel
    have hd := HD.out.1
    have hn := HZ.out.2.2
    have hcap := H3.le
    by_cases hlt : o < L
    · have o1 : (o : Int) < (L : Int) := by omega
      have o2 : (o : Int) + 128 ≤ (cap : Int) := by omega
      have o3 : (L : Int) ≤ 140737488355328 := by omega
      have o4 : ¬ cap = o := by omega
      have o5 : (o : Int) ≤ (o : Int) + 128 := by omega
      have C6 : Hid (Unit → ∀ w c, Bk w hb (wz 8 (bls iv P t)) 108 → By w g o 128 (fun i => P (o + i)) → Bk w kb (wz 80 kc) 108 → Calls Tryz.prog 66 #[.slice (some ⟨hb, 0, none⟩) 8 8, .slice (some ⟨g, o, none⟩) 128 c, .slice (some ⟨kb, 0, none⟩) 80 80] w fun e w' => e = .returned (.tuple #[]) ∧ Bk w' hb (wz 8 (bls iv P (t + 1))) 108 ∧ Kp (At1 hb) w w') := fun _ w c h1 h2 h3 => by
        have := block_any hb g o c kb 8 80 (bls iv P t) (fun i => P (o + i)) (fun i hi => HL.out t i hi) (fun i _ => P8.out _) w h1 h2 h3
        rw [ho] at this ⊢
        exact this
      have hB := H3.by o 128 (by omega)
      have HO : Hid (o = 128 * t) := ho
      clear hd hn hcap ho
      go_wp2_with (go_at_call 66; refine (C6.out () _ _ H1 hB H2).mono ?_; rintro e u1 ⟨rfl, H1', K1⟩)
      go_roundw
      case rel => exact ⟨t + 1, o + 128, by have := HD.out.1; have := HO.out; omega, by have := HO.out; omega, by go_num, H1', H2.kp K1 n1, H3.kp K1 n2, HK.trans (K1.mono fun k _ h => Nat.le_of_eq (Eq.symm h))⟩
      case measure => simp [intOf]; omega
    · have o1 : ¬ (o : Int) < (L : Int) := by omega
      have HF : Hid (bt (dg8 (bls iv P t)) z = sha iv z s ∧ z ≤ 64) := by
        obtain rfl : t = n := by omega
        exact ⟨HZ.out.1, HZ.out.2.1⟩
      have F8 : Hid (∀ i, i < 8 → bls iv P t i < 18446744073709551616) := HL.out t
      generalize bls iv P t = F at *
      have hlh := H1.lt
      obtain ⟨v, hv⟩ : ∃ v, wr = v := ⟨_, rfl⟩
      rw [hv] at H1 HK hlh ⊢
      have HKv : Hid (Kp (Fr hb) w v) := HK
      have HH : Hid (Bk v hb (wz 8 F) 108) := H1
      clear hd hn hcap hlt ho ht HZ HL P8 H2 H3 HK H1 hv
      go_wp2
      go_loopw [5, 15] (fun x y u => ∃ k : Nat, k ≤ 8 ∧ y = .int .i64 (k : Int) ∧ Rv u v.heap.size x (8 * k) (dg8 F) ∧ Kp (Fr v.heap.size) v u) (fun _ y _ => 8 - (intOf y).toNat)
      case atStart => exact ⟨0, by omega, rfl, Or.inl ⟨rfl, rfl⟩, Kp.refl _ _⟩
      case round =>
        obtain ⟨k, hk, rfl, HR, HK⟩ := hrel
        by_cases hlt : k < 8
        · have k0 : (0 : Int) ≤ (k : Int) := by omega
          have k1 : (k : Int) < 8 := by omega
          have HH' : Hid (∀ u, Kp (Fr v.heap.size) v u → u.cell? ⟨hb, k, none⟩ = some (.int .u64 ((F k : Nat) : Int))) := fun u hu => ((HH.out.kp hu (fun e => by have : v.heap.size ≤ hb := e; omega)).cell k).trans (wz_get 8 F k hlt)
          have hx := F8.out k hlt
          have HD8 : Hid (∀ c j, j + c = 7 → dg8 F (8 * k + c) = F k / 2 ^ (8 * j) % 256) := fun c j h => dg8_of F k c j h
          generalize F k = x at *
          have HX8 : Hid (x < 18446744073709551616) := hx
          have HK8 : Hid (k < 8) := hlt
          clear hx hlt hk
          go_wp2
          go_loopw [5, 16] (fun X y u => ∃ (c : Nat) (J : Int), c ≤ 8 ∧ J + (c : Int) = 7 ∧ y = .int .i64 J ∧ Rv u v.heap.size X (8 * k + c) (dg8 F) ∧ Kp (Fr v.heap.size) v u) (fun _ y _ => (intOf y + 1).toNat)
          case atStart => exact ⟨0, 7, by omega, by omega, rfl, HR, HK⟩
          case round =>
            clear HR HK
            obtain ⟨c, J, hc, hJ, rfl, HR, HK⟩ := hrel
            by_cases hl : c < 8
            · obtain ⟨j, rfl⟩ := Int.eq_ofNat_of_zero_le (show 0 ≤ J by omega)
              have hp := HD8.out c j (by omega)
              have ha := and255 x (8 * j) HX8.out
              obtain ⟨p, hpp⟩ : ∃ p, x / 2 ^ (8 * j) % 256 = p := ⟨_, rfl⟩
              have p1 : (p : Int) < 256 := by have := Nat.mod_lt (x / 2 ^ (8 * j)) (show 0 < 256 by decide); omega
              rw [hpp] at ha hp
              have j0 : (0 : Int) ≤ (j : Int) := by omega
              have j1 : (j : Int) ≤ 7 := by omega
              have hsz := HK.size
              have hk8 := HK8.out
              have c1 := HH'.out _ HK
              obtain ⟨M, hM⟩ : ∃ M, 8 * k + c = M := ⟨_, rfl⟩
              rw [hM] at HR hp
              obtain ⟨g2, cap2, u2, hap, hg2, HR2, K2⟩ := ap1_run (World.alloc wr (.cells #[.int .u8 (p : Int)] 5)) v.heap.size wr.heap.size M 1 1 _ (dg8 F) (HR.sm ((Sm.refl _).alloc _)) (fun j hj => by
                obtain rfl : j = 0 := by omega
                rw [(Bk.new _ #[.int .u8 (p : Int)] 5).cell 0, Nat.add_zero, hp]
                rfl) (by omega) (by omega) (by simp; omega)
              have HK2 := (HK.alloc (.cells #[.int .u8 (p : Int)] 5)).trans K2
              obtain ⟨M1, hM1⟩ : ∃ M1, M + 1 = M1 := ⟨_, rfl⟩
              rw [hM1] at hap HR2
              have hc1 : 8 * k + (c + 1) = M1 := by omega
              clear HR HK hp hpp hM hM1 hk8
              go_wp2
              go_roundw
              case rel => exact ⟨c + 1, (j : Int) - 1, by omega, by omega, by go_num, Or.inr ⟨g2, cap2, by rw [hc1], hg2, by rw [hc1]; exact HR2⟩, HK2⟩
              case measure => simp [intOf]
            · have hJ1 : J = -1 := by omega
              have hkk : 8 * k + c = 8 * (k + 1) := by omega
              subst hJ1
              rw [hkk] at HR
              clear hl hc hJ hkk
              go_wp2
              go_roundw
              case rel => exact ⟨k + 1, HK8.out, by go_num, HR, HK⟩
              case measure => simp [intOf]; have := HK8.out; omega
        · have ki : ¬ (k : Int) < 8 := by omega
          obtain ⟨g2, cap2, rfl, hg2, HRb⟩ : ∃ g cap, _ ∧ _ ∧ _ := HR.resolve_left (fun h => by omega)
          have h4 : 8 * k = 64 := by omega
          rw [h4] at HRb ⊢
          have hle := HRb.le
          have hz := HF.out.2
          have cv := fun c => cvS_run _ g2 0 z c (dg8 F) fun i hi => by rw [Nat.zero_add]; exact HRb.cell i (by omega)
          have z1 : (z : Int) ≤ (cap2 : Int) := by omega
          clear hlt hk h4 hle hz HRb HR
          go_wp2_with (go_at_call 20; refine (C2.out _).mono ?_; rintro e w' ⟨rfl, rfl⟩)
          go_ret
          refine ⟨congrArg (fun z => Ending.returned (Value.string z)) HF.out.1, Sm.of ?_⟩
          have e := HD.out.2
          have hKv := HKv.out
          rw [e] at hKv
          exact hKv.trans (HK.mono fun j _ h => by have h1 : v.heap.size ≤ j := h; have := hKv.size; show w.heap.size ≤ j; omega)
end Go.Proofs.YtconibmdlfkopaaGreatDoor.L8
