import Derived.Test.YtempibiahmmppaaGreatXJIX
import Derived.Test.YtempibiahmmppaaGreatXJAG
import Derived.Test.YtempibiahmmppaaGreatXJAdd
import Derived.Test.YtempibiahmmppaaGreatXJRP2
import Derived.Test.YtempibiahmmppaaGreatXJCC
import Derived.Test.YtempibiahmmppaaGreatXJAQ
import Derived.Test.YtempibiahmmppaaGreatXJMixU
namespace Go.Proofs.YtempibiahmmppaaGreat
open Go.RowKit
set_option maxRecDepth 100000
set_option maxHeartbeats 8000000
section
theorem ron_any (i : Nat) (h1 : 1 ≤ i) (h2 : i ≤ 15) (x y : Nat) (f : Bool) (hx : x < M) (hy : y < M) (qc : Nat → Option Addr × Nat) (p q : Option Addr) (n m : Nat) (w : World) (HQ : ∀ k, Sl w (qc k).1 (nN i k)) (Sx : Sl w p x) (Sy : Sl w q y) :
   Calls Tryz.prog 20 #[.agg (crA (i : Int) (nN i) qc), .agg (ptA p x n q y m f)] w (Rt (.c (.bool (onB i x y f))) w) := by
 have hd := pN_dl i h1 h2
 have hx4 := dl_M x hx
 have hy4 := dl_M y hy
 cases f with
 | true => exact Rt.c (ron_inf i _ _ _ _ _ _ qc x y p q n m w HQ Sx Sy)
 | false =>
   by_cases lx : x < pN i
   · by_cases ly : y < pN i
     · have := ron_ok i _ _ _ _ _ _ qc x y p q n m (by omega) (by omega) (by omega) lx ly (aN_lt i h1 h2) (bN_lt i h1 h2) w HQ Sx Sy
       simp only [onB, lx, ly, decide_true, Bool.true_and, Bool.false_eq_true, if_false]
       exact Rt.c this
     · have := ron_y i _ _ _ _ _ _ qc x y p q n m (by omega) (by omega) (by omega) lx (by omega) w HQ Sx Sy
       simp only [onB, ly, decide_false, Bool.false_and, Bool.and_false, Bool.false_eq_true, if_false]
       exact Rt.c this
   · have := ron_x i _ _ _ _ _ _ qc x y p q n m (by omega) (by omega) (by omega) w HQ Sx Sy
     simp only [onB, lx, decide_false, Bool.false_and, Bool.false_eq_true, if_false]
     exact Rt.c this
end
section
theorem rplusQ (k : Nat) (h1 : 1 ≤ k) (h2 : k ≤ 15) (qc : Nat → Option Addr × Nat) {P Q : Q3} (hP : OnQ k P) (hQ : OnQ k Q) {p1 q1 p2 q2 : Option Addr} {n1 m1 n2 m2 : Nat} {w : World}
   (HQ : ∀ j, Sl w (qc j).1 (nN k j)) (Sx1 : Sl w p1 P.1) (Sy1 : Sl w q1 P.2.1) (Sx2 : Sl w p2 Q.1) (Sy2 : Sl w q2 Q.2.1) :
   Calls Tryz.prog 18 #[.agg (crA (k : Int) (nN k) qc), .agg (ptA p1 P.1 n1 q1 P.2.1 m1 P.2.2), .agg (ptA p2 Q.1 n2 q2 Q.2.1 m2 Q.2.2)] w (Rt (.pt (plQ k P Q).1 (plQ k P Q).2.1 (plQ k P Q).2.2) w) := by
 haveI := EC.nzP k h1 h2
 have hd := pN_dl k h1 h2
 obtain ⟨a1, a2, a3⟩ := dec3 hP
 obtain ⟨b1, b2, b3⟩ := dec3 hQ
 have h := rplus_any (EC.curN k h1 h2) (by omega) (k : Int) (oN k) (xN k) (yN k) qc (decQ (pN k) P) (decQ (pN k) Q) p1 q1 n1 m1 p2 q2 n2 m2 w HQ (by rw [a1]; exact Sx1) (by rw [a2]; exact Sy1) (by rw [b1]; exact Sx2) (by rw [b2]; exact Sy2)
 rw [a1, a2, a3, b1, b2, b3] at h
 rw [plQ_is h1 h2]
 exact h
theorem rtimesQ (k : Nat) (h1 : 1 ≤ k) (h2 : k ≤ 15) (qc : Nat → Option Addr × Nat) {P : Q3} (hP : OnQ k P) {t nk : Nat} {pk : Option Addr} (ht : dl t ≤ 400) {p q : Option Addr} {n m : Nat} {w : World}
   (HQ : ∀ j, Sl w (qc j).1 (nN k j)) (Sk : Sl w pk t) (Sx : Sl w p P.1) (Sy : Sl w q P.2.1) :
   Calls Tryz.prog 25 #[.agg (crA (k : Int) (nN k) qc), .slice pk (dl t) nk, .agg (ptA p P.1 n q P.2.1 m P.2.2)] w (Rt (.pt (mlQ k t P).1 (mlQ k t P).2.1 (mlQ k t P).2.2) w) := by
 haveI := EC.nzP k h1 h2
 have hd := pN_dl k h1 h2
 obtain ⟨a1, a2, a3⟩ := dec3 hP
 have h := rtimes_any (EC.curN k h1 h2) (by omega) (k : Int) (oN k) (xN k) (yN k) qc t nk pk ht (decQ (pN k) P) (on_dec h1 h2 hP) p q n m w HQ Sk (by rw [a1]; exact Sx) (by rw [a2]; exact Sy)
 rw [a1, a2, a3] at h
 rw [mlQ_is h1 h2]
 exact h
end
section
attribute [local go_sem ↓] loadNat_is loadArr_is loadWide_is loadArrW_is storeNat_is storeWide_is
attribute [local go_sem] loadNat loadArr loadWide loadArrW storeNat storeWide idxArr fold9 fold18 nw_size nw_elem pre_self pre_1 pre_2 pre_3 pre_4 pre_5 pre_6 pre_7 pre_8 pre_9 pre_10 pre_11 pre_12 pre_13 pre_14 pre_15 pre_16 pre_17 pre_18 pre_19 pre_20 pre_21 pre_22 pre_23 pre_24 pre_25 pre_26 pre_27 pre_28 pre_29 pre_30 pre_31 pre_32 pre_33 pre_34 pre_35 pre_36 pre_37 pre_38 pre_39 pre_40 gro_size gro_drew gro_drewN drew_gro drewN_gro gro_gro blk_gro frz_gro blk_drew frz_drew blk_drewN frz_drewN blk_alloc_at frz_alloc_at blk_alloc frz_alloc cell_gro frozen_gro cell_alloc_pre frozen_alloc_pre setCell_drewN alloc_drewN setBlk_drew setBlk_drewN setBlk_alloc_at setBlk_alloc setBlk_gro setCell_gro setCell_alloc_pre size_setBlk size_setCell
section
attribute [local go_sem] ppre_1 ppre_2 ppre_3 ppre_4 ppre_5 ppre_6
attribute [local go_sem ↓] loadJg_is storeJg_is zvJg_is buildJg_is loadPj_is storePj_is zvPj_is buildPj_is zvCu_is storeCu_is loadCu_is loadPn_is storePn_is zvPn_is buildCu_is buildPn_is Go.wp_at_zero Go.wp_at_succ
attribute [local go_sem] loadJg storeJg zvJg buildJg0 buildJg1 loadPj storePj zvPj buildPj0 buildPj1 buildPj2 buildPj3 loadJX loadJY loadJZ prj_size prj_X prj_Y prj_Z buildPn0 zvCu storeCu loadCu loadPn storePn zvPn loadCP loadCA loadCB loadPX loadPY buildPnI buildPn2 cu_size cu_P cu_A cu_B pnt_size pnt_X pnt_Y frz_setBlk blk_setBlk setBlk_setBlk blk_other
abbrev pjT (T : T3) : Array Value := prj T.1 T.2.1 T.2.2
theorem jgf_yes {k : Nat} (h1 : 1 ≤ k) (h2 : k ≤ 15) (n : Nat) (hn : n ≤ 2) (F : Nat → T3) (c : Array Value) (hrow : ∀ i, i < n → c.extract (i * 27) (i * 27 + 27) = pjT (F i)) (hsz : n * 27 ≤ c.size) (HO' : ∀ i, i < n → ∀ w, Cg 55 #[.agg (cu (k : Int) (pN k) (aN k) (bN k) (oN k) (xN k) (yN k) (bl (oN k)) (szN k) (lgN k)), .agg (prj (F i).1 (F i).2.1 (F i).2.2)] w (.bool true)) (b cap : Nat) (w : World) (hv : Vr w b c) :
   Cg 34 #[.int .i64 (k : Int), .slice (some ⟨b, 0, none⟩) n cap] w (.tuple #[.agg (cu (k : Int) (pN k) (aN k) (bN k) (oN k) (xN k) (yN k) (bl (oN k)) (szN k) (lgN k)), .int .i64 0]) := by
 have HG : Hid (∀ w, Cg 54 #[.int .i64 (k : Int)] w (.tuple #[.agg (cu (k : Int) (pN k) (aN k) (bN k) (oN k) (xN k) (yN k) (bl (oN k)) (szN k) (lgN k)), .int .i64 0])) := fun w => get13_yes k h1 h2 w
 have HN : Hid (Unit → n ≤ 2) := fun _ => hn
 have HO : Hid _ := HO'
 have HL : Hid (∀ j, j < n → ∀ v, Gr w v → (loadS 27 (.pointer (some ⟨b, j * 27, none⟩))).run Tryz.prog v = .ok (.agg (prj (F j).1 (F j).2.1 (F j).2.2)) v) := fun j hj v g => by
   have hb := (hv.gr g).h
   rw [loadPartJ v b (j * 27) (by rw [hb]; omega), hb, hrow j hj]
 clear hn hrow hsz HO'
 go_enter Tryz.func34, Tryz.ntmps34
 go_wp2_with (go_at_call 54; refine (HG.out _).mono ?_; rintro e WA ⟨rfl, GA⟩)
 obtain ⟨e6, he6⟩ : ∃ b, WA.heap.size = b := ⟨_, rfl⟩
 simp only [he6]
 refine gen_w (fun wr => Hid (Gr w wr ∧ Vr wr (w.heap.size) (cu 0 0 0 0 0 0 0 0 0 false) ∧ Vr wr (e6 + 1) (cu (k : Int) (pN k) (aN k) (bN k) (oN k) (xN k) (yN k) (bl (oN k)) (szN k) (lgN k)))) ?_ ?_
 · subst he6
   have g1 : Gr WA (WA.alloc (.cells (cu (k : Int) (pN k) (aN k) (bN k) (oN k) (xN k) (yN k) (bl (oN k)) (szN k) (lgN k)) 76)) := (Gr.refl _).alloc _
   have g2 : Gr (WA.alloc (.cells (cu (k : Int) (pN k) (aN k) (bN k) (oN k) (xN k) (yN k) (bl (oN k)) (szN k) (lgN k)) 76)) ((WA.alloc (.cells (cu (k : Int) (pN k) (aN k) (bN k) (oN k) (xN k) (yN k) (bl (oN k)) (szN k) (lgN k)) 76)).alloc (.cells (cu (k : Int) (pN k) (aN k) (bN k) (oN k) (xN k) (yN k) (bl (oN k)) (szN k) (lgN k)) 78)) := (Gr.refl _).alloc _
   have hn := Vr.new (WA.alloc (.cells (cu (k : Int) (pN k) (aN k) (bN k) (oN k) (xN k) (yN k) (bl (oN k)) (szN k) (lgN k)) 76)) (cu (k : Int) (pN k) (aN k) (bN k) (oN k) (xN k) (yN k) (bl (oN k)) (szN k) (lgN k)) 78
   rw [show (WA.alloc (.cells (cu (k : Int) (pN k) (aN k) (bN k) (oN k) (xN k) (yN k) (bl (oN k)) (szN k) (lgN k)) 76)).heap.size = WA.heap.size + 1 by simp] at hn
   exact ⟨((((Gr.refl w).alloc _).trans GA).trans g1).trans g2, (((Vr.new w _ _).gr GA).gr g1).gr g2, hn⟩
 have hne : w.heap.size < e6 + 1 := by have := GA.below.size; simp at this; omega
 have hne2 : ¬ (w.heap.size = e6 + 1) := by omega
 have hne3 : ¬ (e6 + 1 = w.heap.size) := by omega
 clear he6 GA HG
 obtain ⟨e8, he8⟩ : ∃ b, e6 + 1 = b := ⟨_, rfl⟩
 simp only [he8] at hne hne2 hne3 ⊢
 clear he8
 intro v0 HV
 go_loopw [23] (fun ia wr => ∃ j : Nat, ia = .int .i64 (j : Int) ∧ Hid (Unit → j ≤ n) ∧ Hid (Gr w wr ∧ Vr wr (w.heap.size) (cu 0 0 0 0 0 0 0 0 0 false) ∧ Vr wr e8 (cu (k : Int) (pN k) (aN k) (bN k) (oN k) (xN k) (yN k) (bl (oN k)) (szN k) (lgN k)))) (fun ia _ => (((n : Int)) - intOf ia).toNat)
 case atStart => exact ⟨0, rfl, fun _ => Nat.zero_le _, HV⟩
 case round =>
   clear HV
   obtain ⟨j, rfl, HJ, HV⟩ := hrel
   obtain ⟨G, c0, c6⟩ := HV.out
   have j0 : (0 : Int) ≤ (j : Int) := by omega
   have n4 : (n : Int) ≤ 2 := by have := HN.out (); omega
   have ⟨hh0, ff0, pp0⟩ := c0
   have ⟨hh6, ff6, pp6⟩ := c6
   have ⟨p01, p02, p03, p04, p05, p06⟩ := c0.pp
   have ⟨p61, p62, p63, p64, p65, p66⟩ := c6.pp
   by_cases hlt : j < n
   · have hjn : j < n := by exact hlt
     have j1 : (j : Int) < (n : Int) := by omega
     have ld0 := HL.out j hjn wr G
     have HO2 : Hid (∀ w, Cg 55 #[.agg (cu (k : Int) (pN k) (aN k) (bN k) (oN k) (xN k) (yN k) (bl (oN k)) (szN k) (lgN k)), .agg (prj (F j).1 (F j).2.1 (F j).2.2)] w (.bool true)) := HO.out j hlt
     clear HV c0 c6 hjn
     go_wp2_with (go_at_call 55; refine (HO2.out _).mono ?_; rintro e w' ⟨rfl, g, rfl⟩)
     go_roundw
     case rel =>
       refine ⟨j + 1, by go_num, fun _ => hlt, ?_, ⟨by simp [go_sem, *], by simp [go_sem, *], by simp [go_sem, *]⟩, ⟨by simp [go_sem, *], by simp [go_sem, *], by simp [go_sem, *]⟩⟩
       repeat (first | exact G | apply Gr.drewN | apply Gr.drew | apply Gr.alloc | apply Gr.gro | (refine gr_setNew ?_ (by omega)))
     case measure => simp [intOf]; omega
   · skip
     have j1 : ¬ (j : Int) < (n : Int) := by omega
     clear HV c0 c6 hlt
     go_wp2_with fail
     refine bodyPost_ret (res_two Tryz.results34 (rd_jg (by rfl) ?_) (rd_tmp (by rfl))) rfl ⟨rfl, ?_⟩
     · simp [go_sem, *]
     · repeat (first | exact G | apply Gr.drewN | apply Gr.drew | apply Gr.alloc | apply Gr.gro | (refine gr_setNew ?_ (by omega)))
theorem jgf_off {k : Nat} (h1 : 1 ≤ k) (h2 : k ≤ 15) (n : Nat) (hn : n ≤ 2) (F : Nat → T3) (c : Array Value) (hrow : ∀ i, i < n → c.extract (i * 27) (i * 27 + 27) = pjT (F i)) (hsz : n * 27 ≤ c.size) (m : Nat) (hm : m < n) (HF' : ∀ w, Cg 55 #[.agg (cu (k : Int) (pN k) (aN k) (bN k) (oN k) (xN k) (yN k) (bl (oN k)) (szN k) (lgN k)), .agg (prj (F m).1 (F m).2.1 (F m).2.2)] w (.bool false)) (HO' : ∀ i, i < m → ∀ w, Cg 55 #[.agg (cu (k : Int) (pN k) (aN k) (bN k) (oN k) (xN k) (yN k) (bl (oN k)) (szN k) (lgN k)), .agg (prj (F i).1 (F i).2.1 (F i).2.2)] w (.bool true)) (b cap : Nat) (w : World) (hv : Vr w b c) :
   Cg 34 #[.int .i64 (k : Int), .slice (some ⟨b, 0, none⟩) n cap] w (.tuple #[.agg (cu 0 0 0 0 0 0 0 0 0 false), .int .i64 1501]) := by
 have HG : Hid (∀ w, Cg 54 #[.int .i64 (k : Int)] w (.tuple #[.agg (cu (k : Int) (pN k) (aN k) (bN k) (oN k) (xN k) (yN k) (bl (oN k)) (szN k) (lgN k)), .int .i64 0])) := fun w => get13_yes k h1 h2 w
 have HN : Hid (Unit → n ≤ 2) := fun _ => hn
 have HO : Hid _ := HO'
 have HM : Hid (Unit → m < n) := fun _ => hm
 have HF : Hid _ := HF'
 have HL : Hid (∀ j, j < n → ∀ v, Gr w v → (loadS 27 (.pointer (some ⟨b, j * 27, none⟩))).run Tryz.prog v = .ok (.agg (prj (F j).1 (F j).2.1 (F j).2.2)) v) := fun j hj v g => by
   have hb := (hv.gr g).h
   rw [loadPartJ v b (j * 27) (by rw [hb]; omega), hb, hrow j hj]
 clear hn hrow hsz HO' hm HF'
 go_enter Tryz.func34, Tryz.ntmps34
 go_wp2_with (go_at_call 54; refine (HG.out _).mono ?_; rintro e WA ⟨rfl, GA⟩)
 obtain ⟨e6, he6⟩ : ∃ b, WA.heap.size = b := ⟨_, rfl⟩
 simp only [he6]
 refine gen_w (fun wr => Hid (Gr w wr ∧ Vr wr (w.heap.size) (cu 0 0 0 0 0 0 0 0 0 false) ∧ Vr wr (e6 + 1) (cu (k : Int) (pN k) (aN k) (bN k) (oN k) (xN k) (yN k) (bl (oN k)) (szN k) (lgN k)))) ?_ ?_
 · subst he6
   have g1 : Gr WA (WA.alloc (.cells (cu (k : Int) (pN k) (aN k) (bN k) (oN k) (xN k) (yN k) (bl (oN k)) (szN k) (lgN k)) 76)) := (Gr.refl _).alloc _
   have g2 : Gr (WA.alloc (.cells (cu (k : Int) (pN k) (aN k) (bN k) (oN k) (xN k) (yN k) (bl (oN k)) (szN k) (lgN k)) 76)) ((WA.alloc (.cells (cu (k : Int) (pN k) (aN k) (bN k) (oN k) (xN k) (yN k) (bl (oN k)) (szN k) (lgN k)) 76)).alloc (.cells (cu (k : Int) (pN k) (aN k) (bN k) (oN k) (xN k) (yN k) (bl (oN k)) (szN k) (lgN k)) 78)) := (Gr.refl _).alloc _
   have hn := Vr.new (WA.alloc (.cells (cu (k : Int) (pN k) (aN k) (bN k) (oN k) (xN k) (yN k) (bl (oN k)) (szN k) (lgN k)) 76)) (cu (k : Int) (pN k) (aN k) (bN k) (oN k) (xN k) (yN k) (bl (oN k)) (szN k) (lgN k)) 78
   rw [show (WA.alloc (.cells (cu (k : Int) (pN k) (aN k) (bN k) (oN k) (xN k) (yN k) (bl (oN k)) (szN k) (lgN k)) 76)).heap.size = WA.heap.size + 1 by simp] at hn
   exact ⟨((((Gr.refl w).alloc _).trans GA).trans g1).trans g2, (((Vr.new w _ _).gr GA).gr g1).gr g2, hn⟩
 have hne : w.heap.size < e6 + 1 := by have := GA.below.size; simp at this; omega
 have hne2 : ¬ (w.heap.size = e6 + 1) := by omega
 have hne3 : ¬ (e6 + 1 = w.heap.size) := by omega
 clear he6 GA HG
 obtain ⟨e8, he8⟩ : ∃ b, e6 + 1 = b := ⟨_, rfl⟩
 simp only [he8] at hne hne2 hne3 ⊢
 clear he8
 intro v0 HV
 go_loopw [23] (fun ia wr => ∃ j : Nat, ia = .int .i64 (j : Int) ∧ Hid (Unit → j ≤ m) ∧ Hid (Gr w wr ∧ Vr wr (w.heap.size) (cu 0 0 0 0 0 0 0 0 0 false) ∧ Vr wr e8 (cu (k : Int) (pN k) (aN k) (bN k) (oN k) (xN k) (yN k) (bl (oN k)) (szN k) (lgN k)))) (fun ia _ => (((n : Int)) - intOf ia).toNat)
 case atStart => exact ⟨0, rfl, fun _ => Nat.zero_le _, HV⟩
 case round =>
   clear HV
   obtain ⟨j, rfl, HJ, HV⟩ := hrel
   obtain ⟨G, c0, c6⟩ := HV.out
   have j0 : (0 : Int) ≤ (j : Int) := by omega
   have n4 : (n : Int) ≤ 2 := by have := HN.out (); omega
   have ⟨hh0, ff0, pp0⟩ := c0
   have ⟨hh6, ff6, pp6⟩ := c6
   have ⟨p01, p02, p03, p04, p05, p06⟩ := c0.pp
   have ⟨p61, p62, p63, p64, p65, p66⟩ := c6.pp
   by_cases hlt : j < m
   · have hjn : j < n := by have := HM.out (); omega
     have j1 : (j : Int) < (n : Int) := by omega
     have ld0 := HL.out j hjn wr G
     have HO2 : Hid (∀ w, Cg 55 #[.agg (cu (k : Int) (pN k) (aN k) (bN k) (oN k) (xN k) (yN k) (bl (oN k)) (szN k) (lgN k)), .agg (prj (F j).1 (F j).2.1 (F j).2.2)] w (.bool true)) := HO.out j hlt
     clear HV c0 c6 hjn
     go_wp2_with (go_at_call 55; refine (HO2.out _).mono ?_; rintro e w' ⟨rfl, g, rfl⟩)
     go_roundw
     case rel =>
       refine ⟨j + 1, by go_num, fun _ => hlt, ?_, ⟨by simp [go_sem, *], by simp [go_sem, *], by simp [go_sem, *]⟩, ⟨by simp [go_sem, *], by simp [go_sem, *], by simp [go_sem, *]⟩⟩
       repeat (first | exact G | apply Gr.drewN | apply Gr.drew | apply Gr.alloc | apply Gr.gro | (refine gr_setNew ?_ (by omega)))
     case measure => simp [intOf]; omega
   · skip
     have hjm : j = m := by have := HJ.out (); omega
     have hm2 := HM.out ()
     have HO2 : Hid (∀ w, Cg 55 #[.agg (cu (k : Int) (pN k) (aN k) (bN k) (oN k) (xN k) (yN k) (bl (oN k)) (szN k) (lgN k)), .agg (prj (F j).1 (F j).2.1 (F j).2.2)] w (.bool false)) := by rw [hjm]; exact HF
     have hjn : j < n := by omega
     have j1 : (j : Int) < (n : Int) := by omega
     have ld0 := HL.out j hjn wr G
     clear HV c0 c6 hlt hjn hjm hm2
     go_wp2_with (go_at_call 55; refine (HO2.out _).mono ?_; rintro e w' ⟨rfl, g, rfl⟩)
     refine bodyPost_ret (res_two Tryz.results34 (rd_jg (by rfl) ?_) (rd_tmp (by rfl))) rfl ⟨rfl, ?_⟩
     · simp [go_sem, *]
     · repeat (first | exact G | apply Gr.drewN | apply Gr.drew | apply Gr.alloc | apply Gr.gro | (refine gr_setNew ?_ (by omega)))
theorem jgf_nil {k : Nat} (h1 : 1 ≤ k) (h2 : k ≤ 15) (w : World) :
   Cg 34 #[.int .i64 (k : Int), .slice none 0 0] w (.tuple #[.agg (cu (k : Int) (pN k) (aN k) (bN k) (oN k) (xN k) (yN k) (bl (oN k)) (szN k) (lgN k)), .int .i64 0]) := by
 have HG : Hid (∀ w, Cg 54 #[.int .i64 (k : Int)] w (.tuple #[.agg (cu (k : Int) (pN k) (aN k) (bN k) (oN k) (xN k) (yN k) (bl (oN k)) (szN k) (lgN k)), .int .i64 0])) := fun w => get13_yes k h1 h2 w
 go_enter Tryz.func34, Tryz.ntmps34
 go_wp2_with (go_at_call 54; refine (HG.out _).mono ?_; rintro e WA ⟨rfl, GA⟩)
 obtain ⟨e6, he6⟩ : ∃ b, WA.heap.size = b := ⟨_, rfl⟩
 simp only [he6]
 refine gen_w (fun wr => Hid (Gr w wr ∧ Vr wr (w.heap.size) (cu 0 0 0 0 0 0 0 0 0 false) ∧ Vr wr (e6 + 1) (cu (k : Int) (pN k) (aN k) (bN k) (oN k) (xN k) (yN k) (bl (oN k)) (szN k) (lgN k)))) ?_ ?_
 · subst he6
   have g1 : Gr WA (WA.alloc (.cells (cu (k : Int) (pN k) (aN k) (bN k) (oN k) (xN k) (yN k) (bl (oN k)) (szN k) (lgN k)) 76)) := (Gr.refl _).alloc _
   have g2 : Gr (WA.alloc (.cells (cu (k : Int) (pN k) (aN k) (bN k) (oN k) (xN k) (yN k) (bl (oN k)) (szN k) (lgN k)) 76)) ((WA.alloc (.cells (cu (k : Int) (pN k) (aN k) (bN k) (oN k) (xN k) (yN k) (bl (oN k)) (szN k) (lgN k)) 76)).alloc (.cells (cu (k : Int) (pN k) (aN k) (bN k) (oN k) (xN k) (yN k) (bl (oN k)) (szN k) (lgN k)) 78)) := (Gr.refl _).alloc _
   have hn := Vr.new (WA.alloc (.cells (cu (k : Int) (pN k) (aN k) (bN k) (oN k) (xN k) (yN k) (bl (oN k)) (szN k) (lgN k)) 76)) (cu (k : Int) (pN k) (aN k) (bN k) (oN k) (xN k) (yN k) (bl (oN k)) (szN k) (lgN k)) 78
   rw [show (WA.alloc (.cells (cu (k : Int) (pN k) (aN k) (bN k) (oN k) (xN k) (yN k) (bl (oN k)) (szN k) (lgN k)) 76)).heap.size = WA.heap.size + 1 by simp] at hn
   exact ⟨((((Gr.refl w).alloc _).trans GA).trans g1).trans g2, (((Vr.new w _ _).gr GA).gr g1).gr g2, hn⟩
 have hne : w.heap.size < e6 + 1 := by have := GA.below.size; simp at this; omega
 have hne2 : ¬ (w.heap.size = e6 + 1) := by omega
 have hne3 : ¬ (e6 + 1 = w.heap.size) := by omega
 clear he6 GA HG
 obtain ⟨e8, he8⟩ : ∃ b, e6 + 1 = b := ⟨_, rfl⟩
 simp only [he8] at hne hne2 hne3 ⊢
 clear he8
 intro v0 HV
 go_loopw [23] (fun ia wr => ∃ j : Nat, ia = .int .i64 (j : Int) ∧ Hid (Unit → j ≤ 0) ∧ Hid (Gr w wr ∧ Vr wr (w.heap.size) (cu 0 0 0 0 0 0 0 0 0 false) ∧ Vr wr e8 (cu (k : Int) (pN k) (aN k) (bN k) (oN k) (xN k) (yN k) (bl (oN k)) (szN k) (lgN k)))) (fun ia _ => ((0) - intOf ia).toNat)
 case atStart => exact ⟨0, rfl, fun _ => Nat.zero_le _, HV⟩
 case round =>
   clear HV
   obtain ⟨j, rfl, HJ, HV⟩ := hrel
   obtain ⟨G, c0, c6⟩ := HV.out
   have j0 : (0 : Int) ≤ (j : Int) := by omega
   have ⟨hh0, ff0, pp0⟩ := c0
   have ⟨hh6, ff6, pp6⟩ := c6
   have ⟨p01, p02, p03, p04, p05, p06⟩ := c0.pp
   have ⟨p61, p62, p63, p64, p65, p66⟩ := c6.pp
   by_cases hlt : j < 0
   · omega
   · skip
     have j1 : ¬ (j : Int) < 0 := by omega
     clear HV c0 c6 hlt
     go_wp2_with fail
     refine bodyPost_ret (res_two Tryz.results34 (rd_jg (by rfl) ?_) (rd_tmp (by rfl))) rfl ⟨rfl, ?_⟩
     · simp [go_sem, *]
     · repeat (first | exact G | apply Gr.drewN | apply Gr.drew | apply Gr.alloc | apply Gr.gro | (refine gr_setNew ?_ (by omega)))
theorem jgf_no (x : Int) (h : x < 1 ∨ 15 < x) (q : Option Addr) (n c : Nat) (w : World) : Cg 34 #[.int .i64 x, .slice q n c] w (.tuple #[.agg (cu 0 0 0 0 0 0 0 0 0 false), .int .i64 1500]) := by
 have HG : Hid (∀ w, Cg 54 #[.int .i64 x] w (.tuple #[.agg (cu 0 0 0 0 0 0 0 0 0 false), .int .i64 1300])) := fun w => get13_no x h w
 clear h
 go_enter Tryz.func34, Tryz.ntmps34
 go_wp2_with (go_at_call 54; refine (HG.out _).mono ?_; rintro e w' ⟨rfl, g, rfl⟩)
 refine bodyPost_ret (res_two Tryz.results34 (rd_jg (by rfl) ?_) (rd_tmp (by rfl))) rfl ⟨rfl, grA⟩
 simp [go_sem]
end
section
attribute [local go_sem] ppre_1 ppre_2 ppre_3 ppre_4 ppre_5 ppre_6
attribute [local go_sem ↓] loadJg_is storeJg_is zvJg_is buildJg_is loadPj_is storePj_is zvPj_is buildPj_is zvCu_is storeCu_is loadCu_is loadPn_is storePn_is zvPn_is buildCu_is buildPn_is Go.wp_at_zero Go.wp_at_succ
attribute [local go_sem] loadJg storeJg zvJg buildJg0 buildJg1 loadPj storePj zvPj buildPj0 buildPj1 buildPj2 buildPj3 loadJX loadJY loadJZ prj_size prj_X prj_Y prj_Z buildPn0 zvCu storeCu loadCu loadPn storePn zvPn loadCP loadCA loadCB loadPX loadPY buildPnI buildPn2 cu_size cu_P cu_A cu_B pnt_size pnt_X pnt_Y frz_setBlk blk_setBlk setBlk_setBlk blk_other
theorem jto_yes {k : Nat} {T : T3} {R : Q3} (HG' : ∀ w b, Vr w b (prj T.1 T.2.1 T.2.2) → Cg 34 #[.int .i64 (k : Int), .slice (some ⟨b, 0, none⟩) 1 1] w (.tuple #[.agg (cu (k : Int) (pN k) (aN k) (bN k) (oN k) (xN k) (yN k) (bl (oN k)) (szN k) (lgN k)), .int .i64 0])) (HA' : ∀ w, Cg 35 #[.agg (cu (k : Int) (pN k) (aN k) (bN k) (oN k) (xN k) (yN k) (bl (oN k)) (szN k) (lgN k)), .agg (prj T.1 T.2.1 T.2.2)] w (.agg (pnt R.1 R.2.1 R.2.2))) (w : World) :
   Cg 11 #[.int .i64 (k : Int), .agg (prj T.1 T.2.1 T.2.2)] w (.tuple #[.agg (pnt R.1 R.2.1 R.2.2), .int .i64 0]) := by
 have HG : Hid _ := HG'
 have HA : Hid _ := HA'
 clear HG' HA'
 go_enter Tryz.func11, Tryz.ntmps11
 go_upto_region 1 with fail
 refine gen_w (fun v => Hid (Gr w v ∧ Vr v (w.heap.size) (prj T.1 T.2.1 T.2.2) ∧ Vr v (w.heap.size + 1) (pnt 0 0 false))) ⟨grA, vrA, vrA⟩ ?_
 intro v0 HV
 obtain ⟨G, c0, c1⟩ := HV.out
 clear HV
 refine wp_v false [.c (.int .i64 (k : Int)), .c (.agg (prj T.1 T.2.1 T.2.2)), .r 1 (prj T.1 T.2.1 T.2.2), .c (.tuple #[.agg (cu (k : Int) (pN k) (aN k) (bN k) (oN k) (xN k) (yN k) (bl (oN k)) (szN k) (lgN k)), .int .i64 0]), .c (.tuple #[.agg (cu (k : Int) (pN k) (aN k) (bN k) (oN k) (xN k) (yN k) (bl (oN k)) (szN k) (lgN k)), .int .i64 0]), .c (.agg (cu (k : Int) (pN k) (aN k) (bN k) (oN k) (xN k) (yN k) (bl (oN k)) (szN k) (lgN k))), .c (.int .i64 0), .a, .u, .c (.int .i64 0)] [1, 2, 3] [⟨7, 8, 78, cu 0 0 0 0 0 0 0 0 0 false, fun _ => cu (k : Int) (pN k) (aN k) (bN k) (oN k) (xN k) (yN k) (bl (oN k)) (szN k) (lgN k)⟩] ?hs1 ?hv1 ?hf1
 case hs1 =>
  refine .cons (.g 27 0 c0 rfl) ?_
  refine .cons (.r (.buildSlice 68 1 #[(0, .const (.agg (prj T.1 T.2.1 T.2.2)))]) rfl (rowJ1 _ _ _)) ?_
  refine .cons (.k (fun yy => #[.int .i64 (k : Int), .slice (some ⟨(yy 2 0).2, 0, none⟩) 1 1]) fun yy vv hg hh => RtW.of_c (Rt.c (HG.out _ _ (hh 2 rfl)))) .nil
 case hv1 =>
  refine .cons (.mk (fun _ _ _ => rfl) (fun _ v b H F => by dsimp only at H ⊢; simp [go_sem, exI, H, F]) zCu ⟨fkc, fkc, fkr (by simp [cu_size, prj_size]), fkc, fkc, fkc, fkc, fka, fku, fkc, trivial⟩) .nil
 intro yw1 v1 hg h1 hV1
 simp only [FW, putFrom, Act.put, lqA, lqB, lqC, wvals, kW, lqD, lqE, Kw.c, Kw.a, Kw.r, Kw.u]
 obtain ⟨⟨N1_7, V1_7⟩, -⟩ : (v0.heap.size ≤ (yw1 7 0).2 ∧ Vr v1 (yw1 7 0).2 (cu (k : Int) (pN k) (aN k) (bN k) (oN k) (xN k) (yN k) (bl (oN k)) (szN k) (lgN k))) ∧ True := hV1
 clear h1
 replace G := G.trans hg
 replace c0 := c0.gr hg
 replace c1 := c1.gr hg
 clear hg
 go_upto_region 2 with fail
 refine wp_wS [.c (.int .i64 0), .c (.bool false)] [] ?hs2 ?hf2
 case hs2 => exact .nil
 intro yw2 v2 hg h2
 simp only [FW, putFrom, Act.put, lqA, lqB, lqC, wvals, kW, lqD, lqE, Kw.c]
 clear h2
 replace G := G.trans hg
 replace c0 := c0.gr hg
 replace c1 := c1.gr hg
 replace V1_7 := V1_7.gr hg
 clear hg
 have ⟨hh0, ff0, pp0⟩ := c0
 have ⟨p01, p02, p03, p04, p05, p06⟩ := c0.pp
 have ⟨hh1, ff1, pp1⟩ := c1
 have ⟨p11, p12, p13, p14, p15, p16⟩ := c1.pp
 have ⟨hh2, ff2, pp2⟩ := V1_7
 have ⟨p21, p22, p23, p24, p25, p26⟩ := V1_7.pp
 clear c0 c1 V1_7
 go_wp2_with (go_at_call 35; refine (HA.out _).mono ?_; rintro e w' ⟨rfl, g, rfl⟩)
 refine bodyPost_ret (res_two Tryz.results11 (rd_pn (by rfl) ?_) (rd_tmp (by rfl))) rfl ⟨rfl, ?_⟩
 · simp [go_sem, *]
 · repeat (first | exact G | apply Gr.drewN | apply Gr.drew | apply Gr.alloc | apply Gr.gro | (refine gr_setNew ?_ (by omega)))
theorem jto_err (id er : Int) (hne : ¬ er = 0) {T : T3}  (HG' : ∀ w b, Vr w b (prj T.1 T.2.1 T.2.2) → Cg 34 #[.int .i64 id, .slice (some ⟨b, 0, none⟩) 1 1] w (.tuple #[.agg (cu 0 0 0 0 0 0 0 0 0 false), .int .i64 er])) (w : World) :
   Cg 11 #[.int .i64 id, .agg (prj T.1 T.2.1 T.2.2)] w (.tuple #[.agg (pnt 0 0 false), .int .i64 er]) := by
 have HG : Hid _ := HG'
 clear HG'
 go_enter Tryz.func11, Tryz.ntmps11
 go_upto_region 1 with fail
 refine gen_w (fun v => Hid (Gr w v ∧ Vr v (w.heap.size) (prj T.1 T.2.1 T.2.2) ∧ Vr v (w.heap.size + 1) (pnt 0 0 false))) ⟨grA, vrA, vrA⟩ ?_
 intro v0 HV
 obtain ⟨G, c0, c1⟩ := HV.out
 clear HV
 refine wp_v false [.c (.int .i64 id), .c (.agg (prj T.1 T.2.1 T.2.2)), .r 1 (prj T.1 T.2.1 T.2.2), .c (.tuple #[.agg (cu 0 0 0 0 0 0 0 0 0 false), .int .i64 er]), .c (.tuple #[.agg (cu 0 0 0 0 0 0 0 0 0 false), .int .i64 er]), .c (.agg (cu 0 0 0 0 0 0 0 0 0 false)), .c (.int .i64 er), .a, .u, .c (.int .i64 er)] [1, 2, 3] [⟨7, 8, 78, cu 0 0 0 0 0 0 0 0 0 false, fun _ => cu 0 0 0 0 0 0 0 0 0 false⟩] ?hs3 ?hv3 ?hf3
 case hs3 =>
  refine .cons (.g 27 0 c0 rfl) ?_
  refine .cons (.r (.buildSlice 68 1 #[(0, .const (.agg (prj T.1 T.2.1 T.2.2)))]) rfl (rowJ1 _ _ _)) ?_
  refine .cons (.k (fun yy => #[.int .i64 id, .slice (some ⟨(yy 2 0).2, 0, none⟩) 1 1]) fun yy vv hg hh => RtW.of_c (Rt.c (HG.out _ _ (hh 2 rfl)))) .nil
 case hv3 =>
  refine .cons (.mk (fun _ _ _ => rfl) (fun _ v b H F => by dsimp only at H ⊢; simp [go_sem, exI, H, F]) zCu ⟨fkc, fkc, fkr (by simp [cu_size, prj_size]), fkc, fkc, fkc, fkc, fka, fku, fkc, trivial⟩) .nil
 intro yw1 v1 hg h1 hV1
 simp only [FW, putFrom, Act.put, lqA, lqB, lqC, wvals, kW, lqD, lqE, Kw.c, Kw.a, Kw.r, Kw.u]
 obtain ⟨⟨N1_7, V1_7⟩, -⟩ : (v0.heap.size ≤ (yw1 7 0).2 ∧ Vr v1 (yw1 7 0).2 (cu 0 0 0 0 0 0 0 0 0 false)) ∧ True := hV1
 clear h1
 replace G := G.trans hg
 replace c0 := c0.gr hg
 replace c1 := c1.gr hg
 clear hg
 go_upto_region 2 with fail
 refine wp_wS [.c (.int .i64 er), .c (.bool true)] [1] ?hs4 ?hf4
 case hs4 =>
  refine .cons (.s (.binOp .neq 36 (.const (.int .i64 er)) (.const (.int .i64 0)) 36) rfl fun vv hg => by simp [go_sem, exI, hne]) .nil
 intro yw2 v2 hg h2
 simp only [FW, putFrom, Act.put, lqA, lqB, lqC, wvals, kW, lqD, lqE, Kw.c]
 clear h2
 replace G := G.trans hg
 replace c0 := c0.gr hg
 replace c1 := c1.gr hg
 replace V1_7 := V1_7.gr hg
 clear hg
 have ⟨hh0, ff0, pp0⟩ := c0
 have ⟨p01, p02, p03, p04, p05, p06⟩ := c0.pp
 have ⟨hh1, ff1, pp1⟩ := c1
 have ⟨p11, p12, p13, p14, p15, p16⟩ := c1.pp
 have ⟨hh2, ff2, pp2⟩ := V1_7
 have ⟨p21, p22, p23, p24, p25, p26⟩ := V1_7.pp
 clear c0 c1 V1_7
 go_wp2_with fail
 refine bodyPost_ret (res_two Tryz.results11 (rd_pn (by rfl) ?_) (rd_tmp (by rfl))) rfl ⟨rfl, ?_⟩
 · simp [go_sem, *]
 · repeat (first | exact G | apply Gr.drewN | apply Gr.drew | apply Gr.alloc | apply Gr.gro | (refine gr_setNew ?_ (by omega)))
theorem jadd_yes {k : Nat} {S T : T3} {R : T3} (HG' : ∀ w b, Vr w b (prj S.1 S.2.1 S.2.2 ++ prj T.1 T.2.1 T.2.2) → Cg 34 #[.int .i64 (k : Int), .slice (some ⟨b, 0, none⟩) 2 2] w (.tuple #[.agg (cu (k : Int) (pN k) (aN k) (bN k) (oN k) (xN k) (yN k) (bl (oN k)) (szN k) (lgN k)), .int .i64 0])) (HA' : ∀ w, Cg 36 #[.agg (cu (k : Int) (pN k) (aN k) (bN k) (oN k) (xN k) (yN k) (bl (oN k)) (szN k) (lgN k)), .agg (prj S.1 S.2.1 S.2.2), .agg (prj T.1 T.2.1 T.2.2)] w (.agg (prj R.1 R.2.1 R.2.2))) (w : World) :
   Cg 12 #[.int .i64 (k : Int), .agg (prj S.1 S.2.1 S.2.2), .agg (prj T.1 T.2.1 T.2.2)] w (.tuple #[.agg (prj R.1 R.2.1 R.2.2), .int .i64 0]) := by
 have HG : Hid _ := HG'
 have HA : Hid _ := HA'
 clear HG' HA'
 go_enter Tryz.func12, Tryz.ntmps12
 go_upto_region 1 with fail
 refine gen_w (fun v => Hid (Gr w v ∧ Vr v (w.heap.size) (prj S.1 S.2.1 S.2.2) ∧ Vr v (w.heap.size + 1) (prj T.1 T.2.1 T.2.2) ∧ Vr v (w.heap.size + 1 + 1) (prj 0 0 0))) ⟨grA, vrA, vrA, vrA⟩ ?_
 intro v0 HV
 obtain ⟨G, c0, c1, c2⟩ := HV.out
 clear HV
 refine wp_v false [.c (.int .i64 (k : Int)), .c (.agg (prj S.1 S.2.1 S.2.2)), .c (.agg (prj T.1 T.2.1 T.2.2)), .r 2 (prj S.1 S.2.1 S.2.2 ++ prj T.1 T.2.1 T.2.2), .c (.tuple #[.agg (cu (k : Int) (pN k) (aN k) (bN k) (oN k) (xN k) (yN k) (bl (oN k)) (szN k) (lgN k)), .int .i64 0]), .c (.tuple #[.agg (cu (k : Int) (pN k) (aN k) (bN k) (oN k) (xN k) (yN k) (bl (oN k)) (szN k) (lgN k)), .int .i64 0]), .c (.agg (cu (k : Int) (pN k) (aN k) (bN k) (oN k) (xN k) (yN k) (bl (oN k)) (szN k) (lgN k))), .c (.int .i64 0), .a, .u, .c (.int .i64 0)] [1, 2, 3, 4] [⟨8, 9, 78, cu 0 0 0 0 0 0 0 0 0 false, fun _ => cu (k : Int) (pN k) (aN k) (bN k) (oN k) (xN k) (yN k) (bl (oN k)) (szN k) (lgN k)⟩] ?hs5 ?hv5 ?hf5
 case hs5 =>
  refine .cons (.g 27 0 c0 rfl) ?_
  refine .cons (.g 27 0 c1 rfl) ?_
  refine .cons (.r (.buildSlice 68 2 #[(0, .const (.agg (prj S.1 S.2.1 S.2.2))), (1, .const (.agg (prj T.1 T.2.1 T.2.2)))]) rfl (rowJ2 _ _ _ _ _ _)) ?_
  refine .cons (.k (fun yy => #[.int .i64 (k : Int), .slice (some ⟨(yy 3 0).2, 0, none⟩) 2 2]) fun yy vv hg hh => RtW.of_c (Rt.c (HG.out _ _ (hh 3 rfl)))) .nil
 case hv5 =>
  refine .cons (.mk (fun _ _ _ => rfl) (fun _ v b H F => by dsimp only at H ⊢; simp [go_sem, exI, H, F]) zCu ⟨fkc, fkc, fkc, fkr (by simp [cu_size, prj_size]), fkc, fkc, fkc, fkc, fka, fku, fkc, trivial⟩) .nil
 intro yw1 v1 hg h1 hV1
 simp only [FW, putFrom, Act.put, lqA, lqB, lqC, wvals, kW, lqD, lqE, Kw.c, Kw.a, Kw.r, Kw.u]
 obtain ⟨⟨N1_8, V1_8⟩, -⟩ : (v0.heap.size ≤ (yw1 8 0).2 ∧ Vr v1 (yw1 8 0).2 (cu (k : Int) (pN k) (aN k) (bN k) (oN k) (xN k) (yN k) (bl (oN k)) (szN k) (lgN k))) ∧ True := hV1
 clear h1
 replace G := G.trans hg
 replace c0 := c0.gr hg
 replace c1 := c1.gr hg
 replace c2 := c2.gr hg
 clear hg
 go_upto_region 2 with fail
 refine wp_wS [.c (.int .i64 0), .c (.bool false)] [] ?hs6 ?hf6
 case hs6 => exact .nil
 intro yw2 v2 hg h2
 simp only [FW, putFrom, Act.put, lqA, lqB, lqC, wvals, kW, lqD, lqE, Kw.c]
 clear h2
 replace G := G.trans hg
 replace c0 := c0.gr hg
 replace c1 := c1.gr hg
 replace c2 := c2.gr hg
 replace V1_8 := V1_8.gr hg
 clear hg
 have ⟨hh0, ff0, pp0⟩ := c0
 have ⟨p01, p02, p03, p04, p05, p06⟩ := c0.pp
 have ⟨hh1, ff1, pp1⟩ := c1
 have ⟨p11, p12, p13, p14, p15, p16⟩ := c1.pp
 have ⟨hh2, ff2, pp2⟩ := c2
 have ⟨p21, p22, p23, p24, p25, p26⟩ := c2.pp
 have ⟨hh3, ff3, pp3⟩ := V1_8
 have ⟨p31, p32, p33, p34, p35, p36⟩ := V1_8.pp
 clear c0 c1 c2 V1_8
 go_wp2_with (go_at_call 36; refine (HA.out _).mono ?_; rintro e w' ⟨rfl, g, rfl⟩)
 refine bodyPost_ret (res_two Tryz.results12 (rd_pj (by rfl) ?_) (rd_tmp (by rfl))) rfl ⟨rfl, ?_⟩
 · simp [go_sem, *]
 · repeat (first | exact G | apply Gr.drewN | apply Gr.drew | apply Gr.alloc | apply Gr.gro | (refine gr_setNew ?_ (by omega)))
theorem jadd_err (id er : Int) (hne : ¬ er = 0) {S T : T3}  (HG' : ∀ w b, Vr w b (prj S.1 S.2.1 S.2.2 ++ prj T.1 T.2.1 T.2.2) → Cg 34 #[.int .i64 id, .slice (some ⟨b, 0, none⟩) 2 2] w (.tuple #[.agg (cu 0 0 0 0 0 0 0 0 0 false), .int .i64 er])) (w : World) :
   Cg 12 #[.int .i64 id, .agg (prj S.1 S.2.1 S.2.2), .agg (prj T.1 T.2.1 T.2.2)] w (.tuple #[.agg (prj 0 0 0), .int .i64 er]) := by
 have HG : Hid _ := HG'
 clear HG'
 go_enter Tryz.func12, Tryz.ntmps12
 go_upto_region 1 with fail
 refine gen_w (fun v => Hid (Gr w v ∧ Vr v (w.heap.size) (prj S.1 S.2.1 S.2.2) ∧ Vr v (w.heap.size + 1) (prj T.1 T.2.1 T.2.2) ∧ Vr v (w.heap.size + 1 + 1) (prj 0 0 0))) ⟨grA, vrA, vrA, vrA⟩ ?_
 intro v0 HV
 obtain ⟨G, c0, c1, c2⟩ := HV.out
 clear HV
 refine wp_v false [.c (.int .i64 id), .c (.agg (prj S.1 S.2.1 S.2.2)), .c (.agg (prj T.1 T.2.1 T.2.2)), .r 2 (prj S.1 S.2.1 S.2.2 ++ prj T.1 T.2.1 T.2.2), .c (.tuple #[.agg (cu 0 0 0 0 0 0 0 0 0 false), .int .i64 er]), .c (.tuple #[.agg (cu 0 0 0 0 0 0 0 0 0 false), .int .i64 er]), .c (.agg (cu 0 0 0 0 0 0 0 0 0 false)), .c (.int .i64 er), .a, .u, .c (.int .i64 er)] [1, 2, 3, 4] [⟨8, 9, 78, cu 0 0 0 0 0 0 0 0 0 false, fun _ => cu 0 0 0 0 0 0 0 0 0 false⟩] ?hs7 ?hv7 ?hf7
 case hs7 =>
  refine .cons (.g 27 0 c0 rfl) ?_
  refine .cons (.g 27 0 c1 rfl) ?_
  refine .cons (.r (.buildSlice 68 2 #[(0, .const (.agg (prj S.1 S.2.1 S.2.2))), (1, .const (.agg (prj T.1 T.2.1 T.2.2)))]) rfl (rowJ2 _ _ _ _ _ _)) ?_
  refine .cons (.k (fun yy => #[.int .i64 id, .slice (some ⟨(yy 3 0).2, 0, none⟩) 2 2]) fun yy vv hg hh => RtW.of_c (Rt.c (HG.out _ _ (hh 3 rfl)))) .nil
 case hv7 =>
  refine .cons (.mk (fun _ _ _ => rfl) (fun _ v b H F => by dsimp only at H ⊢; simp [go_sem, exI, H, F]) zCu ⟨fkc, fkc, fkc, fkr (by simp [cu_size, prj_size]), fkc, fkc, fkc, fkc, fka, fku, fkc, trivial⟩) .nil
 intro yw1 v1 hg h1 hV1
 simp only [FW, putFrom, Act.put, lqA, lqB, lqC, wvals, kW, lqD, lqE, Kw.c, Kw.a, Kw.r, Kw.u]
 obtain ⟨⟨N1_8, V1_8⟩, -⟩ : (v0.heap.size ≤ (yw1 8 0).2 ∧ Vr v1 (yw1 8 0).2 (cu 0 0 0 0 0 0 0 0 0 false)) ∧ True := hV1
 clear h1
 replace G := G.trans hg
 replace c0 := c0.gr hg
 replace c1 := c1.gr hg
 replace c2 := c2.gr hg
 clear hg
 go_upto_region 2 with fail
 refine wp_wS [.c (.int .i64 er), .c (.bool true)] [1] ?hs8 ?hf8
 case hs8 =>
  refine .cons (.s (.binOp .neq 36 (.const (.int .i64 er)) (.const (.int .i64 0)) 36) rfl fun vv hg => by simp [go_sem, exI, hne]) .nil
 intro yw2 v2 hg h2
 simp only [FW, putFrom, Act.put, lqA, lqB, lqC, wvals, kW, lqD, lqE, Kw.c]
 clear h2
 replace G := G.trans hg
 replace c0 := c0.gr hg
 replace c1 := c1.gr hg
 replace c2 := c2.gr hg
 replace V1_8 := V1_8.gr hg
 clear hg
 have ⟨hh0, ff0, pp0⟩ := c0
 have ⟨p01, p02, p03, p04, p05, p06⟩ := c0.pp
 have ⟨hh1, ff1, pp1⟩ := c1
 have ⟨p11, p12, p13, p14, p15, p16⟩ := c1.pp
 have ⟨hh2, ff2, pp2⟩ := c2
 have ⟨p21, p22, p23, p24, p25, p26⟩ := c2.pp
 have ⟨hh3, ff3, pp3⟩ := V1_8
 have ⟨p31, p32, p33, p34, p35, p36⟩ := V1_8.pp
 clear c0 c1 c2 V1_8
 go_wp2_with fail
 refine bodyPost_ret (res_two Tryz.results12 (rd_pj (by rfl) ?_) (rd_tmp (by rfl))) rfl ⟨rfl, ?_⟩
 · simp [go_sem, *]
 · repeat (first | exact G | apply Gr.drewN | apply Gr.drew | apply Gr.alloc | apply Gr.gro | (refine gr_setNew ?_ (by omega)))
theorem jdouble_yes {k : Nat} {T : T3} {R : T3} (HG' : ∀ w b, Vr w b (prj T.1 T.2.1 T.2.2) → Cg 34 #[.int .i64 (k : Int), .slice (some ⟨b, 0, none⟩) 1 1] w (.tuple #[.agg (cu (k : Int) (pN k) (aN k) (bN k) (oN k) (xN k) (yN k) (bl (oN k)) (szN k) (lgN k)), .int .i64 0])) (HA' : ∀ w, Cg 36 #[.agg (cu (k : Int) (pN k) (aN k) (bN k) (oN k) (xN k) (yN k) (bl (oN k)) (szN k) (lgN k)), .agg (prj T.1 T.2.1 T.2.2), .agg (prj T.1 T.2.1 T.2.2)] w (.agg (prj R.1 R.2.1 R.2.2))) (w : World) :
   Cg 13 #[.int .i64 (k : Int), .agg (prj T.1 T.2.1 T.2.2)] w (.tuple #[.agg (prj R.1 R.2.1 R.2.2), .int .i64 0]) := by
 have HG : Hid _ := HG'
 have HA : Hid _ := HA'
 clear HG' HA'
 go_enter Tryz.func13, Tryz.ntmps13
 go_upto_region 1 with fail
 refine gen_w (fun v => Hid (Gr w v ∧ Vr v (w.heap.size) (prj T.1 T.2.1 T.2.2) ∧ Vr v (w.heap.size + 1) (prj 0 0 0))) ⟨grA, vrA, vrA⟩ ?_
 intro v0 HV
 obtain ⟨G, c0, c1⟩ := HV.out
 clear HV
 refine wp_v false [.c (.int .i64 (k : Int)), .c (.agg (prj T.1 T.2.1 T.2.2)), .r 1 (prj T.1 T.2.1 T.2.2), .c (.tuple #[.agg (cu (k : Int) (pN k) (aN k) (bN k) (oN k) (xN k) (yN k) (bl (oN k)) (szN k) (lgN k)), .int .i64 0]), .c (.tuple #[.agg (cu (k : Int) (pN k) (aN k) (bN k) (oN k) (xN k) (yN k) (bl (oN k)) (szN k) (lgN k)), .int .i64 0]), .c (.agg (cu (k : Int) (pN k) (aN k) (bN k) (oN k) (xN k) (yN k) (bl (oN k)) (szN k) (lgN k))), .c (.int .i64 0), .a, .u, .c (.int .i64 0)] [1, 2, 3] [⟨7, 8, 78, cu 0 0 0 0 0 0 0 0 0 false, fun _ => cu (k : Int) (pN k) (aN k) (bN k) (oN k) (xN k) (yN k) (bl (oN k)) (szN k) (lgN k)⟩] ?hs9 ?hv9 ?hf9
 case hs9 =>
  refine .cons (.g 27 0 c0 rfl) ?_
  refine .cons (.r (.buildSlice 68 1 #[(0, .const (.agg (prj T.1 T.2.1 T.2.2)))]) rfl (rowJ1 _ _ _)) ?_
  refine .cons (.k (fun yy => #[.int .i64 (k : Int), .slice (some ⟨(yy 2 0).2, 0, none⟩) 1 1]) fun yy vv hg hh => RtW.of_c (Rt.c (HG.out _ _ (hh 2 rfl)))) .nil
 case hv9 =>
  refine .cons (.mk (fun _ _ _ => rfl) (fun _ v b H F => by dsimp only at H ⊢; simp [go_sem, exI, H, F]) zCu ⟨fkc, fkc, fkr (by simp [cu_size, prj_size]), fkc, fkc, fkc, fkc, fka, fku, fkc, trivial⟩) .nil
 intro yw1 v1 hg h1 hV1
 simp only [FW, putFrom, Act.put, lqA, lqB, lqC, wvals, kW, lqD, lqE, Kw.c, Kw.a, Kw.r, Kw.u]
 obtain ⟨⟨N1_7, V1_7⟩, -⟩ : (v0.heap.size ≤ (yw1 7 0).2 ∧ Vr v1 (yw1 7 0).2 (cu (k : Int) (pN k) (aN k) (bN k) (oN k) (xN k) (yN k) (bl (oN k)) (szN k) (lgN k))) ∧ True := hV1
 clear h1
 replace G := G.trans hg
 replace c0 := c0.gr hg
 replace c1 := c1.gr hg
 clear hg
 go_upto_region 2 with fail
 refine wp_wS [.c (.int .i64 0), .c (.bool false)] [] ?hs10 ?hf10
 case hs10 => exact .nil
 intro yw2 v2 hg h2
 simp only [FW, putFrom, Act.put, lqA, lqB, lqC, wvals, kW, lqD, lqE, Kw.c]
 clear h2
 replace G := G.trans hg
 replace c0 := c0.gr hg
 replace c1 := c1.gr hg
 replace V1_7 := V1_7.gr hg
 clear hg
 have ⟨hh0, ff0, pp0⟩ := c0
 have ⟨p01, p02, p03, p04, p05, p06⟩ := c0.pp
 have ⟨hh1, ff1, pp1⟩ := c1
 have ⟨p11, p12, p13, p14, p15, p16⟩ := c1.pp
 have ⟨hh2, ff2, pp2⟩ := V1_7
 have ⟨p21, p22, p23, p24, p25, p26⟩ := V1_7.pp
 clear c0 c1 V1_7
 go_wp2_with (go_at_call 36; refine (HA.out _).mono ?_; rintro e w' ⟨rfl, g, rfl⟩)
 refine bodyPost_ret (res_two Tryz.results13 (rd_pj (by rfl) ?_) (rd_tmp (by rfl))) rfl ⟨rfl, ?_⟩
 · simp [go_sem, *]
 · repeat (first | exact G | apply Gr.drewN | apply Gr.drew | apply Gr.alloc | apply Gr.gro | (refine gr_setNew ?_ (by omega)))
theorem jdouble_err (id er : Int) (hne : ¬ er = 0) {T : T3}  (HG' : ∀ w b, Vr w b (prj T.1 T.2.1 T.2.2) → Cg 34 #[.int .i64 id, .slice (some ⟨b, 0, none⟩) 1 1] w (.tuple #[.agg (cu 0 0 0 0 0 0 0 0 0 false), .int .i64 er])) (w : World) :
   Cg 13 #[.int .i64 id, .agg (prj T.1 T.2.1 T.2.2)] w (.tuple #[.agg (prj 0 0 0), .int .i64 er]) := by
 have HG : Hid _ := HG'
 clear HG'
 go_enter Tryz.func13, Tryz.ntmps13
 go_upto_region 1 with fail
 refine gen_w (fun v => Hid (Gr w v ∧ Vr v (w.heap.size) (prj T.1 T.2.1 T.2.2) ∧ Vr v (w.heap.size + 1) (prj 0 0 0))) ⟨grA, vrA, vrA⟩ ?_
 intro v0 HV
 obtain ⟨G, c0, c1⟩ := HV.out
 clear HV
 refine wp_v false [.c (.int .i64 id), .c (.agg (prj T.1 T.2.1 T.2.2)), .r 1 (prj T.1 T.2.1 T.2.2), .c (.tuple #[.agg (cu 0 0 0 0 0 0 0 0 0 false), .int .i64 er]), .c (.tuple #[.agg (cu 0 0 0 0 0 0 0 0 0 false), .int .i64 er]), .c (.agg (cu 0 0 0 0 0 0 0 0 0 false)), .c (.int .i64 er), .a, .u, .c (.int .i64 er)] [1, 2, 3] [⟨7, 8, 78, cu 0 0 0 0 0 0 0 0 0 false, fun _ => cu 0 0 0 0 0 0 0 0 0 false⟩] ?hs11 ?hv11 ?hf11
 case hs11 =>
  refine .cons (.g 27 0 c0 rfl) ?_
  refine .cons (.r (.buildSlice 68 1 #[(0, .const (.agg (prj T.1 T.2.1 T.2.2)))]) rfl (rowJ1 _ _ _)) ?_
  refine .cons (.k (fun yy => #[.int .i64 id, .slice (some ⟨(yy 2 0).2, 0, none⟩) 1 1]) fun yy vv hg hh => RtW.of_c (Rt.c (HG.out _ _ (hh 2 rfl)))) .nil
 case hv11 =>
  refine .cons (.mk (fun _ _ _ => rfl) (fun _ v b H F => by dsimp only at H ⊢; simp [go_sem, exI, H, F]) zCu ⟨fkc, fkc, fkr (by simp [cu_size, prj_size]), fkc, fkc, fkc, fkc, fka, fku, fkc, trivial⟩) .nil
 intro yw1 v1 hg h1 hV1
 simp only [FW, putFrom, Act.put, lqA, lqB, lqC, wvals, kW, lqD, lqE, Kw.c, Kw.a, Kw.r, Kw.u]
 obtain ⟨⟨N1_7, V1_7⟩, -⟩ : (v0.heap.size ≤ (yw1 7 0).2 ∧ Vr v1 (yw1 7 0).2 (cu 0 0 0 0 0 0 0 0 0 false)) ∧ True := hV1
 clear h1
 replace G := G.trans hg
 replace c0 := c0.gr hg
 replace c1 := c1.gr hg
 clear hg
 go_upto_region 2 with fail
 refine wp_wS [.c (.int .i64 er), .c (.bool true)] [1] ?hs12 ?hf12
 case hs12 =>
  refine .cons (.s (.binOp .neq 36 (.const (.int .i64 er)) (.const (.int .i64 0)) 36) rfl fun vv hg => by simp [go_sem, exI, hne]) .nil
 intro yw2 v2 hg h2
 simp only [FW, putFrom, Act.put, lqA, lqB, lqC, wvals, kW, lqD, lqE, Kw.c]
 clear h2
 replace G := G.trans hg
 replace c0 := c0.gr hg
 replace c1 := c1.gr hg
 replace V1_7 := V1_7.gr hg
 clear hg
 have ⟨hh0, ff0, pp0⟩ := c0
 have ⟨p01, p02, p03, p04, p05, p06⟩ := c0.pp
 have ⟨hh1, ff1, pp1⟩ := c1
 have ⟨p11, p12, p13, p14, p15, p16⟩ := c1.pp
 have ⟨hh2, ff2, pp2⟩ := V1_7
 have ⟨p21, p22, p23, p24, p25, p26⟩ := V1_7.pp
 clear c0 c1 V1_7
 go_wp2_with fail
 refine bodyPost_ret (res_two Tryz.results13 (rd_pj (by rfl) ?_) (rd_tmp (by rfl))) rfl ⟨rfl, ?_⟩
 · simp [go_sem, *]
 · repeat (first | exact G | apply Gr.drewN | apply Gr.drew | apply Gr.alloc | apply Gr.gro | (refine gr_setNew ?_ (by omega)))
theorem jfrom_yes {k : Nat} {P : Q3} {R : T3} (HG' : ∀ w, Cg 34 #[.int .i64 (k : Int), .slice none 0 0] w (.tuple #[.agg (cu (k : Int) (pN k) (aN k) (bN k) (oN k) (xN k) (yN k) (bl (oN k)) (szN k) (lgN k)), .int .i64 0])) (HO' : ∀ w, Cg 41 #[.int .i64 (k : Int), .agg (pnt P.1 P.2.1 P.2.2)] w (.bool true)) (HA' : ∀ w, Cg 42 #[.agg (pnt P.1 P.2.1 P.2.2)] w (.agg (prj R.1 R.2.1 R.2.2))) (w : World) :
   Cg 19 #[.int .i64 (k : Int), .agg (pnt P.1 P.2.1 P.2.2)] w (.tuple #[.agg (prj R.1 R.2.1 R.2.2), .int .i64 0]) := by
 have HG : Hid _ := HG'
 have HO : Hid _ := HO'
 have HA : Hid _ := HA'
 clear HG' HO' HA'
 go_enter Tryz.func19, Tryz.ntmps19
 go_upto_region 1 with fail
 refine gen_w (fun v => Hid (Gr w v ∧ Vr v (w.heap.size) (pnt P.1 P.2.1 P.2.2) ∧ Vr v (w.heap.size + 1) (prj 0 0 0))) ⟨grA, vrA, vrA⟩ ?_
 intro v0 HV
 obtain ⟨G, c0, c1⟩ := HV.out
 clear HV
 refine wp_v false [.c (.int .i64 (k : Int)), .c (.tuple #[.agg (cu (k : Int) (pN k) (aN k) (bN k) (oN k) (xN k) (yN k) (bl (oN k)) (szN k) (lgN k)), .int .i64 0]), .c (.tuple #[.agg (cu (k : Int) (pN k) (aN k) (bN k) (oN k) (xN k) (yN k) (bl (oN k)) (szN k) (lgN k)), .int .i64 0]), .c (.agg (cu (k : Int) (pN k) (aN k) (bN k) (oN k) (xN k) (yN k) (bl (oN k)) (szN k) (lgN k))), .c (.int .i64 0), .a, .u, .c (.int .i64 0)] [1] [⟨5, 6, 78, cu 0 0 0 0 0 0 0 0 0 false, fun _ => cu (k : Int) (pN k) (aN k) (bN k) (oN k) (xN k) (yN k) (bl (oN k)) (szN k) (lgN k)⟩] ?hs13 ?hv13 ?hf13
 case hs13 =>
  refine .cons (.k (fun yy => #[.int .i64 (k : Int), Value.slice none 0 0]) fun yy vv hg hh => RtW.of_c (Rt.c (HG.out _))) .nil
 case hv13 =>
  refine .cons (.mk (fun _ _ _ => rfl) (fun _ v b H F => by dsimp only at H ⊢; simp [go_sem, exI, H, F]) zCu ⟨fkc, fkc, fkc, fkc, fkc, fka, fku, fkc, trivial⟩) .nil
 intro yw1 v1 hg h1 hV1
 simp only [FW, putFrom, Act.put, lqA, lqB, lqC, wvals, kW, lqD, lqE, Kw.c, Kw.a, Kw.u]
 obtain ⟨⟨N1_5, V1_5⟩, -⟩ : (v0.heap.size ≤ (yw1 5 0).2 ∧ Vr v1 (yw1 5 0).2 (cu (k : Int) (pN k) (aN k) (bN k) (oN k) (xN k) (yN k) (bl (oN k)) (szN k) (lgN k))) ∧ True := hV1
 clear h1
 replace G := G.trans hg
 replace c0 := c0.gr hg
 replace c1 := c1.gr hg
 clear hg
 go_upto_region 2 with fail
 refine wp_wS [.c (.int .i64 0), .c (.bool false)] [] ?hs14 ?hf14
 case hs14 => exact .nil
 intro yw2 v2 hg h2
 simp only [FW, putFrom, Act.put, lqA, lqB, lqC, wvals, kW, lqD, lqE, Kw.c]
 clear h2
 replace G := G.trans hg
 replace c0 := c0.gr hg
 replace c1 := c1.gr hg
 replace V1_5 := V1_5.gr hg
 clear hg
 have ⟨hh0, ff0, pp0⟩ := c0
 have ⟨p01, p02, p03, p04, p05, p06⟩ := c0.pp
 have ⟨hh1, ff1, pp1⟩ := c1
 have ⟨p11, p12, p13, p14, p15, p16⟩ := c1.pp
 have ⟨hh2, ff2, pp2⟩ := V1_5
 have ⟨p21, p22, p23, p24, p25, p26⟩ := V1_5.pp
 clear c0 c1 V1_5
 go_wp2_with (first | (go_at_call 41; refine (HO.out _).mono ?_; rintro e w' ⟨rfl, g, rfl⟩) | (go_at_call 42; refine (HA.out _).mono ?_; rintro e w' ⟨rfl, g2, rfl⟩))
 refine bodyPost_ret (res_two Tryz.results19 (rd_pj (by rfl) ?_) (rd_tmp (by rfl))) rfl ⟨rfl, ?_⟩
 · simp [go_sem, *]
 · repeat (first | exact G | apply Gr.drewN | apply Gr.drew | apply Gr.alloc | apply Gr.gro | (refine gr_setNew ?_ (by omega)))
theorem jfrom_off {k : Nat} {P : Q3}  (HG' : ∀ w, Cg 34 #[.int .i64 (k : Int), .slice none 0 0] w (.tuple #[.agg (cu (k : Int) (pN k) (aN k) (bN k) (oN k) (xN k) (yN k) (bl (oN k)) (szN k) (lgN k)), .int .i64 0])) (HO' : ∀ w, Cg 41 #[.int .i64 (k : Int), .agg (pnt P.1 P.2.1 P.2.2)] w (.bool false)) (w : World) :
   Cg 19 #[.int .i64 (k : Int), .agg (pnt P.1 P.2.1 P.2.2)] w (.tuple #[.agg (prj 0 0 0), .int .i64 1501]) := by
 have HG : Hid _ := HG'
 have HO : Hid _ := HO'
 clear HG' HO'
 go_enter Tryz.func19, Tryz.ntmps19
 go_upto_region 1 with fail
 refine gen_w (fun v => Hid (Gr w v ∧ Vr v (w.heap.size) (pnt P.1 P.2.1 P.2.2) ∧ Vr v (w.heap.size + 1) (prj 0 0 0))) ⟨grA, vrA, vrA⟩ ?_
 intro v0 HV
 obtain ⟨G, c0, c1⟩ := HV.out
 clear HV
 refine wp_v false [.c (.int .i64 (k : Int)), .c (.tuple #[.agg (cu (k : Int) (pN k) (aN k) (bN k) (oN k) (xN k) (yN k) (bl (oN k)) (szN k) (lgN k)), .int .i64 0]), .c (.tuple #[.agg (cu (k : Int) (pN k) (aN k) (bN k) (oN k) (xN k) (yN k) (bl (oN k)) (szN k) (lgN k)), .int .i64 0]), .c (.agg (cu (k : Int) (pN k) (aN k) (bN k) (oN k) (xN k) (yN k) (bl (oN k)) (szN k) (lgN k))), .c (.int .i64 0), .a, .u, .c (.int .i64 0)] [1] [⟨5, 6, 78, cu 0 0 0 0 0 0 0 0 0 false, fun _ => cu (k : Int) (pN k) (aN k) (bN k) (oN k) (xN k) (yN k) (bl (oN k)) (szN k) (lgN k)⟩] ?hs15 ?hv15 ?hf15
 case hs15 =>
  refine .cons (.k (fun yy => #[.int .i64 (k : Int), Value.slice none 0 0]) fun yy vv hg hh => RtW.of_c (Rt.c (HG.out _))) .nil
 case hv15 =>
  refine .cons (.mk (fun _ _ _ => rfl) (fun _ v b H F => by dsimp only at H ⊢; simp [go_sem, exI, H, F]) zCu ⟨fkc, fkc, fkc, fkc, fkc, fka, fku, fkc, trivial⟩) .nil
 intro yw1 v1 hg h1 hV1
 simp only [FW, putFrom, Act.put, lqA, lqB, lqC, wvals, kW, lqD, lqE, Kw.c, Kw.a, Kw.u]
 obtain ⟨⟨N1_5, V1_5⟩, -⟩ : (v0.heap.size ≤ (yw1 5 0).2 ∧ Vr v1 (yw1 5 0).2 (cu (k : Int) (pN k) (aN k) (bN k) (oN k) (xN k) (yN k) (bl (oN k)) (szN k) (lgN k))) ∧ True := hV1
 clear h1
 replace G := G.trans hg
 replace c0 := c0.gr hg
 replace c1 := c1.gr hg
 clear hg
 go_upto_region 2 with fail
 refine wp_wS [.c (.int .i64 0), .c (.bool false)] [] ?hs16 ?hf16
 case hs16 => exact .nil
 intro yw2 v2 hg h2
 simp only [FW, putFrom, Act.put, lqA, lqB, lqC, wvals, kW, lqD, lqE, Kw.c]
 clear h2
 replace G := G.trans hg
 replace c0 := c0.gr hg
 replace c1 := c1.gr hg
 replace V1_5 := V1_5.gr hg
 clear hg
 have ⟨hh0, ff0, pp0⟩ := c0
 have ⟨p01, p02, p03, p04, p05, p06⟩ := c0.pp
 have ⟨hh1, ff1, pp1⟩ := c1
 have ⟨p11, p12, p13, p14, p15, p16⟩ := c1.pp
 have ⟨hh2, ff2, pp2⟩ := V1_5
 have ⟨p21, p22, p23, p24, p25, p26⟩ := V1_5.pp
 clear c0 c1 V1_5
 go_wp2_with (go_at_call 41; refine (HO.out _).mono ?_; rintro e w' ⟨rfl, g, rfl⟩)
 refine bodyPost_ret (res_two Tryz.results19 (rd_pj (by rfl) ?_) (rd_tmp (by rfl))) rfl ⟨rfl, ?_⟩
 · simp [go_sem, *]
 · repeat (first | exact G | apply Gr.drewN | apply Gr.drew | apply Gr.alloc | apply Gr.gro | (refine gr_setNew ?_ (by omega)))
theorem jfrom_err (id er : Int) (hne : ¬ er = 0) {P : Q3}  (HG' : ∀ w, Cg 34 #[.int .i64 id, .slice none 0 0] w (.tuple #[.agg (cu 0 0 0 0 0 0 0 0 0 false), .int .i64 er])) (w : World) :
   Cg 19 #[.int .i64 id, .agg (pnt P.1 P.2.1 P.2.2)] w (.tuple #[.agg (prj 0 0 0), .int .i64 er]) := by
 have HG : Hid _ := HG'
 clear HG'
 go_enter Tryz.func19, Tryz.ntmps19
 go_upto_region 1 with fail
 refine gen_w (fun v => Hid (Gr w v ∧ Vr v (w.heap.size) (pnt P.1 P.2.1 P.2.2) ∧ Vr v (w.heap.size + 1) (prj 0 0 0))) ⟨grA, vrA, vrA⟩ ?_
 intro v0 HV
 obtain ⟨G, c0, c1⟩ := HV.out
 clear HV
 refine wp_v false [.c (.int .i64 id), .c (.tuple #[.agg (cu 0 0 0 0 0 0 0 0 0 false), .int .i64 er]), .c (.tuple #[.agg (cu 0 0 0 0 0 0 0 0 0 false), .int .i64 er]), .c (.agg (cu 0 0 0 0 0 0 0 0 0 false)), .c (.int .i64 er), .a, .u, .c (.int .i64 er)] [1] [⟨5, 6, 78, cu 0 0 0 0 0 0 0 0 0 false, fun _ => cu 0 0 0 0 0 0 0 0 0 false⟩] ?hs17 ?hv17 ?hf17
 case hs17 =>
  refine .cons (.k (fun yy => #[.int .i64 id, Value.slice none 0 0]) fun yy vv hg hh => RtW.of_c (Rt.c (HG.out _))) .nil
 case hv17 =>
  refine .cons (.mk (fun _ _ _ => rfl) (fun _ v b H F => by dsimp only at H ⊢; simp [go_sem, exI, H, F]) zCu ⟨fkc, fkc, fkc, fkc, fkc, fka, fku, fkc, trivial⟩) .nil
 intro yw1 v1 hg h1 hV1
 simp only [FW, putFrom, Act.put, lqA, lqB, lqC, wvals, kW, lqD, lqE, Kw.c, Kw.a, Kw.u]
 obtain ⟨⟨N1_5, V1_5⟩, -⟩ : (v0.heap.size ≤ (yw1 5 0).2 ∧ Vr v1 (yw1 5 0).2 (cu 0 0 0 0 0 0 0 0 0 false)) ∧ True := hV1
 clear h1
 replace G := G.trans hg
 replace c0 := c0.gr hg
 replace c1 := c1.gr hg
 clear hg
 go_upto_region 2 with fail
 refine wp_wS [.c (.int .i64 er), .c (.bool true)] [1] ?hs18 ?hf18
 case hs18 =>
  refine .cons (.s (.binOp .neq 36 (.const (.int .i64 er)) (.const (.int .i64 0)) 36) rfl fun vv hg => by simp [go_sem, exI, hne]) .nil
 intro yw2 v2 hg h2
 simp only [FW, putFrom, Act.put, lqA, lqB, lqC, wvals, kW, lqD, lqE, Kw.c]
 clear h2
 replace G := G.trans hg
 replace c0 := c0.gr hg
 replace c1 := c1.gr hg
 replace V1_5 := V1_5.gr hg
 clear hg
 have ⟨hh0, ff0, pp0⟩ := c0
 have ⟨p01, p02, p03, p04, p05, p06⟩ := c0.pp
 have ⟨hh1, ff1, pp1⟩ := c1
 have ⟨p11, p12, p13, p14, p15, p16⟩ := c1.pp
 have ⟨hh2, ff2, pp2⟩ := V1_5
 have ⟨p21, p22, p23, p24, p25, p26⟩ := V1_5.pp
 clear c0 c1 V1_5
 go_wp2_with fail
 refine bodyPost_ret (res_two Tryz.results19 (rd_pj (by rfl) ?_) (rd_tmp (by rfl))) rfl ⟨rfl, ?_⟩
 · simp [go_sem, *]
 · repeat (first | exact G | apply Gr.drewN | apply Gr.drew | apply Gr.alloc | apply Gr.gro | (refine gr_setNew ?_ (by omega)))
end
end
section
theorem eqF0 {k : Nat} (h1 : 1 ≤ k) (h2 : k ≤ 15) [NeZero (pN k)] (a : Fin (pN k)) : eqN 9 a.val 0 = decide (a = 0) := by
 rw [eqN9 _ _ (Nat.lt_trans a.isLt (pN_M k)) (Nat.lt_trans (Nat.lt_of_lt_of_le (by decide) (prm_pN k h1 h2).1) (pN_M k))]
 exact decide_eq_decide.2 ⟨fun e => Fin.ext (e.trans (Fin.val_zero _).symm), fun e => by rw [e]; exact Fin.val_zero _⟩
theorem belowT {k : Nat} {N X Y : Nat} {s z : Int} {l : Bool} {A B X1 Y1 Z1 : Fin (pN k)} (w : World) (q : Nat) (hv : Vr w q (nw 9 X1.val ++ nw 9 Y1.val ++ nw 9 Z1.val)) :
   Cg 69 #[.agg (cu (k : Int) (pN k) A.val B.val N X Y s z l), .slice (some ⟨q, 0, none⟩) 3 3] w (.bool true) :=
 jbelow_yes (k : Int) (pN k) A.val B.val N X Y s z l (pN_M k) 3 (by decide) (fun i => match i with | 0 => X1.val | 1 => Y1.val | _ => Z1.val)
   (fun i _ => match i with | 0 => Nat.lt_trans X1.isLt (pN_M k) | 1 => Nat.lt_trans Y1.isLt (pN_M k) | _ + 2 => Nat.lt_trans Z1.isLt (pN_M k)) _
   (fun i hi => by
     obtain rfl | rfl | rfl : i = 0 ∨ i = 1 ∨ i = 2 := by omega
     · kernel_rfl
     · kernel_rfl
     · kernel_rfl) (by simp [nw_size]) (fun i _ => match i with | 0 => X1.isLt | 1 => Y1.isLt | _ + 2 => Z1.isLt) q 3 w hv
theorem belowF {k : Nat} {N X Y : Nat} {s z : Int} {l : Bool} {A B : Fin (pN k)} (x y z1 : Nat) (lx : x < M) (ly : y < M) (lz : z1 < M) (h : ¬ (x < pN k ∧ y < pN k ∧ z1 < pN k)) (w : World) (q : Nat) (hv : Vr w q (nw 9 x ++ nw 9 y ++ nw 9 z1)) :
   Cg 69 #[.agg (cu (k : Int) (pN k) A.val B.val N X Y s z l), .slice (some ⟨q, 0, none⟩) 3 3] w (.bool false) := by
 obtain ⟨m, hm, h1, h2⟩ : ∃ m, m < 3 ∧ pN k ≤ (fun i => match i with | 0 => x | 1 => y | _ => z1 : Nat → Nat) m ∧ ∀ i, i < m → (fun i => match i with | 0 => x | 1 => y | _ => z1 : Nat → Nat) i < pN k := by
   by_cases hx : x < pN k
   · by_cases hy : y < pN k
     · refine ⟨2, by decide, Nat.le_of_not_lt fun hz => h ⟨hx, hy, hz⟩, fun i hi => ?_⟩
       obtain rfl | rfl : i = 0 ∨ i = 1 := by omega
       · exact hx
       · exact hy
     · refine ⟨1, by decide, Nat.le_of_not_lt hy, fun i hi => ?_⟩
       obtain rfl : i = 0 := by omega
       exact hx
   · exact ⟨0, by decide, Nat.le_of_not_lt hx, fun i hi => absurd hi (Nat.not_lt_zero i)⟩
 exact jbelow_off (k : Int) (pN k) A.val B.val N X Y s z l (pN_M k) 3 (by decide) (fun i => match i with | 0 => x | 1 => y | _ => z1)
   (fun i _ => match i with | 0 => lx | 1 => ly | _ + 2 => lz) _
   (fun i hi => by
     obtain rfl | rfl | rfl : i = 0 ∨ i = 1 ∨ i = 2 := by omega
     · kernel_rfl
     · kernel_rfl
     · kernel_rfl) (by simp [nw_size]) m hm h1 h2 q 3 w hv
theorem holdsT {k : Nat} (h1 : 1 ≤ k) (h2 : k ≤ 15) {T : T3} {Q : Q3} (h : TrQ k T Q) (w : World) :
   Cg 55 #[.agg (cuN k), .agg (pjT T)] w (.bool true) := by
 haveI := EC.nzP k h1 h2
 have h' := h
 obtain ⟨-, X, Y, Z, rfl, -⟩ := h'
 obtain ⟨t1, t2⟩ := tr_tri h1 h2 h
 have e : Y * Y * Z = X * X * X + EC.aF k h1 h2 * X * Z * Z + EC.bF k h1 h2 * Z * Z * Z := by rw [t2]; clear t2 h; grobner
 exact jholds_2 (A := EC.aF k h1 h2) (B := EC.bF k h1 h2) _ _ true (by
   rw [eqF0 h1 h2, eqF0 h1 h2, eqF0 h1 h2]
   simp only [Bool.and_eq_false_iff, decide_eq_false_iff_not]
   by_cases hx : X = 0
   · by_cases hy : Y = 0
     · exact .inr (.inr fun hz => t1 ⟨hx, hy, hz⟩)
     · exact .inr (.inl hy)
   · exact .inl hx) (fun w q hv => belowT w q hv) (fun w => jleft h1 h2 rfl w) (fun w => jright h1 h2 rfl rfl rfl rfl w) (by rw [e]; exact eqN_self _ _) w
theorem holdsF {k : Nat} (h1 : 1 ≤ k) (h2 : k ≤ 15) {T : T3} (lT : T.1 < M ∧ T.2.1 < M ∧ T.2.2 < M) (h : ∀ Q, ¬ TrQ k T Q) (w : World) :
   Cg 55 #[.agg (cuN k), .agg (pjT T)] w (.bool false) := by
 haveI := EC.nzP k h1 h2
 obtain ⟨x, y, z⟩ := T
 obtain ⟨lx, ly, lz⟩ := lT
 have l0 : 0 < M := Nat.lt_of_le_of_lt (Nat.zero_le _) lx
 by_cases h0 : x = 0 ∧ y = 0 ∧ z = 0
 · obtain ⟨rfl, rfl, rfl⟩ := h0
   exact jholds_0 (A := EC.aF k h1 h2) (B := EC.bF k h1 h2) w
 have hne : (eqN 9 x 0 && (eqN 9 y 0 && eqN 9 z 0)) = false := by
   rw [eqN9 _ _ lx l0, eqN9 _ _ ly l0, eqN9 _ _ lz l0]
   simp only [Bool.and_eq_false_iff, decide_eq_false_iff_not]
   by_cases hx : x = 0
   · by_cases hy : y = 0
     · exact .inr (.inr fun hz => h0 ⟨hx, hy, hz⟩)
     · exact .inr (.inl hy)
   · exact .inl hx
 by_cases hb : x < pN k ∧ y < pN k ∧ z < pN k
 · obtain ⟨X, rfl⟩ : ∃ X : Fin (pN k), x = X.val := ⟨⟨x, hb.1⟩, rfl⟩
   obtain ⟨Y, rfl⟩ : ∃ Y : Fin (pN k), y = Y.val := ⟨⟨y, hb.2.1⟩, rfl⟩
   obtain ⟨Z, rfl⟩ : ∃ Z : Fin (pN k), z = Z.val := ⟨⟨z, hb.2.2⟩, rfl⟩
   have ht : ¬ EC.Tri (EC.aF k h1 h2) (EC.bF k h1 h2) X Y Z := fun t => h _ (tri_tr h1 h2 t)
   have hz : ¬ (X = 0 ∧ Y = 0 ∧ Z = 0) := fun ⟨a, b, c⟩ => h0 ⟨by rw [a]; exact Fin.val_zero _, by rw [b]; exact Fin.val_zero _, by rw [c]; exact Fin.val_zero _⟩
   refine jholds_2 (A := EC.aF k h1 h2) (B := EC.bF k h1 h2) _ _ false hne (fun w q hv => belowT w q hv) (fun w => jleft h1 h2 rfl w) (fun w => jright h1 h2 rfl rfl rfl rfl w) ?_ w
   rw [eqN9 _ _ (Nat.lt_trans (Fin.isLt _) (pN_M k)) (Nat.lt_trans (Fin.isLt _) (pN_M k))]
   refine decide_eq_false fun e => ht ⟨hz, ?_⟩
   rw [Fin.ext e]
   clear e
   grobner
 · exact jholds_1 (A := EC.aF k h1 h2) (B := EC.bF k h1 h2) x y z hne (fun w q hv => belowF x y z lx ly lz hb w q hv) w
theorem rowT1 {T : T3} (i : Nat) (hi : i < 1) : (pjT T).extract (i * 27) (i * 27 + 27) = pjT ((fun _ => T : Nat → T3) i) := by
 obtain rfl : i = 0 := by omega
 kernel_rfl
theorem rowT2 {S T : T3} (i : Nat) (hi : i < 2) : (pjT S ++ pjT T).extract (i * 27) (i * 27 + 27) = pjT ((fun i => match i with | 0 => S | _ => T : Nat → T3) i) := by
 obtain rfl | rfl : i = 0 ∨ i = 1 := by omega
 · kernel_rfl
 · kernel_rfl
theorem jgf1 {k : Nat} (h1 : 1 ≤ k) (h2 : k ≤ 15) {T : T3} {Q : Q3} (hT : TrQ k T Q) (w : World) (b : Nat) (hv : Vr w b (pjT T)) : Cg 34 #[.int .i64 (k : Int), .slice (some ⟨b, 0, none⟩) 1 1] w (.tuple #[.agg (cuN k), .int .i64 0]) :=
 jgf_yes h1 h2 1 (by decide) (fun _ => T) _ rowT1 (by simp [prj_size]) (fun _ _ w => holdsT h1 h2 hT w) b 1 w hv
theorem jgf1_off {k : Nat} (h1 : 1 ≤ k) (h2 : k ≤ 15) {T : T3} (lT : T.1 < M ∧ T.2.1 < M ∧ T.2.2 < M) (hT : ∀ Q, ¬ TrQ k T Q) (w : World) (b : Nat) (hv : Vr w b (pjT T)) : Cg 34 #[.int .i64 (k : Int), .slice (some ⟨b, 0, none⟩) 1 1] w (.tuple #[.agg (cu 0 0 0 0 0 0 0 0 0 false), .int .i64 1501]) :=
 jgf_off h1 h2 1 (by decide) (fun _ => T) _ rowT1 (by simp [prj_size]) 0 (by decide) (fun w => holdsF h1 h2 lT hT w) (fun i h => absurd h (Nat.not_lt_zero i)) b 1 w hv
theorem jgf2 {k : Nat} (h1 : 1 ≤ k) (h2 : k ≤ 15) {S T : T3} {P Q : Q3} (hS : TrQ k S P) (hT : TrQ k T Q) (w : World) (b : Nat) (hv : Vr w b (pjT S ++ pjT T)) : Cg 34 #[.int .i64 (k : Int), .slice (some ⟨b, 0, none⟩) 2 2] w (.tuple #[.agg (cuN k), .int .i64 0]) :=
 jgf_yes h1 h2 2 (by decide) (fun i => match i with | 0 => S | _ => T) _ rowT2 (by simp [prj_size]) (fun i _ w => match i with | 0 => holdsT h1 h2 hS w | _ + 1 => holdsT h1 h2 hT w) b 2 w hv
theorem jgf2_off {k : Nat} (h1 : 1 ≤ k) (h2 : k ≤ 15) {S T : T3} (lS : S.1 < M ∧ S.2.1 < M ∧ S.2.2 < M) (lT : T.1 < M ∧ T.2.1 < M ∧ T.2.2 < M) (h : (∀ Q, ¬ TrQ k S Q) ∨ (∀ Q, ¬ TrQ k T Q)) (w : World) (b : Nat) (hv : Vr w b (pjT S ++ pjT T)) : Cg 34 #[.int .i64 (k : Int), .slice (some ⟨b, 0, none⟩) 2 2] w (.tuple #[.agg (cu 0 0 0 0 0 0 0 0 0 false), .int .i64 1501]) := by
 by_cases hS : ∃ Q, TrQ k S Q
 · obtain ⟨Q, hS⟩ := hS
   have hT := h.resolve_left fun g => g Q hS
   exact jgf_off h1 h2 2 (by decide) (fun i => match i with | 0 => S | _ => T) _ rowT2 (by simp [prj_size]) 1 (by decide) (fun w => holdsF h1 h2 lT hT w) (fun i hi w => by
     obtain rfl : i = 0 := by omega
     exact holdsT h1 h2 hS w) b 2 w hv
 · exact jgf_off h1 h2 2 (by decide) (fun i => match i with | 0 => S | _ => T) _ rowT2 (by simp [prj_size]) 0 (by decide) (fun w => holdsF h1 h2 lS (fun Q g => hS ⟨Q, g⟩) w) (fun i h => absurd h (Nat.not_lt_zero i)) b 2 w hv
theorem pointQ {k : Nat} (h1 : 1 ≤ k) (h2 : k ≤ 15) {T : T3} {Q : Q3} (hT : TrQ k T Q) (w : World) : Cg 35 #[.agg (cuN k), .agg (pjT T)] w (.agg (pnQ Q)) := by
 haveI := EC.nzP k h1 h2
 have e := hT.pt h1 h2
 obtain ⟨-, X, Y, Z, rfl, -⟩ := hT
 rw [ptT_is] at e
 by_cases hz : Z = 0
 · rw [if_pos hz] at e
   subst e hz
   have h := jpt_inf (k := k) (A := EC.aF k h1 h2) (B := EC.bF k h1 h2) (N := oN k) (X := xN k) (Y := yN k) (s := bl (oN k)) (z := szN k) (l := lgN k) X.val Y.val w
   rw [← Fin.val_zero (pN k)] at h
   exact h
 · rw [if_neg hz] at e
   subst e
   exact jpt_fin h1 h2 (A := EC.aF k h1 h2) (B := EC.bF k h1 h2) (by rw [eqF0 h1 h2]; exact decide_eq_false hz) (fun w => finvF h1 h2 Z hz w) rfl rfl w
theorem gaddT {k : Nat} (h1 : 1 ≤ k) (h2 : k ≤ 15) {S T R : T3} {P Q : Q3} (hS : TrQ k S P) (hT : TrQ k T Q) (hR : addT k S T = R) (w : World) : Cg 36 #[.agg (cuN k), .agg (pjT S), .agg (pjT T)] w (.agg (pjT R)) := by
 haveI := EC.nzP k h1 h2
 subst hR
 obtain ⟨-, X1, Y1, Z1, rfl, -⟩ := hS
 obtain ⟨-, X2, Y2, Z2, rfl, -⟩ := hT
 rw [addT_is h1 h2]
 exact jadd_of h1 h2 (A := EC.aF k h1 h2) (B := EC.bF k h1 h2) (X3 := EC.pX (EC.aF k h1 h2) (EC.bF k h1 h2) X1 Y1 Z1 X2 Y2 Z2) (Y3 := EC.pY (EC.aF k h1 h2) (EC.bF k h1 h2) X1 Y1 Z1 X2 Y2 Z2) (Z3 := EC.pZ (EC.aF k h1 h2) (EC.bF k h1 h2) X1 Y1 Z1 X2 Y2 Z2)
   rfl rfl rfl rfl rfl rfl rfl rfl rfl rfl rfl rfl rfl rfl rfl rfl rfl rfl rfl rfl rfl rfl rfl rfl rfl rfl (by unfold EC.pX; grobner) rfl rfl (by unfold EC.pY; grobner) rfl rfl (by unfold EC.pZ; grobner) w
def frT (P : Q3) : T3 := cond P.2.2 (0, 1, 0) (P.1, P.2.1, 1)
theorem frT_tr {k : Nat} (h1 : 1 ≤ k) (h2 : k ≤ 15) {P : Q3} (hP : OnQ k P) : TrQ k (frT P) P := by
 rcases hP.cases with rfl | ⟨x, y, rfl, -⟩
 · exact inf_tr h1 h2 (prm_pN k h1 h2).1 (by decide)
 · exact one_tr h1 h2 hP
theorem triQ (P : Q3) (w : World) : Cg 42 #[.agg (pnQ P)] w (.agg (pjT (frT P))) := by
 obtain ⟨x, y, f⟩ := P
 cases f with
 | true => exact jtri_inf x y w
 | false => exact jtri_fin x y w
theorem fromQ {k : Nat} (h1 : 1 ≤ k) (h2 : k ≤ 15) {P : Q3} {T : T3} (hP : OnQ k P) (hT : frT P = T) (w : World) : Cg 19 #[.int .i64 (k : Int), .agg (pnQ P)] w (.tuple #[.agg (pjT T), .int .i64 0]) := by
 subst hT
 exact jfrom_yes (fun w => jgf_nil h1 h2 w) (fun w => (show onB k P.1 P.2.1 P.2.2 = true from hP) ▸ on13_yes k h1 h2 _ _ P.2.2 hP.lt.1 hP.lt.2 w) (triQ P) w
theorem from_off {k : Nat} (h1 : 1 ≤ k) (h2 : k ≤ 15) {P : Q3} (lP : P.1 < M ∧ P.2.1 < M) (hP : onB k P.1 P.2.1 P.2.2 = false) (w : World) : Cg 19 #[.int .i64 (k : Int), .agg (pnQ P)] w (.tuple #[.agg (prj 0 0 0), .int .i64 1501]) :=
 jfrom_off (fun w => jgf_nil h1 h2 w) (fun w => hP ▸ on13_yes k h1 h2 _ _ P.2.2 lP.1 lP.2 w) w
theorem toQ {k : Nat} (h1 : 1 ≤ k) (h2 : k ≤ 15) {T : T3} {Q : Q3} (hT : TrQ k T Q) (w : World) : Cg 11 #[.int .i64 (k : Int), .agg (pjT T)] w (.tuple #[.agg (pnQ Q), .int .i64 0]) :=
 jto_yes (jgf1 h1 h2 hT) (pointQ h1 h2 hT) w
theorem to_off {k : Nat} (h1 : 1 ≤ k) (h2 : k ≤ 15) {T : T3} (lT : T.1 < M ∧ T.2.1 < M ∧ T.2.2 < M) (hT : ∀ Q, ¬ TrQ k T Q) (w : World) : Cg 11 #[.int .i64 (k : Int), .agg (pjT T)] w (.tuple #[.agg (pnt 0 0 false), .int .i64 1501]) :=
 jto_err _ _ (by decide) (jgf1_off h1 h2 lT hT) w
theorem jaddQ {k : Nat} (h1 : 1 ≤ k) (h2 : k ≤ 15) {S T R : T3} {P Q : Q3} (hS : TrQ k S P) (hT : TrQ k T Q) (hR : addT k S T = R) (w : World) : Cg 12 #[.int .i64 (k : Int), .agg (pjT S), .agg (pjT T)] w (.tuple #[.agg (pjT R), .int .i64 0]) :=
 jadd_yes (jgf2 h1 h2 hS hT) (gaddT h1 h2 hS hT hR) w
theorem jadd_off {k : Nat} (h1 : 1 ≤ k) (h2 : k ≤ 15) {S T : T3} (lS : S.1 < M ∧ S.2.1 < M ∧ S.2.2 < M) (lT : T.1 < M ∧ T.2.1 < M ∧ T.2.2 < M) (h : (∀ Q, ¬ TrQ k S Q) ∨ (∀ Q, ¬ TrQ k T Q)) (w : World) : Cg 12 #[.int .i64 (k : Int), .agg (pjT S), .agg (pjT T)] w (.tuple #[.agg (prj 0 0 0), .int .i64 1501]) :=
 jadd_err _ _ (by decide) (jgf2_off h1 h2 lS lT h) w
theorem jdblQ {k : Nat} (h1 : 1 ≤ k) (h2 : k ≤ 15) {T R : T3} {Q : Q3} (hT : TrQ k T Q) (hR : addT k T T = R) (w : World) : Cg 13 #[.int .i64 (k : Int), .agg (pjT T)] w (.tuple #[.agg (pjT R), .int .i64 0]) :=
 jdouble_yes (jgf1 h1 h2 hT) (gaddT h1 h2 hT hT hR) w
theorem jdbl_off {k : Nat} (h1 : 1 ≤ k) (h2 : k ≤ 15) {T : T3} (lT : T.1 < M ∧ T.2.1 < M ∧ T.2.2 < M) (hT : ∀ Q, ¬ TrQ k T Q) (w : World) : Cg 13 #[.int .i64 (k : Int), .agg (pjT T)] w (.tuple #[.agg (prj 0 0 0), .int .i64 1501]) :=
 jdouble_err _ _ (by decide) (jgf1_off h1 h2 lT hT) w
theorem from_no (x : Int) (h : x < 1 ∨ 15 < x) (P : Q3) (w : World) : Cg 19 #[.int .i64 x, .agg (pnQ P)] w (.tuple #[.agg (prj 0 0 0), .int .i64 1500]) := jfrom_err _ _ (by decide) (fun w => jgf_no x h _ _ _ w) w
end
section
attribute [local go_sem ↓] loadNat_is loadArr_is loadWide_is loadArrW_is storeNat_is storeWide_is
attribute [local go_sem] loadNat loadArr loadWide loadArrW storeNat storeWide idxArr fold9 fold18 nw_size nw_elem pre_self pre_1 pre_2 pre_3 pre_4 pre_5 pre_6 pre_7 pre_8 pre_9 pre_10 pre_11 pre_12 pre_13 pre_14 pre_15 pre_16 pre_17 pre_18 pre_19 pre_20 pre_21 pre_22 pre_23 pre_24 pre_25 pre_26 pre_27 pre_28 pre_29 pre_30 pre_31 pre_32 pre_33 pre_34 pre_35 pre_36 pre_37 pre_38 pre_39 pre_40 gro_size gro_drew gro_drewN drew_gro drewN_gro gro_gro blk_gro frz_gro blk_drew frz_drew blk_drewN frz_drewN blk_alloc_at frz_alloc_at blk_alloc frz_alloc cell_gro frozen_gro cell_alloc_pre frozen_alloc_pre setCell_drewN alloc_drewN setBlk_drew setBlk_drewN setBlk_alloc_at setBlk_alloc setBlk_gro setCell_gro setCell_alloc_pre size_setBlk size_setCell
section
attribute [local go_sem] ppre_1 ppre_2 ppre_3 ppre_4 ppre_5 ppre_6
attribute [local go_sem ↓] bsl_is loadC_is storeC_is loadPt_is storePt_is zvPt_is buildPt_is loadPn_is storePn_is zvPn_is loadCu_is storeCu_is zvCu_is buildCu_is buildPn_is Go.wp_at_zero Go.wp_at_succ
attribute [local go_sem] loadC storeC0 storeCr crA_size loadPt storePt zvPt ptA_size loadPn storePn zvPn pnt_size loadCu storeCu zvCu cu_size buildCu0 buildPnI buildPn2 loadCP loadCA loadCB loadCN loadCG loadCX loadCY cu_P cu_A cu_B cu_N cu_G cu_X cu_Y frz_setBlk blk_setBlk setBlk_setBlk blk_other
theorem rg_any {k : Nat} (qc : Nat → Option Addr × Nat) (w : World) (HQ : ∀ j, Sl w (qc j).1 (nN k j)) : Calls Tryz.prog 26 #[.agg (crA (k : Int) (nN k) qc)] w (Rt (.pt (xN k) (yN k) false) w) := by
 go_enter Tryz.func26, Tryz.ntmps26
 go_upto_region 1 with fail
 refine gen_w (fun v => Gr w v ∧ Vr v (w.heap.size) (crA (k : Int) (nN k) qc) ∧ Vr v (w.heap.size + 1) (ptA none 0 0 none 0 0 false)) ⟨grA, vrA, vrA⟩ ?_
 rintro v0 ⟨G, c1, c2⟩
 replace HQ := fun k => (HQ k).gr G
 refine wp_wTS 5 [.c (pv (w.heap.size) 5), .c (.slice (qc 4).1 (dl (xN k)) (qc 4).2), .c (pv (w.heap.size) 6), .c (.slice (qc 5).1 (dl (yN k)) (qc 5).2), .pt (xN k) (yN k) false] [1, 3, 4] ?hs1 ?hf1
 case hs1 =>
  refine .cons (.o 29 5 c1 rfl rfl) ?_
  refine .cons (.o 29 6 c1 rfl rfl) ?_
  refine .cons (.p (fun yy i => match i with | 0 => ((qc 4).1, (qc 4).2) | _ => ((qc 5).1, (qc 5).2)) fun yy vv hg hh => ⟨((HQ 4).gr hg), ((HQ 5).gr hg)⟩) .nil
 refine .s 45 (fun yy => .pointer (some ⟨w.heap.size + 1, 0, none⟩)) (fun yy => .agg (ptA (yy 4 0).1 (xN k) (yy 4 0).2 (yy 4 1).1 (yN k) (yy 4 1).2 false)) fun yw1 v1 hg h1 => ?_
 have HT := (c2.gr hg).h
 have FT := (c2.gr hg).f
 refine ⟨setBlk v1 (w.heap.size + 1) (ptA (yw1 4 0).1 (xN k) (yw1 4 0).2 (yw1 4 1).1 (yN k) (yw1 4 1).2 false), by simp [go_sem, exI, HT, FT], ?_⟩
 simp only [FW, putFrom, Act.put, lqA, lqB, lqC, wvals, kW, lqD, lqE, Kw.c, pv, Kw.pt]
 obtain ⟨S1_4, T1_4⟩ : Sl v1 (yw1 4 0).1 (xN k) ∧ Sl v1 (yw1 4 1).1 (yN k) := h1 4
 clear h1
 replace G := G.trans hg
 replace c1 := c1.gr hg
 replace c2 := c2.gr hg
 replace HQ := fun k => (HQ k).gr hg
 clear hg
 go_wp2_with fail
 exact bodyPost_ret (res_one Tryz.results26 (rd_pt _ _ _ _ _ _ _ (by rfl) (blk_setBlk _ _ _ (by rw [HT]; decide)))) rfl ⟨_, rfl, ⟨_, _, _, _, rfl, Sl.set S1_4 (by rw [HT]; exact ptA_no _ _ _ _ _ _ _), Sl.set T1_4 (by rw [HT]; exact ptA_no _ _ _ _ _ _ _)⟩, gr_setNew G (by omega)⟩
end
section
attribute [local go_sem] ppre_1 ppre_2 ppre_3 ppre_4 ppre_5 ppre_6
attribute [local go_sem ↓] bsl_is loadC_is storeC_is loadPt_is storePt_is zvPt_is buildPt_is loadPn_is storePn_is zvPn_is loadCu_is storeCu_is zvCu_is buildCu_is buildPn_is Go.wp_at_zero Go.wp_at_succ
attribute [local go_sem] loadC storeC0 storeCr crA_size loadPt storePt zvPt ptA_size loadPn storePn zvPn pnt_size loadCu storeCu zvCu cu_size buildCu0 buildPnI buildPn2 loadCP loadCA loadCB loadCN loadCG loadCX loadCY cu_P cu_A cu_B cu_N cu_G cu_X cu_Y frz_setBlk blk_setBlk setBlk_setBlk blk_other
attribute [local go_sem ↓] loadPj_is storePj_is zvPj_is buildPj_is
attribute [local go_sem] loadPj storePj zvPj buildPj0 buildPj1 buildPj2 buildPj3 loadJX loadJY loadJZ prj_size prj_X prj_Y prj_Z
theorem zero_no {k : Nat} (h1 : 1 ≤ k) (h2 : k ≤ 15) (Q : Q3) : ¬ TrQ k (0, 0, 0) Q := fun h => by
 haveI := EC.nzP k h1 h2
 have h' : TrQ k ((0 : Fin (pN k)).val, (0 : Fin (pN k)).val, (0 : Fin (pN k)).val) Q := by rw [Fin.val_zero]; exact h
 exact (tr_tri h1 h2 h').1 ⟨rfl, rfl, rfl⟩
theorem awake15_any (w : World) : Cg 15 #[] w (.bool true) := by
 have h1 : 1 ≤ 13 := by decide
 have h2 : 13 ≤ 15 := by decide
 have oG : OnQ 13 (2, 84, false) := gQ_on h1 h2
 have hD : plQ 13 (2, 84, false) (2, 84, false) = (241, 78, false) := by decide +kernel
 have hR : addT 13 (2, 84, 1) (2, 84, 1) = (90, 51, 242) := by decide +kernel
 have tr1 : TrQ 13 (2, 84, 1) (2, 84, false) := one_tr h1 h2 oG
 have tr2 : TrQ 13 (90, 51, 242) (241, 78, false) := hR ▸ hD ▸ addT_tr h1 h2 tr1 tr1
 have HGR : Hid (∀ w, Calls Tryz.prog 10 #[.int .i64 13] w (GetQ 13 w)) := fun w => getq_yes 13 h1 h2 w
 have HF1 : Hid (∀ w, Cg 19 #[.int .i64 13, .agg (pnt 2 84 false)] w (.tuple #[.agg (prj 2 84 1), .int .i64 0])) := fun w => fromQ (k := 13) h1 h2 (P := (2, 84, false)) (T := (2, 84, 1)) oG rfl w
 have HF2 : Hid (∀ w, Cg 19 #[.int .i64 0, .agg (pnt 2 84 false)] w (.tuple #[.agg (prj 0 0 0), .int .i64 1500])) := fun w => from_no 0 (by decide) (2, 84, false) w
 have HT1 : Hid (∀ w, Cg 11 #[.int .i64 13, .agg (prj 2 84 1)] w (.tuple #[.agg (pnt 2 84 false), .int .i64 0])) := fun w => toQ (k := 13) h1 h2 tr1 w
 have HT2 : Hid (∀ w, Cg 11 #[.int .i64 13, .agg (prj 90 51 242)] w (.tuple #[.agg (pnt 241 78 false), .int .i64 0])) := fun w => toQ (k := 13) h1 h2 tr2 w
 have HT3 : Hid (∀ w, Cg 11 #[.int .i64 13, .agg (prj 0 0 0)] w (.tuple #[.agg (pnt 0 0 false), .int .i64 1501])) := fun w => to_off (k := 13) h1 h2 (T := (0, 0, 0)) ⟨by decide +kernel, by decide +kernel, by decide +kernel⟩ (zero_no h1 h2) w
 have HD1 : Hid (∀ w, Cg 13 #[.int .i64 13, .agg (prj 2 84 1)] w (.tuple #[.agg (prj 90 51 242), .int .i64 0])) := fun w => jdblQ (k := 13) h1 h2 tr1 hR w
 clear tr1 tr2 hR
 go_enter Tryz.func15, Tryz.ntmps15
 go_upto_region 2 with (go_at_call 10; refine (HGR.out _).mono ?_; rintro e WB ⟨qc, rfl, HQ, GB⟩)
 obtain ⟨e1, he1⟩ : ∃ b, WB.heap.size = b := ⟨_, rfl⟩
 simp only [he1]
 refine gen_w (fun v => Gr w v ∧ Vr v e1 (crA 13 (nN 13) qc) ∧ ∀ j, Sl v (qc j).1 (nN 13 j)) ?_ ?_
 · subst he1
   exact ⟨GB.alloc _, Vr.new _ _ _, fun j => (HQ j).gr ((Gr.refl _).alloc _)⟩
 clear he1 GB HQ
 rintro v0 ⟨G, c1, HQ⟩
 refine wp_v false [.c (.agg (crA 13 (nN 13) qc)), .pt (2) (84) false, .c (.agg (pnt 2 84 false)), .a, .u] [0, 1, 2] [⟨3, 4, 35, pnt 0 0 false, fun _ => pnt 2 84 false⟩] ?hs1 ?hv1 ?hf1
 case hs1 =>
  refine .cons (.g 31 0 c1 rfl) ?_
  refine .cons (.k _ fun yy vv hg hh => RtW.of_pt (rg_any (k := 13) qc _ (fun j => (HQ j).gr hg))) ?_
  refine .cons (.k (fun yy => #[.agg (ptA (yy 1 0).1 (2) (yy 1 0).2 (yy 1 1).1 (84) (yy 1 1).2 false)]) fun yy vv hg hh => RtW.of_c (Rt.c (rout_any _ _ _ _ _ _ _ _ (hh 1 rfl).1 (hh 1 rfl).2))) .nil
 case hv1 =>
  refine .cons (.mk (fun _ _ _ => rfl) (fun _ v b H F => by dsimp only at H ⊢; simp [go_sem, exI, H, F]) zPnt ⟨fkc, fkp bPnt, fkc, fka, fku, trivial⟩) .nil
 intro yw2 v1 hg h2 hV2
 simp only [FW, putFrom, Act.put, lqA, lqB, lqC, wvals, kW, lqD, lqE, Kw.c, Kw.a, Kw.pt, Kw.u]
 obtain ⟨⟨N2_3, V2_3⟩, -⟩ : (v0.heap.size ≤ (yw2 3 0).2 ∧ Vr v1 (yw2 3 0).2 (pnt 2 84 false)) ∧ True := hV2
 clear h2
 replace G := G.trans hg
 replace c1 := c1.gr hg
 replace HQ := fun k => (HQ k).gr hg
 clear hg
 go_upto_region 3 with fail
 refine wp_v false [.c (.agg (pnt 2 84 false)), .c (.tuple #[.agg (prj 2 84 1), .int .i64 0]), .c (.tuple #[.agg (prj 2 84 1), .int .i64 0]), .c (.agg (prj 2 84 1)), .c (.int .i64 0), .a, .u, .c (.int .i64 0)] [0, 1] [⟨5, 6, 27, prj 0 0 0, fun _ => prj 2 84 1⟩] ?hs2 ?hv2 ?hf2
 case hs2 =>
  refine .cons (.g 35 0 V2_3 rfl) ?_
  refine .cons (.k _ fun yy vv hg hh => RtW.of_c (Rt.c (HF1.out _))) .nil
 case hv2 =>
  refine .cons (.mk (fun _ _ _ => rfl) (fun _ v b H F => by dsimp only at H ⊢; simp [go_sem, exI, H, F]) zPj ⟨fkc, fkc, fkc, fkc, fkc, fka, fku, fkc, trivial⟩) .nil
 intro yw3 v2 hg h3 hV3
 simp only [FW, putFrom, Act.put, lqA, lqB, lqC, wvals, kW, lqD, lqE, Kw.c, Kw.a, Kw.u]
 obtain ⟨⟨N3_5, V3_5⟩, -⟩ : (v1.heap.size ≤ (yw3 5 0).2 ∧ Vr v2 (yw3 5 0).2 (prj 2 84 1)) ∧ True := hV3
 clear h3
 replace G := G.trans hg
 replace c1 := c1.gr hg
 replace V2_3 := V2_3.gr hg
 replace HQ := fun k => (HQ k).gr hg
 clear hg
 go_upto_region 4 with fail
 refine wp_v false [.c (.agg (prj 2 84 1)), .c (.tuple #[.agg (pnt 2 84 false), .int .i64 0]), .c (.tuple #[.agg (pnt 2 84 false), .int .i64 0]), .c (.agg (pnt 2 84 false)), .c (.int .i64 0), .a, .u, .c (.int .i64 0)] [0, 1] [⟨5, 6, 35, pnt 0 0 false, fun _ => pnt 2 84 false⟩] ?hs3 ?hv3 ?hf3
 case hs3 =>
  refine .cons (.g 27 0 V3_5 rfl) ?_
  refine .cons (.k _ fun yy vv hg hh => RtW.of_c (Rt.c (HT1.out _))) .nil
 case hv3 =>
  refine .cons (.mk (fun _ _ _ => rfl) (fun _ v b H F => by dsimp only at H ⊢; simp [go_sem, exI, H, F]) zPnt ⟨fkc, fkc, fkc, fkc, fkc, fka, fku, fkc, trivial⟩) .nil
 intro yw4 v3 hg h4 hV4
 simp only [FW, putFrom, Act.put, lqA, lqB, lqC, wvals, kW, lqD, lqE, Kw.c, Kw.a, Kw.u]
 obtain ⟨⟨N4_5, V4_5⟩, -⟩ : (v2.heap.size ≤ (yw4 5 0).2 ∧ Vr v3 (yw4 5 0).2 (pnt 2 84 false)) ∧ True := hV4
 clear h4
 replace G := G.trans hg
 replace c1 := c1.gr hg
 replace V2_3 := V2_3.gr hg
 replace V3_5 := V3_5.gr hg
 replace HQ := fun k => (HQ k).gr hg
 clear hg
 go_upto_region 5 with fail
 refine wp_v false [.c (.agg (prj 2 84 1)), .c (.tuple #[.agg (prj 90 51 242), .int .i64 0]), .c (.tuple #[.agg (prj 90 51 242), .int .i64 0]), .c (.agg (prj 90 51 242)), .c (.int .i64 0), .a, .u, .c (.int .i64 0)] [0, 1] [⟨5, 6, 27, prj 0 0 0, fun _ => prj 90 51 242⟩] ?hs4 ?hv4 ?hf4
 case hs4 =>
  refine .cons (.g 27 0 V3_5 rfl) ?_
  refine .cons (.k _ fun yy vv hg hh => RtW.of_c (Rt.c (HD1.out _))) .nil
 case hv4 =>
  refine .cons (.mk (fun _ _ _ => rfl) (fun _ v b H F => by dsimp only at H ⊢; simp [go_sem, exI, H, F]) zPj ⟨fkc, fkc, fkc, fkc, fkc, fka, fku, fkc, trivial⟩) .nil
 intro yw5 v4 hg h5 hV5
 simp only [FW, putFrom, Act.put, lqA, lqB, lqC, wvals, kW, lqD, lqE, Kw.c, Kw.a, Kw.u]
 obtain ⟨⟨N5_5, V5_5⟩, -⟩ : (v3.heap.size ≤ (yw5 5 0).2 ∧ Vr v4 (yw5 5 0).2 (prj 90 51 242)) ∧ True := hV5
 clear h5
 replace G := G.trans hg
 replace c1 := c1.gr hg
 replace V2_3 := V2_3.gr hg
 replace V3_5 := V3_5.gr hg
 replace V4_5 := V4_5.gr hg
 replace HQ := fun k => (HQ k).gr hg
 clear hg
 go_upto_region 6 with fail
 refine wp_v false [.c (.agg (prj 90 51 242)), .c (.tuple #[.agg (pnt 241 78 false), .int .i64 0]), .c (.tuple #[.agg (pnt 241 78 false), .int .i64 0]), .c (.agg (pnt 241 78 false)), .c (.int .i64 0), .a, .u, .c (.int .i64 0)] [0, 1] [⟨5, 6, 35, pnt 0 0 false, fun _ => pnt 241 78 false⟩] ?hs5 ?hv5 ?hf5
 case hs5 =>
  refine .cons (.g 27 0 V5_5 rfl) ?_
  refine .cons (.k _ fun yy vv hg hh => RtW.of_c (Rt.c (HT2.out _))) .nil
 case hv5 =>
  refine .cons (.mk (fun _ _ _ => rfl) (fun _ v b H F => by dsimp only at H ⊢; simp [go_sem, exI, H, F]) zPnt ⟨fkc, fkc, fkc, fkc, fkc, fka, fku, fkc, trivial⟩) .nil
 intro yw6 v5 hg h6 hV6
 simp only [FW, putFrom, Act.put, lqA, lqB, lqC, wvals, kW, lqD, lqE, Kw.c, Kw.a, Kw.u]
 obtain ⟨⟨N6_5, V6_5⟩, -⟩ : (v4.heap.size ≤ (yw6 5 0).2 ∧ Vr v5 (yw6 5 0).2 (pnt 241 78 false)) ∧ True := hV6
 clear h6
 replace G := G.trans hg
 replace c1 := c1.gr hg
 replace V2_3 := V2_3.gr hg
 replace V3_5 := V3_5.gr hg
 replace V4_5 := V4_5.gr hg
 replace V5_5 := V5_5.gr hg
 replace HQ := fun k => (HQ k).gr hg
 clear hg
 go_upto_region 7 with fail
 refine wp_v false [.c (.agg (prj 0 0 0)), .c (.tuple #[.agg (pnt 0 0 false), .int .i64 1501]), .c (.tuple #[.agg (pnt 0 0 false), .int .i64 1501]), .c (.agg (pnt 0 0 false)), .c (.int .i64 1501), .a, .u, .c (.int .i64 1501)] [1] [⟨5, 6, 35, pnt 0 0 false, fun _ => pnt 0 0 false⟩] ?hs6 ?hv6 ?hf6
 case hs6 =>
  refine .cons (.k _ fun yy vv hg hh => RtW.of_c (Rt.c (HT3.out _))) .nil
 case hv6 =>
  refine .cons (.mk (fun _ _ _ => rfl) (fun _ v b H F => by dsimp only at H ⊢; simp [go_sem, exI, H, F]) zPnt ⟨fkc, fkc, fkc, fkc, fkc, fka, fku, fkc, trivial⟩) .nil
 intro yw7 v6 hg h7 hV7
 simp only [FW, putFrom, Act.put, lqA, lqB, lqC, wvals, kW, lqD, lqE, Kw.c, Kw.a, Kw.u]
 obtain ⟨⟨N7_5, V7_5⟩, -⟩ : (v5.heap.size ≤ (yw7 5 0).2 ∧ Vr v6 (yw7 5 0).2 (pnt 0 0 false)) ∧ True := hV7
 clear h7
 replace G := G.trans hg
 replace c1 := c1.gr hg
 replace V2_3 := V2_3.gr hg
 replace V3_5 := V3_5.gr hg
 replace V4_5 := V4_5.gr hg
 replace V5_5 := V5_5.gr hg
 replace V6_5 := V6_5.gr hg
 replace HQ := fun k => (HQ k).gr hg
 clear hg
 go_upto_region 8 with fail
 refine wp_v false [.c (.agg (pnt 2 84 false)), .c (.tuple #[.agg (prj 0 0 0), .int .i64 1500]), .c (.tuple #[.agg (prj 0 0 0), .int .i64 1500]), .c (.agg (prj 0 0 0)), .c (.int .i64 1500), .a, .u, .c (.int .i64 1500)] [0, 1] [⟨5, 6, 27, prj 0 0 0, fun _ => prj 0 0 0⟩] ?hs7 ?hv7 ?hf7
 case hs7 =>
  refine .cons (.g 35 0 V2_3 rfl) ?_
  refine .cons (.k _ fun yy vv hg hh => RtW.of_c (Rt.c (HF2.out _))) .nil
 case hv7 =>
  refine .cons (.mk (fun _ _ _ => rfl) (fun _ v b H F => by dsimp only at H ⊢; simp [go_sem, exI, H, F]) zPj ⟨fkc, fkc, fkc, fkc, fkc, fka, fku, fkc, trivial⟩) .nil
 intro yw8 v7 hg h8 hV8
 simp only [FW, putFrom, Act.put, lqA, lqB, lqC, wvals, kW, lqD, lqE, Kw.c, Kw.a, Kw.u]
 obtain ⟨⟨N8_5, V8_5⟩, -⟩ : (v6.heap.size ≤ (yw8 5 0).2 ∧ Vr v7 (yw8 5 0).2 (prj 0 0 0)) ∧ True := hV8
 clear h8
 replace G := G.trans hg
 replace c1 := c1.gr hg
 replace V2_3 := V2_3.gr hg
 replace V3_5 := V3_5.gr hg
 replace V4_5 := V4_5.gr hg
 replace V5_5 := V5_5.gr hg
 replace V6_5 := V6_5.gr hg
 replace V7_5 := V7_5.gr hg
 replace HQ := fun k => (HQ k).gr hg
 clear hg
 go_upto_region 9 with fail
 refine wp_w [.c (.int .i64 0), .c (.int .i64 0), .c (.bool true), .c (.bool true), .c (.agg (pnt 2 84 false)), .c (.agg (pnt 2 84 false)), .c (.bool true), .c (.bool true), .c (.bool true), .c (.int .i64 0), .c (.int .i64 0), .c (.bool true), .c (.bool true), .c (.bool true), .c (.int .i64 0), .c (.int .i64 0), .c (.bool true), .c (.bool true), .c (.bool true), .c (.agg (pnt 241 78 false)), .c (.agg (crA 13 (nN 13) qc)), .c (.agg (crA 13 (nN 13) qc)), .pt (2) (84) false, .c (.agg (crA 13 (nN 13) qc)), .pt (2) (84) false, .pt (241) (78) false, .c (.agg (pnt 241 78 false)), .c (.bool true), .c (.bool true), .c (.bool true), .c (.int .i64 1501), .c (.int .i64 1501), .c (.bool true), .c (.bool true), .c (.bool true), .c (.int .i64 1500), .c (.int .i64 1500), .c (.bool true), .c (.bool true), .c (.bool true)] [1, 4, 5, 6, 10, 15, 19, 20, 21, 22, 23, 24, 25, 26, 27, 31, 36] ?hs8 ?hf8
 case hs8 =>
  refine .cons (.k _ fun yy vv hg hh => RtW.of_c (Rt.same (num_any _ _))) ?_
  refine .cons (.g 35 0 V4_5 rfl) ?_
  refine .cons (.g 35 0 V2_3 rfl) ?_
  refine .cons (.s (.binOp .eql 35 (.const (.agg (pnt 2 84 false))) (.const (.agg (pnt 2 84 false))) 35) rfl fun vv hg => by simp [go_sem, exI, eqPn, eqN_self]) ?_
  refine .cons (.k _ fun yy vv hg hh => RtW.of_c (Rt.same (num_any _ _))) ?_
  refine .cons (.k _ fun yy vv hg hh => RtW.of_c (Rt.same (num_any _ _))) ?_
  refine .cons (.g 35 0 V6_5 rfl) ?_
  refine .cons (.g 31 0 c1 rfl) ?_
  refine .cons (.g 31 0 c1 rfl) ?_
  refine .cons (.k _ fun yy vv hg hh => RtW.of_pt (rg_any (k := 13) qc _ (fun j => (HQ j).gr hg))) ?_
  refine .cons (.g 31 0 c1 rfl) ?_
  refine .cons (.k _ fun yy vv hg hh => RtW.of_pt (rg_any (k := 13) qc _ (fun j => (HQ j).gr hg))) ?_
  refine .cons (.k (fun yy => #[.agg (crA 13 (nN 13) qc), .agg (ptA (yy 22 0).1 (2) (yy 22 0).2 (yy 22 1).1 (84) (yy 22 1).2 false), .agg (ptA (yy 24 0).1 (2) (yy 24 0).2 (yy 24 1).1 (84) (yy 24 1).2 false)]) fun yy vv hg hh => RtW.of_pt (hD ▸ rplusQ 13 h1 h2 qc oG oG (fun j => (HQ j).gr hg) (hh 22 rfl).1 (hh 22 rfl).2 (hh 24 rfl).1 (hh 24 rfl).2)) ?_
  refine .cons (.k (fun yy => #[.agg (ptA (yy 25 0).1 (241) (yy 25 0).2 (yy 25 1).1 (78) (yy 25 1).2 false)]) fun yy vv hg hh => RtW.of_c (Rt.c (rout_any _ _ _ _ _ _ _ _ (hh 25 rfl).1 (hh 25 rfl).2))) ?_
  refine .cons (.s (.binOp .eql 35 (.const (.agg (pnt 241 78 false))) (.const (.agg (pnt 241 78 false))) 35) rfl fun vv hg => by simp [go_sem, exI, eqPn, eqN_self]) ?_
  refine .cons (.k _ fun yy vv hg hh => RtW.of_c (Rt.same (num_any _ _))) ?_
  refine .cons (.k _ fun yy vv hg hh => RtW.of_c (Rt.same (num_any _ _))) .nil
 intro yw9 v8 hg h9
 simp only [FW, putFrom, Act.put, lqA, lqB, lqC, wvals, kW, lqD, lqE, Kw.c, Kw.pt]
 clear h9
 replace G := G.trans hg
 replace c1 := c1.gr hg
 replace V2_3 := V2_3.gr hg
 replace V3_5 := V3_5.gr hg
 replace V4_5 := V4_5.gr hg
 replace V5_5 := V5_5.gr hg
 replace V6_5 := V6_5.gr hg
 replace V7_5 := V7_5.gr hg
 replace V8_5 := V8_5.gr hg
 replace HQ := fun k => (HQ k).gr hg
 clear hg
 go_wp2_with fail
 go_ret
 exact ⟨rfl, G⟩
theorem dr_is {k : Nat} (h1 : 1 ≤ k) (h2 : k ≤ 15) {n : Nat} (hn : n < 18446744073709551616) {A : Q3} (hA : mlQ k n (gQ k) = A) {T : T3} (hT : frT A = T) (qc : Nat → Option Addr × Nat) (w : World) (HQ : ∀ j, Sl w (qc j).1 (nN k j)) :
   Cg 29 #[.agg (crA (k : Int) (nN k) qc), .int .u64 (n : Int)] w (.tuple #[.agg (pjT T), .agg (pnQ A), .bool true]) := by
 have hM : n < M := lt_M _ hn
 have hd : dl n ≤ 400 := by have := dl_M n hM; omega
 have oA : OnQ k A := hA ▸ mlQ_on h1 h2 _ (gQ_on h1 h2)
 go_enter Tryz.func29, Tryz.ntmps29
 go_upto_region 1 with fail
 refine gen_w (fun v => Gr w v ∧ Vr v (w.heap.size) (crA (k : Int) (nN k) qc) ∧ Vr v (w.heap.size + 1) (prj 0 0 0) ∧ Vr v (w.heap.size + 1 + 1) (pnt 0 0 false)) ⟨grA, vrA, vrA, vrA⟩ ?_
 rintro v0 ⟨G, c1, c4, c5⟩
 have c4p := c4.p
 have c5p := c5.p
 replace HQ := fun k => (HQ k).gr G
 refine wp_v true [.c (.agg (crA (k : Int) (nN k) qc)), .c (.int .u64 (n : Int)), .c (.agg (nw 9 n)), .n (n), .c (.agg (crA (k : Int) (nN k) qc)), .pt (xN k) (yN k) false, .pt (A.1) (A.2.1) A.2.2, .c (.agg (pnt A.1 A.2.1 A.2.2)), .a, .u] [0, 2, 3, 4, 5, 6, 7] [⟨8, 9, 35, pnt 0 0 false, fun _ => pnt A.1 A.2.1 A.2.2⟩] ?hs9 ?hv9 ?hf9
 case hs9 =>
  refine .cons (.g 31 0 c1 rfl) ?_
  refine .cons (.k _ fun yy vv hg hh => RtW.of_c (Rt.c (one_any _ hn _))) ?_
  refine .cons (.k _ fun yy vv hg hh => RtW.of_n (fm_any hM)) ?_
  refine .cons (.g 31 0 c1 rfl) ?_
  refine .cons (.k _ fun yy vv hg hh => RtW.of_pt (rg_any qc _ (fun j => (HQ j).gr hg))) ?_
  refine .cons (.k (fun yy => #[.agg (crA (k : Int) (nN k) qc), .slice (yy 3 0).1 (dl (n)) (yy 3 0).2, .agg (ptA (yy 5 0).1 (xN k) (yy 5 0).2 (yy 5 1).1 (yN k) (yy 5 1).2 false)]) fun yy vv hg hh => RtW.of_pt (hA ▸ rtimesQ k h1 h2 qc (gQ_on h1 h2) hd (fun j => (HQ j).gr hg) (hh 3 rfl) (hh 5 rfl).1 (hh 5 rfl).2)) ?_
  refine .cons (.k (fun yy => #[.agg (ptA (yy 6 0).1 (A.1) (yy 6 0).2 (yy 6 1).1 (A.2.1) (yy 6 1).2 A.2.2)]) fun yy vv hg hh => RtW.of_c (Rt.c (rout_any _ _ _ _ _ _ _ _ (hh 6 rfl).1 (hh 6 rfl).2))) .nil
 case hv9 =>
  refine .cons (.mk (fun _ _ _ => rfl) (fun _ v b H F => by dsimp only at H ⊢; simp [go_sem, exI, H, F]) zPnt ⟨fkc, fkc, fkc, fkn bPnt, fkc, fkp bPnt, fkp bPnt, fkc, fka, fku, trivial⟩) .nil
 intro yw1 v1 hg h1 hV1
 simp only [FW, putFrom, Act.put, lqA, lqB, lqC, wvals, kW, lqD, lqE, Kw.c, Kw.a, Kw.n, Kw.pt, Kw.u]
 obtain ⟨⟨N1_8, V1_8⟩, -⟩ : (v0.heap.size ≤ (yw1 8 0).2 ∧ Vr v1 (yw1 8 0).2 (pnt A.1 A.2.1 A.2.2)) ∧ True := hV1
 clear h1
 replace G := G.trans hg
 replace c1 := c1.gr hg
 replace c4 := c4.gr hg
 replace c5 := c5.gr hg
 replace HQ := fun k => (HQ k).gr hg
 clear hg
 have l4 : w.heap.size + 1 + 1 ≤ v1.heap.size := c4.p
 have l5 : w.heap.size + 1 + 1 + 1 ≤ v1.heap.size := c5.p
 go_upto_region 2 with fail
 refine wp_v false [.c (pv (w.heap.size) 0), .c (.int .i64 (k : Int)), .c (.agg (pnt A.1 A.2.1 A.2.2)), .c (.tuple #[.agg (prj T.1 T.2.1 T.2.2), .int .i64 0]), .c (.tuple #[.agg (prj T.1 T.2.1 T.2.2), .int .i64 0]), .c (.agg (prj T.1 T.2.1 T.2.2)), .c (.int .i64 0), .a, .u, .c (.int .i64 0)] [1, 2, 3] [⟨7, 8, 27, prj 0 0 0, fun _ => prj T.1 T.2.1 T.2.2⟩] ?hs10 ?hv10 ?hf10
 case hs10 =>
  refine .cons (.o 3 0 c1 rfl rfl) ?_
  refine .cons (.g 35 0 V1_8 rfl) ?_
  refine .cons (.k _ fun yy vv hg hh => RtW.of_c (Rt.c (fromQ h1 h2 oA hT _))) .nil
 case hv10 =>
  refine .cons (.mk (fun _ _ _ => rfl) (fun _ v b H F => by dsimp only at H ⊢; simp [go_sem, exI, H, F]) zPj ⟨fkc, fkc, fkc, fkc, fkc, fkc, fkc, fka, fku, fkc, trivial⟩) .nil
 intro yw2 v2 hg h2 hV2
 simp only [FW, putFrom, Act.put, lqA, lqB, lqC, wvals, kW, lqD, lqE, Kw.c, pv, Kw.a, Kw.u]
 obtain ⟨⟨N2_7, V2_7⟩, -⟩ : (v1.heap.size ≤ (yw2 7 0).2 ∧ Vr v2 (yw2 7 0).2 (prj T.1 T.2.1 T.2.2)) ∧ True := hV2
 clear h2
 replace G := G.trans hg
 replace c1 := c1.gr hg
 replace c4 := c4.gr hg
 replace c5 := c5.gr hg
 replace V1_8 := V1_8.gr hg
 replace HQ := fun k => (HQ k).gr hg
 clear hg
 obtain ⟨e7, he7⟩ : ∃ b, (yw1 8 0).2 = b := ⟨_, rfl⟩
 obtain ⟨e8, he8⟩ : ∃ b, (yw2 7 0).2 = b := ⟨_, rfl⟩
 rw [he7] at V1_8 N1_8
 rw [he8] at V2_7 N2_7
 have k4 : w.heap.size + 1 + 1 ≤ v0.heap.size := c4p
 have k5 : w.heap.size + 1 + 1 + 1 ≤ v0.heap.size := c5p
 go_upto_region 3 with fail
 simp only [Nat.zero_add, Nat.reduceAdd, he7, he8]
 refine wp_u true [.c (.agg (prj T.1 T.2.1 T.2.2)), .c (.agg (pnt A.1 A.2.1 A.2.2)), .c (.int .i64 0), .c (.int .i64 0), .c (.bool true), .u, .u, .c (.bool true)] [0, 1, 3] [⟨5, 27, w.heap.size + 1, prj T.1 T.2.1 T.2.2⟩, ⟨6, 35, w.heap.size + 1 + 1, pnt A.1 A.2.1 A.2.2⟩] (fun v => Gr w v ∧ Vr v e7 (pnt A.1 A.2.1 A.2.2) ∧ Vr v e8 (prj T.1 T.2.1 T.2.2) ∧ Vs v (w.heap.size + 1) 27 ∧ Vs v (w.heap.size + 1 + 1) 19) ⟨G, V1_8, V2_7, c4.vs (prj_size _ _ _), c5.vs (pnt_size _ _ _)⟩ (fun _ _ ⟨a, b, c, d, e⟩ g => ⟨a.trans g, b.gr g, c.gr g, d.gr g, e.gr g⟩) ?hs ?hu (by simp) ?hf
 case hs =>
   rintro vv ⟨G, a7, a8, s4, s5⟩
   refine .cons (.g 27 0 a8 rfl) ?_
   refine .cons (.g 35 0 a7 rfl) ?_
   refine .cons (.k _ fun yy vv hg hh => RtW.of_c (Rt.same (num_any _ _))) .nil
 case hu =>
   refine .cons (.mk fun v ⟨G, a7, a8, s4, s5⟩ => ?_) (.cons (.mk fun v ⟨G, a7, a8, s4, s5⟩ => ?_) .nil)
   · have H := s4.1
     have F := s4.2.1
     refine ⟨by dsimp only; simp [go_sem, exI, H, F], ⟨gr_setNew G (by simp), a7.other (by dsimp only; omega), a8.other (by dsimp only; omega), s4.set (prj_size _ _ _) (by decide), s5.other (by simp)⟩, by dsimp only; rw [H]; decide, s4.2.2⟩
   · have H := s5.1
     have F := s5.2.1
     refine ⟨by dsimp only; simp [go_sem, exI, H, F], ⟨gr_setNew G (by dsimp only; omega), a7.other (by dsimp only; omega), a8.other (by dsimp only; omega), s4.other (by simp), s5.set (pnt_size _ _ _) (by decide)⟩, by dsimp only; rw [H]; decide, s5.2.2⟩
 rintro v9 ⟨G9, -, -, -, -⟩ ⟨hb4, hb5, -⟩
 simp only [FW, putFrom, Act.put, lqA, lqB, lqC, wvals, kW, lqD, lqE, Kw.c, Kw.u]
 go_wp2_with fail
 exact bodyPost_ret (res_three Tryz.results29 (rd_pj (by rfl) hb4) (rd_pn (by rfl) hb5) (rd_tmp (by rfl))) rfl ⟨rfl, G9⟩
end
end
end Go.Proofs.YtempibiahmmppaaGreat
