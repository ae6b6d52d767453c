import Derived.Test.YtikilbpfhijocaaGreatXTIX
import Derived.Test.YtikilbpfhijocaaGreatXTAG
import Derived.Test.YtikilbpfhijocaaGreatXTAdd
import Derived.Test.YtikilbpfhijocaaGreatXTRT
import Derived.Test.YtikilbpfhijocaaGreatXTAQ
import Derived.Test.YtikilbpfhijocaaGreatXTCC
namespace Go.Proofs.YtikilbpfhijocaaGreat
open Go.RowKit
set_option maxRecDepth 100000
set_option maxHeartbeats 8000000
section
theorem ron_any (i:Nat) (h1:1≤i) (h2:i≤15) (x y:Nat) (f:Bool) (hx:x<M) (hy:y<M) (qc:Nat→Option Addr×Nat) (p q:Option Addr) (n m:Nat) (w:World) (HQ:∀ k,Sl w (qc k).1 (nN i k)) (Sx:Sl w p x) (Sy:Sl w q y):
 Calls Tryz.prog 13 #[.agg (crA (i:Int) (nN i) qc),.agg (ptA p x n q y m f)] w (Rt (.c (.bool (onB i x y f))) w):=by
 have hd:=pN_dl i h1 h2
 have hx4:=dl_M x hx
 have hy4:=dl_M y hy
 cases f with
 | true=>exact Rt.c (ron_inf i _ _ _ _ _ _ qc x y p q n m w HQ Sx Sy)
 | false=>
  by_cases lx:x<pN i
  ·by_cases ly:y<pN i
   ·have:=ron_ok i _ _ _ _ _ _ qc x y p q n m (by omega) (by omega) (by omega) lx ly (aN_lt i h1 h2) (bN_lt i h1 h2) w HQ Sx Sy
    simp only [onB,lx,ly,decide_true,Bool.true_and,Bool.false_eq_true,if_false]
    exact Rt.c this
   ·have:=ron_y i _ _ _ _ _ _ qc x y p q n m (by omega) (by omega) (by omega) lx (by omega) w HQ Sx Sy
    simp only [onB,ly,decide_false,Bool.false_and,Bool.and_false,Bool.false_eq_true,if_false]
    exact Rt.c this
  ·have:=ron_x i _ _ _ _ _ _ qc x y p q n m (by omega) (by omega) (by omega) w HQ Sx Sy
   simp only [onB,lx,decide_false,Bool.false_and,Bool.false_eq_true,if_false]
   exact Rt.c this
end
section
theorem rtimesQ (k:Nat) (h1:1≤k) (h2:k≤15) (qc:Nat→Option Addr×Nat) {P:Q3} (hP:OnQ k P) {t nk:Nat} {pk:Option Addr} (ht:dl t≤400) {p q:Option Addr} {n m:Nat} {w:World}
 (HQ:∀ j,Sl w (qc j).1 (nN k j)) (Sk:Sl w pk t) (Sx:Sl w p P.1) (Sy:Sl w q P.2.1):
 Calls Tryz.prog 18 #[.agg (crA (k:Int) (nN k) qc),.slice pk (dl t) nk,.agg (ptA p P.1 n q P.2.1 m P.2.2)] w (Rt (.pt (mlQ k t P).1 (mlQ k t P).2.1 (mlQ k t P).2.2) w):=by
 haveI:=EC.nzP k h1 h2
 have hd:=pN_dl k h1 h2
 obtain ⟨a1,a2,a3⟩:=dec3 hP
 have h:=rtimes_any (EC.curN k h1 h2) (by omega) (k:Int) (oN k) (xN k) (yN k) qc t nk pk ht (decQ (pN k) P) (on_dec h1 h2 hP) p q n m w HQ Sk (by rw [a1]; exact Sx) (by rw [a2]; exact Sy)
 rw [a1,a2,a3] at h
 rw [mlQ_is h1 h2]
 exact h
end
section
attribute [local go_sem ↓] loadNat_is loadArr_is loadWide_is loadArrW_is storeNat_is storeWide_is
attribute [local go_sem] loadNat loadArr loadWide loadArrW storeNat storeWide idxArr fold9 fold18 nw_size nw_elem pre_self pre_1 pre_2 pre_3 pre_4 pre_5 pre_6 pre_7 pre_8 pre_9 pre_10 pre_11 pre_12 pre_13 pre_14 pre_15 pre_16 pre_17 pre_18 pre_19 pre_20 pre_21 pre_22 pre_23 pre_24 pre_25 pre_26 pre_27 pre_28 pre_29 pre_30 pre_31 pre_32 pre_33 pre_34 pre_35 pre_36 pre_37 pre_38 pre_39 pre_40 gro_size gro_drew gro_drewN drew_gro drewN_gro gro_gro blk_gro frz_gro blk_drew frz_drew blk_drewN frz_drewN blk_alloc_at frz_alloc_at blk_alloc frz_alloc cell_gro frozen_gro cell_alloc_pre frozen_alloc_pre setCell_drewN alloc_drewN setBlk_drew setBlk_drewN setBlk_alloc_at setBlk_alloc setBlk_gro setCell_gro setCell_alloc_pre size_setBlk size_setCell
section
attribute [local go_sem] ppre_1 ppre_2 ppre_3 ppre_4 ppre_5 ppre_6
attribute [local go_sem ↓] bsl_is loadC_is storeC_is loadPt_is storePt_is zvPt_is buildPt_is loadPn_is storePn_is zvPn_is loadCu_is storeCu_is zvCu_is buildCu_is buildPn_is Go.wp_at_zero Go.wp_at_succ
attribute [local go_sem] loadC storeC0 storeCr crA_size loadPt storePt zvPt ptA_size loadPn storePn zvPn pnt_size loadCu storeCu zvCu cu_size buildCu0 buildPnI buildPn2 loadCP loadCA loadCB loadCN loadCG loadCX loadCY cu_P cu_A cu_B cu_N cu_G cu_X cu_Y frz_setBlk blk_setBlk setBlk_setBlk blk_other
theorem rg_any {k:Nat} (qc:Nat→Option Addr×Nat) (w:World) (HQ:∀ j,Sl w (qc j).1 (nN k j)):Calls Tryz.prog 22 #[.agg (crA (k:Int) (nN k) qc)] w (Rt (.pt (xN k) (yN k) false) w):=by
 go_enter Tryz.func22,Tryz.ntmps22
 go_upto_region 1 with fail
 refine gen_w (fun v=>Gr w v∧Vr v (w.heap.size) (crA (k:Int) (nN k) qc)∧Vr v (w.heap.size+1) (ptA none 0 0 none 0 0 false)) ⟨grA,vrA,vrA⟩ ?_
 rintro v0 ⟨G,c1,c2⟩
 replace HQ:=fun k=>(HQ k).gr G
 refine wp_wTS 5 [.c (pv (w.heap.size) 5),.c (.slice (qc 4).1 (dl (xN k)) (qc 4).2),.c (pv (w.heap.size) 6),.c (.slice (qc 5).1 (dl (yN k)) (qc 5).2),.pt (xN k) (yN k) false] [1,3,4] ?hs1 ?hf1
 case hs1=>
  exact .cons (.o 30 5 c1 rfl rfl)<|.cons (.o 30 6 c1 rfl rfl)<|.cons (.p (fun yy i=>match i with | 0=>((qc 4).1,(qc 4).2) | _=>((qc 5).1,(qc 5).2)) fun yy vv hg hh=>⟨((HQ 4).gr hg),((HQ 5).gr hg)⟩) .nil
 refine .s 40 (fun yy=>.pointer (some ⟨w.heap.size+1,0,none⟩)) (fun yy=>.agg (ptA (yy 4 0).1 (xN k) (yy 4 0).2 (yy 4 1).1 (yN k) (yy 4 1).2 false)) fun yw1 v1 hg h1=>?_
 have HT:=(c2.gr hg).h
 have FT:=(c2.gr hg).f
 refine ⟨setBlk v1 (w.heap.size+1) (ptA (yw1 4 0).1 (xN k) (yw1 4 0).2 (yw1 4 1).1 (yN k) (yw1 4 1).2 false),by simp [go_sem,exI,HT,FT],?_⟩
 simp only [FW,putFrom,Act.put,lqA,lqB,lqC,wvals,kW,lqD,lqE,Kw.c,pv,Kw.pt]
 obtain ⟨S1_4,T1_4⟩:Sl v1 (yw1 4 0).1 (xN k)∧Sl v1 (yw1 4 1).1 (yN k):=h1 4
 clear h1
 replace G:=G.trans hg
 replace c1:=c1.gr hg
 replace c2:=c2.gr hg
 replace HQ:=fun k=>(HQ k).gr hg
 clear hg
 go_wp2_with fail
 exact bodyPost_ret (res_one Tryz.results22 (rd_pt _ _ _ _ _ _ _ (by rfl) (blk_setBlk _ _ _ (by rw [HT]; decide)))) rfl ⟨_,rfl,⟨_,_,_,_,rfl,Sl.set S1_4 (by rw [HT]; exact ptA_no _ _ _ _ _ _ _),Sl.set T1_4 (by rw [HT]; exact ptA_no _ _ _ _ _ _ _)⟩,gr_setNew G (by omega)⟩
end
end
section
theorem ron_is {k:Nat} (h1:1≤k) (h2:k≤15) {P:Q3} {r:Bool} (lP:P.1<M∧P.2.1<M) (h:onB k P.1 P.2.1 P.2.2=r) (qc:Nat→Option Addr×Nat) {p q:Option Addr} {n m:Nat} {w:World} (HQ:∀ j,Sl w (qc j).1 (nN k j)) (Sx:Sl w p P.1) (Sy:Sl w q P.2.1):
 Calls Tryz.prog 13 #[.agg (crA (k:Int) (nN k) qc),.agg (ptA p P.1 n q P.2.1 m P.2.2)] w (Rt (.c (.bool r)) w):=by
 subst h
 exact ron_any k h1 h2 _ _ _ lP.1 lP.2 qc p q n m w HQ Sx Sy
end
end Go.Proofs.YtikilbpfhijocaaGreat