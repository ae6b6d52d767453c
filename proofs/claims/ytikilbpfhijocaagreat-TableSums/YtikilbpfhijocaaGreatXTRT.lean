import Derived.Test.YtikilbpfhijocaaGreatXTAQ
import Derived.Test.YtikilbpfhijocaaGreatXTCC
namespace Go.Proofs.YtikilbpfhijocaaGreat
open Go.RowKit
set_option maxRecDepth 100000
set_option maxHeartbeats 8000000
section
attribute [local go_sem ↓] loadNat_is loadArr_is loadWide_is loadArrW_is storeNat_is storeWide_is
attribute [local go_sem] loadNat loadArr loadWide loadArrW storeNat storeWide idxArr fold9 fold18 nw_size nw_elem pre_self pre_1 pre_2 pre_3 pre_4 pre_5 pre_6 pre_7 pre_8 pre_9 pre_10 pre_11 pre_12 pre_13 pre_14 pre_15 pre_16 pre_17 pre_18 pre_19 pre_20 pre_21 pre_22 pre_23 pre_24 pre_25 pre_26 pre_27 pre_28 pre_29 pre_30 pre_31 pre_32 pre_33 pre_34 pre_35 pre_36 pre_37 pre_38 pre_39 pre_40 gro_size gro_drew gro_drewN drew_gro drewN_gro gro_gro blk_gro frz_gro blk_drew frz_drew blk_drewN frz_drewN blk_alloc_at frz_alloc_at blk_alloc frz_alloc cell_gro frozen_gro cell_alloc_pre frozen_alloc_pre setCell_drewN alloc_drewN setBlk_drew setBlk_drewN setBlk_alloc_at setBlk_alloc setBlk_gro setCell_gro setCell_alloc_pre size_setBlk size_setCell
section
attribute [local go_sem ↓] loadPt_is storePt_is zvPt_is buildPt_is loadC_is loadPn_is loadCu_is storePn_is zvPn_is buildPn_is storeCu_is zvCu_is buildCu_is Go.wp_at_zero Go.wp_at_succ
attribute [local go_sem] loadPt storePt zvPt buildPt3 buildPt2 buildPtI ptA_size crA_size loadC loadPn loadPX loadPY pnt_size pnt_X pnt_Y storePn zvPn buildPn2 buildPn3 storeCu zvCu buildCu9 cu_size loadCu
theorem ron_inf (id:Int) (P A B N X Y:Nat) (qc:Nat→Option Addr×Nat) (x y:Nat) (p q:Option Addr) (n m:Nat) (w:World) (HQ:∀ k,Sl w (qc k).1 (six P A B N X Y k)) (Sx:Sl w p x) (Sy:Sl w q y):
 Cg 13 #[.agg (crA id (six P A B N X Y) qc),.agg (ptA p x n q y m true)] w (.bool (decide (x=0)&&decide (y=0))):=by
 go_enter Tryz.func13,Tryz.ntmps13
 go_upto_region 1 with fail
 refine gen_w (fun v=>Gr w v∧Vr v (w.heap.size) (crA id (six P A B N X Y) qc)∧Vr v (w.heap.size+1) (ptA p x n q y m true)) ⟨grA,vrA,vrA⟩ ?_
 rintro v0 ⟨G,c1,c2⟩
 replace HQ:=fun k=>(HQ k).gr G
 replace Sx:=Sx.gr G
 replace Sy:=Sy.gr G
 refine wp_wS [.c (pv (w.heap.size+1) 2),.c (.bool true)] [1] ?hs8 ?hf8
 case hs8=>
  refine .cons (.o 4 2 c2 rfl rfl) .nil
 intro yw1 v1 hg h1
 simp only [FW,putFrom,Act.put,lqA,lqB,lqC,wvals,kW,lqD,lqE,Kw.c,pv]
 clear h1
 replace G:=G.trans hg
 replace c1:=c1.gr hg
 replace c2:=c2.gr hg
 replace HQ:=fun k=>(HQ k).gr hg
 replace Sx:=Sx.gr hg
 replace Sy:=Sy.gr hg
 clear hg
 have k20:v1.cell? ⟨w.heap.size+1,0,none⟩=some (.slice p (dl x) n):=by rw [cell_blk,c2.h]; rfl
 have k21:v1.cell? ⟨w.heap.size+1,1,none⟩=some (.slice q (dl y) m):=by rw [cell_blk,c2.h]; rfl
 by_cases hx:x=0
 ·have zx:=dl_nought x
  rw [decide_eq_true hx] at zx
  have zy:=dl_nought y
  go_wp2_with fail
  go_ret
  exact ⟨by simp [hx],G⟩
 ·have zx:=dl_nought x
  rw [decide_eq_false hx] at zx
  go_wp2_with fail
  go_ret
  exact ⟨by simp [hx],G⟩
theorem ron_x (id:Int) (P A B N X Y:Nat) (qc:Nat→Option Addr×Nat) (x y:Nat) (p q:Option Addr) (n m:Nat) (hx4:dl x≤400) (hd:dl P≤400) (hx:P≤x) (w:World) (HQ:∀ k,Sl w (qc k).1 (six P A B N X Y k)) (Sx:Sl w p x) (Sy:Sl w q y):
 Cg 13 #[.agg (crA id (six P A B N X Y) qc),.agg (ptA p x n q y m false)] w (.bool false):=by
 obtain ⟨zx,ex⟩:∃ z,cmpZ x P=z:=⟨_,rfl⟩
 have bx:decide (0≤zx)=true:=by rw [← ex]; unfold cmpZ; rw [if_neg (by omega)]; split <;> decide
 go_enter Tryz.func13,Tryz.ntmps13
 go_upto_region 1 with fail
 refine gen_w (fun v=>Gr w v∧Vr v (w.heap.size) (crA id (six P A B N X Y) qc)∧Vr v (w.heap.size+1) (ptA p x n q y m false)) ⟨grA,vrA,vrA⟩ ?_
 rintro v0 ⟨G,c1,c2⟩
 replace HQ:=fun k=>(HQ k).gr G
 replace Sx:=Sx.gr G
 replace Sy:=Sy.gr G
 refine wp_wS [.c (pv (w.heap.size+1) 2),.c (.bool false)] [1] ?hs9 ?hf9
 case hs9=>
  refine .cons (.o 4 2 c2 rfl rfl) .nil
 intro yw1 v1 hg h1
 simp only [FW,putFrom,Act.put,lqA,lqB,lqC,wvals,kW,lqD,lqE,Kw.c,pv]
 clear h1
 replace G:=G.trans hg
 replace c1:=c1.gr hg
 replace c2:=c2.gr hg
 replace HQ:=fun k=>(HQ k).gr hg
 replace Sx:=Sx.gr hg
 replace Sy:=Sy.gr hg
 clear hg
 go_upto_region 3 with fail
 refine wp_wS [.c (pv (w.heap.size+1) 0),.c (.slice p (dl (x)) n),.c (pv (w.heap.size) 1),.c (.slice (qc 0).1 (dl (P)) (qc 0).2),.c (.int .i64 zx),.c (.bool true),.c (.bool true),.u,.u,.u,.u,.u,.u,.c (.bool true)] [1,3,4,5] ?hs10 ?hf10
 case hs10=>
  exact .cons (.o 30 0 c2 rfl rfl)<|.cons (.o 30 1 c1 rfl rfl)<|.cons (.k (fun yy => #[.slice p (dl (x)) n,.slice (qc 0).1 (dl (P)) (qc 0).2]) fun yy vv hg hh=>RtW.of_c (cz_any (Sx.gr hg) ((HQ 0).gr hg) hx4 hd ex))<|.cons (.s (.binOp .geq 3 (.const (.int .i64 zx)) (.const (.int .i64 0)) 3) rfl fun vv hg=>by simp [go_sem,exI,bx]) .nil
 intro yw3 v2 hg h3
 simp only [FW,putFrom,Act.put,lqA,lqB,lqC,wvals,kW,lqD,lqE,Kw.c,pv,Kw.u]
 clear h3
 replace G:=G.trans hg
 replace c1:=c1.gr hg
 replace c2:=c2.gr hg
 replace HQ:=fun k=>(HQ k).gr hg
 replace Sx:=Sx.gr hg
 replace Sy:=Sy.gr hg
 clear hg
 go_wp2_with fail
 go_ret
 exact ⟨rfl,G⟩
theorem ron_y (id:Int) (P A B N X Y:Nat) (qc:Nat→Option Addr×Nat) (x y:Nat) (p q:Option Addr) (n m:Nat) (hx4:dl x≤400) (hy4:dl y≤400) (hd:dl P≤400) (hx:x<P) (hy:P≤y) (w:World) (HQ:∀ k,Sl w (qc k).1 (six P A B N X Y k)) (Sx:Sl w p x) (Sy:Sl w q y):
 Cg 13 #[.agg (crA id (six P A B N X Y) qc),.agg (ptA p x n q y m false)] w (.bool false):=by
 obtain ⟨zx,ex⟩:∃ z,cmpZ x P=z:=⟨_,rfl⟩
 have bx:decide (0≤zx)=false:=by rw [← ex]; unfold cmpZ; rw [if_pos hx]; decide
 obtain ⟨zy,ey⟩:∃ z,cmpZ y P=z:=⟨_,rfl⟩
 have by1:decide (0≤zy)=true:=by rw [← ey]; unfold cmpZ; rw [if_neg (by omega)]; split <;> decide
 go_enter Tryz.func13,Tryz.ntmps13
 go_upto_region 1 with fail
 refine gen_w (fun v=>Gr w v∧Vr v (w.heap.size) (crA id (six P A B N X Y) qc)∧Vr v (w.heap.size+1) (ptA p x n q y m false)) ⟨grA,vrA,vrA⟩ ?_
 rintro v0 ⟨G,c1,c2⟩
 replace HQ:=fun k=>(HQ k).gr G
 replace Sx:=Sx.gr G
 replace Sy:=Sy.gr G
 refine wp_wS [.c (pv (w.heap.size+1) 2),.c (.bool false)] [1] ?hs11 ?hf11
 case hs11=>
  refine .cons (.o 4 2 c2 rfl rfl) .nil
 intro yw1 v1 hg h1
 simp only [FW,putFrom,Act.put,lqA,lqB,lqC,wvals,kW,lqD,lqE,Kw.c,pv]
 clear h1
 replace G:=G.trans hg
 replace c1:=c1.gr hg
 replace c2:=c2.gr hg
 replace HQ:=fun k=>(HQ k).gr hg
 replace Sx:=Sx.gr hg
 replace Sy:=Sy.gr hg
 clear hg
 go_upto_region 3 with fail
 refine wp_wS [.c (pv (w.heap.size+1) 0),.c (.slice p (dl (x)) n),.c (pv (w.heap.size) 1),.c (.slice (qc 0).1 (dl (P)) (qc 0).2),.c (.int .i64 zx),.c (.bool false),.c (.bool false),.c (pv (w.heap.size+1) 1),.c (.slice q (dl (y)) m),.c (pv (w.heap.size) 1),.c (.slice (qc 0).1 (dl (P)) (qc 0).2),.c (.int .i64 zy),.c (.bool true),.c (.bool true)] [1,3,4,5,8,10,11,12] ?hs12 ?hf12
 case hs12=>
  exact .cons (.o 30 0 c2 rfl rfl)<|.cons (.o 30 1 c1 rfl rfl)<|.cons (.k (fun yy => #[.slice p (dl (x)) n,.slice (qc 0).1 (dl (P)) (qc 0).2]) fun yy vv hg hh=>RtW.of_c (cz_any (Sx.gr hg) ((HQ 0).gr hg) hx4 hd ex))<|.cons (.s (.binOp .geq 3 (.const (.int .i64 zx)) (.const (.int .i64 0)) 3) rfl fun vv hg=>by simp [go_sem,exI,bx])<|.cons (.o 30 1 c2 rfl rfl)<|.cons (.o 30 1 c1 rfl rfl)<|.cons (.k (fun yy => #[.slice q (dl (y)) m,.slice (qc 0).1 (dl (P)) (qc 0).2]) fun yy vv hg hh=>RtW.of_c (cz_any (Sy.gr hg) ((HQ 0).gr hg) hy4 hd ey))<|.cons (.s (.binOp .geq 3 (.const (.int .i64 zy)) (.const (.int .i64 0)) 3) rfl fun vv hg=>by simp [go_sem,exI,by1]) .nil
 intro yw3 v2 hg h3
 simp only [FW,putFrom,Act.put,lqA,lqB,lqC,wvals,kW,lqD,lqE,Kw.c,pv]
 clear h3
 replace G:=G.trans hg
 replace c1:=c1.gr hg
 replace c2:=c2.gr hg
 replace HQ:=fun k=>(HQ k).gr hg
 replace Sx:=Sx.gr hg
 replace Sy:=Sy.gr hg
 clear hg
 go_wp2_with fail
 go_ret
 exact ⟨rfl,G⟩
theorem ron_ok (id:Int) (P A B N X Y:Nat) (qc:Nat→Option Addr×Nat) (x y:Nat) (p q:Option Addr) (n m:Nat) (hx4:dl x≤400) (hy4:dl y≤400) (hd:dl P≤400) (lx:x<P) (ly:y<P) (lA:A<P) (lB:B<P) (w:World) (HQ:∀ k,Sl w (qc k).1 (six P A B N X Y k)) (Sx:Sl w p x) (Sy:Sl w q y):
 Cg 13 #[.agg (crA id (six P A B N X Y) qc),.agg (ptA p x n q y m false)] w (.bool (decide (y*y%P=((x*x%P+A)%P*x%P+B)%P))):=by
 have hP:0<P:=by omega
 obtain ⟨zx,ex⟩:∃ z,cmpZ x P=z:=⟨_,rfl⟩
 have bx:decide (0≤zx)=false:=by rw [← ex]; unfold cmpZ; rw [if_pos lx]; decide
 obtain ⟨zy,ey⟩:∃ z,cmpZ y P=z:=⟨_,rfl⟩
 have by1:decide (0≤zy)=false:=by rw [← ey]; unfold cmpZ; rw [if_pos ly]; decide
 obtain ⟨t1,ht1⟩:∃ z,y*y%P=z:=⟨_,rfl⟩
 have lt1:t1<P:=ht1 ▸ Nat.mod_lt _ hP
 obtain ⟨R,hR1⟩:∃ z,((x*x%P+A)%P*x%P+B)%P=z:=⟨_,rfl⟩
 have lR:R<P:=hR1 ▸ Nat.mod_lt _ hP
 rw [hR1,ht1]
 obtain ⟨zz,ez⟩:∃ z,cmpZ t1 R=z:=⟨_,rfl⟩
 obtain ⟨r,hr⟩:∃ r,decide (t1=R)=r:=⟨_,rfl⟩
 have bz:(zz == 0)=r:=by rw [← ez,← hr]; exact cmpZ_nought _ _
 rw [hr]
 go_enter Tryz.func13,Tryz.ntmps13
 go_upto_region 1 with fail
 refine gen_w (fun v=>Gr w v∧Vr v (w.heap.size) (crA id (six P A B N X Y) qc)∧Vr v (w.heap.size+1) (ptA p x n q y m false)) ⟨grA,vrA,vrA⟩ ?_
 rintro v0 ⟨G,c1,c2⟩
 replace HQ:=fun k=>(HQ k).gr G
 replace Sx:=Sx.gr G
 replace Sy:=Sy.gr G
 refine wp_wS [.c (pv (w.heap.size+1) 2),.c (.bool false)] [1] ?hs13 ?hf13
 case hs13=>
  refine .cons (.o 4 2 c2 rfl rfl) .nil
 intro yw1 v1 hg h1
 simp only [FW,putFrom,Act.put,lqA,lqB,lqC,wvals,kW,lqD,lqE,Kw.c,pv]
 clear h1
 replace G:=G.trans hg
 replace c1:=c1.gr hg
 replace c2:=c2.gr hg
 replace HQ:=fun k=>(HQ k).gr hg
 replace Sx:=Sx.gr hg
 replace Sy:=Sy.gr hg
 clear hg
 go_upto_region 3 with fail
 refine wp_wS [.c (pv (w.heap.size+1) 0),.c (.slice p (dl (x)) n),.c (pv (w.heap.size) 1),.c (.slice (qc 0).1 (dl (P)) (qc 0).2),.c (.int .i64 zx),.c (.bool false),.c (.bool false),.c (pv (w.heap.size+1) 1),.c (.slice q (dl (y)) m),.c (pv (w.heap.size) 1),.c (.slice (qc 0).1 (dl (P)) (qc 0).2),.c (.int .i64 zy),.c (.bool false),.c (.bool false)] [1,3,4,5,8,10,11,12] ?hs14 ?hf14
 case hs14=>
  exact .cons (.o 30 0 c2 rfl rfl)<|.cons (.o 30 1 c1 rfl rfl)<|.cons (.k (fun yy => #[.slice p (dl (x)) n,.slice (qc 0).1 (dl (P)) (qc 0).2]) fun yy vv hg hh=>RtW.of_c (cz_any (Sx.gr hg) ((HQ 0).gr hg) hx4 hd ex))<|.cons (.s (.binOp .geq 3 (.const (.int .i64 zx)) (.const (.int .i64 0)) 3) rfl fun vv hg=>by simp [go_sem,exI,bx])<|.cons (.o 30 1 c2 rfl rfl)<|.cons (.o 30 1 c1 rfl rfl)<|.cons (.k (fun yy => #[.slice q (dl (y)) m,.slice (qc 0).1 (dl (P)) (qc 0).2]) fun yy vv hg hh=>RtW.of_c (cz_any (Sy.gr hg) ((HQ 0).gr hg) hy4 hd ey))<|.cons (.s (.binOp .geq 3 (.const (.int .i64 zy)) (.const (.int .i64 0)) 3) rfl fun vv hg=>by simp [go_sem,exI,by1]) .nil
 intro yw3 v2 hg h3
 simp only [FW,putFrom,Act.put,lqA,lqB,lqC,wvals,kW,lqD,lqE,Kw.c,pv]
 clear h3
 replace G:=G.trans hg
 replace c1:=c1.gr hg
 replace c2:=c2.gr hg
 replace HQ:=fun k=>(HQ k).gr hg
 replace Sx:=Sx.gr hg
 replace Sy:=Sy.gr hg
 clear hg
 go_upto_region 5 with fail
 refine wp_w [.c (pv (w.heap.size+1) 1),.c (.slice q (dl (y)) m),.c (pv (w.heap.size+1) 1),.c (.slice q (dl (y)) m),.c (pv (w.heap.size) 1),.c (.slice (qc 0).1 (dl (P)) (qc 0).2),.n (t1),.c (.agg (crA id (six P A B N X Y) qc)),.c (pv (w.heap.size+1) 0),.c (.slice p (dl (x)) n),.n (R),.c (.int .i64 zz),.c (.bool r),.c (.bool r)] [1,3,5,6,7,9,10,11,12] ?hs15 ?hf15
 case hs15=>
  exact .cons (.o 30 1 c2 rfl rfl)<|.cons (.o 30 1 c2 rfl rfl)<|.cons (.o 30 1 c1 rfl rfl)<|.cons (.k (fun yy => #[.slice q (dl (y)) m,.slice q (dl (y)) m,.slice (qc 0).1 (dl (P)) (qc 0).2]) fun yy vv hg hh=>RtW.of_n (mm_any (Sy.gr hg) (Sy.gr hg) ((HQ 0).gr hg) ly ly hd ht1))<|.cons (.g 32 0 c1 rfl)<|.cons (.o 30 0 c2 rfl rfl)<|.cons (.k (fun yy => #[.agg (crA id (six P A B N X Y) qc),.slice p (dl (x)) n]) fun yy vv hg hh=>RtW.of_n (Rt.n (hR1 ▸ rright_any id P A B N X Y qc x _ _ lx lA lB hd _ (fun k=>(HQ k).gr hg) (Sx.gr hg))))<|.cons (.k (fun yy => #[.slice (yy 6 0).1 (dl (t1)) (yy 6 0).2,.slice (yy 10 0).1 (dl (R)) (yy 10 0).2]) fun yy vv hg hh=>RtW.of_c (cz_any (hh 6 rfl) (hh 10 rfl) (dl_low _ P 400 (by omega) hd) (dl_low _ P 400 (by omega) hd) ez))<|.cons (.s (.binOp .eql 3 (.const (.int .i64 zz)) (.const (.int .i64 0)) 3) rfl fun vv hg=>by simp [go_sem,exI,bz]) .nil
 intro yw5 v3 hg h5
 simp only [FW,putFrom,Act.put,lqA,lqB,lqC,wvals,kW,lqD,lqE,Kw.c,pv,Kw.n]
 clear h5
 replace G:=G.trans hg
 replace c1:=c1.gr hg
 replace c2:=c2.gr hg
 replace HQ:=fun k=>(HQ k).gr hg
 replace Sx:=Sx.gr hg
 replace Sy:=Sy.gr hg
 clear hg
 go_wp2_with fail
 go_ret
 exact ⟨rfl,G⟩
end
section
attribute [local go_sem ↓] loadPt_is storePt_is zvPt_is buildPt_is loadC_is loadPn_is loadCu_is storePn_is zvPn_is buildPn_is storeCu_is zvCu_is buildCu_is Go.wp_at_zero Go.wp_at_succ
attribute [local go_sem] loadPt storePt zvPt buildPt3 buildPt2 buildPtI ptA_size crA_size loadC loadPn loadPX loadPY pnt_size pnt_X pnt_Y storePn zvPn buildPn2 buildPn3 storeCu zvCu buildCu9 cu_size loadCu
attribute [local go_sem] frz_setBlk blk_setBlk setBlk_setBlk
section
variable {P:Nat} [NeZero P] {i:Fin P→Fin P} {A B:Fin P}
theorem rtimes_any (C:EC.Cur i A B) (hd:dl P≤400) (id:Int) (N X Y:Nat) (qc:Nat→Option Addr×Nat) (k nk:Nat) (pk:Option Addr) (hk:dl k≤400) (Q:Option (Fin P×Fin P)) (hQ:EC.On A B Q) (p q:Option Addr) (n m:Nat) (w:World)
 (HQ:∀ k,Sl w (qc k).1 (six P A.val B.val N X Y k)) (Sk:Sl w pk k) (Sx:Sl w p (ex Q)) (Sy:Sl w q (ey Q)):
 Calls Tryz.prog 18 #[.agg (crA id (six P A.val B.val N X Y) qc),.slice pk (dl k) nk,.agg (ptA p (ex Q) n q (ey Q) m (ef Q))] w (Rt (.pt (ex (EC.ml i A k Q)) (ey (EC.ml i A k Q)) (ef (EC.ml i A k Q))) w):=by
 obtain ⟨L,hL⟩:∃ L,bl k=L:=⟨_,rfl⟩
 have hL1:(L:Int)≤12800:=by
  have:(bl k+31)/32≤400:=hk
  omega
 have hL0:(0:Int)≤(L:Int):=by omega
 have HB:Hid (∀ w',Gr w w'→Calls Tryz.prog 40 #[.slice pk (dl k) nk] w' fun e w''=>e=.returned (.int .i64 (L:Int))∧w''=w'):=fun w' g=>hL ▸ rbits_any k nk pk w' (Sk.gr g) (by omega)
 have HZ:Hid (Unit→k/2 ^ L=0):=fun _=>Nat.div_eq_of_lt (hL ▸ (bl_le k (bl k)).1 (Nat.le_refl _))
 have HLk:Hid (Unit→L≤12800):=fun _=>by omega
 clear hL
 go_enter Tryz.func18,Tryz.ntmps18
 go_upto_region 3 with (go_at_call 40; refine (HB.out _ grA).mono ?_; rintro e w' ⟨rfl,rfl⟩)
 obtain ⟨b7,hb7⟩:∃ b,w.heap.size+1+1+1=b:=⟨_,rfl⟩
 simp only [hb7]
 refine gen_w (fun v=>Hid (Gr w v∧Vr v (w.heap.size) (crA id (six P A.val B.val N X Y) qc)∧Vr v (w.heap.size+1) (ptA p (ex Q) n q (ey Q) m (ef Q))∧Vr v (w.heap.size+1+1) (ptA none 0 0 none 0 0 false)∧Vr v b7 (ptA none 0 0 none 0 0 true))) ?_ ?_
 ·subst hb7
  exact ⟨grA,⟨by simp [go_sem],by simp [go_sem],by simp [go_sem]⟩,⟨by simp [go_sem],by simp [go_sem],by simp [go_sem]⟩,⟨by simp [go_sem],by simp [go_sem],by simp [go_sem]⟩,⟨by simp [go_sem],by simp [go_sem],by simp [go_sem]⟩⟩
 intro v0 HV
 have ne0:b7≠w.heap.size:=by omega
 have ne1:b7≠w.heap.size+1:=by omega
 have ne2:b7≠w.heap.size+1+1:=by omega
 have nb7:w.heap.size≤b7:=by omega
 have HN:Hid (Unit→b7≠w.heap.size∧b7≠w.heap.size+1∧b7≠w.heap.size+1+1∧w.heap.size≤b7):=fun _=>⟨ne0,ne1,ne2,nb7⟩
 clear hb7 ne0 ne1 ne2 nb7 HB
 go_loopw [8] (fun ia wr=>∃ (j:Nat) (po:Option Addr) (no:Nat) (qo:Option Addr) (mo:Nat),ia=.int .i64 ((j:Int)-1)∧Hid (Unit→j≤L)∧Hid (Gr w wr∧Vr wr (w.heap.size) (crA id (six P A.val B.val N X Y) qc)∧Vr wr (w.heap.size+1) (ptA p (ex Q) n q (ey Q) m (ef Q))∧Vr wr (w.heap.size+1+1) (ptA none 0 0 none 0 0 false)∧Vr wr b7 (ptA po (ex (EC.ml i A (k/2 ^ j) Q)) no qo (ey (EC.ml i A (k/2 ^ j) Q)) mo (ef (EC.ml i A (k/2 ^ j) Q)))∧Sl wr po (ex (EC.ml i A (k/2 ^ j) Q))∧Sl wr qo (ey (EC.ml i A (k/2 ^ j) Q)))) (fun ia _=>(intOf ia+1).toNat)
 case atStart=>
  refine ⟨L,none,0,none,0,rfl,fun _=>Nat.le_refl _,?_⟩
  rw [HZ.out ()]
  obtain ⟨h1,h2,h3,h4,h5⟩:=HV.out
  exact ⟨h1,h2,h3,h4,h5,Sl.zero _ _,Sl.zero _ _⟩
 case round=>
  obtain ⟨j,po,no,qo,mo,rfl,HJ,HR⟩:=hrel
  by_cases hpos:0<j
  ·obtain ⟨i0,rfl⟩:∃ i,j=i+1:=⟨j-1,by omega⟩
   have e1:(((i0+1:Nat):Int)-1)=(i0:Int):=by omega
   rw [e1]
   have j0:(0:Int)≤(i0:Int):=by omega
   have j1:(i0:Int)<12800:=by have:=HJ.out (); have:=HLk.out (); omega
   have HJ2:i0≤L:=by have:=HJ.out (); omega
   obtain ⟨R,hR⟩:∃ R,EC.ml i A (k/2 ^ (i0+1)) Q=R:=⟨_,rfl⟩
   obtain ⟨R1,hR1⟩:∃ R1,EC.pl i A R R=R1:=⟨_,rfl⟩
   obtain ⟨R2,hR2⟩:∃ R2,EC.pl i A R1 Q=R2:=⟨_,rfl⟩
   rw [hR] at HR
   obtain ⟨G,c1,c2,c3,c7,So,To⟩:=HR.out
   obtain ⟨ne0,ne1,ne2,nb7⟩:=HN.out ()
   replace HQ:=fun k=>(HQ k).gr G
   replace Sk:=Sk.gr G
   replace Sx:=Sx.gr G
   replace Sy:=Sy.gr G
   have hdiv:∀ b,k/2 ^ i0%2=b→k/2 ^ i0=k/2 ^ (i0+1)+k/2 ^ (i0+1)+b:=fun b hb=>by
    rw [Nat.pow_succ,← Nat.div_div_eq_div_mul]; omega
   have h12:EC.ml i A (k/2 ^ (i0+1)+k/2 ^ (i0+1)) Q=R1:=by rw [EC.ml_add C hQ,hR,hR1]
   have hbt:=fun w' (s:Sl w' pk k)=>rbit_any k nk i0 pk w' s (by omega)
   clear HV HR HJ hpos e1
   obtain hb | hb:k/2 ^ i0%2=0∨k/2 ^ i0%2=1:=by omega
   ·have hR3:R1=EC.ml i A (k/2 ^ i0) Q:=by rw [hdiv 0 hb,Nat.add_zero,h12]
    have hbit:∀ w',Sl w' pk k→Calls Tryz.prog 42 #[.slice pk (dl k) nk,.int .i64 (i0:Int)] w' fun e w''=>e=.returned (.int .i64 0)∧w''=w':=fun w' s=>by
     have:=hbt w' s
     rw [show bitN k i0=0 from hb] at this
     exact this
    clear hb h12 hdiv hbt
    go_upto_region 5 with fail
    refine wp_wTS 4 [.c (.agg (crA id (six P A.val B.val N X Y) qc)),.c (.agg (ptA po (ex R) no qo (ey R) mo (ef R))),.c (.agg (ptA po (ex R) no qo (ey R) mo (ef R))),.pt (ex R1) (ey R1) (ef R1)] [0,1,2,3] ?hs1 ?hf1
    case hs1=>
     exact .cons (.g 32 0 c1 rfl)<|.cons (.g 40 0 c7 rfl)<|.cons (.g 40 0 c7 rfl)<|.cons (.k (fun yy => #[.agg (crA id (six P A.val B.val N X Y) qc),.agg (ptA po (ex R) no qo (ey R) mo (ef R)),.agg (ptA po (ex R) no qo (ey R) mo (ef R))]) fun yy vv hg hh=>RtW.of_pt (hR1 ▸ rplus_any C hd id N X Y qc R R po qo no mo po qo no mo _ (fun k=>(HQ k).gr hg) (So.gr hg) (To.gr hg) (So.gr hg) (To.gr hg))) .nil
    refine .s 40 (fun yy=>.pointer (some ⟨b7,0,none⟩)) (fun yy=>.agg (ptA (yy 3 0).1 (ex R1) (yy 3 0).2 (yy 3 1).1 (ey R1) (yy 3 1).2 (ef R1))) fun yw5 v1 hg h5=>?_
    have HT:=(c7.gr hg).h
    have FT:=(c7.gr hg).f
    refine ⟨setBlk v1 (b7) (ptA (yw5 3 0).1 (ex R1) (yw5 3 0).2 (yw5 3 1).1 (ey R1) (yw5 3 1).2 (ef R1)),by simp [go_sem,exI,HT,FT],?_⟩
    simp only [FW,putFrom,Act.put,lqA,lqB,lqC,wvals,kW,lqD,lqE,Kw.c,Kw.pt]
    obtain ⟨S5_3,T5_3⟩:Sl v1 (yw5 3 0).1 (ex R1)∧Sl v1 (yw5 3 1).1 (ey R1):=h5 3
    clear h5
    replace G:=G.trans hg
    replace c1:=c1.gr hg
    replace c2:=c2.gr hg
    replace c3:=c3.gr hg
    replace c7:=c7.gr hg
    replace HQ:=fun k=>(HQ k).gr hg
    replace Sk:=Sk.gr hg
    replace Sx:=Sx.gr hg
    replace Sy:=Sy.gr hg
    replace So:=So.gr hg
    replace To:=To.gr hg
    clear hg
    go_upto_region 6 with fail
    refine gen_w (fun u=>Gr w u∧Vr u (w.heap.size) (crA id (six P A.val B.val N X Y) qc)∧Vr u (w.heap.size+1) (ptA p (ex Q) n q (ey Q) m (ef Q))∧Vr u (w.heap.size+1+1) (ptA none 0 0 none 0 0 false)∧Vr u (b7) (ptA (yw5 3 0).1 (ex R1) (yw5 3 0).2 (yw5 3 1).1 (ey R1) (yw5 3 1).2 (ef R1))∧(∀ k,Sl u (qc k).1 (six P A.val B.val N X Y k))∧Sl u pk (k)∧Sl u p (ex Q)∧Sl u q (ey Q)∧Sl u (yw5 3 0).1 (ex R1)∧Sl u (yw5 3 1).1 (ey R1)) ⟨gr_setNew G (by omega),c1.other (ne0),c2.other (ne1),c3.other (ne2),c7.set (by rw [ptA_size]; decide) _,fun k=>Sl.set (HQ k) (by rw [HT]; exact ptA_no _ _ _ _ _ _ _),Sl.set Sk (by rw [HT]; exact ptA_no _ _ _ _ _ _ _),Sl.set Sx (by rw [HT]; exact ptA_no _ _ _ _ _ _ _),Sl.set Sy (by rw [HT]; exact ptA_no _ _ _ _ _ _ _),Sl.set S5_3 (by rw [HT]; exact ptA_no _ _ _ _ _ _ _),Sl.set T5_3 (by rw [HT]; exact ptA_no _ _ _ _ _ _ _)⟩ ?_
    clear HT FT
    rintro u5 ⟨G,c1,c2,c3,c7,HQ,Sk,Sx,Sy,S5_3,T5_3⟩
    refine wp_wS [.c (.slice pk (dl (k)) nk),.c (.int .i64 (i0:Int)),.c (.int .i64 0),.c (.bool false)] [2] ?hs2 ?hf2
    case hs2=>
     refine .cons (.k (fun yy => #[.slice pk (dl (k)) nk,.int .i64 (i0:Int)]) fun yy vv hg hh=>RtW.of_c (Rt.same (hbit _ (Sk.gr hg)))) .nil
    intro yw6 v2 hg h6
    simp only [FW,putFrom,Act.put,lqA,lqB,lqC,wvals,kW,lqD,lqE,Kw.c]
    clear h6
    replace G:=G.trans hg
    replace c1:=c1.gr hg
    replace c2:=c2.gr hg
    replace c3:=c3.gr hg
    replace c7:=c7.gr hg
    replace HQ:=fun k=>(HQ k).gr hg
    replace Sk:=Sk.gr hg
    replace Sx:=Sx.gr hg
    replace Sy:=Sy.gr hg
    replace S5_3:=S5_3.gr hg
    replace T5_3:=T5_3.gr hg
    clear hg
    go_wp2_with fail
    go_roundw
    case rel=>
     refine ⟨i0,(yw5 3 0).1,(yw5 3 0).2,(yw5 3 1).1,(yw5 3 1).2,by simp,fun _=>HJ2,?_⟩
     rw [← hR3]
     exact ⟨G,c1,c2,c3,c7,S5_3,T5_3⟩
    case measure=>simp [intOf]
   ·have hR3:R2=EC.ml i A (k/2 ^ i0) Q:=by
     rw [hdiv 1 hb]
     show R2=EC.pl i A (EC.ml i A (k/2 ^ (i0+1)+k/2 ^ (i0+1)) Q) Q
     rw [h12,hR2]
    have hbit:∀ w',Sl w' pk k→Calls Tryz.prog 42 #[.slice pk (dl k) nk,.int .i64 (i0:Int)] w' fun e w''=>e=.returned (.int .i64 1)∧w''=w':=fun w' s=>by
     have:=hbt w' s
     rw [show bitN k i0=1 from hb] at this
     exact this
    clear hb h12 hdiv hbt
    go_upto_region 5 with fail
    refine wp_wTS 4 [.c (.agg (crA id (six P A.val B.val N X Y) qc)),.c (.agg (ptA po (ex R) no qo (ey R) mo (ef R))),.c (.agg (ptA po (ex R) no qo (ey R) mo (ef R))),.pt (ex R1) (ey R1) (ef R1)] [0,1,2,3] ?hs3 ?hf3
    case hs3=>
     exact .cons (.g 32 0 c1 rfl)<|.cons (.g 40 0 c7 rfl)<|.cons (.g 40 0 c7 rfl)<|.cons (.k (fun yy => #[.agg (crA id (six P A.val B.val N X Y) qc),.agg (ptA po (ex R) no qo (ey R) mo (ef R)),.agg (ptA po (ex R) no qo (ey R) mo (ef R))]) fun yy vv hg hh=>RtW.of_pt (hR1 ▸ rplus_any C hd id N X Y qc R R po qo no mo po qo no mo _ (fun k=>(HQ k).gr hg) (So.gr hg) (To.gr hg) (So.gr hg) (To.gr hg))) .nil
    refine .s 40 (fun yy=>.pointer (some ⟨b7,0,none⟩)) (fun yy=>.agg (ptA (yy 3 0).1 (ex R1) (yy 3 0).2 (yy 3 1).1 (ey R1) (yy 3 1).2 (ef R1))) fun yw5 v1 hg h5=>?_
    have HT:=(c7.gr hg).h
    have FT:=(c7.gr hg).f
    refine ⟨setBlk v1 (b7) (ptA (yw5 3 0).1 (ex R1) (yw5 3 0).2 (yw5 3 1).1 (ey R1) (yw5 3 1).2 (ef R1)),by simp [go_sem,exI,HT,FT],?_⟩
    simp only [FW,putFrom,Act.put,lqA,lqB,lqC,wvals,kW,lqD,lqE,Kw.c,Kw.pt]
    obtain ⟨S5_3,T5_3⟩:Sl v1 (yw5 3 0).1 (ex R1)∧Sl v1 (yw5 3 1).1 (ey R1):=h5 3
    clear h5
    replace G:=G.trans hg
    replace c1:=c1.gr hg
    replace c2:=c2.gr hg
    replace c3:=c3.gr hg
    replace c7:=c7.gr hg
    replace HQ:=fun k=>(HQ k).gr hg
    replace Sk:=Sk.gr hg
    replace Sx:=Sx.gr hg
    replace Sy:=Sy.gr hg
    replace So:=So.gr hg
    replace To:=To.gr hg
    clear hg
    go_upto_region 6 with fail
    refine gen_w (fun u=>Gr w u∧Vr u (w.heap.size) (crA id (six P A.val B.val N X Y) qc)∧Vr u (w.heap.size+1) (ptA p (ex Q) n q (ey Q) m (ef Q))∧Vr u (w.heap.size+1+1) (ptA none 0 0 none 0 0 false)∧Vr u (b7) (ptA (yw5 3 0).1 (ex R1) (yw5 3 0).2 (yw5 3 1).1 (ey R1) (yw5 3 1).2 (ef R1))∧(∀ k,Sl u (qc k).1 (six P A.val B.val N X Y k))∧Sl u pk (k)∧Sl u p (ex Q)∧Sl u q (ey Q)∧Sl u (yw5 3 0).1 (ex R1)∧Sl u (yw5 3 1).1 (ey R1)) ⟨gr_setNew G (by omega),c1.other (ne0),c2.other (ne1),c3.other (ne2),c7.set (by rw [ptA_size]; decide) _,fun k=>Sl.set (HQ k) (by rw [HT]; exact ptA_no _ _ _ _ _ _ _),Sl.set Sk (by rw [HT]; exact ptA_no _ _ _ _ _ _ _),Sl.set Sx (by rw [HT]; exact ptA_no _ _ _ _ _ _ _),Sl.set Sy (by rw [HT]; exact ptA_no _ _ _ _ _ _ _),Sl.set S5_3 (by rw [HT]; exact ptA_no _ _ _ _ _ _ _),Sl.set T5_3 (by rw [HT]; exact ptA_no _ _ _ _ _ _ _)⟩ ?_
    clear HT FT
    rintro u5 ⟨G,c1,c2,c3,c7,HQ,Sk,Sx,Sy,S5_3,T5_3⟩
    refine wp_wS [.c (.slice pk (dl (k)) nk),.c (.int .i64 (i0:Int)),.c (.int .i64 1),.c (.bool true)] [2] ?hs4 ?hf4
    case hs4=>
     refine .cons (.k (fun yy => #[.slice pk (dl (k)) nk,.int .i64 (i0:Int)]) fun yy vv hg hh=>RtW.of_c (Rt.same (hbit _ (Sk.gr hg)))) .nil
    intro yw6 v2 hg h6
    simp only [FW,putFrom,Act.put,lqA,lqB,lqC,wvals,kW,lqD,lqE,Kw.c]
    clear h6
    replace G:=G.trans hg
    replace c1:=c1.gr hg
    replace c2:=c2.gr hg
    replace c3:=c3.gr hg
    replace c7:=c7.gr hg
    replace HQ:=fun k=>(HQ k).gr hg
    replace Sk:=Sk.gr hg
    replace Sx:=Sx.gr hg
    replace Sy:=Sy.gr hg
    replace S5_3:=S5_3.gr hg
    replace T5_3:=T5_3.gr hg
    clear hg
    go_upto_region 7 with fail
    refine wp_wTS 4 [.c (.agg (crA id (six P A.val B.val N X Y) qc)),.c (.agg (ptA (yw5 3 0).1 (ex R1) (yw5 3 0).2 (yw5 3 1).1 (ey R1) (yw5 3 1).2 (ef R1))),.c (.agg (ptA p (ex Q) n q (ey Q) m (ef Q))),.pt (ex R2) (ey R2) (ef R2)] [0,1,2,3] ?hs5 ?hf5
    case hs5=>
     exact .cons (.g 32 0 c1 rfl)<|.cons (.g 40 0 c7 rfl)<|.cons (.g 40 0 c2 rfl)<|.cons (.k (fun yy => #[.agg (crA id (six P A.val B.val N X Y) qc),.agg (ptA (yw5 3 0).1 (ex R1) (yw5 3 0).2 (yw5 3 1).1 (ey R1) (yw5 3 1).2 (ef R1)),.agg (ptA p (ex Q) n q (ey Q) m (ef Q))]) fun yy vv hg hh=>RtW.of_pt (hR2 ▸ rplus_any C hd id N X Y qc R1 Q (yw5 3 0).1 (yw5 3 1).1 (yw5 3 0).2 (yw5 3 1).2 p q n m _ (fun k=>(HQ k).gr hg) (S5_3.gr hg) (T5_3.gr hg) (Sx.gr hg) (Sy.gr hg))) .nil
    refine .s 40 (fun yy=>.pointer (some ⟨b7,0,none⟩)) (fun yy=>.agg (ptA (yy 3 0).1 (ex R2) (yy 3 0).2 (yy 3 1).1 (ey R2) (yy 3 1).2 (ef R2))) fun yw7 v3 hg h7=>?_
    have HT:=(c7.gr hg).h
    have FT:=(c7.gr hg).f
    refine ⟨setBlk v3 (b7) (ptA (yw7 3 0).1 (ex R2) (yw7 3 0).2 (yw7 3 1).1 (ey R2) (yw7 3 1).2 (ef R2)),by simp [go_sem,exI,HT,FT],?_⟩
    simp only [FW,putFrom,Act.put,lqA,lqB,lqC,wvals,kW,lqD,lqE,Kw.c,Kw.pt]
    obtain ⟨S7_3,T7_3⟩:Sl v3 (yw7 3 0).1 (ex R2)∧Sl v3 (yw7 3 1).1 (ey R2):=h7 3
    clear h7
    replace G:=G.trans hg
    replace c1:=c1.gr hg
    replace c2:=c2.gr hg
    replace c3:=c3.gr hg
    replace c7:=c7.gr hg
    replace HQ:=fun k=>(HQ k).gr hg
    replace Sk:=Sk.gr hg
    replace Sx:=Sx.gr hg
    replace Sy:=Sy.gr hg
    replace S5_3:=S5_3.gr hg
    replace T5_3:=T5_3.gr hg
    clear hg
    go_wp2_with fail
    go_roundw
    case rel=>
     refine ⟨i0,(yw7 3 0).1,(yw7 3 0).2,(yw7 3 1).1,(yw7 3 1).2,by simp,fun _=>HJ2,?_⟩
     rw [← hR3]
     exact ⟨gr_setNew G (by omega),c1.other ne0,c2.other ne1,c3.other ne2,c7.set (by rw [ptA_size]; decide) _,Sl.set S7_3 (by rw [HT]; exact ptA_no _ _ _ _ _ _ _),Sl.set T7_3 (by rw [HT]; exact ptA_no _ _ _ _ _ _ _)⟩
    case measure=>simp [intOf]
  ·obtain rfl:j=0:=by omega
   rw [Nat.pow_zero,Nat.div_one] at HR
   obtain ⟨R,hR⟩:∃ R,EC.ml i A k Q=R:=⟨_,rfl⟩
   rw [hR] at HR
   obtain ⟨G,c1,c2,c3,c7,So,To⟩:=HR.out
   obtain ⟨ne0,ne1,ne2,nb7⟩:=HN.out ()
   have ⟨h3,f3,p3⟩:=c3
   have ⟨h7,f7,p7⟩:=c7
   have n2:¬ w.heap.size+1+1=b7:=fun h=>ne2 h.symm
   clear HV HR HJ hpos
   go_wp2_with fail
   refine bodyPost_ret (res_one Tryz.results18 (rd_pt po (ex R) no qo (ey R) mo (ef R) (by rfl) ?_)) rfl ⟨_,rfl,?_,gr_setNew G (by omega)⟩
   ·simp [go_sem,h3]
   ·rw [hR]
    exact ⟨_,_,_,_,rfl,Sl.set So (by rw [h3]; exact ptA_no _ _ _ _ _ _ _),Sl.set To (by rw [h3]; exact ptA_no _ _ _ _ _ _ _)⟩
end
end
end
end Go.Proofs.YtikilbpfhijocaaGreat