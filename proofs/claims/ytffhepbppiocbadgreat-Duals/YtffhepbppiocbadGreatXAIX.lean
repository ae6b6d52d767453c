import Derived.Test.YtffhepbppiocbadGreatXACC
import Derived.Test.YtffhepbppiocbadGreatXARShr0
namespace Go.Proofs.YtffhepbppiocbadGreat
open Go.RowKit Go.Proofs.Tryz
set_option maxRecDepth 100000
set_option maxHeartbeats 8000000
section
attribute [local go_sem ↓] uz1
attribute [local go_sem] uz2
section
attribute [local go_sem] ppre_1 ppre_2 ppre_3
attribute [local go_sem ↓] zvCu_is storeCu_is buildCu_is buildPn_is
attribute [local go_sem] zvCu storeCu buildCu4 buildPn2 cu_size frz_setBlk blk_setBlk setBlk_setBlk
def wl(k X:Nat):List Nat:=(List.range k).map fun i=>wd X (k-1-i)
def Kw.w(k X:Nat):Kw:=⟨fun y=>.slice (some ⟨(y 0).2,0,none⟩) k k,fun y w=>blk w (y 0).2=ws (wl k X)∧Pre ((y 0).2+1) w.heap.size,fun _ _ _ h g=>⟨(g.blk _ h.2).trans h.1,Nat.le_trans h.2 g.below.size⟩,0,fun h=>absurd rfl h,fun h=>absurd h (by decide)⟩
def bsO(k X:Nat):Op:=.buildSlice 208 k ((List.range k).map fun i=>(i,.const (.int .u64 ((wd X (k-1-i):Nat):Int)))).toArray
theorem bsO_run(k X:Nat)(h:k<10)(v:World):(exI (bsO k X)).run prog v=.ok (.value (.slice (some ⟨v.heap.size,0,none⟩) k k)) (v.alloc (.cells (ws (wl k X)) 22)):=by
 obtain rfl|rfl|rfl|rfl|rfl|rfl|rfl|rfl|rfl|rfl:k=0∨k=1∨k=2∨k=3∨k=4∨k=5∨k=6∨k=7∨k=8∨k=9:=by omega
 all_goals kernel_rfl
theorem ObW.w{l:List Oper}{a0:Act}{W:World}{kp:List Kw}{i:Nat}(k X:Nat)(hk:kW kp i=.w k X)(h:k<10)(hr:runW l kp a0 i=fun _=>some (exI (bsO k X)):=by kernel_rfl):ObW prog l kp a0 W i:=
 ObW.e (fun _=>exI (bsO k X)) hr fun _ v d _=>⟨fun _=>(none,v.heap.size),_,by rw[hk];exact bsO_run k X h v,(Gr.refl _).alloc _,by rw[hk];exact⟨blk_alloc_at _ _ _ _ _ rfl,by simp[Pre]⟩⟩
theorem numN{k X b:Nat}{w:World}(h:(decide (k≤9)&&decide (numW (wl k X)=X))=true)(hb:blk w b=ws (wl k X)∧Pre (b+1) w.heap.size):
 Calls prog 151 #[.slice (some ⟨b,0,none⟩) k k] w (Rt (.c (.agg (nw 9 X))) w):=by
 simp only[Bool.and_eq_true,decide_eq_true_eq]at h
 have:=number_any (wl k X) k b (by simp[wl]) h.1 (fun x d=>by
  obtain⟨i,-,rfl⟩:=List.mem_map.1 d
  exact wd_lt _ _) w hb.1 hb.2
 rw[h.2]at this;exact Rt.c this
theorem lessN(i:Nat)(h:(decide (3≤pN i)&&decide (pN i<M)&&decide (pN i-3=aN i))=true)(w:World):Calls prog 150 #[.agg (nw 9 (pN i))] w (Rt (.c (.agg (nw 9 (aN i)))) w):=by
 simp only[Bool.and_eq_true,decide_eq_true_eq]at h;have:=lessThree_any (pN i) h.1.1 h.1.2 w;rw[h.2]at this;exact Rt.c this
theorem smlN(c:Int)(X:Nat)(h:c.toNat=X)(hc:c≤9223372036854775807)(w:World):Calls prog 105 #[.int .i64 c] w (Rt (.c (.agg (nw 9 X))) w):=h▸Rt.c (small_any c hc w)
theorem ObsW.wn{l:List Oper}{a0:Act}{W:World}{kp:List Kw}{i:Nat}{r:List Nat}(k X:Nat)(t:ObsW prog l kp a0 W r)(hk:kW kp i=.w k X:=by rfl)(h2:kW kp (i+1)=.c (.agg (nw 9 X)):=by rfl)(h:(decide (k≤9)&&decide (numW (wl k X)=X))=true:=by decide +kernel)(hw:wts l (i+1) i=true:=by rfl)(hr:runW l kp a0 i=fun _=>some (exI (bsO k X)):=by kernel_rfl)(hc:(fun x v=>resW prog l kp a0 x v (i+1))=fun x v=>some (.ok (.enter 151 #[.slice (some ⟨(x i 0).2,0,none⟩) k k]) v):=by kernel_rfl):ObsW prog l kp a0 W (i :: (i+1) :: r):=by
 have j:=h;simp only[Bool.and_eq_true,decide_eq_true_eq]at j;refine .cons (.w k X hk (by omega) hr) (.cons (.k (fun d =>#[.slice (some ⟨(d i 0).2,0,none⟩) k k]) (fun d A B q=>?_) hc) t);have f:=q i hw;rw[hk]at f;rw[h2];exact RtW.of_c (numN h f)
theorem TlW.sc{l:List Oper}{a0:Act}{W:World}{kp:List Kw}{Q:Exit→Act→World→Prop}{n:Nat}(i b:Nat)(c2:Vr W b (cu 0 0 0 0 0 0 0 0 0 false))(hf:∀x v,Gr W v→blk v b=cu 0 0 0 0 0 0 0 0 0 false→Q .normal (FW l kp a0 x) (setBlk v b (cu 0 0 (aN i) (bN i) (oN i) (xN i) (yN i) 0 0 false)))(hr:(fun x=>execOp (FW l kp a0 x).eval (opW l n))=fun _=>exI (.store 78 (.const (.pointer (some ⟨b,0,none⟩))) (.const (.agg (cu 0 0 (aN i) (bN i) (oN i) (xN i) (yN i) 0 0 false)))):=by kernel_rfl):TlW prog l kp a0 W Q n:=
 .s 78 (fun _=>.pointer (some ⟨b,0,none⟩)) (fun _=>.agg (cu 0 0 (aN i) (bN i) (oN i) (xN i) (yN i) 0 0 false)) (fun x v d _=>by
  have j:=(c2.gr d).h;have q:=(c2.gr d).f
  exact⟨_,by simp[go_sem,exI,j,q],hf x v d j⟩) hr
def mkE(i n:Nat):List Kw:=[.w n (bN i),.c (.agg (nw 9 (bN i))),.w n (oN i),.c (.agg (nw 9 (oN i))),.w n (xN i),.c (.agg (nw 9 (xN i))),.w n (yN i),.c (.agg (nw 9 (yN i))),.c (.agg (pnt (xN i) (yN i) false)),.c (.agg (cu 0 0 (aN i) (bN i) (oN i) (xN i) (yN i) 0 0 false))]
def mkA(i n:Nat):List Kw:=.c (.agg (nw 9 (pN i))) :: .c (.agg (nw 9 (aN i))) :: mkE i n
def mkC(i n:Nat):List Kw:=.w n (aN i) :: .c (.agg (nw 9 (aN i))) :: mkE i n
theorem gen_mk{P:Program}{c:Code}{Q:Exit→Act→World→Prop}{a:Act}{W:World}(i:Nat)(w:World)(h:Gr w W∧Vr W w.heap.size (nw 9 (pN i))∧Vr W (w.heap.size+1) (cu 0 0 0 0 0 0 0 0 0 false))(k:∀v,Gr w v→Vr v w.heap.size (nw 9 (pN i))→Vr v (w.heap.size+1) (cu 0 0 0 0 0 0 0 0 0 false)→c.wp P Q a v):c.wp P Q a W:=k W h.1 h.2.1 h.2.2
theorem mk_1(w:World):
 Cg 112 #[.agg (nw 9 (pN 1))] w (.agg (cu 0 0 (aN 1) (bN 1) (oN 1) (xN 1) (yN 1) 0 0 false)):=by
 go_enter func112,ntmps112
 go_upto_region 1 with fail
 refine gen_mk 1 w ⟨grA,⟨by simp[go_sem],by simp[go_sem],by simp[go_sem]⟩,⟨by simp[go_sem],by simp[go_sem],by simp[go_sem]⟩⟩ fun q G f h=>?_;refine wp_wTS 12 (mkA 1 3) [0,1,2,3,4,5,6,7,8,9] ?hs1 ?hf1
 case hs1=>
  refine .cons (.g 25 0 f rfl) ?_;refine .cons (.k _ fun x A d B=>RtW.of_c (lessN 1 (by decide +kernel) _)) ?_;refine .wn 3 _ ?_;refine .wn 3 _ ?_;refine .wn 3 _ ?_;refine .wn 3 _ .nil
 refine .sc 1 (w.heap.size+1) h fun i C d j=>?_;simp only[mkA,mkE];simp only[fzw,Kw.w]
 go_wp2_with fail
 exact bo1 results112 (rd_cu (by rfl) (blk_setBlk _ _ _ (by rw[j,cu_size];decide))) ⟨rfl,gr_setNew (G.trans d) (by omega)⟩
theorem mk_2(w:World):
 Cg 113 #[.agg (nw 9 (pN 2))] w (.agg (cu 0 0 (aN 2) (bN 2) (oN 2) (xN 2) (yN 2) 0 0 false)):=by
 go_enter func113,ntmps113
 go_upto_region 1 with fail
 refine gen_mk 2 w ⟨grA,⟨by simp[go_sem],by simp[go_sem],by simp[go_sem]⟩,⟨by simp[go_sem],by simp[go_sem],by simp[go_sem]⟩⟩ fun q G f h=>?_;refine wp_wTS 12 (mkA 2 4) [0,1,2,3,4,5,6,7,8,9] ?hs2 ?hf2
 case hs2=>
  refine .cons (.g 25 0 f rfl) ?_;refine .cons (.k _ fun x A d B=>RtW.of_c (lessN 2 (by decide +kernel) _)) ?_;refine .wn 4 _ ?_;refine .wn 4 _ ?_;refine .wn 4 _ ?_;refine .wn 4 _ .nil
 refine .sc 2 (w.heap.size+1) h fun i C d j=>?_;simp only[mkA,mkE];simp only[fzw,Kw.w]
 go_wp2_with fail
 exact bo1 results113 (rd_cu (by rfl) (blk_setBlk _ _ _ (by rw[j,cu_size];decide))) ⟨rfl,gr_setNew (G.trans d) (by omega)⟩
theorem mk_3(w:World):
 Cg 114 #[.agg (nw 9 (pN 3))] w (.agg (cu 0 0 (aN 3) (bN 3) (oN 3) (xN 3) (yN 3) 0 0 false)):=by
 go_enter func114,ntmps114
 go_upto_region 1 with fail
 refine gen_mk 3 w ⟨grA,⟨by simp[go_sem],by simp[go_sem],by simp[go_sem]⟩,⟨by simp[go_sem],by simp[go_sem],by simp[go_sem]⟩⟩ fun q G f h=>?_;refine wp_wTS 12 (mkA 3 4) [0,1,2,3,4,5,6,7,8,9] ?hs3 ?hf3
 case hs3=>
  refine .cons (.g 25 0 f rfl) ?_;refine .cons (.k _ fun x A d B=>RtW.of_c (lessN 3 (by decide +kernel) _)) ?_;refine .wn 4 _ ?_;refine .wn 4 _ ?_;refine .wn 4 _ ?_;refine .wn 4 _ .nil
 refine .sc 3 (w.heap.size+1) h fun i C d j=>?_;simp only[mkA,mkE];simp only[fzw,Kw.w]
 go_wp2_with fail
 exact bo1 results114 (rd_cu (by rfl) (blk_setBlk _ _ _ (by rw[j,cu_size];decide))) ⟨rfl,gr_setNew (G.trans d) (by omega)⟩
theorem mk_4(w:World):
 Cg 115 #[.agg (nw 9 (pN 4))] w (.agg (cu 0 0 (aN 4) (bN 4) (oN 4) (xN 4) (yN 4) 0 0 false)):=by
 go_enter func115,ntmps115
 go_upto_region 1 with fail
 refine gen_mk 4 w ⟨grA,⟨by simp[go_sem],by simp[go_sem],by simp[go_sem]⟩,⟨by simp[go_sem],by simp[go_sem],by simp[go_sem]⟩⟩ fun q G f h=>?_;refine wp_wTS 12 (mkA 4 6) [0,1,2,3,4,5,6,7,8,9] ?hs4 ?hf4
 case hs4=>
  refine .cons (.g 25 0 f rfl) ?_;refine .cons (.k _ fun x A d B=>RtW.of_c (lessN 4 (by decide +kernel) _)) ?_;refine .wn 6 _ ?_;refine .wn 6 _ ?_;refine .wn 6 _ ?_;refine .wn 6 _ .nil
 refine .sc 4 (w.heap.size+1) h fun i C d j=>?_;simp only[mkA,mkE];simp only[fzw,Kw.w]
 go_wp2_with fail
 exact bo1 results115 (rd_cu (by rfl) (blk_setBlk _ _ _ (by rw[j,cu_size];decide))) ⟨rfl,gr_setNew (G.trans d) (by omega)⟩
theorem mk_5(w:World):
 Cg 116 #[.agg (nw 9 (pN 5))] w (.agg (cu 0 0 (aN 5) (bN 5) (oN 5) (xN 5) (yN 5) 0 0 false)):=by
 go_enter func116,ntmps116
 go_upto_region 1 with fail
 refine gen_mk 5 w ⟨grA,⟨by simp[go_sem],by simp[go_sem],by simp[go_sem]⟩,⟨by simp[go_sem],by simp[go_sem],by simp[go_sem]⟩⟩ fun q G f h=>?_;refine wp_wTS 12 (mkA 5 9) [0,1,2,3,4,5,6,7,8,9] ?hs5 ?hf5
 case hs5=>
  refine .cons (.g 25 0 f rfl) ?_;refine .cons (.k _ fun x A d B=>RtW.of_c (lessN 5 (by decide +kernel) _)) ?_;refine .wn 9 _ ?_;refine .wn 9 _ ?_;refine .wn 9 _ ?_;refine .wn 9 _ .nil
 refine .sc 5 (w.heap.size+1) h fun i C d j=>?_;simp only[mkA,mkE];simp only[fzw,Kw.w]
 go_wp2_with fail
 exact bo1 results116 (rd_cu (by rfl) (blk_setBlk _ _ _ (by rw[j,cu_size];decide))) ⟨rfl,gr_setNew (G.trans d) (by omega)⟩
theorem mk_6(w:World):
 Cg 117 #[.agg (nw 9 (pN 6))] w (.agg (cu 0 0 (aN 6) (bN 6) (oN 6) (xN 6) (yN 6) 0 0 false)):=by
 go_enter func117,ntmps117
 go_upto_region 1 with fail
 refine gen_mk 6 w ⟨grA,⟨by simp[go_sem],by simp[go_sem],by simp[go_sem]⟩,⟨by simp[go_sem],by simp[go_sem],by simp[go_sem]⟩⟩ fun A G B f=>?_;refine wp_wTS 10 [.N (aN 6),.N (bN 6),.w 4 (oN 6),.N (oN 6),.w 4 (xN 6),.N (xN 6),.w 4 (yN 6),.N (yN 6),.c (.agg (pnt (xN 6) (yN 6) false)),.c (.agg (cu 0 0 (aN 6) (bN 6) (oN 6) (xN 6) (yN 6) 0 0 false))] [0,1,2,3,4,5,6,7] ?hs6 ?hf6
 case hs6=>
  refine .cons (.k _ fun h i d j=>RtW.of_c (smlN 0 _ (by decide +kernel) (by decide) _)) ?_;refine .cons (.k _ fun h i d j=>RtW.of_c (smlN 7 _ (by decide +kernel) (by decide) _)) ?_;refine .wn 4 _ ?_;refine .wn 4 _ ?_;refine .wn 4 _ .nil
 refine .sc 6 (w.heap.size+1) f fun q C d x=>?_;simp only[fzw,Kw.w]
 go_wp2_with fail
 exact bo1 results117 (rd_cu (by rfl) (blk_setBlk _ _ _ (by rw[x,cu_size];decide))) ⟨rfl,gr_setNew (G.trans d) (by omega)⟩
theorem mk_7(w:World):
 Cg 118 #[.agg (nw 9 (pN 7))] w (.agg (cu 0 0 (aN 7) (bN 7) (oN 7) (xN 7) (yN 7) 0 0 false)):=by
 go_enter func118,ntmps118
 go_upto_region 1 with fail
 refine gen_mk 7 w ⟨grA,⟨by simp[go_sem],by simp[go_sem],by simp[go_sem]⟩,⟨by simp[go_sem],by simp[go_sem],by simp[go_sem]⟩⟩ fun j G q d=>?_;refine wp_wTS 12 (mkC 7 3) [0,1,2,3,4,5,6,7,8,9] ?hs7 ?hf7
 case hs7=>
  refine .wn 3 _ ?_;refine .wn 3 _ ?_;refine .wn 3 _ ?_;refine .wn 3 _ ?_;refine .wn 3 _ .nil
 refine .sc 7 (w.heap.size+1) d fun f x h i=>?_;simp only[mkC,mkE];simp only[fzw,Kw.w]
 go_wp2_with fail
 exact bo1 results118 (rd_cu (by rfl) (blk_setBlk _ _ _ (by rw[i,cu_size];decide))) ⟨rfl,gr_setNew (G.trans h) (by omega)⟩
theorem mk_8(w:World):
 Cg 119 #[.agg (nw 9 (pN 8))] w (.agg (cu 0 0 (aN 8) (bN 8) (oN 8) (xN 8) (yN 8) 0 0 false)):=by
 go_enter func119,ntmps119
 go_upto_region 1 with fail
 refine gen_mk 8 w ⟨grA,⟨by simp[go_sem],by simp[go_sem],by simp[go_sem]⟩,⟨by simp[go_sem],by simp[go_sem],by simp[go_sem]⟩⟩ fun j G q d=>?_;refine wp_wTS 12 (mkC 8 4) [0,1,2,3,4,5,6,7,8,9] ?hs8 ?hf8
 case hs8=>
  refine .wn 4 _ ?_;refine .wn 4 _ ?_;refine .wn 4 _ ?_;refine .wn 4 _ ?_;refine .wn 4 _ .nil
 refine .sc 8 (w.heap.size+1) d fun f x h i=>?_;simp only[mkC,mkE];simp only[fzw,Kw.w]
 go_wp2_with fail
 exact bo1 results119 (rd_cu (by rfl) (blk_setBlk _ _ _ (by rw[i,cu_size];decide))) ⟨rfl,gr_setNew (G.trans h) (by omega)⟩
theorem mk_9(w:World):
 Cg 120 #[.agg (nw 9 (pN 9))] w (.agg (cu 0 0 (aN 9) (bN 9) (oN 9) (xN 9) (yN 9) 0 0 false)):=by
 go_enter func120,ntmps120
 go_upto_region 1 with fail
 refine gen_mk 9 w ⟨grA,⟨by simp[go_sem],by simp[go_sem],by simp[go_sem]⟩,⟨by simp[go_sem],by simp[go_sem],by simp[go_sem]⟩⟩ fun j G q d=>?_;refine wp_wTS 12 (mkC 9 4) [0,1,2,3,4,5,6,7,8,9] ?hs9 ?hf9
 case hs9=>
  refine .wn 4 _ ?_;refine .wn 4 _ ?_;refine .wn 4 _ ?_;refine .wn 4 _ ?_;refine .wn 4 _ .nil
 refine .sc 9 (w.heap.size+1) d fun f x h i=>?_;simp only[mkC,mkE];simp only[fzw,Kw.w]
 go_wp2_with fail
 exact bo1 results120 (rd_cu (by rfl) (blk_setBlk _ _ _ (by rw[i,cu_size];decide))) ⟨rfl,gr_setNew (G.trans h) (by omega)⟩
theorem mk_10(w:World):
 Cg 121 #[.agg (nw 9 (pN 10))] w (.agg (cu 0 0 (aN 10) (bN 10) (oN 10) (xN 10) (yN 10) 0 0 false)):=by
 go_enter func121,ntmps121
 go_upto_region 1 with fail
 refine gen_mk 10 w ⟨grA,⟨by simp[go_sem],by simp[go_sem],by simp[go_sem]⟩,⟨by simp[go_sem],by simp[go_sem],by simp[go_sem]⟩⟩ fun j G q d=>?_;refine wp_wTS 12 (mkC 10 5) [0,1,2,3,4,5,6,7,8,9] ?hs10 ?hf10
 case hs10=>
  refine .wn 5 _ ?_;refine .wn 5 _ ?_;refine .wn 5 _ ?_;refine .wn 5 _ ?_;refine .wn 5 _ .nil
 refine .sc 10 (w.heap.size+1) d fun f x h i=>?_;simp only[mkC,mkE];simp only[fzw,Kw.w]
 go_wp2_with fail
 exact bo1 results121 (rd_cu (by rfl) (blk_setBlk _ _ _ (by rw[i,cu_size];decide))) ⟨rfl,gr_setNew (G.trans h) (by omega)⟩
theorem mk_11(w:World):
 Cg 122 #[.agg (nw 9 (pN 11))] w (.agg (cu 0 0 (aN 11) (bN 11) (oN 11) (xN 11) (yN 11) 0 0 false)):=by
 go_enter func122,ntmps122
 go_upto_region 1 with fail
 refine gen_mk 11 w ⟨grA,⟨by simp[go_sem],by simp[go_sem],by simp[go_sem]⟩,⟨by simp[go_sem],by simp[go_sem],by simp[go_sem]⟩⟩ fun j G q d=>?_;refine wp_wTS 12 (mkC 11 6) [0,1,2,3,4,5,6,7,8,9] ?hs11 ?hf11
 case hs11=>
  refine .wn 6 _ ?_;refine .wn 6 _ ?_;refine .wn 6 _ ?_;refine .wn 6 _ ?_;refine .wn 6 _ .nil
 refine .sc 11 (w.heap.size+1) d fun f x h i=>?_;simp only[mkC,mkE];simp only[fzw,Kw.w]
 go_wp2_with fail
 exact bo1 results122 (rd_cu (by rfl) (blk_setBlk _ _ _ (by rw[i,cu_size];decide))) ⟨rfl,gr_setNew (G.trans h) (by omega)⟩
theorem mk_12(w:World):
 Cg 123 #[.agg (nw 9 (pN 12))] w (.agg (cu 0 0 (aN 12) (bN 12) (oN 12) (xN 12) (yN 12) 0 0 false)):=by
 go_enter func123,ntmps123
 go_upto_region 1 with fail
 refine gen_mk 12 w ⟨grA,⟨by simp[go_sem],by simp[go_sem],by simp[go_sem]⟩,⟨by simp[go_sem],by simp[go_sem],by simp[go_sem]⟩⟩ fun j G q d=>?_;refine wp_wTS 12 (mkC 12 8) [0,1,2,3,4,5,6,7,8,9] ?hs12 ?hf12
 case hs12=>
  refine .wn 8 _ ?_;refine .wn 8 _ ?_;refine .wn 8 _ ?_;refine .wn 8 _ ?_;refine .wn 8 _ .nil
 refine .sc 12 (w.heap.size+1) d fun f x h i=>?_;simp only[mkC,mkE];simp only[fzw,Kw.w]
 go_wp2_with fail
 exact bo1 results123 (rd_cu (by rfl) (blk_setBlk _ _ _ (by rw[i,cu_size];decide))) ⟨rfl,gr_setNew (G.trans h) (by omega)⟩
theorem mk_13(w:World):
 Cg 124 #[.agg (nw 9 (pN 13))] w (.agg (cu 0 0 (aN 13) (bN 13) (oN 13) (xN 13) (yN 13) 0 0 false)):=by
 go_enter func124,ntmps124
 go_upto_region 1 with fail
 refine gen_mk 13 w ⟨grA,⟨by simp[go_sem],by simp[go_sem],by simp[go_sem]⟩,⟨by simp[go_sem],by simp[go_sem],by simp[go_sem]⟩⟩ fun B G j q=>?_;refine wp_wTS 8 [.N (pN 13),.N (aN 13),.N (bN 13),.N (oN 13),.N (xN 13),.N (yN 13),.c (.agg (pnt (xN 13) (yN 13) false)),.c (.agg (cu 0 0 (aN 13) (bN 13) (oN 13) (xN 13) (yN 13) 0 0 false))] [0,1,2,3,4,5] ?hs13 ?hf13
 case hs13=>
  exact⟨.g 25 0 j rfl,.k _ fun f h d i=>RtW.of_c (lessN 13 (by decide +kernel) _),.k _ fun f h d i=>RtW.of_c (smlN 26 _ (by decide +kernel) (by decide) _),.k _ fun f h d i=>RtW.of_c (smlN 223 _ (by decide +kernel) (by decide) _),.k _ fun f h d i=>RtW.of_c (smlN 2 _ (by decide +kernel) (by decide) _),.k _ fun f h d i=>RtW.of_c (smlN 84 _ (by decide +kernel) (by decide) _),⟨⟩⟩
 refine .sc 13 (w.heap.size+1) q fun x C d A=>?_;simp only[fzw]
 go_wp2_with fail
 exact bo1 results124 (rd_cu (by rfl) (blk_setBlk _ _ _ (by rw[A,cu_size];decide))) ⟨rfl,gr_setNew (G.trans d) (by omega)⟩
theorem mk_14(w:World):
 Cg 125 #[.agg (nw 9 (pN 14))] w (.agg (cu 0 0 (aN 14) (bN 14) (oN 14) (xN 14) (yN 14) 0 0 false)):=by
 go_enter func125,ntmps125
 go_upto_region 1 with fail
 refine gen_mk 14 w ⟨grA,⟨by simp[go_sem],by simp[go_sem],by simp[go_sem]⟩,⟨by simp[go_sem],by simp[go_sem],by simp[go_sem]⟩⟩ fun A G B j=>?_;refine wp_wTS 7 [.N (aN 14),.N (bN 14),.N (oN 14),.N (xN 14),.N (yN 14),.c (.agg (pnt (xN 14) (yN 14) false)),.c (.agg (cu 0 0 (aN 14) (bN 14) (oN 14) (xN 14) (yN 14) 0 0 false))] [0,1,2,3,4] ?hs14 ?hf14
 case hs14=>
  exact⟨.k _ fun f h d i=>RtW.of_c (smlN 0 _ (by decide +kernel) (by decide) _),.k _ fun f h d i=>RtW.of_c (smlN 13 _ (by decide +kernel) (by decide) _),.k _ fun f h d i=>RtW.of_c (smlN 211 _ (by decide +kernel) (by decide) _),.k _ fun f h d i=>RtW.of_c (smlN 3 _ (by decide +kernel) (by decide) _),.k _ fun f h d i=>RtW.of_c (smlN 47 _ (by decide +kernel) (by decide) _),⟨⟩⟩
 refine .sc 14 (w.heap.size+1) j fun q C d x=>?_;simp only[fzw]
 go_wp2_with fail
 exact bo1 results125 (rd_cu (by rfl) (blk_setBlk _ _ _ (by rw[x,cu_size];decide))) ⟨rfl,gr_setNew (G.trans d) (by omega)⟩
theorem mk_15(w:World):
 Cg 126 #[.agg (nw 9 (pN 15))] w (.agg (cu 0 0 (aN 15) (bN 15) (oN 15) (xN 15) (yN 15) 0 0 false)):=by
 go_enter func126,ntmps126
 go_upto_region 1 with fail
 refine gen_mk 15 w ⟨grA,⟨by simp[go_sem],by simp[go_sem],by simp[go_sem]⟩,⟨by simp[go_sem],by simp[go_sem],by simp[go_sem]⟩⟩ fun A G B j=>?_;refine wp_wTS 7 [.N (aN 15),.N (bN 15),.N (oN 15),.N (xN 15),.N (yN 15),.c (.agg (pnt (xN 15) (yN 15) false)),.c (.agg (cu 0 0 (aN 15) (bN 15) (oN 15) (xN 15) (yN 15) 0 0 false))] [0,1,2,3,4] ?hs15 ?hf15
 case hs15=>
  exact⟨.k _ fun f h d i=>RtW.of_c (smlN 117 _ (by decide +kernel) (by decide) _),.k _ fun f h d i=>RtW.of_c (smlN 8 _ (by decide +kernel) (by decide) _),.k _ fun f h d i=>RtW.of_c (smlN 229 _ (by decide +kernel) (by decide) _),.k _ fun f h d i=>RtW.of_c (smlN 0 _ (by decide +kernel) (by decide) _),.k _ fun f h d i=>RtW.of_c (smlN 41 _ (by decide +kernel) (by decide) _),⟨⟩⟩
 refine .sc 15 (w.heap.size+1) j fun q C d x=>?_;simp only[fzw]
 go_wp2_with fail
 exact bo1 results126 (rd_cu (by rfl) (blk_setBlk _ _ _ (by rw[x,cu_size];decide))) ⟨rfl,gr_setNew (G.trans d) (by omega)⟩
end
section
def tabM:Array Value :=#[.nilFunc,fnT 112,fnT 113,fnT 114,fnT 115,fnT 116,fnT 117,fnT 118,fnT 119,fnT 120,fnT 121,fnT 122,fnT 123,fnT 124,fnT 125,fnT 126]
theorem tabM_size:tabM.size=16:=rfl
theorem storeTm_is:StI 144:=fun _ _=>rfl
theorem buildTm_is(p:Array (Nat×Value)):Instr.build 144 p=buildF 144 p:=rfl
theorem buildTm(w:World):(buildF 144 #[(1,.func (.func 112) #[] #[]),(2,.func (.func 113) #[] #[]),(3,.func (.func 114) #[] #[]),(4,.func (.func 115) #[] #[]),(5,.func (.func 116) #[] #[]),(6,.func (.func 117) #[] #[]),(7,.func (.func 118) #[] #[]),(8,.func (.func 119) #[] #[]),(9,.func (.func 120) #[] #[]),(10,.func (.func 121) #[] #[]),(11,.func (.func 122) #[] #[]),(12,.func (.func 123) #[] #[]),(13,.func (.func 124) #[] #[]),(14,.func (.func 125) #[] #[]),(15,.func (.func 126) #[] #[])]).run prog w=.ok (.agg tabM) w:=by kernel_rfl
theorem storeTm(w:World)(b:Nat)(hs:(blk w b).size=16)(hf:frz w b=(0,0)):(storeS 144 (.pointer (some ⟨b,0,none⟩)) (.agg tabM)).run prog w=.ok () (setBlk w b tabM):=
 storeS_run 16 (by decide) (by kernel_rfl) w b tabM rfl (by simp[tabM,fnT,Value.oneCell']) hs hf
theorem eqFn(n:Nat)(w:World):(binOp .eql 143 (.func (.func n) #[] #[]) .nilFunc).run prog w=.ok (.bool false) w:=by kernel_rfl
theorem eqFn0(w:World):(binOp .eql 143 .nilFunc .nilFunc).run prog w=.ok (.bool true) w:=by kernel_rfl
attribute [local go_sem] uz8
attribute [local go_sem ↓] storeTm_is buildTm_is zvCu_is zvEq_is storeCu_is storeEq_is loadCu_is loadEq_is buildCu_is buildEq_is buildPn_is Go.wp_at_zero Go.wp_at_succ
attribute [local go_sem] buildTm storeTm tabM_size eqFn eqFn0 zvCu zvEq storeCu storeEq loadCu loadEq loadCN storeCP buildCu0 buildEq0 buildEq1 cu_size cu_N cu_setP cu_set0 cu_set56 cu_set57 cu_set58 frz_setBlk blk_setBlk setBlk_setBlk blk_other setCell_setBlk
theorem table_any(w:World):Cg 82 #[] w (.agg tabM):=by
 go_enter func82,ntmps82
 go_wp2
 refine bo1 results82 (rd_cell 16 underlying144 rfl (by kernel_rfl) (by rfl) ?_ rfl) ⟨rfl,grA⟩;simp[go_sem]
theorem find_no(x:Int)(h:x<1∨15<x)(w:World):Cg 63 #[.int .i64 x] w (.tuple #[.agg (cu 0 0 0 0 0 0 0 0 0 false),.bool false]):=by
 have d:Hid _:=table_any;have f:tabM[0]? = some .nilFunc:=rfl
 by_cases x0:x<0
 ·clear h
  go_enter func63,ntmps63
  go_wp2_with (go_at_call 82;refine hkA d fun g=>?_)
  refine bo2 results63 (rd_eq (by rfl) ?_) ⟨rfl,grA⟩;simp[go_sem]
 ·by_cases x1:x=0
  ·subst x1
   go_enter func63,ntmps63
   go_wp2_with (go_at_call 82;refine hkA d fun g=>?_)
   refine bo2 results63 (rd_eq (by rfl) ?_) ⟨rfl,grA⟩;simp[go_sem]
  ·have i:16≤x:=by omega
   go_enter func63,ntmps63
   go_wp2_with (go_at_call 82;refine hkA d fun g=>?_)
   refine bo2 results63 (rd_eq (by rfl) ?_) ⟨rfl,grA⟩;simp[go_sem]
attribute [local go_sem] cell_blk frz_at cu_0 cu_56 cu_57 cu_58
theorem find_of(i f P A B N X Y s t:Nat)(z:Int)(b1 b7:Bool)(h1:1≤i)(h2:i≤15)(hb1:((i:Int)==1)=b1)(hb7:((i:Int)==7)=b7)(ht:tabM[i]? = some (.func (.func f) #[] #[]))(hz:((t:Int)+7)/8=z)(hs:s≤576)(ht6:t≤576)(hcf:∀w,(callFunc f #[.agg (nw 9 P)]).run prog w=.ok (.enter f #[.agg (nw 9 P)]) w)(HO':∀w,Cg 83 #[.int .i64 i] w (.tuple #[.agg (nw 9 P),.bool true]))(HM':∀w,Calls prog f #[.agg (nw 9 P)] w fun e w'=>e=.returned (.agg (cu 0 0 A B N X Y 0 0 false))∧Gr w w')(HN':∀w,Cg 72 #[.agg (nw 9 N)] w (.int .i64 s))(HP':∀w,Cg 72 #[.agg (nw 9 P)] w (.int .i64 t))(w:World):
 Cg 63 #[.int .i64 i] w (.tuple #[.agg (cu i P A B N X Y s z (b1 || b7)),.bool true]):=by
 have HT:Hid _:=table_any;have HO:Hid _:=HO';have HM:Hid _:=HM';have HN:Hid _:=HN';have HP:Hid _:=HP'
 have i0:(0:Int)≤i:=by omega
 have i1:(i:Int)<16:=by omega
 have W:Hu (((t:Int)+7)/8=z∧s≤576∧t≤576):=fun _=>⟨hz,hs,ht6⟩;have HB:Hu (((i:Int)==1)=b1∧((i:Int)==7)=b7):=fun _=>⟨hb1,hb7⟩;clear HO' HM' HN' HP' h1 h2 hz hs ht6 hb1 hb7
 go_enter func63,ntmps63
 go_upto_region 5 with (first
  | (go_at_call 82;refine hkA HT fun g1=>?_)
  | (go_at_call 83;refine hkA HO fun g2=>?_))
 obtain⟨I,J⟩:=exl (w.heap.size+1+g1.os.length);simp only[J];obtain⟨C,K⟩:=exl (I+1+g2.os.length);simp only[K]
 refine gen_w (fun v=>Hid (Gr w v∧Vr v w.heap.size (cu 0 0 0 0 0 0 0 0 0 false)∧Vr v I tabM∧Vr v C (nw 9 P))) ?_ ?_
 ·subst K J;exact⟨grA,⟨by simp[go_sem],by simp[go_sem],by simp[go_sem]⟩,⟨by simp[go_sem],by simp[go_sem],by simp[go_sem]⟩,⟨by simp[go_sem],by simp[go_sem],by simp[go_sem]⟩⟩
 intro L HV;obtain⟨G,Q,c4,S⟩:=HV.out
 have n5:w.heap.size≤C:=by omega
 have n2:¬C=w.heap.size:=by omega
 refine wp_v true [.c (.int .i64 i),.c (pv I i),.c (.func (.func f) #[] #[]),.N P,.c (.agg (cu 0 0 A B N X Y 0 0 false)),.a,.u] [1,2,3,4] [⟨5,6,78,cu 0 0 0 0 0 0 0 0 0 false,fun _=>cu 0 0 A B N X Y 0 0 false⟩] ?hs ?hv ?hf
 case hs=>
  exact⟨.s (.indexAddr 144 (.const (pv I 0)) (.const (.int .i64 i))) rfl fun Z D=>by simp[go_sem,exI,i0,i1],.s (.load 143 (.const (pv I i))) rfl fun Z D=>by have H4:=(c4.gr D).h;simp[go_sem,exI,H4,ht],.g 25 0 S rfl,.kf (fun _ =>#[.agg (nw 9 P)]) (fun _=>hcf) fun yy Z D hh=>RtW.of_c (Rt.c (HM.out _)),⟨⟩⟩
 case hv=>exact .cons (.mk (fun _ _ _=>rfl) (fun _ v b H F=>by dsimp only at H ⊢;simp[go_sem,exI,H,F]) (show 0<(cu 0 0 0 0 0 0 0 0 0 false).size by decide +kernel) ⟨fkc,fkc,fkc,fkc,fkc,fka,fku,trivial⟩) .nil
 intro U v D h5 V;simp only[fzw,Kw.a];obtain⟨⟨d,x⟩,-⟩:=V;clear h5;obtain⟨G1,d2,d5⟩:Gr w v∧Vr v w.heap.size (cu 0 0 0 0 0 0 0 0 0 false)∧Vr v C (nw 9 P):=⟨G.trans D,Q.gr D,S.gr D⟩
 go_upto_region 6 with fail
 simp only[Nat.zero_add,Nat.reduceAdd];obtain⟨j,q⟩:=exl ((U 5 0).2);rw[q]at d x;rw[q]
 have m2:j≠w.heap.size:=by have:w.heap.size+1≤L.heap.size:=Q.p;have:=d;omega
 have m5:j≠C:=by have:C+1≤L.heap.size:=S.p;have:=d;omega
 have m1:w.heap.size≤j:=by have:w.heap.size+1≤L.heap.size:=Q.p;have:=d;omega
 refine gen_w (fun u=>Hid (Gr w u∧Vr u w.heap.size (cu 0 0 0 0 0 0 0 0 0 false)∧Vr u C (nw 9 P)∧Vr u j (cu 0 0 A B N X Y 0 0 false))) ⟨G1,d2,d5,x⟩ ?_;intro u0 HU;obtain⟨G,⟨h2,f2,p2⟩,⟨h5,f5,p5⟩,⟨h7,f7,p7⟩⟩:=HU.out;have z0:=(W.out ()).1
 have z2:(t:Int)≤576:=by have:=W.out ();omega
 obtain⟨hb1,hb7⟩:=HB.out ()
 cases b1 <;> cases b7
 all_goals
  go_wp2_with (first
   | (go_at_call_of 72 (Value.agg (nw 9 N));refine hkA HN fun g3=>?_)
   | (go_at_call_of 72 (Value.agg (nw 9 P));refine hkA HP fun g4=>?_))
  refine bo2 results63 (rd_eq (by rfl) ?_) ⟨rfl,?_⟩
  ·simp[go_sem, *]
  ·exact grB
end
end
section
theorem at_of{c:Array Value}{i:Nat}{v:Value}(e:c[i]? = some v)(h:i<c.size):c[i]=v:=by
 rw[Array.getElem?_eq_getElem h]at e;exact Option.some.inj e
theorem eqNatIn(d x y:Nat)(w:World):(Op.equalIn (d+3) 25 (.agg (nw 9 x)) (.agg (nw 9 y))).run prog w=.ok (eqN 9 x y) w:=by
 have f:prog.underlying 25=some (.struct (prog.fieldsOf 25)):=by kernel_rfl
 rw[run_equalIn_struct w (d+2) 25 _ _ f (by kernel_rfl)];simp[go_sem,Op.eqFields,Program.fieldsOf,part,nw_extract];rw[eqArr d]
 cases eqN 9 x y <;> simp[Result.andThen]
section
variable (x y:Nat) (f:Bool) (x' y':Nat) (f':Bool)
theorem pnt_at18(h:18<(pnt x y f).size):(pnt x y f)[18]'h=.bool f:=at_of (pnt_18 x y f) h
theorem eqPnIn(d:Nat)(w:World):(Op.equalIn (d+4) 38 (.agg (pnt x y f)) (.agg (pnt x' y' f'))).run prog w=.ok (eqN 9 x x'&&(eqN 9 y y'&&(f==f'))) w:=by
 have h:prog.underlying 38=some (.struct (prog.fieldsOf 38)):=by kernel_rfl
 rw[run_equalIn_struct w (d+3) 38 _ _ h (by kernel_rfl)];simp[go_sem,Op.eqFields,Program.fieldsOf,part,pnt_X,pnt_Y,pnt_size,pnt_at18,eqNatIn]
 cases eqN 9 x x' <;> cases eqN 9 y y' <;> cases f <;> cases f' <;> simp
theorem eqPn(w:World):(binOp .eql 38 (.agg (pnt x y f)) (.agg (pnt x' y' f'))).run prog w=.ok (.bool (eqN 9 x x'&&(eqN 9 y y'&&(f==f')))) w:=by
 rw[run_eql_struct,show (10000:Nat)=9996+4 from rfl,eqPnIn]
 rfl
end
end
section
attribute [local go_sem ↓] uz1
attribute [local go_sem] uz2
section
theorem bl_576(a:Nat)(h:a<M):bl a≤576:=by exact bl_pwk a 9 h
def szN(i:Nat):Nat:=(bl (pN i)+7)/8
def lgN(i:Nat):Bool:=((i:Int)==1) || ((i:Int)==7)
abbrev cuK(k:Nat):Array Value:=cu (k:Int) (pN k) (aN k) (bN k) (oN k) (xN k) (yN k) (bl (oN k)) (szN k) (lgN k)
def cuN(i:Nat):Array Value:=cu i (pN i) (aN i) (bN i) (oN i) (xN i) (yN i) (bl (oN i)) (szN i) (lgN i)
theorem oN_bd(i:Nat):oN i<M:=by
 unfold oN
 split <;> decide +kernel
theorem pN_M(i:Nat):pN i<M:=by
 unfold pN
 split <;> decide +kernel
theorem mk_yes(i:Nat)(h1:1≤i)(h2:i≤15):∃f,tabM[i]? = some (.func (.func f) #[] #[])∧(∀w,(callFunc f #[.agg (nw 9 (pN i))]).run prog w=.ok (.enter f #[.agg (nw 9 (pN i))]) w)∧∀w,Calls prog f #[.agg (nw 9 (pN i))] w fun e w'=>e=.returned (.agg (cu 0 0 (aN i) (bN i) (oN i) (xN i) (yN i) 0 0 false))∧Gr w w':=by
 obtain rfl|rfl|rfl|rfl|rfl|rfl|rfl|rfl|rfl|rfl|rfl|rfl|rfl|rfl|rfl:i=1∨i=2∨i=3∨i=4∨i=5∨i=6∨i=7∨i=8∨i=9∨i=10∨i=11∨i=12∨i=13∨i=14∨i=15:=by omega
 all_goals refine⟨_,rfl,fun _=>by kernel_rfl,?_⟩
 ·exact mk_1
 ·exact mk_2
 ·exact mk_3
 ·exact mk_4
 ·exact mk_5
 ·exact mk_6
 ·exact mk_7
 ·exact mk_8
 ·exact mk_9
 ·exact mk_10
 ·exact mk_11
 ·exact mk_12
 ·exact mk_13
 ·exact mk_14
 ·exact mk_15
theorem find_yes(i:Nat)(h1:1≤i)(h2:i≤15)(w:World):Cg 63 #[.int .i64 i] w (.tuple #[.agg (cuN i),.bool true]):=by
 obtain⟨f,d,h,j⟩:=mk_yes i h1 h2;exact find_of i f (pN i) (aN i) (bN i) (oN i) (xN i) (yN i) (bl (oN i)) (bl (pN i)) (szN i) ((i:Int)==1) ((i:Int)==7) h1 h2 rfl rfl d (by simp[szN]) (bl_576 _ (oN_bd _)) (bl_576 _ (pN_M _)) h (of_yes i h1 h2) j (fun w=>bits_any _ (oN_bd _) w) (fun w=>bits_any _ (pN_M _) w) w
attribute [local go_sem] uz8
attribute [local go_sem ↓] zvCu_is zvEq_is storeCu_is storeEq_is loadCu_is loadEq_is loadPn_is buildCu_is buildEq_is buildPn_is Go.wp_at_zero Go.wp_at_succ
attribute [local go_sem] zvCu zvEq storeCu storeEq loadCu loadEq loadPn loadCP loadCA loadCB loadPX loadPY buildCu0 buildEq0 buildPnI cu_size cu_P cu_A cu_B pnt_size pnt_X pnt_Y frz_setBlk blk_setBlk setBlk_setBlk blk_other
theorem get13_no(x:Int)(h:x<1∨15<x)(w:World):Cg 40 #[.int .i64 x] w (.tuple #[.agg (cu 0 0 0 0 0 0 0 0 0 false),.int .i64 1300]):=by
 have d:Hid _:=find_no x h
 go_enter func40,ntmps40
 go_wp2_with (go_at_call 63;refine hkA d fun g=>?_)
 refine bo2 results40 (rd_cu (by rfl) ?_) ⟨rfl,grA⟩;simp[go_sem]
theorem get13_of(x:Int)(id:Int)(P A B N X Y:Nat)(s z:Int)(l:Bool)(HF':∀w,Cg 63 #[.int .i64 x] w (.tuple #[.agg (cu id P A B N X Y s z l),.bool true]))(w:World):
 Cg 40 #[.int .i64 x] w (.tuple #[.agg (cu id P A B N X Y s z l),.int .i64 0]):=by
 have d:Hid _:=HF'
 go_enter func40,ntmps40
 go_wp2_with (go_at_call 63;refine hkA d fun g=>?_)
 refine bo2 results40 (rd_cu (by rfl) ?_) ⟨rfl,grA⟩;simp[go_sem]
theorem get13_yes(i:Nat)(h1:1≤i)(h2:i≤15)(w:World):Cg 40 #[.int .i64 i] w (.tuple #[.agg (cuN i),.int .i64 0]):=
 get13_of i _ _ _ _ _ _ _ _ _ _ (find_yes i h1 h2) w
theorem below13_any(id:Int)(P A B N X Y:Nat)(s z:Int)(l:Bool)(a:Nat)(f:Bool)(hP:P<M)(ha:a<M)(hf:decide (a<P)=f)(w:World):
 Cg 85 #[.agg (cu id P A B N X Y s z l),.agg (nw 9 a)] w (.bool f):=by
 obtain⟨c,d⟩:=exl (cmpZ a P);have i:Hid _:=d▸cmp_any a P ha hP
 have j:decide (c<0)=f:=by
  rw[←hf,←d];unfold cmpZ
  by_cases h:a<P
  ·simp[h]
  ·simp only[h,if_false];split <;> simp
 go_enter func85,ntmps85
 go_wp2_with (go_at_call 44;refine hkA i fun g=>?_)
 go_ret
 exact⟨rfl,grA⟩
theorem left13_of(id:Int)(P A B N X Y:Nat)(s z:Int)(l:Bool)(y q1:Nat)(H1':∀w,Cg 128 #[.int .i64 id,.agg (nw 9 y),.agg (nw 9 y)] w (.tuple #[.agg (nw 9 q1),.int .i64 0]))(w:World):
 Cg 86 #[.agg (cu id P A B N X Y s z l),.agg (nw 9 y)] w (.agg (nw 9 q1)):=by
 have d:Hid _:=H1';clear H1'
 go_enter func86,ntmps86
 go_upto_region 1 with fail
 refine gen_w (fun v=>Hid (Gr w v∧Vr v w.heap.size (cu id P A B N X Y s z l)∧Vr v (w.heap.size+1) (nw 9 y)∧Vr v (w.heap.size+1+1) (nw 9 0))) ⟨grA,vrA,vrA,vrA⟩ ?_;intro f h;obtain⟨G,i,j,q⟩:=h.out
 have x:f.cell? ⟨w.heap.size,0,none⟩=some (.int .i64 id):=by rw[i.cell];exact cu_0 id P A B N X Y s z l
 have⟨C,D,H⟩:=j;have I:=q.al
 go_wp2_with (go_at_call 128;refine hkA d fun g=>?_)
 refine bo1 results86 (rd_nat (by rfl) ?_) ⟨rfl,?_⟩
 ·simp[go_sem, *]
 ·exact grB
theorem cubic_of(id:Int)(P A B N X Y:Nat)(s z:Int)(l:Bool)(x q1 q2 q3 q4:Nat)(H1':∀w,Cg 128 #[.int .i64 id,.agg (nw 9 x),.agg (nw 9 x)] w (.tuple #[.agg (nw 9 q1),.int .i64 0]))(H2':∀w,Cg 129 #[.int .i64 id,.agg (nw 9 q1),.agg (nw 9 A)] w (.tuple #[.agg (nw 9 q2),.int .i64 0]))(H3':∀w,Cg 128 #[.int .i64 id,.agg (nw 9 q2),.agg (nw 9 x)] w (.tuple #[.agg (nw 9 q3),.int .i64 0]))(H4':∀w,Cg 129 #[.int .i64 id,.agg (nw 9 q3),.agg (nw 9 B)] w (.tuple #[.agg (nw 9 q4),.int .i64 0]))(w:World):
 Cg 87 #[.agg (cu id P A B N X Y s z l),.agg (nw 9 x)] w (.agg (nw 9 q4)):=by
 have i:Hid _:=H1';have j:Hid _:=H2';have q:Hid _:=H3';have C:Hid _:=H4';clear H1' H2' H3' H4'
 go_enter func87,ntmps87
 go_upto_region 1 with fail
 refine gen_w (fun v=>Hid (Gr w v∧Vr v w.heap.size (cu id P A B N X Y s z l)∧Vr v (w.heap.size+1) (nw 9 x)∧Vr v (w.heap.size+1+1) (nw 9 0))) ⟨grA,vrA,vrA,vrA⟩ ?_;intro D H;obtain⟨G,d,f,h⟩:=H.out
 have k0:D.cell? ⟨w.heap.size,0,none⟩=some (.int .i64 id):=by rw[d.cell];exact cu_0 id P A B N X Y s z l
 have⟨h0,f0,p0⟩:=d;have⟨h1,f1,p1⟩:=f;have⟨h2,f2,p2⟩:=h;have⟨I,J,K,L,Q,S⟩:=d.pp;have⟨U,V,W,Z,aa,ab⟩:=f.pp;have⟨ac,ae,af,ag,ah,ai⟩:=h.pp
 go_wp2_with (first
  | (go_at_call_of 128 ((#[.int .i64 id,.agg (nw 9 x),.agg (nw 9 x)]:Array Value));refine hkA i fun g0=>?_)
  | (go_at_call_of 129 ((#[.int .i64 id,.agg (nw 9 q1),.agg (nw 9 A)]:Array Value));refine hkA j fun g1=>?_)
  | (go_at_call_of 128 ((#[.int .i64 id,.agg (nw 9 q2),.agg (nw 9 x)]:Array Value));refine hkA q fun g2=>?_)
  | (go_at_call_of 129 ((#[.int .i64 id,.agg (nw 9 q3),.agg (nw 9 B)]:Array Value));refine hkA C fun g3=>?_))
 refine bo1 results87 (rd_nat (by rfl) ?_) ⟨rfl,?_⟩
 ·simp[go_sem, *]
 ·exact grB
theorem holds_inf(id:Int)(P A B N X Y:Nat)(s z:Int)(l:Bool)(x y:Nat)(w:World):
 Cg 65 #[.agg (cu id P A B N X Y s z l),.agg (pnt x y true)] w (.bool (eqN 9 x 0&&(eqN 9 y 0&&true))):=by
 have i:∀w,(binOp .eql 38 (.agg (pnt x y true)) (.agg (pnt 0 0 true))).run prog w=.ok (.bool (eqN 9 x 0&&(eqN 9 y 0&&true))) w:=fun w=>eqPn x y true 0 0 true w
 go_enter func65,ntmps65
 go_upto_region 1 with fail
 refine gen_w (fun v=>Hid (Gr w v∧Vr v (w.heap.size+1) (pnt x y true))) ⟨grA,vrA⟩ ?_;intro f h;obtain⟨G,d⟩:=h.out
 have j:f.cell? ⟨w.heap.size+1,18,none⟩=some (.bool true):=by rw[d.cell];exact pnt_18 x y true
 have⟨q,C,D⟩:=d
 go_wp2_with fail
 go_ret
 exact⟨by simp,G⟩
theorem holds_of(id:Int)(P A B N X Y:Nat)(s z:Int)(l:Bool)(x y L R:Nat)(bx by':Bool)(HBx':∀w,Cg 85 #[.agg (cu id P A B N X Y s z l),.agg (nw 9 x)] w (.bool bx))(HBy':∀w,Cg 85 #[.agg (cu id P A B N X Y s z l),.agg (nw 9 y)] w (.bool by'))(HL':bx=true→by'=true→∀w,Cg 86 #[.agg (cu id P A B N X Y s z l),.agg (nw 9 y)] w (.agg (nw 9 L)))(HR':bx=true→by'=true→∀w,Cg 87 #[.agg (cu id P A B N X Y s z l),.agg (nw 9 x)] w (.agg (nw 9 R)))(w:World):
 Cg 65 #[.agg (cu id P A B N X Y s z l),.agg (pnt x y false)] w (.bool (bx&&(by'&&eqN 9 L R))):=by
 have i:Hid _:=HBx';have j:Hid _:=HBy';have q:=HL';have C:=HR';clear HL' HR' HBx' HBy'
 rcases(by cases bx <;> cases by' <;> simp:(bx=false)∨(bx=true∧by'=false)∨(bx=true∧by'=true)) with rfl|⟨rfl,rfl⟩|⟨rfl,rfl⟩
 ·clear q C
  go_enter func65,ntmps65
  go_upto_region 3 with fail
  refine gen_w (fun v=>Hid (Gr w v∧Vr v w.heap.size (cu id P A B N X Y s z l)∧Vr v (w.heap.size+1) (pnt x y false))) ⟨grA,vrA,vrA⟩ ?_;intro J D;obtain⟨G,d,f⟩:=D.out;refine wp_w [.c (.agg (cu id P A B N X Y s z l)),.c (pv (w.heap.size+1) 0),.N x,.F,.F,.u,.u,.u,.u,.F,.F,.u,.u,.u,.u,.u,.u,.u,.u,.u,.u,.F,.F] [0,2,3] ⟨.g 112 0 d rfl,.g 25 0 f rfl,.z i.out,⟨⟩⟩ fun H K h I=>?_;simp only[fzw];clear I;replace G:=G.trans h;replace d:=d.gr h;replace f:=f.gr h;clear h
  go_wp2_with fail
  go_ret
  exact⟨rfl,G⟩
 ·clear q C
  go_enter func65,ntmps65
  go_upto_region 3 with fail
  refine gen_w (fun v=>Hid (Gr w v∧Vr v w.heap.size (cu id P A B N X Y s z l)∧Vr v (w.heap.size+1) (pnt x y false))) ⟨grA,vrA,vrA⟩ ?_;intro J D;obtain⟨G,d,f⟩:=D.out;refine wp_w [.c (.agg (cu id P A B N X Y s z l)),.c (pv (w.heap.size+1) 0),.N x,.T,.T,.c (.agg (cu id P A B N X Y s z l)),.c (pv (w.heap.size+1) 9),.N y,.F,.F,.F,.u,.u,.u,.u,.u,.u,.u,.u,.u,.u,.F,.F] [0,2,3,5,7,8] ⟨.g 112 0 d rfl,.g 25 0 f rfl,.z i.out,.g 112 0 d rfl,.g 25 9 f rfl,.z j.out,⟨⟩⟩ fun H K h I=>?_;simp only[fzw];replace G:=G.trans h
  go_wp2_with fail
  go_ret
  exact⟨rfl,G⟩
 ·replace q:Hid _:=q rfl rfl;replace C:Hid _:=C rfl rfl
  go_enter func65,ntmps65
  go_upto_region 3 with fail
  refine gen_w (fun v=>Hid (Gr w v∧Vr v w.heap.size (cu id P A B N X Y s z l)∧Vr v (w.heap.size+1) (pnt x y false))) ⟨grA,vrA,vrA⟩ ?_;intro J D;obtain⟨G,d,f⟩:=D.out;refine wp_w [.c (.agg (cu id P A B N X Y s z l)),.c (pv (w.heap.size+1) 0),.N x,.T,.T,.c (.agg (cu id P A B N X Y s z l)),.c (pv (w.heap.size+1) 9),.N y,.T,.T,.T,.c (.agg (cu id P A B N X Y s z l)),.c (pv (w.heap.size+1) 9),.N y,.N L,.c (pv w.heap.size 0),.c (.agg (cu id P A B N X Y s z l)),.c (pv (w.heap.size+1) 0),.N x,.N R,.c (.bool (eqN 9 L R)),.c (.bool (eqN 9 L R)),.c (.bool (eqN 9 L R))] [0,2,3,5,7,8,11,13,14,16,18,19,20] ⟨.g 112 0 d rfl,.g 25 0 f rfl,.z i.out,.g 112 0 d rfl,.g 25 9 f rfl,.z j.out,.g 112 0 d rfl,.g 25 9 f rfl,.z q.out,.g 78 0 d rfl,.g 25 0 f rfl,.z C.out,.s (.binOp .eql 25 (.const (.agg (nw 9 L))) (.const (.agg (nw 9 R))) 25) rfl fun Q h=>by simp[go_sem,exI,eqNat],⟨⟩⟩ fun H K h I=>?_;simp only[fzw];replace G:=G.trans h
  go_wp2_with fail
  go_ret
  exact⟨rfl,G⟩
end
section
attribute [local go_sem] uz8
attribute [local go_sem ↓] zvCu_is zvEq_is storeCu_is storeEq_is loadCu_is loadEq_is loadPn_is buildCu_is buildEq_is buildPn_is Go.wp_at_zero Go.wp_at_succ
attribute [local go_sem] zvCu zvEq storeCu storeEq loadCu loadEq loadPn cu_size pnt_size frz_setBlk blk_setBlk setBlk_setBlk blk_other
theorem on13_of(k id:Int)(P A B N X Y:Nat)(s z:Int)(l:Bool)(x y:Nat)(f r:Bool)(HF':∀w,Cg 63 #[.int .i64 k] w (.tuple #[.agg (cu id P A B N X Y s z l),.bool true]))(HH':∀w,Cg 65 #[.agg (cu id P A B N X Y s z l),.agg (pnt x y f)] w (.bool r))(w:World):
 Cg 43 #[.int .i64 k,.agg (pnt x y f)] w (.bool r):=by
 have d:Hid _:=HF';have h:Hid _:=HH'
 go_enter func43,ntmps43
 go_wp2_with (first
  | (go_at_call 63;refine hkA d fun g=>?_)
  | (go_at_call 65;refine hkA h fun i=>?_))
 go_ret
 exact⟨rfl,grA⟩
def rhN(i x:Nat):Nat:=((x*x%pN i+aN i)%pN i*x%pN i+bN i)%pN i
def onB(i x y:Nat)(f:Bool):Bool:=if f then decide (x=0)&&decide (y=0) else decide (x<pN i)&&(decide (y<pN i)&&decide (y*y%pN i=rhN i x))
theorem aN_lt(i:Nat)(h1:1≤i)(h2:i≤15):aN i<pN i:=by
 obtain rfl|rfl|rfl|rfl|rfl|rfl|rfl|rfl|rfl|rfl|rfl|rfl|rfl|rfl|rfl:i=1∨i=2∨i=3∨i=4∨i=5∨i=6∨i=7∨i=8∨i=9∨i=10∨i=11∨i=12∨i=13∨i=14∨i=15:=by omega
 all_goals decide +kernel
theorem bN_lt(i:Nat)(h1:1≤i)(h2:i≤15):bN i<pN i:=by
 obtain rfl|rfl|rfl|rfl|rfl|rfl|rfl|rfl|rfl|rfl|rfl|rfl|rfl|rfl|rfl:i=1∨i=2∨i=3∨i=4∨i=5∨i=6∨i=7∨i=8∨i=9∨i=10∨i=11∨i=12∨i=13∨i=14∨i=15:=by omega
 all_goals decide +kernel
theorem xN_lt(i:Nat)(h1:1≤i)(h2:i≤15):xN i<pN i:=by
 obtain rfl|rfl|rfl|rfl|rfl|rfl|rfl|rfl|rfl|rfl|rfl|rfl|rfl|rfl|rfl:i=1∨i=2∨i=3∨i=4∨i=5∨i=6∨i=7∨i=8∨i=9∨i=10∨i=11∨i=12∨i=13∨i=14∨i=15:=by omega
 all_goals decide +kernel
theorem yN_lt(i:Nat)(h1:1≤i)(h2:i≤15):yN i<pN i∧0<yN i:=by
 obtain rfl|rfl|rfl|rfl|rfl|rfl|rfl|rfl|rfl|rfl|rfl|rfl|rfl|rfl|rfl:i=1∨i=2∨i=3∨i=4∨i=5∨i=6∨i=7∨i=8∨i=9∨i=10∨i=11∨i=12∨i=13∨i=14∨i=15:=by omega
 all_goals decide +kernel
theorem gN_on(i:Nat)(h1:1≤i)(h2:i≤15):onB i (xN i) (yN i) false=true:=by
 obtain rfl|rfl|rfl|rfl|rfl|rfl|rfl|rfl|rfl|rfl|rfl|rfl|rfl|rfl|rfl:i=1∨i=2∨i=3∨i=4∨i=5∨i=6∨i=7∨i=8∨i=9∨i=10∨i=11∨i=12∨i=13∨i=14∨i=15:=by omega
 all_goals decide +kernel
theorem on13_yes(i:Nat)(h1:1≤i)(h2:i≤15)(x y:Nat)(f:Bool)(hx:x<M)(hy:y<M)(w:World):
 Cg 43 #[.int .i64 i,.agg (pnt x y f)] w (.bool (onB i x y f)):=by
 have q:=pN_bd i h1 h2;refine on13_of i _ _ _ _ _ _ _ _ _ _ x y f _ (find_yes i h1 h2) (fun w=>?_) w
 cases f with
 | true=>
  have:=holds_inf (i:Int) (pN i) (aN i) (bN i) (oN i) (xN i) (yN i) (bl (oN i)) (szN i) (lgN i) x y w;rw[eqN9 x 0 hx (by omega),eqN9 y 0 hy (by omega),Bool.and_true]at this;exact this
 | false=>
  have d:∀z,rhN i z<M:=fun z=>by have:rhN i z<pN i:=Nat.mod_lt _ (by omega);omega
  have j:y*y%pN i<M:=by have:y*y%pN i<pN i:=Nat.mod_lt _ (by omega);omega
  have:=holds_of (i:Int) (pN i) (aN i) (bN i) (oN i) (xN i) (yN i) (bl (oN i)) (szN i) (lgN i) x y (y*y%pN i) (rhN i x) (decide (x<pN i)) (decide (y<pN i))
   (fun w=>below13_any _ _ _ _ _ _ _ _ _ _ x _ (by omega) hx rfl w) (fun w=>below13_any _ _ _ _ _ _ _ _ _ _ y _ (by omega) hy rfl w)
   (fun _ h w=>left13_of _ _ _ _ _ _ _ _ _ _ y _ (fun w=>fMul_ok i y y h1 h2 (of_decide_eq_true h) (of_decide_eq_true h) w) w)
   (fun h _ w=>cubic_of _ _ _ _ _ _ _ _ _ _ x _ _ _ _ (fun w=>fMul_ok i x x h1 h2 (of_decide_eq_true h) (of_decide_eq_true h) w)
    (fun w=>fAdd_ok i _ _ h1 h2 (Nat.mod_lt _ (by omega)) (aN_lt i h1 h2) w) (fun w=>fMul_ok i _ _ h1 h2 (Nat.mod_lt _ (by omega)) (of_decide_eq_true h) w)
    (fun w=>fAdd_ok i _ _ h1 h2 (Nat.mod_lt _ (by omega)) (bN_lt i h1 h2) w) w) w
  rw[eqN9 _ _ j (d x)]at this;exact this
end
end
section
theorem loadGp_is:LdI 82:=fun _=>rfl
theorem storeGp_is:StI 82:=fun _ _=>rfl
theorem zvGp_is:zeroValue 82=zvS 82:=rfl
theorem buildGp_is(p:Array (Nat×Value)):Instr.build 82 p=buildF 82 p:=rfl
theorem zvGp(w:World):(zvS 82).run prog w=.ok (.agg (cu 0 0 0 0 0 0 0 0 0 false)) w:=by kernel_rfl
theorem buildGp0(w:World):(buildF 82 #[]).run prog w=.ok (.agg (cu 0 0 0 0 0 0 0 0 0 false)) w:=by kernel_rfl
theorem buildGp1(id:Int)(p a b n x y:Nat)(s z:Int)(l:Bool)(w:World):(buildF 82 #[(0,.agg (cu id p a b n x y s z l))]).run prog w=.ok (.agg (cu id p a b n x y s z l)) w:=by kernel_rfl
theorem buildPn0(w:World):(buildF 38 #[]).run prog w=.ok (.agg (pnt 0 0 false)) w:=by kernel_rfl
theorem loadGp:LdS 82 59:=ldS
theorem storeGp(id:Int)(p a bb n x y:Nat)(s z:Int)(l:Bool):StS 82 59 (cu id p a bb n x y s z l):=stS (cu_size id p a bb n x y s z l) (cu_one id p a bb n x y s z l)
theorem rd_gp{id:Int}{p a bb n x y:Nat}{s z:Int}{l:Bool}:RdC 82 (cu id p a bb n x y s z l):=rdC 59 (cu_size id p a bb n x y s z l)
def tabA:Array Value :=#[.func (.func 98) #[] #[],.func (.func 99) #[] #[],.func (.func 100) #[] #[],.func (.func 101) #[] #[],.func (.func 102) #[] #[]]
def tabB:Array Value :=#[.func (.func 96) #[] #[],.func (.func 97) #[] #[]]
theorem storeTA_is:StI 132:=fun _ _=>rfl
theorem storeTB_is:StI 129:=fun _ _=>rfl
theorem storeTA(w:World)(b:Nat)(hs:(blk w b).size=5)(hf:frz w b=(0,0)):(storeS 132 (.pointer (some ⟨b,0,none⟩)) (.agg tabA)).run prog w=.ok () (setBlk w b tabA):=
 storeS_run 5 (by decide) (by kernel_rfl) w b tabA rfl (by simp[tabA,Value.oneCell']) hs hf
theorem storeTB(w:World)(b:Nat)(hs:(blk w b).size=2)(hf:frz w b=(0,0)):(storeS 129 (.pointer (some ⟨b,0,none⟩)) (.agg tabB)).run prog w=.ok () (setBlk w b tabB):=
 storeS_run 2 (by decide) (by kernel_rfl) w b tabB rfl (by simp[tabB,Value.oneCell']) hs hf
theorem buildTA_is(p:Array (Nat×Value)):Instr.build 132 p=buildF 132 p:=rfl
theorem buildTB_is(p:Array (Nat×Value)):Instr.build 129 p=buildF 129 p:=rfl
theorem buildTA(w:World):(buildF 132 #[(0,.func (.func 98) #[] #[]),(1,.func (.func 99) #[] #[]),(2,.func (.func 100) #[] #[]),(3,.func (.func 101) #[] #[]),(4,.func (.func 102) #[] #[])]).run prog w=.ok (.agg tabA) w:=by kernel_rfl
theorem buildTB(w:World):(buildF 129 #[(0,.func (.func 96) #[] #[]),(1,.func (.func 97) #[] #[])]).run prog w=.ok (.agg tabB) w:=by kernel_rfl
theorem tabA_size:Array.size tabA=5:=rfl
theorem tabB_size:Array.size tabB=2:=rfl
theorem bPnt:Blank (pnt 0 0 false):=blank_of (by decide +kernel)
theorem bPt:Blank (ptA none 0 0 none 0 0 false):=blank_of (by decide +kernel)
theorem zPnt:0<(pnt 0 0 false).size:=by decide +kernel
theorem zCu:0<(cu 0 0 0 0 0 0 0 0 0 false).size:=by decide +kernel
theorem zPt:0<(ptA none 0 0 none 0 0 false).size:=by decide
theorem rowN2(a b:Nat)(w:World):(exI (.buildSlice 203 2 #[(0,.const (.agg (nw 9 a))),(1,.const (.agg (nw 9 b)))])).run prog w=.ok (.value (.slice (some ⟨w.heap.size,0,none⟩) 2 2)) (w.alloc (.cells (nw 9 a++nw 9 b) 25)):=by kernel_rfl
theorem rowN4(a b c d:Nat)(w:World):(exI (.buildSlice 203 4 #[(0,.const (.agg (nw 9 a))),(1,.const (.agg (nw 9 b))),(2,.const (.agg (nw 9 c))),(3,.const (.agg (nw 9 d)))])).run prog w=.ok (.value (.slice (some ⟨w.heap.size,0,none⟩) 4 4)) (w.alloc (.cells (nw 9 a++nw 9 b++nw 9 c++nw 9 d) 25)):=by kernel_rfl
theorem rowP1(x y:Nat)(f:Bool)(w:World):(exI (.buildSlice 115 1 #[(0,.const (.agg (pnt x y f)))])).run prog w=.ok (.value (.slice (some ⟨w.heap.size,0,none⟩) 1 1)) (w.alloc (.cells (pnt x y f) 38)):=by kernel_rfl
theorem rowP2(x y:Nat)(f:Bool)(u v:Nat)(g:Bool)(w:World):(exI (.buildSlice 115 2 #[(0,.const (.agg (pnt x y f))),(1,.const (.agg (pnt u v g)))])).run prog w=.ok (.value (.slice (some ⟨w.heap.size,0,none⟩) 2 2)) (w.alloc (.cells (pnt x y f++pnt u v g) 38)):=by kernel_rfl
abbrev uz15:=And.intro @loadGp_is<|And.intro @storeGp_is<|And.intro @zvGp_is<|And.intro @buildGp_is<|And.intro @storeTA_is<|And.intro @storeTB_is<|And.intro @buildTA_is<|And.intro @buildTB_is<|And.intro @zvCu_is<|And.intro @storeCu_is<|And.intro @loadCu_is<|And.intro @loadPn_is<|And.intro @storePn_is<|And.intro @zvPn_is<|And.intro @buildCu_is @buildPn_is
abbrev uz16:=And.intro @loadGp<|And.intro @storeGp<|And.intro @zvGp<|And.intro @buildGp0<|And.intro @buildGp1<|And.intro @buildPn0<|And.intro @storeTA<|And.intro @storeTB<|And.intro @buildTA<|And.intro @buildTB<|And.intro @tabA_size<|And.intro @tabB_size<|And.intro @zvCu<|And.intro @storeCu<|And.intro @loadCu<|And.intro @loadPn<|And.intro @storePn<|And.intro @zvPn<|And.intro @loadCP<|And.intro @loadCA<|And.intro @loadPX<|And.intro @loadPY<|And.intro @buildPnI<|And.intro @buildPn2<|And.intro @cu_size<|And.intro @cu_P<|And.intro @cu_A<|And.intro @pnt_size<|And.intro @pnt_X<|And.intro @pnt_Y<|And.intro @frz_setBlk<|And.intro @blk_setBlk<|And.intro @setBlk_setBlk @blk_other
abbrev uz20:=And.intro @loadCu<|And.intro @storeCu<|And.intro @zvCu<|And.intro @cu_size<|And.intro @loadCP<|And.intro @loadCA<|And.intro @loadCB<|And.intro @loadCN<|And.intro @loadCG<|And.intro @loadCX<|And.intro @loadCY<|And.intro @cu_P<|And.intro @cu_A<|And.intro @cu_B<|And.intro @cu_N<|And.intro @cu_G<|And.intro @cu_X<|And.intro @cu_Y<|And.intro @loadPn<|And.intro @storePn<|And.intro @zvPn<|And.intro @loadPX<|And.intro @loadPY<|And.intro @buildPn0<|And.intro @buildPn3<|And.intro @buildPnI<|And.intro @pnt_size<|And.intro @pnt_X<|And.intro @pnt_Y<|And.intro @pnt_18<|And.intro @frz_setBlk<|And.intro @blk_setBlk<|And.intro @setBlk_setBlk @blk_other
end
end Go.Proofs.YtffhepbppiocbadGreat
namespace Go.Proofs.YtffhepbppiocbadGreat.EC
/-- Inverses by Fermat's rule. -/
def iP(p:Nat)[NeZero p](d:Fin p):Fin p:=Fin.ofNat p (d.val^(p-2))
theorem iP_is{p:Nat}[NeZero p](h:Prm p)(d:Fin p)(hd:d≠0):iP p d*d=1:=by
 have f:d.val≠0:=fun e=>hd (Fin.ext (e.trans (Fin.val_zero p).symm))
 have nd:¬p∣d.val:=fun e=>by
  have:=Nat.le_of_dvd (by omega) e
  omega
 apply Fin.ext
 rw[Fin.val_mul]
 show d.val^(p-2)%p*d.val%p=1%p
 rw[Nat.mod_mul_mod,←Nat.pow_succ,show (p-2).succ=p-1 by omega,h.fermat nd,Nat.mod_eq_of_lt (by omega)]
theorem cur_of(p a b:Nat)[NeZero p](hp:Prm p)(h2:2<p)(ha:a<p)(hb:b<p)(hdis:(4*(a*a%p*a%p)%p+27*(b*b%p)%p)%p≠0):Cur (iP p) ⟨a,ha⟩ ⟨b,hb⟩:=by
 refine⟨hp,fun e=>?_,fun e=>hdis ?_,fun d j=>iP_is hp d j⟩
 ·have f:2%p=0%p:=congrArg Fin.val e;rw[Nat.mod_eq_of_lt h2,Nat.zero_mod]at f
  cases f
 ·have f:=congrArg Fin.val e;rw[Fin.val_add,Fin.val_mul,Fin.val_mul,Fin.val_mul,Fin.val_mul,Fin.val_mul]at f;have q:(4:Fin p).val=4%p:=rfl;have h:(27:Fin p).val=27%p:=rfl;have x:=Fin.val_zero p
  have A:∀y,4%p*y%p=4*y%p:=fun y=>by rw[Nat.mod_mul_mod]
  have i:∀y,27%p*y%p=27*y%p:=fun y=>by rw[Nat.mod_mul_mod]
  rw[q,h,x,A,i]at f;exact f
theorem nzP(i:Nat)(h1:1≤i)(h2:i≤15):NeZero (pN i):=⟨by have:=pN_bd i h1 h2;omega⟩
theorem disN(i:Nat)(h1:1≤i)(h2:i≤15):2<pN i∧(4*(aN i*aN i%pN i*aN i%pN i)%pN i+27*(bN i*bN i%pN i)%pN i)%pN i≠0:=by
 obtain rfl|rfl|rfl|rfl|rfl|rfl|rfl|rfl|rfl|rfl|rfl|rfl|rfl|rfl|rfl:i=1∨i=2∨i=3∨i=4∨i=5∨i=6∨i=7∨i=8∨i=9∨i=10∨i=11∨i=12∨i=13∨i=14∨i=15:=by omega
 all_goals decide +kernel
section
variable (i:Nat) (h1:1≤i) (h2:i≤15)
def aF:Fin (pN i):=⟨aN i,aN_lt i h1 h2⟩
def bF:Fin (pN i):=⟨bN i,bN_lt i h1 h2⟩
def xF:Fin (pN i):=⟨xN i,xN_lt i h1 h2⟩
def yF:Fin (pN i):=⟨yN i,(yN_lt i h1 h2).1⟩
variable [NeZero (pN i)]
theorem curN:Cur (iP (pN i)) (aF i h1 h2) (bF i h1 h2):=cur_of _ _ _ (prm_pN i h1 h2) (disN i h1 h2).1 _ _ (disN i h1 h2).2
theorem onG:OnC (aF i h1 h2) (bF i h1 h2) (xF i h1 h2) (yF i h1 h2):=by
 have h:=gN_on i h1 h2;simp only[onB,Bool.false_eq_true,if_false,Bool.and_eq_true,decide_eq_true_eq]at h;have e:yF i h1 h2*yF i h1 h2=(xF i h1 h2*xF i h1 h2+aF i h1 h2)*xF i h1 h2+bF i h1 h2:=Fin.ext h.2.2;unfold OnC;rw[e]
 grobner
end
/-- N - 1 times the base point is its opposite. -/
theorem ml_pred_G(i:Nat)(h1:1≤i)(h2:i≤15)[NeZero (pN i)]:ml (iP (pN i)) (aF i h1 h2) (oN i-1) (some (xF i h1 h2,yF i h1 h2))=ng (some (xF i h1 h2,yF i h1 h2)):=by
 have C:=curN i h1 h2;have d:=onG i h1 h2
 obtain rfl|rfl|rfl|rfl|rfl|rfl|rfl|rfl|rfl|rfl|rfl|rfl|rfl|rfl|rfl:i=1∨i=2∨i=3∨i=4∨i=5∨i=6∨i=7∨i=8∨i=9∨i=10∨i=11∨i=12∨i=13∨i=14∨i=15:=by omega
 ·exact ml_opp C d _ 191 top_1 run_1
 ·exact ml_opp C d _ 223 top_2 run_2
 ·exact ml_opp C d _ 255 top_3 run_3
 ·exact ml_opp C d _ 383 top_4 run_4
 ·exact ml_opp C d _ 520 top_5 run_5
 ·exact ml_opp C d _ 255 top_6 run_6
 ·exact ml_opp C d _ 159 top_7 run_7
 ·exact ml_opp C d _ 223 top_8 run_8
 ·exact ml_opp C d _ 255 top_9 run_9
 ·exact ml_opp C d _ 319 top_10 run_10
 ·exact ml_opp C d _ 383 top_11 run_11
 ·exact ml_opp C d _ 511 top_12 run_12
 ·exact ml_opp C d _ 7 top_13 run_13
 ·exact ml_opp C d _ 7 top_14 run_14
 ·exact ml_opp C d _ 7 top_15 run_15
theorem oN_pos(i:Nat)(h1:1≤i)(h2:i≤15):2<oN i:=by
 obtain rfl|rfl|rfl|rfl|rfl|rfl|rfl|rfl|rfl|rfl|rfl|rfl|rfl|rfl|rfl:i=1∨i=2∨i=3∨i=4∨i=5∨i=6∨i=7∨i=8∨i=9∨i=10∨i=11∨i=12∨i=13∨i=14∨i=15:=by omega
 all_goals decide +kernel
/-- N times the base point is infinity. -/
theorem ml_G(i:Nat)(h1:1≤i)(h2:i≤15)[NeZero (pN i)]:ml (iP (pN i)) (aF i h1 h2) (oN i) (some (xF i h1 h2,yF i h1 h2))=none:=by
 have h:=oN_pos i h1 h2;obtain⟨n,d⟩:∃n,oN i=n+1:=⟨oN i-1,by omega⟩;have e:=ml_pred_G i h1 h2;rw[d]at e ⊢
 show pl _ _ (ml _ _ n _) _=none
 rw[show n+1-1=n from rfl]at e;rw[e];have C:=curN i h1 h2;have:=pl_ng C (ng (some (xF i h1 h2,yF i h1 h2)));rw[ng_ng]at this;exact this
end Go.Proofs.YtffhepbppiocbadGreat.EC
namespace Go.Proofs.YtffhepbppiocbadGreat
open Go.RowKit Go.Proofs.Tryz
set_option maxRecDepth 100000
set_option maxHeartbeats 8000000
section
attribute [local go_sem ↓] uz1
attribute [local go_sem] uz2
section
def hexN(l:List UInt8):Nat:=l.foldl (fun a c=>a*16+hexD c.toNat) 0
theorem hexN_snoc(l:List UInt8)(c:UInt8):hexN (l++[c])=hexN l*16+hexD c.toNat:=by
 unfold hexN;simp
theorem hexN_lt:∀(n:Nat) (l:List UInt8),l.length=n→(∀c∈l,hexOk c.toNat=true)→hexN l<2^(4*n)
 | 0,l,h,_=>by rw[List.length_eq_zero_iff.1 h];exact Nat.one_pos
 | n+1,l,h,hc=>by
  have hne:l≠[]:=fun e=>by rw[e]at h;cases h
  have e:=List.dropLast_concat_getLast hne
  have d:l.dropLast.length=n:=by rw[List.length_dropLast];omega
  have j:=hexN_lt n l.dropLast d (fun c f=>hc c (List.dropLast_subset l f));have q:=hexD_lt _ (hc (l.getLast hne) (List.getLast_mem hne));rw[←e,hexN_snoc,show 4*(n+1)=4*n+4 by omega,Nat.pow_add];have i:(2:Nat)^4=16:=rfl;rw[i]
  omega
theorem hpow32(k:Nat)(hk:k≤32):2^(32-k)*2^k=4294967296:=by
 rw[←Nat.pow_add,show 32-k+k=32 by omega]
theorem hex_step(X P d:Nat):(X*16+d)*2^(4*P)=X*2^(4*(P+1))+d*2^(4*P):=by
 grind
theorem hex_place(b q r:Nat):b*2^(4*(8*q+r))=b*2^(4*r)*pq q:=by
 unfold pq
 grind
theorem hex_dg(X q r:Nat)(hr:r<8):dg (X*2^(4*(8*q+r+1))) q=(X%2^(32-4*(r+1)))*2^(4*(r+1)):=by
 unfold dg pq;rw[show 4*(8*q+r+1)=4*(r+1)+32*q from by omega,Nat.pow_add,←Nat.mul_assoc,Nat.mul_div_cancel _ (Nat.two_pow_pos _),←hpow32 (4*(r+1)) (by omega),Nat.mul_mod_mul_right]
theorem hexd_lt(b r:Nat)(hb:b<16):b*2^(4*r)<2^(4*(r+1)):=by
 rw[show 4*(r+1)=4+4*r from by omega,Nat.pow_add];exact Nat.mul_lt_mul_of_pos_right hb (Nat.two_pow_pos _)
theorem hex_lt(X q r b:Nat)(hr:r<8)(hb:b<16):dg (X*2^(4*(8*q+r+1))) q+b*2^(4*r)<4294967296:=by
 have h:=hexd_lt b r hb;rw[hex_dg X q r hr,←hpow32 (4*(r+1)) (by omega)];have d:=Nat.mod_lt X (Nat.two_pow_pos (32-4*(r+1)));have f:(X%2^(32-4*(r+1))+1)*2^(4*(r+1))≤2^(32-4*(r+1))*2^(4*(r+1)):=Nat.mul_le_mul_right _ d;rw[Nat.add_mul]at f
 omega
theorem hex_set(N X q r b:Nat)(hr:r<8)(hb:b<16):
 (nd N (X*2^(4*(8*q+r+1)))).setIfInBounds q (Value.int .u32 ((dg (X*2^(4*(8*q+r+1))) q+b*2^(4*r):Nat):Int))=nd N ((X*16+b)*2^(4*(8*q+r))):=by
 rw[nd_dset N _ q _ (hex_lt X q r b hr hb),hex_step,hex_place];have d:=dparts (X*2^(4*(8*q+r+1))) q;generalize X*2^(4*(8*q+r+1))=V at *;refine congrArg (nd N) ?_;unfold dset;rw[Nat.add_mul];generalize V/pq (q+1)*pq (q+1)=z at *;generalize b*2^(4*r)*pq q=y at *;generalize dg V q*pq q=t at *
 omega
theorem hex_round(N X q r d t V:Nat)(hr:r<8)(hb:d<16)(ht:t=4*r)(hV:V=X*2^(4*(8*q+r+1))):
 ∃y o:Nat,IntKind.u32.wrap ((d:Int)*2^t)=(y:Int)∧bits BinOp.or IntKind.u32 ((dg V q:Nat):Int) (y:Int)=o ∧
  (nd N V).setIfInBounds q (Value.int .u32 o)=nd N ((X*16+d)*2^(4*(8*q+r))):=by
 subst ht hV;have f:=hexd_lt d r hb
 have h:2^(4*(r+1))≤4294967296:=by
  rw[←hpow32 (4*(r+1)) (by omega)];exact Nat.le_mul_of_pos_left _ (Nat.two_pow_pos _)
 refine⟨d*2^(4*r),dg (X*2^(4*(8*q+r+1))) q+d*2^(4*r),?_,?_,hex_set N X q r d hr hb⟩
 ·rw[IntKind.wrap_u32,int_pow,←Int.natCast_mul];generalize d*2^(4*r)=y at *
  omega
 ·rw[bits_or32 _ _ (dg_lt _ _) (by omega),hex_dg X q r hr,or_add _ _ _ f]
theorem rhex_any(s:ByteArray)(hs:s.size≤1000)(hc:∀c∈s.data.toList,hexOk c.toNat=true)(w:World):Calls prog 36 #[.string s] w (Nm (hexN s.data.toList) w):=by
 have h:(s.size:Int)≤1000:=by omega
 obtain⟨m,hm⟩:=exl (s.size/8);obtain⟨N,hN⟩:=exl (m+1)
 have HB:Hu (hexN s.data.toList<pq N):=fun _=>by
  have hl:s.data.toList.length=s.size:=by simp
  refine Nat.lt_of_lt_of_le (hexN_lt _ _ hl hc) ?_;unfold pq;exact Nat.pow_le_pow_right (by decide) (by omega)
 have HC:Hu (∀k (h:k<s.size),hexOk s[k].toNat=true):=fun _ k h=>hc _ (by
  have:s[k]=s.data.toList[k]'(by simpa using h):=rfl;rw[this]
  exact List.getElem_mem _)
 have m1:(s.size:Int)/8=(m:Int):=by omega
 have m2:(m:Int)+1=N:=by omega
 have HM:Hu (s.size<8*N):=fun _=>by omega
 have n0:(0:Int)≤(s.size:Int):=by omega
 have mb:(m:Int)≤200:=by omega
 have kb:Hu (0<N∧N≤50000):=fun _=>by omega
 have W:∀w,(Instr.makeSlice 28 (.int .i64 N) (.int .i64 N)).run prog w=.ok (.slice (some ⟨w.heap.size,0,none⟩) N N) (w.alloc (.cells (nd N 0) 36)):=fun w=>make_digits N (by omega) w;clear hm hN hc
 go_enter func36,ntmps36
 go_wp2
 clear W
 go_loopw [4,5] (fun i _ wr=>∃k X:Nat,k≤s.size∧i=.int .i64 k∧Hu (hexN (s.data.toList.take k)=X)∧Hid (Gr w wr∧blk wr w.heap.size=nd N (X*2^(4*(s.size-k)))∧frz wr w.heap.size=(0,0)∧Pre (w.heap.size+1) wr.heap.size)) (fun i _ _=>s.size-(intOf i).toNat)
 case atStart=>exact⟨0,0,by omega,rfl,fun _=>rfl,grA,by simp[go_sem],by simp[go_sem],by simp[go_sem]⟩
 case round=>
  obtain⟨k,X,hk,rfl,HX,S⟩:=hrel
  by_cases hlt:k<s.size
  ·obtain⟨P,hP⟩:∃P,s.size=k+(P+1):=⟨s.size-k-1,by omega⟩;obtain⟨q,r,hq,hr⟩:∃q r,P=8*q+r∧r<8:=⟨P/8,P%8,by omega,by omega⟩;obtain⟨t,ht⟩:∃t,t=4*r:=⟨_,rfl⟩
   have e1:(s.size:Int)-1-(k:Int)=P:=by omega
   have e2:(P:Int)/8=q:=by omega
   have e3:(P:Int)%8=r:=by omega
   have e4:(r:Int)*4=t:=by omega
   have d2:(P:Int).tdiv 8=(q:Int):=by rw[Int.tdiv_eq_ediv_of_nonneg (by omega)];exact e2
   have d3:(P:Int).tmod 8=(r:Int):=by rw[Int.tmod_eq_emod_of_nonneg (by omega)];exact e3
   have w2:IntKind.i64.wrap (q:Int)=q:=wiA;have w3:IntKind.i64.wrap (r:Int)=r:=wiA;have w4:IntKind.i64.wrap (t:Int)=t:=wiA
   have t0:(0:Int)≤t:=by omega
   have t1:(t:Int)<32:=by omega
   have q0:(0:Int)≤q:=by omega
   have qN:q<N:=by have:=HM.out ();omega
   have q1:(q:Int)<N:=by omega
   have p0:(0:Int)≤P:=by omega
   have k0:(0:Int)≤k:=by omega
   have k1:(k:Int)<(s.size:Int):=by omega
   obtain⟨V,C⟩:∃V,V=X*2^(4*(s.size-k)):=⟨_,rfl⟩;rw[←C]at S;have gV:=nd_get N V q qN
   have J:V=X*2^(4*(8*q+r+1)):=by rw[C,show s.size-k=8*q+r+1 by omega]
   obtain⟨d,x⟩:=exl (hexD s[k].toNat)
   have A:d<16:=by rw[←x];exact hexD_lt _ (HC.out () k hlt)
   have HD:Hid _:=x▸hexd_any s[k].toNat (HC.out () k hlt);obtain⟨y,o,f2,f3,f4⟩:=hex_round N X q r d t V hr A ht J;obtain⟨U,K⟩:=exl ((X*16+d)*2^(4*(s.size-(k+1))))
   have HS:Hu ((nd N V).setIfInBounds q (Value.int .u32 o)=nd N U):=fun _=>by
    rw[f4,←K,show s.size-(k+1)=8*q+r by omega]
   have Y:Hu (hexN (s.data.toList.take (k+1))=X*16+d):=fun _=>by rw[take_snoc s k hlt,hexN_snoc,HX.out (),x]
   obtain⟨G,D,L,H⟩:=S.out;have aa:s.data.size=s.size:=rfl;clear C J ht hq hr hs hk hP f4 x A
   go_wp2
   have I:Vr wr w.heap.size (nd N V):=⟨D,L,H⟩;have Z:=HS.out ();refine wp_wT 18 [.c (.slice (some ⟨w.heap.size,0,none⟩) N N),.c (.int .i64 P),.c (.int .i64 q),.c (.slice (some ⟨w.heap.size,0,none⟩) N N),.c (.int .i64 P),.c (.int .i64 q),.c (pv (w.heap.size) q),.c (.int .u32 ((dg V q:Nat):Int)),.c (.string s),.c (.int .i64 k),.c (.int .u8 ((s[k].toNat:Nat):Int)),.c (.int .u32 d),.c (.int .i64 P),.c (.int .i64 r),.c (.int .i64 t),.c (.int .u32 y),.c (.int .u32 o),.c (pv (w.heap.size) q)] [2,5,6,7,10,11,13,14,15,16,17] ⟨.s (.binOp .quo 3 (.const (.int .i64 P)) (.const (.int .i64 8)) 3) rfl fun B j=>by simp[go_sem,exI, *],.s (.binOp .quo 3 (.const (.int .i64 P)) (.const (.int .i64 8)) 3) rfl fun B j=>by simp[go_sem,exI, *],.s (.indexAddr 28 (.const (.slice (some ⟨w.heap.size,0,none⟩) N N)) (.const (.int .i64 q))) rfl fun B j=>by simp[go_sem,exI, *],.o 36 q I rfl (by exact gV),.s (.index 9 (.const (.string s)) (.const (.int .i64 k))) rfl fun B j=>by simp[go_sem,exI, *],.y HD.out,.s (.binOp .rem 3 (.const (.int .i64 P)) (.const (.int .i64 8)) 3) rfl fun B j=>by simp[go_sem,exI, *],.s (.binOp .mul 3 (.const (.int .i64 r)) (.const (.int .i64 4)) 3) rfl fun B j=>by simp[go_sem,exI, *],.s (.binOp .shl 36 (.const (.int .u32 d)) (.const (.int .i64 t)) 3) rfl fun B j=>by simp[go_sem,exI, *],.s (.binOp .or 36 (.const (.int .u32 ((dg V q:Nat):Int))) (.const (.int .u32 y)) 36) rfl fun B j=>by simp[go_sem,exI, *],.s (.indexAddr 28 (.const (.slice (some ⟨w.heap.size,0,none⟩) N N)) (.const (.int .i64 q))) rfl fun B j=>by simp[go_sem,exI, *],⟨⟩⟩ (.s 36 (fun yy=>pv (w.heap.size) q) (fun yy=>.int .u32 o) fun ab v1 j h6=>?_);have HT:=(I.gr j).h;have FT:=(I.gr j).f;refine⟨setBlk v1 (w.heap.size) (nd N U),by simp[go_sem,exI,HT,cell_blk,gV,frz_at _ _ _ FT,setCell_setBlk,Z],?_⟩;simp only[fzw];clear h6;replace G:=G.trans j;replace I:=I.gr j;clear j;have c1:=I.set (by rw[nd_size];omega) (nd N U);have G2:=gr_setNew (d:=nd N U) G (Nat.le_refl _)
   go_wp2
   go_roundw
   case rel=>exact⟨k+1,X*16+d,by omega,by go_num,Y,G2,by rw[K];exact c1.h,c1.f,c1.p⟩
   case measure=>simp[intOf];omega
  ·have Q:Hu (k=s.size):=fun _=>by omega
   obtain⟨V,C⟩:∃V,V=X*2^(4*(s.size-k)):=⟨_,rfl⟩;rw[←C]at S
   have HF:Hu (V=hexN s.data.toList):=fun _=>by
    rw[C,Q.out (),Nat.sub_self,Nat.mul_zero,Nat.pow_zero,Nat.mul_one,←HX.out (),Q.out (),List.take_of_length_le (by simp)]
   have HV:Hu (V<pq N):=fun _=>by rw[HF.out ()];exact HB.out ()
   have ac:¬(k:Int)<(s.size:Int):=by omega
   obtain⟨G,D,L,H⟩:=S.out;have HR:Hu (_):=fun _=>rshr0_nd V N w.heap.size wr D H (HV.out ()) (kb.out ()).1 (kb.out ()).2;clear C hlt hk hs
   go_wp2_with (go_at_call 59;refine(HR.out ()).mono ?_;rintro e w' ⟨p1,n1,rfl,S1,G1⟩)
   go_ret
   rw[←HF.out ()];exact⟨p1,n1,rfl,S1,G.trans G1⟩
end
section
def bslQ(t:TypeId)(n:Nat)(p:Array (Nat×Value)):Sem Value:=Instr.buildSlice t n p
theorem bslQ_is(n:Nat)(p:Array (Nat×Value)):Instr.buildSlice 70 n p=bslQ 70 n p:=rfl
theorem bslQ6(a b c d e f:ByteArray)(w:World):(bslQ 70 6 #[(0,.string a),(1,.string b),(2,.string c),(3,.string d),(4,.string e),(5,.string f)]).run prog w=.ok (.slice (some ⟨w.heap.size,0,none⟩) 6 6) (w.alloc (.cells #[.string a,.string b,.string c,.string d,.string e,.string f] 9)):=by kernel_rfl
attribute [local go_sem ↓] bslQ_is
attribute [local go_sem] bslQ6
def hxB(X n:Nat):ByteArray:=⟨((List.range n).map fun i=>UInt8.ofNat (let d:=X/16^(n-1-i)%16;if d<10 then 48+d else 87+d)).toArray⟩
def rsL:List (List Nat):=[[],[48,0,48,48,48,48],[56,0,56,56,56,56],[64,0,64,64,64,64],[96,0,96,96,96,96],[132,0,132,132,132,132],[64,1,1,64,64,64],[40,40,40,40,40,40],[56,56,56,56,56,56],[64,64,64,64,64,64],[80,80,80,80,80,80],[96,96,96,96,96,96],[128,128,128,128,128,128],[2,0,2,2,1,2],[2,1,1,2,1,2],[2,2,1,2,1,2]]
def rsN(i j:Nat):ByteArray:=match (rsL.getD i []).getD j 0 with|0=>⟨#[45]⟩|n=>hxB ([pN i,aN i,bN i,oN i,xN i,yN i].getD j 0) n
def rowA(i:Nat):Array Value :=#[.string (rsN i 0),.string (rsN i 1),.string (rsN i 2),.string (rsN i 3),.string (rsN i 4),.string (rsN i 5)]
theorem row_yes(i:Nat)(h1:1≤i)(h2:i≤15)(w:World):Calls prog 35 #[.int .i64 i] w fun e w'=>∃b,e=.returned (.slice (some ⟨b,0,none⟩) 6 6)∧blk w' b=rowA i∧Pre (b+1) w'.heap.size∧Gr w w':=by
 obtain rfl|rfl|rfl|rfl|rfl|rfl|rfl|rfl|rfl|rfl|rfl|rfl|rfl|rfl|rfl:i=1∨i=2∨i=3∨i=4∨i=5∨i=6∨i=7∨i=8∨i=9∨i=10∨i=11∨i=12∨i=13∨i=14∨i=15:=by omega
 all_goals
  go_enter func35,ntmps35
  go_wp2
  go_ret
  exact⟨w.heap.size,rfl,by rw[blk_alloc_at _ _ _ _ _ rfl];kernel_rfl,by simp[go_sem],grA⟩
theorem row_no(x:Int)(h:x<1∨15<x)(w:World):Cg 35 #[.int .i64 x] w (.slice none 0 0):=by
 go_enter func35,ntmps35
 go_wp2
 go_ret
 exact⟨rfl,grA⟩
end
end
section
theorem loadC_is:LdI 30:=fun _=>rfl
theorem storeC_is:StI 30:=fun _ _=>rfl
theorem loadC:LdS 30 7:=ldS
def cvA(id:Int)(p:Option Addr)(l n:Nat)(q:Nat→Option Addr×Nat×Nat):Array Value :=#[.int .i64 id,.slice p l n,.slice (q 0).1 (q 0).2.1 (q 0).2.2,.slice (q 1).1 (q 1).2.1 (q 1).2.2,.slice (q 2).1 (q 2).2.1 (q 2).2.2,.slice (q 3).1 (q 3).2.1 (q 3).2.2,.slice (q 4).1 (q 4).2.1 (q 4).2.2]
def crA(id:Int)(x:Nat→Nat)(q:Nat→Option Addr×Nat):Array Value :=#[.int .i64 id,.slice (q 0).1 (dl (x 0)) (q 0).2,.slice (q 1).1 (dl (x 1)) (q 1).2,.slice (q 2).1 (dl (x 2)) (q 2).2,.slice (q 3).1 (dl (x 3)) (q 3).2,.slice (q 4).1 (dl (x 4)) (q 4).2,.slice (q 5).1 (dl (x 5)) (q 5).2]
theorem crA_cvA(id:Int)(x:Nat→Nat)(q:Nat→Option Addr×Nat):crA id x q=cvA id (q 0).1 (dl (x 0)) (q 0).2 (fun k=>((q (k+1)).1,dl (x (k+1)),(q (k+1)).2)):=rfl
def six{α:Type}(a b c d e f:α):Nat→α
 | 0=>a
 | 1=>b
 | 2=>c
 | 3=>d
 | 4=>e
 | _=>f
theorem storeC0(w:World)(b:Nat)(hs:(blk w b).size=7)(hf:frz w b=(0,0)):
 (storeS 30 (.pointer (some ⟨b,0,none⟩)) (.agg #[.int .i64 0,.slice none 0 0,.slice none 0 0,.slice none 0 0,.slice none 0 0,.slice none 0 0,.slice none 0 0])).run prog w=.ok () (setBlk w b #[.int .i64 0,.slice none 0 0,.slice none 0 0,.slice none 0 0,.slice none 0 0,.slice none 0 0,.slice none 0 0]):=
 storeS_run 7 (by decide) (by kernel_rfl) w b _ rfl (by simp[Value.oneCell']) hs hf
def buildG(t:TypeId)(p:Array (Nat×Value)):Sem Value:=Instr.build t p
theorem buildC_is(p:Array (Nat×Value)):Instr.build 30 p=buildG 30 p:=rfl
theorem buildC0(w:World):(buildG 30 #[]).run prog w=.ok (.agg #[.int .i64 0,.slice none 0 0,.slice none 0 0,.slice none 0 0,.slice none 0 0,.slice none 0 0,.slice none 0 0]) w:=by kernel_rfl
theorem eqSl(b:Nat)(w:World):(binOp .eql 70 (.slice (some ⟨b,0,none⟩) 6 6) (.slice none 0 0)).run prog w=.ok (.bool false) w:=by kernel_rfl
theorem eqSl0(w:World):(binOp .eql 70 (.slice none 0 0) (.slice none 0 0)).run prog w=.ok (.bool true) w:=by kernel_rfl
theorem crA_one(id:Int)(x:Nat→Nat)(q:Nat→Option Addr×Nat):(crA id x q).all (·.oneCell')=true:=by simp[crA,Value.oneCell']
theorem storeCr(w:World)(b:Nat)(id:Int)(x:Nat→Nat)(q:Nat→Option Addr×Nat)(hs:(blk w b).size=7)(hf:frz w b=(0,0)):
 (storeS 30 (.pointer (some ⟨b,0,none⟩)) (.agg (crA id x q))).run prog w=.ok () (setBlk w b (crA id x q)):=
 storeS_run 7 (by decide) (by kernel_rfl) w b _ rfl (crA_one id x q) hs hf
theorem crA_size(id:Int)(x:Nat→Nat)(q:Nat→Option Addr×Nat):(crA id x q).size=7:=rfl
end
section
attribute [local go_sem ↓] uz1
attribute [local go_sem] uz2
section
def Kw.cb(id:Int)(x:Nat→Nat):Kw:=⟨fun y=>.agg (crA id x y),fun y w=>∀j,Sl w (y j).1 (x j),fun _ _ _ h g j=>(h j).gr g,0,fun h=>absurd rfl h,fun h=>absurd h (by decide)⟩
theorem fkcb{z:Array Value}{id:Int}{x:Nat→Nat}(h:Blank z):FarK z (.cb id x):=fun _ _ _ _ e k j=>Sl.set (k j) (e▸h)
theorem bCr(id:Int)(x:Nat→Nat)(q:Nat→Option Addr×Nat):Blank (crA id x q):=by
 intro i n h
 match i,h with
 | 0,h=>simp[crA]at h
 | 1,h=>simp[crA]at h
 | 2,h=>simp[crA]at h
 | 3,h=>simp[crA]at h
 | 4,h=>simp[crA]at h
 | 5,h=>simp[crA]at h
 | 6,h=>simp[crA]at h
 | k+7,h=>simp[crA]at h
theorem bZ7:Blank #[.int .i64 0,.slice none 0 0,.slice none 0 0,.slice none 0 0,.slice none 0 0,.slice none 0 0,.slice none 0 0]:=bCr 0 (fun _=>0) (fun _=>(none,0))
theorem sl_lit(c:Nat)(hc:c<pq 1)(w:World):Sl (w.alloc (.cells (nd 1 c) 36)) (some ⟨w.heap.size,0,none⟩) c:=Sl.of_blk (n:=1) (by simp[Pre]) (blk_alloc_at _ _ _ _ _ rfl) hc
theorem crA_1(id:Int)(x:Nat→Nat)(q:Nat→Option Addr×Nat):(crA id x q)[2]? = some (.slice (q 1).1 (dl (x 1)) (q 1).2):=rfl
theorem crA_set(id:Int)(x0 y x1 x2 x3 x4 x5:Nat)(q:Nat→Option Addr×Nat)(p:Option Addr)(n:Nat):(crA id (six x0 y x2 x3 x4 x5) q).setIfInBounds 2 (.slice p (dl x1) n)=crA id (six x0 x1 x2 x3 x4 x5) (fun j=>match j with|1=>(p,n)|j=>q j):=rfl
attribute [local go_sem ↓] loadC_is storeC_is buildC_is bsl_is Go.wp_at_zero Go.wp_at_succ
attribute [local go_sem] eqSl eqSl0 loadC storeC0 storeCr buildC0 crA_size frz_setBlk blk_setBlk setBlk_setBlk blk_other
theorem get_of(id:Int)(s0 s1 s2 s3 s4 s5:ByteArray)(x0 x1 x2 x3 x4 x5:Nat)(HR:∀w,Calls prog 35 #[.int .i64 id] w fun e w'=>∃b,e=.returned (.slice (some ⟨b,0,none⟩) 6 6)∧blk w' b =#[.string s0,.string s1,.string s2,.string s3,.string s4,.string s5]∧Pre (b+1) w'.heap.size∧Gr w w')(H0:∀w,Calls prog 36 #[.string s0] w (Nm x0 w))(H2:∀w,Calls prog 36 #[.string s2] w (Nm x2 w))(H3:∀w,Calls prog 36 #[.string s3] w (Nm x3 w))(H4:∀w,Calls prog 36 #[.string s4] w (Nm x4 w))(H5:∀w,Calls prog 36 #[.string s5] w (Nm x5 w))(h1:(s1=⟨#[45]⟩∧3≤x0∧dl x0≤50000∧x0-3=x1)∨((s1.toList == [45])=false∧∀w,Calls prog 36 #[.string s1] w (Nm x1 w)))(w:World):
 Calls prog 10 #[.int .i64 id] w fun e w'=>∃q,e=.returned (.tuple #[.agg (crA id (six x0 x1 x2 x3 x4 x5) q),.bool true])∧(∀k,Sl w' (q k).1 (six x0 x1 x2 x3 x4 x5 k))∧Gr w w':=by
 have U:Hid _:=HR;have aa:Hid _:=H0;have ab:Hid _:=H2;have ac:Hid _:=H3;have ae:Hid _:=H4;have af:Hid _:=H5;clear HR H0 H2 H3 H4 H5
 go_enter func10,ntmps10
 go_upto_region 4 with (go_at_call 35;refine(U.out _).mono ?_;rintro e W1 ⟨A,rfl,K,L,G1⟩)
 refine gen_w (fun v=>Hid (Gr w v∧Vr v w.heap.size #[.int .i64 0,.slice none 0 0,.slice none 0 0,.slice none 0 0,.slice none 0 0,.slice none 0 0,.slice none 0 0]∧blk v A =#[.string s0,.string s1,.string s2,.string s3,.string s4,.string s5]∧Pre (A+1) v.heap.size)) ⟨((Gr.refl _).alloc _).trans G1,(Vr.new w _ _).gr G1,K,L⟩ ?_;clear K L G1 U;intro v0 HV;obtain⟨G,I,K,L⟩:=HV.out
 have S:∀(j:Nat) (s:Value),(#[.string s0,.string s1,.string s2,.string s3,.string s4,.string s5])[j]? = some s→∀vv,Gr v0 vv→vv.cell? ⟨A,j,none⟩=some s:=fun j s h vv g=>by rw[cell_blk,g.blk _ L,K];exact h
 clear HV;refine wp_v true [.c (.int .i64 id),.c (.slice (some ⟨A,0,none⟩) 6 6),.c (pv A 0),.c (.string s0),.n x0,.c (.slice (some ⟨A,0,none⟩) 6 6),.c (pv A 2),.c (.string s2),.n x2,.c (.slice (some ⟨A,0,none⟩) 6 6),.c (pv A 3),.c (.string s3),.n x3,.c (.slice (some ⟨A,0,none⟩) 6 6),.c (pv A 4),.c (.string s4),.n x4,.c (.slice (some ⟨A,0,none⟩) 6 6),.c (pv A 5),.c (.string s5),.n x5,.cb id (six x0 0 x2 x3 x4 x5),.a,.u] [3,4,7,8,11,12,15,16,19,20,21] [⟨22,23,30, #[.int .i64 0,.slice none 0 0,.slice none 0 0,.slice none 0 0,.slice none 0 0,.slice none 0 0,.slice none 0 0],fun x=>crA id (six x0 0 x2 x3 x4 x5) (x 21)⟩] ?hs ?hv ?hf
 case hs=>
  exact⟨.s (.load 9 (.const (pv A 0))) rfl fun vv i=>by simp[go_sem,exI,S 0 _ rfl vv i],.k _ fun x vv i J=>RtW.of_n (Rt.n (aa.out _)),.s (.load 9 (.const (pv A 2))) rfl fun vv i=>by simp[go_sem,exI,S 2 _ rfl vv i],.k _ fun x vv i J=>RtW.of_n (Rt.n (ab.out _)),.s (.load 9 (.const (pv A 3))) rfl fun vv i=>by simp[go_sem,exI,S 3 _ rfl vv i],.k _ fun x vv i J=>RtW.of_n (Rt.n (ac.out _)),.s (.load 9 (.const (pv A 4))) rfl fun vv i=>by simp[go_sem,exI,S 4 _ rfl vv i],.k _ fun x vv i J=>RtW.of_n (Rt.n (ae.out _)),.s (.load 9 (.const (pv A 5))) rfl fun vv i=>by simp[go_sem,exI,S 5 _ rfl vv i],.k _ fun x vv i J=>RtW.of_n (Rt.n (af.out _)),.p (fun x j=>match j with|0=>x 4 0|1=>(none,0)|2=>x 8 0|3=>x 12 0|4=>x 16 0|_=>x 20 0) fun x vv i J j=>match j with|0=>J 4 rfl|1=>Sl.zero _ _|2=>J 8 rfl|3=>J 12 rfl|4=>J 16 rfl|_+5=>J 20 rfl,⟨⟩⟩
 case hv=>
  refine .cons (.mk (fun _ _ h=>Value.agg.inj (h 21 rfl)) (fun _ v b H F=>by dsimp only at H ⊢;simp[go_sem,exI,H,F]) (by show 0<7;decide) ⟨fkc,fkc,fkc,fkc,fkn bZ7,fkc,fkc,fkc,fkn bZ7,fkc,fkc,fkc,fkn bZ7,fkc,fkc,fkc,fkn bZ7,fkc,fkc,fkc,fkn bZ7,fkcb bZ7,fka,fku,trivial⟩) .nil
 intro d v1 g1 h4 ag;simp only[fzw,Kw.a,Kw.cb];have B:=h4 21;obtain⟨⟨N5,C⟩,-⟩:(v0.heap.size≤(d 22 0).2∧Vr v1 (d 22 0).2 (crA id (six x0 0 x2 x3 x4 x5) (d 21)))∧True:=ag
 have aj:w.heap.size<(d 22 0).2:=by have:w.heap.size+1≤v0.heap.size:=I.p;omega
 clear h4 N5;replace G:=G.trans g1;replace I:=I.gr g1;have ai:=S 1 _ rfl v1 g1
 rcases h1 with ⟨rfl,h3,hd,hx1⟩|⟨hs1,H1⟩
 ·have V:∀w,(bslS 28 1 #[(0,.int .u32 3)]).run prog w=.ok (.slice (some ⟨w.heap.size,0,none⟩) 1 1) (w.alloc (.cells (nd 1 3) 36)):=fun w=>build1 3 (by decide) w
  go_upto_region 6 with fail
  refine wp_wTS 5 [.c (pv ((d 22 0).2) 1),.c (.slice (d 21 0).1 (dl (x0)) (d 21 0).2),.n (3),.n (x1),.c (pv ((d 22 0).2) 2)] [1,2,3] ⟨.o 28 1 C rfl rfl,.b (.buildSlice 28 1 #[(0,.const (.int .u32 3))]) rfl rfl (fun vv=>by simp[go_sem,exI,V];rfl) (sl_lit 3 (by decide)),.k (fun x =>#[.slice (d 21 0).1 (dl (x0)) (d 21 0).2,.slice (x 2 0).1 (dl (3)) (x 2 0).2]) fun x vv i J=>RtW.of_n (Rt.n (hx1▸rsub_any x0 3 _ _ _ _ _ ((B 0).gr i) (J 2 rfl) (by omega) (by omega))),⟨⟩⟩ (.s 28 (fun x=>pv ((d 22 0).2) 2) (fun x=>.slice (x 3 0).1 (dl (x1)) (x 3 0).2) fun P W i h6=>?_);have D:=(C.gr i).h;have FT:=(C.gr i).f;refine⟨setBlk W ((d 22 0).2) (crA id (six x0 x1 x2 x3 x4 x5) (fun j=>match j with|1=>P 3 0|j=>d 21 j)),by simp[go_sem,exI,D,cell_blk,frz_at _ _ _ FT,setCell_setBlk,crA_1,crA_set],?_⟩;simp only[fzw];have X:Sl W (P 3 0).1 (x1):=h6 3;clear h6;replace G:=G.trans i;replace C:=C.gr i;replace I:=I.gr i;replace B:=fun k=>(B k).gr i;clear i
  go_upto_region 8 with fail
  refine gen_w (fun u=>Gr w u∧Vr u w.heap.size #[.int .i64 0,.slice none 0 0,.slice none 0 0,.slice none 0 0,.slice none 0 0,.slice none 0 0,.slice none 0 0]∧Vr u (d 22 0).2 (crA id (six x0 x1 x2 x3 x4 x5) (fun j=>match j with|1=>P 3 0|j=>d 21 j))∧∀j,Sl u ((fun j=>match j with|1=>P 3 0|j=>d 21 j) j).1 (six x0 x1 x2 x3 x4 x5 j)) ⟨gr_setNew G (by omega),I.other (by omega),C.set (by rw[crA_size];decide) _,fun j=>match j with|0=>Sl.set (B 0) (by rw[D];exact bCr _ _ _)|1=>Sl.set X (by rw[D];exact bCr _ _ _)|2=>Sl.set (B 2) (by rw[D];exact bCr _ _ _)|3=>Sl.set (B 3) (by rw[D];exact bCr _ _ _)|4=>Sl.set (B 4) (by rw[D];exact bCr _ _ _)|j+5=>Sl.set (B (j+5)) (by rw[D];exact bCr _ _ _)⟩ ?_;clear G I C B D FT;rintro u ⟨G,I,C,B⟩;have⟨Y,f2,p2⟩:=I;have⟨h5,f5,p5⟩:=C
  have ak:¬w.heap.size=(d 22 0).2:=by omega
  go_wp2_with fail
  refine bo2 results10 (rd_cell 7 underlying30 rfl (by kernel_rfl) (by rfl) ?_ rfl) ⟨_,rfl,fun j=>Sl.set (B j) (by rw[Y];exact bZ7),gr_setNew G (Nat.le_refl _)⟩;simp[go_sem,Y]
 ·have ah:Hid _:=H1;clear H1
  go_upto_region 7 with fail
  refine wp_wTS 5 [.c (.slice (some ⟨A,0,none⟩) 6 6),.c (pv A 1),.c (.string s1),.n (x1),.c (pv ((d 22 0).2) 2)] [2,3] ⟨.s (.load 9 (.const (pv A 1))) rfl fun vv i=>by simp[go_sem,exI,S 1 _ rfl vv (g1.trans i)],.k _ fun x vv i J=>RtW.of_n (Rt.n (ah.out _)),⟨⟩⟩ (.s 28 (fun x=>pv ((d 22 0).2) 2) (fun x=>.slice (x 3 0).1 (dl (x1)) (x 3 0).2) fun Q W i h7=>?_);have D:=(C.gr i).h;have FT:=(C.gr i).f;refine⟨setBlk W ((d 22 0).2) (crA id (six x0 x1 x2 x3 x4 x5) (fun j=>match j with|1=>Q 3 0|j=>d 21 j)),by simp[go_sem,exI,D,cell_blk,frz_at _ _ _ FT,setCell_setBlk,crA_1,crA_set],?_⟩;simp only[fzw];have Z:Sl W (Q 3 0).1 (x1):=h7 3;clear h7;replace G:=G.trans i;replace C:=C.gr i;replace I:=I.gr i;replace B:=fun k=>(B k).gr i
  go_upto_region 8 with fail
  refine gen_w (fun u=>Gr w u∧Vr u w.heap.size #[.int .i64 0,.slice none 0 0,.slice none 0 0,.slice none 0 0,.slice none 0 0,.slice none 0 0,.slice none 0 0]∧Vr u (d 22 0).2 (crA id (six x0 x1 x2 x3 x4 x5) (fun j=>match j with|1=>Q 3 0|j=>d 21 j))∧∀j,Sl u ((fun j=>match j with|1=>Q 3 0|j=>d 21 j) j).1 (six x0 x1 x2 x3 x4 x5 j)) ⟨gr_setNew G (by omega),I.other (by omega),C.set (by rw[crA_size];decide) _,fun j=>match j with|0=>Sl.set (B 0) (by rw[D];exact bCr _ _ _)|1=>Sl.set Z (by rw[D];exact bCr _ _ _)|2=>Sl.set (B 2) (by rw[D];exact bCr _ _ _)|3=>Sl.set (B 3) (by rw[D];exact bCr _ _ _)|4=>Sl.set (B 4) (by rw[D];exact bCr _ _ _)|j+5=>Sl.set (B (j+5)) (by rw[D];exact bCr _ _ _)⟩ ?_;rintro u ⟨G,I,C,B⟩;have⟨Y,f2,p2⟩:=I;have⟨h5,f5,p5⟩:=C
  go_wp2_with fail
  refine bo2 results10 (rd_cell 7 underlying30 rfl (by kernel_rfl) (by rfl) ?_ rfl) ⟨_,rfl,fun j=>Sl.set (B j) (by rw[Y];exact bZ7),gr_setNew G (Nat.le_refl _)⟩;simp[go_sem,Y]
end
section
theorem hex_of(s:ByteArray)(x:Nat)(h:(Nat.ble s.size 1000&&s.data.toList.all fun c=>hexOk c.toNat)=true)(e:hexN s.data.toList=x)(w:World):Calls prog 36 #[.string s] w (Nm x w):=by
 rw[Bool.and_eq_true]at h;have:=rhex_any s (Nat.le_of_ble_eq_true h.1) (fun c d=>List.all_eq_true.1 h.2 c d) w;rw[e]at this;exact this
def nN(i:Nat):Nat→Nat:=six (pN i) (aN i) (bN i) (oN i) (xN i) (yN i)
def GetQ(i:Nat)(w:World)(e:Ending)(w':World):Prop:=∃q,e=.returned (.tuple #[.agg (crA (i:Int) (nN i) q),.bool true])∧(∀k,Sl w' (q k).1 (nN i k))∧Gr w w'
def GetR(i:Nat)(w:World)(e:Ending)(w':World):Prop:=∃p n q,e=.returned (.tuple #[.agg (cvA (i:Int) p (dl (pN i)) n q),.bool true])∧Sl w' p (pN i)∧Gr w w'
theorem GetQ.R{i:Nat}{w w':World}{e:Ending}(h:GetQ i w e w'):GetR i w e w':=by
 obtain⟨q,d,f,j⟩:=h;rw[crA_cvA]at d;exact⟨_,_,_,d,f 0,j⟩
theorem getq_yes(i:Nat)(h1:1≤i)(h2:i≤15)(w:World):Calls prog 10 #[.int .i64 i] w (GetQ i w):=by
 obtain rfl|rfl|rfl|rfl|rfl|rfl|rfl|rfl|rfl|rfl|rfl|rfl|rfl|rfl|rfl:i=1∨i=2∨i=3∨i=4∨i=5∨i=6∨i=7∨i=8∨i=9∨i=10∨i=11∨i=12∨i=13∨i=14∨i=15:=by omega
 all_goals exact get_of _ (rsN _ 0) (rsN _ 1) (rsN _ 2) (rsN _ 3) (rsN _ 4) (rsN _ 5) (pN _) (aN _) (bN _) (oN _) (xN _) (yN _) (row_yes _ h1 h2) (hex_of _ _ (by decide +kernel) (by decide +kernel)) (hex_of _ _ (by decide +kernel) (by decide +kernel)) (hex_of _ _ (by decide +kernel) (by decide +kernel)) (hex_of _ _ (by decide +kernel) (by decide +kernel)) (hex_of _ _ (by decide +kernel) (by decide +kernel)) (by first|exact .inl ⟨rfl,by decide +kernel,by decide +kernel,by decide +kernel⟩|exact .inr ⟨by decide +kernel,(hex_of _ _ (by decide +kernel) (by decide +kernel))⟩) w
attribute [local go_sem ↓] loadC_is storeC_is buildC_is
attribute [local go_sem] eqSl0 loadC storeC0 buildC0 frz_setBlk blk_setBlk setBlk_setBlk
theorem get_no(x:Int)(h:x<1∨15<x)(w:World):Cg 10 #[.int .i64 x] w (.tuple #[.agg #[.int .i64 0,.slice none 0 0,.slice none 0 0,.slice none 0 0,.slice none 0 0,.slice none 0 0,.slice none 0 0],.bool false]):=by
 have d:Hid _:=row_no x h
 go_enter func10,ntmps10
 go_wp2_with (go_at_call 35;refine hkA d fun g=>?_)
 refine bo2 results10 (rd_cell 7 underlying30 rfl (by kernel_rfl) (by rfl) ?_ rfl) ⟨rfl,grA⟩;simp[go_sem]
end
end
section
def prj(x y z:Nat):Array Value:=nw 9 x++nw 9 y++nw 9 z
section
variable (x y z:Nat)
theorem prj_size:(prj x y z).size=27:=by kernel_rfl
theorem prj_X:(prj x y z).extract 0 9=nw 9 x:=by kernel_rfl
theorem prj_Y:(prj x y z).extract 9 18=nw 9 y:=by kernel_rfl
theorem prj_Z:(prj x y z).extract 18 27=nw 9 z:=by kernel_rfl
theorem prj_one:(prj x y z).all (·.oneCell')=true:=all_app _ _ (all_app _ _ (nw_one _ _) (nw_one _ _)) (nw_one _ _)
end
theorem loadPj_is:LdI 93:=fun _=>rfl
theorem storePj_is:StI 93:=fun _ _=>rfl
theorem zvPj_is:zeroValue 93=zvS 93:=rfl
theorem buildPj_is(p:Array (Nat×Value)):Instr.build 93 p=buildF 93 p:=rfl
theorem zvPj(w:World):(zvS 93).run prog w=.ok (.agg (prj 0 0 0)) w:=by kernel_rfl
theorem buildPj0(w:World):(buildF 93 #[]).run prog w=.ok (.agg (prj 0 0 0)) w:=by kernel_rfl
theorem buildPj1(y:Nat)(w:World):(buildF 93 #[(1,.agg (nw 9 y))]).run prog w=.ok (.agg (prj 0 y 0)) w:=by kernel_rfl
theorem buildPj2(x y:Nat)(w:World):(buildF 93 #[(0,.agg (nw 9 x)),(1,.agg (nw 9 y))]).run prog w=.ok (.agg (prj x y 0)) w:=by kernel_rfl
theorem buildPj3(x y z:Nat)(w:World):(buildF 93 #[(0,.agg (nw 9 x)),(1,.agg (nw 9 y)),(2,.agg (nw 9 z))]).run prog w=.ok (.agg (prj x y z)) w:=by kernel_rfl
theorem loadPj:LdS 93 27:=ldS
theorem loadPartJ(w:World)(b o:Nat)(h:o+27≤(blk w b).size):(loadS 93 (.pointer (some ⟨b,o,none⟩))).run prog w=.ok (.agg ((blk w b).extract o (o+27))) w:=by
 have:=run_loadVar_mid w b o 93 ((blk w b).extract o (o+27)).toList _ (part_range w b o 27) underlying93 rfl (by
  have d:(prog.info? 93).map (·.size)=some 27:=by kernel_rfl
  rw[d];simp
  omega)
 simp only[loadS,Instr.loadAt,Instr.sureAddr,Sem.run_bind,Sem.run_pure,Result.andThen_ok];rw[Array.toArray_toList]at this;exact this
theorem loadJX(w:World)(b:Nat)(hs:(blk w b).size=27):(loadS 25 (.pointer (some ⟨b,0,none⟩))).run prog w=.ok (.agg ((blk w b).extract 0 9)) w:=loadPart w b 0 (by omega)
theorem loadJY(w:World)(b:Nat)(hs:(blk w b).size=27):(loadS 25 (.pointer (some ⟨b,9,none⟩))).run prog w=.ok (.agg ((blk w b).extract 9 18)) w:=loadPart w b 9 (by omega)
theorem loadJZ(w:World)(b:Nat)(hs:(blk w b).size=27):(loadS 25 (.pointer (some ⟨b,18,none⟩))).run prog w=.ok (.agg ((blk w b).extract 18 27)) w:=loadPart w b 18 (by omega)
theorem storePj(x y z:Nat):StS 93 27 (prj x y z):=stS (prj_size x y z) (prj_one x y z)
theorem rd_pj{x y z:Nat}:RdC 93 (prj x y z):=rdC 27 (prj_size x y z)
theorem loadJg_is:LdI 155:=fun _=>rfl
theorem storeJg_is:StI 155:=fun _ _=>rfl
theorem zvJg_is:zeroValue 155=zvS 155:=rfl
theorem buildJg_is(p:Array (Nat×Value)):Instr.build 155 p=buildF 155 p:=rfl
theorem zvJg(w:World):(zvS 155).run prog w=.ok (.agg (cu 0 0 0 0 0 0 0 0 0 false)) w:=by kernel_rfl
theorem buildJg0(w:World):(buildF 155 #[]).run prog w=.ok (.agg (cu 0 0 0 0 0 0 0 0 0 false)) w:=by kernel_rfl
theorem buildJg1(id:Int)(p a b n x y:Nat)(s z:Int)(l:Bool)(w:World):(buildF 155 #[(0,.agg (cu id p a b n x y s z l))]).run prog w=.ok (.agg (cu id p a b n x y s z l)) w:=by kernel_rfl
theorem loadJg:LdS 155 59:=ldS
theorem storeJg(id:Int)(p a bb n x y:Nat)(s z:Int)(l:Bool):StS 155 59 (cu id p a bb n x y s z l):=stS (cu_size id p a bb n x y s z l) (cu_one id p a bb n x y s z l)
theorem rd_jg{id:Int}{p a bb n x y:Nat}{s z:Int}{l:Bool}:RdC 155 (cu id p a bb n x y s z l):=rdC 59 (cu_size id p a bb n x y s z l)
section
variable (x y z x' y' z':Nat)
theorem eqPjIn(d:Nat)(w:World):(Op.equalIn (d+4) 93 (.agg (prj x y z)) (.agg (prj x' y' z'))).run prog w=.ok (eqN 9 x x'&&(eqN 9 y y'&&eqN 9 z z')) w:=by
 have f:prog.underlying 93=some (.struct (prog.fieldsOf 93)):=by kernel_rfl
 rw[run_equalIn_struct w (d+3) 93 _ _ f (by kernel_rfl)];simp[go_sem,Op.eqFields,Program.fieldsOf,part,prj_X,prj_Y,prj_Z,prj_size,eqNatIn]
 cases eqN 9 x x' <;> cases eqN 9 y y' <;> cases eqN 9 z z' <;> simp
theorem nePj(w:World):(binOp .neq 93 (.agg (prj x y z)) (.agg (prj x' y' z'))).run prog w=.ok (.bool (!(eqN 9 x x'&&(eqN 9 y y'&&eqN 9 z z')))) w:=by
 rw[run_neq_struct,show (10000:Nat)=9996+4 from rfl,eqPjIn]
 rfl
end
theorem zPj:0<(prj 0 0 0).size:=by decide +kernel
theorem rowN1(a:Nat)(w:World):(exI (.buildSlice 203 1 #[(0,.const (.agg (nw 9 a)))])).run prog w=.ok (.value (.slice (some ⟨w.heap.size,0,none⟩) 1 1)) (w.alloc (.cells (nw 9 a) 25)):=by kernel_rfl
theorem rowN3(a b c:Nat)(w:World):(exI (.buildSlice 203 3 #[(0,.const (.agg (nw 9 a))),(1,.const (.agg (nw 9 b))),(2,.const (.agg (nw 9 c)))])).run prog w=.ok (.value (.slice (some ⟨w.heap.size,0,none⟩) 3 3)) (w.alloc (.cells (nw 9 a++nw 9 b++nw 9 c) 25)):=by kernel_rfl
theorem rowJ1(x y z:Nat)(w:World):(exI (.buildSlice 177 1 #[(0,.const (.agg (prj x y z)))])).run prog w=.ok (.value (.slice (some ⟨w.heap.size,0,none⟩) 1 1)) (w.alloc (.cells (prj x y z) 93)):=by kernel_rfl
theorem rowJ2(x y z x' y' z':Nat)(w:World):(exI (.buildSlice 177 2 #[(0,.const (.agg (prj x y z))),(1,.const (.agg (prj x' y' z')))])).run prog w=.ok (.value (.slice (some ⟨w.heap.size,0,none⟩) 2 2)) (w.alloc (.cells (prj x y z++prj x' y' z') 93)):=by kernel_rfl
abbrev uz11:=And.intro @loadJg_is<|And.intro @storeJg_is<|And.intro @zvJg_is<|And.intro @buildJg_is<|And.intro @loadPj_is<|And.intro @storePj_is<|And.intro @zvPj_is<|And.intro @buildPj_is<|And.intro @zvCu_is<|And.intro @storeCu_is<|And.intro @loadCu_is<|And.intro @loadPn_is<|And.intro @storePn_is<|And.intro @zvPn_is<|And.intro @buildCu_is @buildPn_is
abbrev uz12:=And.intro @loadJg<|And.intro @storeJg<|And.intro @zvJg<|And.intro @buildJg0<|And.intro @buildJg1<|And.intro @loadPj<|And.intro @storePj<|And.intro @zvPj<|And.intro @buildPj0<|And.intro @buildPj1<|And.intro @buildPj2<|And.intro @buildPj3<|And.intro @loadJX<|And.intro @loadJY<|And.intro @loadJZ<|And.intro @prj_size<|And.intro @prj_X<|And.intro @prj_Y<|And.intro @prj_Z<|And.intro @buildPn0<|And.intro @zvCu<|And.intro @storeCu<|And.intro @loadCu<|And.intro @loadPn<|And.intro @storePn<|And.intro @zvPn<|And.intro @loadCP<|And.intro @loadCA<|And.intro @loadCB<|And.intro @loadPX<|And.intro @loadPY<|And.intro @buildPnI<|And.intro @buildPn2<|And.intro @cu_size<|And.intro @cu_P<|And.intro @cu_A<|And.intro @cu_B<|And.intro @pnt_size<|And.intro @pnt_X<|And.intro @pnt_Y<|And.intro @frz_setBlk<|And.intro @blk_setBlk<|And.intro @setBlk_setBlk @blk_other
abbrev uz13:=And.intro @loadPj_is<|And.intro @storePj_is<|And.intro @zvPj_is @buildPj_is
abbrev uz14:=And.intro @loadPj<|And.intro @storePj<|And.intro @zvPj<|And.intro @buildPj0<|And.intro @buildPj1<|And.intro @buildPj2<|And.intro @buildPj3<|And.intro @loadJX<|And.intro @loadJY<|And.intro @loadJZ<|And.intro @prj_size<|And.intro @prj_X<|And.intro @prj_Y @prj_Z
end
section
def chkY(l:List Oper)(kp:List Kw)(rw:List Nat)(st:List Ent):Bool:=
 ((List.range l.length).all fun j=>rw.contains j || (st.map Ent.j).contains j || (kW kp j).cst != 0)&&(rw.all fun j => !(st.map Ent.j).contains j && !(st.map Ent.i).contains j)
theorem wp_y{P:Program}{l:List Oper}{Q:Exit→Act→World→Prop}{a0:Act}{W:World}(d:Bool){id:Nat}(kp:List Kw)(ex rw:List Nat)(st:List Ent)(ho:ObsW P l kp a0 W ex)(hr:ForY (ObR P l kp a0) rw)(hv:ForY (ObY P l kp a0) st)(hfin:∀x v,Gr W v→(∀j,(kW kp j).ok (x j) v)→NewV W x v st→Q .normal (FW l kp a0 x) v)(hm:(!d || P.follows .mixedOrders)=true:=by kernel_rfl)(hk:(chkW l kp (ExV (ex++rw) st) l.length&&chkV st&&chkY l kp rw st)=true:=by kernel_rfl)(hp:pureL P l kp a0 (ExV (ex++rw) st) l.length=pureR kp (ExV (ex++rw) st) l.length:=by kernel_rfl):(Code.region id l.toArray d).wp P Q a0 W:=by
 rw[Bool.and_eq_true]at hk;obtain⟨hk,D⟩:=hk;simp only[chkY,Bool.and_eq_true,List.all_eq_true,Bool.not_eq_true',List.mem_range]at D;obtain⟨q,A⟩:=D
 refine wp_g d kp ex rw st ho hr (fun e i=>hv.at e i) (fun e i j B=>?_) (fun j B e i=>?_) hfin hm hk hp
 ·have f:=q j B;simp only[Bool.or_eq_true,bne_iff_ne,ne_eq]at f
  rcases f with (f|f)|f
  ·exact .inl (List.contains_iff_mem.1 f)
  ·obtain⟨I,C,rfl⟩:=List.mem_map.1 (List.contains_iff_mem.1 f);rw[(hv.at I C).ka];exact .inr fka
  ·exact .inr fun y w b d _ _=>(kW kp j).hc f _ _
 ·obtain⟨G,H⟩:=A j B
  refine⟨fun h=>?_,fun h=>?_⟩
  ·rw[List.contains_iff_mem.2 (h▸List.mem_map_of_mem i)]at G
   cases G
  ·rw[List.contains_iff_mem.2 (h▸List.mem_map_of_mem i)]at H
   cases H
end
end Go.Proofs.YtffhepbppiocbadGreat
namespace Go.Proofs.YtffhepbppiocbadGreat.EC
section
variable {p:Nat} [NeZero p]
/-- A power. -/
def fpw(r:Fin p):Nat→Fin p
 | 0=>1
 | n+1=>fpw r n*r
theorem fpw_add(r:Fin p)(m:Nat):∀n,fpw r (m+n)=fpw r m*fpw r n
 | 0=>by show fpw r m=fpw r m*1;grobner
 | n+1=>by
  show fpw r (m+n)*r=fpw r m*(fpw r n*r)
  rw[fpw_add r m n]
  grobner
theorem fpw_val(r:Fin p):∀n,(fpw r n).val=r.val^n%p
 | 0=>rfl
 | n+1=>by
  show (fpw r n*r).val=_
  rw[Fin.val_mul,fpw_val r n,Nat.pow_succ,Nat.mul_mod,Nat.mod_mod,←Nat.mul_mod]
theorem fpw_p(hp:Prm p)(r:Fin p):fpw r p=r:=by
 apply Fin.ext
 rw[fpw_val]
 by_cases h:p∣r.val
 ·grind [Nat.eq_zero_of_dvd_of_lt,Nat.zero_pow,Nat.zero_mod]
 ·have d:=hp.fermat h;have:=hp.1
  have e:r.val^p=r.val^(p-1)*r.val:=by rw[←Nat.pow_succ,show Nat.succ (p-1)=p by omega]
  rw[e,Nat.mul_mod,d,Nat.one_mul,Nat.mod_mod,Nat.mod_eq_of_lt r.isLt]
/-- x to the n, modulo the cubic: from the highest bit down. -/
def qck(p A B n:Nat)(fin:Nat→Nat→Nat→Bool):Nat→Nat→Nat→Nat→Bool
 | 0,a,b,c=>fin a b c
 | k+1,a,b,c=>
  frc (ad p (mu p b c) (mu p b c)) fun u=>frc (mu p c c) fun v=>frc (su p (mu p a a) (mu p B u)) fun a1=>frc (su p (su p (ad p (mu p a b) (mu p a b)) (mu p A u)) (mu p B v)) fun b1=>
  frc (su p (ad p (ad p (mu p a c) (mu p a c)) (mu p b b)) (mu p A v)) fun c1=>
  bif n.testBit k then frc (su p 0 (mu p B c1)) fun a2=>frc (su p a1 (mu p A c1)) fun b2=>qck p A B n fin k a2 b2 b1
  else qck p A B n fin k a1 b1 c1
theorem qck_is{A B r:Fin p}(hr:B = -(r*r*r)-A*r)(n:Nat)(fin:Nat→Nat→Nat→Bool):∀(k:Nat) (a b c:Fin p),a+b*r+c*(r*r)=fpw r (n/2^k)→qck p A.val B.val n fin k a.val b.val c.val=true →
 ∃a' b' c':Fin p,fin a'.val b'.val c'.val=true∧a'+b'*r+c'*(r*r)=fpw r n
 | 0,a,b,c,h,hj=>⟨a,b,c,hj,by rw[Nat.pow_zero,Nat.div_one]at h;exact h⟩
 | k+1,a,b,c,h,hj=>by
  have hd:∀b:Nat,n/2^k%2=b→n/2^k=n/2^(k+1)+n/2^(k+1)+b:=fun b d=>by
   rw[Nat.pow_succ,←Nat.div_div_eq_div_mul];omega
  have i:=(Fin.val_zero p).symm;simp only[qck,frc_is]at hj;rw[i]at hj;simp only[v_mu,v_ad,v_su]at hj
  have f:(a*a-B*(b*c+b*c))+(a*b+a*b-A*(b*c+b*c)-B*(c*c))*r+(a*c+a*c+b*b-A*(c*c))*(r*r)=fpw r (n/2^(k+1)+n/2^(k+1)):=by
   rw[fpw_add,←h];subst hr
   grobner
  rw[Nat.testBit_eq_decide_div_mod_eq]at hj
  by_cases d:n/2^k%2=1
  ·rw[decide_eq_true d,cond_true]at hj;refine qck_is hr n fin k _ _ _ ?_ hj;rw[hd 1 d]
   show _=fpw r (n/2^(k+1)+n/2^(k+1))*r
   rw[←f];subst hr
   grobner
  ·rw[decide_eq_false d,cond_false]at hj;refine qck_is hr n fin k _ _ _ ?_ hj;rw[hd 0 (by omega)];exact f
/-- What both the cubic and g0 + g1 x + g2 x x divide, if they have a root in common. -/
def det(p A B a b c:Nat):Nat:=
 let m:=su p a (mu p A c)
 let q:=ad p (mu p B c) (mu p A b)
 su p (ad p (mu p a (ad p (mu p m m) (mu p q b))) (mu p (mu p B c) (ad p (mu p b m) (mu p q c)))) (mu p (mu p B b) (su p (mu p b b) (mu p m c)))
def noR(p A B a b c:Nat):Bool := !Nat.beq (det p A B a (su p b (1%p)) c) 0
theorem no_root(hp:Prm p){A B:Fin p}(k:Nat)(hk:p/2^k=1)(h:qck p A.val B.val p (noR p A.val B.val) k 0 (1%p) 0=true)(r:Fin p):r*r*r+A*r+B≠0:=fun e=>by
 have i:B = -(r*r*r)-A*r:=by grobner
 have j:=(Fin.val_zero p).symm;have q:1%p=(1:Fin p).val:=rfl
 have d:(0:Fin p)+1*r+0*(r*r)=fpw r (p/2^k):=by
  rw[hk]
  show _=1*r
  grobner
 rw[q]at h;have D:=j▸h;obtain⟨a,b,c,x,C⟩:=qck_is i p _ k 0 1 0 d D;rw[fpw_p hp]at C
 have f:¬det p A.val B.val a.val (su p b.val (1%p)) c.val=0:=fun e=>by
  rw[noR,e]at x
  cases x
 rw[q]at f;simp only[det,v_mu,v_ad,v_su]at f;refine f (j▸congrArg Fin.val (?_:_=(0:Fin p)))
 have G:a=a+b*r+c*(r*r)-b*r-c*(r*r):=by clear e i h D x C f j q d;grobner
 rw[C]at G;subst G i
 grobner
end
set_option maxRecDepth 100000
theorem nrt_1:qck (pN 1) (aN 1) (bN 1) (pN 1) (noR (pN 1) (aN 1) (bN 1)) 191 0 (1%pN 1) 0=true:=by decide +kernel
theorem ptop_1:pN 1/2^191=1:=by decide +kernel
theorem nrt_2:qck (pN 2) (aN 2) (bN 2) (pN 2) (noR (pN 2) (aN 2) (bN 2)) 223 0 (1%pN 2) 0=true:=by decide +kernel
theorem ptop_2:pN 2/2^223=1:=by decide +kernel
theorem nrt_3:qck (pN 3) (aN 3) (bN 3) (pN 3) (noR (pN 3) (aN 3) (bN 3)) 255 0 (1%pN 3) 0=true:=by decide +kernel
theorem ptop_3:pN 3/2^255=1:=by decide +kernel
theorem nrt_4:qck (pN 4) (aN 4) (bN 4) (pN 4) (noR (pN 4) (aN 4) (bN 4)) 383 0 (1%pN 4) 0=true:=by decide +kernel
theorem ptop_4:pN 4/2^383=1:=by decide +kernel
theorem nrt_5:qck (pN 5) (aN 5) (bN 5) (pN 5) (noR (pN 5) (aN 5) (bN 5)) 520 0 (1%pN 5) 0=true:=by decide +kernel
theorem ptop_5:pN 5/2^520=1:=by decide +kernel
theorem nrt_6:qck (pN 6) (aN 6) (bN 6) (pN 6) (noR (pN 6) (aN 6) (bN 6)) 255 0 (1%pN 6) 0=true:=by decide +kernel
theorem ptop_6:pN 6/2^255=1:=by decide +kernel
theorem nrt_7:qck (pN 7) (aN 7) (bN 7) (pN 7) (noR (pN 7) (aN 7) (bN 7)) 159 0 (1%pN 7) 0=true:=by decide +kernel
theorem ptop_7:pN 7/2^159=1:=by decide +kernel
theorem nrt_8:qck (pN 8) (aN 8) (bN 8) (pN 8) (noR (pN 8) (aN 8) (bN 8)) 223 0 (1%pN 8) 0=true:=by decide +kernel
theorem ptop_8:pN 8/2^223=1:=by decide +kernel
theorem nrt_9:qck (pN 9) (aN 9) (bN 9) (pN 9) (noR (pN 9) (aN 9) (bN 9)) 255 0 (1%pN 9) 0=true:=by decide +kernel
theorem ptop_9:pN 9/2^255=1:=by decide +kernel
theorem nrt_10:qck (pN 10) (aN 10) (bN 10) (pN 10) (noR (pN 10) (aN 10) (bN 10)) 319 0 (1%pN 10) 0=true:=by decide +kernel
theorem ptop_10:pN 10/2^319=1:=by decide +kernel
theorem nrt_11:qck (pN 11) (aN 11) (bN 11) (pN 11) (noR (pN 11) (aN 11) (bN 11)) 383 0 (1%pN 11) 0=true:=by decide +kernel
theorem ptop_11:pN 11/2^383=1:=by decide +kernel
theorem nrt_12:qck (pN 12) (aN 12) (bN 12) (pN 12) (noR (pN 12) (aN 12) (bN 12)) 511 0 (1%pN 12) 0=true:=by decide +kernel
theorem ptop_12:pN 12/2^511=1:=by decide +kernel
theorem nrt_13:qck (pN 13) (aN 13) (bN 13) (pN 13) (noR (pN 13) (aN 13) (bN 13)) 7 0 (1%pN 13) 0=true:=by decide +kernel
theorem ptop_13:pN 13/2^7=1:=by decide +kernel
theorem nrt_14:qck (pN 14) (aN 14) (bN 14) (pN 14) (noR (pN 14) (aN 14) (bN 14)) 7 0 (1%pN 14) 0=true:=by decide +kernel
theorem ptop_14:pN 14/2^7=1:=by decide +kernel
theorem nrt_15:qck (pN 15) (aN 15) (bN 15) (pN 15) (noR (pN 15) (aN 15) (bN 15)) 7 0 (1%pN 15) 0=true:=by decide +kernel
theorem ptop_15:pN 15/2^7=1:=by decide +kernel
/-- No point has a Y of 0. -/
theorem no_two(i:Nat)(h1:1≤i)(h2:i≤15)[NeZero (pN i)](x:Fin (pN i)):x*x*x+aF i h1 h2*x+bF i h1 h2≠0:=by
 have d:=prm_pN i h1 h2
 obtain rfl|rfl|rfl|rfl|rfl|rfl|rfl|rfl|rfl|rfl|rfl|rfl|rfl|rfl|rfl:i=1∨i=2∨i=3∨i=4∨i=5∨i=6∨i=7∨i=8∨i=9∨i=10∨i=11∨i=12∨i=13∨i=14∨i=15:=by omega
 ·exact no_root (A:=aF 1 h1 h2) (B:=bF 1 h1 h2) d 191 ptop_1 nrt_1 x
 ·exact no_root (A:=aF 2 h1 h2) (B:=bF 2 h1 h2) d 223 ptop_2 nrt_2 x
 ·exact no_root (A:=aF 3 h1 h2) (B:=bF 3 h1 h2) d 255 ptop_3 nrt_3 x
 ·exact no_root (A:=aF 4 h1 h2) (B:=bF 4 h1 h2) d 383 ptop_4 nrt_4 x
 ·exact no_root (A:=aF 5 h1 h2) (B:=bF 5 h1 h2) d 520 ptop_5 nrt_5 x
 ·exact no_root (A:=aF 6 h1 h2) (B:=bF 6 h1 h2) d 255 ptop_6 nrt_6 x
 ·exact no_root (A:=aF 7 h1 h2) (B:=bF 7 h1 h2) d 159 ptop_7 nrt_7 x
 ·exact no_root (A:=aF 8 h1 h2) (B:=bF 8 h1 h2) d 223 ptop_8 nrt_8 x
 ·exact no_root (A:=aF 9 h1 h2) (B:=bF 9 h1 h2) d 255 ptop_9 nrt_9 x
 ·exact no_root (A:=aF 10 h1 h2) (B:=bF 10 h1 h2) d 319 ptop_10 nrt_10 x
 ·exact no_root (A:=aF 11 h1 h2) (B:=bF 11 h1 h2) d 383 ptop_11 nrt_11 x
 ·exact no_root (A:=aF 12 h1 h2) (B:=bF 12 h1 h2) d 511 ptop_12 nrt_12 x
 ·exact no_root (A:=aF 13 h1 h2) (B:=bF 13 h1 h2) d 7 ptop_13 nrt_13 x
 ·exact no_root (A:=aF 14 h1 h2) (B:=bF 14 h1 h2) d 7 ptop_14 nrt_14 x
 ·exact no_root d 7 ptop_15 nrt_15 x
end Go.Proofs.YtffhepbppiocbadGreat.EC
namespace Go.Proofs.YtffhepbppiocbadGreat
open Go.RowKit
set_option maxRecDepth 100000
set_option maxHeartbeats 8000000
section
theorem pN_dl(i:Nat)(h1:1≤i)(h2:i≤15):dl (pN i)≤18:=by
 have h:=pN_bd i h1 h2;exact(dl_le _ 18).2 (by rw[pq_M];omega)
theorem dl_M(a:Nat)(ha:a<M):dl a≤18:=(dl_le _ 18).2 (by rw[pq_M];exact ha)
def idx(id:Int):Nat:=(IntKind.u64.wrap id).toNat%15+1
theorem idx_bd(id:Int):1≤idx id∧idx id≤15:=by unfold idx;omega
theorem idx_conv(id:Int):∃u:Nat,IntKind.u64.wrap id=(u:Int)∧(u:Int)<18446744073709551616∧(u:Int)%15+1=(idx id:Int):=by
 have h:0≤IntKind.u64.wrap id∧IntKind.u64.wrap id<18446744073709551616:=by rw[IntKind.wrap_u64];omega
 refine⟨(IntKind.u64.wrap id).toNat,?_,?_,?_⟩
 ·omega
 ·omega
 ·unfold idx;omega
end
end Go.Proofs.YtffhepbppiocbadGreat