import Derived.Test.YtffhepbppiocbaaXALCS
namespace Go.Proofs.Ytffhepbppiocbaa
open Go.RowKit Go.Proofs.Try
set_option maxRecDepth 100000
set_option maxHeartbeats 8000000
section
attribute [local go_sem ↓] uz1
attribute [local go_sem] uz2
section
attribute [local go_sem] uz7
attribute [local go_sem ↓] uz10 Go.wp_at_zero Go.wp_at_succ
attribute [local go_sem] uz11
theorem lcsound_any(id:Int)(w:World):Cg 5 #[.int .i64 id] w (.bool true):=by
 obtain⟨u,hu,aA,hk⟩:=idx_conv id;have ak:=idx_bd id;obtain⟨k,ao⟩:=exl (idx id);rw[ao]at hk ak;obtain⟨K,L⟩:=ak
 have u0:(0:Int)≤u:=by omega
 have aB:(1:Int)+u%15=k:=by omega
 have aC:IntKind.i64.wrap ((u:Int)%15)=(u:Int)%15:=by rw[IntKind.wrap_i64];omega
 have aD:IntKind.u64.wrap ((u:Int)%15)=(u:Int)%15:=by rw[IntKind.wrap_u64];omega
 have aE:(u:Int).tmod 15=(u:Int)%15:=by rw[Int.tmod_eq_emod_of_nonneg (by omega)]
 have k0:(1:Int)≤k:=by omega
 have k1:(k:Int)≤15:=by omega
 have aG:id%18446744073709551616=(u:Int):=by rw[←hu,IntKind.wrap_u64]
 clear ao hk;have HG:Hid (∀w,Cg 9 #[.int .i64 k] w (.tuple #[.agg (cuK k),.int .i64 0])):=fun w=>get13_yes k K L w;have au:Hid (∀w,Calls prog 10 #[.int .i64 k] w (GetQ k w)):=fun w=>getq_yes k K L w;have av:Hid (∀w,Cg 14 #[] w (.bool true)):=fun w=>awake13_any w;have aw:=gN_on k K L;have ap:∀w,(bslS 34 1 #[(0,.int .u32 1)]).run prog w=.ok (.slice (some ⟨w.heap.size,0,none⟩) 1 1) (w.alloc (.cells (nd 1 1) 55)):=fun w=>build1 1 (by decide) w
 go_enter func5,ntmps5
 go_upto_region 6 with (first
  | (go_at_call 14;refine(av.out _).mono ?_;rintro e WA ⟨rfl,GA⟩)
  | (go_at_call 9;refine(HG.out _).mono ?_;rintro e WB ⟨rfl,GB⟩)
  | (go_at_call 10;refine(au.out _).mono ?_;rintro e W1 ⟨Q,rfl,D,G1⟩))
 obtain⟨e6,af⟩:=exl (W1.heap.size);simp only[af];obtain⟨S,ag⟩:=exl (WB.heap.size);simp only[ag]
 refine gen_w (fun v=>Gr w v∧Vr v S (cuK k)∧Vr v e6 (crA (k:Int) (nN k) Q)∧∀j,Sl v (Q j).1 (nN k j)) ?_ ?_
 ·subst af ag;exact⟨(((GA.trans GB).alloc _).trans G1).alloc _,((Vr.new WB _ _).gr G1).gr ((Gr.refl _).alloc _),Vr.new _ _ _,fun j=>(D j).gr ((Gr.refl _).alloc _)⟩
 clear D G1 af ag GA GB;rintro v0 ⟨G,B,H,D⟩;refine wp_wS [.O,.O,.F,.F,.T,.F,.F,.F,.c (.int .i64 k),.c (pv S 37),.c (.agg (pnt (xN k) (yN k) false)),.T,.F,.F,.F,.c (pv S 37),.c (pv S 55),.F,.F] [1,10,11,17] ⟨.y (num_any _),.g 27 37 B rfl,.z (aw▸on13_yes k K L _ _ false (nN_M k K L).2.2.2.2.1 (nN_M k K L).2.2.2.2.2),.o 4 55 B rfl (by exact cu_55 _ _ _ _ _ _ _ _ _ _),⟨⟩⟩ fun aH v1 q h6=>?_;simp only[fzw];clear h6;replace G:=G.trans q;replace B:=B.gr q;replace H:=H.gr q;replace D:=fun k=>(D k).gr q;clear q;have ab:S+1≤v1.heap.size:=B.p;have ac:e6+1≤v1.heap.size:=H.p;have ax:w.heap.size≤v1.heap.size:=G.below.size
 go_upto_region 8 with fail
 refine wp_wT 9 [.c (.agg (crA (k:Int) (nN k) Q)),.c (pv S 28),.N (oN k),.n (oN k),.c (pv S 37),.c (.agg (pnt (xN k) (yN k) false)),.pt (xN k) (yN k) false,.pt (0) (0) true,.v (v1.heap.size) (ptA none 0 0 none 0 0 false)] [0,2,3,5,6,7,8] ⟨.g 36 0 H rfl,.g 25 28 B rfl,.k _ fun l U q C=>RtW.of_n (fm_any (nN_M k K L).2.2.2.1),.g 27 37 B rfl,.k _ fun l U q C=>RtW.of_pt (rin_any _ _ false (nN_M k K L).2.2.2.2.1 (nN_M k K L).2.2.2.2.2 _),.k (fun l =>#[.agg (crA (k:Int) (nN k) Q),.slice (l 3 0).1 (dl (oN k)) (l 3 0).2,.agg (ptA (l 6 0).1 (xN k) (l 6 0).2 (l 6 1).1 (yN k) (l 6 1).2 false)]) fun l U q C=>RtW.of_pt (rtimes_N k K L Q _ _ _ _ _ _ _ (fun j=>(D j).gr q) (C 6 rfl).1 (C 6 rfl).2 (C 3 rfl)),.a 49 rfl,⟨⟩⟩ (.s 49 (fun l=>pv ((l 8 0).2) 0) (fun l=>.agg (ptA (l 7 0).1 (0) (l 7 0).2 (l 7 1).1 (0) (l 7 1).2 true)) fun d v2 q h8=>?_);have V:=(h8 8).2.h;have FT:=(h8 8).2.f;refine⟨setBlk v2 ((d 8 0).2) (ptA (d 7 0).1 (0) (d 7 0).2 (d 7 1).1 (0) (d 7 1).2 true),by simp[go_sem,exI,V,FT],?_⟩;simp only[fzw];obtain⟨x,A⟩:Sl v2 (d 7 0).1 (0)∧Sl v2 (d 7 1).1 (0):=h8 7;obtain⟨ae,aq⟩:v1.heap.size≤(d 8 0).2∧Vr v2 (d 8 0).2 (ptA none 0 0 none 0 0 false):=h8 8;clear h8;replace G:=G.trans q;replace B:=B.gr q;replace H:=H.gr q;replace D:=fun k=>(D k).gr q;clear q
 go_upto_region 9 with fail
 have W:(d 8 0).2≠S:=by have:=ab;have:=ae;omega
 have X:(d 8 0).2≠e6:=by have:=ac;have:=ae;omega
 have ah:w.heap.size≤(d 8 0).2:=by have:=ae;omega
 refine gen_w (fun u=>Gr w u∧Vr u (S) (cuK k)∧Vr u (e6) (crA (k:Int) (nN k) Q)∧Vr u ((d 8 0).2) (ptA (d 7 0).1 (0) (d 7 0).2 (d 7 1).1 (0) (d 7 1).2 true)∧(∀j,Sl u (Q j).1 (nN k j))∧Sl u (d 7 0).1 (0)∧Sl u (d 7 1).1 (0)) ⟨gr_setNew G ah,B.other W,H.other X,aq.set (by rw[ptA_size];decide) _,fun j=>Sl.set (D j) (by rw[V];exact ptA_no _ _ _ _ _ _ _),Sl.set x (by rw[V];exact ptA_no _ _ _ _ _ _ _),Sl.set A (by rw[V];exact ptA_no _ _ _ _ _ _ _)⟩ ?_;clear V FT G D B H x A;rintro u8 ⟨G,B,H,c8,D,x,A⟩;have ab:S+1≤u8.heap.size:=B.p;have ac:e6+1≤u8.heap.size:=H.p;have ar:(d 8 0).2+1≤u8.heap.size:=c8.p;have ax:w.heap.size≤u8.heap.size:=G.below.size;refine wp_wT 11 [.c (.agg (crA (k:Int) (nN k) Q)),.c (pv S 28),.N (oN k),.n (oN k),.n (1),.n (oN k-1),.c (pv S 37),.c (.agg (pnt (xN k) (yN k) false)),.pt (xN k) (yN k) false,.pt (xN k) (pN k-yN k) false,.v (u8.heap.size) (ptA none 0 0 none 0 0 false)] [0,2,3,4,5,7,8,9,10] ⟨.g 36 0 H rfl,.g 25 28 B rfl,.k _ fun l U q C=>RtW.of_n (fm_any (nN_M k K L).2.2.2.1),.b (.buildSlice 34 1 #[(0,.const (.int .u32 1))]) rfl rfl (fun U=>by simp[go_sem,exI,ap];rfl) (sl_lit 1 (by decide)),.k (fun l =>#[.slice (l 3 0).1 (dl (oN k)) (l 3 0).2,.slice (l 4 0).1 (dl (1)) (l 4 0).2]) fun l U q C=>RtW.of_n (sb_any (C 3 rfl) (C 4 rfl) (by have:=oN_dl k;omega) (by have:=EC.oN_pos k K L;omega) rfl),.g 27 37 B rfl,.k _ fun l U q C=>RtW.of_pt (rin_any _ _ false (nN_M k K L).2.2.2.2.1 (nN_M k K L).2.2.2.2.2 _),.k (fun l =>#[.agg (crA (k:Int) (nN k) Q),.slice (l 5 0).1 (dl (oN k-1)) (l 5 0).2,.agg (ptA (l 8 0).1 (xN k) (l 8 0).2 (l 8 1).1 (yN k) (l 8 1).2 false)]) fun l U q C=>RtW.of_pt (rtimes_N1 k K L Q _ _ _ _ _ _ _ (fun j=>(D j).gr q) (C 8 rfl).1 (C 8 rfl).2 (C 5 rfl)),.a 49 rfl,⟨⟩⟩ (.s 49 (fun l=>pv ((l 10 0).2) 0) (fun l=>.agg (ptA (l 9 0).1 (xN k) (l 9 0).2 (l 9 1).1 (pN k-yN k) (l 9 1).2 false)) fun i v3 q h9=>?_);have V:=(h9 10).2.h;have FT:=(h9 10).2.f;refine⟨setBlk v3 ((i 10 0).2) (ptA (i 9 0).1 (xN k) (i 9 0).2 (i 9 1).1 (pN k-yN k) (i 9 1).2 false),by simp[go_sem,exI,V,FT],?_⟩;simp only[fzw];obtain⟨I,J⟩:Sl v3 (i 9 0).1 (xN k)∧Sl v3 (i 9 1).1 (pN k-yN k):=h9 9;obtain⟨P,ai⟩:u8.heap.size≤(i 10 0).2∧Vr v3 (i 10 0).2 (ptA none 0 0 none 0 0 false):=h9 10;clear h9;replace G:=G.trans q;replace B:=B.gr q;replace H:=H.gr q;replace c8:=c8.gr q;replace D:=fun k=>(D k).gr q;replace x:=x.gr q;replace A:=A.gr q;clear q
 go_upto_region 10 with fail
 have Y:(i 10 0).2≠S:=by have:=ab;have:=P;omega
 have Z:(i 10 0).2≠e6:=by have:=ac;have:=P;omega
 have aa:(i 10 0).2≠(d 8 0).2:=by have:=ar;have:=P;omega
 have aj:w.heap.size≤(i 10 0).2:=by have:=P;omega
 refine gen_w (fun u=>Gr w u∧Vr u (S) (cuK k)∧Vr u (e6) (crA (k:Int) (nN k) Q)∧Vr u ((d 8 0).2) (ptA (d 7 0).1 (0) (d 7 0).2 (d 7 1).1 (0) (d 7 1).2 true)∧Vr u ((i 10 0).2) (ptA (i 9 0).1 (xN k) (i 9 0).2 (i 9 1).1 (pN k-yN k) (i 9 1).2 false)∧(∀j,Sl u (Q j).1 (nN k j))∧Sl u (d 7 0).1 (0)∧Sl u (d 7 1).1 (0)∧Sl u (i 9 0).1 (xN k)∧Sl u (i 9 1).1 (pN k-yN k)) ⟨gr_setNew G aj,B.other Y,H.other Z,c8.other aa,ai.set (by rw[ptA_size];decide) _,fun j=>Sl.set (D j) (by rw[V];exact ptA_no _ _ _ _ _ _ _),Sl.set x (by rw[V];exact ptA_no _ _ _ _ _ _ _),Sl.set A (by rw[V];exact ptA_no _ _ _ _ _ _ _),Sl.set I (by rw[V];exact ptA_no _ _ _ _ _ _ _),Sl.set J (by rw[V];exact ptA_no _ _ _ _ _ _ _)⟩ ?_;clear V FT G D B H c8 x A I J;rintro u9 ⟨G,B,H,c8,c9,D,x,A,I,J⟩;refine wp_w [.c (pv ((d 8 0).2) 2),.T,.T,.c (.agg (ptA (i 9 0).1 (xN k) (i 9 0).2 (i 9 1).1 (pN k-yN k) (i 9 1).2 false)),.c (.agg (pnt (xN k) (pN k-yN k) false)),.c (.agg (crA (k:Int) (nN k) Q)),.c (pv S 37),.c (.agg (pnt (xN k) (yN k) false)),.pt (xN k) (yN k) false,.pt (xN k) (pN k-yN k) false,.c (.agg (pnt (xN k) (pN k-yN k) false)),.T,.T,.T,.c (pv S 57),.c (.int .i64 (szN k)),.c (.agg (crA (k:Int) (nN k) Q)),.c (.int .i64 (szN k:Int)),.T,.T,.T] [1,3,4,5,7,8,9,10,11,15,16,17,18] ⟨.o 4 2 c8 rfl rfl,.g 49 0 c9 rfl,.k (fun l =>#[.agg (ptA (i 9 0).1 (xN k) (i 9 0).2 (i 9 1).1 (pN k-yN k) (i 9 1).2 false)]) fun l U q C=>RtW.of_c (Rt.c (rout_any _ _ _ _ _ _ _ _ (I.gr q) (J.gr q))),.g 36 0 H rfl,.g 27 37 B rfl,.k _ fun l U q C=>RtW.of_pt (rin_any _ _ false (nN_M k K L).2.2.2.2.1 (nN_M k K L).2.2.2.2.2 _),.k (fun l =>#[.agg (crA (k:Int) (nN k) Q),.agg (ptA (l 8 0).1 (xN k) (l 8 0).2 (l 8 1).1 (yN k) (l 8 1).2 false)]) fun l U q C=>RtW.of_pt (rneg_G k K L Q _ _ _ _ _ (fun j=>(D j).gr q) (C 8 rfl).1 (C 8 rfl).2),.k (fun l =>#[.agg (ptA (l 9 0).1 (xN k) (l 9 0).2 (l 9 1).1 (pN k-yN k) (l 9 1).2 false)]) fun l U q C=>RtW.of_c (Rt.c (rout_any _ _ _ _ _ _ _ _ (C 9 rfl).1 (C 9 rfl).2)),.s (.binOp .eql 27 (.const (.agg (pnt (xN k) (pN k-yN k) false))) (.const (.agg (pnt (xN k) (pN k-yN k) false))) 27) rfl fun U q=>by simp[go_sem,exI,eqPn,eqN_self],.o 3 57 B rfl (by exact cu_57 _ _ _ _ _ _ _ _ _ _),.g 36 0 H rfl,.k _ fun l U q C=>RtW.of_c (rsize_yes k K L Q _ (fun j=>(D j).gr q)),.s (.binOp .eql 3 (.const (.int .i64 (szN k))) (.const (.int .i64 (szN k:Int))) 3) rfl fun U q=>by simp[go_sem,exI],⟨⟩⟩ fun az v4 q ay=>?_;simp only[fzw];clear ay;replace G:=G.trans q;replace B:=B.gr q;replace H:=H.gr q;replace c8:=c8.gr q;replace c9:=c9.gr q;replace D:=fun k=>(D k).gr q;replace x:=x.gr q;replace A:=A.gr q;replace I:=I.gr q;replace J:=J.gr q;clear q
 go_wp2_with fail
 go_ret
 exact⟨rfl,G⟩
end
end
end Go.Proofs.Ytffhepbppiocbaa