import Derived.Test.YtiigakdbabijhaaGreatXAZJ
namespace Go.Proofs.YtiigakdbabijhaaGreat
open Go.RowKit Go.Proofs.Tryz
set_option maxRecDepth 100000
set_option maxHeartbeats 8000000
section
attribute [local go_sem ↓] uz1
attribute [local go_sem] uz2
section
attribute [local go_sem] uz8
attribute [local go_sem ↓] uz13 Go.wp_at_zero Go.wp_at_succ
attribute [local go_sem] uz14
theorem lzall_no(id:Int)(h:id<1∨15<id){P:Q3}(sh:Bool)(s:ByteArray)(w:World):Cg 3 #[.int .i64 id,.agg (pnQ P),.bool sh,.string s] w (.bool true):=by
 have l:Hid (∀w,Cg 10 #[.int .i64 id] w (.tuple #[.agg #[.int .i64 0,.slice none 0 0,.slice none 0 0,.slice none 0 0,.slice none 0 0,.slice none 0 0,.slice none 0 0],.bool false])):=fun w=>get_no id h w;have B:Hid (∀w,Cg 11 #[.int .i64 id,.agg (pnQ P),.bool sh] w (.tuple #[.string ⟨#[]⟩,.int .i64 2100])):=fun w=>sput_no id h P.1 P.2.1 P.2.2 sh w;have C:Hid (∀w,Cg 12 #[.int .i64 id,.string s] w (.tuple #[.agg (pnt 0 0 false),.int .i64 2100])):=fun w=>sget_no id h s w;have D:Hid (∀w,Cg 14 #[] w (.bool true)):=fun w=>awake21_any w
 go_enter func3,ntmps3
 go_upto_region 1 with fail
 refine gen_w (fun v=>Hid (Gr w v∧Vr v (w.heap.size) (pnQ P))) ⟨grA,vrA⟩ ?_;intro u0 K
 go_upto_region 2 with (go_at_call 10;refine(l.out _).mono ?_;rintro e H ⟨rfl,I⟩)
 obtain⟨e7,j⟩:=exl (H.heap.size);simp only[j]
 refine gen_w (fun v=>Gr w v∧Vr v (w.heap.size) (pnQ P)) ?_ ?_
 ·subst j;obtain⟨G,q⟩:=K.out;have L:Gr H (H.alloc (.cells (#[.int .i64 0,.slice none 0 0,.slice none 0 0,.slice none 0 0,.slice none 0 0,.slice none 0 0,.slice none 0 0]) 31)):=(Gr.refl _).alloc _;exact⟨(G.trans I).trans L,(q.gr I).gr L⟩
 clear j I l K;rintro v0 ⟨G,q⟩;refine wp_wS [.c (.int .i64 id),.c (.agg (pnQ P)),.c (.bool sh),.c (.tuple #[.string ⟨#[]⟩,.int .i64 2100]),.c (.tuple #[.string ⟨#[]⟩,.int .i64 2100]),.c (.string ⟨#[]⟩),.c (.int .i64 2100),.c (.string ⟨#[]⟩),.c (.int .i64 2100)] [1,3] ⟨.g 27 0 q rfl,.z B.out,⟨⟩⟩ fun R S d U=>?_;simp only[fzw];clear U;have i:=d;clear d
 go_upto_region 3 with fail
 refine wp_v false [.c (.int .i64 id),.c (.string s),.c (.tuple #[.agg (pnt 0 0 false),.int .i64 2100]),.c (.tuple #[.agg (pnt 0 0 false),.int .i64 2100]),.c (.agg (pnt 0 0 false)),.c (.int .i64 2100),.a,.u,.c (.int .i64 2100)] [2] [⟨6,7,27,pnt 0 0 false,fun _=>pnt 0 0 false⟩] ⟨.z C.out,⟨⟩⟩ ⟨.k zPnt (.t rfl),⟨⟩⟩ fun x V d W J=>?_;simp only[fzw,Kw.a];obtain⟨⟨Q,f⟩,-⟩:(S.heap.size≤(x 6 0).2∧Vr V (x 6 0).2 (pnt 0 0 false))∧True:=J;clear W;replace i:=i.trans d;clear d
 go_upto_region 4 with fail
 refine wp_wS [.F,.T] [] ⟨⟩ fun X v3 d Y=>?_;simp only[fzw];clear Y;replace i:=i.trans d;have A:=d;clear d
 go_upto_region 5 with fail
 refine wp_wS [.c (.int .i64 2100),.c (.int .i64 2100),.T,.T,.c (.int .i64 2100),.c (.int .i64 2100),.T,.T,.T,.c (.string ⟨#[]⟩),.T,.T,.T,.c (.agg (pnt 0 0 false)),.c (.agg (pnt 0 0 false)),.T,.T,.T,.T,.T,.T] [1,5,10,13,15,18] ⟨.y (num_any _),.y (num_any _),.s (.binOp .eql 9 (.const (.string ⟨#[]⟩)) (.const (.string { data :=#[] })) 9) rfl fun Z d=>by simp[go_sem,exI],.g 27 0 (f.gr A) rfl,.s (.binOp .eql 27 (.const (.agg (pnt 0 0 false))) (.const (.agg (pnt 0 0 false))) 27) rfl fun Z d=>by simp[go_sem,exI,eqPn,eqN_self],.z D.out,⟨⟩⟩ fun aa v4 d h5=>?_;simp only[fzw];clear h5;replace i:=i.trans d;replace A:=A.trans d;clear d;replace G:=G.trans i;replace q:=q.gr i;replace f:=f.gr A;clear i A
 go_wp2_with fail
 go_ret
 exact⟨rfl,G⟩
theorem lzall_yes{k:Nat}(h1:1≤k)(h2:k≤15){P:Q3}(lP:P.1<M∧P.2.1<M)(sh:Bool)(s:ByteArray)(w:World):Cg 3 #[.int .i64 k,.agg (pnQ P),.bool sh,.string s] w (.bool true):=by
 have R:Hid (∀w,Calls prog 10 #[.int .i64 k] w (GetQ k w)):=fun w=>getq_yes k h1 h2 w;obtain⟨a,Z⟩:=exl ((⟨(putA k P sh).1.toArray⟩:ByteArray));obtain⟨d,hd⟩:=exl ((putA k P sh).2);obtain⟨X,Y,E,hX⟩:∃X Y E,gtL k s.data.toList=(X,Y,E):=⟨_,_,_,rfl⟩
 have aa:Hid (∀w,Cg 11 #[.int .i64 k,.agg (pnQ P),.bool sh] w (.tuple #[.string a,.int .i64 d])):=fun w=>by have t:=sput_any h1 h2 lP sh w;rwa [Z,hd]at t
 have ab:Hid (∀w,Cg 12 #[.int .i64 k,.string s] w (.tuple #[.agg (pnt X Y false),.int .i64 E])):=fun w=>sget_any h1 h2 s.data.toList hX w
 have ac:Hid (∀qc p q n m w,(∀j,Sl w (qc j).1 (nN k j))→Sl w p P.1→Sl w q P.2.1→Cg 15 #[.agg (crA (k:Int) (nN k) qc),.agg (ptA p P.1 n q P.2.1 m P.2.2),.bool sh] w (.tuple #[.string a,.int .i64 d])):=fun qc p q n m w A Sx Sy=>by have t:=rput_any h1 h2 lP sh qc A Sx Sy (n:=n) (m:=m);rwa [Z,hd]at t
 have ae:Hid (∀qc w,(∀j,Sl w (qc j).1 (nN k j))→Calls prog 17 #[.agg (crA (k:Int) (nN k) qc),.string s] w (RtW (.pe X Y E) w)):=fun qc w A=>rpoint_any h1 h2 s.data.toList hX qc w A;clear Z hd hX;have af:Hid (∀w,Cg 14 #[] w (.bool true)):=fun w=>awake21_any w
 go_enter func3,ntmps3
 go_upto_region 1 with fail
 refine gen_w (fun v=>Hid (Gr w v∧Vr v (w.heap.size) (pnQ P))) ⟨grA,vrA⟩ ?_;intro u0 HV
 go_upto_region 2 with (go_at_call 10;refine(R.out _).mono ?_;rintro e WB ⟨qc,rfl,A,GB⟩)
 obtain⟨e7,K⟩:=exl (WB.heap.size);simp only[K]
 refine gen_w (fun v=>Gr w v∧Vr v (w.heap.size) (pnQ P)∧Vr v e7 (crA (k:Int) (nN k) qc)∧∀j,Sl v (qc j).1 (nN k j)) ?_ ?_
 ·subst K;obtain⟨G,Q⟩:=HV.out;have g1:Gr WB (WB.alloc (.cells (crA (k:Int) (nN k) qc) 31)):=(Gr.refl _).alloc _;exact⟨(G.trans GB).trans g1,(Q.gr GB).gr g1,Vr.new _ _ _,fun j=>(A j).gr g1⟩
 clear K GB R HV A;rintro v0 ⟨G,Q,V,A⟩;refine wp_wS [.c (.int .i64 k),.c (.agg (pnQ P)),.c (.bool sh),.c (.tuple #[.string a,.int .i64 d]),.c (.tuple #[.string a,.int .i64 d]),.c (.string a),.c (.int .i64 d),.c (.string a),.c (.int .i64 d)] [1,3] ⟨.g 27 0 Q rfl,.z aa.out,⟨⟩⟩ fun ak v1 f h2=>?_;simp only[fzw];clear h2;have l:=f;clear f
 go_upto_region 3 with fail
 refine wp_v false [.c (.int .i64 k),.c (.string s),.c (.tuple #[.agg (pnt X Y false),.int .i64 E]),.c (.tuple #[.agg (pnt X Y false),.int .i64 E]),.c (.agg (pnt X Y false)),.c (.int .i64 E),.a,.u,.c (.int .i64 E)] [2] [⟨6,7,27,pnt 0 0 false,fun _=>pnt X Y false⟩] ⟨.z ab.out,⟨⟩⟩ ⟨.k zPnt (.t rfl),⟨⟩⟩ fun S v2 f h3 ag=>?_;simp only[fzw,Kw.a];obtain⟨⟨ai,B⟩,-⟩:(v1.heap.size≤(S 6 0).2∧Vr v2 (S 6 0).2 (pnt X Y false))∧True:=ag;clear h3;replace l:=l.trans f;clear f
 go_upto_region 4 with fail
 refine wp_wS [.T,.F] [] ⟨⟩ fun ao v3 f h4=>?_;simp only[fzw];clear h4;replace l:=l.trans f;have J:=f;clear f
 go_upto_region 6 with fail
 refine wp_w [.c (.agg (crA (k:Int) (nN k) qc)),.c (.agg (pnQ P)),.pt (P.1) (P.2.1) P.2.2,.c (.bool sh),.c (.tuple #[.string a,.int .i64 d]),.c (.tuple #[.string a,.int .i64 d]),.c (.string a),.c (.int .i64 d),.c (.string a),.c (.int .i64 d)] [0,1,2,4] ⟨.g 31 0 (V.gr l) rfl,.g 27 0 (Q.gr l) rfl,.k _ fun x L f U=>RtW.of_pt (rin_any _ _ _ lP.1 lP.2 _),.k (fun x =>#[.agg (crA (k:Int) (nN k) qc),.agg (ptA (x 2 0).1 (P.1) (x 2 0).2 (x 2 1).1 (P.2.1) (x 2 1).2 P.2.2),.bool sh]) fun x L f U=>RtW.of_c (Rt.c (ac.out _ _ _ _ _ _ (fun j=>(A j).gr (l.trans f)) (U 2 rfl).1 (U 2 rfl).2)),⟨⟩⟩ fun ap v4 f h6=>?_;simp only[fzw];clear h6;replace l:=l.trans f;replace J:=J.trans f;clear f
 go_upto_region 7 with fail
 refine wp_v false [.c (.agg (crA (k:Int) (nN k) qc)),.c (.string s),.pe (X) (Y) (E),.pe (X) (Y) (E),.pt (X) (Y) false,.c (.int .i64 (E)),.a,.u,.c (.int .i64 (E))] [0,2,3,4,5] [⟨6,7,44,ptA none 0 0 none 0 0 false,fun x=>ptA (x 4 0).1 (X) (x 4 0).2 (x 4 1).1 (Y) (x 4 1).2 false⟩] ⟨.g 31 0 (V.gr l) rfl,.k _ fun x L f U =>  (ae.out _ _ (fun j=>(A j).gr (l.trans f))),.m 2,.m 3,.m 3,⟨⟩⟩ ⟨.mk (fun _ _ h=>Value.agg.inj (h 4 rfl)) (fun _ v b H F=>by dsimp only at H ⊢;simp[go_sem,exI,H,F]) zPt ⟨fkc,fkc,fkpe bPt,fkpe bPt,fkp bPt,fkc,fka,fku,fkc,trivial⟩,⟨⟩⟩ fun i v5 f h7 ah=>?_;simp only[fzw,Kw.a,Kw.pe];obtain⟨C,D⟩:Sl v5 (i 4 0).1 (X)∧Sl v5 (i 4 1).1 (Y):=h7 4;obtain⟨⟨aj,I⟩,-⟩:(v4.heap.size≤(i 6 0).2∧Vr v5 (i 6 0).2 (ptA (i 4 0).1 (X) (i 4 0).2 (i 4 1).1 (Y) (i 4 1).2 false))∧True:=ah;clear h7;replace l:=l.trans f;replace J:=J.trans f;clear f
 go_upto_region 8 with fail
 refine wp_w [.c (.string a),.c (.string a),.T,.T,.c (.int .i64 d),.c (.int .i64 d),.c (.int .i64 d),.T,.T,.T,.c (.agg (pnt X Y false)),.c (.agg (ptA (i 4 0).1 (X) (i 4 0).2 (i 4 1).1 (Y) (i 4 1).2 false)),.c (.agg (pnt X Y false)),.T,.T,.T,.c (.int .i64 E),.c (.int .i64 E),.c (.int .i64 (E)),.T,.T,.T,.T,.T,.T] [2,5,7,10,11,12,13,17,19,22] ⟨.s (.binOp .eql 9 (.const (.string a)) (.const (.string a)) 9) rfl fun L f=>by simp[go_sem,exI],.y (num_any _),.s (.binOp .eql 3 (.const (.int .i64 d)) (.const (.int .i64 d)) 3) rfl fun L f=>by simp[go_sem,exI],.g 27 0 (B.gr J) rfl,.g 44 0 I rfl,.k (fun x =>#[.agg (ptA (i 4 0).1 (X) (i 4 0).2 (i 4 1).1 (Y) (i 4 1).2 false)]) fun x L f U=>RtW.of_c (Rt.c (rout_any _ _ _ _ _ _ _ _ (C.gr f) (D.gr f))),.s (.binOp .eql 27 (.const (.agg (pnt X Y false))) (.const (.agg (pnt X Y false))) 27) rfl fun L f=>by simp[go_sem,exI,eqPn,eqN_self],.y (num_any _),.s (.binOp .eql 3 (.const (.int .i64 E)) (.const (.int .i64 (E))) 3) rfl fun L f=>by simp[go_sem,exI],.z af.out,⟨⟩⟩ fun aq v6 f h8=>?_;simp only[fzw];clear h8;replace l:=l.trans f;replace J:=J.trans f;have W:=f;clear f;replace G:=G.trans l;replace Q:=Q.gr l;replace V:=V.gr l;replace A:=fun k=>(A k).gr l;replace B:=B.gr J;replace I:=I.gr W;replace C:=C.gr W;replace D:=D.gr W;clear l J W
 go_wp2_with fail
 go_ret
 exact⟨rfl,G⟩
theorem lzall_any(id:Int){P:Q3}(lP:P.1<M∧P.2.1<M)(sh:Bool)(s:ByteArray)(w:World):Cg 3 #[.int .i64 id,.agg (pnQ P),.bool sh,.string s] w (.bool true):=by
 by_cases h:1≤id∧id≤15
 ·obtain⟨k,rfl⟩:∃k:Nat,id=(k:Int):=⟨id.toNat,by omega⟩
  have d:1≤k:=by omega
  have f:k≤15:=by omega
  exact lzall_yes d f lP sh s w
 ·exact lzall_no id (by omega) sh s w
end
end
end Go.Proofs.YtiigakdbabijhaaGreat