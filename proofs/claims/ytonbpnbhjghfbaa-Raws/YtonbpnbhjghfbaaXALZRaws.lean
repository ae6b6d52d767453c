import Derived.Test.YtonbpnbhjghfbaaXAZYu
namespace Go.Proofs.Ytonbpnbhjghfbaa
open Go.RowKit Go.Proofs.Try
set_option maxRecDepth 100000
set_option maxHeartbeats 8000000
section
attribute [local go_sem ↓] uz1
attribute [local go_sem] uz2
section
attribute [local go_sem] uz4
attribute [local go_sem ↓] uz7 Go.wp_at_zero Go.wp_at_succ
attribute [local go_sem] uz8
theorem lzraws_no(id:Int)(h:id<1∨15<id)(r s:Nat)(t:ByteArray)(w:World):Cg 3 #[.int .i64 id,.agg (sgA r s),.string t] w (.bool true):=by
 have l:Hid (∀w,Cg 7 #[.int .i64 id] w (.tuple #[.agg #[.int .i64 0,.slice none 0 0,.slice none 0 0,.slice none 0 0,.slice none 0 0,.slice none 0 0,.slice none 0 0],.bool false])):=fun w=>get_no id h w;have B:Hid (∀w,Cg 8 #[.int .i64 id,.agg (sgA r s)] w (.tuple #[.string ⟨#[]⟩,.int .i64 2300])):=fun w=>rwput_no h r s w;have C:Hid (∀w,Cg 9 #[.int .i64 id,.string t] w (.tuple #[.agg (sgA 0 0),.int .i64 2300])):=fun w=>rwget_no h t w;have D:Hid (∀w,Cg 11 #[] w (.bool true)):=fun w=>awake23_any w
 go_enter func3,ntmps3
 go_upto_region 1 with fail
 refine gen_w (fun v=>Hid (Gr w v∧Vr v (w.heap.size) (sgA r s))) ⟨grA,vrA⟩ ?_;intro u0 J
 go_upto_region 2 with (first
  | (go_at_call 7;refine(l.out _).mono ?_;rintro e H ⟨rfl,K⟩))
 obtain⟨e9,j⟩:=exl (H.heap.size);simp only[j]
 refine gen_w (fun v=>Gr w v∧Vr v (w.heap.size) (sgA r s)) ?_ ?_
 ·subst j;obtain⟨G,q⟩:=J.out;have P:Gr H (H.alloc (.cells (#[.int .i64 0,.slice none 0 0,.slice none 0 0,.slice none 0 0,.slice none 0 0,.slice none 0 0,.slice none 0 0]) 31)):=(Gr.refl _).alloc _;have g:=K.trans P;exact⟨G.trans g,q.gr g⟩
 clear j K l J;rintro v0 ⟨G,q⟩;refine wp_wS [.c (.int .i64 id),.c (.agg (sgA r s)),.c (.tuple #[.string ⟨#[]⟩,.int .i64 2300]),.c (.tuple #[.string ⟨#[]⟩,.int .i64 2300]),.c (.string ⟨#[]⟩),.c (.int .i64 2300),.c (.string ⟨#[]⟩),.c (.int .i64 2300)] [1,2] ⟨.g 27 0 q rfl,.z B.out,⟨⟩⟩ fun Q R d S=>?_;simp only[fzw];clear S;have i:=d;clear d
 go_upto_region 3 with fail
 refine wp_v false [.c (.int .i64 id),.c (.string t),.c (.tuple #[.agg (sgA 0 0),.int .i64 2300]),.c (.tuple #[.agg (sgA 0 0),.int .i64 2300]),.c (.agg (sgA 0 0)),.c (.int .i64 2300),.a,.u,.c (.int .i64 2300)] [2] [⟨6,7,27,sgA 0 0,fun _=>sgA 0 0⟩] ⟨.z C.out,⟨⟩⟩ ⟨.k zSg (.t rfl),⟨⟩⟩ fun x U d V I=>?_;simp only[fzw,Kw.a];obtain⟨⟨L,f⟩,-⟩:(R.heap.size≤(x 6 0).2∧Vr U (x 6 0).2 (sgA 0 0))∧True:=I;clear V;replace i:=i.trans d;clear d
 go_upto_region 4 with fail
 refine wp_wS [.F,.T] [] ⟨⟩ fun W v3 d X=>?_;simp only[fzw];clear X;replace i:=i.trans d;have A:=d;clear d
 go_upto_region 5 with fail
 refine wp_wS [.c (.int .i64 2300),.c (.int .i64 2300),.T,.T,.c (.int .i64 2300),.c (.int .i64 2300),.T,.T,.T,.c (.string ⟨#[]⟩),.T,.T,.T,.c (.agg (sgA 0 0)),.c (.agg (sgA 0 0)),.T,.T,.T,.T,.T,.T] [1,5,10,13,15,18] ⟨.y (num_any _),.y (num_any _),.s (.binOp .eql 9 (.const (.string ⟨#[]⟩)) (.const (.string { data :=#[] })) 9) rfl fun Y d=>by simp[go_sem,exI],.g 27 0 (f.gr A) rfl,.s (.binOp .eql 27 (.const (.agg (sgA 0 0))) (.const (.agg (sgA 0 0))) 27) rfl fun Y d=>by simp[go_sem,exI,eqSg,eqN_self],.z D.out,⟨⟩⟩ fun Z v4 d h5=>?_;simp only[fzw];clear h5;replace i:=i.trans d;replace A:=A.trans d;clear d;replace G:=G.trans i;replace q:=q.gr i;replace f:=f.gr A;clear i A
 go_wp2_with fail
 go_ret
 exact⟨rfl,G⟩
theorem lzraws_yes{k:Nat}(h1:1≤k)(h2:k≤15){r s:Nat}(hr:r<M)(hs:s<M)(t:ByteArray)(w:World):Cg 3 #[.int .i64 k,.agg (sgA r s),.string t] w (.bool true):=by
 have C:Hid (∀w,Calls prog 7 #[.int .i64 k] w (GetQ k w)):=fun w=>getq_yes k h1 h2 w;obtain⟨a,K⟩:=exl ((⟨(rawP (oN k) r s).1.toArray⟩:ByteArray));obtain⟨d,L⟩:=exl ((rawP (oN k) r s).2);obtain⟨⟨X,Y,E⟩,P⟩:∃z,rawG (oN k) t.data.toList=z:=⟨_,rfl⟩
 have Q:Hid (∀w,Cg 8 #[.int .i64 k,.agg (sgA r s)] w (.tuple #[.string a,.int .i64 d])):=fun w=>by have t:=rwput h1 h2 hr hs w;rwa [K,L]at t
 have R:Hid (∀w,Cg 9 #[.int .i64 k,.string t] w (.tuple #[.agg (sgA X Y),.int .i64 E])):=fun w=>rwget h1 h2 t P w
 have S:Hid (∀qc w,(∀j,Sl w (qc j).1 (nN k j))→Cg 12 #[.agg (crA (k:Int) (nN k) qc),.agg (sgA r s)] w (.tuple #[.string a,.int .i64 d])):=fun qc w i=>by have t:=rraw hr hs qc i;rwa [K,L]at t
 have U:Hid (∀qc w,(∀j,Sl w (qc j).1 (nN k j))→Cg 13 #[.agg (crA (k:Int) (nN k) qc),.string t] w (.tuple #[.agg (sgA X Y),.int .i64 E])):=fun qc w i=>runraw t P qc i;clear K L P;have V:Hid (∀w,Cg 11 #[] w (.bool true)):=fun w=>awake23_any w
 go_enter func3,ntmps3
 go_upto_region 1 with fail
 refine gen_w (fun v=>Hid (Gr w v∧Vr v (w.heap.size) (sgA r s))) ⟨grA,vrA⟩ ?_;intro u0 HV
 go_upto_region 2 with (first
  | (go_at_call 7;refine(C.out _).mono ?_;rintro e W ⟨qc,rfl,i,GB⟩))
 obtain⟨e9,A⟩:=exl (W.heap.size);simp only[A]
 refine gen_w (fun v=>Gr w v∧Vr v (w.heap.size) (sgA r s)∧Vr v e9 (crA (k:Int) (nN k) qc)∧∀j,Sl v (qc j).1 (nN k j)) ?_ ?_
 ·subst A;obtain⟨G,B⟩:=HV.out;have g1:Gr W (W.alloc (.cells (crA (k:Int) (nN k) qc) 31)):=(Gr.refl _).alloc _;have g:=GB.trans g1;exact⟨G.trans g,B.gr g,Vr.new _ _ _,fun j=>(i j).gr g1⟩
 clear A GB C HV i;rintro v0 ⟨G,B,J,i⟩;refine wp_wS [.c (.int .i64 k),.c (.agg (sgA r s)),.c (.tuple #[.string a,.int .i64 d]),.c (.tuple #[.string a,.int .i64 d]),.c (.string a),.c (.int .i64 d),.c (.string a),.c (.int .i64 d)] [1,2] ⟨.g 27 0 B rfl,.z Q.out,⟨⟩⟩ fun ad v1 f h2=>?_;simp only[fzw];clear h2;have h:=f;clear f
 go_upto_region 3 with fail
 refine wp_v false [.c (.int .i64 k),.c (.string t),.c (.tuple #[.agg (sgA X Y),.int .i64 E]),.c (.tuple #[.agg (sgA X Y),.int .i64 E]),.c (.agg (sgA X Y)),.c (.int .i64 E),.a,.u,.c (.int .i64 E)] [2] [⟨6,7,27,sgA 0 0,fun _=>sgA X Y⟩] ⟨.z R.out,⟨⟩⟩ ⟨.k zSg (.t rfl),⟨⟩⟩ fun D v2 f h3 Z=>?_;simp only[fzw,Kw.a];obtain⟨⟨ab,l⟩,-⟩:(v1.heap.size≤(D 6 0).2∧Vr v2 (D 6 0).2 (sgA X Y))∧True:=Z;clear h3;replace h:=h.trans f;clear f
 go_upto_region 4 with fail
 refine wp_wS [.T,.F] [] ⟨⟩ fun ae v3 f h4=>?_;simp only[fzw];clear h4;replace h:=h.trans f;have x:=f;clear f
 go_upto_region 6 with fail
 refine wp_wS [.c (.agg (crA (k:Int) (nN k) qc)),.c (.agg (sgA r s)),.c (.tuple #[.string a,.int .i64 d]),.c (.tuple #[.string a,.int .i64 d]),.c (.string a),.c (.int .i64 d),.c (.string a),.c (.int .i64 d)] [0,1,2] ⟨.g 31 0 (J.gr h) rfl,.g 27 0 (B.gr h) rfl,.k _ fun yy H f hh=>RtW.of_c (Rt.c (S.out _ _ (fun j=>(i j).gr (h.trans f)))),⟨⟩⟩ fun af v4 f h6=>?_;simp only[fzw];clear h6;replace h:=h.trans f;replace x:=x.trans f;clear f
 go_upto_region 7 with fail
 refine wp_v false [.c (.agg (crA (k:Int) (nN k) qc)),.c (.string t),.c (.tuple #[.agg (sgA X Y),.int .i64 E]),.c (.tuple #[.agg (sgA X Y),.int .i64 E]),.c (.agg (sgA X Y)),.c (.int .i64 E),.a,.u,.c (.int .i64 E)] [0,2] [⟨6,7,27,sgA 0 0,fun _=>sgA X Y⟩] ⟨.g 31 0 (J.gr h) rfl,.k _ fun yy H f hh=>RtW.of_c (Rt.c (U.out _ _ (fun j=>(i j).gr (h.trans f)))),⟨⟩⟩ ⟨.k zSg (.t rfl),⟨⟩⟩ fun I v5 f h7 aa=>?_;simp only[fzw,Kw.a];obtain⟨⟨ac,q⟩,-⟩:(v4.heap.size≤(I 6 0).2∧Vr v5 (I 6 0).2 (sgA X Y))∧True:=aa;clear h7;replace h:=h.trans f;replace x:=x.trans f;clear f
 go_upto_region 8 with fail
 refine wp_wS [.c (.string a),.c (.string a),.T,.T,.c (.int .i64 d),.c (.int .i64 d),.c (.int .i64 d),.T,.T,.T,.c (.agg (sgA X Y)),.c (.agg (sgA X Y)),.T,.T,.T,.c (.int .i64 E),.c (.int .i64 E),.c (.int .i64 E),.T,.T,.T,.T,.T,.T] [2,5,7,10,11,12,16,18,21] ⟨.s (.binOp .eql 9 (.const (.string a)) (.const (.string a)) 9) rfl fun H f=>by simp[go_sem,exI],.y (num_any _),.s (.binOp .eql 3 (.const (.int .i64 d)) (.const (.int .i64 d)) 3) rfl fun H f=>by simp[go_sem,exI],.g 27 0 (l.gr x) rfl,.g 27 0 q rfl,.s (.binOp .eql 27 (.const (.agg (sgA X Y))) (.const (.agg (sgA X Y))) 27) rfl fun H f=>by simp[go_sem,exI,eqSg,eqN_self],.y (num_any _),.s (.binOp .eql 3 (.const (.int .i64 E)) (.const (.int .i64 E)) 3) rfl fun H f=>by simp[go_sem,exI],.z V.out,⟨⟩⟩ fun ag v6 f h8=>?_;simp only[fzw];clear h8;replace h:=h.trans f;replace x:=x.trans f;have g8:=f;clear f;replace G:=G.trans h;replace B:=B.gr h;replace J:=J.gr h;replace i:=fun k=>(i k).gr h;replace l:=l.gr x;replace q:=q.gr g8;clear h x g8
 go_wp2_with fail
 go_ret
 exact⟨rfl,G⟩
theorem lzraws_any(id:Int){r s:Nat}(hr:r<M)(hs:s<M)(t:ByteArray)(w:World):Cg 3 #[.int .i64 id,.agg (sgA r s),.string t] w (.bool true):=by
 by_cases h:1≤id∧id≤15
 ·obtain⟨k,rfl⟩:∃k:Nat,id=(k:Int):=⟨id.toNat,by omega⟩
  have d:1≤k:=by omega
  have f:k≤15:=by omega
  exact lzraws_yes d f hr hs t w
 ·exact lzraws_no id (by omega) r s t w
end
end
end Go.Proofs.Ytonbpnbhjghfbaa