import Derived.Test.YtffhepbppiocbaaGreatXAAS
namespace Go.Proofs.YtffhepbppiocbaaGreat
open Go.RowKit Go.Proofs.Tryz
set_option maxRecDepth 100000
set_option maxHeartbeats 8000000
section
attribute [local go_sem ↓] uz1
attribute [local go_sem] uz2
section
attribute [local go_sem] uz7
attribute [local go_sem ↓] uz12 Go.wp_at_zero Go.wp_at_succ
attribute [local go_sem] uz13
theorem lasplits_any(id:Int)(n1 n2 n3:Nat)(bn1:n1<18446744073709551616)(bn2:n2<18446744073709551616)(bn3:n3<18446744073709551616)(w:World):Cg 7 #[.int .i64 id,.int .u64 n1,.int .u64 n2,.int .u64 n3] w (.bool true):=by
 obtain⟨u,hu,aJ,hk⟩:=idx_conv id;have ah:=idx_bd id;obtain⟨k,ai⟩:=exl (idx id);rw[ai]at hk ah;obtain⟨J,K⟩:=ah
 have u0:(0:Int)≤u:=by omega
 have aK:(1:Int)+u%15=k:=by omega
 have aL:IntKind.i64.wrap ((u:Int)%15)=(u:Int)%15:=by rw[IntKind.wrap_i64];omega
 have aM:IntKind.u64.wrap ((u:Int)%15)=(u:Int)%15:=by rw[IntKind.wrap_u64];omega
 have aO:(u:Int).tmod 15=(u:Int)%15:=by rw[Int.tmod_eq_emod_of_nonneg (by omega)]
 have k0:(1:Int)≤k:=by omega
 have k1:(k:Int)≤15:=by omega
 have aP:id%18446744073709551616=(u:Int):=by rw[←hu,IntKind.wrap_u64]
 clear ai hk;have aj:Hid (∀w,Calls prog 9 #[.int .i64 k] w (GetQ k w)):=fun w=>getq_yes k J K w;have ak:Hid (∀w,Cg 13 #[] w (.bool true)):=fun w=>awake14_any w
 go_enter func7,ntmps7
 go_upto_region 6 with (first
  | (go_at_call 13;refine(ak.out _).mono ?_;rintro e WA ⟨rfl,GA⟩)
  | (go_at_call 9;refine(aj.out _).mono ?_;rintro e WB ⟨qc,rfl,I,GB⟩))
 obtain⟨X,ag⟩:=exl (WB.heap.size);simp only[ag]
 refine gen_w (fun v=>Gr w v∧Vr v X (crA (k:Int) (nN k) qc)∧∀j,Sl v (qc j).1 (nN k j)) ?_ ?_
 ·subst ag;exact⟨(GA.trans GB).alloc _,Vr.new _ _ _,fun j=>(I j).gr ((Gr.refl _).alloc _)⟩
 clear ag GA GB I ak aj hu aJ aK aL aM aO aP u0 k0 k1;rintro v0 ⟨G,D,I⟩;obtain⟨L,aQ⟩:=exl (n1/2);obtain⟨Z,aR⟩:=exl (n2/2);obtain⟨d3,ao⟩:=exl (L+Z);obtain⟨m1,aS⟩:=exl (L%1000);obtain⟨m3,ap⟩:=exl (3*m1)
 have aq:L<18446744073709551616:=by omega
 have ar:Z<18446744073709551616:=by omega
 have au:d3<18446744073709551616:=by omega
 have av:m1<18446744073709551616:=by omega
 have aw:m3<18446744073709551616:=by omega
 have q1:IntKind.u64.wrap ((n1:Int)/2)=(L:Int):=by rw[IntKind.wrap_u64];omega
 have q2:IntKind.u64.wrap ((n2:Int)/2)=(Z:Int):=by rw[IntKind.wrap_u64];omega
 have q3:IntKind.u64.wrap ((L:Int)+Z)=(d3:Int):=by rw[IntKind.wrap_u64];omega
 have q4:(L:Int).tmod 1000=(m1:Int):=by rw[Int.tmod_eq_emod_of_nonneg (by omega)];omega
 have q5:IntKind.u64.wrap ((m1:Int)*3)=(m3:Int):=by rw[IntKind.wrap_u64];omega
 obtain⟨P,hP⟩:=exl (mlQ k n3 (gQ k));have Y:OnQ k P:=hP▸mlQ_on J K _ (gQ_on J K);have bP:=bn3;obtain⟨A,hA⟩:=exl (mlQ k L P);have oA:OnQ k A:=hA▸mlQ_on J K _ Y;obtain⟨B,hB⟩:=exl (mlQ k Z P);have oB:OnQ k B:=hB▸mlQ_on J K _ Y;obtain⟨T,hT⟩:=exl (mlQ k d3 P);obtain⟨U,hU⟩:=exl (mlQ k 3 A);have oU:OnQ k U:=hU▸mlQ_on J K _ oA;obtain⟨V,hV⟩:=exl (mlQ k m3 P);obtain⟨E,hE⟩:=exl (mlQ k m1 P);have oE:OnQ k E:=hE▸mlQ_on J K _ Y
 have aT:plQ k A B=T:=by rw[←hT,←ao,mlQ_add J K _ _ Y,hA,hB]
 have aU:mlQ k 3 E=V:=by rw[←hV,←ap,mlQ_mul J K _ _ Y,hE]
 clear aQ aR ao aS ap;refine wp_v false [.c (.agg (crA (k:Int) (nN k) qc)),.c (.int .u64 n3),.c (.agg (pnQ P)),.a,.u] [0,2] [⟨3,4,27,pnt 0 0 false,fun _=>pnQ P⟩] ⟨.g 31 0 D rfl,.k _ fun yy W d hh=>RtW.of_c (Rt.c (some_is J K bP hP qc _ (fun j=>(I j).gr d))),⟨⟩⟩ ⟨.k zPnt (.t rfl),⟨⟩⟩ fun ax v1 d h6 aV=>?_;simp only[fzw,Kw.a];obtain⟨⟨be,h⟩,-⟩:(v0.heap.size≤(ax 3 0).2∧Vr v1 (ax 3 0).2 (pnQ P))∧True:=aV;clear h6;replace G:=G.trans d;replace D:=D.gr d;replace I:=fun k=>(I k).gr d;clear d
 go_upto_region 7 with fail
 refine wp_v true [.c (pv X 0),.c (.int .i64 k),.c (.int .u64 n1),.c (.int .u64 L),.N L,.c (.agg (pnQ P)),.E (.agg (pnQ A)),.E (.agg (pnQ A)),.c (.agg (pnQ A)),.O,.a,.u,.O] [1,3,4,5,6] [⟨10,11,27,pnt 0 0 false,fun _=>pnQ A⟩] ⟨.o 3 0 D rfl rfl,.s (.binOp .quo 22 (.const (.int .u64 n1)) (.const (.int .u64 2)) 22) rfl fun W d=>by simp[go_sem,exI,q1],.z (one_any _ aq),.g 27 0 h rfl,.z (mulQ J K (P:=P) (R:=A) Y (lt_M _ aq) hA),⟨⟩⟩ ⟨.k zPnt (.t rfl),⟨⟩⟩ fun ay v2 d h7 aW=>?_;simp only[fzw,Kw.a];obtain⟨⟨a0,f⟩,-⟩:(v1.heap.size≤(ay 10 0).2∧Vr v2 (ay 10 0).2 (pnQ A))∧True:=aW;clear h7;replace G:=G.trans d;replace D:=D.gr d;replace h:=h.gr d;replace I:=fun k=>(I k).gr d;clear d
 go_upto_region 8 with fail
 refine wp_v true [.c (pv X 0),.c (.int .i64 k),.c (.int .u64 n2),.c (.int .u64 Z),.N Z,.c (.agg (pnQ P)),.E (.agg (pnQ B)),.E (.agg (pnQ B)),.c (.agg (pnQ B)),.O,.a,.u,.O] [1,3,4,5,6] [⟨10,11,27,pnt 0 0 false,fun _=>pnQ B⟩] ⟨.o 3 0 D rfl rfl,.s (.binOp .quo 22 (.const (.int .u64 n2)) (.const (.int .u64 2)) 22) rfl fun W d=>by simp[go_sem,exI,q2],.z (one_any _ ar),.g 27 0 h rfl,.z (mulQ J K (P:=P) (R:=B) Y (lt_M _ ar) hB),⟨⟩⟩ ⟨.k zPnt (.t rfl),⟨⟩⟩ fun az v3 d h8 a1=>?_;simp only[fzw,Kw.a];obtain⟨⟨a2,i⟩,-⟩:(v2.heap.size≤(az 10 0).2∧Vr v3 (az 10 0).2 (pnQ B))∧True:=a1;clear h8;replace G:=G.trans d;replace D:=D.gr d;replace h:=h.gr d;replace f:=f.gr d;replace I:=fun k=>(I k).gr d;clear d
 go_upto_region 9 with fail
 refine wp_v true [.c (pv X 0),.c (.int .i64 k),.c (.int .u64 n1),.c (.int .u64 L),.c (.int .u64 n2),.c (.int .u64 Z),.c (.int .u64 d3),.N d3,.c (.agg (pnQ P)),.E (.agg (pnQ T)),.E (.agg (pnQ T)),.c (.agg (pnQ T)),.O,.a,.u,.O] [1,3,5,6,7,8,9] [⟨13,14,27,pnt 0 0 false,fun _=>pnQ T⟩] ⟨.o 3 0 D rfl rfl,.s (.binOp .quo 22 (.const (.int .u64 n1)) (.const (.int .u64 2)) 22) rfl fun W d=>by simp[go_sem,exI,q1],.s (.binOp .quo 22 (.const (.int .u64 n2)) (.const (.int .u64 2)) 22) rfl fun W d=>by simp[go_sem,exI,q2],.s (.binOp .add 22 (.const (.int .u64 L)) (.const (.int .u64 Z)) 22) rfl fun W d=>by simp[go_sem,exI,q3],.z (one_any _ au),.g 27 0 h rfl,.z (mulQ J K (P:=P) (R:=T) Y (lt_M _ au) hT),⟨⟩⟩ ⟨.k zPnt (.t rfl),⟨⟩⟩ fun aA v4 d h9 a3=>?_;simp only[fzw,Kw.a];obtain⟨⟨a4,l⟩,-⟩:(v3.heap.size≤(aA 13 0).2∧Vr v4 (aA 13 0).2 (pnQ T))∧True:=a3;clear h9;replace G:=G.trans d;replace D:=D.gr d;replace h:=h.gr d;replace f:=f.gr d;replace i:=i.gr d;replace I:=fun k=>(I k).gr d;clear d
 go_upto_region 10 with fail
 refine wp_v false [.c (pv X 0),.c (.int .i64 k),.c (.agg (pnQ A)),.c (.agg (pnQ B)),.E (.agg (pnQ T)),.E (.agg (pnQ T)),.c (.agg (pnQ T)),.O,.a,.u,.O] [1,2,3,4] [⟨8,9,27,pnt 0 0 false,fun _=>pnQ T⟩] ⟨.o 3 0 D rfl rfl,.g 27 0 f rfl,.g 27 0 i rfl,.z (addQ J K (P:=A) (Q:=B) (R:=T) oA oB aT),⟨⟩⟩ ⟨.k zPnt (.t rfl),⟨⟩⟩ fun aa v5 d a5 aB=>?_;simp only[fzw,Kw.a];obtain⟨⟨a6,q⟩,-⟩:(v4.heap.size≤(aa 8 0).2∧Vr v5 (aa 8 0).2 (pnQ T))∧True:=aB;clear a5;replace G:=G.trans d;replace D:=D.gr d;replace h:=h.gr d;replace f:=f.gr d;replace i:=i.gr d;replace l:=l.gr d;replace I:=fun k=>(I k).gr d;clear d
 go_upto_region 11 with fail
 refine wp_v true [.c (pv X 0),.c (.int .i64 k),.N 3,.c (.agg (pnQ A)),.E (.agg (pnQ U)),.E (.agg (pnQ U)),.c (.agg (pnQ U)),.O,.a,.u,.O] [1,2,3,4] [⟨8,9,27,pnt 0 0 false,fun _=>pnQ U⟩] ⟨.o 3 0 D rfl rfl,.z (one_any 3 (by decide)),.g 27 0 f rfl,.z (mulQ J K (P:=A) (R:=U) oA (lt_M _ (by decide)) hU),⟨⟩⟩ ⟨.k zPnt (.t rfl),⟨⟩⟩ fun ab v6 d a7 aC=>?_;simp only[fzw,Kw.a];obtain⟨⟨a8,x⟩,-⟩:(v5.heap.size≤(ab 8 0).2∧Vr v6 (ab 8 0).2 (pnQ U))∧True:=aC;clear a7;replace G:=G.trans d;replace D:=D.gr d;replace h:=h.gr d;replace f:=f.gr d;replace i:=i.gr d;replace l:=l.gr d;replace q:=q.gr d;replace I:=fun k=>(I k).gr d;clear d
 go_upto_region 12 with fail
 refine wp_v true [.c (pv X 0),.c (.int .i64 k),.c (.int .u64 n1),.c (.int .u64 L),.c (.int .u64 m1),.c (.int .u64 m3),.N m3,.c (.agg (pnQ P)),.E (.agg (pnQ V)),.E (.agg (pnQ V)),.c (.agg (pnQ V)),.O,.a,.u,.O] [1,3,4,5,6,7,8] [⟨12,13,27,pnt 0 0 false,fun _=>pnQ V⟩] ⟨.o 3 0 D rfl rfl,.s (.binOp .quo 22 (.const (.int .u64 n1)) (.const (.int .u64 2)) 22) rfl fun W d=>by simp[go_sem,exI,q1],.s (.binOp .rem 22 (.const (.int .u64 L)) (.const (.int .u64 1000)) 22) rfl fun W d=>by simp[go_sem,exI,q4],.s (.binOp .mul 22 (.const (.int .u64 m1)) (.const (.int .u64 3)) 22) rfl fun W d=>by simp[go_sem,exI,q5],.z (one_any _ aw),.g 27 0 h rfl,.z (mulQ J K (P:=P) (R:=V) Y (lt_M _ aw) hV),⟨⟩⟩ ⟨.k zPnt (.t rfl),⟨⟩⟩ fun ac v7 d a9 aD=>?_;simp only[fzw,Kw.a];obtain⟨⟨aH,C⟩,-⟩:(v6.heap.size≤(ac 12 0).2∧Vr v7 (ac 12 0).2 (pnQ V))∧True:=aD;clear a9;replace G:=G.trans d;replace D:=D.gr d;replace h:=h.gr d;replace f:=f.gr d;replace i:=i.gr d;replace l:=l.gr d;replace q:=q.gr d;replace x:=x.gr d;replace I:=fun k=>(I k).gr d;clear d
 go_upto_region 13 with fail
 refine wp_v true [.c (pv X 0),.c (.int .i64 k),.c (.int .u64 n1),.c (.int .u64 L),.c (.int .u64 m1),.N m1,.c (.agg (pnQ P)),.E (.agg (pnQ E)),.E (.agg (pnQ E)),.c (.agg (pnQ E)),.O,.a,.u,.O] [1,3,4,5,6,7] [⟨11,12,27,pnt 0 0 false,fun _=>pnQ E⟩] ⟨.o 3 0 D rfl rfl,.s (.binOp .quo 22 (.const (.int .u64 n1)) (.const (.int .u64 2)) 22) rfl fun W d=>by simp[go_sem,exI,q1],.s (.binOp .rem 22 (.const (.int .u64 L)) (.const (.int .u64 1000)) 22) rfl fun W d=>by simp[go_sem,exI,q4],.z (one_any _ av),.g 27 0 h rfl,.z (mulQ J K (P:=P) (R:=E) Y (lt_M _ av) hE),⟨⟩⟩ ⟨.k zPnt (.t rfl),⟨⟩⟩ fun ae v8 d ba aE=>?_;simp only[fzw,Kw.a];obtain⟨⟨aI,H⟩,-⟩:(v7.heap.size≤(ae 11 0).2∧Vr v8 (ae 11 0).2 (pnQ E))∧True:=aE;clear ba;replace G:=G.trans d;replace D:=D.gr d;replace h:=h.gr d;replace f:=f.gr d;replace i:=i.gr d;replace l:=l.gr d;replace q:=q.gr d;replace x:=x.gr d;replace C:=C.gr d;replace I:=fun k=>(I k).gr d;clear d
 go_upto_region 14 with fail
 refine wp_v true [.c (pv X 0),.c (.int .i64 k),.N 3,.c (.agg (pnQ E)),.E (.agg (pnQ V)),.E (.agg (pnQ V)),.c (.agg (pnQ V)),.O,.a,.u,.O] [1,2,3,4] [⟨8,9,27,pnt 0 0 false,fun _=>pnQ V⟩] ⟨.o 3 0 D rfl rfl,.z (one_any 3 (by decide)),.g 27 0 H rfl,.z (mulQ J K (P:=E) (R:=V) oE (lt_M _ (by decide)) aU),⟨⟩⟩ ⟨.k zPnt (.t rfl),⟨⟩⟩ fun af v9 d bb aG=>?_;simp only[fzw,Kw.a];obtain⟨⟨bc,S⟩,-⟩:(v8.heap.size≤(af 8 0).2∧Vr v9 (af 8 0).2 (pnQ V))∧True:=aG;clear bb;replace G:=G.trans d;replace D:=D.gr d;replace h:=h.gr d;replace f:=f.gr d;replace i:=i.gr d;replace l:=l.gr d;replace q:=q.gr d;replace x:=x.gr d;replace C:=C.gr d;replace H:=H.gr d;replace I:=fun k=>(I k).gr d;clear d
 go_upto_region 15 with fail
 refine wp_wS [.O,.O,.T,.T,.O,.O,.T,.T,.T,.O,.O,.T,.T,.T,.O,.O,.T,.T,.T,.c (.agg (pnQ T)),.c (.agg (pnQ T)),.T,.T,.T,.c (.agg (pnQ V)),.c (.agg (pnQ V)),.T,.T,.T,.c (pv X 0),.c (.int .i64 k),.c (.agg (pnQ U)),.T,.T,.T] [1,5,10,15,19,20,21,24,25,26,30,31,32] ?hs21 ?hf21
 case hs21=>
  exact⟨.y (num_any _),.y (num_any _),.y (num_any _),.y (num_any _),.g 27 0 l rfl,.g 27 0 q rfl,.s (.binOp .eql 27 (.const (.agg (pnQ T))) (.const (.agg (pnQ T))) 27) rfl fun W d=>by simp[go_sem,exI,eqPn,eqN_self],.g 27 0 C rfl,.g 27 0 S rfl,.s (.binOp .eql 27 (.const (.agg (pnQ V))) (.const (.agg (pnQ V))) 27) rfl fun W d=>by simp[go_sem,exI,eqPn,eqN_self],.o 3 0 D rfl rfl,.g 27 0 x rfl,.z (onQ_yes J K (P:=U) oU),⟨⟩⟩
 intro bf bg d bd;simp only[fzw];clear bd;replace G:=G.trans d;replace D:=D.gr d;replace h:=h.gr d;replace f:=f.gr d;replace i:=i.gr d;replace l:=l.gr d;replace q:=q.gr d;replace x:=x.gr d;replace C:=C.gr d;replace H:=H.gr d;replace S:=S.gr d;replace I:=fun k=>(I k).gr d;clear d
 go_wp2_with fail
 go_ret
 exact⟨rfl,G⟩
end
end
end Go.Proofs.YtffhepbppiocbaaGreat