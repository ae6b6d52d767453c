import Derived.Test.YtdomjicpdbblnaaXAZW
import Derived.Test.YtdomjicpdbblnaaXAZU
namespace Go.Proofs.Ytdomjicpdbblnaa
open Go.RowKit Go.Proofs.Try
set_option maxRecDepth 100000
set_option maxHeartbeats 8000000
section
attribute [local go_sem ↓] uz1
attribute [local go_sem] uz2
section
attribute [local go_sem] uz4
attribute [local go_sem ↓] uz7 Go.wp_at_zero Go.wp_at_succ
attribute [local go_sem] uz8
theorem lzders_any{r s:Nat}(hr:r<M)(hs:s<M)(t:ByteArray)(w:World):Cg 3 #[.agg (sgA r s),.string t] w (.bool true):=by
 obtain⟨l,H⟩:∃l:List UInt8,⟨l.toArray⟩=t:=⟨t.data.toList,by rw[Array.toArray_toList]⟩;obtain⟨⟨X,Y,E⟩,I⟩:∃z,getA l=z:=⟨_,rfl⟩;obtain⟨o,J⟩:∃t:ByteArray,⟨(derD r s).toArray⟩=t:=⟨_,rfl⟩;have V:Hid (∀w,Cg 9 #[.string t] w (.tuple #[.agg (sgA X Y),.int .i64 E])):=fun w=>H▸dget_any I w;have W:Hid (∀w,Cg 10 #[.string t] w (.tuple #[.agg (sgA X Y),.int .i64 E])):=fun w=>H▸rundo_any I w;have Z:Hid (∀w,Cg 11 #[.agg (sgA r s)] w (.string o)):=fun w=>J▸dput_any hr hs w;have HD:Hid (∀w p q m n,Sl w p r→Sl w q s→Cg 12 #[.slice p (dl r) m,.slice q (dl s) n] w (.string o)):=fun w p q m n hp hq=>J▸rder_any hp hq hr hs;have K:Hid (∀w,Cg 15 #[] w (.bool true)):=fun w=>awake22_any w;clear J H I
 go_enter func3,ntmps3
 go_upto_region 1 with fail
 refine gen_w (fun v=>Gr w v∧Vr v (w.heap.size) (sgA r s)) ⟨grA,vrA⟩ ?_;rintro v0 ⟨G,j⟩;refine wp_v false [.c (.string t),.c (.tuple #[.agg (sgA X Y),.int .i64 E]),.c (.tuple #[.agg (sgA X Y),.int .i64 E]),.c (.agg (sgA X Y)),.c (.int .i64 E),.a,.u,.c (.int .i64 E)] [1] [⟨5,6,27,sgA 0 0,fun _=>sgA X Y⟩] ⟨.z V.out,⟨⟩⟩ ⟨.k zSg (.t rfl),⟨⟩⟩ fun x Q b h1 L=>?_;simp only[fzw,Kw.a];obtain⟨⟨R,d⟩,-⟩:(v0.heap.size≤(x 5 0).2∧Vr Q (x 5 0).2 (sgA X Y))∧True:=L;clear h1;have h:=b;clear b
 go_upto_region 2 with fail
 refine wp_v false [.c (.string t),.c (.tuple #[.agg (sgA X Y),.int .i64 E]),.c (.tuple #[.agg (sgA X Y),.int .i64 E]),.c (.agg (sgA X Y)),.c (.int .i64 E),.a,.u,.c (.int .i64 E)] [1] [⟨5,6,27,sgA 0 0,fun _=>sgA X Y⟩] ⟨.z W.out,⟨⟩⟩ ⟨.k zSg (.t rfl),⟨⟩⟩ fun A v2 b h2 P=>?_;simp only[fzw,Kw.a];obtain⟨⟨S,f⟩,-⟩:(Q.heap.size≤(A 5 0).2∧Vr v2 (A 5 0).2 (sgA X Y))∧True:=P;clear h2;replace h:=h.trans b;have B:=b;clear b
 go_upto_region 3 with fail
 refine wp_w [.c (.agg (sgA r s)),.c (.string o),.c (pv (w.heap.size) 0),.N r,.n (r),.c (pv (w.heap.size) 9),.N s,.n (s),.c (.string o),.T,.T,.c (.agg (sgA X Y)),.c (.agg (sgA X Y)),.T,.T,.T,.c (.int .i64 E),.c (.int .i64 E),.c (.int .i64 E),.T,.T,.T,.T,.T,.T] [0,1,3,4,6,7,8,9,11,12,13,17,19,22] ⟨.g 27 0 (j.gr h) rfl,.z Z.out,.g 25 0 (j.gr h) rfl,.k _ fun i C b D=>RtW.of_n (Rt.n (from_any r hr _)),.g 25 9 (j.gr h) rfl,.k _ fun i C b D=>RtW.of_n (Rt.n (from_any s hs _)),.k (fun i =>#[.slice (i 4 0).1 (dl (r)) (i 4 0).2,.slice (i 7 0).1 (dl (s)) (i 7 0).2]) fun i C b D=>RtW.of_c (Rt.c (HD.out _ _ _ _ _ (D 4 rfl) (D 7 rfl))),.s (.binOp .eql 9 (.const (.string o)) (.const (.string o)) 9) rfl fun C b=>by simp[go_sem,exI],.g 27 0 (d.gr B) rfl,.g 27 0 f rfl,.s (.binOp .eql 27 (.const (.agg (sgA X Y))) (.const (.agg (sgA X Y))) 27) rfl fun C b=>by simp[go_sem,exI,eqSg,eqN_self],.y (num_any _),.s (.binOp .eql 3 (.const (.int .i64 E)) (.const (.int .i64 E)) 3) rfl fun C b=>by simp[go_sem,exI],.z K.out,⟨⟩⟩ fun aa v3 b h3=>?_;simp only[fzw];clear h3;replace h:=h.trans b;replace B:=B.trans b;have U:=b;clear b;replace G:=G.trans h;replace j:=j.gr h;replace d:=d.gr B;replace f:=f.gr U;clear h B U
 go_wp2_with fail
 go_ret
 exact⟨rfl,G⟩
end
end
end Go.Proofs.Ytdomjicpdbblnaa