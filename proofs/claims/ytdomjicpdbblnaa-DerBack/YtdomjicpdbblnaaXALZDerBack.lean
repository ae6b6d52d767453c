import Derived.Test.YtdomjicpdbblnaaXAZW
namespace Go.Proofs.Ytdomjicpdbblnaa
open Go.RowKit Go.Proofs.Try
set_option maxRecDepth 100000
set_option maxHeartbeats 8000000
section
attribute [local go_sem ↓] uz1
attribute [local go_sem] uz2
section
attribute [local go_sem] uz4
attribute [local go_sem ↓] uz7 Go.wp_at_zero Go.wp_at_succ
attribute [local go_sem] uz8
theorem lzback_yes{r s:Nat}(hr:r<M)(hs:s<M){l:List UInt8}{X Y:Nat}(hD:isD l X Y)(w:World):Cg 4 #[.agg (sgA r s),.string ⟨l.toArray⟩] w (.bool true):=by
 obtain⟨t,p⟩:∃t:ByteArray,⟨l.toArray⟩=t:=⟨_,rfl⟩;have I:=getA_yes hD;obtain⟨o,x⟩:∃t:ByteArray,⟨(derD r s).toArray⟩=t:=⟨_,rfl⟩;have Q:Hid (∀w,Cg 9 #[.string t] w (.tuple #[.agg (sgA X Y),.int .i64 0])):=fun w=>p▸dget_any I w;have A:Hid (∀w,Cg 9 #[.string o] w (.tuple #[.agg (sgA r s),.int .i64 0])):=fun w=>x▸dget_any (getA_yes ⟨hr,hs,rfl⟩) w;have B:Hid (∀w,Cg 11 #[.agg (sgA r s)] w (.string o)):=fun w=>x▸dput_any hr hs w
 have R:Hid (∀w,Cg 11 #[.agg (sgA X Y)] w (.string t)):=fun w=>by have:=dput_any hD.1 hD.2.1 w;rwa [←hD.2.2,p]at this
 have C:Hid (∀w,Cg 15 #[] w (.bool true)):=fun w=>awake22_any w;rw[p];clear x p I hD
 go_enter func4,ntmps4
 go_upto_region 1 with fail
 refine gen_w (fun v=>Gr w v∧Vr v (w.heap.size) (sgA r s)) ⟨grA,vrA⟩ ?_;rintro v0 ⟨G,q⟩;refine wp_wS [.T,.F] [0] ⟨.z C.out,⟨⟩⟩ fun S U b V=>?_;simp only[fzw];clear V;have d:=b;clear b
 go_upto_region 3 with fail
 refine wp_v false [.c (.agg (sgA r s)),.c (.string o),.E (.agg (sgA r s)),.E (.agg (sgA r s)),.c (.agg (sgA r s)),.O,.a,.u,.O] [0,1,2] [⟨6,7,27,sgA 0 0,fun _=>sgA r s⟩] ⟨.g 27 0 (q.gr d) rfl,.z B.out,.z A.out,⟨⟩⟩ ⟨.k zSg (.t rfl),⟨⟩⟩ fun i J b W D=>?_;simp only[fzw,Kw.a];obtain⟨⟨K,f⟩,-⟩:(U.heap.size≤(i 6 0).2∧Vr J (i 6 0).2 (sgA r s))∧True:=D;clear W;replace d:=d.trans b;clear b
 go_upto_region 4 with fail
 refine wp_v false [.c (.string t),.E (.agg (sgA X Y)),.E (.agg (sgA X Y)),.c (.agg (sgA X Y)),.O,.a,.u,.O] [1] [⟨5,6,27,sgA 0 0,fun _=>sgA X Y⟩] ⟨.z Q.out,⟨⟩⟩ ⟨.k zSg (.t rfl),⟨⟩⟩ fun j Z b h4 H=>?_;simp only[fzw,Kw.a];obtain⟨⟨L,h⟩,-⟩:(J.heap.size≤(j 5 0).2∧Vr Z (j 5 0).2 (sgA X Y))∧True:=H;clear h4;replace d:=d.trans b;have m:=b;clear b
 go_upto_region 5 with fail
 refine wp_wS [.O,.O,.T,.T,.c (.agg (sgA r s)),.c (.agg (sgA r s)),.T,.T,.T,.O,.O,.F,.F,.u,.u,.u,.F,.F,.O,.O,.T,.T,.c (.agg (sgA X Y)),.c (.string t),.c (.string t),.T,.T,.T,.T,.T] [1,4,5,6,10,19,22,23,25] ⟨.y (num_any _),.g 27 0 (f.gr m) rfl,.g 27 0 (q.gr d) rfl,.s (.binOp .eql 27 (.const (.agg (sgA r s))) (.const (.agg (sgA r s))) 27) rfl fun vv b=>by simp[go_sem,exI,eqSg,eqN_self],.y (num_any _),.y (num_any _),.g 27 0 h rfl,.z R.out,.s (.binOp .eql 9 (.const (.string t)) (.const (.string t)) 9) rfl fun vv b=>by simp[go_sem,exI],⟨⟩⟩ fun aa v4 b h5=>?_;simp only[fzw];clear h5;replace d:=d.trans b;replace m:=m.trans b;have P:=b;clear b;replace G:=G.trans d;replace q:=q.gr d;replace f:=f.gr m;replace h:=h.gr P;clear d m P
 go_wp2_with fail
 go_ret
 exact⟨rfl,G⟩
theorem lzback_no{r s:Nat}(hr:r<M)(hs:s<M){l:List UInt8}(hX:getA l=(0,0,2200))(w:World):Cg 4 #[.agg (sgA r s),.string ⟨l.toArray⟩] w (.bool true):=by
 obtain⟨t,q⟩:∃t:ByteArray,⟨l.toArray⟩=t:=⟨_,rfl⟩;obtain⟨o,x⟩:∃t:ByteArray,⟨(derD r s).toArray⟩=t:=⟨_,rfl⟩;have P:Hid (∀w,Cg 9 #[.string t] w (.tuple #[.agg (sgA 0 0),.int .i64 2200])):=fun w=>q▸dget_any hX w;have A:Hid (∀w,Cg 9 #[.string o] w (.tuple #[.agg (sgA r s),.int .i64 0])):=fun w=>x▸dget_any (getA_yes ⟨hr,hs,rfl⟩) w;have B:Hid (∀w,Cg 11 #[.agg (sgA r s)] w (.string o)):=fun w=>x▸dput_any hr hs w;have C:Hid (∀w,Cg 15 #[] w (.bool true)):=fun w=>awake22_any w;rw[q];clear x q hX
 go_enter func4,ntmps4
 go_upto_region 1 with fail
 refine gen_w (fun v=>Gr w v∧Vr v (w.heap.size) (sgA r s)) ⟨grA,vrA⟩ ?_;rintro v0 ⟨G,p⟩;refine wp_wS [.T,.F] [0] ⟨.z C.out,⟨⟩⟩ fun Q R b S=>?_;simp only[fzw];clear S;have d:=b;clear b
 go_upto_region 3 with fail
 refine wp_v false [.c (.agg (sgA r s)),.c (.string o),.E (.agg (sgA r s)),.E (.agg (sgA r s)),.c (.agg (sgA r s)),.O,.a,.u,.O] [0,1,2] [⟨6,7,27,sgA 0 0,fun _=>sgA r s⟩] ⟨.g 27 0 (p.gr d) rfl,.z B.out,.z A.out,⟨⟩⟩ ⟨.k zSg (.t rfl),⟨⟩⟩ fun i I b U D=>?_;simp only[fzw,Kw.a];obtain⟨⟨J,f⟩,-⟩:(R.heap.size≤(i 6 0).2∧Vr I (i 6 0).2 (sgA r s))∧True:=D;clear U;replace d:=d.trans b;clear b
 go_upto_region 4 with fail
 refine wp_v false [.c (.string t),.c (.tuple #[.agg (sgA 0 0),.int .i64 2200]),.c (.tuple #[.agg (sgA 0 0),.int .i64 2200]),.c (.agg (sgA 0 0)),.c (.int .i64 2200),.a,.u,.c (.int .i64 2200)] [1] [⟨5,6,27,sgA 0 0,fun _=>sgA 0 0⟩] ⟨.z P.out,⟨⟩⟩ ⟨.k zSg (.t rfl),⟨⟩⟩ fun j V b W H=>?_;simp only[fzw,Kw.a];obtain⟨⟨K,h⟩,-⟩:(I.heap.size≤(j 5 0).2∧Vr V (j 5 0).2 (sgA 0 0))∧True:=H;clear W;replace d:=d.trans b;have m:=b;clear b
 go_upto_region 5 with fail
 refine wp_wS [.O,.O,.T,.T,.c (.agg (sgA r s)),.c (.agg (sgA r s)),.T,.T,.T,.c (.int .i64 2200),.c (.int .i64 2200),.T,.T,.c (.agg (sgA 0 0)),.c (.agg (sgA 0 0)),.T,.T,.T,.u,.u,.u,.u,.u,.u,.u,.u,.u,.T,.T,.T] [1,4,5,6,10,13,15] ⟨.y (num_any _),.g 27 0 (f.gr m) rfl,.g 27 0 (p.gr d) rfl,.s (.binOp .eql 27 (.const (.agg (sgA r s))) (.const (.agg (sgA r s))) 27) rfl fun X b=>by simp[go_sem,exI,eqSg,eqN_self],.y (num_any _),.g 27 0 h rfl,.s (.binOp .eql 27 (.const (.agg (sgA 0 0))) (.const (.agg (sgA 0 0))) 27) rfl fun X b=>by simp[go_sem,exI,eqSg,eqN_self],⟨⟩⟩ fun Y v4 b Z=>?_;simp only[fzw];clear Z;replace d:=d.trans b;replace m:=m.trans b;have L:=b;clear b;replace G:=G.trans d;replace p:=p.gr d;replace f:=f.gr m;replace h:=h.gr L;clear d m L
 go_wp2_with fail
 go_ret
 exact⟨rfl,G⟩
theorem lzback_any{r s:Nat}(hr:r<M)(hs:s<M)(t:ByteArray)(w:World):Cg 4 #[.agg (sgA r s),.string t] w (.bool true):=by
 obtain⟨l,rfl⟩:∃l:List UInt8,⟨l.toArray⟩=t:=⟨t.data.toList,by rw[Array.toArray_toList]⟩
 obtain⟨X,Y,b,-⟩|⟨-,hX⟩:=getA_cases l
 ·exact lzback_yes hr hs b w
 ·exact lzback_no hr hs hX w
end
end
end Go.Proofs.Ytdomjicpdbblnaa