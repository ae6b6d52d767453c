import Derived.Test.YtdomjicpdbblnaaXAZW
import Derived.Test.YtdomjicpdbblnaaXAZS
namespace Go.Proofs.Ytdomjicpdbblnaa
open Go.RowKit Go.Proofs.Try
set_option maxRecDepth 100000
set_option maxHeartbeats 8000000
section
attribute [local go_sem ↓] uz1
attribute [local go_sem] uz2
section
attribute [local go_sem] uz4
attribute [local go_sem ↓] uz7 Go.wp_at_zero Go.wp_at_succ
attribute [local go_sem] uz8
theorem len_facts{b c k j z:Nat}(e1:b/8+1=k)(e2:c/8+1=j)(kr:k≤73)(ks:j≤73)(hb:z=4+k+j):∃p q n1 n2 n3 n4 m:Nat,n3=2+z∧n4=3+z ∧
 (b:Int).tdiv 8=(p:Int)∧IntKind.i64.wrap (p:Int)=p∧IntKind.i64.wrap ((p:Int)+1)=(k:Int) ∧
 (c:Int).tdiv 8=(q:Int)∧IntKind.i64.wrap (q:Int)=q∧IntKind.i64.wrap ((q:Int)+1)=(j:Int) ∧
 IntKind.i64.wrap (4+(k:Int))=(n1:Int)∧IntKind.i64.wrap ((n1:Int)+2)=(n2:Int)∧IntKind.i64.wrap ((n2:Int)+j)=(n3:Int) ∧
 IntKind.i64.wrap ((k:Int)+j)=(m:Int)∧IntKind.i64.wrap ((m:Int)+4)=(z:Int)∧IntKind.i64.wrap ((n3:Int)+1)=(n4:Int)∧IntKind.i64.wrap (z:Int)=z:=
 ⟨b/8,c/8,4+k,4+k+2,4+k+2+j,4+k+2+j+1,k+j,by omega,by omega,by rw[Int.tdiv_eq_ediv_of_nonneg (by omega)];omega,by rw[IntKind.wrap_i64];omega,by rw[IntKind.wrap_i64];omega,by rw[Int.tdiv_eq_ediv_of_nonneg (by omega)];omega,by rw[IntKind.wrap_i64];omega,by rw[IntKind.wrap_i64];omega,by rw[IntKind.wrap_i64];omega,by rw[IntKind.wrap_i64];omega,by rw[IntKind.wrap_i64];omega,by rw[IntKind.wrap_i64];omega,by rw[IntKind.wrap_i64];omega,by rw[IntKind.wrap_i64];omega,by rw[IntKind.wrap_i64];omega⟩
theorem ixl{l m:List UInt8}{a:ByteArray}{v:Int}(i:Nat)(ha:⟨l.toArray⟩=a)(hm:l=m)(hi:i<m.length)(hv:((m.getD i 0).toNat:Int)=v)(w:World):(Instr.index 9 (.string a) (.int .i64 i)).run prog w=.ok (.int .u8 v) w:=by
 subst hm ha hv;exact ixTn l i hi w
theorem lzlen_short{r s:Nat}(hr:r<M)(hs:s<M)(hl:(bodD r s).length<128)(w:World):Cg 6 #[.agg (sgA r s)] w (.bool true):=by
 have I:=kD_le hr;have J:=kD_le hs;have l:=bodD_length r s;have K:bl r≤64*9:=bl_pwk r 9 hr;have L:bl s≤64*9:=bl_pwk s 9 hs
 have o:derD r s=48 :: UInt8.ofNat (bodD r s).length :: bodD r s:=by rw[derD,if_pos hl]
 obtain⟨a,x⟩:∃t:ByteArray,⟨(derD r s).toArray⟩=t:=⟨_,rfl⟩;obtain⟨k,P⟩:=exl (kD r);obtain⟨j,Q⟩:=exl (kD s);obtain⟨b,R⟩:=exl (bl r);obtain⟨c,S⟩:=exl (bl s);obtain⟨z,ez⟩:=exl ((bodD r s).length)
 have e1:b/8+1=k:=by rw[←P,←R];rfl
 have e2:c/8+1=j:=by rw[←Q,←S];rfl
 have la:a.size=2+z:=by rw[←x,sz_tx,o];simp only[List.length_cons];omega
 rw[P]at I l;rw[Q]at J l;rw[ez]at hl l o
 have H:((UInt8.ofNat z).toNat:Int)=(z:Int):=by rw[UInt8.toNat_ofNat'];omega
 have U:∀w,(Instr.index 9 (.string a) (.int .i64 0)).run prog w=.ok (.int .u8 48) w:=ixl 0 x o (by simp only[List.length_cons];omega) (rfl);have V:∀w,(Instr.index 9 (.string a) (.int .i64 1)).run prog w=.ok (.int .u8 z) w:=ixl 1 x o (by simp only[List.length_cons];omega) (H);obtain⟨p,q,n1,n2,A,n4,m,o3,o4,W,X,Y,Z,q2,q3,w1,w2,w3,B,C,w6,i⟩:=len_facts e1 e2 I J l
 have aa:¬(128:Int)≤z:=by clear W X Y Z q2 q3 w1 w2 w3 B C w6 i;omega
 have ab:(z:Int)<128:=by clear W X Y Z q2 q3 w1 w2 w3 B C w6 i;omega
 have ac:(a.size:Int)=(A:Int):=by rw[la,o3]
 have ad:Hid (∀w,Cg 16 #[.agg (nw 9 r)] w (.int .i64 b)):=fun w=>R▸bits_any r hr w;have ae:Hid (∀w,Cg 16 #[.agg (nw 9 s)] w (.int .i64 c)):=fun w=>S▸bits_any s hs w;have HP:Hid (∀w,Cg 11 #[.agg (sgA r s)] w (.string a)):=fun w=>x▸dput_any hr hs w;have af:Hid (∀w,Cg 15 #[] w (.bool true)):=fun w=>awake22_any w;clear x o P Q R S ez e1 e2 la hl l H I J K L hr hs o3 o4 w6
 go_enter func6,ntmps6
 go_upto_region 1 with fail
 refine gen_w (fun v=>Gr w v∧Vr v (w.heap.size) (sgA r s)) ⟨grA,vrA⟩ ?_;rintro v0 ⟨G,D⟩;refine wp_wS [.T,.F] [0] ⟨.z af.out,⟨⟩⟩ fun ag v1 d h1=>?_;simp only[fzw];clear h1;have h:=d;clear d
 go_upto_region 3 with fail
 refine wp_w [.c (pv (w.heap.size) 0),.N r,.c (.int .i64 b),.c (.int .i64 p),.c (.int .i64 k),.c (pv (w.heap.size) 9),.N s,.c (.int .i64 c),.c (.int .i64 q),.c (.int .i64 j),.c (.int .i64 k),.c (.int .i64 j)] [1,2,3,4,6,7,8,9] ⟨.g 25 0 (D.gr h) rfl,.z ad.out,.s (.binOp .quo 3 (.const (.int .i64 b)) (.const (.int .i64 8)) 3) rfl fun f d=>by simp[go_sem,exI,W,X],.s (.binOp .add 3 (.const (.int .i64 p)) (.const (.int .i64 1)) 3) rfl fun f d=>by simp[go_sem,exI,Y],.g 25 9 (D.gr h) rfl,.z ae.out,.s (.binOp .quo 3 (.const (.int .i64 c)) (.const (.int .i64 8)) 3) rfl fun f d=>by simp[go_sem,exI,Z,q2],.s (.binOp .add 3 (.const (.int .i64 q)) (.const (.int .i64 1)) 3) rfl fun f d=>by simp[go_sem,exI,q3],⟨⟩⟩ fun ah v2 d h3=>?_;simp only[fzw];clear h3;replace h:=h.trans d;clear d
 go_upto_region 4 with fail
 refine wp_wS [.c (.int .i64 k),.c (.int .i64 n1),.c (.int .i64 n2),.c (.int .i64 j),.c (.int .i64 A),.c (.int .i64 A)] [1,2,4] ⟨.s (.binOp .add 3 (.const (.int .i64 4)) (.const (.int .i64 k)) 3) rfl fun f d=>by simp[go_sem,exI,w1],.s (.binOp .add 3 (.const (.int .i64 n1)) (.const (.int .i64 2)) 3) rfl fun f d=>by simp[go_sem,exI,w2],.s (.binOp .add 3 (.const (.int .i64 n2)) (.const (.int .i64 j)) 3) rfl fun f d=>by simp[go_sem,exI,w3],⟨⟩⟩ fun ai v3 d h4=>?_;simp only[fzw];clear h4;replace h:=h.trans d;clear d
 go_upto_region 5 with fail
 refine wp_wS [.c (.int .i64 k),.c (.int .i64 j),.c (.int .i64 m),.c (.int .i64 z),.F] [2,3,4] ⟨.s (.binOp .add 3 (.const (.int .i64 k)) (.const (.int .i64 j)) 3) rfl fun f d=>by simp[go_sem,exI,B],.s (.binOp .add 3 (.const (.int .i64 m)) (.const (.int .i64 4)) 3) rfl fun f d=>by simp[go_sem,exI,C],.s (.binOp .geq 3 (.const (.int .i64 z)) (.const (.int .i64 128)) 3) rfl fun f d=>by simp[go_sem,exI,aa],⟨⟩⟩ fun aj v4 d h5=>?_;simp only[fzw];clear h5;replace h:=h.trans d;clear d
 go_upto_region 7 with fail
 refine wp_wS [.c (.agg (sgA r s)),.c (.string a),.c (.string a)] [0,1] ⟨.g 27 0 (D.gr h) rfl,.z HP.out,⟨⟩⟩ fun ak v5 d h7=>?_;simp only[fzw];clear h7;replace h:=h.trans d;clear d
 go_upto_region 8 with fail
 refine wp_wS [.c (.string a),.c (.int .i64 (a.size:Int)),.c (.int .i64 A),.T,.T,.c (.string a),.c (.int .u8 48),.T,.T,.T,.c (.int .i64 k),.c (.int .i64 j),.c (.int .i64 m),.c (.int .i64 z),.T,.T,.c (.string a),.c (.int .u8 z),.c (.int .i64 z),.c (.int .i64 k),.c (.int .i64 j),.c (.int .i64 m),.c (.int .i64 z),.T,.T,.T,.u,.u,.u,.u,.u,.u,.u,.u,.u,.u,.u,.u,.u,.u,.u,.u,.u,.u,.u,.u,.T,.T,.T] [3,6,12,13,14,17,18,21,22,23] ?hs6 ?hf6
 case hs6=>
  exact⟨.s (.binOp .eql 3 (.const (.int .i64 (a.size:Int))) (.const (.int .i64 A)) 3) rfl fun f d=>by simp[go_sem,exI,ac],.s (.index 9 (.const (.string a)) (.const (.int .i64 0))) rfl fun f d=>by simp[go_sem,exI,U],.s (.binOp .add 3 (.const (.int .i64 k)) (.const (.int .i64 j)) 3) rfl fun f d=>by simp[go_sem,exI,B],.s (.binOp .add 3 (.const (.int .i64 m)) (.const (.int .i64 4)) 3) rfl fun f d=>by simp[go_sem,exI,C],.s (.binOp .lss 3 (.const (.int .i64 z)) (.const (.int .i64 128)) 3) rfl fun f d=>by simp[go_sem,exI,ab],.s (.index 9 (.const (.string a)) (.const (.int .i64 1))) rfl fun f d=>by simp[go_sem,exI,V],.s (.convert 5 3 (.const (.int .u8 z))) rfl fun f d=>by simp[go_sem,exI,i],.s (.binOp .add 3 (.const (.int .i64 k)) (.const (.int .i64 j)) 3) rfl fun f d=>by simp[go_sem,exI,B],.s (.binOp .add 3 (.const (.int .i64 m)) (.const (.int .i64 4)) 3) rfl fun f d=>by simp[go_sem,exI,C],.s (.binOp .eql 3 (.const (.int .i64 z)) (.const (.int .i64 z)) 3) rfl fun f d=>by simp[go_sem,exI],⟨⟩⟩
 intro ao v6 d H;simp only[fzw];clear H;replace h:=h.trans d;clear d;replace G:=G.trans h;replace D:=D.gr h;clear h
 go_wp2_with fail
 go_ret
 exact⟨rfl,G⟩
theorem lzlen_far{r s:Nat}(hr:r<M)(hs:s<M)(hl:¬(bodD r s).length<128)(w:World):Cg 6 #[.agg (sgA r s)] w (.bool true):=by
 have I:=kD_le hr;have J:=kD_le hs;have B:=bodD_length r s;have K:bl r≤64*9:=bl_pwk r 9 hr;have L:bl s≤64*9:=bl_pwk s 9 hs
 have l:derD r s=48 :: 129 :: UInt8.ofNat (bodD r s).length :: bodD r s:=by rw[derD,if_neg hl]
 obtain⟨a,o⟩:∃t:ByteArray,⟨(derD r s).toArray⟩=t:=⟨_,rfl⟩;obtain⟨k,P⟩:=exl (kD r);obtain⟨j,Q⟩:=exl (kD s);obtain⟨b,R⟩:=exl (bl r);obtain⟨c,S⟩:=exl (bl s);obtain⟨z,ez⟩:=exl ((bodD r s).length)
 have e1:b/8+1=k:=by rw[←P,←R];rfl
 have e2:c/8+1=j:=by rw[←Q,←S];rfl
 have la:a.size=3+z:=by rw[←o,sz_tx,l];simp only[List.length_cons];omega
 rw[P]at I B;rw[Q]at J B;rw[ez]at hl B l
 have H:((UInt8.ofNat z).toNat:Int)=(z:Int):=by rw[UInt8.toNat_ofNat'];omega
 have U:∀w,(Instr.index 9 (.string a) (.int .i64 0)).run prog w=.ok (.int .u8 48) w:=ixl 0 o l (by simp only[List.length_cons];omega) (rfl);have V:∀w,(Instr.index 9 (.string a) (.int .i64 1)).run prog w=.ok (.int .u8 129) w:=ixl 1 o l (by simp only[List.length_cons];omega) (rfl);have W:∀w,(Instr.index 9 (.string a) (.int .i64 2)).run prog w=.ok (.int .u8 z) w:=ixl 2 o l (by simp only[List.length_cons];omega) (H);obtain⟨p,q,n1,n2,n3,X,m,o3,o4,Y,Z,p3,q1,q2,q3,w1,w2,w3,x,A,w6,i⟩:=len_facts e1 e2 I J B
 have C:(128:Int)≤z:=by clear Y Z p3 q1 q2 q3 w1 w2 w3 x A w6 i;omega
 have aa:¬(z:Int)<128:=by clear Y Z p3 q1 q2 q3 w1 w2 w3 x A w6 i;omega
 have ab:(a.size:Int)=(X:Int):=by rw[la,o4]
 have ac:Hid (∀w,Cg 16 #[.agg (nw 9 r)] w (.int .i64 b)):=fun w=>R▸bits_any r hr w;have ad:Hid (∀w,Cg 16 #[.agg (nw 9 s)] w (.int .i64 c)):=fun w=>S▸bits_any s hs w;have HP:Hid (∀w,Cg 11 #[.agg (sgA r s)] w (.string a)):=fun w=>o▸dput_any hr hs w;have ae:Hid (∀w,Cg 15 #[] w (.bool true)):=fun w=>awake22_any w;clear o l P Q R S ez e1 e2 la hl B H I J K L hr hs o3 o4
 go_enter func6,ntmps6
 go_upto_region 1 with fail
 refine gen_w (fun v=>Gr w v∧Vr v (w.heap.size) (sgA r s)) ⟨grA,vrA⟩ ?_;rintro v0 ⟨G,D⟩;refine wp_wS [.T,.F] [0] ⟨.z ae.out,⟨⟩⟩ fun af v1 d h1=>?_;simp only[fzw];clear h1;have h:=d;clear d
 go_upto_region 3 with fail
 refine wp_w [.c (pv (w.heap.size) 0),.N r,.c (.int .i64 b),.c (.int .i64 p),.c (.int .i64 k),.c (pv (w.heap.size) 9),.N s,.c (.int .i64 c),.c (.int .i64 q),.c (.int .i64 j),.c (.int .i64 k),.c (.int .i64 j)] [1,2,3,4,6,7,8,9] ⟨.g 25 0 (D.gr h) rfl,.z ac.out,.s (.binOp .quo 3 (.const (.int .i64 b)) (.const (.int .i64 8)) 3) rfl fun f d=>by simp[go_sem,exI,Y,Z],.s (.binOp .add 3 (.const (.int .i64 p)) (.const (.int .i64 1)) 3) rfl fun f d=>by simp[go_sem,exI,p3],.g 25 9 (D.gr h) rfl,.z ad.out,.s (.binOp .quo 3 (.const (.int .i64 c)) (.const (.int .i64 8)) 3) rfl fun f d=>by simp[go_sem,exI,q1,q2],.s (.binOp .add 3 (.const (.int .i64 q)) (.const (.int .i64 1)) 3) rfl fun f d=>by simp[go_sem,exI,q3],⟨⟩⟩ fun ag v2 d h3=>?_;simp only[fzw];clear h3;replace h:=h.trans d;clear d
 go_upto_region 4 with fail
 refine wp_wS [.c (.int .i64 k),.c (.int .i64 n1),.c (.int .i64 n2),.c (.int .i64 j),.c (.int .i64 n3),.c (.int .i64 n3)] [1,2,4] ⟨.s (.binOp .add 3 (.const (.int .i64 4)) (.const (.int .i64 k)) 3) rfl fun f d=>by simp[go_sem,exI,w1],.s (.binOp .add 3 (.const (.int .i64 n1)) (.const (.int .i64 2)) 3) rfl fun f d=>by simp[go_sem,exI,w2],.s (.binOp .add 3 (.const (.int .i64 n2)) (.const (.int .i64 j)) 3) rfl fun f d=>by simp[go_sem,exI,w3],⟨⟩⟩ fun ah v3 d h4=>?_;simp only[fzw];clear h4;replace h:=h.trans d;clear d
 go_upto_region 5 with fail
 refine wp_wS [.c (.int .i64 k),.c (.int .i64 j),.c (.int .i64 m),.c (.int .i64 z),.T] [2,3,4] ⟨.s (.binOp .add 3 (.const (.int .i64 k)) (.const (.int .i64 j)) 3) rfl fun f d=>by simp[go_sem,exI,x],.s (.binOp .add 3 (.const (.int .i64 m)) (.const (.int .i64 4)) 3) rfl fun f d=>by simp[go_sem,exI,A],.s (.binOp .geq 3 (.const (.int .i64 z)) (.const (.int .i64 128)) 3) rfl fun f d=>by simp[go_sem,exI,C],⟨⟩⟩ fun ai v4 d h5=>?_;simp only[fzw];clear h5;replace h:=h.trans d;clear d
 go_upto_region 7 with fail
 refine wp_wS [.c (.agg (sgA r s)),.c (.string a),.c (.string a)] [0,1] ⟨.g 27 0 (D.gr h) rfl,.z HP.out,⟨⟩⟩ fun aj v5 d h7=>?_;simp only[fzw];clear h7;replace h:=h.trans d;clear d
 go_upto_region 8 with fail
 refine wp_wS [.c (.string a),.c (.int .i64 (a.size:Int)),.c (.int .i64 X),.T,.T,.c (.string a),.c (.int .u8 48),.T,.T,.T,.c (.int .i64 k),.c (.int .i64 j),.c (.int .i64 m),.c (.int .i64 z),.F,.F,.u,.u,.u,.u,.u,.u,.u,.u,.F,.F,.c (.int .i64 k),.c (.int .i64 j),.c (.int .i64 m),.c (.int .i64 z),.T,.T,.c (.string a),.c (.int .u8 129),.T,.T,.T,.c (.string a),.c (.int .u8 z),.c (.int .i64 z),.c (.int .i64 k),.c (.int .i64 j),.c (.int .i64 m),.c (.int .i64 z),.T,.T,.T,.T,.T] [3,6,12,13,14,28,29,30,33,38,39,42,43,44] ?hs12 ?hf12
 case hs12=>
  exact⟨.s (.binOp .eql 3 (.const (.int .i64 (a.size:Int))) (.const (.int .i64 X)) 3) rfl fun f d=>by simp[go_sem,exI,ab],.s (.index 9 (.const (.string a)) (.const (.int .i64 0))) rfl fun f d=>by simp[go_sem,exI,U],.s (.binOp .add 3 (.const (.int .i64 k)) (.const (.int .i64 j)) 3) rfl fun f d=>by simp[go_sem,exI,x],.s (.binOp .add 3 (.const (.int .i64 m)) (.const (.int .i64 4)) 3) rfl fun f d=>by simp[go_sem,exI,A],.s (.binOp .lss 3 (.const (.int .i64 z)) (.const (.int .i64 128)) 3) rfl fun f d=>by simp[go_sem,exI,aa],.s (.binOp .add 3 (.const (.int .i64 k)) (.const (.int .i64 j)) 3) rfl fun f d=>by simp[go_sem,exI,x],.s (.binOp .add 3 (.const (.int .i64 m)) (.const (.int .i64 4)) 3) rfl fun f d=>by simp[go_sem,exI,A],.s (.binOp .geq 3 (.const (.int .i64 z)) (.const (.int .i64 128)) 3) rfl fun f d=>by simp[go_sem,exI,C],.s (.index 9 (.const (.string a)) (.const (.int .i64 1))) rfl fun f d=>by simp[go_sem,exI,V],.s (.index 9 (.const (.string a)) (.const (.int .i64 2))) rfl fun f d=>by simp[go_sem,exI,W],.s (.convert 5 3 (.const (.int .u8 z))) rfl fun f d=>by simp[go_sem,exI,i],.s (.binOp .add 3 (.const (.int .i64 k)) (.const (.int .i64 j)) 3) rfl fun f d=>by simp[go_sem,exI,x],.s (.binOp .add 3 (.const (.int .i64 m)) (.const (.int .i64 4)) 3) rfl fun f d=>by simp[go_sem,exI,A],.s (.binOp .eql 3 (.const (.int .i64 z)) (.const (.int .i64 z)) 3) rfl fun f d=>by simp[go_sem,exI],⟨⟩⟩
 intro ak v6 d H;simp only[fzw];clear H;replace h:=h.trans d;clear d;replace G:=G.trans h;replace D:=D.gr h;clear h
 go_wp2_with fail
 go_ret
 exact⟨rfl,G⟩
theorem lzlen_any{r s:Nat}(hr:r<M)(hs:s<M)(w:World):Cg 6 #[.agg (sgA r s)] w (.bool true):=by
 by_cases h:(bodD r s).length<128
 ·exact lzlen_short hr hs h w
 ·exact lzlen_far hr hs h w
end
end
end Go.Proofs.Ytdomjicpdbblnaa