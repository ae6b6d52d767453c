import Derived.Test.YtdomjicpdbblnaaXAZW
namespace Go.Proofs.Ytdomjicpdbblnaa
open Go.RowKit Go.Proofs.Try
set_option maxRecDepth 100000
set_option maxHeartbeats 8000000
section
attribute [local go_sem ↓] uz1
attribute [local go_sem] uz2
section
attribute [local go_sem] uz4
attribute [local go_sem ↓] uz7 Go.wp_at_zero Go.wp_at_succ
attribute [local go_sem] uz8
def tp(a v:Nat):Nat:=a%pw 8+v*pw 8
theorem wd_tp{a v:Nat}(hv:v<18446744073709551616):wd (tp a v) 8=v:=by
 unfold wd tp;rw[div_at _ _ _ (Nat.mod_lt _ (pw_pos 8)),Nat.mod_eq_of_lt hv]
theorem tp_bd(a v:Nat):v*pw 8≤tp a v∧tp a v<(v+1)*pw 8:=by
 have:=Nat.mod_lt a (pw_pos 8);unfold tp;rw[Nat.add_mul]
 omega
theorem tp_lt{a v:Nat}(hv:v<18446744073709551616):tp a v<M:=by
 have b:(v+1)*pw 8≤18446744073709551616*pw 8:=Nat.mul_le_mul_right _ hv;have d:M=pw 8*18446744073709551616:=pow_succ64 8;have:=(tp_bd a v).2
 omega
theorem bl_tp{a v n:Nat}(h1:2^n≤v)(h2:v<2^(n+1)):bl (tp a v)=n+513:=by
 obtain⟨K,f⟩:=exl (64*8)
 have e:pw 8=2^K:=by unfold pw;rw[f]
 have b:2^(n+K)≤tp a v:=by
  rw[Nat.pow_add,←e];exact Nat.le_trans (Nat.mul_le_mul_right _ h1) (tp_bd a v).1
 have d:tp a v<2^(n+1+K):=by
  rw[Nat.pow_add,←e];exact Nat.lt_of_lt_of_le (tp_bd a v).2 (Nat.mul_le_mul_right _ h2)
 have i:=(bl_le (tp a v) (n+1+K)).2 d;have j:n+K<bl (tp a v):=Nat.lt_of_not_le fun h=>Nat.not_lt.2 b ((bl_le _ _).1 h);clear b d e h1 h2
 omega
theorem sgA_at8{a b:Nat}:(sgA a b)[8]? = some (.int .u64 ((wd a 8:Nat):Int)):=by
 unfold sgA;rw[Array.getElem?_append_left (by rw[nw_size];decide),nw_get 9 a 8 (by decide)]
theorem sgA_tp{a b v:Nat}(ha:a<M)(hv:v<18446744073709551616):(sgA a b).setIfInBounds 8 (.int .u64 v)=sgA (tp a v) b:=by
 unfold sgA;rw[Array.setIfInBounds_append_left (by rw[nw_size];decide),nw_set 9 a 8 v hv,Nat.div_eq_of_lt (show a<pw (8+1) from ha),Nat.zero_mul,Nat.add_zero]
 rfl
theorem derD_long(r s:Nat):kD r+6≤(derD r s).length:=by
 have:=bodD_length r s;unfold derD
 split <;> simp only[List.length_cons] <;> omega
theorem big_none:getA ([48,78]++([2,73,1]++bs 72 0++[2,1,1]))=(0,0,2200):=by decide +kernel
theorem bx72:bx 72 0 0=bx 72 0 72:=by kernel_rfl
theorem row73(v:World):(exI (.buildSlice 42 1 #[(0,.const (.int .u8 73))])).run prog v=.ok (.value (.slice (some ⟨v.heap.size,0,none⟩) 1 1)) (v.alloc (.cells #[.int .u8 73] 5)):=by kernel_rfl
theorem mk72(v:World):(exI (.makeSlice 42 (.const (.int .i64 72)) (.const (.int .i64 72)))).run prog v=.ok (.value (.slice (some ⟨v.heap.size,0,none⟩) 72 72)) (v.alloc (.cells (bx 72 0 0) 5)):=by
 have h:(Instr.makeSlice 42 (.int .i64 72) (.int .i64 72)).run prog v=.ok (.slice (some ⟨v.heap.size,0,none⟩) 72 72) (v.alloc (.cells (bx 72 0 0) 5)):=make_bytes 72 0 (by decide) v;simp[go_sem,exI,h]
end
section
attribute [local go_sem] uz4
attribute [local go_sem ↓] uz5 Go.wp_at_zero Go.wp_at_succ
attribute [local go_sem] uz6
theorem lzgreat_high{a b:Nat}(ha:a<M)(hb:b<M)(w:World):Cg 8 #[.agg (nw 9 a),.agg (nw 9 b),.bool true] w (.bool true):=by
 obtain⟨g,eg⟩:=exl (wd a 8);have g2:g<18446744073709551616:=eg▸wd_lt _ _;obtain⟨p,ep⟩:=exl (g|||9223372036854775808)
 have ac:bits BinOp.or IntKind.u64 (g:Int) 9223372036854775808=(p:Int):=by rw[←ep];exact bits_or_u64_nat g 9223372036854775808 g2 (by decide)
 have p1:2^63≤p:=ep▸Nat.right_le_or;have p2:p<2^(63+1):=ep▸Nat.or_lt_two_pow (n:=64) g2 (by decide);obtain⟨r,er⟩:=exl (tp a p);have hr:r<M:=er▸tp_lt p2
 have R:(sgA a b)[8]? = some (.int .u64 g):=by rw[sgA_at8,eg]
 have D:(sgA a b).setIfInBounds 8 (.int .u64 p)=sgA r b:=er▸sgA_tp ha p2;have S:bl r=576:=er▸bl_tp (n:=63) p1 p2;obtain⟨o,eo⟩:∃x:ByteArray,⟨(derD r b).toArray⟩=x:=⟨_,rfl⟩
 have ad:(73:Int)<(o.size:Int):=by
  have h1:kD r=73:=by unfold kD;rw[S]
  have h2:=derD_long r b;rw[h1]at h2;rw[←eo,sz_tx]
  omega
 have HP:Hid (∀w,Cg 11 #[.agg (sgA r b)] w (.string o)):=fun w=>eo▸dput_any hr hb w;have HG:Hid (∀w,Cg 9 #[.string o] w (.tuple #[.agg (sgA r b),.int .i64 0])):=fun w=>eo▸dget_any (getA_yes ⟨hr,hb,rfl⟩) w;obtain⟨X,eX⟩:∃t:ByteArray,⟨[(73:UInt8)].toArray⟩=t:=⟨_,rfl⟩;obtain⟨Y,eY⟩:∃t:ByteArray,⟨[(78:UInt8)].toArray⟩=t:=⟨_,rfl⟩;obtain⟨Z,eZ⟩:∃t:ByteArray,⟨(bs 72 0).toArray⟩=t:=⟨_,rfl⟩
 have hX:X.size=1:=by rw[←eX,sz_tx];rfl
 have hY:Y.size=1:=by rw[←eY,sz_tx];rfl
 have hZ:Z.size=72:=by rw[←eZ,sz_tx,bs_length]
 have U:∀v g,blk v g =#[.int .u8 73]→(cvT (.slice (some ⟨g,0,none⟩) 1 1)).run prog v=.ok (.string X) v:=fun v g h=>eX▸cvT_blk [73] v g (by rw[h];rfl);have av:∀v g,blk v g =#[.int .u8 78]→(cvT (.slice (some ⟨g,0,none⟩) 1 1)).run prog v=.ok (.string Y) v:=fun v g h=>eY▸cvT_blk [78] v g (by rw[h];rfl);have V:∀v g,blk v g=bx 72 0 0→(cvT (.slice (some ⟨g,0,none⟩) 72 72)).run prog v=.ok (.string Z) v:=fun v g h=>eZ▸conv_bytes 72 0 v g (by rw[h];exact bx72);obtain⟨n1,e1⟩:=exl (⟨#[2]⟩++X);obtain⟨n2,e2⟩:=exl (n1++⟨#[1]⟩);obtain⟨W,e3⟩:=exl (n2++Z);obtain⟨q,e4⟩:=exl (W++⟨#[2,1,1]⟩);obtain⟨f1,e5⟩:=exl (⟨#[48]⟩++Y);obtain⟨f2,e6⟩:=exl (f1++q)
 have E3:⟨([2,73,1]++bs 72 0).toArray⟩=W:=by rw[←e3,←e2,←e1,←eX,←eZ,←app_tx];rfl
 have E4:⟨([2,73,1]++bs 72 0++[2,1,1]).toArray⟩=q:=by rw[←e4,←E3,←app_tx]
 have E6:⟨([48,78]++([2,73,1]++bs 72 0++[2,1,1])).toArray⟩=f2:=by rw[←e6,←E4,←e5,←eY,←app_tx];rfl
 have H:n1.size=2:=by rw[←e1,ByteArray.size_append,hX];rfl
 have I:n2.size=3:=by rw[←e2,ByteArray.size_append,H];rfl
 have J:W.size=75:=by rw[←e3,ByteArray.size_append,I,hZ]
 have ap:q.size=78:=by rw[←e4,ByteArray.size_append,J];rfl
 have aw:f1.size=2:=by rw[←e5,ByteArray.size_append,hY];rfl
 have ae:Hid (∀w,Cg 9 #[.string f2] w (.tuple #[.agg (sgA 0 0),.int .i64 2200])):=fun w=>E6▸dget_any big_none w;have af:Hid (∀w,Cg 15 #[] w (.bool true)):=fun w=>awake22_any w
 have ax:IntKind.u8.wrap 78=78:=by decide +kernel
 clear E3 E4 E6 eX eY eZ eo er ep eg p1 p2 g2 S ha hb hr
 go_enter func8,ntmps8
 go_upto_region 1 with fail
 refine gen_w (fun v=>Gr w v∧Vr v (w.heap.size) (nw 9 a)∧Vr v (w.heap.size+1) (nw 9 b)) ⟨grA,vrA,vrA⟩ ?_;rintro v0 ⟨G,P,Q⟩;refine wp_wS [.T,.F] [0] ⟨.z af.out,⟨⟩⟩ fun ay v1 d h1=>?_;simp only[fzw];clear h1;replace G:=G.trans d;replace P:=P.gr d;replace Q:=Q.gr d;clear d;have sz:=G.below.size
 go_upto_region 3 with fail
 refine wp_v false [.N a,.N b,.c (.agg (sgA a b)),.a,.u] [0,1,2] [⟨3,4,27,sgA 0 0,fun _=>sgA a b⟩] ⟨.g 25 0 P rfl,.g 25 0 Q rfl,.s (.build 27 #[(0,(.const (.agg (nw 9 a)))),(1,(.const (.agg (nw 9 b))))]) rfl fun l d=>by simp[go_sem,exI,buildSg2],⟨⟩⟩ ⟨.k zSg (.t rfl),⟨⟩⟩ fun B v2 d h3 ag=>?_;simp only[fzw,Kw.a];obtain⟨⟨C,j⟩,-⟩:(v1.heap.size≤(B 3 0).2∧Vr v2 (B 3 0).2 (sgA a b))∧True:=ag;clear h3;replace G:=G.trans d;replace P:=P.gr d;replace Q:=Q.gr d;clear d;have lo:w.heap.size≤(B 3 0).2:=Nat.le_trans sz C;generalize (B 3 0).2=e7 at *;clear sz C P Q
 have k0:v2.cell? ⟨e7,8,none⟩=some (.int .u64 g):=by rw[j.cell];exact R
 have z0:v2.frozen? ⟨e7,8,none⟩=false:=frozen_frz _ _ _ j.f
 go_upto_region 5 with fail
 refine gen_w (fun ww=>Gr w ww∧Vr ww e7 (sgA r b)) ⟨by rw[setCell_setBlk,j.h,D];exact gr_setNew G lo,by rw[setCell_setBlk,j.h,D];exact j.set (by rw[sgA_size];decide) _⟩ ?_;clear k0 z0 G j R D;rintro u4 ⟨G,m⟩;clear ac
 go_upto_region 5 with fail
 refine wp_wS [.T,.F] [] ⟨⟩ fun az v3 d h5=>?_;simp only[fzw];clear h5;replace G:=G.trans d;replace m:=m.gr d;clear d
 go_upto_region 7 with fail
 refine wp_wS [.c (.agg (sgA r b)),.c (.string o),.c (.string o)] [0,1] ⟨.g 27 0 m rfl,.z HP.out,⟨⟩⟩ fun aA v4 d h7=>?_;simp only[fzw];clear h7;have g7:=d;clear d
 go_upto_region 8 with fail
 refine wp_v false [.c (.string o),.E (.agg (sgA r b)),.E (.agg (sgA r b)),.c (.agg (sgA r b)),.O,.a,.u,.O] [1] [⟨5,6,27,sgA 0 0,fun _=>sgA r b⟩] ⟨.z HG.out,⟨⟩⟩ ⟨.k zSg (.t rfl),⟨⟩⟩ fun aa v5 d h8 ah=>?_;simp only[fzw,Kw.a];obtain⟨⟨aq,i⟩,-⟩:(v4.heap.size≤(aa 5 0).2∧Vr v5 (aa 5 0).2 (sgA r b))∧True:=ah;clear h8;replace g7:=g7.trans d;clear d;replace G:=G.trans g7;replace m:=m.gr g7;clear g7
 go_upto_region 12 with fail
 refine wp_w [.r 1 (#[.int .u8 73]),.c (.string X),.c (.string n1),.c (.string n2),.r 72 (bx 72 0 0),.c (.string Z),.c (.string W),.c (.string q),.c (.string q)] [0,1,2,3,4,5,6,7] ⟨.r (.buildSlice 42 1 #[(0,.const (.int .u8 73))]) rfl row73,.e (fun K=>exI (.convert 42 9 (.const (.slice (some ⟨(K 0 0).2,0,none⟩) 1 1)))) (by kernel_rfl) fun K l d hh=>⟨fun _=>(none,0),l,by have hc:=U l (K 0 0).2 (hh 0 rfl).h;simp[go_sem,exI,hc,kW,Kw.c],Gr.refl _,trivial⟩,.s (.binOp .add 9 (.const (.string ⟨#[2]⟩)) (.const (.string X)) 9) rfl fun l d=>by simp[go_sem,exI,hX,e1],.s (.binOp .add 9 (.const (.string n1)) (.const (.string ⟨#[1]⟩)) 9) rfl fun l d=>by simp[go_sem,exI,H,e2],.r (.makeSlice 42 (.const (.int .i64 72)) (.const (.int .i64 72))) rfl mk72,.e (fun K=>exI (.convert 42 9 (.const (.slice (some ⟨(K 4 0).2,0,none⟩) 72 72)))) (by kernel_rfl) fun K l d hh=>⟨fun _=>(none,0),l,by have hc:=V l (K 4 0).2 (hh 4 rfl).h;simp[go_sem,exI,hc,kW,Kw.c],Gr.refl _,trivial⟩,.s (.binOp .add 9 (.const (.string n2)) (.const (.string Z)) 9) rfl fun l d=>by simp[go_sem,exI,I,hZ,e3],.s (.binOp .add 9 (.const (.string W)) (.const (.string ⟨#[2,1,1]⟩)) 9) rfl fun l d=>by simp[go_sem,exI,J,e4],⟨⟩⟩ fun ar ai d aj=>?_;simp only[fzw,Kw.r];clear aj;replace G:=G.trans d;replace m:=m.gr d;replace i:=i.gr d;clear d U V e1 e2 e3 e4 H I J
 go_upto_region 14 with (go_at_call 9;refine(ae.out _).mono ?_;rintro e wB ⟨rfl,L⟩)
 obtain⟨ak,he⟩:=exl (wB.heap.size);simp only[he];refine gen_w (fun ww=>Gr ai ww∧Vr ww ak (sgA 0 0)) ⟨(((Gr.refl _).alloc _).trans L).alloc _,by subst he;exact Vr.new _ _ _⟩ ?_;clear he L;rintro aB ⟨L,ab⟩;replace G:=G.trans L;replace m:=m.gr L;replace i:=i.gr L;clear L
 go_upto_region 14 with fail
 refine wp_wS [.O,.O,.T,.T,.c (.agg (sgA r b)),.c (.agg (sgA r b)),.T,.T,.T,.c (.string o),.c (.int .i64 (o.size:Int)),.c (.int .i64 73),.T,.T,.T,.c (.int .i64 2200),.c (.int .i64 2200),.T,.T,.T] [1,4,5,6,12,16] ⟨.y (num_any _),.g 27 0 i rfl,.g 27 0 m rfl,.s (.binOp .eql 27 (.const (.agg (sgA r b))) (.const (.agg (sgA r b))) 27) rfl fun l d=>by simp[go_sem,exI,eqSg,eqN_self],.s (.binOp .gtr 3 (.const (.int .i64 (o.size:Int))) (.const (.int .i64 73)) 3) rfl fun l d=>by simp[go_sem,exI,ad],.y (num_any _),⟨⟩⟩ fun au v6 d ao=>?_;simp only[fzw];clear ao;have A:=d;clear d;replace G:=G.trans A;replace m:=m.gr A;replace i:=i.gr A;replace ab:=ab.gr A;clear A
 go_wp2_with fail
 go_ret
 exact⟨rfl,G⟩
theorem lzgreat_low{a b:Nat}(ha:a<M)(hb:b<M)(w:World):Cg 8 #[.agg (nw 9 a),.agg (nw 9 b),.bool false] w (.bool true):=by
 obtain⟨g,eg⟩:=exl (wd a 8);have g2:g<18446744073709551616:=eg▸wd_lt _ _;obtain⟨p,ep⟩:=exl (g|||9223372036854775808)
 have ai:bits BinOp.or IntKind.u64 (g:Int) 9223372036854775808=(p:Int):=by rw[←ep];exact bits_or_u64_nat g 9223372036854775808 g2 (by decide)
 have p1:2^63≤p:=ep▸Nat.right_le_or;have p2:p<2^(63+1):=ep▸Nat.or_lt_two_pow (n:=64) g2 (by decide);obtain⟨r,er⟩:=exl (tp a p);have hr:r<M:=er▸tp_lt p2
 have aa:(sgA a b)[8]? = some (.int .u64 g):=by rw[sgA_at8,eg]
 have L:(sgA a b).setIfInBounds 8 (.int .u64 p)=sgA r b:=er▸sgA_tp ha p2;obtain⟨m,em⟩:=exl (p&&&9223372036854775807);have m2:m<9223372036854775808:=em▸Nat.and_lt_two_pow (n:=63) _ (by decide)
 have ab:bits BinOp.and IntKind.u64 (p:Int) 9223372036854775807=(m:Int):=by rw[←em];exact bits_and_u64_nat p 9223372036854775807 p2 (by decide)
 obtain⟨q,eq⟩:=exl (m|||4611686018427387904)
 have ac:bits BinOp.or IntKind.u64 (m:Int) 4611686018427387904=(q:Int):=by rw[←eq];exact bits_or_u64_nat m 4611686018427387904 (by omega) (by decide)
 have q1:2^62≤q:=eq▸Nat.right_le_or;have q2:q<2^(62+1):=eq▸Nat.or_lt_two_pow (n:=63) m2 (by decide)
 have q3:q<18446744073709551616:=by omega
 obtain⟨t,et⟩:=exl (tp r q);have ht:t<M:=et▸tp_lt q3
 have I:(sgA r b)[8]? = some (.int .u64 p):=by rw[sgA_at8,←er,wd_tp p2]
 have B:(sgA r b).setIfInBounds 8 (.int .u64 q)=sgA t b:=et▸sgA_tp hr q3;have ad:bl t=575:=et▸bl_tp (n:=62) q1 q2;obtain⟨o,eo⟩:∃x:ByteArray,⟨(derD t b).toArray⟩=x:=⟨_,rfl⟩
 have aj:(72:Int)<(o.size:Int):=by
  have h1:kD t=72:=by unfold kD;rw[ad]
  have h2:=derD_long t b;rw[h1]at h2;rw[←eo,sz_tx]
  omega
 have HP:Hid (∀w,Cg 11 #[.agg (sgA t b)] w (.string o)):=fun w=>eo▸dput_any ht hb w;have HG:Hid (∀w,Cg 9 #[.string o] w (.tuple #[.agg (sgA t b),.int .i64 0])):=fun w=>eo▸dget_any (getA_yes ⟨ht,hb,rfl⟩) w;obtain⟨X,eX⟩:∃t:ByteArray,⟨[(73:UInt8)].toArray⟩=t:=⟨_,rfl⟩;obtain⟨Y,eY⟩:∃t:ByteArray,⟨[(78:UInt8)].toArray⟩=t:=⟨_,rfl⟩;obtain⟨Z,eZ⟩:∃t:ByteArray,⟨(bs 72 0).toArray⟩=t:=⟨_,rfl⟩
 have hX:X.size=1:=by rw[←eX,sz_tx];rfl
 have hY:Y.size=1:=by rw[←eY,sz_tx];rfl
 have hZ:Z.size=72:=by rw[←eZ,sz_tx,bs_length]
 have ae:∀v g,blk v g =#[.int .u8 73]→(cvT (.slice (some ⟨g,0,none⟩) 1 1)).run prog v=.ok (.string X) v:=fun v g h=>eX▸cvT_blk [73] v g (by rw[h];rfl);have aB:∀v g,blk v g =#[.int .u8 78]→(cvT (.slice (some ⟨g,0,none⟩) 1 1)).run prog v=.ok (.string Y) v:=fun v g h=>eY▸cvT_blk [78] v g (by rw[h];rfl);have af:∀v g,blk v g=bx 72 0 0→(cvT (.slice (some ⟨g,0,none⟩) 72 72)).run prog v=.ok (.string Z) v:=fun v g h=>eZ▸conv_bytes 72 0 v g (by rw[h];exact bx72);obtain⟨n1,e1⟩:=exl (⟨#[2]⟩++X);obtain⟨n2,e2⟩:=exl (n1++⟨#[1]⟩);obtain⟨n3,e3⟩:=exl (n2++Z);obtain⟨C,e4⟩:=exl (n3++⟨#[2,1,1]⟩);obtain⟨f1,e5⟩:=exl (⟨#[48]⟩++Y);obtain⟨f2,e6⟩:=exl (f1++C)
 have E3:⟨([2,73,1]++bs 72 0).toArray⟩=n3:=by rw[←e3,←e2,←e1,←eX,←eZ,←app_tx];rfl
 have E4:⟨([2,73,1]++bs 72 0++[2,1,1]).toArray⟩=C:=by rw[←e4,←E3,←app_tx]
 have E6:⟨([48,78]++([2,73,1]++bs 72 0++[2,1,1])).toArray⟩=f2:=by rw[←e6,←E4,←e5,←eY,←app_tx];rfl
 have P:n1.size=2:=by rw[←e1,ByteArray.size_append,hX];rfl
 have Q:n2.size=3:=by rw[←e2,ByteArray.size_append,P];rfl
 have R:n3.size=75:=by rw[←e3,ByteArray.size_append,Q,hZ]
 have ax:C.size=78:=by rw[←e4,ByteArray.size_append,R];rfl
 have aC:f1.size=2:=by rw[←e5,ByteArray.size_append,hY];rfl
 have ak:Hid (∀w,Cg 9 #[.string f2] w (.tuple #[.agg (sgA 0 0),.int .i64 2200])):=fun w=>E6▸dget_any big_none w;have ao:Hid (∀w,Cg 15 #[] w (.bool true)):=fun w=>awake22_any w
 have aD:IntKind.u8.wrap 78=78:=by decide +kernel
 clear E3 E4 E6 eX eY eZ eo er ep eg p1 p2 g2 ad ha hb hr em eq et ht m2 q1 q2 q3
 go_enter func8,ntmps8
 go_upto_region 1 with fail
 refine gen_w (fun v=>Gr w v∧Vr v (w.heap.size) (nw 9 a)∧Vr v (w.heap.size+1) (nw 9 b)) ⟨grA,vrA,vrA⟩ ?_;rintro v0 ⟨G,V,W⟩;refine wp_wS [.T,.F] [0] ⟨.z ao.out,⟨⟩⟩ fun aE v1 d h1=>?_;simp only[fzw];clear h1;replace G:=G.trans d;replace V:=V.gr d;replace W:=W.gr d;clear d;have sz:=G.below.size
 go_upto_region 3 with fail
 refine wp_v false [.N a,.N b,.c (.agg (sgA a b)),.a,.u] [0,1,2] [⟨3,4,27,sgA 0 0,fun _=>sgA a b⟩] ⟨.g 25 0 V rfl,.g 25 0 W rfl,.s (.build 27 #[(0,(.const (.agg (nw 9 a)))),(1,(.const (.agg (nw 9 b))))]) rfl fun A d=>by simp[go_sem,exI,buildSg2],⟨⟩⟩ ⟨.k zSg (.t rfl),⟨⟩⟩ fun H v2 d h3 ap=>?_;simp only[fzw,Kw.a];obtain⟨⟨J,j⟩,-⟩:(v1.heap.size≤(H 3 0).2∧Vr v2 (H 3 0).2 (sgA a b))∧True:=ap;clear h3;replace G:=G.trans d;replace V:=V.gr d;replace W:=W.gr d;clear d;have lo:w.heap.size≤(H 3 0).2:=Nat.le_trans sz J;generalize (H 3 0).2=e7 at *;clear sz J V W
 have k0:v2.cell? ⟨e7,8,none⟩=some (.int .u64 g):=by rw[j.cell];exact aa
 have z0:v2.frozen? ⟨e7,8,none⟩=false:=frozen_frz _ _ _ j.f
 go_upto_region 5 with fail
 refine gen_w (fun K=>Gr w K∧Vr K e7 (sgA r b)) ⟨by rw[setCell_setBlk,j.h,L];exact gr_setNew G lo,by rw[setCell_setBlk,j.h,L];exact j.set (by rw[sgA_size];decide) _⟩ ?_;clear k0 z0 G j aa L;rintro u4 ⟨G,l⟩;clear ai
 go_upto_region 5 with fail
 refine wp_wS [.F,.T] [] ⟨⟩ fun aF v3 d h5=>?_;simp only[fzw];clear h5;replace G:=G.trans d;replace l:=l.gr d;clear d
 have k0:v3.cell? ⟨e7,8,none⟩=some (.int .u64 p):=by rw[l.cell];exact I
 have z0:v3.frozen? ⟨e7,8,none⟩=false:=frozen_frz _ _ _ l.f
 go_upto_region 7 with fail
 refine gen_w (fun K=>Gr w K∧Vr K e7 (sgA t b)) ⟨by rw[setCell_setBlk,l.h,B];exact gr_setNew G lo,by rw[setCell_setBlk,l.h,B];exact l.set (by rw[sgA_size];decide) _⟩ ?_;clear k0 z0 G l I B;rintro u6 ⟨G,l⟩;clear ab ac
 go_upto_region 7 with fail
 refine wp_wS [.c (.agg (sgA t b)),.c (.string o),.c (.string o)] [0,1] ⟨.g 27 0 l rfl,.z HP.out,⟨⟩⟩ fun aG v4 d h7=>?_;simp only[fzw];clear h7;have g7:=d;clear d
 go_upto_region 8 with fail
 refine wp_v false [.c (.string o),.E (.agg (sgA t b)),.E (.agg (sgA t b)),.c (.agg (sgA t b)),.O,.a,.u,.O] [1] [⟨5,6,27,sgA 0 0,fun _=>sgA t b⟩] ⟨.z HG.out,⟨⟩⟩ ⟨.k zSg (.t rfl),⟨⟩⟩ fun ag v5 d h8 aq=>?_;simp only[fzw,Kw.a];obtain⟨⟨ay,i⟩,-⟩:(v4.heap.size≤(ag 5 0).2∧Vr v5 (ag 5 0).2 (sgA t b))∧True:=aq;clear h8;replace g7:=g7.trans d;clear d;replace G:=G.trans g7;replace l:=l.gr g7;clear g7
 go_upto_region 12 with fail
 refine wp_w [.r 1 (#[.int .u8 73]),.c (.string X),.c (.string n1),.c (.string n2),.r 72 (bx 72 0 0),.c (.string Z),.c (.string n3),.c (.string C),.c (.string C)] [0,1,2,3,4,5,6,7] ⟨.r (.buildSlice 42 1 #[(0,.const (.int .u8 73))]) rfl row73,.e (fun S=>exI (.convert 42 9 (.const (.slice (some ⟨(S 0 0).2,0,none⟩) 1 1)))) (by kernel_rfl) fun S A d hh=>⟨fun _=>(none,0),A,by have hc:=ae A (S 0 0).2 (hh 0 rfl).h;simp[go_sem,exI,hc,kW,Kw.c],Gr.refl _,trivial⟩,.s (.binOp .add 9 (.const (.string ⟨#[2]⟩)) (.const (.string X)) 9) rfl fun A d=>by simp[go_sem,exI,hX,e1],.s (.binOp .add 9 (.const (.string n1)) (.const (.string ⟨#[1]⟩)) 9) rfl fun A d=>by simp[go_sem,exI,P,e2],.r (.makeSlice 42 (.const (.int .i64 72)) (.const (.int .i64 72))) rfl mk72,.e (fun S=>exI (.convert 42 9 (.const (.slice (some ⟨(S 4 0).2,0,none⟩) 72 72)))) (by kernel_rfl) fun S A d hh=>⟨fun _=>(none,0),A,by have hc:=af A (S 4 0).2 (hh 4 rfl).h;simp[go_sem,exI,hc,kW,Kw.c],Gr.refl _,trivial⟩,.s (.binOp .add 9 (.const (.string n2)) (.const (.string Z)) 9) rfl fun A d=>by simp[go_sem,exI,Q,hZ,e3],.s (.binOp .add 9 (.const (.string n3)) (.const (.string ⟨#[2,1,1]⟩)) 9) rfl fun A d=>by simp[go_sem,exI,R,e4],⟨⟩⟩ fun az ar d au=>?_;simp only[fzw,Kw.r];clear au;replace G:=G.trans d;replace l:=l.gr d;replace i:=i.gr d;clear d ae af e1 e2 e3 e4 P Q R
 go_upto_region 14 with (go_at_call 9;refine(ak.out _).mono ?_;rintro e wB ⟨rfl,U⟩)
 obtain⟨av,he⟩:=exl (wB.heap.size);simp only[he];refine gen_w (fun K=>Gr ar K∧Vr K av (sgA 0 0)) ⟨(((Gr.refl _).alloc _).trans U).alloc _,by subst he;exact Vr.new _ _ _⟩ ?_;clear he U;rintro aH ⟨U,ah⟩;replace G:=G.trans U;replace l:=l.gr U;replace i:=i.gr U;clear U
 go_upto_region 14 with fail
 refine wp_wS [.O,.O,.T,.T,.c (.agg (sgA t b)),.c (.agg (sgA t b)),.T,.T,.T,.c (.string o),.c (.int .i64 (o.size:Int)),.c (.int .i64 72),.T,.T,.T,.c (.int .i64 2200),.c (.int .i64 2200),.T,.T,.T] [1,4,5,6,12,16] ⟨.y (num_any _),.g 27 0 i rfl,.g 27 0 l rfl,.s (.binOp .eql 27 (.const (.agg (sgA t b))) (.const (.agg (sgA t b))) 27) rfl fun A d=>by simp[go_sem,exI,eqSg,eqN_self],.s (.binOp .gtr 3 (.const (.int .i64 (o.size:Int))) (.const (.int .i64 72)) 3) rfl fun A d=>by simp[go_sem,exI,aj],.y (num_any _),⟨⟩⟩ fun aA v6 d aw=>?_;simp only[fzw];clear aw;have D:=d;clear d;replace G:=G.trans D;replace l:=l.gr D;replace i:=i.gr D;replace ah:=ah.gr D;clear D
 go_wp2_with fail
 go_ret
 exact⟨rfl,G⟩
theorem lzgreat_any{a b:Nat}(ha:a<M)(hb:b<M)(h:Bool)(w:World):Cg 8 #[.agg (nw 9 a),.agg (nw 9 b),.bool h] w (.bool true):=by
 cases h with
 | true=>exact lzgreat_high ha hb w
 | false=>exact lzgreat_low ha hb w
end
end
end Go.Proofs.Ytdomjicpdbblnaa