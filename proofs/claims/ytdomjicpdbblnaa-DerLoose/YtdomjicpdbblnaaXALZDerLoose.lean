import Derived.Test.YtdomjicpdbblnaaXAZW
import Derived.Test.YtdomjicpdbblnaaXAZLo
namespace Go.Proofs.Ytdomjicpdbblnaa
open Go.RowKit Go.Proofs.Try
set_option maxRecDepth 100000
set_option maxHeartbeats 8000000
section
attribute [local go_sem ↓] uz1
attribute [local go_sem] uz2
section
attribute [local go_sem] uz4
attribute [local go_sem ↓] uz5 Go.wp_at_zero Go.wp_at_succ
attribute [local go_sem] uz6
theorem loose_nums(p:Int):∃x a b:Nat,x<128∧IntKind.u64.wrap p=(a:Int)∧(a:Int).tmod 127=(b:Int)∧IntKind.i64.wrap (b:Int)=b∧IntKind.i64.wrap (1+(b:Int))=(x:Int)∧IntKind.u8.wrap (x:Int)=x∧IntKind.u64.wrap (x:Int)=x:=by
 obtain⟨a,d,f⟩:∃a:Nat,IntKind.u64.wrap p=(a:Int)∧(a:Int)<18446744073709551616:=⟨(IntKind.u64.wrap p).toNat,by rw[IntKind.wrap_u64];omega,by rw[IntKind.wrap_u64];omega⟩;exact⟨1+a%127,a,a%127,by omega,d,by rw[Int.tmod_eq_emod_of_nonneg (by omega)];omega,by rw[IntKind.wrap_i64];omega,by rw[IntKind.wrap_i64];omega,by rw[IntKind.wrap_u8];omega,by rw[IntKind.wrap_u64];omega⟩
theorem or128:∀x:Fin 128,bits BinOp.or IntKind.u8 (x.val:Int) 128=((x.val+128:Nat):Int):=by decide +kernel
theorem cv1{x:Nat}{S:ByteArray}(hx:x<256)(hS:⟨[UInt8.ofNat x].toArray⟩=S)(v:World)(g:Nat)(h:blk v g =#[.int .u8 x]):(cvT (.slice (some ⟨g,0,none⟩) 1 1)).run prog v=.ok (.string S) v:=
 hS▸cvT_blk [UInt8.ofNat x] v g (by rw[h];simp;omega)
def bsS(n:Nat)(p:Array (Nat×Value)):Sem Value:=Instr.buildSlice 46 n p
theorem bsS_is(n:Nat)(p:Array (Nat×Value)):Instr.buildSlice 46 n p=bsS n p:=rfl
theorem bsS8(a b c d e f g h:ByteArray)(w:World):(bsS 8 #[(0,.string a),(1,.string b),(2,.string c),(3,.string d),(4,.string e),(5,.string f),(6,.string g),(7,.string h)]).run prog w=.ok (.slice (some ⟨w.heap.size,0,none⟩) 8 8) (w.alloc (.cells #[.string a,.string b,.string c,.string d,.string e,.string f,.string g,.string h] 9)):=by kernel_rfl
attribute [local go_sem ↓] bsS_is
attribute [local go_sem] bsS8
theorem lzloose_any(p q k:Int)(w:World):Cg 7 #[.int .i64 p,.int .i64 q,.int .i64 k] w (.bool true):=by
 obtain⟨x,a1,a2,i,ap,aq,ar,au,av,aw⟩:=loose_nums p;obtain⟨y,c1,c2,l,ay,az,aA,aB,aC,aD⟩:=loose_nums q
 have wx:x<18446744073709551616:=by omega
 have wy:y<18446744073709551616:=by omega
 obtain⟨u,hu,aE⟩:∃c:Nat,IntKind.u64.wrap k=(c:Int)∧(c:Int)<18446744073709551616:=⟨(IntKind.u64.wrap k).toNat,by rw[IntKind.wrap_u64];omega,by rw[IntKind.wrap_u64];omega⟩;obtain⟨n,en⟩:=exl (u%8)
 have hn:(u:Int).tmod 8=(n:Int):=by rw[Int.tmod_eq_emod_of_nonneg (by omega)];omega
 have n8:n<8:=by omega
 have aO:(n:Int)<8:=by omega
 clear aE en;obtain⟨z,ez⟩:=exl (x+128);have aP:bits BinOp.or IntKind.u8 (x:Int) 128=(z:Int):=ez▸or128 ⟨x,i⟩;obtain⟨X,m⟩:∃t:ByteArray,⟨([UInt8.ofNat x]:List UInt8).toArray⟩=t:=⟨_,rfl⟩;obtain⟨Y,j⟩:∃t:ByteArray,⟨([UInt8.ofNat y]:List UInt8).toArray⟩=t:=⟨_,rfl⟩;obtain⟨Z,eZ⟩:∃t:ByteArray,⟨([UInt8.ofNat (x+128)]:List UInt8).toArray⟩=t:=⟨_,rfl⟩
 have hX:X.size=1:=by rw[←m,sz_tx];rfl
 have hY:Y.size=1:=by rw[←j,sz_tx];rfl
 have hZ:Z.size=1:=by rw[←eZ,sz_tx];rfl
 obtain⟨g,eg⟩:∃t:ByteArray,⟨([48,6,2,1,UInt8.ofNat x,2,1,UInt8.ofNat y]:List UInt8).toArray⟩=t:=⟨_,rfl⟩;obtain⟨P,A⟩:∃t:ByteArray,⟨([48,129,6,2,1,UInt8.ofNat x,2,1,UInt8.ofNat y]:List UInt8).toArray⟩=t:=⟨_,rfl⟩;obtain⟨Q,B⟩:∃t:ByteArray,⟨([48,7,2,2,0,UInt8.ofNat x,2,1,UInt8.ofNat y]:List UInt8).toArray⟩=t:=⟨_,rfl⟩;obtain⟨R,C⟩:∃t:ByteArray,⟨([48,6,2,1,UInt8.ofNat (x+128),2,1,UInt8.ofNat y]:List UInt8).toArray⟩=t:=⟨_,rfl⟩;obtain⟨S,D⟩:∃t:ByteArray,⟨([48,5,2,0,2,1,UInt8.ofNat y]:List UInt8).toArray⟩=t:=⟨_,rfl⟩;obtain⟨U,H⟩:∃t:ByteArray,⟨([48,3,2,1,UInt8.ofNat x]:List UInt8).toArray⟩=t:=⟨_,rfl⟩;obtain⟨V,I⟩:∃t:ByteArray,⟨([49,6,2,1,UInt8.ofNat x,2,1,UInt8.ofNat y]:List UInt8).toArray⟩=t:=⟨_,rfl⟩;obtain⟨W,J⟩:∃t:ByteArray,⟨([48,6,3,1,UInt8.ofNat x,2,1,UInt8.ofNat y]:List UInt8).toArray⟩=t:=⟨_,rfl⟩;obtain⟨b7,K⟩:∃t:ByteArray,⟨([48,128,2,1,UInt8.ofNat x,2,1,UInt8.ofNat y,0,0]:List UInt8).toArray⟩=t:=⟨_,rfl⟩
 have aF:Hid (∀w,Cg 9 #[.string g] w (.tuple #[.agg (sgA x y),.int .i64 0])):=fun w=>by have t:=dget_any (loose_good i l) w;rwa [eg]at t
 have aa:Hid (∀w,Cg 9 #[.string P] w (.tuple #[.agg (sgA 0 0),.int .i64 2200])):=fun w=>by have t:=dget_any (loose_0 i l) w;rwa [A]at t
 have ab:Hid (∀w,Cg 9 #[.string Q] w (.tuple #[.agg (sgA 0 0),.int .i64 2200])):=fun w=>by have t:=dget_any (loose_1 i l) w;rwa [B]at t
 have ac:Hid (∀w,Cg 9 #[.string R] w (.tuple #[.agg (sgA 0 0),.int .i64 2200])):=fun w=>by have t:=dget_any (loose_2 i l) w;rwa [C]at t
 have ad:Hid (∀w,Cg 9 #[.string S] w (.tuple #[.agg (sgA 0 0),.int .i64 2200])):=fun w=>by have t:=dget_any (loose_3 i l) w;rwa [D]at t
 have ae:Hid (∀w,Cg 9 #[.string U] w (.tuple #[.agg (sgA 0 0),.int .i64 2200])):=fun w=>by have t:=dget_any (loose_4 i l) w;rwa [H]at t
 have af:Hid (∀w,Cg 9 #[.string V] w (.tuple #[.agg (sgA 0 0),.int .i64 2200])):=fun w=>by have t:=dget_any (loose_5 i l) w;rwa [I]at t
 have ag:Hid (∀w,Cg 9 #[.string W] w (.tuple #[.agg (sgA 0 0),.int .i64 2200])):=fun w=>by have t:=dget_any (loose_6 i l) w;rwa [J]at t
 have ah:Hid (∀w,Cg 9 #[.string b7] w (.tuple #[.agg (sgA 0 0),.int .i64 2200])):=fun w=>by have t:=dget_any (loose_7 i l) w;rwa [K]at t
 replace eg:(((⟨#[48,6,2,1]⟩++X)++⟨#[2,1]⟩)++Y)=g:=by rw[←eg,←m,←j];rfl
 replace A:(((⟨#[48,129,6,2,1]⟩++X)++⟨#[2,1]⟩)++Y)=P:=by rw[←A,←m,←j];rfl
 replace B:(((⟨#[48,7,2,2,0]⟩++X)++⟨#[2,1]⟩)++Y)=Q:=by rw[←B,←m,←j];rfl
 replace C:(((⟨#[48,6,2,1]⟩++Z)++⟨#[2,1]⟩)++Y)=R:=by rw[←C,←j,←eZ];rfl
 replace D:(⟨#[48,5,2,0,2,1]⟩++Y)=S:=by rw[←D,←j];rfl
 replace H:(⟨#[48,3,2,1]⟩++X)=U:=by rw[←H,←m];rfl
 replace I:(((⟨#[49,6,2,1]⟩++X)++⟨#[2,1]⟩)++Y)=V:=by rw[←I,←m,←j];rfl
 replace J:(((⟨#[48,6,3,1]⟩++X)++⟨#[2,1]⟩)++Y)=W:=by rw[←J,←m,←j];rfl
 replace K:((((⟨#[48,128,2,1]⟩++X)++⟨#[2,1]⟩)++Y)++⟨#[0,0]⟩)=b7:=by rw[←K,←m,←j];rfl
 have aG:=fun v g=>cv1 (x:=x) (by omega) m v g;have aH:=fun v g=>cv1 (x:=y) (by omega) j v g;have ai:=fun v g=>cv1 (x:=x+128) (by omega) eZ v g;rw[ez]at ai
 obtain⟨bt,aI,aJ⟩:∃bt:ByteArray,(#[.string P,.string Q,.string R,.string S,.string U,.string V,.string W,.string b7]:Array Value)[n]? = some (.string bt)∧Hid (∀w,Cg 9 #[.string bt] w (.tuple #[.agg (sgA 0 0),.int .i64 2200])):=by
  match n,n8 with
  | 0,_=>exact⟨P,rfl,aa⟩
  | 1,_=>exact⟨Q,rfl,ab⟩
  | 2,_=>exact⟨R,rfl,ac⟩
  | 3,_=>exact⟨S,rfl,ad⟩
  | 4,_=>exact⟨U,rfl,ae⟩
  | 5,_=>exact⟨V,rfl,af⟩
  | 6,_=>exact⟨W,rfl,ag⟩
  | 7,_=>exact⟨b7,rfl,ah⟩
 clear aa ab ac ad ae af ag ah;have aK:Hid (∀w,Cg 15 #[] w (.bool true)):=fun w=>awake22_any w;clear m j eZ ez i l
 go_enter func7,ntmps7
 go_upto_region 1 with fail
 refine gen_w (fun v=>Gr w v) (by exact grA) ?_;intro v0 G;refine wp_wS [.T,.F] [0] ⟨.z aK.out,⟨⟩⟩ fun aQ v1 b h1=>?_;simp only[fzw];clear h1;have g1:=b;clear b
 go_upto_region 3 with fail
 refine wp_wS [.c (.int .i64 p),.c (.int .u64 a1),.c (.int .u64 a2),.c (.int .i64 a2),.c (.int .i64 x),.c (.int .u8 x),.c (.int .i64 q),.c (.int .u64 c1),.c (.int .u64 c2),.c (.int .i64 c2),.c (.int .i64 y),.c (.int .u8 y),.c (.int .u8 x),.c (.int .u8 y)] [1,2,3,4,5,7,8,9,10,11] ⟨.s (.convert 3 41 (.const (.int .i64 p))) rfl fun h b=>by simp[go_sem,exI,ap],.s (.binOp .rem 41 (.const (.int .u64 a1)) (.const (.int .u64 127)) 41) rfl fun h b=>by simp[go_sem,exI,aq],.s (.convert 41 3 (.const (.int .u64 a2))) rfl fun h b=>by simp[go_sem,exI,ar],.s (.binOp .add 3 (.const (.int .i64 1)) (.const (.int .i64 a2)) 3) rfl fun h b=>by simp[go_sem,exI,au],.s (.convert 3 5 (.const (.int .i64 x))) rfl fun h b=>by simp[go_sem,exI,av],.s (.convert 3 41 (.const (.int .i64 q))) rfl fun h b=>by simp[go_sem,exI,ay],.s (.binOp .rem 41 (.const (.int .u64 c1)) (.const (.int .u64 127)) 41) rfl fun h b=>by simp[go_sem,exI,az],.s (.convert 41 3 (.const (.int .u64 c2))) rfl fun h b=>by simp[go_sem,exI,aA],.s (.binOp .add 3 (.const (.int .i64 1)) (.const (.int .i64 c2)) 3) rfl fun h b=>by simp[go_sem,exI,aB],.s (.convert 3 5 (.const (.int .i64 y))) rfl fun h b=>by simp[go_sem,exI,aC],⟨⟩⟩ fun aR v2 b h3=>?_;simp only[fzw];clear h3;replace g1:=g1.trans b;clear b;replace G:=G.trans g1;clear g1
 go_upto_region 6 with fail
 obtain⟨aj,L⟩:=exl (v2.heap.size+1+1+1+1+1+1+1+1+1+1+1+1+1+1+1+1);simp only[L];refine gen_w (fun ww=>Gr v2 ww∧Vr ww aj (#[.string P,.string Q,.string R,.string S,.string U,.string V,.string W,.string b7])) ⟨((((((((((((((((((Gr.refl _).alloc _).alloc _).alloc _).alloc _).alloc _).alloc _).alloc _).alloc _).alloc _).alloc _).alloc _).alloc _).alloc _).alloc _).alloc _).alloc _).alloc _),by subst L;exact vrA⟩ ?_;clear L aG aH ai hX hY hZ;rintro u6 ⟨o,f⟩;replace G:=G.trans o;clear o
 go_upto_region 6 with fail
 refine wp_v false [.c (.string g),.E (.agg (sgA x y)),.E (.agg (sgA x y)),.c (.agg (sgA x y)),.O,.a,.u,.O] [1] [⟨5,6,27,sgA 0 0,fun _=>sgA x y⟩] ⟨.z aF.out,⟨⟩⟩ ⟨.k zSg (.t rfl),⟨⟩⟩ fun ak v3 b h6 aL=>?_;simp only[fzw,Kw.a];obtain⟨⟨aN,d⟩,-⟩:(u6.heap.size≤(ak 5 0).2∧Vr v3 (ak 5 0).2 (sgA x y))∧True:=aL;clear h6;have g6:=b;clear b;replace G:=G.trans g6;replace f:=f.gr g6;clear g6
 have k0:v3.cell? ⟨aj,n,none⟩=some (.string bt):=by rw[f.cell];exact aI
 go_upto_region 8 with (go_at_call 9;refine(aJ.out _).mono ?_;rintro e wB ⟨rfl,o⟩)
 obtain⟨aM,L⟩:=exl (wB.heap.size);simp only[L];refine gen_w (fun ww=>Gr v3 ww∧Vr ww aM (sgA 0 0)) ⟨(o).alloc _,by subst L;exact Vr.new _ _ _⟩ ?_;clear L o;rintro u7 ⟨o,ao⟩;replace G:=G.trans o;replace f:=f.gr o;replace d:=d.gr o;clear o;clear k0
 go_upto_region 8 with fail
 refine wp_w [.O,.O,.T,.T,.c (.agg (sgA x y)),.c (.int .u8 x),.c (.int .u64 x),.N x,.c (.int .u8 y),.c (.int .u64 y),.N y,.c (.agg (sgA x y)),.T,.T,.T,.c (.int .i64 2200),.c (.int .i64 2200),.T,.T,.T] [1,4,6,7,9,10,11,12,16] ⟨.y (num_any _),.g 27 0 d rfl,.s (.convert 5 22 (.const (.int .u8 x))) rfl fun h b=>by simp[go_sem,exI,aw],.z (one_any _ wx),.s (.convert 5 22 (.const (.int .u8 y))) rfl fun h b=>by simp[go_sem,exI,aD],.z (one_any _ wy),.s (.build 27 #[(0,(.const (.agg (nw 9 x)))),(1,(.const (.agg (nw 9 y))))]) rfl fun h b=>by simp[go_sem,exI,buildSg2],.s (.binOp .eql 27 (.const (.agg (sgA x y))) (.const (.agg (sgA x y))) 27) rfl fun h b=>by simp[go_sem,exI,eqSg,eqN_self],.y (num_any _),⟨⟩⟩ fun aS v4 b h8=>?_;simp only[fzw];clear h8;have g8:=b;clear b;replace G:=G.trans g8;replace f:=f.gr g8;replace d:=d.gr g8;replace ao:=ao.gr g8;clear g8
 go_wp2_with fail
 go_ret
 exact⟨rfl,G⟩
end
end
end Go.Proofs.Ytdomjicpdbblnaa