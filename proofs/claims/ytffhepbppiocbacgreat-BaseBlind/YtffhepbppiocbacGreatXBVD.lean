import Derived.Test.YtffhepbppiocbacGreatXBCC
import Derived.Test.YtffhepbppiocbacGreatXBVB
namespace Go.Proofs.YtffhepbppiocbacGreat
open Go.RowKit Go.Proofs.Tryz
set_option maxRecDepth 100000
set_option maxHeartbeats 8000000
section
def Kw.ix(N n:Nat)(f:Nat→Int):Kw:=⟨fun y=>.slice (some ⟨(y 0).2,0,none⟩) n n,fun y w=>N≤(y 0).2∧Rx w (y 0).2 n n (iF f),fun _ _ _ h g=>⟨h.1,h.2.gr g⟩,0,fun h=>absurd rfl h,fun h=>absurd h (by decide)⟩
def Kw.it(N n:Nat)(f:Nat→Int):Kw:=⟨fun y=>.tuple #[.slice (some ⟨(y 0).2,0,none⟩) n n,.int .i64 0],fun y w=>N≤(y 0).2∧Rx w (y 0).2 n n (iF f),fun _ _ _ h g=>⟨h.1,h.2.gr g⟩,0,fun h=>absurd rfl h,fun h=>absurd h (by decide)⟩
theorem RtW.ix{P:Program}{fn:FuncId}{args:Array Value}{W w:World}{n:Nat}{f:Nat→Int}(hg:Gr W w)(h:Calls P fn args w fun e w'=>∃g,e=.returned (.slice (some ⟨g,0,none⟩) n n)∧w.heap.size≤g∧Rx w' g n n (iF f)∧Gr w w'):Calls P fn args w (RtW (.ix W.heap.size n f) w):=
 h.mono fun _ _ ⟨g,e,d,i,G⟩=>⟨fun _=>(none,g),e,⟨Nat.le_trans hg.below.size d,i⟩,G⟩
theorem RtW.it{P:Program}{fn:FuncId}{args:Array Value}{W w:World}{n:Nat}{f:Nat→Int}(hg:Gr W w)(h:Calls P fn args w fun e w'=>∃g,e=.returned (.tuple #[.slice (some ⟨g,0,none⟩) n n,.int .i64 0])∧w.heap.size≤g∧Rx w' g n n (iF f)∧Gr w w'):Calls P fn args w (RtW (.it W.heap.size n f) w):=
 h.mono fun _ _ ⟨g,e,d,i,G⟩=>⟨fun _=>(none,g),e,⟨Nat.le_trans hg.below.size d,i⟩,G⟩
def i2(a b:Int)(i:Nat):Int:=match i with|0=>a|_=>b
end
section
attribute [local go_sem ↓] uz1
attribute [local go_sem] uz2
section
attribute [local go_sem] uz5
attribute [local go_sem] ppre_1 ppre_2 ppre_3 ppre_4 ppre_5 ppre_6 frz_setBlk blk_setBlk setBlk_setBlk blk_other
def mnN(W b:Nat):Nat:=(b+W-1)/W
theorem mnN_le{W b:Nat}(h0:1≤W)(hb:b≤576):mnN W b≤576:=by
 unfold mnN
 rcases Nat.lt_or_ge ((b+W-1)/W) 577 with c|c
 ·omega
 ·have d:=Nat.div_mul_le_self (b+W-1) W;have f:577*W≤(b+W-1)/W*W:=Nat.mul_le_mul_right _ c
  omega
theorem wdig_any{k b W:Nat}(hk:k<M)(h0:1≤W)(h1:W≤6)(b0:1≤b)(b1:b≤576)(hb:k<2^b)(w:World):Calls prog 86 #[.agg (nw 9 k),.int .i64 b,.int .i64 W] w
 fun e w'=>∃g,e=.returned (.tuple #[.slice (some ⟨g,0,none⟩) (mnN W b) (mnN W b),.int .i64 0])∧w.heap.size≤g∧Rx w' g (mnN W b) (mnN W b) (iF (dF W k (mnN W b)))∧Gr w w':=by
 have K:Hid _:=fun w=>isw_yes (x:=W) (by omega) (by omega) w
 have L:Hid _:=fun w=>by
  have:=wfit_any hk b1 w
  rwa [decide_eq_true hb]at this
 have H:Hid _:=fun w=>wcut_any hk (mnN_le h0 b1) h0 h1 w
 have I:((b:Int)+W-1).tdiv (W:Int)=((mnN W b:Nat):Int):=by
  rw[show (b:Int)+W-1=((b+W-1:Nat):Int) by omega];exact(Int.ofNat_tdiv _ _).symm
 obtain⟨m,f⟩:∃m,mnN W b=m:=⟨_,rfl⟩;have P:=mnN_le h0 b1;rw[f]at H I P ⊢
 have Y:(1:Int)≤W:=by omega
 have Z:(W:Int)≤6:=by omega
 have b2:(1:Int)≤b:=by omega
 have b3:(b:Int)≤576:=by omega
 clear f hk h0 h1 b0 b1 hb
 go_enter func86,ntmps86
 go_upto_region 3 with (first
  | (go_at_call 109;refine(K.out _).mono ?_;rintro e w' ⟨rfl,rfl⟩)
  | (go_at_call 110;refine hkA L fun g=>?_))
 obtain⟨Q,h⟩:=exl (w.heap.size);simp only[h]
 refine gen_w (fun v=>Gr w v∧Vr v Q (nw 9 k)∧w.heap.size≤v.heap.size) ?_ ?_
 ·subst h;exact⟨grA,(Vr.new _ _ _).gr ⟨g,rfl⟩,by rw[gro_size];simp;omega⟩
 rintro J ⟨G,S,U⟩
 have q:IntKind.i64.wrap ((b:Int)+W)=(b:Int)+W:=by rw[IntKind.wrap_i64];omega
 have A:IntKind.i64.wrap ((b:Int)+W-1)=(b:Int)+W-1:=by rw[IntKind.wrap_i64];omega
 have B:IntKind.i64.wrap (m:Int)=m:=wiA
 have C:W≠0:=by omega
 refine wp_w [.N k,.c (.int .i64 b),.c (.int .i64 W),.c (.int .i64 (b+W:Int)),.c (.int .i64 (b+W-1:Int)),.c (.int .i64 W),.c (.int .i64 m),.c (.int .i64 W),.ix (J.heap.size) m (dF W k m),.ix (J.heap.size) m (dF W k m),.O] [0,3,4,6,8,9] ⟨.g 33 0 S rfl,.s (.binOp .add 3 (.const (.int .i64 b)) (.const (.int .i64 W)) 3) rfl fun D d=>by simp[go_sem,exI,q],.s (.binOp .sub 3 (.const (.int .i64 (b+W:Int))) (.const (.int .i64 1)) 3) rfl fun D d=>by simp[go_sem,exI,A],.s (.binOp .quo 3 (.const (.int .i64 (b+W-1:Int))) (.const (.int .i64 W)) 3) rfl fun D d=>by simp[go_sem,exI,I,B,C],.k _ fun yy D d hh =>  (RtW.ix d (H.out _)),.m 8,⟨⟩⟩ fun V v1 d X=>?_;simp only[fzw,Kw.ix];obtain⟨i,j⟩:=X 9;replace G:=G.trans d
 go_wp2_with fail
 go_ret2
 exact⟨_,rfl,Nat.le_trans U i,j,G⟩
end
end
end Go.Proofs.YtffhepbppiocbacGreat