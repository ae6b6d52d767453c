import Derived.Test.YtghidgcekieljaaGreatXACC
import Derived.Test.YtghidgcekieljaaGreatXAVB
namespace Go.Proofs.YtghidgcekieljaaGreat
open Go.RowKit Go.Proofs.Tryz
set_option maxRecDepth 100000
set_option maxHeartbeats 8000000
section
def Kw.ix(N n:Nat)(f:Nat→Int):Kw:=⟨fun y=>.slice (some ⟨(y 0).2,0,none⟩) n n,fun y w=>N≤(y 0).2∧Rx w (y 0).2 n n (iF f),fun _ _ _ h g=>⟨h.1,h.2.gr g⟩,0,fun h=>absurd rfl h,fun h=>absurd h (by decide)⟩
def Kw.it(N n:Nat)(f:Nat→Int):Kw:=⟨fun y=>.tuple #[.slice (some ⟨(y 0).2,0,none⟩) n n,.int .i64 0],fun y w=>N≤(y 0).2∧Rx w (y 0).2 n n (iF f),fun _ _ _ h g=>⟨h.1,h.2.gr g⟩,0,fun h=>absurd rfl h,fun h=>absurd h (by decide)⟩
theorem RtW.ix{P:Program}{fn:FuncId}{args:Array Value}{W w:World}{n:Nat}{f:Nat→Int}(hg:Gr W w)(h:Calls P fn args w fun e w'=>∃g,e=.returned (.slice (some ⟨g,0,none⟩) n n)∧w.heap.size≤g∧Rx w' g n n (iF f)∧Gr w w'):Calls P fn args w (RtW (.ix W.heap.size n f) w):=
 h.mono fun _ _ ⟨g,e,hl,hR,G⟩=>⟨fun _=>(none,g),e,⟨Nat.le_trans hg.below.size hl,hR⟩,G⟩
theorem RtW.it{P:Program}{fn:FuncId}{args:Array Value}{W w:World}{n:Nat}{f:Nat→Int}(hg:Gr W w)(h:Calls P fn args w fun e w'=>∃g,e=.returned (.tuple #[.slice (some ⟨g,0,none⟩) n n,.int .i64 0])∧w.heap.size≤g∧Rx w' g n n (iF f)∧Gr w w'):Calls P fn args w (RtW (.it W.heap.size n f) w):=
 h.mono fun _ _ ⟨g,e,hl,hR,G⟩=>⟨fun _=>(none,g),e,⟨Nat.le_trans hg.below.size hl,hR⟩,G⟩
def i2(a b:Int)(i:Nat):Int:=match i with|0=>a|_=>b
end
section
attribute [local go_sem ↓] uz1
attribute [local go_sem] uz2
section
attribute [local go_sem] uz5
attribute [local go_sem] ppre_1 ppre_2 ppre_3 ppre_4 ppre_5 ppre_6 frz_setBlk blk_setBlk setBlk_setBlk blk_other
def mnN(W b:Nat):Nat:=(b+W-1)/W
theorem mnN_le{W b:Nat}(h0:1≤W)(hb:b≤576):mnN W b≤576:=by
 unfold mnN
 rcases Nat.lt_or_ge ((b+W-1)/W) 577 with c|c
 ·omega
 ·have h1:=Nat.div_mul_le_self (b+W-1) W;have h2:577*W≤(b+W-1)/W*W:=Nat.mul_le_mul_right _ c
  omega
theorem wdig_any{k b W:Nat}(hk:k<M)(h0:1≤W)(h1:W≤6)(b0:1≤b)(b1:b≤576)(hb:k<2^b)(w:World):Calls prog 55 #[.agg (nw 9 k),.int .i64 (b:Int),.int .i64 (W:Int)] w
 fun e w'=>∃g,e=.returned (.tuple #[.slice (some ⟨g,0,none⟩) (mnN W b) (mnN W b),.int .i64 0])∧w.heap.size≤g∧Rx w' g (mnN W b) (mnN W b) (iF (dF W k (mnN W b)))∧Gr w w':=by
 have HI:Hid _:=fun w=>isw_yes (x:=W) (by omega) (by omega) w
 have HF:Hid _:=fun w=>by
  have:=wfit_any hk b1 w
  rwa [decide_eq_true hb]at this
 have HC:Hid _:=fun w=>wcut_any hk (mnN_le h0 b1) h0 h1 w
 have hq:((b:Int)+(W:Int)-1).tdiv (W:Int)=((mnN W b:Nat):Int):=by
  rw[show (b:Int)+(W:Int)-1=((b+W-1:Nat):Int) by omega];exact(Int.ofNat_tdiv _ _).symm
 obtain⟨m,hm'⟩:∃m,mnN W b=m:=⟨_,rfl⟩;have hm:=mnN_le h0 b1;rw[hm']at HC hq hm ⊢
 have w0:(1:Int)≤(W:Int):=by omega
 have w1:(W:Int)≤6:=by omega
 have b2:(1:Int)≤(b:Int):=by omega
 have b3:(b:Int)≤576:=by omega
 clear hm' hk h0 h1 b0 b1 hb
 go_enter func55,ntmps55
 go_upto_region 3 with (first
  | (go_at_call 79;refine(HI.out _).mono ?_;rintro e w' ⟨rfl,rfl⟩)
  | (go_at_call 80;refine(HF.out _).mono ?_;rintro e w' ⟨rfl,g,rfl⟩))
 obtain⟨e3,he3⟩:=exl (w.heap.size);simp only[he3]
 refine gen_w (fun v=>Gr w v∧Vr v e3 (nw 9 k)∧w.heap.size≤v.heap.size) ?_ ?_
 ·subst he3;exact⟨grA,(Vr.new _ _ _).gr ⟨g,rfl⟩,by rw[gro_size];simp;omega⟩
 rintro v0 ⟨G,c3,hs⟩
 have x28:IntKind.i64.wrap ((b:Int)+(W:Int))=(b:Int)+(W:Int):=by rw[IntKind.wrap_i64];omega
 have x29:IntKind.i64.wrap ((b:Int)+(W:Int)-1)=(b:Int)+(W:Int)-1:=by rw[IntKind.wrap_i64];omega
 have x31:IntKind.i64.wrap (m:Int)=(m:Int):=wiA
 have hW0:W≠0:=by omega
 refine wp_w [.N k,.c (.int .i64 (b:Int)),.c (.int .i64 (W:Int)),.c (.int .i64 (b+W:Int)),.c (.int .i64 (b+W-1:Int)),.c (.int .i64 (W:Int)),.c (.int .i64 (m:Int)),.c (.int .i64 (W:Int)),.ix (v0.heap.size) m (dF W k m),.ix (v0.heap.size) m (dF W k m),.O] [0,3,4,6,8,9] ⟨.g 25 0 c3 rfl,.s (.binOp .add 3 (.const (.int .i64 (b:Int))) (.const (.int .i64 (W:Int))) 3) rfl fun vv hg=>by simp[go_sem,exI,x28],.s (.binOp .sub 3 (.const (.int .i64 (b+W:Int))) (.const (.int .i64 1)) 3) rfl fun vv hg=>by simp[go_sem,exI,x29],.s (.binOp .quo 3 (.const (.int .i64 (b+W-1:Int))) (.const (.int .i64 (W:Int))) 3) rfl fun vv hg=>by simp[go_sem,exI,hq,x31,hW0],.k _ fun yy vv hg hh =>  (RtW.ix hg (HC.out _)),.m 8,⟨⟩⟩ fun yw3 v1 hg h3=>?_;simp only[fzw,Kw.ix];obtain⟨N3_9,S3_9⟩:=h3 9;replace G:=G.trans hg
 go_wp2_with fail
 go_ret2
 exact⟨_,rfl,Nat.le_trans hs N3_9,S3_9,G⟩
end
end
end Go.Proofs.YtghidgcekieljaaGreat