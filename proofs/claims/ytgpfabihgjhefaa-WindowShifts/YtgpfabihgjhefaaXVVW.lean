import Derived.Test.YtgpfabihgjhefaaXVMixV
import Derived.Test.YtgpfabihgjhefaaXVVC
import Derived.Test.YtgpfabihgjhefaaXVVL
namespace Go.Proofs.Ytgpfabihgjhefaa
open Go.RowKit
set_option maxRecDepth 100000
set_option maxHeartbeats 8000000
section
def Kw.ix (N n:Nat) (f:Nat→Int):Kw:=⟨fun y=>.slice (some ⟨(y 0).2,0,none⟩) n n,fun y w=>N≤(y 0).2∧Rx w (y 0).2 n n (iF f),fun _ _ _ h g=>⟨h.1,h.2.gr g⟩,0,fun h=>absurd rfl h,fun h=>absurd h (by decide)⟩
def Kw.it (N n:Nat) (f:Nat→Int):Kw:=⟨fun y=>.tuple #[.slice (some ⟨(y 0).2,0,none⟩) n n,.int .i64 0],fun y w=>N≤(y 0).2∧Rx w (y 0).2 n n (iF f),fun _ _ _ h g=>⟨h.1,h.2.gr g⟩,0,fun h=>absurd rfl h,fun h=>absurd h (by decide)⟩
theorem RtW.ix {P:Program} {fn:FuncId} {args:Array Value} {W w:World} {n:Nat} {f:Nat→Int} (hg:Gr W w) (h:Calls P fn args w fun e w'=>∃ g,e=.returned (.slice (some ⟨g,0,none⟩) n n)∧w.heap.size≤g∧Rx w' g n n (iF f)∧Gr w w'):Calls P fn args w (RtW (.ix W.heap.size n f) w):=
 h.mono fun _ _ ⟨g,e,hl,hR,G⟩=>⟨fun _=>(none,g),e,⟨Nat.le_trans hg.below.size hl,hR⟩,G⟩
theorem RtW.it {P:Program} {fn:FuncId} {args:Array Value} {W w:World} {n:Nat} {f:Nat→Int} (hg:Gr W w) (h:Calls P fn args w fun e w'=>∃ g,e=.returned (.tuple #[.slice (some ⟨g,0,none⟩) n n,.int .i64 0])∧w.heap.size≤g∧Rx w' g n n (iF f)∧Gr w w'):Calls P fn args w (RtW (.it W.heap.size n f) w):=
 h.mono fun _ _ ⟨g,e,hl,hR,G⟩=>⟨fun _=>(none,g),e,⟨Nat.le_trans hg.below.size hl,hR⟩,G⟩
theorem rowI1 (a:Int) (v:World):(exI (.buildSlice 26 1 #[(0,.const (.int .i64 a))])).run Try.prog v=.ok (.value (.slice (some ⟨v.heap.size,0,none⟩) 1 1)) (v.alloc (.cells #[.int .i64 a] 3)):=by kernel_rfl
theorem rowI2 (a b:Int) (v:World):(exI (.buildSlice 26 2 #[(0,.const (.int .i64 a)),(1,.const (.int .i64 b))])).run Try.prog v=.ok (.value (.slice (some ⟨v.heap.size,0,none⟩) 2 2)) (v.alloc (.cells #[.int .i64 a,.int .i64 b] 3)):=by kernel_rfl
def i2 (a b:Int) (i:Nat):Int:=match i with | 0=>a | _=>b
theorem Vr.iv1 {w:World} {g:Nat} {a:Int} (h:Vr w g #[.int .i64 a]):Iv w (some ⟨g,0,none⟩) 1 (fun _=>a):=
 Or.inr ⟨g,0,rfl,h.p,fun i hi=>by
  have e:i=0:=by omega
  rw [e,cell_blk,h.h]
  rfl⟩
theorem Vr.iv2 {w:World} {g:Nat} {a b:Int} (h:Vr w g #[.int .i64 a,.int .i64 b]):Iv w (some ⟨g,0,none⟩) 2 (i2 a b):=
 Or.inr ⟨g,0,rfl,h.p,fun i hi=>by
  rw [cell_blk,h.h]
  have e:i=0∨i=1:=by omega
  rcases e with e | e <;> rw [e] <;> rfl⟩
end
section
attribute [local go_sem ↓] uz1
attribute [local go_sem] uz2
section
attribute [local go_sem] uz3
attribute [local go_sem] ppre_1 ppre_2 ppre_3 ppre_4 ppre_5 ppre_6 frz_setBlk blk_setBlk setBlk_setBlk blk_other
def mnN (W b:Nat):Nat:=(b+W-1)/W
theorem mnN_le {W b:Nat} (h0:1≤W) (hb:b≤576):mnN W b≤576:=by
 unfold mnN
 have h:=Nat.div_le_self (b+W-1) W
 rcases Nat.lt_or_ge ((b+W-1)/W) 577 with c | c
 ·omega
 ·have h1:=Nat.div_mul_le_self (b+W-1) W
  have h2:577*W≤(b+W-1)/W*W:=Nat.mul_le_mul_right _ c
  omega
theorem wdig_any {k b W:Nat} (hk:k<M) (h0:1≤W) (h1:W≤6) (b0:1≤b) (b1:b≤576) (hb:k<2 ^ b) (w:World):Calls Try.prog 8 #[.agg (nw 9 k),.int .i64 (b:Int),.int .i64 (W:Int)] w
 fun e w'=>∃ g,e=.returned (.tuple #[.slice (some ⟨g,0,none⟩) (mnN W b) (mnN W b),.int .i64 0])∧w.heap.size≤g∧Rx w' g (mnN W b) (mnN W b) (iF (dF W k (mnN W b)))∧Gr w w':=by
 have HI:Hid _:=fun w=>isw_yes (x:=W) (by omega) (by omega) w
 have HF:Hid (∀ w,Cg 27 #[.agg (nw 9 k),.int .i64 (b:Int)] w (.bool true)):=fun w=>by
  have:=wfit_any (b:=b) hk b1 w
  rwa [decide_eq_true hb] at this
 have HC:Hid _:=fun w=>wcut_any (k:=k) (m:=mnN W b) (W:=W) hk (mnN_le h0 b1) h0 h1 w
 have hq:((b:Int)+(W:Int)-1).tdiv (W:Int)=((mnN W b:Nat):Int):=by
  rw [show (b:Int)+(W:Int)-1=((b+W-1:Nat):Int) by omega]
  exact (Int.ofNat_tdiv _ _).symm
 obtain ⟨m,hm'⟩:∃ m,mnN W b=m:=⟨_,rfl⟩
 have hm:=mnN_le (W:=W) h0 b1
 rw [hm'] at HC hq hm ⊢
 have w0:(1:Int)≤(W:Int):=by omega
 have w1:(W:Int)≤6:=by omega
 have b2:(1:Int)≤(b:Int):=by omega
 have b3:(b:Int)≤576:=by omega
 clear hm' hk h0 h1 b0 b1 hb
 go_enter Try.func8,Try.ntmps8
 go_upto_region 3 with (first
  | (go_at_call 26; refine (HI.out _).mono ?_; rintro e w' ⟨rfl,rfl⟩)
  | (go_at_call 27; refine (HF.out _).mono ?_; rintro e w' ⟨rfl,g,rfl⟩))
 obtain ⟨e3,he3⟩:=exl (w.heap.size)
 simp only [he3]
 refine gen_w (fun v=>Gr w v∧Vr v e3 (nw 9 k)∧w.heap.size≤v.heap.size) ?_ ?_
 ·subst he3
  exact ⟨grA,(Vr.new _ _ _).gr ⟨g,rfl⟩,by rw [gro_size]; simp; omega⟩
 clear he3
 rintro v0 ⟨G,c3,hs⟩
 have x28:IntKind.i64.wrap ((b:Int)+(W:Int))=(b:Int)+(W:Int):=by rw [IntKind.wrap_i64]; omega
 have x29:IntKind.i64.wrap ((b:Int)+(W:Int)-1)=(b:Int)+(W:Int)-1:=by rw [IntKind.wrap_i64]; omega
 have x31:IntKind.i64.wrap (m:Int)=(m:Int):=wiA
 have hW0:W≠0:=by omega
 refine wp_w [.c (.agg (nw 9 k)),.c (.int .i64 (b:Int)),.c (.int .i64 (W:Int)),.c (.int .i64 (b+W:Int)),.c (.int .i64 (b+W-1:Int)),.c (.int .i64 (W:Int)),.c (.int .i64 (m:Int)),.c (.int .i64 (W:Int)),.ix (v0.heap.size) m (dF W k m),.ix (v0.heap.size) m (dF W k m),.c (.int .i64 0)] [0,3,4,6,8,9] ?hs1 ?hf1
 case hs1=>
  exact .cons (.g 25 0 c3 rfl)<|.cons (.s (.binOp .add 3 (.const (.int .i64 (b:Int))) (.const (.int .i64 (W:Int))) 3) rfl fun vv hg=>by simp [go_sem,exI,x28])<|.cons (.s (.binOp .sub 3 (.const (.int .i64 (b+W:Int))) (.const (.int .i64 1)) 3) rfl fun vv hg=>by simp [go_sem,exI,x29])<|.cons (.s (.binOp .quo 3 (.const (.int .i64 (b+W-1:Int))) (.const (.int .i64 (W:Int))) 3) rfl fun vv hg=>by simp [go_sem,exI,hq,x31,hW0])<|.cons (.k _ fun yy vv hg hh =>  (RtW.ix hg (HC.out _)))<|.cons (.m 8) .nil
 intro yw3 v1 hg h3
 simp only [FW,putFrom,Act.put,lqA,lqB,lqC,wvals,kW,lqD,lqE,Kw.c,Kw.ix]
 obtain ⟨N3_9,S3_9⟩:v0.heap.size≤(yw3 9 0).2∧Rx v1 (yw3 9 0).2 m m (iF (dF W k m)):=h3 9
 clear h3
 replace G:=G.trans hg
 replace c3:=c3.gr hg
 clear hg
 go_wp2_with fail
 go_ret2
 exact ⟨_,rfl,Nat.le_trans hs N3_9,S3_9,G⟩
abbrev uz5:=And.intro @ppre_1<|And.intro @ppre_2<|And.intro @ppre_3<|And.intro @ppre_4<|And.intro @ppre_5<|And.intro @ppre_6<|And.intro @frz_setBlk<|And.intro @blk_setBlk<|And.intro @setBlk_setBlk @blk_other
end
section
attribute [local go_sem] uz3
attribute [local go_sem] uz5
theorem dF_43:∀ i,i<2→dF 4 43 2 i=i2 2 11 i:=fun i hi=>by
 have e:i=0∨i=1:=by omega
 rcases e with e | e <;> rw [e] <;> rfl
theorem awake17_any (w:World):Cg 19 #[] w (.bool true):=by
 have HD:Hid (∀ w,Calls Try.prog 8 #[.agg (nw 9 43),.int .i64 8,.int .i64 4] w fun e w'=>∃ g,e=.returned (.tuple #[.slice (some ⟨g,0,none⟩) 2 2,.int .i64 0])∧w.heap.size≤g∧Rx w' g 2 2 (iF (dF 4 43 2))∧Gr w w'):=fun w=>wdig_any (k:=43) (b:=8) (W:=4) (lt_M 43 (by decide)) (by decide) (by decide) (by decide) (by decide) (by decide) w
 have HN:Hid (∀ w,Cg 8 #[.agg (nw 9 256),.int .i64 8,.int .i64 4] w (.tuple #[.slice none 0 0,.int .i64 1700])):=fun w=>wdig_no (lt_M 256 (by decide)) (Or.inr (Or.inr (Or.inr (Or.inr (by decide))))) w
 have HV:Hid (∀ v g,Vr v g #[.int .i64 2,.int .i64 11]→Cg 12 #[.slice (some ⟨g,0,none⟩) 2 2,.int .i64 4] v (.tuple #[.agg (nw 9 43),.int .i64 0])):=fun v g h=>wval_ok (W:=4) (by decide) (by decide) (by decide) 2 h.iv2 ⟨fun i hi=>by
  have e:i=0∨i=1:=by omega
  rcases e with e | e <;> rw [e] <;> decide,lt_M 43 (by decide)⟩
 have HX:Hid (∀ v g,Vr v g #[.int .i64 16]→Cg 12 #[.slice (some ⟨g,0,none⟩) 1 1,.int .i64 4] v (.tuple #[.agg (nw 9 0),.int .i64 1700])):=fun v g h=>wval_no (W:=4) (by decide) (by decide) (by decide) 1 h.iv1 fun k=>absurd (k.1 0 (by decide)).2 (by decide)
 have HE:Hid (∀ i,i<2→dF 4 43 2 i=i2 2 11 i):=dF_43
 have G:=Gr.refl w
 go_enter Try.func19,Try.ntmps19
 go_upto_region 1 with fail
 refine wp_wS [.c (.agg (nw 9 43)),.it (w.heap.size) 2 (dF 4 43 2),.it (w.heap.size) 2 (dF 4 43 2),.ix (w.heap.size) 2 (dF 4 43 2),.c (.int .i64 0),.ix (w.heap.size) 2 (dF 4 43 2),.c (.int .i64 0)] [0,1,2,3,4,5] ?hs1 ?hf1
 case hs1=>
  exact .cons (.k _ fun yy vv hg hh=>RtW.of_c (Rt.c (one_any 43 (by decide) _)))<|.cons (.k _ fun yy vv hg hh =>  (RtW.it hg (HD.out _)))<|.cons (.m 1)<|.cons (.m 2)<|.cons (.m 2)<|.cons (.m 3) .nil
 intro yw1 v1 hg h1
 simp only [FW,putFrom,Act.put,lqA,lqB,lqC,wvals,kW,lqD,lqE,Kw.c,Kw.it,Kw.ix]
 obtain ⟨N1_5,S1_5⟩:w.heap.size≤(yw1 5 0).2∧Rx v1 (yw1 5 0).2 2 2 (iF (dF 4 43 2)):=h1 5
 clear h1
 have g1:=hg
 clear hg
 go_upto_region 2 with fail
 refine wp_v false [.r 2 (#[.int .i64 2,.int .i64 11]),.c (.tuple #[.agg (nw 9 43),.int .i64 0]),.c (.tuple #[.agg (nw 9 43),.int .i64 0]),.c (.agg (nw 9 43)),.c (.int .i64 0),.a,.u,.c (.int .i64 0)] [0,1] [⟨5,6,25,nw 9 0,fun _=>nw 9 43⟩] ?hs2 ?hv2 ?hf2
 case hs2=>
  exact .cons (.r (.buildSlice 26 2 #[(0,.const (.int .i64 2)),(1,.const (.int .i64 11))]) rfl (rowI2 _ _))<|.cons (.k _ fun yy vv hg hh=>RtW.of_c (Rt.c (HV.out _ _ (hh 0 rfl)))) .nil
 case hv2=>
  refine .cons (.mk (fun _ _ _=>rfl) (fun _ v b H F=>by dsimp only at H ⊢; simp [go_sem,exI,H,F]) zNat ⟨fkr (by simp [nw_size]),fkc,fkc,fkc,fkc,fka,fku,fkc,trivial⟩) .nil
 intro yw2 v2 hg h2 hV2
 simp only [FW,putFrom,Act.put,lqA,lqB,lqC,wvals,kW,lqD,lqE,Kw.c,Kw.a,Kw.r,Kw.u]
 obtain ⟨⟨N2_5,V2_5⟩, -⟩:(v1.heap.size≤(yw2 5 0).2∧Vr v2 (yw2 5 0).2 (nw 9 43))∧True:=hV2
 clear h2
 replace g1:=g1.trans hg
 have g2:=hg
 clear hg
 go_upto_region 3 with fail
 refine wp_wS [.c (.agg (nw 9 256)),.c (.tuple #[.slice none 0 0,.int .i64 1700]),.c (.tuple #[.slice none 0 0,.int .i64 1700]),.c (.slice none 0 0),.c (.int .i64 1700),.c (.slice none 0 0),.c (.int .i64 1700)] [0,1] ?hs3 ?hf3
 case hs3=>
  exact .cons (.k _ fun yy vv hg hh=>RtW.of_c (Rt.c (one_any 256 (by decide) _)))<|.cons (.k _ fun yy vv hg hh=>RtW.of_c (Rt.c (HN.out _))) .nil
 intro yw3 v3 hg h3
 simp only [FW,putFrom,Act.put,lqA,lqB,lqC,wvals,kW,lqD,lqE,Kw.c]
 clear h3
 replace g1:=g1.trans hg
 replace g2:=g2.trans hg
 have g3:=hg
 clear hg
 go_upto_region 4 with fail
 refine wp_v false [.r 1 (#[.int .i64 16]),.c (.tuple #[.agg (nw 9 0),.int .i64 1700]),.c (.tuple #[.agg (nw 9 0),.int .i64 1700]),.c (.agg (nw 9 0)),.c (.int .i64 1700),.a,.u,.c (.int .i64 1700)] [0,1] [⟨5,6,25,nw 9 0,fun _=>nw 9 0⟩] ?hs4 ?hv4 ?hf4
 case hs4=>
  exact .cons (.r (.buildSlice 26 1 #[(0,.const (.int .i64 16))]) rfl (rowI1 _))<|.cons (.k _ fun yy vv hg hh=>RtW.of_c (Rt.c (HX.out _ _ (hh 0 rfl)))) .nil
 case hv4=>
  refine .cons (.mk (fun _ _ _=>rfl) (fun _ v b H F=>by dsimp only at H ⊢; simp [go_sem,exI,H,F]) zNat ⟨fkr (by simp [nw_size]),fkc,fkc,fkc,fkc,fka,fku,fkc,trivial⟩) .nil
 intro yw4 v4 hg h4 hV4
 simp only [FW,putFrom,Act.put,lqA,lqB,lqC,wvals,kW,lqD,lqE,Kw.c,Kw.a,Kw.r,Kw.u]
 obtain ⟨⟨N4_5,V4_5⟩, -⟩:(v3.heap.size≤(yw4 5 0).2∧Vr v4 (yw4 5 0).2 (nw 9 0))∧True:=hV4
 clear h4
 replace g1:=g1.trans hg
 replace g2:=g2.trans hg
 replace g3:=g3.trans hg
 clear hg
 go_upto_region 5 with fail
 refine wp_w [.c (.int .i64 0),.c (.int .i64 0),.c (.bool true),.c (.bool true),.c (.slice (some ⟨(yw1 5 0).2,0,none⟩) 2 2),.r 2 (#[.int .i64 2,.int .i64 11]),.c (.bool true),.c (.bool true),.c (.bool true),.c (.agg (nw 9 43)),.c (.agg (nw 9 43)),.c (.bool true),.c (.bool true),.c (.bool true),.c (.int .i64 0),.c (.int .i64 0),.c (.bool true),.c (.bool true),.c (.bool true),.c (.int .i64 1700),.c (.int .i64 1700),.c (.bool true),.c (.bool true),.c (.bool true),.c (.int .i64 1700),.c (.int .i64 1700),.c (.bool true),.c (.bool true),.c (.bool true)] [1,5,6,9,10,11,15,20,25] ?hs5 ?hf5
 case hs5=>
  exact .cons (.k _ fun yy vv hg hh=>RtW.of_c (Rt.same (num_any _ _)))<|.cons (.r (.buildSlice 26 2 #[(0,.const (.int .i64 2)),(1,.const (.int .i64 11))]) rfl (rowI2 _ _))<|.cons (.k (fun yy => #[.slice (some ⟨(yw1 5 0).2,0,none⟩) 2 2,.slice (some ⟨(yy 5 0).2,0,none⟩) 2 2]) fun yy vv hg hh=>RtW.of_c (Rt.c (same_ints 2 2 (S1_5.gr (g2.trans hg)).iv (hh 5 rfl).iv2 (by decide) HE.out)))<|.cons (.g 25 0 (V2_5.gr g3) rfl)<|.cons (.k _ fun yy vv hg hh=>RtW.of_c (Rt.c (one_any 43 (by decide) _)))<|.cons (.s (.binOp .eql 25 (.const (.agg (nw 9 43))) (.const (.agg (nw 9 43))) 25) rfl fun vv hg=>by simp [go_sem,exI,eqNat,eqN_self])<|.cons (.k _ fun yy vv hg hh=>RtW.of_c (Rt.same (num_any _ _)))<|.cons (.k _ fun yy vv hg hh=>RtW.of_c (Rt.same (num_any _ _)))<|.cons (.k _ fun yy vv hg hh=>RtW.of_c (Rt.same (num_any _ _))) .nil
 intro yw5 v5 hg h5
 simp only [FW,putFrom,Act.put,lqA,lqB,lqC,wvals,kW,lqD,lqE,Kw.c,Kw.r]
 clear h5
 replace g1:=g1.trans hg
 replace g2:=g2.trans hg
 replace g3:=g3.trans hg
 have g5:=hg
 clear hg
 replace G:=G.trans g1
 replace S1_5:=S1_5.gr g2
 replace V2_5:=V2_5.gr g3
 replace V4_5:=V4_5.gr g5
 clear g1 g2 g3 g5
 go_wp2_with fail
 go_ret
 exact ⟨rfl,G⟩
end
end
end Go.Proofs.Ytgpfabihgjhefaa