import Derived.Test.YtgpfabihgjhefaaXUMixV
import Derived.Test.YtgpfabihgjhefaaXUVC
import Derived.Test.YtgpfabihgjhefaaXURBit
namespace Go.Proofs.Ytgpfabihgjhefaa
open Go.RowKit
set_option maxRecDepth 100000
set_option maxHeartbeats 8000000
section
def Kw.ix (N n:Nat) (f:Nat→Int):Kw:=⟨fun y=>.slice (some ⟨(y 0).2,0,none⟩) n n,fun y w=>N≤(y 0).2∧Rx w (y 0).2 n n (iF f),fun _ _ _ h g=>⟨h.1,h.2.gr g⟩,0,fun h=>absurd rfl h,fun h=>absurd h (by decide)⟩
def Kw.it (N n:Nat) (f:Nat→Int):Kw:=⟨fun y=>.tuple #[.slice (some ⟨(y 0).2,0,none⟩) n n,.int .i64 0],fun y w=>N≤(y 0).2∧Rx w (y 0).2 n n (iF f),fun _ _ _ h g=>⟨h.1,h.2.gr g⟩,0,fun h=>absurd rfl h,fun h=>absurd h (by decide)⟩
theorem RtW.ix {P:Program} {fn:FuncId} {args:Array Value} {W w:World} {n:Nat} {f:Nat→Int} (hg:Gr W w) (h:Calls P fn args w fun e w'=>∃ g,e=.returned (.slice (some ⟨g,0,none⟩) n n)∧w.heap.size≤g∧Rx w' g n n (iF f)∧Gr w w'):Calls P fn args w (RtW (.ix W.heap.size n f) w):=
 h.mono fun _ _ ⟨g,e,hl,hR,G⟩=>⟨fun _=>(none,g),e,⟨Nat.le_trans hg.below.size hl,hR⟩,G⟩
theorem RtW.it {P:Program} {fn:FuncId} {args:Array Value} {W w:World} {n:Nat} {f:Nat→Int} (hg:Gr W w) (h:Calls P fn args w fun e w'=>∃ g,e=.returned (.tuple #[.slice (some ⟨g,0,none⟩) n n,.int .i64 0])∧w.heap.size≤g∧Rx w' g n n (iF f)∧Gr w w'):Calls P fn args w (RtW (.it W.heap.size n f) w):=
 h.mono fun _ _ ⟨g,e,hl,hR,G⟩=>⟨fun _=>(none,g),e,⟨Nat.le_trans hg.below.size hl,hR⟩,G⟩
theorem rowI1 (a:Int) (v:World):(exI (.buildSlice 26 1 #[(0,.const (.int .i64 a))])).run Try.prog v=.ok (.value (.slice (some ⟨v.heap.size,0,none⟩) 1 1)) (v.alloc (.cells #[.int .i64 a] 3)):=by kernel_rfl
theorem rowI2 (a b:Int) (v:World):(exI (.buildSlice 26 2 #[(0,.const (.int .i64 a)),(1,.const (.int .i64 b))])).run Try.prog v=.ok (.value (.slice (some ⟨v.heap.size,0,none⟩) 2 2)) (v.alloc (.cells #[.int .i64 a,.int .i64 b] 3)):=by kernel_rfl
def i2 (a b:Int) (i:Nat):Int:=match i with | 0=>a | _=>b
theorem Vr.iv1 {w:World} {g:Nat} {a:Int} (h:Vr w g #[.int .i64 a]):Iv w (some ⟨g,0,none⟩) 1 (fun _=>a):=
 Or.inr ⟨g,0,rfl,h.p,fun i hi=>by
  have e:i=0:=by omega
  rw [e,cell_blk,h.h]
  rfl⟩
theorem Vr.iv2 {w:World} {g:Nat} {a b:Int} (h:Vr w g #[.int .i64 a,.int .i64 b]):Iv w (some ⟨g,0,none⟩) 2 (i2 a b):=
 Or.inr ⟨g,0,rfl,h.p,fun i hi=>by
  rw [cell_blk,h.h]
  have e:i=0∨i=1:=by omega
  rcases e with e | e <;> rw [e] <;> rfl⟩
end
section
attribute [local go_sem ↓] uz1
attribute [local go_sem] uz2
section
attribute [local go_sem] uz3
attribute [local go_sem] ppre_1 ppre_2 ppre_3 ppre_4 ppre_5 ppre_6 frz_setBlk blk_setBlk setBlk_setBlk blk_other
def mnN (W b:Nat):Nat:=(b+W-1)/W
theorem mnN_le {W b:Nat} (h0:1≤W) (hb:b≤576):mnN W b≤576:=by
 unfold mnN
 have h:=Nat.div_le_self (b+W-1) W
 rcases Nat.lt_or_ge ((b+W-1)/W) 577 with c | c
 ·omega
 ·have h1:=Nat.div_mul_le_self (b+W-1) W
  have h2:577*W≤(b+W-1)/W*W:=Nat.mul_le_mul_right _ c
  omega
theorem wdig_any {k b W:Nat} (hk:k<M) (h0:1≤W) (h1:W≤6) (b0:1≤b) (b1:b≤576) (hb:k<2 ^ b) (w:World):Calls Try.prog 8 #[.agg (nw 9 k),.int .i64 (b:Int),.int .i64 (W:Int)] w
 fun e w'=>∃ g,e=.returned (.tuple #[.slice (some ⟨g,0,none⟩) (mnN W b) (mnN W b),.int .i64 0])∧w.heap.size≤g∧Rx w' g (mnN W b) (mnN W b) (iF (dF W k (mnN W b)))∧Gr w w':=by
 have HI:Hid _:=fun w=>isw_yes (x:=W) (by omega) (by omega) w
 have HF:Hid (∀ w,Cg 27 #[.agg (nw 9 k),.int .i64 (b:Int)] w (.bool true)):=fun w=>by
  have:=wfit_any (b:=b) hk b1 w
  rwa [decide_eq_true hb] at this
 have HC:Hid _:=fun w=>wcut_any (k:=k) (m:=mnN W b) (W:=W) hk (mnN_le h0 b1) h0 h1 w
 have hq:((b:Int)+(W:Int)-1).tdiv (W:Int)=((mnN W b:Nat):Int):=by
  rw [show (b:Int)+(W:Int)-1=((b+W-1:Nat):Int) by omega]
  exact (Int.ofNat_tdiv _ _).symm
 obtain ⟨m,hm'⟩:∃ m,mnN W b=m:=⟨_,rfl⟩
 have hm:=mnN_le (W:=W) h0 b1
 rw [hm'] at HC hq hm ⊢
 have w0:(1:Int)≤(W:Int):=by omega
 have w1:(W:Int)≤6:=by omega
 have b2:(1:Int)≤(b:Int):=by omega
 have b3:(b:Int)≤576:=by omega
 clear hm' hk h0 h1 b0 b1 hb
 go_enter Try.func8,Try.ntmps8
 go_upto_region 3 with (first
  | (go_at_call 26; refine (HI.out _).mono ?_; rintro e w' ⟨rfl,rfl⟩)
  | (go_at_call 27; refine (HF.out _).mono ?_; rintro e w' ⟨rfl,g,rfl⟩))
 obtain ⟨e3,he3⟩:=exl (w.heap.size)
 simp only [he3]
 refine gen_w (fun v=>Gr w v∧Vr v e3 (nw 9 k)∧w.heap.size≤v.heap.size) ?_ ?_
 ·subst he3
  exact ⟨grA,(Vr.new _ _ _).gr ⟨g,rfl⟩,by rw [gro_size]; simp; omega⟩
 clear he3
 rintro v0 ⟨G,c3,hs⟩
 have x28:IntKind.i64.wrap ((b:Int)+(W:Int))=(b:Int)+(W:Int):=by rw [IntKind.wrap_i64]; omega
 have x29:IntKind.i64.wrap ((b:Int)+(W:Int)-1)=(b:Int)+(W:Int)-1:=by rw [IntKind.wrap_i64]; omega
 have x31:IntKind.i64.wrap (m:Int)=(m:Int):=wiA
 have hW0:W≠0:=by omega
 refine wp_w [.c (.agg (nw 9 k)),.c (.int .i64 (b:Int)),.c (.int .i64 (W:Int)),.c (.int .i64 (b+W:Int)),.c (.int .i64 (b+W-1:Int)),.c (.int .i64 (W:Int)),.c (.int .i64 (m:Int)),.c (.int .i64 (W:Int)),.ix (v0.heap.size) m (dF W k m),.ix (v0.heap.size) m (dF W k m),.c (.int .i64 0)] [0,3,4,6,8,9] ?hs1 ?hf1
 case hs1=>
  exact .cons (.g 25 0 c3 rfl)<|.cons (.s (.binOp .add 3 (.const (.int .i64 (b:Int))) (.const (.int .i64 (W:Int))) 3) rfl fun vv hg=>by simp [go_sem,exI,x28])<|.cons (.s (.binOp .sub 3 (.const (.int .i64 (b+W:Int))) (.const (.int .i64 1)) 3) rfl fun vv hg=>by simp [go_sem,exI,x29])<|.cons (.s (.binOp .quo 3 (.const (.int .i64 (b+W-1:Int))) (.const (.int .i64 (W:Int))) 3) rfl fun vv hg=>by simp [go_sem,exI,hq,x31,hW0])<|.cons (.k _ fun yy vv hg hh =>  (RtW.ix hg (HC.out _)))<|.cons (.m 8) .nil
 intro yw3 v1 hg h3
 simp only [FW,putFrom,Act.put,lqA,lqB,lqC,wvals,kW,lqD,lqE,Kw.c,Kw.ix]
 obtain ⟨N3_9,S3_9⟩:v0.heap.size≤(yw3 9 0).2∧Rx v1 (yw3 9 0).2 m m (iF (dF W k m)):=h3 9
 clear h3
 replace G:=G.trans hg
 replace c3:=c3.gr hg
 clear hg
 go_wp2_with fail
 go_ret2
 exact ⟨_,rfl,Nat.le_trans hs N3_9,S3_9,G⟩
end
section
theorem same_ints {w:World} {p q:Option Addr} {n:Nat} {f g:Nat→Int} (c d:Nat) (hp:Iv w p n f) (hq:Iv w q n g) (hn:n≤4611686018427387904) (h:∀ i,i<n→f i=g i):
 Cg 14 #[.slice p n c,.slice q n d] w (.bool true):=by
 have HP:Hid (Iv w p n f):=hp
 have HQ:Hid (Iv w q n g):=hq
 have HE:Hid (∀ i,i<n→f i=g i):=h
 have n0:(n:Int)≤4611686018427387904:=by omega
 clear hp hq h hn
 go_enter Try.func14,Try.ntmps14
 go_wp2
 go_loopw [5] (fun i wr=>∃ j:Nat,Hid (Unit→j≤n)∧i=.int .i64 (j:Int)∧Hid (Gr w wr)) (fun i _=>(n-(intOf i).toNat))
 case atStart=>exact ⟨0,fun _=>by omega,rfl,Gr.refl _⟩
 case round=>
  obtain ⟨j,HJ,rfl,HG⟩:=hrel
  by_cases hlt:j<n
  ·obtain ⟨b,o,rfl,hc⟩:=(HP.out.gr HG.out).at hlt
   obtain ⟨b2,o2,rfl,hc2⟩:=(HQ.out.gr HG.out).at hlt
   rw [← HE.out j hlt] at hc2
   obtain ⟨d,hd⟩:=exl (f j)
   rw [hd] at hc hc2
   have j0:(0:Int)≤(j:Int):=by omega
   have j1:(j:Int)<(n:Int):=by omega
   have HJ1:Hid (Unit→j+1≤n):=fun _=>hlt
   clear hd hlt HJ
   go_wp2
   go_quiet (fail)
   go_wp2
   go_roundw
   case rel=>exact ⟨j+1,HJ1,by go_num,HG.out.drewN _⟩
   case measure=>simp [intOf]; omega
  ·have hni:¬ (j:Int)<(n:Int):=by omega
   clear hlt HJ
   go_wp2
   go_ret
   exact ⟨rfl,HG.out⟩
theorem rx_empty (w:World):Rx (w.alloc (.cells #[] 3)) w.heap.size 0 0 (iF fun _=>0):=Rx.new w 0 _ _ rfl
attribute [local go_sem ↓] apI_is
theorem copy_ints {w:World} {q:Option Addr} {n:Nat} {f:Nat→Int} (c:Nat) (hq:Iv w q n f) (hn:n*8≤140737488355328):
 Calls Try.prog 31 #[.slice q n c] w fun e w'=>∃ g cap,e=.returned (.slice (some ⟨g,0,none⟩) n cap)∧w.heap.size≤g∧Rx w' g n cap (iF f)∧Gr w w':=by
 obtain ⟨i0,hi,hz0,hz1,hz2⟩:=info_parts infoI
 have hR:Rx (w.alloc (.cells #[] 3)) w.heap.size 0 0 (iF f):=(rx_empty w).congr fun i hi=>absurd hi (Nat.not_lt_zero _)
 obtain ⟨g,cap,W1,hrun,hlo,hR1,hW⟩:=aps_run (P:=Try.prog) Try.underlying26 hi hz0 rfl hz1 hz2 (w.alloc (.cells #[] 3)) w.heap.size 0 n (.slice q n c) (.slice (some ⟨w.heap.size,0,none⟩) 0 0) (iF f) (Or.inr ⟨_,0,rfl,Nat.le_refl _,hR⟩)
  (by rw [hz1]; simp only [Nat.zero_add]; exact (hq.gr ((Gr.refl w).alloc _)).src c) (Or.inr (by simp)) (by omega) (by omega) (by simp)
 rw [Nat.zero_add] at hrun hR1
 have hrun':∀ ty,(apI ty #[.slice (some ⟨w.heap.size,0,none⟩) 0 0,.slice q n c]).run Try.prog (w.alloc (.cells #[] 3))=.ok (.slice (some ⟨g,0,none⟩) n cap) W1:=hrun
 have HE:Hid (w.heap.size≤g∧Rx W1 g n cap (iF f)∧Gr w W1):=⟨hlo,hR1,hW w ((Gr.refl w).alloc _) (Nat.le_refl _)⟩
 clear hrun hlo hR1 hW hq hn hR hi hz0 hz1 hz2
 go_enter Try.func31,Try.ntmps31
 go_wp2
 go_ret
 exact ⟨g,cap,rfl,HE.out⟩
def lnF (n:Nat) (f:Nat→Int) (i:Nat):Int:=if i<n then f i else if i=n then -7777 else -8888
def Kw.ln (N n:Nat) (f:Nat→Int):Kw:=⟨fun y=>.slice (some ⟨(y 0).2,0,none⟩) n (y 1).2,fun y w=>N≤(y 0).2∧Rx w (y 0).2 (n+2) (y 1).2 (iF (lnF n f)),fun _ _ _ h g=>⟨h.1,h.2.gr g⟩,0,fun h=>absurd rfl h,fun h=>absurd h (by decide)⟩
def Kw.ni (x:Nat):Kw:=⟨fun y=>.tuple #[.slice (y 0).1 (dl x) (y 0).2,.int .i64 0],fun y w=>Sl w (y 0).1 x,fun _ _ _ h g=>h.gr g,0,fun h=>absurd rfl h,fun h=>absurd h (by decide)⟩
theorem RtW.ln {P:Program} {fn:FuncId} {args:Array Value} {W w:World} {n:Nat} {f:Nat→Int} (hg:Gr W w) (h:Calls P fn args w fun e w'=>∃ g cap,e=.returned (.slice (some ⟨g,0,none⟩) n cap)∧w.heap.size≤g∧Rx w' g (n+2) cap (iF (lnF n f))∧Gr w w'):Calls P fn args w (RtW (.ln W.heap.size n f) w):=
 h.mono fun _ _ ⟨g,cap,e,hl,hR,G⟩=>⟨fun i=>match i with | 0=>(none,g) | _=>(none,cap),e,⟨Nat.le_trans hg.below.size hl,hR⟩,G⟩
theorem RtW.ni {P:Program} {fn:FuncId} {args:Array Value} {w:World} {x:Nat} (h:Calls P fn args w fun e w'=>(∃ p m,e=.returned (.tuple #[.slice p (dl x) m,.int .i64 0])∧Sl w' p x)∧Gr w w'):Calls P fn args w (RtW (.ni x) w):=
 h.mono fun _ _ ⟨⟨p,m,e,hs⟩,G⟩=>⟨fun _=>(p,m),e,hs,G⟩
theorem lend_ints {w:World} {q:Option Addr} {n:Nat} {f:Nat→Int} (c:Nat) (hq:Iv w q n f) (hn:n*8≤140737488351232):
 Calls Try.prog 11 #[.slice q n c] w fun e w'=>∃ g cap,e=.returned (.slice (some ⟨g,0,none⟩) n cap)∧w.heap.size≤g∧Rx w' g (n+2) cap (iF (lnF n f))∧Gr w w':=by
 obtain ⟨i0,hi,hz0,hz1,hz2⟩:=info_parts infoI
 have HC:Hid (Unit→_):=fun _=>copy_ints c hq (by omega)
 have HA:Hid (∀ (w1:World) (g cap:Nat),w.heap.size≤g→Rx w1 g n cap (iF f)→Gr w w1→∃ g2 cap2 w2,(∀ ty,(apI ty #[.slice (some ⟨g,0,none⟩) n cap,.slice (some ⟨w1.heap.size,0,none⟩) 2 2]).run Try.prog (w1.alloc (.cells #[.int .i64 (-7777),.int .i64 (-8888)] 3))=.ok (.slice (some ⟨g2,0,none⟩) (n+2) cap2) w2)∧w.heap.size≤g2∧Rx w2 g2 (n+2) cap2 (iF (lnF n f))∧Gr w w2):=fun w1 g cap hl hR hg=>by
  have hR':Rx (w1.alloc (.cells #[.int .i64 (-7777),.int .i64 (-8888)] 3)) g n cap (iF (lnF n f)):=(hR.gr ((Gr.refl w1).alloc _)).congr fun i h=>by simp [lnF,h]
  obtain ⟨g2,cap2,w2,h1,h2,h3,h4⟩:=aps_run (P:=Try.prog) Try.underlying26 hi hz0 rfl hz1 hz2 (w1.alloc (.cells #[.int .i64 (-7777),.int .i64 (-8888)] 3)) w.heap.size n 2 (.slice (some ⟨w1.heap.size,0,none⟩) 2 2) (.slice (some ⟨g,0,none⟩) n cap) (iF (lnF n f)) (Or.inr ⟨g,cap,rfl,hl,hR'⟩)
   (by
    rw [hz1]
    refine srcx Try.underlying26 _ 0 2 2 _ (fun _=>rfl) fun j hj=>?_
    rw [Nat.zero_add,cell_new]
    obtain rfl | rfl:j=0∨j=1:=by omega
    ·simp [iF,lnF]
    ·simp [iF,lnF]; omega) (Or.inl (by decide)) (by omega) (by omega) (Nat.le_trans hg.below.size (by simp))
  exact ⟨g2,cap2,w2,h1,h2,h3,h4 w (hg.alloc _) (Nat.le_refl _)⟩
 have n0:(n:Int)≤17592186044416:=by omega
 have n2:(0:Int)≤(n:Int):=by omega
 clear hq hn hi hz0 hz1 hz2
 go_enter Try.func11,Try.ntmps11
 go_wp2_with (go_at_call 31; refine (HC.out ()).mono ?_; rintro e w1 ⟨g,cap,rfl,h1,h2,h3⟩; obtain ⟨g2,cap2,w2,h4,h5,h6,h7⟩:=HA.out w1 g cap h1 h2 h3; have hcap:(n:Int)+2≤(cap2:Int):=(by have:=h6.le; omega); have H8:Hid (w.heap.size≤g2∧Rx w2 g2 (n+2) cap2 (iF (lnF n f))∧Gr w w2):=⟨h5,h6,h7⟩; clear h1 h2 h3 h5 h6 h7)
 go_ret
 exact ⟨g2,cap2,rfl,H8.out⟩
theorem kept_ints {w:World} {g cap n:Nat} {q:Option Addr} {f:Nat→Int} (c:Nat) (hl:Rx w g (n+2) cap (iF (lnF n f))) (hq:Iv w q n f) (hn:n*8≤140737488351232):
 Cg 17 #[.slice (some ⟨g,0,none⟩) n cap,.slice q n c] w (.bool true):=by
 have HS:Hid (Unit→_):=fun _=>same_ints cap c (hl.iv.le (m:=n) (by omega)) hq (by omega) fun i h=>by simp [lnF,h]
 have hcap:(n:Int)+2≤(cap:Int):=by have:=hl.le; omega
 have m1:w.cell? ⟨g,n,none⟩=some (.int .i64 (-7777)):=by rw [hl.cell n (by omega)]; simp [lnF]
 have m2:w.cell? ⟨g,n+1,none⟩=some (.int .i64 (-8888)):=by rw [hl.cell (n+1) (by omega)]; simp [lnF]; omega
 have HM:Hid (∀ v,Gr w v→v.cell? ⟨g,n,none⟩=some (.int .i64 (-7777))∧v.cell? ⟨g,n+1,none⟩=some (.int .i64 (-8888))):=fun v ⟨k,e⟩=>by
  subst e
  rw [cell_gro w k g _ hl.lt,cell_gro w k g _ hl.lt]
  exact ⟨m1,m2⟩
 have n0:(n:Int)≤17592186044416:=by omega
 have n2:(0:Int)≤(n:Int):=by omega
 clear hl hq hn m1 m2
 go_enter Try.func17,Try.ntmps17
 go_wp2_with (go_at_call 14; refine (HS.out ()).mono ?_; rintro e w1 ⟨rfl,G1⟩; obtain ⟨m1,m2⟩:=HM.out w1 G1; have HG:Hid (Gr w w1):=G1; clear G1)
 go_ret
 exact ⟨rfl,HG.out⟩
theorem spoil_ints {w:World} {g n cap:Nat} {f:Nat→Int} (hr:Rx w g n cap (iF f)) (hn:n≤4611686018427387904) (hf:∀ i,i<n → -9223372036854775000≤f i∧f i≤9223372036854775000):
 Calls Try.prog 18 #[.slice (some ⟨g,0,none⟩) n cap] w fun e w'=>e=.returned (.tuple #[])∧Kp (fun b=>b=g) w w':=by
 have HR:Hid (Rx w g n cap (iF f)):=hr
 have HF:Hid (∀ i,i<n → -9223372036854775000≤f i∧f i≤9223372036854775000):=hf
 have n0:(n:Int)≤4611686018427387904:=by omega
 clear hr hf hn
 go_enter Try.func18,Try.ntmps18
 go_wp2
 go_loopw [2] (fun i wr=>∃ j:Nat,i=.int .i64 (j:Int)∧Hid (Unit→j≤n)∧Hid (Unit→(∀ k,j≤k→k<n→wr.cell? ⟨g,k,none⟩=some (.int .i64 (f k))∧wr.frozen? ⟨g,k,none⟩=false)∧Kp (fun b=>b=g) w wr)) (fun i _=>n-(intOf i).toNat)
 case atStart=>exact ⟨0,rfl,fun _=>by omega,fun _=>⟨fun k _ hk=>⟨HR.out.cell k hk,(HR.out.room k (by have:=HR.out.le; omega)).2⟩,Kp.refl _ _⟩⟩
 case round=>
  obtain ⟨j,rfl,HJ,HK⟩:=hrel
  by_cases hlt:j<n
  ·have j0:(0:Int)≤(j:Int):=by omega
   have j1:(j:Int)<(n:Int):=by omega
   have hc:=((HK.out ()).1 j (Nat.le_refl _) hlt).1
   have hz:=((HK.out ()).1 j (Nat.le_refl _) hlt).2
   obtain ⟨d0,d1⟩:=HF.out j hlt
   obtain ⟨d,hd⟩:=exl (f j)
   rw [hd] at hc d0 d1
   have HL:Hid (Unit→j<n):=fun _=>hlt
   clear hd hlt HJ
   go_wp2
   go_roundw
   case rel=>
    refine ⟨j+1,by go_num,fun _=>HL.out (),fun _=>⟨fun k h1 h2=>?_,(HK.out ()).2.setCell _ _ rfl⟩⟩
    have hk:=(HK.out ()).1 k (by omega) h2
    refine ⟨?_,?_⟩
    ·rw [setCell_setBlk,cell_blk]
     have hn:0<(blk wr g).size:=by
      rw [cell_blk] at hc
      have:=(Array.getElem?_eq_some_iff.1 hc).1
      omega
     rw [blk_setBlk _ _ _ hn,Array.getElem?_setIfInBounds,if_neg (by omega),← cell_blk]
     exact hk.1
    ·rw [setCell_setBlk]
     have hz:∀ (u:World) (d:Array Value),(setBlk u g d).frozen? ⟨g,k,none⟩=u.frozen? ⟨g,k,none⟩:=fun u d=>by
      unfold World.frozen? setBlk
      simp only [Array.getElem?_modify,if_true]
      cases u.heap[g]? with
      | none=>rfl
      | some o=>cases o <;> rfl
     rw [hz]; exact hk.2
   case measure=>simp [intOf]; have:=HL.out (); omega
  ·have ji:¬ (j:Int)<(n:Int):=by omega
   clear hlt HJ
   go_wp2
   go_end0
   exact ⟨rfl,(HK.out ()).2⟩
theorem spoil_nil (w:World):Cg 18 #[.slice none 0 0] w (.tuple #[]):=by
 go_enter Try.func18,Try.ntmps18
 go_wp2
 go_loopw [2] (fun i wr=>i=.int .i64 0∧wr=w) (fun _ _=>0)
 case atStart=>exact ⟨rfl,rfl⟩
 case round=>
  obtain ⟨rfl,rfl⟩:=hrel
  go_wp2
  go_end0
  exact ⟨rfl,Gr.refl _⟩
end
section
attribute [local go_sem] uz3
attribute [local go_sem] ppre_1 ppre_2 ppre_3 ppre_4 ppre_5 ppre_6 frz_setBlk blk_setBlk setBlk_setBlk blk_other
theorem dF_43:∀ i,i<2→dF 4 43 2 i=i2 2 11 i:=fun i hi=>by
 have e:i=0∨i=1:=by omega
 rcases e with e | e <;> rw [e] <;> rfl
theorem awake17_any (w:World):Cg 19 #[] w (.bool true):=by
 have HD:Hid (∀ w,Calls Try.prog 8 #[.agg (nw 9 43),.int .i64 8,.int .i64 4] w fun e w'=>∃ g,e=.returned (.tuple #[.slice (some ⟨g,0,none⟩) 2 2,.int .i64 0])∧w.heap.size≤g∧Rx w' g 2 2 (iF (dF 4 43 2))∧Gr w w'):=fun w=>wdig_any (k:=43) (b:=8) (W:=4) (lt_M 43 (by decide)) (by decide) (by decide) (by decide) (by decide) (by decide) w
 have HN:Hid (∀ w,Cg 8 #[.agg (nw 9 256),.int .i64 8,.int .i64 4] w (.tuple #[.slice none 0 0,.int .i64 1700])):=fun w=>wdig_no (lt_M 256 (by decide)) (Or.inr (Or.inr (Or.inr (Or.inr (by decide))))) w
 have HV:Hid (∀ v g,Vr v g #[.int .i64 2,.int .i64 11]→Cg 12 #[.slice (some ⟨g,0,none⟩) 2 2,.int .i64 4] v (.tuple #[.agg (nw 9 43),.int .i64 0])):=fun v g h=>wval_ok (W:=4) (by decide) (by decide) (by decide) 2 h.iv2 ⟨fun i hi=>by
  have e:i=0∨i=1:=by omega
  rcases e with e | e <;> rw [e] <;> decide,lt_M 43 (by decide)⟩
 have HX:Hid (∀ v g,Vr v g #[.int .i64 16]→Cg 12 #[.slice (some ⟨g,0,none⟩) 1 1,.int .i64 4] v (.tuple #[.agg (nw 9 0),.int .i64 1700])):=fun v g h=>wval_no (W:=4) (by decide) (by decide) (by decide) 1 h.iv1 fun k=>absurd (k.1 0 (by decide)).2 (by decide)
 have HE:Hid (∀ i,i<2→dF 4 43 2 i=i2 2 11 i):=dF_43
 have G:=Gr.refl w
 go_enter Try.func19,Try.ntmps19
 go_upto_region 1 with fail
 refine wp_wS [.c (.agg (nw 9 43)),.it (w.heap.size) 2 (dF 4 43 2),.it (w.heap.size) 2 (dF 4 43 2),.ix (w.heap.size) 2 (dF 4 43 2),.c (.int .i64 0),.ix (w.heap.size) 2 (dF 4 43 2),.c (.int .i64 0)] [0,1,2,3,4,5] ?hs1 ?hf1
 case hs1=>
  exact .cons (.k _ fun yy vv hg hh=>RtW.of_c (Rt.c (one_any 43 (by decide) _)))<|.cons (.k _ fun yy vv hg hh =>  (RtW.it hg (HD.out _)))<|.cons (.m 1)<|.cons (.m 2)<|.cons (.m 2)<|.cons (.m 3) .nil
 intro yw1 v1 hg h1
 simp only [FW,putFrom,Act.put,lqA,lqB,lqC,wvals,kW,lqD,lqE,Kw.c,Kw.it,Kw.ix]
 obtain ⟨N1_5,S1_5⟩:w.heap.size≤(yw1 5 0).2∧Rx v1 (yw1 5 0).2 2 2 (iF (dF 4 43 2)):=h1 5
 clear h1
 have g1:=hg
 clear hg
 go_upto_region 2 with fail
 refine wp_v false [.r 2 (#[.int .i64 2,.int .i64 11]),.c (.tuple #[.agg (nw 9 43),.int .i64 0]),.c (.tuple #[.agg (nw 9 43),.int .i64 0]),.c (.agg (nw 9 43)),.c (.int .i64 0),.a,.u,.c (.int .i64 0)] [0,1] [⟨5,6,25,nw 9 0,fun _=>nw 9 43⟩] ?hs2 ?hv2 ?hf2
 case hs2=>
  exact .cons (.r (.buildSlice 26 2 #[(0,.const (.int .i64 2)),(1,.const (.int .i64 11))]) rfl (rowI2 _ _))<|.cons (.k _ fun yy vv hg hh=>RtW.of_c (Rt.c (HV.out _ _ (hh 0 rfl)))) .nil
 case hv2=>
  refine .cons (.mk (fun _ _ _=>rfl) (fun _ v b H F=>by dsimp only at H ⊢; simp [go_sem,exI,H,F]) zNat ⟨fkr (by simp [nw_size]),fkc,fkc,fkc,fkc,fka,fku,fkc,trivial⟩) .nil
 intro yw2 v2 hg h2 hV2
 simp only [FW,putFrom,Act.put,lqA,lqB,lqC,wvals,kW,lqD,lqE,Kw.c,Kw.a,Kw.r,Kw.u]
 obtain ⟨⟨N2_5,V2_5⟩, -⟩:(v1.heap.size≤(yw2 5 0).2∧Vr v2 (yw2 5 0).2 (nw 9 43))∧True:=hV2
 clear h2
 replace g1:=g1.trans hg
 have g2:=hg
 clear hg
 go_upto_region 3 with fail
 refine wp_wS [.c (.agg (nw 9 256)),.c (.tuple #[.slice none 0 0,.int .i64 1700]),.c (.tuple #[.slice none 0 0,.int .i64 1700]),.c (.slice none 0 0),.c (.int .i64 1700),.c (.slice none 0 0),.c (.int .i64 1700)] [0,1] ?hs3 ?hf3
 case hs3=>
  exact .cons (.k _ fun yy vv hg hh=>RtW.of_c (Rt.c (one_any 256 (by decide) _)))<|.cons (.k _ fun yy vv hg hh=>RtW.of_c (Rt.c (HN.out _))) .nil
 intro yw3 v3 hg h3
 simp only [FW,putFrom,Act.put,lqA,lqB,lqC,wvals,kW,lqD,lqE,Kw.c]
 clear h3
 replace g1:=g1.trans hg
 replace g2:=g2.trans hg
 have g3:=hg
 clear hg
 go_upto_region 4 with fail
 refine wp_v false [.r 1 (#[.int .i64 16]),.c (.tuple #[.agg (nw 9 0),.int .i64 1700]),.c (.tuple #[.agg (nw 9 0),.int .i64 1700]),.c (.agg (nw 9 0)),.c (.int .i64 1700),.a,.u,.c (.int .i64 1700)] [0,1] [⟨5,6,25,nw 9 0,fun _=>nw 9 0⟩] ?hs4 ?hv4 ?hf4
 case hs4=>
  exact .cons (.r (.buildSlice 26 1 #[(0,.const (.int .i64 16))]) rfl (rowI1 _))<|.cons (.k _ fun yy vv hg hh=>RtW.of_c (Rt.c (HX.out _ _ (hh 0 rfl)))) .nil
 case hv4=>
  refine .cons (.mk (fun _ _ _=>rfl) (fun _ v b H F=>by dsimp only at H ⊢; simp [go_sem,exI,H,F]) zNat ⟨fkr (by simp [nw_size]),fkc,fkc,fkc,fkc,fka,fku,fkc,trivial⟩) .nil
 intro yw4 v4 hg h4 hV4
 simp only [FW,putFrom,Act.put,lqA,lqB,lqC,wvals,kW,lqD,lqE,Kw.c,Kw.a,Kw.r,Kw.u]
 obtain ⟨⟨N4_5,V4_5⟩, -⟩:(v3.heap.size≤(yw4 5 0).2∧Vr v4 (yw4 5 0).2 (nw 9 0))∧True:=hV4
 clear h4
 replace g1:=g1.trans hg
 replace g2:=g2.trans hg
 replace g3:=g3.trans hg
 clear hg
 go_upto_region 5 with fail
 refine wp_w [.c (.int .i64 0),.c (.int .i64 0),.c (.bool true),.c (.bool true),.c (.slice (some ⟨(yw1 5 0).2,0,none⟩) 2 2),.r 2 (#[.int .i64 2,.int .i64 11]),.c (.bool true),.c (.bool true),.c (.bool true),.c (.agg (nw 9 43)),.c (.agg (nw 9 43)),.c (.bool true),.c (.bool true),.c (.bool true),.c (.int .i64 0),.c (.int .i64 0),.c (.bool true),.c (.bool true),.c (.bool true),.c (.int .i64 1700),.c (.int .i64 1700),.c (.bool true),.c (.bool true),.c (.bool true),.c (.int .i64 1700),.c (.int .i64 1700),.c (.bool true),.c (.bool true),.c (.bool true)] [1,5,6,9,10,11,15,20,25] ?hs5 ?hf5
 case hs5=>
  exact .cons (.k _ fun yy vv hg hh=>RtW.of_c (Rt.same (num_any _ _)))<|.cons (.r (.buildSlice 26 2 #[(0,.const (.int .i64 2)),(1,.const (.int .i64 11))]) rfl (rowI2 _ _))<|.cons (.k (fun yy => #[.slice (some ⟨(yw1 5 0).2,0,none⟩) 2 2,.slice (some ⟨(yy 5 0).2,0,none⟩) 2 2]) fun yy vv hg hh=>RtW.of_c (Rt.c (same_ints 2 2 (S1_5.gr (g2.trans hg)).iv (hh 5 rfl).iv2 (by decide) HE.out)))<|.cons (.g 25 0 (V2_5.gr g3) rfl)<|.cons (.k _ fun yy vv hg hh=>RtW.of_c (Rt.c (one_any 43 (by decide) _)))<|.cons (.s (.binOp .eql 25 (.const (.agg (nw 9 43))) (.const (.agg (nw 9 43))) 25) rfl fun vv hg=>by simp [go_sem,exI,eqNat,eqN_self])<|.cons (.k _ fun yy vv hg hh=>RtW.of_c (Rt.same (num_any _ _)))<|.cons (.k _ fun yy vv hg hh=>RtW.of_c (Rt.same (num_any _ _)))<|.cons (.k _ fun yy vv hg hh=>RtW.of_c (Rt.same (num_any _ _))) .nil
 intro yw5 v5 hg h5
 simp only [FW,putFrom,Act.put,lqA,lqB,lqC,wvals,kW,lqD,lqE,Kw.c,Kw.r]
 clear h5
 replace g1:=g1.trans hg
 replace g2:=g2.trans hg
 replace g3:=g3.trans hg
 have g5:=hg
 clear hg
 replace G:=G.trans g1
 replace S1_5:=S1_5.gr g2
 replace V2_5:=V2_5.gr g3
 replace V4_5:=V4_5.gr g5
 clear g1 g2 g3 g5
 go_wp2_with fail
 go_ret
 exact ⟨rfl,G⟩
end
section
attribute [local go_sem] uz3
attribute [local go_sem] ppre_1 ppre_2 ppre_3 ppre_4 ppre_5 ppre_6 frz_setBlk blk_setBlk setBlk_setBlk blk_other
def rvS (W:Nat) (f:Nat→Int):Nat→Nat
 | 0=>0
 | j+1=>if bl (rvS W f j)≤576 then rvS W f j*2 ^ W+tn f j else rvS W f j
theorem bl_pv (t n:Nat):bl t≤64*n↔t<pw n:=bl_le t (64*n)
theorem bl_M6 (t:Nat):bl t≤576↔t<M:=bl_pv t 9
theorem rvS_is {W:Nat} {f:Nat→Int}:∀ {j:Nat},hor W (tn f) j<M→rvS W f j=hor W (tn f) j
 | 0,_=>rfl
 | j+1,h=>by
  have h1:hor W (tn f) j<M:=Nat.lt_of_le_of_lt (hor_le W (tn f) j) h
  have e:=rvS_is h1
  rw [rvS,e,if_pos ((bl_M6 _).2 h1),hor]
theorem rvS_big {W:Nat} {f:Nat→Int}:∀ {j:Nat},M≤hor W (tn f) j→M≤rvS W f j
 | 0,h=>absurd h (Nat.not_le.2 (lt_M 0 (by decide)))
 | j+1,h=>by
  rw [rvS]
  by_cases h1:hor W (tn f) j<M
  ·rw [rvS_is h1,if_pos ((bl_M6 _).2 h1),← hor]; exact h
  ·have:=rvS_big (Nat.not_lt.1 h1)
   rw [if_neg fun c=>absurd ((bl_M6 _).1 c) (Nat.not_lt.2 this)]
   exact this
theorem rvS_iff {W:Nat} {f:Nat→Int} {j:Nat}:bl (rvS W f j)≤576↔hor W (tn f) j<M:=by
 rw [bl_M6]
 constructor
 ·intro h
  exact Nat.lt_of_not_le fun c=>absurd h (Nat.not_lt.2 (rvS_big c))
 ·intro h
  rw [rvS_is h]; exact h
theorem rvS_lt {W:Nat} (h1:W≤6) {f:Nat→Int}:∀ {j:Nat},(∀ i,i<j→f i<((2 ^ W:Nat):Int))→rvS W f j<M*64
 | 0,_=>by have:=lt_M 0 (by decide); rw [rvS]; omega
 | j+1,h=>by
  have h2:=rvS_lt h1 (j:=j) fun i hi=>h i (by omega)
  rw [rvS]
  split
  ·rename_i c
   have c':=(bl_M6 _).1 c
   have h3:tn f j<2 ^ W:=by have:=h j (by omega); have:=Nat.two_pow_pos W; unfold tn; omega
   have h4:(rvS W f j+1)*2 ^ W≤M*2 ^ W:=Nat.mul_le_mul_right _ c'
   have h5:M*2 ^ W≤M*64:=Nat.mul_le_mul_left _ (Nat.pow_le_pow_right (n:=2) (by decide) h1)
   rw [Nat.succ_mul] at h4
   omega
  ·exact h2
theorem pq_w {n:Nat}:pq (2*n+1)=pw n*4294967296:=by rw [pq_succ,pq_two]
theorem dl_pw64 {n x:Nat} (h:x≤pw n*64):dl x≤2*n+1:=(dl_le x (2*n+1)).2 (by
 have:=pw_pos n
 rw [pq_w]
 omega)
theorem M_pw:M=pw 9:=rfl
theorem dl_M64 {x:Nat} (h:x≤M*64):dl x≤19:=by
 rw [M_pw] at h
 exact dl_pw64 h
theorem rval_form {x:Int} (hx:x<1∨6<x) (p:Value) (w:World):Cg 13 #[p,.int .i64 x] w (.tuple #[.slice none 0 0,.int .i64 1700]):=by
 by_cases h1:x<1
 ·clear hx
  go_enter Try.func13,Try.ntmps13
  go_wp2
  go_ret2
  exact ⟨rfl,grA⟩
 ·have h2:6<x:=by omega
  clear hx
  go_enter Try.func13,Try.ntmps13
  go_wp2
  go_ret2
  exact ⟨rfl,grA⟩
theorem rval_any {n W:Nat} (h0:1≤W) (h1:W≤6) (hn:n≤4611686018427387904) {f:Nat→Int} {q:Option Addr} (c:Nat) {w:World} (hf:Iv w q n f):
 Calls Try.prog 13 #[.slice q n c,.int .i64 (W:Int)] w fun e w'=>(Vok W f n∧(∃ p m,e=.returned (.tuple #[.slice p (dl (hor W (tn f) n)) m,.int .i64 0])∧Sl w' p (hor W (tn f) n))∨¬ Vok W f n∧e=.returned (.tuple #[.slice none 0 0,.int .i64 1700]))∧Gr w w':=by
 have n0:(n:Int)≤4611686018427387904:=by omega
 have w0:(1:Int)≤(W:Int):=by omega
 have w1:(W:Int)≤6:=by omega
 have x1:¬ (W:Int)<1:=by omega
 have x2:¬ 6<(W:Int):=by omega
 have HV:Hid (Iv w q n f):=hf
 have HW:Hid _:=h1
 have hsh:IntKind.i64.wrap (2 ^ W)=((2 ^ W:Nat):Int):=by
  have h3:2 ^ W≤64:=Nat.pow_le_pow_right (n:=2) (by decide) h1
  have e0:((2 ^ W:Nat):Int)=(2:Int) ^ W:=by simp
  rw [← e0,IntKind.wrap_i64]
  generalize 2 ^ W=T at h3
  omega
 have HSh:Hid _:=hsh
 clear hf h0 h1 hn hsh
 go_enter Try.func13,Try.ntmps13
 go_wp2
 clear x1 x2
 go_loopw [6,7] (fun u i wr=>∃ (j:Nat) (po:Option Addr) (no:Nat),Hid (Unit→j≤n)∧i=.int .i64 (j:Int)∧u=.slice po (dl (rvS W f j)) no∧Hid (Unit→∀ i,i<j→0≤f i∧f i<((2 ^ W:Nat):Int))∧Hid (Unit→Sl wr po (rvS W f j))∧Gr w wr) (fun _ i _=>(n-(intOf i).toNat))
 case atStart=>exact ⟨0,none,0,fun _=>by omega,rfl,by rw [rvS,dl_zero],fun _ _ h=>absurd h (Nat.not_lt_zero _),fun _=>Sl.zero _ _,Gr.refl _⟩
 case round=>
  obtain ⟨j,po,no,HJ,rfl,rfl,HK,HSl,G⟩:=hrel
  by_cases hlt:j<n
  ·obtain ⟨b,o,rfl,hb,hcc⟩:∃ b o,q=some ⟨b,o,none⟩∧b<w.heap.size∧∀ i,i<n→w.cell? ⟨b,o+i,none⟩=some (.int .i64 (f i)):=HV.out.resolve_left (by omega)
   have hcv:∀ v,Gr w v→v.cell? ⟨b,o+j,none⟩=some (.int .i64 (f j)):=fun v g=>by
    obtain ⟨k,rfl⟩:=g
    rw [cell_gro w k b _ hb]
    exact hcc j hlt
   have HJ1:Hid (Unit→j+1≤n):=fun _=>hlt
   have j0:(0:Int)≤(j:Int):=by omega
   have j1:(j:Int)<(n:Int):=by omega
   have HR:Hid (rvS W f (j+1)=if bl (rvS W f j)≤576 then rvS W f j*2 ^ W+tn f j else rvS W f j):=rfl
   have HT:Hid (tn f j=(f j).toNat):=rfl
   have HD:Hid (dl (rvS W f j)≤19):=dl_M64 (Nat.le_of_lt (rvS_lt HW.out fun i hi=>(HK.out () i hi).2))
   have HBd:Hid (Unit→¬ (0≤f j∧f j<((2 ^ W:Nat):Int))→¬ Vok W f n):=fun _ h k=>h (k.1 j hlt)
   have HKn:Hid (Unit→(0≤f j∧f j<((2 ^ W:Nat):Int))→∀ i,i<j+1→0≤f i∧f i<((2 ^ W:Nat):Int)):=fun _ h i hi=>by
    by_cases e:i=j
    ·rw [e]; exact h
    ·exact HK.out () i (by omega)
   have So:=HSl.out ()
   obtain ⟨R,hR⟩:=exl (rvS W f j)
   obtain ⟨d,hd⟩:=exl (f j)
   rw [hR] at HR HD So ⊢
   rw [hd] at hcv HT HBd HKn
   have hsh:=HSh.out
   obtain ⟨T,hT⟩:=exl (2 ^ W)
   rw [hT] at HBd hsh
   have HTe:Hid (Unit→2 ^ W=T):=fun _=>hT
   have HT2:Hid (T≤64):=hT ▸ Nat.pow_le_pow_right (n:=2) (by decide) HW.out
   clear hcc hlt HJ HK HSl hR hd hb HV hT
   by_cases dn:d<0
   ·have HNo:Hid (Unit→¬ Vok W f n):=fun _=>HBd.out () (by omega)
    clear HBd HKn HR HT
    go_upto_region 7 with fail
    refine wp_w [.c (.slice (some ⟨b,o,none⟩) n c),.c (.int .i64 (j:Int)),.c (pv b (o+j)),.c (.int .i64 d),.c (.bool true),.c (.bool true),.u,.u,.u,.u,.u,.u,.u,.c (.bool true)] [2,3,4] ?hs1 ?hf1
    case hs1=>
     exact .cons (.s (.indexAddr 26 (.const (.slice (some ⟨b,o,none⟩) n c)) (.const (.int .i64 (j:Int)))) rfl fun vv hg=>by simp [go_sem,exI,j0,j1])<|.cons (.s (.load 3 (.const (.pointer (some ⟨b,o+j,none⟩)))) rfl fun vv hg=>by simp [go_sem,exI,hcv _ (G.trans hg)])<|.cons (.s (.binOp .lss 3 (.const (.int .i64 d)) (.const (.int .i64 0)) 3) rfl fun vv hg=>by simp [go_sem,exI,dn]) .nil
    intro yw7 v1 hg h7
    simp only [FW,putFrom,Act.put,lqA,lqB,lqC,wvals,kW,lqD,lqE,Kw.c,pv,Kw.u]
    clear h7
    replace G:=G.trans hg
    replace So:=So.gr hg
    clear hg
    go_wp2_with fail
    go_ret2
    exact ⟨Or.inr ⟨HNo.out (),rfl⟩,G⟩
   by_cases db:(T:Int)≤d
   ·have HNo:Hid (Unit→¬ Vok W f n):=fun _=>HBd.out () (by omega)
    clear HBd HKn HR HT
    go_upto_region 7 with fail
    refine wp_w [.c (.slice (some ⟨b,o,none⟩) n c),.c (.int .i64 (j:Int)),.c (pv b (o+j)),.c (.int .i64 d),.c (.bool false),.c (.bool false),.c (.slice (some ⟨b,o,none⟩) n c),.c (.int .i64 (j:Int)),.c (pv b (o+j)),.c (.int .i64 d),.c (.int .i64 (W:Int)),.c (.int .i64 (T:Int)),.c (.bool true),.c (.bool true)] [2,3,4,8,9,11,12] ?hs2 ?hf2
    case hs2=>
     exact .cons (.s (.indexAddr 26 (.const (.slice (some ⟨b,o,none⟩) n c)) (.const (.int .i64 (j:Int)))) rfl fun vv hg=>by simp [go_sem,exI,j0,j1])<|.cons (.s (.load 3 (.const (.pointer (some ⟨b,o+j,none⟩)))) rfl fun vv hg=>by simp [go_sem,exI,hcv _ (G.trans hg)])<|.cons (.s (.binOp .lss 3 (.const (.int .i64 d)) (.const (.int .i64 0)) 3) rfl fun vv hg=>by simp [go_sem,exI,dn])<|.cons (.s (.indexAddr 26 (.const (.slice (some ⟨b,o,none⟩) n c)) (.const (.int .i64 (j:Int)))) rfl fun vv hg=>by simp [go_sem,exI,j0,j1])<|.cons (.s (.load 3 (.const (.pointer (some ⟨b,o+j,none⟩)))) rfl fun vv hg=>by simp [go_sem,exI,hcv _ (G.trans hg)])<|.cons (.s (.binOp .shl 3 (.const (.int .i64 1)) (.const (.int .i64 (W:Int))) 3) rfl fun vv hg=>by simp [go_sem,exI,hsh])<|.cons (.s (.binOp .geq 3 (.const (.int .i64 d)) (.const (.int .i64 (T:Int))) 3) rfl fun vv hg=>by simp [go_sem,exI,db]) .nil
    intro yw7 v1 hg h7
    simp only [FW,putFrom,Act.put,lqA,lqB,lqC,wvals,kW,lqD,lqE,Kw.c,pv]
    clear h7
    replace G:=G.trans hg
    replace So:=So.gr hg
    clear hg
    go_wp2_with fail
    go_ret2
    exact ⟨Or.inr ⟨HNo.out (),rfl⟩,G⟩
   have HV1:Hid (Unit→_):=fun _=>HKn.out () ⟨by omega,by rw [HTe.out ()]; omega⟩
   obtain ⟨B,hB0⟩:=exl (bl R)
   have HB:Hid (∀ v p m,Sl v p R→Calls Try.prog 20 #[.slice p (dl R) m] v fun e w'=>e=.returned (.int .i64 (B:Int))∧w'=v):=fun v p m s=>hB0 ▸ rbits_any R m p v s (by have:=HD.out; omega)
   have HL:Hid (∀ v p m,Sl v p R→Calls Try.prog 34 #[.slice p (dl R) m,.int .i64 (W:Int)] v (Nm (R*2 ^ W) v)):=fun v p m s=>rshl_any R m W p v s (by have:=HD.out; omega) (by have:=HW.out; omega)
   have HS:Hid (∀ v,Calls Try.prog 35 #[.int .i64 d] v (Nm d.toNat v)):=fun v=>rsmall_any d (by have:=HT2.out; omega) v
   clear HBd HKn
   by_cases hB:(B:Int)≤576
   ·have HR1:Hid (Unit→rvS W f (j+1)=R*2 ^ W+d.toNat):=fun _=>by rw [HR.out,if_pos (by omega),HT.out]
    have HA:Hid (∀ v p m q m',Sl v p (R*2 ^ W)→Sl v q d.toNat→Calls Try.prog 33 #[.slice p (dl (R*2 ^ W)) m,.slice q (dl d.toNat) m'] v (Nm (R*2 ^ W+d.toNat) v)):=fun v p m q m' s1 s2=>radd_any (R*2 ^ W) d.toNat m m' p q v s1 s2 (by
     have h3:R<M:=(bl_M6 R).1 (by omega)
     have h5:M*2 ^ W≤M*64:=Nat.mul_le_mul_left _ (Nat.pow_le_pow_right (n:=2) (by decide) HW.out)
     have h6:R*2 ^ W≤M*2 ^ W:=Nat.mul_le_mul_right _ (by omega)
     have:=dl_M64 (Nat.le_trans h6 h5)
     omega) (by
     have:d<64:=by
      have h3:=HT2.out
      omega
     have:=(dl_le d.toNat 1).2 (by rw [pq_succ,pq_zero]; omega)
     omega)
    clear HR HT hB0
    go_upto_region 7 with fail
    refine wp_w [.c (.slice (some ⟨b,o,none⟩) n c),.c (.int .i64 (j:Int)),.c (pv b (o+j)),.c (.int .i64 d),.c (.bool false),.c (.bool false),.c (.slice (some ⟨b,o,none⟩) n c),.c (.int .i64 (j:Int)),.c (pv b (o+j)),.c (.int .i64 d),.c (.int .i64 (W:Int)),.c (.int .i64 (T:Int)),.c (.bool false),.c (.bool false)] [2,3,4,8,9,11,12] ?hs3 ?hf3
    case hs3=>
     exact .cons (.s (.indexAddr 26 (.const (.slice (some ⟨b,o,none⟩) n c)) (.const (.int .i64 (j:Int)))) rfl fun vv hg=>by simp [go_sem,exI,j0,j1])<|.cons (.s (.load 3 (.const (.pointer (some ⟨b,o+j,none⟩)))) rfl fun vv hg=>by simp [go_sem,exI,hcv _ (G.trans hg)])<|.cons (.s (.binOp .lss 3 (.const (.int .i64 d)) (.const (.int .i64 0)) 3) rfl fun vv hg=>by simp [go_sem,exI,dn])<|.cons (.s (.indexAddr 26 (.const (.slice (some ⟨b,o,none⟩) n c)) (.const (.int .i64 (j:Int)))) rfl fun vv hg=>by simp [go_sem,exI,j0,j1])<|.cons (.s (.load 3 (.const (.pointer (some ⟨b,o+j,none⟩)))) rfl fun vv hg=>by simp [go_sem,exI,hcv _ (G.trans hg)])<|.cons (.s (.binOp .shl 3 (.const (.int .i64 1)) (.const (.int .i64 (W:Int))) 3) rfl fun vv hg=>by simp [go_sem,exI,hsh])<|.cons (.s (.binOp .geq 3 (.const (.int .i64 d)) (.const (.int .i64 (T:Int))) 3) rfl fun vv hg=>by simp [go_sem,exI,db]) .nil
    intro yw7 v1 hg h7
    simp only [FW,putFrom,Act.put,lqA,lqB,lqC,wvals,kW,lqD,lqE,Kw.c,pv]
    clear h7
    replace G:=G.trans hg
    replace So:=So.gr hg
    clear hg
    go_upto_region 9 with fail
    refine wp_wS [.c (.slice po (dl (R)) no),.c (.int .i64 (B:Int)),.c (.bool true)] [1,2] ?hs4 ?hf4
    case hs4=>
     exact .cons (.k (fun yy => #[.slice po (dl (R)) no]) fun yy vv hg hh=>RtW.of_c (Rt.same (HB.out _ po no (So.gr hg))))<|.cons (.s (.binOp .leq 3 (.const (.int .i64 (B:Int))) (.const (.int .i64 576)) 3) rfl fun vv hg=>by simp [go_sem,exI,hB]) .nil
    intro yw9 v2 hg h9
    simp only [FW,putFrom,Act.put,lqA,lqB,lqC,wvals,kW,lqD,lqE,Kw.c]
    clear h9
    replace G:=G.trans hg
    replace So:=So.gr hg
    clear hg
    have hc0:=hcv _ G
    have hcg:∀ v,Gr v2 v→v.cell? ⟨b,o+j,none⟩=some (.int .i64 d):=fun v g=>hcv v (G.trans g)
    have HG2:Hid (Gr w v2):=G
    clear hcv G
    go_upto_region 10 with fail
    go_region_with (first
     | (go_at_call 33; refine (HA.out _ _ _ _ _ ?_ ?_).mono ?_; (first | exact S1 | exact S1.gr G2 | exact S1.gr (Gr.trans (Gr.drew (Gr.refl _)) G2)); (first | exact S2 | exact S2.gr G1 | exact S2.gr (Gr.trans (Gr.drew (Gr.refl _)) G1)); rintro e w3 ⟨p3,n3,rfl,S3,G3⟩)
     | (go_at_call 34; refine (HL.out _ _ _ ?_).mono ?_; (first | exact So | exact So.gr (Gr.drew (Gr.refl _)) | exact So.gr G2 | exact So.gr (Gr.trans (Gr.drew (Gr.refl _)) G2)); rintro e w1 ⟨p1,n1,rfl,S1,G1⟩; have hc1:=hcg w1 (by first | exact G1 | exact Gr.trans (Gr.drew (Gr.refl _)) G1 | exact Gr.trans G2 G1 | exact Gr.trans (Gr.trans (Gr.drew (Gr.refl _)) G2) G1))
     | (go_at_call 35; refine (HS.out _).mono ?_; rintro e w2 ⟨p2,n2,rfl,S2,G2⟩))
    all_goals
     have GA:Gr w w3:=((HG2.out.drew.trans G1).trans G2).trans G3
     clear G1 G2 G3 S1 S2 hc1 hc0 hcg
     go_wp2
     go_roundw
     case rel=>exact ⟨j+1,p3,n3,HJ1,by go_num,by rw [HR1.out ()],fun _=>HV1.out (),fun _=>by rw [HR1.out ()]; exact S3,GA⟩
     case measure=>simp [intOf]; omega
   ·have HR1:Hid (Unit→rvS W f (j+1)=R):=fun _=>by rw [HR.out,if_neg (by omega)]
    clear HR HT hB0
    go_upto_region 7 with fail
    refine wp_w [.c (.slice (some ⟨b,o,none⟩) n c),.c (.int .i64 (j:Int)),.c (pv b (o+j)),.c (.int .i64 d),.c (.bool false),.c (.bool false),.c (.slice (some ⟨b,o,none⟩) n c),.c (.int .i64 (j:Int)),.c (pv b (o+j)),.c (.int .i64 d),.c (.int .i64 (W:Int)),.c (.int .i64 (T:Int)),.c (.bool false),.c (.bool false)] [2,3,4,8,9,11,12] ?hs5 ?hf5
    case hs5=>
     exact .cons (.s (.indexAddr 26 (.const (.slice (some ⟨b,o,none⟩) n c)) (.const (.int .i64 (j:Int)))) rfl fun vv hg=>by simp [go_sem,exI,j0,j1])<|.cons (.s (.load 3 (.const (.pointer (some ⟨b,o+j,none⟩)))) rfl fun vv hg=>by simp [go_sem,exI,hcv _ (G.trans hg)])<|.cons (.s (.binOp .lss 3 (.const (.int .i64 d)) (.const (.int .i64 0)) 3) rfl fun vv hg=>by simp [go_sem,exI,dn])<|.cons (.s (.indexAddr 26 (.const (.slice (some ⟨b,o,none⟩) n c)) (.const (.int .i64 (j:Int)))) rfl fun vv hg=>by simp [go_sem,exI,j0,j1])<|.cons (.s (.load 3 (.const (.pointer (some ⟨b,o+j,none⟩)))) rfl fun vv hg=>by simp [go_sem,exI,hcv _ (G.trans hg)])<|.cons (.s (.binOp .shl 3 (.const (.int .i64 1)) (.const (.int .i64 (W:Int))) 3) rfl fun vv hg=>by simp [go_sem,exI,hsh])<|.cons (.s (.binOp .geq 3 (.const (.int .i64 d)) (.const (.int .i64 (T:Int))) 3) rfl fun vv hg=>by simp [go_sem,exI,db]) .nil
    intro yw7 v1 hg h7
    simp only [FW,putFrom,Act.put,lqA,lqB,lqC,wvals,kW,lqD,lqE,Kw.c,pv]
    clear h7
    replace G:=G.trans hg
    replace So:=So.gr hg
    clear hg
    go_upto_region 9 with fail
    refine wp_wS [.c (.slice po (dl (R)) no),.c (.int .i64 (B:Int)),.c (.bool false)] [1,2] ?hs6 ?hf6
    case hs6=>
     exact .cons (.k (fun yy => #[.slice po (dl (R)) no]) fun yy vv hg hh=>RtW.of_c (Rt.same (HB.out _ po no (So.gr hg))))<|.cons (.s (.binOp .leq 3 (.const (.int .i64 (B:Int))) (.const (.int .i64 576)) 3) rfl fun vv hg=>by simp [go_sem,exI,hB]) .nil
    intro yw9 v2 hg h9
    simp only [FW,putFrom,Act.put,lqA,lqB,lqC,wvals,kW,lqD,lqE,Kw.c]
    clear h9
    replace G:=G.trans hg
    replace So:=So.gr hg
    clear hg
    go_wp2_with fail
    go_roundw
    case rel=>
     exact ⟨j+1,po,no,HJ1,by go_num,by rw [HR1.out ()],fun _=>HV1.out (),fun _=>by rw [HR1.out ()]; exact So,G⟩
    case measure=>simp [intOf]; omega
  ·have HE:Hid (Unit→j=n):=fun _=>by have:=HJ.out (); omega
   have hni:¬ (j:Int)<(n:Int):=by omega
   have HD:Hid (dl (rvS W f j)≤19):=dl_M64 (Nat.le_of_lt (rvS_lt HW.out fun i hi=>(HK.out () i hi).2))
   have HIf:Hid _:=rvS_iff (W:=W) (f:=f) (j:=j)
   obtain ⟨B,hB0⟩:=exl (bl (rvS W f j))
   rw [hB0] at HIf
   have HB:Hid (Unit→Calls Try.prog 20 #[.slice po (dl (rvS W f j)) no] wr fun e w'=>e=.returned (.int .i64 (B:Int))∧wr=w'):=fun _=>hB0 ▸ (rbits_any (rvS W f j) no po wr (HSl.out ()) (by have:=HD.out; omega)).mono fun _ _ h=>⟨h.1,h.2.symm⟩
   have HG:Hid (Gr w wr):=G
   clear hlt HJ hB0 G
   by_cases hB:576<(B:Int)
   ·have HN:Hid (Unit→¬ Vok W f j):=fun _ k=>by have:=HIf.out.2 k.2; omega
    go_wp2_with (go_at_call 20; refine (HB.out ()).mono ?_; rintro e w' ⟨rfl,rfl⟩)
    go_ret2
    refine ⟨Or.inr ⟨?_,rfl⟩,HG.out⟩
    rw [← HE.out ()]; exact HN.out ()
   ·have HY:Hid (Unit→hor W (tn f) j<M):=fun _=>HIf.out.1 (by omega)
    go_wp2_with (go_at_call 20; refine (HB.out ()).mono ?_; rintro e w' ⟨rfl,rfl⟩)
    go_ret2
    refine ⟨Or.inl ?_,HG.out⟩
    rw [← HE.out ()]
    refine ⟨⟨HK.out (),HY.out ()⟩,po,no,?_⟩
    rw [← rvS_is (HY.out ())]
    exact ⟨rfl,HSl.out ()⟩
end
section
attribute [local go_sem] uz3
attribute [local go_sem] ppre_1 ppre_2 ppre_3 ppre_4 ppre_5 ppre_6
theorem rdig_no {k:Nat} (hk:k<M) {b x:Int} {p:Option Addr} {n:Nat} {w:World} (hp:Sl w p k) (h:x<1∨6<x∨b<1∨576<b∨b<(bl k:Int)):Cg 9 #[.slice p (dl k) n,.int .i64 b,.int .i64 x] w (.tuple #[.slice none 0 0,.int .i64 1700]):=by
 have HB:Hid (Unit→_):=fun _=>rbits_any k n p w hp (by have:=(dl_le k 18).2 (by rw [pq_two 9]; exact hk); omega)
 obtain ⟨L,hL⟩:=exl (dl k)
 obtain ⟨B,hB⟩:=exl (bl k)
 rw [hL,hB] at HB
 rw [hB] at h
 rw [hL]
 clear hL hB hp hk
 by_cases h1:x<1
 ·clear h
  go_enter Try.func9,Try.ntmps9
  go_wp2
  go_ret2
  exact ⟨rfl,grA⟩
 by_cases h2:6<x
 ·clear h
  go_enter Try.func9,Try.ntmps9
  go_wp2
  go_ret2
  exact ⟨rfl,grA⟩
 by_cases h3:b<1
 ·clear h
  go_enter Try.func9,Try.ntmps9
  go_wp2
  go_ret2
  exact ⟨rfl,grA⟩
 by_cases h4:576<b
 ·clear h
  go_enter Try.func9,Try.ntmps9
  go_wp2
  go_ret2
  exact ⟨rfl,grA⟩
 have h5:b<(B:Int):=by omega
 clear h
 go_enter Try.func9,Try.ntmps9
 go_wp2_with (go_at_call 20; refine (HB.out ()).mono ?_; rintro e w' ⟨rfl,rfl⟩)
 go_ret2
 exact ⟨rfl,grA⟩
theorem cF_skip {W k m j:Nat} (h:k/2 ^ (W*j)=0):ir m (cF W k m j)=ir m (cF W k m (j+1)):=ir_congr fun i hi=>by
 unfold cF
 by_cases c:m≤i+j
 ·rw [if_pos c,if_pos (by omega)]
 ·rw [if_neg c]
  by_cases d:m≤i+(j+1)
  ·rw [if_pos d]
   unfold dF dgw
   rw [show m-1-i=j by omega,h,Nat.zero_mod]
   rfl
  ·rw [if_neg d]
theorem dg_dgw {W k j:Nat} (h:W≤6):dg (k/2 ^ (W*j)) 0%2 ^ W=dgw W k j:=by
 unfold dg dgw
 rw [pq_zero,Nat.div_one]
 have e:(4294967296:Nat)=2 ^ W*2 ^ (32-W):=by rw [← Nat.pow_add,show W+(32-W)=32 by omega]
 rw [e,Nat.mod_mul_right_mod]
theorem bits_and32 (a b:Nat) (ha:a<4294967296) (hb:b<4294967296):bits .and .u32 (a:Int) (b:Int)=((a &&& b:Nat):Int):=by
 have hx:a &&& b<2 ^ 32:=Nat.and_lt_two_pow _ (by omega)
 have h1:(BitVec.ofInt 32 (a:Int)).toNat=a:=by
  rw [BitVec.ofInt_natCast,BitVec.toNat_ofNat]; exact Nat.mod_eq_of_lt (by omega)
 have h2:(BitVec.ofInt 32 (b:Int)).toNat=b:=by
  rw [BitVec.ofInt_natCast,BitVec.toNat_ofNat]; exact Nat.mod_eq_of_lt (by omega)
 show IntKind.u32.wrap ((BitVec.ofInt 32 (a:Int) &&& BitVec.ofInt 32 (b:Int)).toNat:Int)=_
 rw [BitVec.toNat_and,h1,h2,IntKind.wrap_u32]
 omega
theorem mask32 {D W:Nat} (hD:D<4294967296) (h:W≤6):wrap64 (bits BinOp.and IntKind.u32 (D:Int) (((2:Int) ^ W-1)%4294967296))=((D%2 ^ W:Nat):Int):=by
 have h1:2 ^ W≤2 ^ 6:=Nat.pow_le_pow_right (by decide) h
 have h2:0<2 ^ W:=Nat.two_pow_pos W
 have e:((2:Int) ^ W-1)%4294967296=((2 ^ W-1:Nat):Int):=by
  have e0:((2 ^ W:Nat):Int)=(2:Int) ^ W:=by simp
  omega
 rw [e,bits_and32 D _ hD (by omega),Nat.and_two_pow_sub_one_eq_mod]
 have h3:D%2 ^ W<2 ^ W:=Nat.mod_lt _ h2
 unfold wrap64
 omega
theorem rdig_any {k b W:Nat} (hk:k<M) {p:Option Addr} {n:Nat} {w:World} (hp:Sl w p k) (h0:1≤W) (h1:W≤6) (b0:1≤b) (b1:b≤576) (hb:bl k≤b):
 Calls Try.prog 9 #[.slice p (dl k) n,.int .i64 (b:Int),.int .i64 (W:Int)] w
  fun e w'=>∃ g,e=.returned (.tuple #[.slice (some ⟨g,0,none⟩) (mnN W b) (mnN W b),.int .i64 0])∧w.heap.size≤g∧Rx w' g (mnN W b) (mnN W b) (iF (dF W k (mnN W b)))∧Gr w w':=by
 have hd:dl k≤50000:=by have:=(dl_le k 18).2 (by rw [pq_two 9]; exact hk); omega
 have HB:Hid (Unit→_):=fun _=>(rbits_any k n p w hp hd).mono fun _ _ h=>And.intro h.1 h.2.symm
 have HX:Hid _:=fun (s:Nat) (hs:s≤1000000) (v:World) (g:Gr w v)=>rshr_any k n s p v (hp.gr g) hd hs
 have hq:((b:Int)+(W:Int)-1).tdiv (W:Int)=((mnN W b:Nat):Int):=by
  rw [show (b:Int)+(W:Int)-1=((b+W-1:Nat):Int) by omega]
  exact (Int.ofNat_tdiv _ _).symm
 have hq2:((b:Int)+(W:Int)-1)/(W:Int)=((mnN W b:Nat):Int):=by rw [← hq,Int.tdiv_eq_ediv_of_nonneg (by omega)]
 obtain ⟨L,hL⟩:=exl (dl k)
 obtain ⟨B,hB⟩:=exl (bl k)
 have hm:=mnN_le (W:=W) h0 b1
 obtain ⟨m,hm'⟩:∃ m,mnN W b=m:=⟨_,rfl⟩
 rw [hL] at HB HX
 rw [hB] at HB hb
 rw [hm'] at hq hq2 hm ⊢
 rw [hL]
 have w0:(1:Int)≤(W:Int):=by omega
 have w1:(W:Int)≤6:=by omega
 have b2:(1:Int)≤(b:Int):=by omega
 have b3:(b:Int)≤576:=by omega
 have b4:¬ b<B:=by omega
 have x1:¬ (W:Int)<1:=by omega
 have x2:¬ 6<(W:Int):=by omega
 have x3:¬ (b:Int)<1:=by omega
 have x4:¬ 576<(b:Int):=by omega
 have m0:(0:Int)≤(m:Int):=by omega
 have m1:(m:Int)≤576:=by omega
 have hmk:=fun w=>make_ints m (by omega) w
 have HW:Hid _:=h1
 clear hm' hL hB hp hk h0 h1 b0 b1 hb hm hd hq
 go_enter Try.func9,Try.ntmps9
 go_wp2_with (go_at_call 20; refine (HB.out ()).mono ?_; rintro e w' ⟨rfl,rfl⟩)
 simp only [hq2]
 clear HB hmk b2 b3 b4 hq2 x1 x2 x3 x4
 go_loopw [10,11] (fun i _ wr=>∃ (j:Nat) (g:Grow),Hid (Unit→j≤m)∧i=.int .i64 (j:Int)∧wr=gro (w.alloc (.cells (ir m (cF W k m j)) 3)) g) (fun i _ _=>(m-(intOf i).toNat))
 case atStart=>
  obtain ⟨g0,hg0⟩:=Gr.refl (w.alloc (.cells (ir m fun _=>0) 3))
  exact ⟨0,g0,fun _=>by omega,rfl,by rw [cF_zero]; exact hg0⟩
 case round=>
  obtain ⟨j,g,HJ,rfl,rfl⟩:=hrel
  by_cases hlt:j<m
  ·have j0:(0:Int)≤(j:Int):=by omega
   have j1:(j:Int)<(m:Int):=by omega
   obtain ⟨q,hqq⟩:∃ q,q+j+1=m:=⟨m-1-j,by omega⟩
   have e1:(m:Int)-1-(j:Int)=(q:Int):=by omega
   have q0:(0:Int)≤(q:Int):=by omega
   have q1:(q:Int)<(m:Int):=by omega
   have gx:=ir_get m (cF W k m j) q (by omega)
   have hJ:W*j≤6*576:=Nat.mul_le_mul HW.out (by omega)
   have HX1:Hid (Unit→_):=fun _=>HX.out (W*j) (by omega) (gro (w.alloc (.cells (ir m (cF W k m j)) 3)) g) grA
   have HC:Hid (Unit→_):=fun _=>cF_step W k m q j hqq
   have HZ:Hid (Unit→k/2 ^ (W*j)=0→_):=fun _ h=>cF_skip (m:=m) h
   have HM:Hid _:=dg_dgw (k:=k) (j:=j) HW.out
   have HJ1:Hid (Unit→j+1≤m):=fun _=>hlt
   obtain ⟨X,hX⟩:=exl (k/2 ^ (W*j))
   rw [hX] at HX1 HZ HM
   obtain ⟨P,hP⟩:=exl (W*j)
   rw [hP] at HX1 hJ
   have hP2:(W:Int)*(j:Int)=(P:Int):=by rw [← hP]; exact (Int.natCast_mul _ _).symm
   have P0:(0:Int)≤(P:Int):=by omega
   have P1:(P:Int)≤3456:=by omega
   clear hX hP hJ hlt HJ hqq HX
   by_cases hX:X=0
   ·have HZ1:Hid _:=HZ.out () hX
    have hl:dl X=0:=by rw [hX]; exact dl_zero
    rw [hX] at HX1
    clear HC HM HZ hX
    go_wp2_with (go_at_call 29; refine (HX1.out ()).mono ?_; rintro e w' ⟨px,nx,rfl, -,g2,rfl⟩; rw [dl_zero])
    go_roundw
    case rel=>exact ⟨j+1,⟨g.os++g2.os,g2.n⟩,HJ1,by go_num,by rw [HZ1.out]⟩
    case measure=>simp [intOf]; omega
   ·have hl0:0<dl X:=Nat.pos_of_ne_zero fun h=>hX (Nat.lt_one_iff.1 (by have:=dl_lt X; rwa [h,pq_zero] at this))
    have hD:=dg_lt X 0
    have HX2:Hid (Unit→Calls Try.prog 29 #[.slice p L n,.int .i64 (P:Int)] (gro (w.alloc (.cells (ir m (cF W k m j)) 3)) g) fun e w'=>∃ bx nx,e=.returned (.slice (some ⟨bx,0,none⟩) (dl X) nx)∧∃ g2,(w'=gro (gro (w.alloc (.cells (ir m (cF W k m j)) 3)) g) g2)∧∀ n,(gro (w.alloc (.cells (ir m (cF W k m j)) 3)) ⟨g.os++g2.os,n⟩).cell? ⟨bx,0,none⟩=some (.int .u32 ((dg X 0:Nat):Int))):=fun _=>(HX1.out ()).mono fun e w' ⟨px,nx,he,Sx,g2,hw⟩=>by
     subst hw
     obtain ⟨bx,rfl, -,hcx⟩:=Sx 0 hl0
     refine ⟨bx,nx,he,g2,rfl,fun n=>?_⟩
     rw [cell_blk,← hcx,gro_gro]
     rfl
    obtain ⟨l,hl⟩:=exl (dl X)
    rw [hl] at hl0 HX2
    have l0:(0:Int)<(l:Int):=by omega
    obtain ⟨D,hd⟩:=exl (dg X 0)
    rw [hd] at HX2 hD HM
    clear HX1 HZ hl hl0 hd hX
    go_wp2_with (go_at_call 29; refine (HX2.out ()).mono ?_; rintro e w' ⟨bx,nx,rfl,g2,rfl,hc⟩)
    go_big_region
    go_wp2
    go_roundw
    case rel=>
     refine ⟨j+1,⟨g.os++g2.os,g2.n+1⟩,HJ1,by go_num,?_⟩
     rw [mask32 hD HW.out,HM.out,HC.out ()]
    case measure=>simp [intOf]; omega
  ·have HE:Hid (Unit→j=m):=fun _=>by have:=HJ.out (); omega
   have hni:¬ (j:Int)<(m:Int):=by omega
   clear hlt HJ HX
   go_wp2
   go_ret2
   refine ⟨_,rfl,Nat.le_refl _,?_,grA⟩
   rw [HE.out (),cF_end]
   exact (Rx.new _ _ _ _ rfl).gr ⟨g,rfl⟩
end
section
attribute [local go_sem] uz3
attribute [local go_sem] ppre_1 ppre_2 ppre_3 ppre_4 ppre_5 ppre_6 frz_setBlk blk_setBlk setBlk_setBlk blk_other
theorem neNat (x z:Nat) (w:World):(binOp .neq 25 (.agg (nw 9 x)) (.agg (nw 9 z))).run Try.prog w=.ok (.bool (!(eqN 9 x z))) w:=by
 have h:=eqNat x z w
 rw [run_eql_struct] at h
 rw [run_neq_struct]
 cases hr:(Op.equalIn 10000 25 (.agg (nw 9 x)) (.agg (nw 9 z))).run Try.prog w with
 | ok b w'=>
  rw [hr] at h
  simp [Result.andThen] at h ⊢
  exact ⟨by rw [h.1],h.2⟩
 | _=>rw [hr] at h; simp [Result.andThen] at h
theorem lvwin_11 {k:Nat} (hk:k<M) (x y:Int) {q:Option Addr} {n c:Nat} {f:Nat→Int} {w:World} (hI:Iv w q n f) (hn:n*8≤140737488351232) {m:Nat} {F:Nat→Int} {Z:Nat} 
 (HD':∀ w,Calls Try.prog 8 #[.agg (nw 9 k),.int .i64 x,.int .i64 y] w fun e w'=>∃ g,e=.returned (.tuple #[.slice (some ⟨g,0,none⟩) m m,.int .i64 0])∧w.heap.size≤g∧Rx w' g m m (iF F)∧Gr w w')
 (HRD':∀ v p l,Sl v p k→Calls Try.prog 9 #[.slice p (dl k) l,.int .i64 x,.int .i64 y] v fun e w'=>∃ g,e=.returned (.tuple #[.slice (some ⟨g,0,none⟩) m m,.int .i64 0])∧v.heap.size≤g∧Rx w' g m m (iF F)∧Gr v w') (hm:m≤4611686018427387904) (hFb:∀ i,i<m → -9223372036854775000≤F i∧F i≤9223372036854775000)
 (HV':∀ v g cap,Rx v g (n+2) cap (iF (lnF n f))→Cg 12 #[.slice (some ⟨g,0,none⟩) n cap,.int .i64 y] v (.tuple #[.agg (nw 9 Z),.int .i64 0]))
 (HRV':∀ v,Gr w v→Calls Try.prog 13 #[.slice q n c,.int .i64 y] v fun e w'=>(∃ p m,e=.returned (.tuple #[.slice p (dl Z) m,.int .i64 0])∧Sl w' p Z)∧Gr v w'):Cg 3 #[.agg (nw 9 k),.int .i64 x,.int .i64 y,.slice q n c] w (.bool true):=by
 have HI:Hid (Iv w q n f):=hI
 have HN:Hid (n*8≤140737488351232):=hn
 have HF:Hid (∀ v,Calls Try.prog 10 #[.agg (nw 9 k)] v (Nm k v)):=fun v=>from_any k hk v
 have HD:Hid _:=HD'
 have HRD:Hid _:=HRD'
 have HM:Hid _:=hm
 have HFb:Hid (∀ i,i<m → -9223372036854775000≤F i∧F i≤9223372036854775000):=hFb
 clear hm hFb
 have HV:Hid _:=HV'
 have HRV:Hid _:=HRV'
 clear HD' HRD' HV' HRV' hI hn hk
 have HAW:Hid (∀ w,Cg 19 #[] w (.bool true)):=fun w=>awake17_any w
 go_enter Try.func3,Try.ntmps3
 go_upto_region 1 with fail
 obtain ⟨e9,he9⟩:=exl (w.heap.size)
 simp only [he9]
 refine gen_w (fun v=>Gr w v∧Vr v e9 (nw 9 k)) ?_ ?_
 ·subst he9
  exact ⟨(Gr.refl _).alloc _,Vr.new _ _ _⟩
 clear he9
 rintro v0 ⟨G,c9⟩
 have G0:=G
 refine wp_wS [.c (.agg (nw 9 k)),.c (.int .i64 x),.c (.int .i64 y),.it (v0.heap.size) m (F),.it (v0.heap.size) m (F),.ix (v0.heap.size) m (F),.c (.int .i64 0),.ix (v0.heap.size) m (F),.c (.int .i64 0)] [0,3,4,5,6,7] ?hs1 ?hf1
 case hs1=>
  exact .cons (.g 25 0 c9 rfl)<|.cons (.k _ fun yy vv hg hh =>  (RtW.it hg (HD.out _)))<|.cons (.m 3)<|.cons (.m 4)<|.cons (.m 4)<|.cons (.m 5) .nil
 intro yw1 v1 hg h1
 simp only [FW,putFrom,Act.put,lqA,lqB,lqC,wvals,kW,lqD,lqE,Kw.c,Kw.it,Kw.ix]
 obtain ⟨N1_7,S1_7⟩:v0.heap.size≤(yw1 7 0).2∧Rx v1 (yw1 7 0).2 m m (iF (F)):=h1 7
 clear h1
 replace G:=G.trans hg
 replace c9:=c9.gr hg
 clear hg
 have hA1:=S1_7.lt
 have hA0:w.heap.size≤(yw1 7 0).2:=Nat.le_trans G0.below.size N1_7
 go_upto_region 2 with fail
 refine wp_wS [.c (.agg (nw 9 k)),.c (.int .i64 x),.c (.int .i64 y),.it (v1.heap.size) m (F),.it (v1.heap.size) m (F),.ix (v1.heap.size) m (F),.c (.int .i64 0),.ix (v1.heap.size) m (F),.c (.int .i64 0)] [0,3,4,5,6,7] ?hs2 ?hf2
 case hs2=>
  exact .cons (.g 25 0 c9 rfl)<|.cons (.k _ fun yy vv hg hh =>  (RtW.it hg (HD.out _)))<|.cons (.m 3)<|.cons (.m 4)<|.cons (.m 4)<|.cons (.m 5) .nil
 intro yw2 v2 hg h2
 simp only [FW,putFrom,Act.put,lqA,lqB,lqC,wvals,kW,lqD,lqE,Kw.c,Kw.it,Kw.ix]
 obtain ⟨N2_7,S2_7⟩:v1.heap.size≤(yw2 7 0).2∧Rx v2 (yw2 7 0).2 m m (iF (F)):=h2 7
 clear h2
 replace G:=G.trans hg
 replace c9:=c9.gr hg
 replace S1_7:=S1_7.gr hg
 clear hg
 have hB2:=S2_7.lt
 go_upto_region 3 with fail
 refine wp_wS [.c (.agg (nw 9 k)),.n (k),.c (.int .i64 x),.c (.int .i64 y),.it (v2.heap.size) m (F),.it (v2.heap.size) m (F),.ix (v2.heap.size) m (F),.c (.int .i64 0),.ix (v2.heap.size) m (F),.c (.int .i64 0)] [0,1,4,5,6,7,8] ?hs3 ?hf3
 case hs3=>
  exact .cons (.g 25 0 c9 rfl)<|.cons (.k _ fun yy vv hg hh=>RtW.of_n (Rt.n (HF.out _)))<|.cons (.k (fun yy => #[.slice (yy 1 0).1 (dl (k)) (yy 1 0).2,.int .i64 x,.int .i64 y]) fun yy vv hg hh =>  (RtW.it hg (HRD.out _ (yy 1 0).1 (yy 1 0).2 (hh 1 rfl))))<|.cons (.m 4)<|.cons (.m 5)<|.cons (.m 5)<|.cons (.m 6) .nil
 intro yw3 v3 hg h3
 simp only [FW,putFrom,Act.put,lqA,lqB,lqC,wvals,kW,lqD,lqE,Kw.c,Kw.it,Kw.ix,Kw.n]
 obtain ⟨N3_8,S3_8⟩:v2.heap.size≤(yw3 8 0).2∧Rx v3 (yw3 8 0).2 m m (iF (F)):=h3 8
 clear h3
 replace G:=G.trans hg
 replace c9:=c9.gr hg
 replace S1_7:=S1_7.gr hg
 replace S2_7:=S2_7.gr hg
 clear hg
 go_upto_region 4 with fail
 refine wp_wS [.c (.slice q n c),.ln (v3.heap.size) n (f),.ln (v3.heap.size) n (f)] [1,2] ?hs4 ?hf4
 case hs4=>
  exact .cons (.k (fun yy => #[.slice q n c]) fun yy vv hg hh =>  (RtW.ln hg (lend_ints c (HI.out.gr (G.trans hg)) HN.out)))<|.cons (.m 1) .nil
 intro yw4 v4 hg h4
 simp only [FW,putFrom,Act.put,lqA,lqB,lqC,wvals,kW,lqD,lqE,Kw.c,Kw.ln]
 obtain ⟨N4_2,S4_2⟩:v3.heap.size≤(yw4 2 0).2∧Rx v4 (yw4 2 0).2 (n+2) (yw4 2 1).2 (iF (lnF n (f))):=h4 2
 clear h4
 replace G:=G.trans hg
 replace c9:=c9.gr hg
 replace S1_7:=S1_7.gr hg
 replace S2_7:=S2_7.gr hg
 replace S3_8:=S3_8.gr hg
 clear hg
 go_upto_region 5 with fail
 refine wp_v false [.c (.slice (some ⟨(yw4 2 0).2,0,none⟩) n (yw4 2 1).2),.c (.int .i64 y),.c (.tuple #[.agg (nw 9 Z),.int .i64 0]),.c (.tuple #[.agg (nw 9 Z),.int .i64 0]),.c (.agg (nw 9 Z)),.c (.int .i64 0),.a,.u,.c (.int .i64 0)] [2] [⟨6,7,25,nw 9 0,fun _=>nw 9 Z⟩] ?hs5 ?hv5 ?hf5
 case hs5=>
  refine .cons (.k (fun yy => #[.slice (some ⟨(yw4 2 0).2,0,none⟩) n (yw4 2 1).2,.int .i64 y]) fun yy vv hg hh=>RtW.of_c (Rt.c (HV.out _ _ _ (S4_2.gr hg)))) .nil
 case hv5=>
  refine .cons (.mk (fun _ _ _=>rfl) (fun _ v b H F=>by dsimp only at H ⊢; simp [go_sem,exI,H,F]) zNat ⟨fkc,fkc,fkc,fkc,fkc,fkc,fka,fku,fkc,trivial⟩) .nil
 intro yw5 v5 hg h5 hV5
 simp only [FW,putFrom,Act.put,lqA,lqB,lqC,wvals,kW,lqD,lqE,Kw.c,Kw.a,Kw.u]
 obtain ⟨⟨N5_6,V5_6⟩, -⟩:(v4.heap.size≤(yw5 6 0).2∧Vr v5 (yw5 6 0).2 (nw 9 Z))∧True:=hV5
 clear h5
 replace G:=G.trans hg
 replace c9:=c9.gr hg
 replace S1_7:=S1_7.gr hg
 replace S2_7:=S2_7.gr hg
 replace S3_8:=S3_8.gr hg
 replace S4_2:=S4_2.gr hg
 clear hg
 go_upto_region 6 with fail
 refine wp_wS [.c (.slice q n c),.c (.int .i64 y),.ni (Z),.ni (Z),.n (Z),.c (.int .i64 0),.n (Z),.c (.int .i64 0)] [2,3,4,5,6] ?hs6 ?hf6
 case hs6=>
  exact .cons (.k (fun yy => #[.slice q n c,.int .i64 y]) fun yy vv hg hh =>  (RtW.ni (HRV.out _ (G.trans hg))))<|.cons (.m 2)<|.cons (.m 3)<|.cons (.m 3)<|.cons (.m 4) .nil
 intro yw6 v6 hg h6
 simp only [FW,putFrom,Act.put,lqA,lqB,lqC,wvals,kW,lqD,lqE,Kw.c,Kw.n,Kw.ni]
 have S6_6:Sl v6 (yw6 6 0).1 (Z):=h6 6
 clear h6
 replace G:=G.trans hg
 replace c9:=c9.gr hg
 replace V5_6:=V5_6.gr hg
 replace S1_7:=S1_7.gr hg
 replace S2_7:=S2_7.gr hg
 replace S3_8:=S3_8.gr hg
 replace S4_2:=S4_2.gr hg
 clear hg
 go_upto_region 7 with fail
 refine wp_w [.c (.slice (some ⟨(yw1 7 0).2,0,none⟩) m m),.c (.slice (some ⟨(yw3 8 0).2,0,none⟩) m m),.c (.bool true),.c (.bool false),.c (.bool false),.c (.int .i64 0),.c (.int .i64 0),.c (.int .i64 0),.c (.bool false),.c (.bool false),.c (.bool false),.c (.int .i64 0),.c (.int .i64 0),.c (.int .i64 0),.c (.bool false),.c (.bool false),.c (.bool false),.c (.int .i64 0),.c (.int .i64 0),.c (.int .i64 0),.c (.bool false),.c (.bool false),.c (.bool false),.c (.int .i64 0),.c (.bool true),.c (.bool true),.c (.agg (nw 9 Z)),.c (.slice (yw6 6 0).1 (dl (Z)) (yw6 6 0).2),.c (.agg (nw 9 Z)),.c (.bool false),.c (.bool false),.c (.bool false),.c (.bool false),.c (.int .i64 0),.c (.bool false),.c (.bool false),.u,.u,.u,.c (.bool false),.c (.bool false),.c (.bool false),.c (.slice (some ⟨(yw4 2 0).2,0,none⟩) n (yw4 2 1).2),.c (.slice q n c),.c (.bool true),.c (.bool false),.c (.bool false)] [2,6,12,18,26,28,29,44] ?hs7 ?hf7
 case hs7=>
  exact .cons (.k (fun yy => #[.slice (some ⟨(yw1 7 0).2,0,none⟩) m m,.slice (some ⟨(yw3 8 0).2,0,none⟩) m m]) fun yy vv hg hh=>RtW.of_c (Rt.c (same_ints m m (S1_7.gr hg).iv (S3_8.gr hg).iv HM.out fun _ _=>rfl)))<|.cons (.k _ fun yy vv hg hh=>RtW.of_c (Rt.same (num_any _ _)))<|.cons (.k _ fun yy vv hg hh=>RtW.of_c (Rt.same (num_any _ _)))<|.cons (.k _ fun yy vv hg hh=>RtW.of_c (Rt.same (num_any _ _)))<|.cons (.g 25 0 V5_6 rfl)<|.cons (.k (fun yy => #[.slice (yw6 6 0).1 (dl (Z)) (yw6 6 0).2]) fun yy vv hg hh=>RtW.of_c (Rt.c (rnat_any Z (yw6 6 0).2 (yw6 6 0).1 _ (S6_6.gr hg))))<|.cons (.s (.binOp .neq 25 (.const (.agg (nw 9 Z))) (.const (.agg (nw 9 Z))) 25) rfl fun vv hg=>by simp [go_sem,exI,neNat,eqN_self])<|.cons (.k (fun yy => #[.slice (some ⟨(yw4 2 0).2,0,none⟩) n (yw4 2 1).2,.slice q n c]) fun yy vv hg hh=>RtW.of_c (Rt.c (kept_ints c (S4_2.gr hg) (HI.out.gr (G.trans hg)) HN.out))) .nil
 intro yw7 v7 hg h7
 simp only [FW,putFrom,Act.put,lqA,lqB,lqC,wvals,kW,lqD,lqE,Kw.c,Kw.u]
 clear h7
 replace G:=G.trans hg
 replace c9:=c9.gr hg
 replace V5_6:=V5_6.gr hg
 replace S1_7:=S1_7.gr hg
 replace S2_7:=S2_7.gr hg
 replace S3_8:=S3_8.gr hg
 replace S4_2:=S4_2.gr hg
 replace S6_6:=S6_6.gr hg
 clear hg
 have neB:(yw2 7 0).2≠(yw1 7 0).2:=by omega
 have neC:(yw3 8 0).2≠(yw1 7 0).2:=by omega
 go_upto_region 10 with (go_at_call 18; refine (spoil_ints S1_7 HM.out HFb.out).mono ?_; rintro e W9 ⟨rfl,K9⟩)
 refine gen_w (fun u=>Gr w u∧Rx u ((yw2 7 0).2) m m (iF F)∧Rx u ((yw3 8 0).2) m m (iF F)) ⟨gr_kp G K9 (fun b hb e=>by omega),S2_7.kept K9 neB,S3_8.kept K9 neC⟩ ?_
 clear G S2_7 S3_8 K9
 rintro u9 ⟨G,S2_7,S3_8⟩
 refine wp_wS [.c (.slice (some ⟨(yw2 7 0).2,0,none⟩) m m),.c (.slice (some ⟨(yw3 8 0).2,0,none⟩) m m),.c (.bool true),.c (.bool true),.c (.bool true),.c (.bool true),.c (.bool true)] [2,4] ?hs8 ?hf8
 case hs8=>
  exact .cons (.k (fun yy => #[.slice (some ⟨(yw2 7 0).2,0,none⟩) m m,.slice (some ⟨(yw3 8 0).2,0,none⟩) m m]) fun yy vv hg hh=>RtW.of_c (Rt.c (same_ints m m (S2_7.gr hg).iv (S3_8.gr hg).iv HM.out fun _ _=>rfl)))<|.cons (.k _ fun yy vv hg hh=>RtW.of_c (Rt.c (HAW.out _))) .nil
 intro yw10 v8 hg h10
 simp only [FW,putFrom,Act.put,lqA,lqB,lqC,wvals,kW,lqD,lqE,Kw.c]
 clear h10
 replace G:=G.trans hg
 replace S2_7:=S2_7.gr hg
 replace S3_8:=S3_8.gr hg
 clear hg
 go_wp2_with fail
 go_ret
 exact ⟨rfl,G⟩
theorem lvwin_10 {k:Nat} (hk:k<M) (x y:Int) {q:Option Addr} {n c:Nat} {f:Nat→Int} {w:World} (hI:Iv w q n f) (hn:n*8≤140737488351232) {m:Nat} {F:Nat→Int} 
 (HD':∀ w,Calls Try.prog 8 #[.agg (nw 9 k),.int .i64 x,.int .i64 y] w fun e w'=>∃ g,e=.returned (.tuple #[.slice (some ⟨g,0,none⟩) m m,.int .i64 0])∧w.heap.size≤g∧Rx w' g m m (iF F)∧Gr w w')
 (HRD':∀ v p l,Sl v p k→Calls Try.prog 9 #[.slice p (dl k) l,.int .i64 x,.int .i64 y] v fun e w'=>∃ g,e=.returned (.tuple #[.slice (some ⟨g,0,none⟩) m m,.int .i64 0])∧v.heap.size≤g∧Rx w' g m m (iF F)∧Gr v w') (hm:m≤4611686018427387904) (hFb:∀ i,i<m → -9223372036854775000≤F i∧F i≤9223372036854775000)
 (HV':∀ v g cap,Rx v g (n+2) cap (iF (lnF n f))→Cg 12 #[.slice (some ⟨g,0,none⟩) n cap,.int .i64 y] v (.tuple #[.agg (nw 9 0),.int .i64 1700]))
 (HRV':∀ v,Gr w v→Cg 13 #[.slice q n c,.int .i64 y] v (.tuple #[.slice none 0 0,.int .i64 1700])):Cg 3 #[.agg (nw 9 k),.int .i64 x,.int .i64 y,.slice q n c] w (.bool true):=by
 have HI:Hid (Iv w q n f):=hI
 have HN:Hid (n*8≤140737488351232):=hn
 have HF:Hid (∀ v,Calls Try.prog 10 #[.agg (nw 9 k)] v (Nm k v)):=fun v=>from_any k hk v
 have HD:Hid _:=HD'
 have HRD:Hid _:=HRD'
 have HM:Hid _:=hm
 have HFb:Hid (∀ i,i<m → -9223372036854775000≤F i∧F i≤9223372036854775000):=hFb
 clear hm hFb
 have HV:Hid _:=HV'
 have HRV:Hid _:=HRV'
 clear HD' HRD' HV' HRV' hI hn hk
 have HAW:Hid (∀ w,Cg 19 #[] w (.bool true)):=fun w=>awake17_any w
 go_enter Try.func3,Try.ntmps3
 go_upto_region 1 with fail
 obtain ⟨e9,he9⟩:=exl (w.heap.size)
 simp only [he9]
 refine gen_w (fun v=>Gr w v∧Vr v e9 (nw 9 k)) ?_ ?_
 ·subst he9
  exact ⟨(Gr.refl _).alloc _,Vr.new _ _ _⟩
 clear he9
 rintro v0 ⟨G,c9⟩
 have G0:=G
 refine wp_wS [.c (.agg (nw 9 k)),.c (.int .i64 x),.c (.int .i64 y),.it (v0.heap.size) m (F),.it (v0.heap.size) m (F),.ix (v0.heap.size) m (F),.c (.int .i64 0),.ix (v0.heap.size) m (F),.c (.int .i64 0)] [0,3,4,5,6,7] ?hs9 ?hf9
 case hs9=>
  exact .cons (.g 25 0 c9 rfl)<|.cons (.k _ fun yy vv hg hh =>  (RtW.it hg (HD.out _)))<|.cons (.m 3)<|.cons (.m 4)<|.cons (.m 4)<|.cons (.m 5) .nil
 intro yw1 v1 hg h1
 simp only [FW,putFrom,Act.put,lqA,lqB,lqC,wvals,kW,lqD,lqE,Kw.c,Kw.it,Kw.ix]
 obtain ⟨N1_7,S1_7⟩:v0.heap.size≤(yw1 7 0).2∧Rx v1 (yw1 7 0).2 m m (iF (F)):=h1 7
 clear h1
 replace G:=G.trans hg
 replace c9:=c9.gr hg
 clear hg
 have hA1:=S1_7.lt
 have hA0:w.heap.size≤(yw1 7 0).2:=Nat.le_trans G0.below.size N1_7
 go_upto_region 2 with fail
 refine wp_wS [.c (.agg (nw 9 k)),.c (.int .i64 x),.c (.int .i64 y),.it (v1.heap.size) m (F),.it (v1.heap.size) m (F),.ix (v1.heap.size) m (F),.c (.int .i64 0),.ix (v1.heap.size) m (F),.c (.int .i64 0)] [0,3,4,5,6,7] ?hs10 ?hf10
 case hs10=>
  exact .cons (.g 25 0 c9 rfl)<|.cons (.k _ fun yy vv hg hh =>  (RtW.it hg (HD.out _)))<|.cons (.m 3)<|.cons (.m 4)<|.cons (.m 4)<|.cons (.m 5) .nil
 intro yw2 v2 hg h2
 simp only [FW,putFrom,Act.put,lqA,lqB,lqC,wvals,kW,lqD,lqE,Kw.c,Kw.it,Kw.ix]
 obtain ⟨N2_7,S2_7⟩:v1.heap.size≤(yw2 7 0).2∧Rx v2 (yw2 7 0).2 m m (iF (F)):=h2 7
 clear h2
 replace G:=G.trans hg
 replace c9:=c9.gr hg
 replace S1_7:=S1_7.gr hg
 clear hg
 have hB2:=S2_7.lt
 go_upto_region 3 with fail
 refine wp_wS [.c (.agg (nw 9 k)),.n (k),.c (.int .i64 x),.c (.int .i64 y),.it (v2.heap.size) m (F),.it (v2.heap.size) m (F),.ix (v2.heap.size) m (F),.c (.int .i64 0),.ix (v2.heap.size) m (F),.c (.int .i64 0)] [0,1,4,5,6,7,8] ?hs11 ?hf11
 case hs11=>
  exact .cons (.g 25 0 c9 rfl)<|.cons (.k _ fun yy vv hg hh=>RtW.of_n (Rt.n (HF.out _)))<|.cons (.k (fun yy => #[.slice (yy 1 0).1 (dl (k)) (yy 1 0).2,.int .i64 x,.int .i64 y]) fun yy vv hg hh =>  (RtW.it hg (HRD.out _ (yy 1 0).1 (yy 1 0).2 (hh 1 rfl))))<|.cons (.m 4)<|.cons (.m 5)<|.cons (.m 5)<|.cons (.m 6) .nil
 intro yw3 v3 hg h3
 simp only [FW,putFrom,Act.put,lqA,lqB,lqC,wvals,kW,lqD,lqE,Kw.c,Kw.it,Kw.ix,Kw.n]
 obtain ⟨N3_8,S3_8⟩:v2.heap.size≤(yw3 8 0).2∧Rx v3 (yw3 8 0).2 m m (iF (F)):=h3 8
 clear h3
 replace G:=G.trans hg
 replace c9:=c9.gr hg
 replace S1_7:=S1_7.gr hg
 replace S2_7:=S2_7.gr hg
 clear hg
 go_upto_region 4 with fail
 refine wp_wS [.c (.slice q n c),.ln (v3.heap.size) n (f),.ln (v3.heap.size) n (f)] [1,2] ?hs12 ?hf12
 case hs12=>
  exact .cons (.k (fun yy => #[.slice q n c]) fun yy vv hg hh =>  (RtW.ln hg (lend_ints c (HI.out.gr (G.trans hg)) HN.out)))<|.cons (.m 1) .nil
 intro yw4 v4 hg h4
 simp only [FW,putFrom,Act.put,lqA,lqB,lqC,wvals,kW,lqD,lqE,Kw.c,Kw.ln]
 obtain ⟨N4_2,S4_2⟩:v3.heap.size≤(yw4 2 0).2∧Rx v4 (yw4 2 0).2 (n+2) (yw4 2 1).2 (iF (lnF n (f))):=h4 2
 clear h4
 replace G:=G.trans hg
 replace c9:=c9.gr hg
 replace S1_7:=S1_7.gr hg
 replace S2_7:=S2_7.gr hg
 replace S3_8:=S3_8.gr hg
 clear hg
 go_upto_region 5 with fail
 refine wp_v false [.c (.slice (some ⟨(yw4 2 0).2,0,none⟩) n (yw4 2 1).2),.c (.int .i64 y),.c (.tuple #[.agg (nw 9 0),.int .i64 1700]),.c (.tuple #[.agg (nw 9 0),.int .i64 1700]),.c (.agg (nw 9 0)),.c (.int .i64 1700),.a,.u,.c (.int .i64 1700)] [2] [⟨6,7,25,nw 9 0,fun _=>nw 9 0⟩] ?hs13 ?hv13 ?hf13
 case hs13=>
  refine .cons (.k (fun yy => #[.slice (some ⟨(yw4 2 0).2,0,none⟩) n (yw4 2 1).2,.int .i64 y]) fun yy vv hg hh=>RtW.of_c (Rt.c (HV.out _ _ _ (S4_2.gr hg)))) .nil
 case hv13=>
  refine .cons (.mk (fun _ _ _=>rfl) (fun _ v b H F=>by dsimp only at H ⊢; simp [go_sem,exI,H,F]) zNat ⟨fkc,fkc,fkc,fkc,fkc,fkc,fka,fku,fkc,trivial⟩) .nil
 intro yw5 v5 hg h5 hV5
 simp only [FW,putFrom,Act.put,lqA,lqB,lqC,wvals,kW,lqD,lqE,Kw.c,Kw.a,Kw.u]
 obtain ⟨⟨N5_6,V5_6⟩, -⟩:(v4.heap.size≤(yw5 6 0).2∧Vr v5 (yw5 6 0).2 (nw 9 0))∧True:=hV5
 clear h5
 replace G:=G.trans hg
 replace c9:=c9.gr hg
 replace S1_7:=S1_7.gr hg
 replace S2_7:=S2_7.gr hg
 replace S3_8:=S3_8.gr hg
 replace S4_2:=S4_2.gr hg
 clear hg
 go_upto_region 6 with fail
 refine wp_wS [.c (.slice q n c),.c (.int .i64 y),.c (.tuple #[.slice none 0 0,.int .i64 1700]),.c (.tuple #[.slice none 0 0,.int .i64 1700]),.c (.slice none 0 0),.c (.int .i64 1700),.c (.slice none 0 0),.c (.int .i64 1700)] [2] ?hs14 ?hf14
 case hs14=>
  refine .cons (.k (fun yy => #[.slice q n c,.int .i64 y]) fun yy vv hg hh=>RtW.of_c (Rt.c (HRV.out _ (G.trans hg)))) .nil
 intro yw6 v6 hg h6
 simp only [FW,putFrom,Act.put,lqA,lqB,lqC,wvals,kW,lqD,lqE,Kw.c]
 clear h6
 replace G:=G.trans hg
 replace c9:=c9.gr hg
 replace V5_6:=V5_6.gr hg
 replace S1_7:=S1_7.gr hg
 replace S2_7:=S2_7.gr hg
 replace S3_8:=S3_8.gr hg
 replace S4_2:=S4_2.gr hg
 clear hg
 go_upto_region 7 with fail
 refine wp_w [.c (.slice (some ⟨(yw1 7 0).2,0,none⟩) m m),.c (.slice (some ⟨(yw3 8 0).2,0,none⟩) m m),.c (.bool true),.c (.bool false),.c (.bool false),.c (.int .i64 0),.c (.int .i64 0),.c (.int .i64 0),.c (.bool false),.c (.bool false),.c (.bool false),.c (.int .i64 0),.c (.int .i64 0),.c (.int .i64 0),.c (.bool false),.c (.bool false),.c (.bool false),.c (.int .i64 1700),.c (.int .i64 1700),.c (.int .i64 1700),.c (.bool false),.c (.bool false),.c (.bool false),.c (.int .i64 1700),.c (.bool false),.c (.bool false),.u,.u,.u,.u,.c (.bool false),.c (.bool false),.c (.bool false),.c (.int .i64 1700),.c (.bool true),.c (.bool true),.c (.agg (nw 9 0)),.c (.agg (nw 9 0)),.c (.bool false),.c (.bool false),.c (.bool false),.c (.bool false),.c (.slice (some ⟨(yw4 2 0).2,0,none⟩) n (yw4 2 1).2),.c (.slice q n c),.c (.bool true),.c (.bool false),.c (.bool false)] [2,6,12,18,36,38,44] ?hs15 ?hf15
 case hs15=>
  exact .cons (.k (fun yy => #[.slice (some ⟨(yw1 7 0).2,0,none⟩) m m,.slice (some ⟨(yw3 8 0).2,0,none⟩) m m]) fun yy vv hg hh=>RtW.of_c (Rt.c (same_ints m m (S1_7.gr hg).iv (S3_8.gr hg).iv HM.out fun _ _=>rfl)))<|.cons (.k _ fun yy vv hg hh=>RtW.of_c (Rt.same (num_any _ _)))<|.cons (.k _ fun yy vv hg hh=>RtW.of_c (Rt.same (num_any _ _)))<|.cons (.k _ fun yy vv hg hh=>RtW.of_c (Rt.same (num_any _ _)))<|.cons (.g 25 0 V5_6 rfl)<|.cons (.s (.binOp .neq 25 (.const (.agg (nw 9 0))) (.const (.agg (nw 9 0))) 25) rfl fun vv hg=>by simp [go_sem,exI,neNat,eqN_self])<|.cons (.k (fun yy => #[.slice (some ⟨(yw4 2 0).2,0,none⟩) n (yw4 2 1).2,.slice q n c]) fun yy vv hg hh=>RtW.of_c (Rt.c (kept_ints c (S4_2.gr hg) (HI.out.gr (G.trans hg)) HN.out))) .nil
 intro yw7 v7 hg h7
 simp only [FW,putFrom,Act.put,lqA,lqB,lqC,wvals,kW,lqD,lqE,Kw.c,Kw.u]
 clear h7
 replace G:=G.trans hg
 replace c9:=c9.gr hg
 replace V5_6:=V5_6.gr hg
 replace S1_7:=S1_7.gr hg
 replace S2_7:=S2_7.gr hg
 replace S3_8:=S3_8.gr hg
 replace S4_2:=S4_2.gr hg
 clear hg
 have neB:(yw2 7 0).2≠(yw1 7 0).2:=by omega
 have neC:(yw3 8 0).2≠(yw1 7 0).2:=by omega
 go_upto_region 10 with (go_at_call 18; refine (spoil_ints S1_7 HM.out HFb.out).mono ?_; rintro e W9 ⟨rfl,K9⟩)
 refine gen_w (fun u=>Gr w u∧Rx u ((yw2 7 0).2) m m (iF F)∧Rx u ((yw3 8 0).2) m m (iF F)) ⟨gr_kp G K9 (fun b hb e=>by omega),S2_7.kept K9 neB,S3_8.kept K9 neC⟩ ?_
 clear G S2_7 S3_8 K9
 rintro u9 ⟨G,S2_7,S3_8⟩
 refine wp_wS [.c (.slice (some ⟨(yw2 7 0).2,0,none⟩) m m),.c (.slice (some ⟨(yw3 8 0).2,0,none⟩) m m),.c (.bool true),.c (.bool true),.c (.bool true),.c (.bool true),.c (.bool true)] [2,4] ?hs16 ?hf16
 case hs16=>
  exact .cons (.k (fun yy => #[.slice (some ⟨(yw2 7 0).2,0,none⟩) m m,.slice (some ⟨(yw3 8 0).2,0,none⟩) m m]) fun yy vv hg hh=>RtW.of_c (Rt.c (same_ints m m (S2_7.gr hg).iv (S3_8.gr hg).iv HM.out fun _ _=>rfl)))<|.cons (.k _ fun yy vv hg hh=>RtW.of_c (Rt.c (HAW.out _))) .nil
 intro yw10 v8 hg h10
 simp only [FW,putFrom,Act.put,lqA,lqB,lqC,wvals,kW,lqD,lqE,Kw.c]
 clear h10
 replace G:=G.trans hg
 replace S2_7:=S2_7.gr hg
 replace S3_8:=S3_8.gr hg
 clear hg
 go_wp2_with fail
 go_ret
 exact ⟨rfl,G⟩
theorem lvwin_01 {k:Nat} (hk:k<M) (x y:Int) {q:Option Addr} {n c:Nat} {f:Nat→Int} {w:World} (hI:Iv w q n f) (hn:n*8≤140737488351232) {Z:Nat} 
 (HD':∀ w,Cg 8 #[.agg (nw 9 k),.int .i64 x,.int .i64 y] w (.tuple #[.slice none 0 0,.int .i64 1700]))
 (HRD':∀ v p l,Sl v p k→Cg 9 #[.slice p (dl k) l,.int .i64 x,.int .i64 y] v (.tuple #[.slice none 0 0,.int .i64 1700]))
 (HV':∀ v g cap,Rx v g (n+2) cap (iF (lnF n f))→Cg 12 #[.slice (some ⟨g,0,none⟩) n cap,.int .i64 y] v (.tuple #[.agg (nw 9 Z),.int .i64 0]))
 (HRV':∀ v,Gr w v→Calls Try.prog 13 #[.slice q n c,.int .i64 y] v fun e w'=>(∃ p m,e=.returned (.tuple #[.slice p (dl Z) m,.int .i64 0])∧Sl w' p Z)∧Gr v w'):Cg 3 #[.agg (nw 9 k),.int .i64 x,.int .i64 y,.slice q n c] w (.bool true):=by
 have HI:Hid (Iv w q n f):=hI
 have HN:Hid (n*8≤140737488351232):=hn
 have HF:Hid (∀ v,Calls Try.prog 10 #[.agg (nw 9 k)] v (Nm k v)):=fun v=>from_any k hk v
 have HD:Hid _:=HD'
 have HRD:Hid _:=HRD'
 have HV:Hid _:=HV'
 have HRV:Hid _:=HRV'
 clear HD' HRD' HV' HRV' hI hn hk
 have HAW:Hid (∀ w,Cg 19 #[] w (.bool true)):=fun w=>awake17_any w
 go_enter Try.func3,Try.ntmps3
 go_upto_region 1 with fail
 obtain ⟨e9,he9⟩:=exl (w.heap.size)
 simp only [he9]
 refine gen_w (fun v=>Gr w v∧Vr v e9 (nw 9 k)) ?_ ?_
 ·subst he9
  exact ⟨(Gr.refl _).alloc _,Vr.new _ _ _⟩
 clear he9
 rintro v0 ⟨G,c9⟩
 refine wp_wS [.c (.agg (nw 9 k)),.c (.int .i64 x),.c (.int .i64 y),.c (.tuple #[.slice none 0 0,.int .i64 1700]),.c (.tuple #[.slice none 0 0,.int .i64 1700]),.c (.slice none 0 0),.c (.int .i64 1700),.c (.slice none 0 0),.c (.int .i64 1700)] [0,3] ?hs17 ?hf17
 case hs17=>
  exact .cons (.g 25 0 c9 rfl)<|.cons (.k _ fun yy vv hg hh=>RtW.of_c (Rt.c (HD.out _))) .nil
 intro yw1 v1 hg h1
 simp only [FW,putFrom,Act.put,lqA,lqB,lqC,wvals,kW,lqD,lqE,Kw.c]
 clear h1
 replace G:=G.trans hg
 replace c9:=c9.gr hg
 clear hg
 go_upto_region 2 with fail
 refine wp_wS [.c (.agg (nw 9 k)),.c (.int .i64 x),.c (.int .i64 y),.c (.tuple #[.slice none 0 0,.int .i64 1700]),.c (.tuple #[.slice none 0 0,.int .i64 1700]),.c (.slice none 0 0),.c (.int .i64 1700),.c (.slice none 0 0),.c (.int .i64 1700)] [0,3] ?hs18 ?hf18
 case hs18=>
  exact .cons (.g 25 0 c9 rfl)<|.cons (.k _ fun yy vv hg hh=>RtW.of_c (Rt.c (HD.out _))) .nil
 intro yw2 v2 hg h2
 simp only [FW,putFrom,Act.put,lqA,lqB,lqC,wvals,kW,lqD,lqE,Kw.c]
 clear h2
 replace G:=G.trans hg
 replace c9:=c9.gr hg
 clear hg
 go_upto_region 3 with fail
 refine wp_wS [.c (.agg (nw 9 k)),.n (k),.c (.int .i64 x),.c (.int .i64 y),.c (.tuple #[.slice none 0 0,.int .i64 1700]),.c (.tuple #[.slice none 0 0,.int .i64 1700]),.c (.slice none 0 0),.c (.int .i64 1700),.c (.slice none 0 0),.c (.int .i64 1700)] [0,1,4] ?hs19 ?hf19
 case hs19=>
  exact .cons (.g 25 0 c9 rfl)<|.cons (.k _ fun yy vv hg hh=>RtW.of_n (Rt.n (HF.out _)))<|.cons (.k (fun yy => #[.slice (yy 1 0).1 (dl (k)) (yy 1 0).2,.int .i64 x,.int .i64 y]) fun yy vv hg hh=>RtW.of_c (Rt.c (HRD.out _ (yy 1 0).1 (yy 1 0).2 (hh 1 rfl)))) .nil
 intro yw3 v3 hg h3
 simp only [FW,putFrom,Act.put,lqA,lqB,lqC,wvals,kW,lqD,lqE,Kw.c,Kw.n]
 clear h3
 replace G:=G.trans hg
 replace c9:=c9.gr hg
 clear hg
 go_upto_region 4 with fail
 refine wp_wS [.c (.slice q n c),.ln (v3.heap.size) n (f),.ln (v3.heap.size) n (f)] [1,2] ?hs20 ?hf20
 case hs20=>
  exact .cons (.k (fun yy => #[.slice q n c]) fun yy vv hg hh =>  (RtW.ln hg (lend_ints c (HI.out.gr (G.trans hg)) HN.out)))<|.cons (.m 1) .nil
 intro yw4 v4 hg h4
 simp only [FW,putFrom,Act.put,lqA,lqB,lqC,wvals,kW,lqD,lqE,Kw.c,Kw.ln]
 obtain ⟨N4_2,S4_2⟩:v3.heap.size≤(yw4 2 0).2∧Rx v4 (yw4 2 0).2 (n+2) (yw4 2 1).2 (iF (lnF n (f))):=h4 2
 clear h4
 replace G:=G.trans hg
 replace c9:=c9.gr hg
 clear hg
 go_upto_region 5 with fail
 refine wp_v false [.c (.slice (some ⟨(yw4 2 0).2,0,none⟩) n (yw4 2 1).2),.c (.int .i64 y),.c (.tuple #[.agg (nw 9 Z),.int .i64 0]),.c (.tuple #[.agg (nw 9 Z),.int .i64 0]),.c (.agg (nw 9 Z)),.c (.int .i64 0),.a,.u,.c (.int .i64 0)] [2] [⟨6,7,25,nw 9 0,fun _=>nw 9 Z⟩] ?hs21 ?hv21 ?hf21
 case hs21=>
  refine .cons (.k (fun yy => #[.slice (some ⟨(yw4 2 0).2,0,none⟩) n (yw4 2 1).2,.int .i64 y]) fun yy vv hg hh=>RtW.of_c (Rt.c (HV.out _ _ _ (S4_2.gr hg)))) .nil
 case hv21=>
  refine .cons (.mk (fun _ _ _=>rfl) (fun _ v b H F=>by dsimp only at H ⊢; simp [go_sem,exI,H,F]) zNat ⟨fkc,fkc,fkc,fkc,fkc,fkc,fka,fku,fkc,trivial⟩) .nil
 intro yw5 v5 hg h5 hV5
 simp only [FW,putFrom,Act.put,lqA,lqB,lqC,wvals,kW,lqD,lqE,Kw.c,Kw.a,Kw.u]
 obtain ⟨⟨N5_6,V5_6⟩, -⟩:(v4.heap.size≤(yw5 6 0).2∧Vr v5 (yw5 6 0).2 (nw 9 Z))∧True:=hV5
 clear h5
 replace G:=G.trans hg
 replace c9:=c9.gr hg
 replace S4_2:=S4_2.gr hg
 clear hg
 go_upto_region 6 with fail
 refine wp_wS [.c (.slice q n c),.c (.int .i64 y),.ni (Z),.ni (Z),.n (Z),.c (.int .i64 0),.n (Z),.c (.int .i64 0)] [2,3,4,5,6] ?hs22 ?hf22
 case hs22=>
  exact .cons (.k (fun yy => #[.slice q n c,.int .i64 y]) fun yy vv hg hh =>  (RtW.ni (HRV.out _ (G.trans hg))))<|.cons (.m 2)<|.cons (.m 3)<|.cons (.m 3)<|.cons (.m 4) .nil
 intro yw6 v6 hg h6
 simp only [FW,putFrom,Act.put,lqA,lqB,lqC,wvals,kW,lqD,lqE,Kw.c,Kw.n,Kw.ni]
 have S6_6:Sl v6 (yw6 6 0).1 (Z):=h6 6
 clear h6
 replace G:=G.trans hg
 replace c9:=c9.gr hg
 replace V5_6:=V5_6.gr hg
 replace S4_2:=S4_2.gr hg
 clear hg
 go_upto_region 7 with fail
 refine wp_w [.c (.slice none 0 0),.c (.slice none 0 0),.c (.bool true),.c (.bool false),.c (.bool false),.c (.int .i64 1700),.c (.int .i64 1700),.c (.int .i64 1700),.c (.bool false),.c (.bool false),.c (.bool false),.c (.int .i64 1700),.c (.int .i64 1700),.c (.int .i64 1700),.c (.bool false),.c (.bool false),.c (.bool false),.c (.int .i64 0),.c (.int .i64 0),.c (.int .i64 0),.c (.bool false),.c (.bool false),.c (.bool false),.c (.int .i64 0),.c (.bool true),.c (.bool true),.c (.agg (nw 9 Z)),.c (.slice (yw6 6 0).1 (dl (Z)) (yw6 6 0).2),.c (.agg (nw 9 Z)),.c (.bool false),.c (.bool false),.c (.bool false),.c (.bool false),.c (.int .i64 0),.c (.bool false),.c (.bool false),.u,.u,.u,.c (.bool false),.c (.bool false),.c (.bool false),.c (.slice (some ⟨(yw4 2 0).2,0,none⟩) n (yw4 2 1).2),.c (.slice q n c),.c (.bool true),.c (.bool false),.c (.bool false)] [2,6,12,18,26,28,29,44] ?hs23 ?hf23
 case hs23=>
  exact .cons (.k (fun yy => #[.slice none 0 0,.slice none 0 0]) fun yy vv hg hh=>RtW.of_c (Rt.c (same_ints (n:=0) (f:=fun _=>0) (g:=fun _=>0) 0 0 (Or.inl rfl) (Or.inl rfl) (by decide) fun _ _=>rfl)))<|.cons (.k _ fun yy vv hg hh=>RtW.of_c (Rt.same (num_any _ _)))<|.cons (.k _ fun yy vv hg hh=>RtW.of_c (Rt.same (num_any _ _)))<|.cons (.k _ fun yy vv hg hh=>RtW.of_c (Rt.same (num_any _ _)))<|.cons (.g 25 0 V5_6 rfl)<|.cons (.k (fun yy => #[.slice (yw6 6 0).1 (dl (Z)) (yw6 6 0).2]) fun yy vv hg hh=>RtW.of_c (Rt.c (rnat_any Z (yw6 6 0).2 (yw6 6 0).1 _ (S6_6.gr hg))))<|.cons (.s (.binOp .neq 25 (.const (.agg (nw 9 Z))) (.const (.agg (nw 9 Z))) 25) rfl fun vv hg=>by simp [go_sem,exI,neNat,eqN_self])<|.cons (.k (fun yy => #[.slice (some ⟨(yw4 2 0).2,0,none⟩) n (yw4 2 1).2,.slice q n c]) fun yy vv hg hh=>RtW.of_c (Rt.c (kept_ints c (S4_2.gr hg) (HI.out.gr (G.trans hg)) HN.out))) .nil
 intro yw7 v7 hg h7
 simp only [FW,putFrom,Act.put,lqA,lqB,lqC,wvals,kW,lqD,lqE,Kw.c,Kw.u]
 clear h7
 replace G:=G.trans hg
 replace c9:=c9.gr hg
 replace V5_6:=V5_6.gr hg
 replace S4_2:=S4_2.gr hg
 replace S6_6:=S6_6.gr hg
 clear hg
 go_upto_region 10 with (go_at_call 18; refine (spoil_nil _).mono ?_; rintro e W9 ⟨rfl,K9⟩)
 refine gen_w (fun u=>Gr w u) (G.trans K9) ?_
 clear G K9
 intro u9 G
 refine wp_wS [.c (.slice none 0 0),.c (.slice none 0 0),.c (.bool true),.c (.bool true),.c (.bool true),.c (.bool true),.c (.bool true)] [2,4] ?hs24 ?hf24
 case hs24=>
  exact .cons (.k (fun yy => #[.slice none 0 0,.slice none 0 0]) fun yy vv hg hh=>RtW.of_c (Rt.c (same_ints (n:=0) (f:=fun _=>0) (g:=fun _=>0) 0 0 (Or.inl rfl) (Or.inl rfl) (by decide) fun _ _=>rfl)))<|.cons (.k _ fun yy vv hg hh=>RtW.of_c (Rt.c (HAW.out _))) .nil
 intro yw10 v8 hg h10
 simp only [FW,putFrom,Act.put,lqA,lqB,lqC,wvals,kW,lqD,lqE,Kw.c]
 clear h10
 replace G:=G.trans hg
 clear hg
 go_wp2_with fail
 go_ret
 exact ⟨rfl,G⟩
theorem lvwin_00 {k:Nat} (hk:k<M) (x y:Int) {q:Option Addr} {n c:Nat} {f:Nat→Int} {w:World} (hI:Iv w q n f) (hn:n*8≤140737488351232) 
 (HD':∀ w,Cg 8 #[.agg (nw 9 k),.int .i64 x,.int .i64 y] w (.tuple #[.slice none 0 0,.int .i64 1700]))
 (HRD':∀ v p l,Sl v p k→Cg 9 #[.slice p (dl k) l,.int .i64 x,.int .i64 y] v (.tuple #[.slice none 0 0,.int .i64 1700]))
 (HV':∀ v g cap,Rx v g (n+2) cap (iF (lnF n f))→Cg 12 #[.slice (some ⟨g,0,none⟩) n cap,.int .i64 y] v (.tuple #[.agg (nw 9 0),.int .i64 1700]))
 (HRV':∀ v,Gr w v→Cg 13 #[.slice q n c,.int .i64 y] v (.tuple #[.slice none 0 0,.int .i64 1700])):Cg 3 #[.agg (nw 9 k),.int .i64 x,.int .i64 y,.slice q n c] w (.bool true):=by
 have HI:Hid (Iv w q n f):=hI
 have HN:Hid (n*8≤140737488351232):=hn
 have HF:Hid (∀ v,Calls Try.prog 10 #[.agg (nw 9 k)] v (Nm k v)):=fun v=>from_any k hk v
 have HD:Hid _:=HD'
 have HRD:Hid _:=HRD'
 have HV:Hid _:=HV'
 have HRV:Hid _:=HRV'
 clear HD' HRD' HV' HRV' hI hn hk
 have HAW:Hid (∀ w,Cg 19 #[] w (.bool true)):=fun w=>awake17_any w
 go_enter Try.func3,Try.ntmps3
 go_upto_region 1 with fail
 obtain ⟨e9,he9⟩:=exl (w.heap.size)
 simp only [he9]
 refine gen_w (fun v=>Gr w v∧Vr v e9 (nw 9 k)) ?_ ?_
 ·subst he9
  exact ⟨(Gr.refl _).alloc _,Vr.new _ _ _⟩
 clear he9
 rintro v0 ⟨G,c9⟩
 refine wp_wS [.c (.agg (nw 9 k)),.c (.int .i64 x),.c (.int .i64 y),.c (.tuple #[.slice none 0 0,.int .i64 1700]),.c (.tuple #[.slice none 0 0,.int .i64 1700]),.c (.slice none 0 0),.c (.int .i64 1700),.c (.slice none 0 0),.c (.int .i64 1700)] [0,3] ?hs25 ?hf25
 case hs25=>
  exact .cons (.g 25 0 c9 rfl)<|.cons (.k _ fun yy vv hg hh=>RtW.of_c (Rt.c (HD.out _))) .nil
 intro yw1 v1 hg h1
 simp only [FW,putFrom,Act.put,lqA,lqB,lqC,wvals,kW,lqD,lqE,Kw.c]
 clear h1
 replace G:=G.trans hg
 replace c9:=c9.gr hg
 clear hg
 go_upto_region 2 with fail
 refine wp_wS [.c (.agg (nw 9 k)),.c (.int .i64 x),.c (.int .i64 y),.c (.tuple #[.slice none 0 0,.int .i64 1700]),.c (.tuple #[.slice none 0 0,.int .i64 1700]),.c (.slice none 0 0),.c (.int .i64 1700),.c (.slice none 0 0),.c (.int .i64 1700)] [0,3] ?hs26 ?hf26
 case hs26=>
  exact .cons (.g 25 0 c9 rfl)<|.cons (.k _ fun yy vv hg hh=>RtW.of_c (Rt.c (HD.out _))) .nil
 intro yw2 v2 hg h2
 simp only [FW,putFrom,Act.put,lqA,lqB,lqC,wvals,kW,lqD,lqE,Kw.c]
 clear h2
 replace G:=G.trans hg
 replace c9:=c9.gr hg
 clear hg
 go_upto_region 3 with fail
 refine wp_wS [.c (.agg (nw 9 k)),.n (k),.c (.int .i64 x),.c (.int .i64 y),.c (.tuple #[.slice none 0 0,.int .i64 1700]),.c (.tuple #[.slice none 0 0,.int .i64 1700]),.c (.slice none 0 0),.c (.int .i64 1700),.c (.slice none 0 0),.c (.int .i64 1700)] [0,1,4] ?hs27 ?hf27
 case hs27=>
  exact .cons (.g 25 0 c9 rfl)<|.cons (.k _ fun yy vv hg hh=>RtW.of_n (Rt.n (HF.out _)))<|.cons (.k (fun yy => #[.slice (yy 1 0).1 (dl (k)) (yy 1 0).2,.int .i64 x,.int .i64 y]) fun yy vv hg hh=>RtW.of_c (Rt.c (HRD.out _ (yy 1 0).1 (yy 1 0).2 (hh 1 rfl)))) .nil
 intro yw3 v3 hg h3
 simp only [FW,putFrom,Act.put,lqA,lqB,lqC,wvals,kW,lqD,lqE,Kw.c,Kw.n]
 clear h3
 replace G:=G.trans hg
 replace c9:=c9.gr hg
 clear hg
 go_upto_region 4 with fail
 refine wp_wS [.c (.slice q n c),.ln (v3.heap.size) n (f),.ln (v3.heap.size) n (f)] [1,2] ?hs28 ?hf28
 case hs28=>
  exact .cons (.k (fun yy => #[.slice q n c]) fun yy vv hg hh =>  (RtW.ln hg (lend_ints c (HI.out.gr (G.trans hg)) HN.out)))<|.cons (.m 1) .nil
 intro yw4 v4 hg h4
 simp only [FW,putFrom,Act.put,lqA,lqB,lqC,wvals,kW,lqD,lqE,Kw.c,Kw.ln]
 obtain ⟨N4_2,S4_2⟩:v3.heap.size≤(yw4 2 0).2∧Rx v4 (yw4 2 0).2 (n+2) (yw4 2 1).2 (iF (lnF n (f))):=h4 2
 clear h4
 replace G:=G.trans hg
 replace c9:=c9.gr hg
 clear hg
 go_upto_region 5 with fail
 refine wp_v false [.c (.slice (some ⟨(yw4 2 0).2,0,none⟩) n (yw4 2 1).2),.c (.int .i64 y),.c (.tuple #[.agg (nw 9 0),.int .i64 1700]),.c (.tuple #[.agg (nw 9 0),.int .i64 1700]),.c (.agg (nw 9 0)),.c (.int .i64 1700),.a,.u,.c (.int .i64 1700)] [2] [⟨6,7,25,nw 9 0,fun _=>nw 9 0⟩] ?hs29 ?hv29 ?hf29
 case hs29=>
  refine .cons (.k (fun yy => #[.slice (some ⟨(yw4 2 0).2,0,none⟩) n (yw4 2 1).2,.int .i64 y]) fun yy vv hg hh=>RtW.of_c (Rt.c (HV.out _ _ _ (S4_2.gr hg)))) .nil
 case hv29=>
  refine .cons (.mk (fun _ _ _=>rfl) (fun _ v b H F=>by dsimp only at H ⊢; simp [go_sem,exI,H,F]) zNat ⟨fkc,fkc,fkc,fkc,fkc,fkc,fka,fku,fkc,trivial⟩) .nil
 intro yw5 v5 hg h5 hV5
 simp only [FW,putFrom,Act.put,lqA,lqB,lqC,wvals,kW,lqD,lqE,Kw.c,Kw.a,Kw.u]
 obtain ⟨⟨N5_6,V5_6⟩, -⟩:(v4.heap.size≤(yw5 6 0).2∧Vr v5 (yw5 6 0).2 (nw 9 0))∧True:=hV5
 clear h5
 replace G:=G.trans hg
 replace c9:=c9.gr hg
 replace S4_2:=S4_2.gr hg
 clear hg
 go_upto_region 6 with fail
 refine wp_wS [.c (.slice q n c),.c (.int .i64 y),.c (.tuple #[.slice none 0 0,.int .i64 1700]),.c (.tuple #[.slice none 0 0,.int .i64 1700]),.c (.slice none 0 0),.c (.int .i64 1700),.c (.slice none 0 0),.c (.int .i64 1700)] [2] ?hs30 ?hf30
 case hs30=>
  refine .cons (.k (fun yy => #[.slice q n c,.int .i64 y]) fun yy vv hg hh=>RtW.of_c (Rt.c (HRV.out _ (G.trans hg)))) .nil
 intro yw6 v6 hg h6
 simp only [FW,putFrom,Act.put,lqA,lqB,lqC,wvals,kW,lqD,lqE,Kw.c]
 clear h6
 replace G:=G.trans hg
 replace c9:=c9.gr hg
 replace V5_6:=V5_6.gr hg
 replace S4_2:=S4_2.gr hg
 clear hg
 go_upto_region 7 with fail
 refine wp_w [.c (.slice none 0 0),.c (.slice none 0 0),.c (.bool true),.c (.bool false),.c (.bool false),.c (.int .i64 1700),.c (.int .i64 1700),.c (.int .i64 1700),.c (.bool false),.c (.bool false),.c (.bool false),.c (.int .i64 1700),.c (.int .i64 1700),.c (.int .i64 1700),.c (.bool false),.c (.bool false),.c (.bool false),.c (.int .i64 1700),.c (.int .i64 1700),.c (.int .i64 1700),.c (.bool false),.c (.bool false),.c (.bool false),.c (.int .i64 1700),.c (.bool false),.c (.bool false),.u,.u,.u,.u,.c (.bool false),.c (.bool false),.c (.bool false),.c (.int .i64 1700),.c (.bool true),.c (.bool true),.c (.agg (nw 9 0)),.c (.agg (nw 9 0)),.c (.bool false),.c (.bool false),.c (.bool false),.c (.bool false),.c (.slice (some ⟨(yw4 2 0).2,0,none⟩) n (yw4 2 1).2),.c (.slice q n c),.c (.bool true),.c (.bool false),.c (.bool false)] [2,6,12,18,36,38,44] ?hs31 ?hf31
 case hs31=>
  exact .cons (.k (fun yy => #[.slice none 0 0,.slice none 0 0]) fun yy vv hg hh=>RtW.of_c (Rt.c (same_ints (n:=0) (f:=fun _=>0) (g:=fun _=>0) 0 0 (Or.inl rfl) (Or.inl rfl) (by decide) fun _ _=>rfl)))<|.cons (.k _ fun yy vv hg hh=>RtW.of_c (Rt.same (num_any _ _)))<|.cons (.k _ fun yy vv hg hh=>RtW.of_c (Rt.same (num_any _ _)))<|.cons (.k _ fun yy vv hg hh=>RtW.of_c (Rt.same (num_any _ _)))<|.cons (.g 25 0 V5_6 rfl)<|.cons (.s (.binOp .neq 25 (.const (.agg (nw 9 0))) (.const (.agg (nw 9 0))) 25) rfl fun vv hg=>by simp [go_sem,exI,neNat,eqN_self])<|.cons (.k (fun yy => #[.slice (some ⟨(yw4 2 0).2,0,none⟩) n (yw4 2 1).2,.slice q n c]) fun yy vv hg hh=>RtW.of_c (Rt.c (kept_ints c (S4_2.gr hg) (HI.out.gr (G.trans hg)) HN.out))) .nil
 intro yw7 v7 hg h7
 simp only [FW,putFrom,Act.put,lqA,lqB,lqC,wvals,kW,lqD,lqE,Kw.c,Kw.u]
 clear h7
 replace G:=G.trans hg
 replace c9:=c9.gr hg
 replace V5_6:=V5_6.gr hg
 replace S4_2:=S4_2.gr hg
 clear hg
 go_upto_region 10 with (go_at_call 18; refine (spoil_nil _).mono ?_; rintro e W9 ⟨rfl,K9⟩)
 refine gen_w (fun u=>Gr w u) (G.trans K9) ?_
 clear G K9
 intro u9 G
 refine wp_wS [.c (.slice none 0 0),.c (.slice none 0 0),.c (.bool true),.c (.bool true),.c (.bool true),.c (.bool true),.c (.bool true)] [2,4] ?hs32 ?hf32
 case hs32=>
  exact .cons (.k (fun yy => #[.slice none 0 0,.slice none 0 0]) fun yy vv hg hh=>RtW.of_c (Rt.c (same_ints (n:=0) (f:=fun _=>0) (g:=fun _=>0) 0 0 (Or.inl rfl) (Or.inl rfl) (by decide) fun _ _=>rfl)))<|.cons (.k _ fun yy vv hg hh=>RtW.of_c (Rt.c (HAW.out _))) .nil
 intro yw10 v8 hg h10
 simp only [FW,putFrom,Act.put,lqA,lqB,lqC,wvals,kW,lqD,lqE,Kw.c]
 clear h10
 replace G:=G.trans hg
 clear hg
 go_wp2_with fail
 go_ret
 exact ⟨rfl,G⟩
theorem lnF_iv {v:World} {g cap n:Nat} {f:Nat→Int} (h:Rx v g (n+2) cap (iF (lnF n f))):Iv v (some ⟨g,0,none⟩) n f:=(h.iv.le (m:=n) (by omega)).congr fun i hi=>by simp [lnF,hi]
theorem lvwin_any (k:Nat) (hk:k<M) (x y:Int) (q:Option Addr) (n c:Nat) (f:Nat→Int) (w:World) (hI:Iv w q n f) (hn:n*8≤140737488351232):Cg 3 #[.agg (nw 9 k),.int .i64 x,.int .i64 y,.slice q n c] w (.bool true):=by
 have h18:k<M:=hk
 by_cases hy:y<1∨6<y
 ·exact lvwin_00 hk x y hI hn (fun w=>wdig_no hk (by omega) w) (fun v p l s=>rdig_no hk s (by omega)) (fun v g cap _=>wval_form hy _ v) fun v _=>rval_form hy _ v
 obtain ⟨W,rfl⟩:∃ W:Nat,y=(W:Int):=⟨y.toNat,by omega⟩
 have h0:1≤W:=by omega
 have h1:W≤6:=by omega
 by_cases hd:1≤x∧x≤576∧(bl k:Int)≤x
 ·obtain ⟨b,rfl⟩:∃ b:Nat,x=(b:Int):=⟨x.toNat,by omega⟩
  have b0:1≤b:=by omega
  have b1:b≤576:=by omega
  have b2:bl k≤b:=by omega
  have hm:=mnN_le (W:=W) h0 b1
  have hF:∀ i,i<mnN W b → -9223372036854775000≤dF W k (mnN W b) i∧dF W k (mnN W b) i≤9223372036854775000:=fun i _=>by
   have h2:=dF_bd W k (mnN W b) i
   have h3:2 ^ W≤64:=Nat.pow_le_pow_right (n:=2) (by decide) h1
   omega
  by_cases hv:Vok W f n
  ·exact lvwin_11 hk _ _ hI hn (fun w=>wdig_any hk h0 h1 b0 b1 ((bl_le k b).1 b2) w) (fun v p l s=>rdig_any hk s h0 h1 b0 b1 b2) (by omega) hF (fun v g cap h=>wval_ok h0 h1 (by omega) cap (lnF_iv h) hv) fun v g=>(rval_any h0 h1 (by omega) c (hI.gr g)).mono fun _ _ ⟨h,g2⟩=>⟨h.elim (fun h=>h.2) fun h=>absurd hv h.1,g2⟩
  ·exact lvwin_10 hk _ _ hI hn (fun w=>wdig_any hk h0 h1 b0 b1 ((bl_le k b).1 b2) w) (fun v p l s=>rdig_any hk s h0 h1 b0 b1 b2) (by omega) hF (fun v g cap h=>wval_no h0 h1 (by omega) cap (lnF_iv h) hv) fun v g=>(rval_any h0 h1 (by omega) c (hI.gr g)).mono fun _ _ ⟨h,g2⟩=>⟨h.elim (fun h=>absurd h.1 hv) fun h=>h.2,g2⟩
 ·have hb:x<1∨576<x∨x<(bl k:Int):=by omega
  have hb2:x<1∨576<x∨2 ^ x.toNat≤k:=by
   rcases hb with h | h | h
   ·exact Or.inl h
   ·exact Or.inr (Or.inl h)
   ·by_cases h3:x<1
    ·exact Or.inl h3
    ·exact Or.inr (Or.inr (Nat.not_lt.1 fun c=>by have:=(bl_le k x.toNat).2 c; omega))
  have hdn:∀ w,Cg 8 #[.agg (nw 9 k),.int .i64 x,.int .i64 (W:Int)] w (.tuple #[.slice none 0 0,.int .i64 1700]):=fun w=>wdig_no hk (Or.inr (Or.inr hb2)) w
  have hrn:∀ v p l,Sl v p k→Cg 9 #[.slice p (dl k) l,.int .i64 x,.int .i64 (W:Int)] v (.tuple #[.slice none 0 0,.int .i64 1700]):=fun v p l s=>rdig_no hk s (Or.inr (Or.inr hb))
  by_cases hv:Vok W f n
  ·exact lvwin_01 hk _ _ hI hn hdn hrn (fun v g cap h=>wval_ok h0 h1 (by omega) cap (lnF_iv h) hv) fun v g=>(rval_any h0 h1 (by omega) c (hI.gr g)).mono fun _ _ ⟨h,g2⟩=>⟨h.elim (fun h=>h.2) fun h=>absurd hv h.1,g2⟩
  ·exact lvwin_00 hk _ _ hI hn hdn hrn (fun v g cap h=>wval_no h0 h1 (by omega) cap (lnF_iv h) hv) fun v g=>(rval_any h0 h1 (by omega) c (hI.gr g)).mono fun _ _ ⟨h,g2⟩=>⟨h.elim (fun h=>absurd h.1 hv) fun h=>h.2,g2⟩
end
end
end Go.Proofs.Ytgpfabihgjhefaa