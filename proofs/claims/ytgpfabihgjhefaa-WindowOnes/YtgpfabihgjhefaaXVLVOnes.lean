import Derived.Test.YtgpfabihgjhefaaXVVW
namespace Go.Proofs.Ytgpfabihgjhefaa
open Go.RowKit
set_option maxRecDepth 100000
set_option maxHeartbeats 8000000
section
attribute [local go_sem ↓] uz1
attribute [local go_sem] uz2
section
attribute [local go_sem] uz3
attribute [local go_sem] uz5
theorem bitN_tb (k i:Nat):(k.testBit i).toNat=bitN k i:=by rw [Nat.toNat_testBit]; rfl
theorem lvones_any (k:Nat) (hk:k<M) (x:Int) (w:World):Cg 6 #[.agg (nw 9 k),.int .i64 x] w (.bool true):=by
 obtain ⟨u,hu3u⟩:∃ u:Nat,x%18446744073709551616=(u:Int):=⟨(x%18446744073709551616).toNat,by omega⟩
 have huu:IntKind.u64.wrap x=(u:Int):=by rw [IntKind.wrap_u64]; exact hu3u
 obtain ⟨b,hkb⟩:=exl (1+u%576)
 have u0u:(0:Int)≤(u:Int):=by omega
 have hk2b:(1:Int)+(u:Int)%576=(b:Int):=by omega
 have hk3b:IntKind.i64.wrap ((u:Int)%576)=(u:Int)%576:=by rw [IntKind.wrap_i64]; omega
 have hk4b:IntKind.u64.wrap ((u:Int)%576)=(u:Int)%576:=by rw [IntKind.wrap_u64]; omega
 have hk5b:(u:Int).tmod 576=(u:Int)%576:=by rw [Int.tmod_eq_emod_of_nonneg (by omega)]
 have b0:1≤b:=by omega
 have b1:b≤576:=by omega
 have b2:(1:Int)≤(b:Int):=by omega
 have b3:(b:Int)≤576:=by omega
 clear hkb
 have HC:Hid _:=fun w=>natcut_any k b b1 w
 have hX:k%2 ^ b<2 ^ b:=Nat.mod_lt _ (Nat.two_pow_pos b)
 have hM:k%2 ^ b<M:=Nat.lt_of_le_of_lt (Nat.mod_le _ _) hk
 obtain ⟨X,hXX⟩:=exl (k%2 ^ b)
 rw [hXX] at HC hX hM
 have em:mnN 1 b=b:=by unfold mnN; rw [Nat.add_sub_cancel,Nat.div_one]
 have hD:=fun w=>wdig_any (k:=X) (b:=b) (W:=1) hM (by decide) (by decide) b0 b1 hX w
 rw [em] at hD
 have HD:Hid (∀ w,Calls Try.prog 8 #[.agg (nw 9 X),.int .i64 (b:Int),.int .i64 1] w fun e w'=>∃ g,e=.returned (.tuple #[.slice (some ⟨g,0,none⟩) b b,.int .i64 0])∧w.heap.size≤g∧Rx w' g b b (iF (dF 1 X b))∧Gr w w'):=hD
 have HN0:Hid _:=fun w=>wdig_no hM (b:=0) (x:=1) (by omega) w
 have HN1:Hid _:=fun w=>wdig_no hM (b:=(b:Int)) (x:=7) (by omega) w
 have HN2:Hid _:=fun w=>wdig_no hM (b:=577) (x:=1) (by omega) w
 clear hX hXX em hD
 have HAW:Hid (∀ w,Cg 19 #[] w (.bool true)):=fun w=>awake17_any w
 go_enter Try.func6,Try.ntmps6
 go_upto_region 4 with (go_at_call 19; refine (HAW.out _).mono ?_; rintro e WA ⟨rfl,GA⟩)
 obtain ⟨e9,he9⟩:=exl (w.heap.size)
 simp only [he9]
 refine gen_w (fun v=>Gr w v∧Vr v e9 (nw 9 k)) ?_ ?_
 ·subst he9
  exact ⟨((Gr.refl _).alloc _).trans GA,(Vr.new _ _ _).gr GA⟩
 clear he9 GA HAW huu u0u hk2b hk3b hk4b hk5b hu3u hM
 rintro v0 ⟨G,c9⟩
 refine wp_v false [.c (pv e9 0),.c (.agg (nw 9 k)),.c (.int .i64 (b:Int)),.c (.agg (nw 9 X)),.a,.u] [1,3] [⟨4,5,25,nw 9 0,fun _=>nw 9 X⟩] ?hs1 ?hv1 ?hf1
 case hs1=>
  exact .cons (.g 23 0 c9 rfl)<|.cons (.k _ fun yy vv hg hh=>RtW.of_c (Rt.c (HC.out _))) .nil
 case hv1=>
  refine .cons (.mk (fun _ _ _=>rfl) (fun _ v b H F=>by dsimp only at H ⊢; simp [go_sem,exI,H,F]) zNat ⟨fkc,fkc,fkc,fkc,fka,fku,trivial⟩) .nil
 intro yw4 v1 hg h4 hV4
 simp only [FW,putFrom,Act.put,lqA,lqB,lqC,wvals,kW,lqD,lqE,Kw.c,pv,Kw.a,Kw.u]
 obtain ⟨⟨N4_4,V4_4⟩, -⟩:(v0.heap.size≤(yw4 4 0).2∧Vr v1 (yw4 4 0).2 (nw 9 X))∧True:=hV4
 clear h4
 replace G:=G.trans hg
 replace c9:=c9.gr hg
 clear hg
 go_upto_region 5 with fail
 refine wp_wS [.c (.agg (nw 9 X)),.c (.int .i64 (b:Int)),.it (v1.heap.size) b (dF 1 X b),.it (v1.heap.size) b (dF 1 X b),.ix (v1.heap.size) b (dF 1 X b),.c (.int .i64 0),.ix (v1.heap.size) b (dF 1 X b),.c (.int .i64 0)] [0,2,3,4,5,6] ?hs2 ?hf2
 case hs2=>
  exact .cons (.g 25 0 V4_4 rfl)<|.cons (.k _ fun yy vv hg hh =>  (RtW.it hg (HD.out _)))<|.cons (.m 2)<|.cons (.m 3)<|.cons (.m 3)<|.cons (.m 4) .nil
 intro yw5 v2 hg h5
 simp only [FW,putFrom,Act.put,lqA,lqB,lqC,wvals,kW,lqD,lqE,Kw.c,Kw.it,Kw.ix]
 obtain ⟨N5_6,S5_6⟩:v1.heap.size≤(yw5 6 0).2∧Rx v2 (yw5 6 0).2 b b (iF (dF 1 X b)):=h5 6
 clear h5
 replace G:=G.trans hg
 replace c9:=c9.gr hg
 replace V4_4:=V4_4.gr hg
 clear hg
 go_upto_region 6 with fail
 refine wp_wS [.c (.int .i64 0),.c (.int .i64 0),.c (.bool false),.c (.bool false),.c (.slice (some ⟨(yw5 6 0).2,0,none⟩) b b),.c (.int .i64 (b:Nat)),.c (.int .i64 (b:Int)),.c (.bool false),.c (.bool false)] [1,7] ?hs3 ?hf3
 case hs3=>
  exact .cons (.k _ fun yy vv hg hh=>RtW.of_c (Rt.same (num_any _ _)))<|.cons (.s (.binOp .neq 3 (.const (.int .i64 (b:Nat))) (.const (.int .i64 (b:Int))) 3) rfl fun vv hg=>by simp [go_sem,exI]) .nil
 intro yw6 v3 hg h6
 simp only [FW,putFrom,Act.put,lqA,lqB,lqC,wvals,kW,lqD,lqE,Kw.c]
 clear h6
 replace G:=G.trans hg
 replace c9:=c9.gr hg
 replace V4_4:=V4_4.gr hg
 replace S5_6:=S5_6.gr hg
 clear hg
 go_wp2_with fail
 go_loopw [9] (fun i wr=>∃ j:Nat,Hid (Unit→j≤b)∧i=.int .i64 (j:Int)∧Gr w wr∧Vr wr ((yw4 4 0).2) (nw 9 X)∧Rx wr ((yw5 6 0).2) b b (iF (dF 1 X b))) (fun i _=>(b-(intOf i).toNat))
 case atStart=>exact ⟨0,fun _=>by omega,rfl,G,V4_4,S5_6⟩
 case round=>
  clear G c9 V4_4 S5_6
  obtain ⟨j,HJ,rfl,G,V4_4,S5_6⟩:=hrel
  by_cases hlt:j<b
  ·skip
   have j0:(0:Int)≤(j:Int):=by omega
   have j1:(j:Int)<(b:Int):=by omega
   obtain ⟨p,hp⟩:∃ p,p+j+1=b:=⟨b-1-j,by omega⟩
   have x49:IntKind.i64.wrap ((b:Int)-1)=(b:Int)-1:=by rw [IntKind.wrap_i64]; omega
   have x51:IntKind.i64.wrap ((b:Int)-1-(j:Int))=(p:Int):=by rw [IntKind.wrap_i64]; omega
   have p0:(0:Int)≤(p:Int):=by omega
   have p1:(p:Int)<(b:Int):=by omega
   have p2:p<b:=by omega
   have hd:dF 1 X b p=((bitN X j:Nat):Int):=by
    unfold dF
    rw [show b-1-p=j by omega,dgw_one,bitN_tb]
   have hcv:∀ v,Gr wr v→v.cell? ⟨(yw5 6 0).2,p,none⟩=some (.int .i64 ((bitN X j:Nat):Int)):=fun v g=>by rw [(S5_6.gr g).cell p p2,iF,hd]
   have HB:Hid _:=fun w=>bit_any X j (by omega) w
   have HJ1:Hid (Unit→j+1≤b):=fun _=>hlt
   clear hlt HJ hp hd
   obtain ⟨D,hD⟩:=exl (bitN X j)
   rw [hD] at HB
   simp only [hD] at hcv
   clear hD
   go_upto_region 11 with fail
   refine wp_w [.c (.slice (some ⟨(yw5 6 0).2,0,none⟩) b b),.c (.int .i64 (b:Int)),.c (.int .i64 (b-1:Int)),.c (.int .i64 (j:Int)),.c (.int .i64 (p:Int)),.c (pv ((yw5 6 0).2) p),.c (.int .i64 (D:Int)),.c (.agg (nw 9 X)),.c (.int .i64 (j:Int)),.c (.int .i64 (D:Int)),.c (.bool false)] [2,4,5,6,7,9,10] ?hs4 ?hf4
   case hs4=>
    exact .cons (.s (.binOp .sub 3 (.const (.int .i64 (b:Int))) (.const (.int .i64 1)) 3) rfl fun vv hg=>by simp [go_sem,exI,x49])<|.cons (.s (.binOp .sub 3 (.const (.int .i64 (b-1:Int))) (.const (.int .i64 (j:Int))) 3) rfl fun vv hg=>by simp [go_sem,exI,x51])<|.cons (.s (.indexAddr 26 (.const (.slice (some ⟨(yw5 6 0).2,0,none⟩) b b)) (.const (.int .i64 (p:Int)))) rfl fun vv hg=>by simp [go_sem,exI,p0,p1])<|.cons (.s (.load 3 (.const (.pointer (some ⟨(yw5 6 0).2,p,none⟩)))) rfl fun vv hg=>by simp [go_sem,exI,hcv _ hg])<|.cons (.g 25 0 V4_4 rfl)<|.cons (.k _ fun yy vv hg hh=>RtW.of_c (Rt.c (HB.out _)))<|.cons (.s (.binOp .neq 3 (.const (.int .i64 (D:Int))) (.const (.int .i64 (D:Int))) 3) rfl fun vv hg=>by simp [go_sem,exI,bne_self_eq_false]) .nil
   intro yw11 v4 hg h11
   simp only [FW,putFrom,Act.put,lqA,lqB,lqC,wvals,kW,lqD,lqE,Kw.c,pv]
   clear h11
   replace G:=G.trans hg
   replace V4_4:=V4_4.gr hg
   replace S5_6:=S5_6.gr hg
   clear hg
   go_wp2_with fail
   go_roundw
   case rel=>exact ⟨j+1,HJ1,by go_num,G,V4_4,S5_6⟩
   case measure=>simp [intOf]; omega
  ·have hni:¬ (j:Int)<(b:Int):=by omega
   clear hlt HJ
   go_upto_region 13 with fail
   refine wp_wS [.c (.agg (nw 9 X)),.c (.tuple #[.slice none 0 0,.int .i64 1700]),.c (.tuple #[.slice none 0 0,.int .i64 1700]),.c (.slice none 0 0),.c (.int .i64 1700),.c (.slice none 0 0),.c (.int .i64 1700)] [0,1] ?hs5 ?hf5
   case hs5=>
    exact .cons (.g 25 0 V4_4 rfl)<|.cons (.k _ fun yy vv hg hh=>RtW.of_c (Rt.c (HN0.out _))) .nil
   intro yw13 v5 hg h13
   simp only [FW,putFrom,Act.put,lqA,lqB,lqC,wvals,kW,lqD,lqE,Kw.c]
   clear h13
   replace G:=G.trans hg
   replace V4_4:=V4_4.gr hg
   clear hg
   go_upto_region 14 with fail
   refine wp_wS [.c (.agg (nw 9 X)),.c (.int .i64 (b:Int)),.c (.tuple #[.slice none 0 0,.int .i64 1700]),.c (.tuple #[.slice none 0 0,.int .i64 1700]),.c (.slice none 0 0),.c (.int .i64 1700),.c (.slice none 0 0),.c (.int .i64 1700)] [0,2] ?hs6 ?hf6
   case hs6=>
    exact .cons (.g 25 0 V4_4 rfl)<|.cons (.k _ fun yy vv hg hh=>RtW.of_c (Rt.c (HN1.out _))) .nil
   intro yw14 v6 hg h14
   simp only [FW,putFrom,Act.put,lqA,lqB,lqC,wvals,kW,lqD,lqE,Kw.c]
   clear h14
   replace G:=G.trans hg
   replace V4_4:=V4_4.gr hg
   clear hg
   go_upto_region 15 with fail
   refine wp_wS [.c (.agg (nw 9 X)),.c (.tuple #[.slice none 0 0,.int .i64 1700]),.c (.tuple #[.slice none 0 0,.int .i64 1700]),.c (.slice none 0 0),.c (.int .i64 1700),.c (.slice none 0 0),.c (.int .i64 1700)] [0,1] ?hs7 ?hf7
   case hs7=>
    exact .cons (.g 25 0 V4_4 rfl)<|.cons (.k _ fun yy vv hg hh=>RtW.of_c (Rt.c (HN2.out _))) .nil
   intro yw15 v7 hg h15
   simp only [FW,putFrom,Act.put,lqA,lqB,lqC,wvals,kW,lqD,lqE,Kw.c]
   clear h15
   replace G:=G.trans hg
   replace V4_4:=V4_4.gr hg
   clear hg
   go_upto_region 16 with fail
   refine wp_wS [.c (.int .i64 1700),.c (.int .i64 1700),.c (.bool true),.c (.bool true),.c (.int .i64 1700),.c (.int .i64 1700),.c (.bool true),.c (.bool true),.c (.bool true),.c (.int .i64 1700),.c (.int .i64 1700),.c (.bool true),.c (.bool true),.c (.bool true)] [1,5,10] ?hs8 ?hf8
   case hs8=>
    exact .cons (.k _ fun yy vv hg hh=>RtW.of_c (Rt.same (num_any _ _)))<|.cons (.k _ fun yy vv hg hh=>RtW.of_c (Rt.same (num_any _ _)))<|.cons (.k _ fun yy vv hg hh=>RtW.of_c (Rt.same (num_any _ _))) .nil
   intro yw16 v8 hg h16
   simp only [FW,putFrom,Act.put,lqA,lqB,lqC,wvals,kW,lqD,lqE,Kw.c]
   clear h16
   replace G:=G.trans hg
   replace V4_4:=V4_4.gr hg
   clear hg
   go_wp2_with fail
   go_ret
   exact ⟨rfl,G⟩
end
end
end Go.Proofs.Ytgpfabihgjhefaa