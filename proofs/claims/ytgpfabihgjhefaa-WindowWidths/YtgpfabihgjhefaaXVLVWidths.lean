import Derived.Test.YtgpfabihgjhefaaXVVW
namespace Go.Proofs.Ytgpfabihgjhefaa
open Go.RowKit
set_option maxRecDepth 100000
set_option maxHeartbeats 8000000
section
attribute [local go_sem ↓] uz1
attribute [local go_sem] uz2
section
attribute [local go_sem] uz3
attribute [local go_sem] uz5
theorem mnN_mul {W m:Nat} (h:1≤W):mnN W (W*m)=m:=by
 unfold mnN
 rw [Nat.add_sub_assoc h,Nat.mul_add_div (by omega),Nat.div_eq_of_lt (by omega),Nat.add_zero]
theorem lvwidths_any (k:Nat) (hk:k<M) (x y:Int) (w:World):Cg 7 #[.agg (nw 9 k),.int .i64 x,.int .i64 y] w (.bool true):=by
 obtain ⟨u,hu3u⟩:∃ u:Nat,x%18446744073709551616=(u:Int):=⟨(x%18446744073709551616).toNat,by omega⟩
 have huu:IntKind.u64.wrap x=(u:Int):=by rw [IntKind.wrap_u64]; exact hu3u
 obtain ⟨W,hkW⟩:=exl (1+u%3)
 have u0u:(0:Int)≤(u:Int):=by omega
 have hk2W:(1:Int)+(u:Int)%3=(W:Int):=by omega
 have hk3W:IntKind.i64.wrap ((u:Int)%3)=(u:Int)%3:=by rw [IntKind.wrap_i64]; omega
 have hk4W:IntKind.u64.wrap ((u:Int)%3)=(u:Int)%3:=by rw [IntKind.wrap_u64]; omega
 have hk5W:(u:Int).tmod 3=(u:Int)%3:=by rw [Int.tmod_eq_emod_of_nonneg (by omega)]
 have W0:1≤W:=by omega
 have W1:W≤3:=by omega
 have W2:(1:Int)≤(W:Int):=by omega
 have W3:(W:Int)≤3:=by omega
 clear hkW
 obtain ⟨u2,hu3u2⟩:∃ u:Nat,y%18446744073709551616=(u:Int):=⟨(y%18446744073709551616).toNat,by omega⟩
 have huu2:IntKind.u64.wrap y=(u2:Int):=by rw [IntKind.wrap_u64]; exact hu3u2
 obtain ⟨c,hkc⟩:=exl (1+u2%40)
 have u0u2:(0:Int)≤(u2:Int):=by omega
 have hk2c:(1:Int)+(u2:Int)%40=(c:Int):=by omega
 have hk3c:IntKind.i64.wrap ((u2:Int)%40)=(u2:Int)%40:=by rw [IntKind.wrap_i64]; omega
 have hk4c:IntKind.u64.wrap ((u2:Int)%40)=(u2:Int)%40:=by rw [IntKind.wrap_u64]; omega
 have hk5c:(u2:Int).tmod 40=(u2:Int)%40:=by rw [Int.tmod_eq_emod_of_nonneg (by omega)]
 have c0:1≤c:=by omega
 have c1:c≤40:=by omega
 have c2:(1:Int)≤(c:Int):=by omega
 have c3:(c:Int)≤40:=by omega
 clear hkc
 obtain ⟨E,hE⟩:=exl (2*W)
 obtain ⟨b,hb⟩:=exl (E*c)
 obtain ⟨m,hm⟩:=exl (2*c)
 have hb1:W*m=b:=by rw [← hb,← hE,← hm,Nat.mul_comm 2 W,Nat.mul_assoc]
 have b0:1≤b:=hb ▸ Nat.mul_pos (by omega) (by omega)
 have b1:b≤240:=hb ▸ Nat.mul_le_mul (show E≤6 by omega) c1
 have m1:mnN W b=m:=hb1 ▸ mnN_mul W0
 have m2:mnN E b=c:=hb ▸ mnN_mul (by omega)
 have HC:Hid _:=fun w=>natcut_any k b (by omega) w
 have hX:k%2 ^ b<2 ^ b:=Nat.mod_lt _ (Nat.two_pow_pos b)
 have hM:k%2 ^ b<M:=Nat.lt_of_le_of_lt (Nat.mod_le _ _) hk
 obtain ⟨X,hXX⟩:=exl (k%2 ^ b)
 rw [hXX] at HC hX hM
 have HD1:Hid _:=fun w=>m1 ▸ wdig_any (k:=X) (b:=b) (W:=W) hM W0 (by omega) b0 (by omega) hX w
 have HD2:Hid _:=fun w=>m2 ▸ wdig_any (k:=X) (b:=b) (W:=E) hM (by omega) (by omega) b0 (by omega) hX w
 have e1:2*(W:Int)=(E:Int):=by omega
 have e2:(E:Int)*(c:Int)=(b:Int):=by rw [← hb]; exact (Int.natCast_mul _ _).symm
 have b2:(1:Int)≤(b:Int):=by omega
 have b3:(b:Int)≤240:=by omega
 have E2:(1:Int)≤(E:Int):=by omega
 have E3:(E:Int)≤6:=by omega
 have x45:IntKind.i64.wrap (2*(W:Int))=(E:Int):=by rw [IntKind.wrap_i64]; omega
 have x62:IntKind.i64.wrap (2*(c:Int))=(m:Int):=by rw [IntKind.wrap_i64]; omega
 have HM:Hid (Unit→m=2*c):=fun _=>hm.symm
 have HE:Hid (Unit→2*W=E):=fun _=>hE
 have HE6:Hid (E≤6):=show E≤6 by omega
 clear hX hXX hb hb1 hm hE hM m1 m2
 have HAW:Hid (∀ w,Cg 19 #[] w (.bool true)):=fun w=>awake17_any w
 go_enter Try.func7,Try.ntmps7
 go_upto_region 5 with (go_at_call 19; refine (HAW.out _).mono ?_; rintro e WA ⟨rfl,GA⟩)
 obtain ⟨e9,he9⟩:=exl (w.heap.size)
 simp only [he9]
 refine gen_w (fun v=>Gr w v∧Vr v e9 (nw 9 k)) ?_ ?_
 ·subst he9
  exact ⟨((Gr.refl _).alloc _).trans GA,(Vr.new _ _ _).gr GA⟩
 clear he9 GA HAW huu u0u hk2W hk3W hk4W hk5W hu3u huu2 u0u2 hk2c hk3c hk4c hk5c hu3u2 e1 e2
 rintro v0 ⟨G,c9⟩
 refine wp_v false [.c (pv e9 0),.c (.agg (nw 9 k)),.c (.int .i64 (b:Int)),.c (.agg (nw 9 X)),.a,.u] [1,3] [⟨4,5,25,nw 9 0,fun _=>nw 9 X⟩] ?hs1 ?hv1 ?hf1
 case hs1=>
  exact .cons (.g 23 0 c9 rfl)<|.cons (.k _ fun yy vv hg hh=>RtW.of_c (Rt.c (HC.out _))) .nil
 case hv1=>
  refine .cons (.mk (fun _ _ _=>rfl) (fun _ v b H F=>by dsimp only at H ⊢; simp [go_sem,exI,H,F]) zNat ⟨fkc,fkc,fkc,fkc,fka,fku,trivial⟩) .nil
 intro yw5 v1 hg h5 hV5
 simp only [FW,putFrom,Act.put,lqA,lqB,lqC,wvals,kW,lqD,lqE,Kw.c,pv,Kw.a,Kw.u]
 obtain ⟨⟨N5_4,V5_4⟩, -⟩:(v0.heap.size≤(yw5 4 0).2∧Vr v1 (yw5 4 0).2 (nw 9 X))∧True:=hV5
 clear h5
 replace G:=G.trans hg
 replace c9:=c9.gr hg
 clear hg
 go_upto_region 6 with fail
 refine wp_wS [.c (.agg (nw 9 X)),.c (.int .i64 (b:Int)),.c (.int .i64 (W:Int)),.it (v1.heap.size) m (dF W X m),.it (v1.heap.size) m (dF W X m),.ix (v1.heap.size) m (dF W X m),.c (.int .i64 0),.ix (v1.heap.size) m (dF W X m),.c (.int .i64 0)] [0,3,4,5,6,7] ?hs2 ?hf2
 case hs2=>
  exact .cons (.g 25 0 V5_4 rfl)<|.cons (.k _ fun yy vv hg hh =>  (RtW.it hg (HD1.out _)))<|.cons (.m 3)<|.cons (.m 4)<|.cons (.m 4)<|.cons (.m 5) .nil
 intro yw6 v2 hg h6
 simp only [FW,putFrom,Act.put,lqA,lqB,lqC,wvals,kW,lqD,lqE,Kw.c,Kw.it,Kw.ix]
 obtain ⟨N6_7,S6_7⟩:v1.heap.size≤(yw6 7 0).2∧Rx v2 (yw6 7 0).2 m m (iF (dF W X m)):=h6 7
 clear h6
 replace G:=G.trans hg
 replace c9:=c9.gr hg
 replace V5_4:=V5_4.gr hg
 clear hg
 go_upto_region 7 with fail
 refine wp_wS [.c (.agg (nw 9 X)),.c (.int .i64 (b:Int)),.c (.int .i64 (W:Int)),.c (.int .i64 (E:Int)),.it (v2.heap.size) c (dF E X c),.it (v2.heap.size) c (dF E X c),.ix (v2.heap.size) c (dF E X c),.c (.int .i64 0),.ix (v2.heap.size) c (dF E X c),.c (.int .i64 0)] [0,3,4,5,6,7,8] ?hs3 ?hf3
 case hs3=>
  exact .cons (.g 25 0 V5_4 rfl)<|.cons (.s (.binOp .mul 3 (.const (.int .i64 2)) (.const (.int .i64 (W:Int))) 3) rfl fun vv hg=>by simp [go_sem,exI,x45])<|.cons (.k _ fun yy vv hg hh =>  (RtW.it hg (HD2.out _)))<|.cons (.m 4)<|.cons (.m 5)<|.cons (.m 5)<|.cons (.m 6) .nil
 intro yw7 v3 hg h7
 simp only [FW,putFrom,Act.put,lqA,lqB,lqC,wvals,kW,lqD,lqE,Kw.c,Kw.it,Kw.ix]
 obtain ⟨N7_8,S7_8⟩:v2.heap.size≤(yw7 8 0).2∧Rx v3 (yw7 8 0).2 c c (iF (dF E X c)):=h7 8
 clear h7
 replace G:=G.trans hg
 replace c9:=c9.gr hg
 replace V5_4:=V5_4.gr hg
 replace S6_7:=S6_7.gr hg
 clear hg
 go_upto_region 8 with fail
 refine wp_wS [.c (.int .i64 0),.c (.int .i64 0),.c (.bool false),.c (.bool false),.c (.int .i64 0),.c (.int .i64 0),.c (.bool false),.c (.bool false),.c (.bool false),.c (.slice (some ⟨(yw6 7 0).2,0,none⟩) m m),.c (.int .i64 (m:Nat)),.c (.slice (some ⟨(yw7 8 0).2,0,none⟩) c c),.c (.int .i64 (c:Nat)),.c (.int .i64 (m:Int)),.c (.bool false),.c (.bool false)] [1,5,13,14] ?hs4 ?hf4
 case hs4=>
  exact .cons (.k _ fun yy vv hg hh=>RtW.of_c (Rt.same (num_any _ _)))<|.cons (.k _ fun yy vv hg hh=>RtW.of_c (Rt.same (num_any _ _)))<|.cons (.s (.binOp .mul 3 (.const (.int .i64 2)) (.const (.int .i64 (c:Nat))) 3) rfl fun vv hg=>by simp [go_sem,exI,x62])<|.cons (.s (.binOp .neq 3 (.const (.int .i64 (m:Nat))) (.const (.int .i64 (m:Int))) 3) rfl fun vv hg=>by simp [go_sem,exI]) .nil
 intro yw8 v4 hg h8
 simp only [FW,putFrom,Act.put,lqA,lqB,lqC,wvals,kW,lqD,lqE,Kw.c]
 clear h8
 replace G:=G.trans hg
 replace c9:=c9.gr hg
 replace V5_4:=V5_4.gr hg
 replace S6_7:=S6_7.gr hg
 replace S7_8:=S7_8.gr hg
 clear hg
 go_wp2_with fail
 go_loopw [14] (fun i wr=>∃ j:Nat,Hid (Unit→j≤c)∧i=.int .i64 (j:Int)∧Gr w wr∧Rx wr ((yw6 7 0).2) m m (iF (dF W X m))∧Rx wr ((yw7 8 0).2) c c (iF (dF E X c))) (fun i _=>(c-(intOf i).toNat))
 case atStart=>exact ⟨0,fun _=>by omega,rfl,G,S6_7,S7_8⟩
 case round=>
  clear G c9 V5_4 S6_7 S7_8
  obtain ⟨j,HJ,rfl,G,S6_7,S7_8⟩:=hrel
  by_cases hlt:j<c
  ·skip
   have j0:(0:Int)≤(j:Int):=by omega
   have j1:(j:Int)<(c:Int):=by omega
   obtain ⟨p,hp⟩:=exl (2*j)
   obtain ⟨q,hq⟩:=exl (p+1)
   have hm:=HM.out ()
   have p0:(0:Int)≤(p:Int):=by omega
   have p1:(p:Int)<(m:Int):=by omega
   have q0:(0:Int)≤(q:Int):=by omega
   have q1:(q:Int)<(m:Int):=by omega
   have x77:IntKind.i64.wrap (2*(j:Int))=(p:Int):=by rw [IntKind.wrap_i64]; omega
   have x85:IntKind.i64.wrap ((p:Int)+1)=(q:Int):=by rw [IntKind.wrap_i64]; omega
   obtain ⟨A,hA⟩:=exl (dgw W X (2*(c-1-j)+1))
   obtain ⟨B,hB⟩:=exl (dgw W X (2*(c-1-j)))
   obtain ⟨D,hD⟩:=exl (dgw E X (c-1-j))
   have hE:D=A*2 ^ W+B:=by rw [← hD,← hA,← hB,← HE.out ()]; exact dgw_two W X _
   have hD1:D<64:=by
    have h1:=dgw_lt E X (c-1-j)
    have h2:2 ^ E≤64:=Nat.pow_le_pow_right (n:=2) (by decide) (HE6.out)
    omega
   have c1:∀ v,Gr wr v→v.cell? ⟨(yw6 7 0).2,p,none⟩=some (.int .i64 ((A:Nat):Int)):=fun v g=>by rw [(S6_7.gr g).cell p (by omega),iF,dF,show m-1-p=2*(c-1-j)+1 by omega,hA]
   have c2:∀ v,Gr wr v→v.cell? ⟨(yw6 7 0).2,q,none⟩=some (.int .i64 ((B:Nat):Int)):=fun v g=>by rw [(S6_7.gr g).cell q (by omega),iF,dF,show m-1-q=2*(c-1-j) by omega,hB]
   have c3:∀ v,Gr wr v→v.cell? ⟨(yw7 8 0).2,j,none⟩=some (.int .i64 ((D:Nat):Int)):=fun v g=>by rw [(S7_8.gr g).cell j (by omega),iF,dF,hD]
   obtain ⟨T,hT⟩:=exl (A*2 ^ W)
   rw [hT] at hE
   have x81:IntKind.i64.wrap ((A:Int)*2 ^ W)=(T:Int):=by
    have e0:(A:Int)*2 ^ W=(T:Int):=by rw [← hT]; simp
    rw [e0,IntKind.wrap_i64]; omega
   have x88:IntKind.i64.wrap ((T:Int)+(B:Int))=(D:Int):=by rw [IntKind.wrap_i64]; omega
   have HJ1:Hid (Unit→j+1≤c):=fun _=>hlt
   clear hlt HJ hp hq hA hB hD hE hT hm hD1
   go_upto_region 13 with fail
   refine wp_w [.c (.slice (some ⟨(yw7 8 0).2,0,none⟩) c c),.c (.int .i64 (j:Int)),.c (pv ((yw7 8 0).2) j),.c (.int .i64 (D:Int)),.c (.slice (some ⟨(yw6 7 0).2,0,none⟩) m m),.c (.int .i64 (j:Int)),.c (.int .i64 (p:Int)),.c (pv ((yw6 7 0).2) p),.c (.int .i64 (A:Int)),.c (.int .i64 (W:Int)),.c (.int .i64 (T:Int)),.c (.slice (some ⟨(yw6 7 0).2,0,none⟩) m m),.c (.int .i64 (j:Int)),.c (.int .i64 (p:Int)),.c (.int .i64 (q:Int)),.c (pv ((yw6 7 0).2) q),.c (.int .i64 (B:Int)),.c (.int .i64 (D:Int)),.c (.bool false)] [2,3,6,7,8,10,13,14,15,16,17,18] ?hs5 ?hf5
   case hs5=>
    exact .cons (.s (.indexAddr 26 (.const (.slice (some ⟨(yw7 8 0).2,0,none⟩) c c)) (.const (.int .i64 (j:Int)))) rfl fun vv hg=>by simp [go_sem,exI,j0,j1])<|.cons (.s (.load 3 (.const (.pointer (some ⟨(yw7 8 0).2,j,none⟩)))) rfl fun vv hg=>by simp [go_sem,exI,c3 _ hg])<|.cons (.s (.binOp .mul 3 (.const (.int .i64 2)) (.const (.int .i64 (j:Int))) 3) rfl fun vv hg=>by simp [go_sem,exI,x77])<|.cons (.s (.indexAddr 26 (.const (.slice (some ⟨(yw6 7 0).2,0,none⟩) m m)) (.const (.int .i64 (p:Int)))) rfl fun vv hg=>by simp [go_sem,exI,p0,p1])<|.cons (.s (.load 3 (.const (.pointer (some ⟨(yw6 7 0).2,p,none⟩)))) rfl fun vv hg=>by simp [go_sem,exI,c1 _ hg])<|.cons (.s (.binOp .shl 3 (.const (.int .i64 (A:Int))) (.const (.int .i64 (W:Int))) 3) rfl fun vv hg=>by simp [go_sem,exI,x81])<|.cons (.s (.binOp .mul 3 (.const (.int .i64 2)) (.const (.int .i64 (j:Int))) 3) rfl fun vv hg=>by simp [go_sem,exI,x77])<|.cons (.s (.binOp .add 3 (.const (.int .i64 (p:Int))) (.const (.int .i64 1)) 3) rfl fun vv hg=>by simp [go_sem,exI,x85])<|.cons (.s (.indexAddr 26 (.const (.slice (some ⟨(yw6 7 0).2,0,none⟩) m m)) (.const (.int .i64 (q:Int)))) rfl fun vv hg=>by simp [go_sem,exI,q0,q1])<|.cons (.s (.load 3 (.const (.pointer (some ⟨(yw6 7 0).2,q,none⟩)))) rfl fun vv hg=>by simp [go_sem,exI,c2 _ hg])<|.cons (.s (.binOp .add 3 (.const (.int .i64 (T:Int))) (.const (.int .i64 (B:Int))) 3) rfl fun vv hg=>by simp [go_sem,exI,x88])<|.cons (.s (.binOp .neq 3 (.const (.int .i64 (D:Int))) (.const (.int .i64 (D:Int))) 3) rfl fun vv hg=>by simp [go_sem,exI,bne_self_eq_false]) .nil
   intro yw13 v5 hg h13
   simp only [FW,putFrom,Act.put,lqA,lqB,lqC,wvals,kW,lqD,lqE,Kw.c,pv]
   clear h13
   replace G:=G.trans hg
   replace S6_7:=S6_7.gr hg
   replace S7_8:=S7_8.gr hg
   clear hg
   go_wp2_with fail
   go_roundw
   case rel=>exact ⟨j+1,HJ1,by go_num,G,S6_7,S7_8⟩
   case measure=>simp [intOf]; omega
  ·have hni:¬ (j:Int)<(c:Int):=by omega
   clear hlt HJ
   go_wp2_with fail
   go_ret
   exact ⟨rfl,G⟩
end
end
end Go.Proofs.Ytgpfabihgjhefaa