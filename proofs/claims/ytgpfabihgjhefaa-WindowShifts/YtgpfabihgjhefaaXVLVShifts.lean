import Derived.Test.YtgpfabihgjhefaaXVVW
import Derived.Test.YtgpfabihgjhefaaXVAdd
namespace Go.Proofs.Ytgpfabihgjhefaa
open Go.RowKit
set_option maxRecDepth 100000
set_option maxHeartbeats 8000000
section
attribute [local go_sem ↓] uz1
attribute [local go_sem] uz2
section
attribute [local go_sem] uz3
attribute [local go_sem] uz5
attribute [local go_sem ↓] apI_is
def snF (n:Nat) (f:Nat→Int) (d:Int) (i:Nat):Int:=if i<n then f i else d
theorem and_W (y:Int) {W T:Nat} (h:W≤6) (hT:2 ^ W=T):∃ D:Nat,D<T∧bits .and .i64 y ((T:Int)-1)=(D:Int):=by
 have h1:T≤64:=hT ▸ Nat.pow_le_pow_right (n:=2) (by decide) h
 have h2:0<T:=hT ▸ Nat.two_pow_pos W
 refine ⟨(BitVec.ofInt 64 y).toNat%T,Nat.mod_lt _ h2,?_⟩
 have h3:=Nat.mod_lt (BitVec.ofInt 64 y).toNat h2
 show IntKind.i64.wrap ((BitVec.ofInt 64 y &&& BitVec.ofInt 64 ((T:Int)-1)).toNat:Int)=_
 have e:(BitVec.ofInt 64 ((T:Int)-1)).toNat=2 ^ W-1:=by
  rw [show (T:Int)-1=((T-1:Nat):Int) by omega,BitVec.ofInt_natCast,BitVec.toNat_ofNat,hT]
  exact Nat.mod_eq_of_lt (by omega)
 rw [BitVec.toNat_and,e,Nat.and_two_pow_sub_one_eq_mod,hT,IntKind.wrap_i64]
 omega
theorem lt_mulT {q X T W D:Nat} (hX:X<2 ^ q) (hT:2 ^ W=T) (hW:W≤6) (hD:D<T) (hq:q+76=576):X*T<M∧X*T+D<M:=by
 have h3:(X+1)*T≤M:=by
  rw [← hT,M_pow hq]
  exact Nat.mul_le_mul hX (Nat.pow_le_pow_right (by decide) (by omega))
 rw [Nat.succ_mul] at h3
 omega
theorem lvshifts_any (k:Nat) (hk:k<M) (x y:Int) (w:World):Cg 5 #[.agg (nw 9 k),.int .i64 x,.int .i64 y] w (.bool true):=by
 obtain ⟨u,hu3u⟩:∃ u:Nat,x%18446744073709551616=(u:Int):=⟨(x%18446744073709551616).toNat,by omega⟩
 have huu:IntKind.u64.wrap x=(u:Int):=by rw [IntKind.wrap_u64]; exact hu3u
 obtain ⟨W,hkW⟩:=exl (1+u%6)
 have u0u:(0:Int)≤(u:Int):=by omega
 have hk2W:(1:Int)+(u:Int)%6=(W:Int):=by omega
 have hk3W:IntKind.i64.wrap ((u:Int)%6)=(u:Int)%6:=by rw [IntKind.wrap_i64]; omega
 have hk4W:IntKind.u64.wrap ((u:Int)%6)=(u:Int)%6:=by rw [IntKind.wrap_u64]; omega
 have hk5W:(u:Int).tmod 6=(u:Int)%6:=by rw [Int.tmod_eq_emod_of_nonneg (by omega)]
 have W0:1≤W:=by omega
 have W1:W≤6:=by omega
 have W2:(1:Int)≤(W:Int):=by omega
 have W3:(W:Int)≤6:=by omega
 clear hkW
 have HC':=fun w=>natcut_any k 500 (by decide) w
 have hX:k%2 ^ 500<2 ^ 500:=Nat.mod_lt _ (Nat.two_pow_pos 500)
 have hM:k%2 ^ 500<M:=Nat.lt_of_le_of_lt (Nat.mod_le _ _) hk
 obtain ⟨X,hXX⟩:=exl (k%2 ^ 500)
 rw [hXX] at HC' hX hM
 have HC:Hid _:=HC'
 obtain ⟨n,hn⟩:=exl (mnN W 500)
 have hn1:n≤576:=hn ▸ mnN_le W0 (by decide)
 have hkn:X<2 ^ (W*n):=hn ▸ many_lt W0 hX
 have hDD:=fun w=>wdig_any (k:=X) (b:=500) (W:=W) hM W0 W1 (by decide) (by decide) hX w
 rw [hn] at hDD
 have HD:Hid (∀ w,Calls Try.prog 8 #[.agg (nw 9 X),.int .i64 500,.int .i64 (W:Int)] w fun e w'=>∃ g,e=.returned (.tuple #[.slice (some ⟨g,0,none⟩) n n,.int .i64 0])∧w.heap.size≤g∧Rx w' g n n (iF (dF W X n))∧Gr w w'):=hDD
 obtain ⟨T,hT⟩:=exl (2 ^ W)
 obtain ⟨D,hD,hand⟩:=and_W y W1 hT
 have hT1:T≤64:=hT ▸ Nat.pow_le_pow_right (n:=2) (by decide) W1
 have hsh:IntKind.i64.wrap (2 ^ W)=(T:Int):=by
  have e0:((2 ^ W:Nat):Int)=(2:Int) ^ W:=by simp
  rw [← e0,hT,IntKind.wrap_i64]
  omega
 have x40:IntKind.i64.wrap ((T:Int)-1)=(T:Int)-1:=by rw [IntKind.wrap_i64]; omega
 have x64:IntKind.u64.wrap (D:Int)=(D:Int):=wuA
 obtain ⟨hM2,hM3⟩:=lt_mulT hX hT W1 hD rfl
 have hf:∀ i,i<n+1→0≤snF n (dF W X n) (D:Int) i∧snF n (dF W X n) (D:Int) i<((2 ^ W:Nat):Int):=fun i _=>by
  unfold snF
  split
  ·exact dF_bd W X n i
  ·rw [hT]; omega
 have hh:hor W (tn (snF n (dF W X n) (D:Int))) (n+1)=X*T+D:=by
  rw [hor,hor_congr (g:=tn (dF W X n)) fun i hi=>by simp [tn,snF,hi],hor_dF hkn,hT]
  simp [tn,snF]
 have HV:Hid (∀ v g c,Rx v g (n+1) c (iF (snF n (dF W X n) (D:Int)))→Cg 12 #[.slice (some ⟨g,0,none⟩) (n+1) c,.int .i64 (W:Int)] v (.tuple #[.agg (nw 9 (X*T+D)),.int .i64 0])):=fun v g c h=>by
  have:=wval_ok W0 W1 (show n+1≤4611686018427387904 by omega) c h.iv ⟨hf,by rw [hh]; exact hM3⟩
  rwa [hh] at this
 have HV0:Hid (∀ v,Cg 12 #[.slice none 0 0,.int .i64 (W:Int)] v (.tuple #[.agg (nw 9 0),.int .i64 0])):=fun v=>wval_ok (f:=fun _=>0) W0 W1 (by decide) 0 (Or.inl rfl) (Vok.zero W _)
 have HL:Hid (∀ v,Cg 22 #[.agg (nw 9 X),.int .i64 (W:Int)] v (.tuple #[.agg (nw 9 (X*T)),.int .i64 0])):=fun v=>by
  have:=shl_any X W (by omega) v
  rwa [hT,Nat.mod_eq_of_lt hM2] at this
 have HA:Hid (∀ v,Cg 23 #[.agg (nw 9 (X*T)),.agg (nw 9 D)] v (.tuple #[.agg (nw 9 (X*T+D)),.bool false])):=fun v=>by
  have:=add_any (X*T) D hM2 (Nat.lt_of_le_of_lt (Nat.le_add_left _ _) hM3) v
  rwa [Nat.mod_eq_of_lt hM3,decide_eq_false (Nat.not_le.2 hM3)] at this
 have HO:Hid _:=fun v=>one_any D (by omega) v
 obtain ⟨Y,hY⟩:=exl (X*T+D)
 obtain ⟨Z,hZ⟩:=exl (X*T)
 rw [hY] at HV HA
 rw [hZ] at HL HA
 clear hX hXX HC' hDD hkn hn hM2 hM3 hf hh hY hZ hT hD hT1 hM
 have HAW:Hid (∀ w,Cg 19 #[] w (.bool true)):=fun w=>awake17_any w
 go_enter Try.func5,Try.ntmps5
 go_upto_region 4 with (go_at_call 19; refine (HAW.out _).mono ?_; rintro e WA ⟨rfl,GA⟩)
 obtain ⟨e9,he9⟩:=exl (w.heap.size)
 simp only [he9]
 refine gen_w (fun v=>Gr w v∧Vr v e9 (nw 9 k)) ?_ ?_
 ·subst he9
  exact ⟨((Gr.refl _).alloc _).trans GA,(Vr.new _ _ _).gr GA⟩
 clear he9 GA HAW huu u0u hk2W hk3W hk4W hk5W hu3u
 rintro v0 ⟨G,c9⟩
 refine wp_v false [.c (pv e9 0),.c (.agg (nw 9 k)),.c (.agg (nw 9 X)),.a,.u] [1,2] [⟨3,4,25,nw 9 0,fun _=>nw 9 X⟩] ?hs1 ?hv1 ?hf1
 case hs1=>
  exact .cons (.g 23 0 c9 rfl)<|.cons (.k _ fun yy vv hg hh=>RtW.of_c (Rt.c (HC.out _))) .nil
 case hv1=>
  refine .cons (.mk (fun _ _ _=>rfl) (fun _ v b H F=>by dsimp only at H ⊢; simp [go_sem,exI,H,F]) zNat ⟨fkc,fkc,fkc,fka,fku,trivial⟩) .nil
 intro yw4 v1 hg h4 hV4
 simp only [FW,putFrom,Act.put,lqA,lqB,lqC,wvals,kW,lqD,lqE,Kw.c,pv,Kw.a,Kw.u]
 obtain ⟨⟨N4_3,V4_3⟩, -⟩:(v0.heap.size≤(yw4 3 0).2∧Vr v1 (yw4 3 0).2 (nw 9 X))∧True:=hV4
 clear h4
 replace G:=G.trans hg
 replace c9:=c9.gr hg
 clear hg
 go_upto_region 5 with fail
 refine wp_wS [.c (.agg (nw 9 X)),.c (.int .i64 (W:Int)),.it (v1.heap.size) n (dF W X n),.it (v1.heap.size) n (dF W X n),.ix (v1.heap.size) n (dF W X n),.c (.int .i64 0),.ix (v1.heap.size) n (dF W X n),.c (.int .i64 0)] [0,2,3,4,5,6] ?hs2 ?hf2
 case hs2=>
  exact .cons (.g 25 0 V4_3 rfl)<|.cons (.k _ fun yy vv hg hh =>  (RtW.it hg (HD.out _)))<|.cons (.m 2)<|.cons (.m 3)<|.cons (.m 3)<|.cons (.m 4) .nil
 intro yw5 v2 hg h5
 simp only [FW,putFrom,Act.put,lqA,lqB,lqC,wvals,kW,lqD,lqE,Kw.c,Kw.it,Kw.ix]
 obtain ⟨N5_6,S5_6⟩:v1.heap.size≤(yw5 6 0).2∧Rx v2 (yw5 6 0).2 n n (iF (dF W X n)):=h5 6
 clear h5
 replace G:=G.trans hg
 replace c9:=c9.gr hg
 replace V4_3:=V4_3.gr hg
 clear hg
 go_upto_region 6 with fail
 refine wp_wS [.c (.int .i64 y),.c (.int .i64 (W:Int)),.c (.int .i64 (T:Int)),.c (.int .i64 (T-1:Int)),.c (.int .i64 (D:Int)),.c (.int .i64 (D:Int))] [2,3,4] ?hs3 ?hf3
 case hs3=>
  exact .cons (.s (.binOp .shl 3 (.const (.int .i64 1)) (.const (.int .i64 (W:Int))) 3) rfl fun vv hg=>by simp [go_sem,exI,hsh])<|.cons (.s (.binOp .sub 3 (.const (.int .i64 (T:Int))) (.const (.int .i64 1)) 3) rfl fun vv hg=>by simp [go_sem,exI,x40])<|.cons (.s (.binOp .and 3 (.const (.int .i64 y)) (.const (.int .i64 (T-1:Int))) 3) rfl fun vv hg=>by simp [go_sem,exI,hand]) .nil
 intro yw6 v3 hg h6
 simp only [FW,putFrom,Act.put,lqA,lqB,lqC,wvals,kW,lqD,lqE,Kw.c]
 clear h6
 replace G:=G.trans hg
 replace c9:=c9.gr hg
 replace V4_3:=V4_3.gr hg
 replace S5_6:=S5_6.gr hg
 clear hg
 obtain ⟨i0,hi,hz0,hz1,hz2⟩:=info_parts infoI
 have hR0:Rx (v3.alloc (.cells #[] 3)) v3.heap.size 0 0 (iF (snF n (dF W X n) (D:Int))):=(rx_empty v3).congr fun i hi=>absurd hi (Nat.not_lt_zero _)
 have hS5:Rx (v3.alloc (.cells #[] 3)) ((yw5 6 0).2) n n (iF (snF n (dF W X n) (D:Int))):=(S5_6.gr ((Gr.refl _).alloc _)).congr fun i hi=>by simp [iF,snF,hi]
 obtain ⟨g1,cap1,W1,hr1,hl1,hR1,hW1⟩:=aps_run (P:=Try.prog) Try.underlying26 hi hz0 rfl hz1 hz2 (v3.alloc (.cells #[] 3)) v3.heap.size 0 n (.slice (some ⟨(yw5 6 0).2,0,none⟩) n n) (.slice (some ⟨v3.heap.size,0,none⟩) 0 0) (iF (snF n (dF W X n) (D:Int))) (Or.inr ⟨_,0,rfl,Nat.le_refl _,hR0⟩) (by rw [hz1]; simp only [Nat.zero_add]; exact hS5.iv.src n) (Or.inr (by simp)) (by omega) (by omega) (by simp)
 rw [Nat.zero_add] at hr1 hR1
 have gW1:=hW1 v3 ((Gr.refl _).alloc _) (Nat.le_refl _)
 obtain ⟨g2,cap2,W2,hr2,hl2,hR2,hW2⟩:=aps_run (P:=Try.prog) Try.underlying26 hi hz0 rfl hz1 hz2 (W1.alloc (.cells #[.int .i64 (D:Int)] 3)) v3.heap.size n 1 (.slice (some ⟨W1.heap.size,0,none⟩) 1 1) (.slice (some ⟨g1,0,none⟩) n cap1) (iF (snF n (dF W X n) (D:Int))) (Or.inr ⟨g1,cap1,rfl,hl1,hR1.gr ((Gr.refl _).alloc _)⟩)
  (by
   rw [hz1]
   refine srcx Try.underlying26 _ 0 1 1 _ (fun _=>rfl) fun j hj=>?_
   have e:j=0:=by omega
   rw [e,Nat.zero_add,cell_new]
   simp [iF,snF]) (Or.inl (by decide)) (by omega) (by omega) (Nat.le_trans gW1.below.size (by simp))
 have gW2:=hW2 v3 (gW1.alloc _) (Nat.le_refl _)
 have hr1':∀ ty,(apI ty #[.slice (some ⟨v3.heap.size,0,none⟩) 0 0,.slice (some ⟨(yw5 6 0).2,0,none⟩) n n]).run Try.prog (v3.alloc (.cells #[] 3))=.ok (.slice (some ⟨g1,0,none⟩) n cap1) W1:=hr1
 have hr2':∀ ty,(apI ty #[.slice (some ⟨g1,0,none⟩) n cap1,.slice (some ⟨W1.heap.size,0,none⟩) 1 1]).run Try.prog (W1.alloc (.cells #[.int .i64 (D:Int)] 3))=.ok (.slice (some ⟨g2,0,none⟩) (n+1) cap2) W2:=hr2
 have HR2:Hid (Gr v3 W2∧Rx W2 g2 (n+1) cap2 (iF (snF n (dF W X n) (D:Int)))):=⟨gW2,hR2⟩
 clear hr1 hr2 hl1 hl2 hR1 hR2 hW1 hW2 gW1 gW2 hR0 hS5 hi hz0 hz1 hz2
 go_upto_region 9 with fail
 refine gen_w (fun u=>Gr v3 u∧Rx u g2 (n+1) cap2 (iF (snF n (dF W X n) (D:Int)))) HR2.out ?_
 clear hr1' hr2' HR2
 rintro u7 ⟨g7,SR⟩
 replace G:=G.trans g7
 replace c9:=c9.gr g7
 replace V4_3:=V4_3.gr g7
 clear g7 S5_6
 refine wp_v false [.c (.slice (some ⟨g2,0,none⟩) (n+1) cap2),.c (.int .i64 (W:Int)),.c (.tuple #[.agg (nw 9 Y),.int .i64 0]),.c (.tuple #[.agg (nw 9 Y),.int .i64 0]),.c (.agg (nw 9 Y)),.c (.int .i64 0),.a,.u,.c (.int .i64 0)] [2] [⟨6,7,25,nw 9 0,fun _=>nw 9 Y⟩] ?hs4 ?hv4 ?hf4
 case hs4=>
  refine .cons (.k (fun yy => #[.slice (some ⟨g2,0,none⟩) (n+1) cap2,.int .i64 (W:Int)]) fun yy vv hg hh=>RtW.of_c (Rt.c (HV.out _ _ _ (SR.gr hg)))) .nil
 case hv4=>
  refine .cons (.mk (fun _ _ _=>rfl) (fun _ v b H F=>by dsimp only at H ⊢; simp [go_sem,exI,H,F]) zNat ⟨fkc,fkc,fkc,fkc,fkc,fkc,fka,fku,fkc,trivial⟩) .nil
 intro yw9 v4 hg h9 hV9
 simp only [FW,putFrom,Act.put,lqA,lqB,lqC,wvals,kW,lqD,lqE,Kw.c,Kw.a,Kw.u]
 obtain ⟨⟨N9_6,V9_6⟩, -⟩:(u7.heap.size≤(yw9 6 0).2∧Vr v4 (yw9 6 0).2 (nw 9 Y))∧True:=hV9
 clear h9
 replace G:=G.trans hg
 replace c9:=c9.gr hg
 replace V4_3:=V4_3.gr hg
 replace SR:=SR.gr hg
 clear hg
 go_upto_region 10 with fail
 refine wp_v false [.c (.agg (nw 9 X)),.c (.int .i64 (W:Int)),.c (.tuple #[.agg (nw 9 Z),.int .i64 0]),.c (.tuple #[.agg (nw 9 Z),.int .i64 0]),.c (.agg (nw 9 Z)),.c (.int .i64 0),.a,.u,.c (.int .i64 0)] [0,2] [⟨6,7,25,nw 9 0,fun _=>nw 9 Z⟩] ?hs5 ?hv5 ?hf5
 case hs5=>
  exact .cons (.g 25 0 V4_3 rfl)<|.cons (.k _ fun yy vv hg hh=>RtW.of_c (Rt.c (HL.out _))) .nil
 case hv5=>
  refine .cons (.mk (fun _ _ _=>rfl) (fun _ v b H F=>by dsimp only at H ⊢; simp [go_sem,exI,H,F]) zNat ⟨fkc,fkc,fkc,fkc,fkc,fkc,fka,fku,fkc,trivial⟩) .nil
 intro yw10 v5 hg h10 hV10
 simp only [FW,putFrom,Act.put,lqA,lqB,lqC,wvals,kW,lqD,lqE,Kw.c,Kw.a,Kw.u]
 obtain ⟨⟨N10_6,V10_6⟩, -⟩:(v4.heap.size≤(yw10 6 0).2∧Vr v5 (yw10 6 0).2 (nw 9 Z))∧True:=hV10
 clear h10
 replace G:=G.trans hg
 replace c9:=c9.gr hg
 replace V4_3:=V4_3.gr hg
 replace V9_6:=V9_6.gr hg
 replace SR:=SR.gr hg
 clear hg
 go_upto_region 11 with fail
 refine wp_v true [.c (.agg (nw 9 Z)),.c (.int .i64 (D:Int)),.c (.int .u64 (D:Int)),.c (.agg (nw 9 D)),.c (.tuple #[.agg (nw 9 Y),.bool false]),.c (.tuple #[.agg (nw 9 Y),.bool false]),.c (.agg (nw 9 Y)),.c (.bool false),.a,.u,.c (.bool false)] [0,2,3,4] [⟨8,9,25,nw 9 0,fun _=>nw 9 Y⟩] ?hs6 ?hv6 ?hf6
 case hs6=>
  exact .cons (.g 25 0 V10_6 rfl)<|.cons (.s (.convert 3 22 (.const (.int .i64 (D:Int)))) rfl fun vv hg=>by simp [go_sem,exI,x64])<|.cons (.k _ fun yy vv hg hh=>RtW.of_c (Rt.c (HO.out _)))<|.cons (.k _ fun yy vv hg hh=>RtW.of_c (Rt.c (HA.out _))) .nil
 case hv6=>
  refine .cons (.mk (fun _ _ _=>rfl) (fun _ v b H F=>by dsimp only at H ⊢; simp [go_sem,exI,H,F]) zNat ⟨fkc,fkc,fkc,fkc,fkc,fkc,fkc,fkc,fka,fku,fkc,trivial⟩) .nil
 intro yw11 v6 hg h11 hV11
 simp only [FW,putFrom,Act.put,lqA,lqB,lqC,wvals,kW,lqD,lqE,Kw.c,Kw.a,Kw.u]
 obtain ⟨⟨N11_8,V11_8⟩, -⟩:(v5.heap.size≤(yw11 8 0).2∧Vr v6 (yw11 8 0).2 (nw 9 Y))∧True:=hV11
 clear h11
 replace G:=G.trans hg
 replace c9:=c9.gr hg
 replace V4_3:=V4_3.gr hg
 replace V9_6:=V9_6.gr hg
 replace V10_6:=V10_6.gr hg
 replace SR:=SR.gr hg
 clear hg
 go_upto_region 12 with fail
 refine wp_v false [.c (.int .i64 (W:Int)),.c (.tuple #[.agg (nw 9 0),.int .i64 0]),.c (.tuple #[.agg (nw 9 0),.int .i64 0]),.c (.agg (nw 9 0)),.c (.int .i64 0),.a,.u,.c (.int .i64 0)] [1] [⟨5,6,25,nw 9 0,fun _=>nw 9 0⟩] ?hs7 ?hv7 ?hf7
 case hs7=>
  refine .cons (.k _ fun yy vv hg hh=>RtW.of_c (Rt.c (HV0.out _))) .nil
 case hv7=>
  refine .cons (.mk (fun _ _ _=>rfl) (fun _ v b H F=>by dsimp only at H ⊢; simp [go_sem,exI,H,F]) zNat ⟨fkc,fkc,fkc,fkc,fkc,fka,fku,fkc,trivial⟩) .nil
 intro yw12 v7 hg h12 hV12
 simp only [FW,putFrom,Act.put,lqA,lqB,lqC,wvals,kW,lqD,lqE,Kw.c,Kw.a,Kw.u]
 obtain ⟨⟨N12_5,V12_5⟩, -⟩:(v6.heap.size≤(yw12 5 0).2∧Vr v7 (yw12 5 0).2 (nw 9 0))∧True:=hV12
 clear h12
 replace G:=G.trans hg
 replace c9:=c9.gr hg
 replace V4_3:=V4_3.gr hg
 replace V9_6:=V9_6.gr hg
 replace V10_6:=V10_6.gr hg
 replace V11_8:=V11_8.gr hg
 replace SR:=SR.gr hg
 clear hg
 go_upto_region 13 with fail
 refine wp_wS [.c (.int .i64 0),.c (.int .i64 0),.c (.bool true),.c (.bool true),.c (.int .i64 0),.c (.int .i64 0),.c (.bool true),.c (.bool true),.c (.bool true),.c (.int .i64 0),.c (.int .i64 0),.c (.bool true),.c (.bool true),.c (.bool true),.c (.int .i64 0),.c (.int .i64 0),.c (.bool true),.c (.bool true),.c (.bool true),.c (.agg (nw 9 Y)),.c (.agg (nw 9 Y)),.c (.bool true),.c (.bool true),.c (.bool true),.c (.agg (nw 9 0)),.c (.agg (nw 9 0)),.c (.bool true),.c (.bool true),.c (.bool true)] [1,5,10,15,19,20,21,24,26] ?hs8 ?hf8
 case hs8=>
  exact .cons (.k _ fun yy vv hg hh=>RtW.of_c (Rt.same (num_any _ _)))<|.cons (.k _ fun yy vv hg hh=>RtW.of_c (Rt.same (num_any _ _)))<|.cons (.k _ fun yy vv hg hh=>RtW.of_c (Rt.same (num_any _ _)))<|.cons (.k _ fun yy vv hg hh=>RtW.of_c (Rt.same (num_any _ _)))<|.cons (.g 25 0 V9_6 rfl)<|.cons (.g 25 0 V11_8 rfl)<|.cons (.s (.binOp .eql 25 (.const (.agg (nw 9 Y))) (.const (.agg (nw 9 Y))) 25) rfl fun vv hg=>by simp [go_sem,exI,eqNat,eqN_self])<|.cons (.g 25 0 V12_5 rfl)<|.cons (.s (.binOp .eql 25 (.const (.agg (nw 9 0))) (.const (.agg (nw 9 0))) 25) rfl fun vv hg=>by simp [go_sem,exI,eqNat,eqN_self]) .nil
 intro yw13 v8 hg h13
 simp only [FW,putFrom,Act.put,lqA,lqB,lqC,wvals,kW,lqD,lqE,Kw.c]
 clear h13
 replace G:=G.trans hg
 replace c9:=c9.gr hg
 replace V4_3:=V4_3.gr hg
 replace V9_6:=V9_6.gr hg
 replace V10_6:=V10_6.gr hg
 replace V11_8:=V11_8.gr hg
 replace V12_5:=V12_5.gr hg
 replace SR:=SR.gr hg
 clear hg
 go_wp2_with fail
 go_ret
 exact ⟨rfl,G⟩
end
end
end Go.Proofs.Ytgpfabihgjhefaa