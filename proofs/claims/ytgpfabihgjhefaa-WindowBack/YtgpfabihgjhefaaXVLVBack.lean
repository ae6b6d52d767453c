import Derived.Test.YtgpfabihgjhefaaXVVW
import Derived.Test.YtgpfabihgjhefaaXVRFrom
namespace Go.Proofs.Ytgpfabihgjhefaa
open Go.RowKit
set_option maxRecDepth 100000
set_option maxHeartbeats 8000000
section
attribute [local go_sem ↓] uz1
attribute [local go_sem] uz2
section
attribute [local go_sem] uz3
attribute [local go_sem] ppre_1 ppre_2 ppre_3 ppre_4 ppre_5 ppre_6 frz_setBlk blk_setBlk setBlk_setBlk blk_other
theorem bl_pv (t n:Nat):bl t≤64*n↔t<pw n:=bl_le t (64*n)
theorem bl_M6 (t:Nat):bl t≤576↔t<M:=bl_pv t 9
end
section
attribute [local go_sem] uz3
attribute [local go_sem] uz5
theorem and_63' (x:Int):∃ a:Nat,a<64∧bits .and .i64 x 63=(a:Int):=by
 refine ⟨(BitVec.ofInt 64 x).toNat%64,Nat.mod_lt _ (by decide),?_⟩
 show IntKind.i64.wrap ((BitVec.ofInt 64 x &&& BitVec.ofInt 64 63).toNat:Int)=_
 rw [BitVec.toNat_and,show (BitVec.ofInt 64 63).toNat=2 ^ 6-1 from rfl,Nat.and_two_pow_sub_one_eq_mod,IntKind.wrap_i64]
 omega
theorem lvback_z {k:Nat} (hk:k<M) (x y:Int) {a:Nat} (hy:bits .and .i64 y 63=(a:Int)) (ha6:a<64) (hB:bl k=0) (ha:a=0) (w:World):Cg 4 #[.agg (nw 9 k),.int .i64 x,.int .i64 y] w (.bool true):=by
 obtain ⟨u,hu3u⟩:∃ u:Nat,x%18446744073709551616=(u:Int):=⟨(x%18446744073709551616).toNat,by omega⟩
 have huu:IntKind.u64.wrap x=(u:Int):=by rw [IntKind.wrap_u64]; exact hu3u
 obtain ⟨W,hkW⟩:=exl (1+u%6)
 have u0u:(0:Int)≤(u:Int):=by omega
 have hk2W:(1:Int)+(u:Int)%6=(W:Int):=by omega
 have hk3W:IntKind.i64.wrap ((u:Int)%6)=(u:Int)%6:=by rw [IntKind.wrap_i64]; omega
 have hk4W:IntKind.u64.wrap ((u:Int)%6)=(u:Int)%6:=by rw [IntKind.wrap_u64]; omega
 have hk5W:(u:Int).tmod 6=(u:Int)%6:=by rw [Int.tmod_eq_emod_of_nonneg (by omega)]
 have W0:1≤W:=by omega
 have W1:W≤6:=by omega
 have W2:(1:Int)≤(W:Int):=by omega
 have W3:(W:Int)≤6:=by omega
 clear hkW
 have hbl:bl k≤576:=(bl_M6 k).2 hk
 have hkm:k<2 ^ 1:=(bl_le k _).1 (by omega)
 have HF:Hid (∀ v,Calls Try.prog 10 #[.agg (nw 9 k)] v (Nm k v)):=fun v=>from_any k hk v
 obtain ⟨B,hB'⟩:∃ B,bl k=B:=⟨_,rfl⟩
 have HB:Hid (∀ v p q,Sl v p k→Calls Try.prog 20 #[.slice p (dl k) q] v fun e w'=>e=.returned (.int .i64 (B:Int))∧v=w'):=fun v p q s=>hB' ▸ (rbits_any k q p v s (by have:=(dl_le k 18).2 (by rw [pq_two 9]; exact hk); omega)).mono fun _ _ h=>⟨h.1,h.2.symm⟩
 rw [hB'] at hbl hB
 obtain ⟨n,hn⟩:=exl (mnN W 1)
 have hn1:n≤576:=hn ▸ mnN_le W0 (by omega)
 have hkn:k<2 ^ (W*n):=hn ▸ many_lt W0 hkm
 have hDD:=fun w=>wdig_any (k:=k) (b:=1) (W:=W) hk W0 W1 (by omega) (by omega) hkm w
 rw [hn] at hDD
 have HD:Hid (∀ w,Calls Try.prog 8 #[.agg (nw 9 k),.int .i64 1,.int .i64 (W:Int)] w fun e w'=>∃ g,e=.returned (.tuple #[.slice (some ⟨g,0,none⟩) n n,.int .i64 0])∧w.heap.size≤g∧Rx w' g n n (iF (dF W k n))∧Gr w w'):=hDD
 have HV:Hid (∀ v g,Rx v g n n (iF (dF W k n))→Cg 12 #[.slice (some ⟨g,0,none⟩) n n,.int .i64 (W:Int)] v (.tuple #[.agg (nw 9 k),.int .i64 0])):=fun v g h=>by
  have:=wval_ok W0 W1 (show n≤4611686018427387904 by omega) n h.iv (vok_dF hk hkn)
  rwa [hor_dF hkn] at this
 have HSh:Hid (IntKind.i64.wrap (2 ^ W)=((2 ^ W:Nat):Int)):=by
  have h3:2 ^ W≤64:=Nat.pow_le_pow_right (n:=2) (by decide) W1
  have e0:((2 ^ W:Nat):Int)=(2:Int) ^ W:=by simp
  show IntKind.i64.wrap (2 ^ W)=_
  rw [← e0,IntKind.wrap_i64]
  generalize 2 ^ W=T at h3
  omega
 have hq:(1+(W:Int)-1).tdiv (W:Int)=(n:Int):=by
  rw [show 1+(W:Int)-1=((1+W-1:Nat):Int) by omega,← hn]
  exact (Int.ofNat_tdiv _ _).symm
 have x83:IntKind.i64.wrap (1+(W:Int))=1+(W:Int):=by rw [IntKind.wrap_i64]; omega
 have x84:IntKind.i64.wrap (1+(W:Int)-1)=1+(W:Int)-1:=by rw [IntKind.wrap_i64]; omega
 have x86:IntKind.i64.wrap (n:Int)=(n:Int):=wiA
 have n1:(n:Int)≤576:=by omega
 have hW0:W≠0:=by omega
 have B0:(0:Int)≤(B:Int):=by omega
 have B1:(B:Int)≤576:=by omega
 have a0:(0:Int)≤(a:Int):=by omega
 have a1:(a:Int)<64:=by omega
 subst hB ha
 have HKM:Hid _:=hkm
 clear hn hn1 hkn hDD hkm hB' hk
 have HAW:Hid (∀ w,Cg 19 #[] w (.bool true)):=fun w=>awake17_any w
 go_enter Try.func4,Try.ntmps4
 go_upto_region 8 with (first
  | (go_at_call 19; refine (HAW.out _).mono ?_; rintro e WA ⟨rfl,gA,rfl⟩)
  | (go_at_call 10; refine (HF.out _).mono ?_; rintro e WB ⟨pf,nf,rfl,Sf,GB⟩)
  | (go_at_call 20; refine (HB.out _ _ _ Sf).mono ?_; rintro e WC ⟨rfl,rfl⟩))
 obtain ⟨e9,he9⟩:=exl (w.heap.size)
 simp only [he9]
 refine gen_w (fun v=>Gr w v∧Vr v e9 (nw 9 k)) ?_ ?_
 ·subst he9
  exact ⟨(((Gr.refl _).alloc _).trans ⟨gA,rfl⟩).trans GB,((Vr.new _ _ _).gr ⟨gA,rfl⟩).gr GB⟩
 clear he9 GB HAW huu u0u hk2W hk3W hk4W hk5W hu3u
 rintro v0 ⟨G,c9⟩
 refine wp_wS [.c (.agg (nw 9 k)),.c (.int .i64 1),.c (.int .i64 (W:Int)),.it (v0.heap.size) n (dF W k n),.it (v0.heap.size) n (dF W k n),.ix (v0.heap.size) n (dF W k n),.c (.int .i64 0),.ix (v0.heap.size) n (dF W k n),.c (.int .i64 0)] [0,3,4,5,6,7] ?hs1 ?hf1
 case hs1=>
  exact .cons (.g 25 0 c9 rfl)<|.cons (.k _ fun yy vv hg hh =>  (RtW.it hg (HD.out _)))<|.cons (.m 3)<|.cons (.m 4)<|.cons (.m 4)<|.cons (.m 5) .nil
 intro yw8 v1 hg h8
 simp only [FW,putFrom,Act.put,lqA,lqB,lqC,wvals,kW,lqD,lqE,Kw.c,Kw.it,Kw.ix]
 obtain ⟨N8_7,S8_7⟩:v0.heap.size≤(yw8 7 0).2∧Rx v1 (yw8 7 0).2 n n (iF (dF W k n)):=h8 7
 clear h8
 replace G:=G.trans hg
 replace c9:=c9.gr hg
 clear hg
 go_upto_region 9 with fail
 refine wp_v false [.c (.slice (some ⟨(yw8 7 0).2,0,none⟩) n n),.c (.int .i64 (W:Int)),.c (.tuple #[.agg (nw 9 k),.int .i64 0]),.c (.tuple #[.agg (nw 9 k),.int .i64 0]),.c (.agg (nw 9 k)),.c (.int .i64 0),.a,.u,.c (.int .i64 0)] [2] [⟨6,7,25,nw 9 0,fun _=>nw 9 k⟩] ?hs2 ?hv2 ?hf2
 case hs2=>
  refine .cons (.k (fun yy => #[.slice (some ⟨(yw8 7 0).2,0,none⟩) n n,.int .i64 (W:Int)]) fun yy vv hg hh=>RtW.of_c (Rt.c (HV.out _ _ (S8_7.gr hg)))) .nil
 case hv2=>
  refine .cons (.mk (fun _ _ _=>rfl) (fun _ v b H F=>by dsimp only at H ⊢; simp [go_sem,exI,H,F]) zNat ⟨fkc,fkc,fkc,fkc,fkc,fkc,fka,fku,fkc,trivial⟩) .nil
 intro yw9 v2 hg h9 hV9
 simp only [FW,putFrom,Act.put,lqA,lqB,lqC,wvals,kW,lqD,lqE,Kw.c,Kw.a,Kw.u]
 obtain ⟨⟨N9_6,V9_6⟩, -⟩:(v1.heap.size≤(yw9 6 0).2∧Vr v2 (yw9 6 0).2 (nw 9 k))∧True:=hV9
 clear h9
 replace G:=G.trans hg
 replace c9:=c9.gr hg
 replace S8_7:=S8_7.gr hg
 clear hg
 go_wp2_with fail
 go_loopw [14] (fun i wr=>∃ j:Nat,Hid (Unit→j≤n)∧i=.int .i64 (j:Int)∧Gr w wr∧Vr wr e9 (nw 9 k)∧Vr wr ((yw9 6 0).2) (nw 9 k)∧Rx wr ((yw8 7 0).2) n n (iF (dF W k n))) (fun i _=>(n-(intOf i).toNat))
 case atStart=>exact ⟨0,fun _=>by omega,rfl,G,c9,V9_6,S8_7⟩
 case round=>
  clear G c9 V9_6 S8_7
  obtain ⟨j,HJ,rfl,G,c9,V9_6,S8_7⟩:=hrel
  by_cases hlt:j<n
  ·skip
   have j0:(0:Int)≤(j:Int):=by omega
   have j1:(j:Int)<(n:Int):=by omega
   obtain ⟨D,hD⟩:=exl (dgw W k (n-1-j))
   have hsh:=HSh.out
   obtain ⟨T,hT⟩:=exl (2 ^ W)
   rw [hT] at hsh
   have h1:=dgw_lt W k (n-1-j)
   rw [hD,hT] at h1
   have dn:¬ (D:Int)<0:=by omega
   have db:¬ (T:Int)≤(D:Int):=by omega
   have dn2:(0:Int)≤(D:Int):=by omega
   have db2:(D:Int)<(T:Int):=by omega
   have c1:∀ v,Gr wr v→v.cell? ⟨(yw8 7 0).2,j,none⟩=some (.int .i64 (D:Int)):=fun v g=>by rw [(S8_7.gr g).cell j hlt,iF,dF,hD]
   have HJ1:Hid (Unit→j+1≤n):=fun _=>hlt
   clear hlt HJ hD hT
   go_upto_region 13 with fail
   refine wp_w [.c (.slice (some ⟨(yw8 7 0).2,0,none⟩) n n),.c (.int .i64 (j:Int)),.c (pv ((yw8 7 0).2) j),.c (.int .i64 (D:Int)),.c (.bool false),.c (.bool false),.c (.slice (some ⟨(yw8 7 0).2,0,none⟩) n n),.c (.int .i64 (j:Int)),.c (pv ((yw8 7 0).2) j),.c (.int .i64 (D:Int)),.c (.int .i64 (W:Int)),.c (.int .i64 (T:Int)),.c (.bool false),.c (.bool false)] [2,3,4,8,9,11,12] ?hs3 ?hf3
   case hs3=>
    exact .cons (.s (.indexAddr 26 (.const (.slice (some ⟨(yw8 7 0).2,0,none⟩) n n)) (.const (.int .i64 (j:Int)))) rfl fun vv hg=>by simp [go_sem,exI,j0,j1])<|.cons (.s (.load 3 (.const (.pointer (some ⟨(yw8 7 0).2,j,none⟩)))) rfl fun vv hg=>by simp [go_sem,exI,c1 _ hg])<|.cons (.s (.binOp .lss 3 (.const (.int .i64 (D:Int))) (.const (.int .i64 0)) 3) rfl fun vv hg=>by simp [go_sem,exI,dn])<|.cons (.s (.indexAddr 26 (.const (.slice (some ⟨(yw8 7 0).2,0,none⟩) n n)) (.const (.int .i64 (j:Int)))) rfl fun vv hg=>by simp [go_sem,exI,j0,j1])<|.cons (.s (.load 3 (.const (.pointer (some ⟨(yw8 7 0).2,j,none⟩)))) rfl fun vv hg=>by simp [go_sem,exI,c1 _ hg])<|.cons (.s (.binOp .shl 3 (.const (.int .i64 1)) (.const (.int .i64 (W:Int))) 3) rfl fun vv hg=>by simp [go_sem,exI,hsh])<|.cons (.s (.binOp .geq 3 (.const (.int .i64 (D:Int))) (.const (.int .i64 (T:Int))) 3) rfl fun vv hg=>by simp [go_sem,exI,h1]) .nil
   intro yw13 v3 hg h13
   simp only [FW,putFrom,Act.put,lqA,lqB,lqC,wvals,kW,lqD,lqE,Kw.c,pv]
   clear h13
   replace G:=G.trans hg
   replace c9:=c9.gr hg
   replace V9_6:=V9_6.gr hg
   replace S8_7:=S8_7.gr hg
   clear hg
   go_wp2_with fail
   go_roundw
   case rel=>exact ⟨j+1,HJ1,by go_num,G,c9,V9_6,S8_7⟩
   case measure=>simp [intOf]; omega
  ·have hni:¬ (j:Int)<(n:Int):=by omega
   clear hlt HJ
   go_upto_region 15 with fail
   refine wp_wS [.c (.int .i64 0),.c (.int .i64 0),.c (.bool true),.c (.bool true),.c (.int .i64 0),.c (.int .i64 0),.c (.bool true),.c (.bool true),.c (.bool true),.c (.agg (nw 9 k)),.c (.agg (nw 9 k)),.c (.bool true),.c (.bool true),.c (.bool true),.c (.slice (some ⟨(yw8 7 0).2,0,none⟩) n n),.c (.int .i64 (n:Nat)),.c (.int .i64 1),.c (.int .i64 (W:Int)),.c (.int .i64 (1+W:Int)),.c (.int .i64 (1+W-1:Int)),.c (.int .i64 (W:Int)),.c (.int .i64 (n:Int)),.c (.bool true),.c (.bool true),.c (.bool true)] [1,5,9,10,11,18,19,21,22] ?hs4 ?hf4
   case hs4=>
    exact .cons (.k _ fun yy vv hg hh=>RtW.of_c (Rt.same (num_any _ _)))<|.cons (.k _ fun yy vv hg hh=>RtW.of_c (Rt.same (num_any _ _)))<|.cons (.g 25 0 V9_6 rfl)<|.cons (.g 25 0 c9 rfl)<|.cons (.s (.binOp .eql 25 (.const (.agg (nw 9 k))) (.const (.agg (nw 9 k))) 25) rfl fun vv hg=>by simp [go_sem,exI,eqNat,eqN_self])<|.cons (.s (.binOp .add 3 (.const (.int .i64 1)) (.const (.int .i64 (W:Int))) 3) rfl fun vv hg=>by simp [go_sem,exI,x83])<|.cons (.s (.binOp .sub 3 (.const (.int .i64 (1+W:Int))) (.const (.int .i64 1)) 3) rfl fun vv hg=>by simp [go_sem,exI,x84])<|.cons (.s (.binOp .quo 3 (.const (.int .i64 (1+W-1:Int))) (.const (.int .i64 (W:Int))) 3) rfl fun vv hg=>by simp [go_sem,exI,hq,x86,hW0])<|.cons (.s (.binOp .eql 3 (.const (.int .i64 (n:Nat))) (.const (.int .i64 (n:Int))) 3) rfl fun vv hg=>by simp [go_sem,exI]) .nil
   intro yw15 v4 hg h15
   simp only [FW,putFrom,Act.put,lqA,lqB,lqC,wvals,kW,lqD,lqE,Kw.c]
   clear h15
   replace G:=G.trans hg
   replace c9:=c9.gr hg
   replace V9_6:=V9_6.gr hg
   replace S8_7:=S8_7.gr hg
   clear hg
   go_wp2_with fail
   go_ret
   exact ⟨rfl,G⟩
theorem lvback_n {k:Nat} (hk:k<M) (x y:Int) {a m:Nat} (hy:bits .and .i64 y 63=(a:Int)) (ha6:a<64) (hm:min 576 (bl k+a)=m) (hm0:m≠0) (w:World):Cg 4 #[.agg (nw 9 k),.int .i64 x,.int .i64 y] w (.bool true):=by
 obtain ⟨u,hu3u⟩:∃ u:Nat,x%18446744073709551616=(u:Int):=⟨(x%18446744073709551616).toNat,by omega⟩
 have huu:IntKind.u64.wrap x=(u:Int):=by rw [IntKind.wrap_u64]; exact hu3u
 obtain ⟨W,hkW⟩:=exl (1+u%6)
 have u0u:(0:Int)≤(u:Int):=by omega
 have hk2W:(1:Int)+(u:Int)%6=(W:Int):=by omega
 have hk3W:IntKind.i64.wrap ((u:Int)%6)=(u:Int)%6:=by rw [IntKind.wrap_i64]; omega
 have hk4W:IntKind.u64.wrap ((u:Int)%6)=(u:Int)%6:=by rw [IntKind.wrap_u64]; omega
 have hk5W:(u:Int).tmod 6=(u:Int)%6:=by rw [Int.tmod_eq_emod_of_nonneg (by omega)]
 have W0:1≤W:=by omega
 have W1:W≤6:=by omega
 have W2:(1:Int)≤(W:Int):=by omega
 have W3:(W:Int)≤6:=by omega
 clear hkW
 have hbl:bl k≤576:=(bl_M6 k).2 hk
 have hkm:k<2 ^ m:=(bl_le k _).1 (by omega)
 have HF:Hid (∀ v,Calls Try.prog 10 #[.agg (nw 9 k)] v (Nm k v)):=fun v=>from_any k hk v
 obtain ⟨B,hB'⟩:∃ B,bl k=B:=⟨_,rfl⟩
 have HB:Hid (∀ v p q,Sl v p k→Calls Try.prog 20 #[.slice p (dl k) q] v fun e w'=>e=.returned (.int .i64 (B:Int))∧v=w'):=fun v p q s=>hB' ▸ (rbits_any k q p v s (by have:=(dl_le k 18).2 (by rw [pq_two 9]; exact hk); omega)).mono fun _ _ h=>⟨h.1,h.2.symm⟩
 rw [hB'] at hbl hm
 obtain ⟨n,hn⟩:=exl (mnN W m)
 have hn1:n≤576:=hn ▸ mnN_le W0 (by omega)
 have hkn:k<2 ^ (W*n):=hn ▸ many_lt W0 hkm
 have hDD:=fun w=>wdig_any (k:=k) (b:=m) (W:=W) hk W0 W1 (by omega) (by omega) hkm w
 rw [hn] at hDD
 have HD:Hid (∀ w,Calls Try.prog 8 #[.agg (nw 9 k),.int .i64 (m:Int),.int .i64 (W:Int)] w fun e w'=>∃ g,e=.returned (.tuple #[.slice (some ⟨g,0,none⟩) n n,.int .i64 0])∧w.heap.size≤g∧Rx w' g n n (iF (dF W k n))∧Gr w w'):=hDD
 have HV:Hid (∀ v g,Rx v g n n (iF (dF W k n))→Cg 12 #[.slice (some ⟨g,0,none⟩) n n,.int .i64 (W:Int)] v (.tuple #[.agg (nw 9 k),.int .i64 0])):=fun v g h=>by
  have:=wval_ok W0 W1 (show n≤4611686018427387904 by omega) n h.iv (vok_dF hk hkn)
  rwa [hor_dF hkn] at this
 have HSh:Hid (IntKind.i64.wrap (2 ^ W)=((2 ^ W:Nat):Int)):=by
  have h3:2 ^ W≤64:=Nat.pow_le_pow_right (n:=2) (by decide) W1
  have e0:((2 ^ W:Nat):Int)=(2:Int) ^ W:=by simp
  show IntKind.i64.wrap (2 ^ W)=_
  rw [← e0,IntKind.wrap_i64]
  generalize 2 ^ W=T at h3
  omega
 have hq:((m:Int)+(W:Int)-1).tdiv (W:Int)=(n:Int):=by
  rw [show (m:Int)+(W:Int)-1=((m+W-1:Nat):Int) by omega,← hn]
  exact (Int.ofNat_tdiv _ _).symm
 have x83:IntKind.i64.wrap ((m:Int)+(W:Int))=(m:Int)+(W:Int):=by rw [IntKind.wrap_i64]; omega
 have x84:IntKind.i64.wrap ((m:Int)+(W:Int)-1)=(m:Int)+(W:Int)-1:=by rw [IntKind.wrap_i64]; omega
 have x86:IntKind.i64.wrap (n:Int)=(n:Int):=wiA
 have n1:(n:Int)≤576:=by omega
 have hW0:W≠0:=by omega
 have B0:(0:Int)≤(B:Int):=by omega
 have B1:(B:Int)≤576:=by omega
 have a0:(0:Int)≤(a:Int):=by omega
 have a1:(a:Int)<64:=by omega
 have hmi:min 576 ((B:Int)+(a:Int))=(m:Int):=by omega
 have mz:((m:Int) == 0)=false:=by rw [beq_eq_false_iff_ne]; omega
 have HKM:Hid _:=hkm
 clear hn hn1 hkn hDD hkm hB' hk hm hm0
 have HAW:Hid (∀ w,Cg 19 #[] w (.bool true)):=fun w=>awake17_any w
 go_enter Try.func4,Try.ntmps4
 go_upto_region 8 with (first
  | (go_at_call 19; refine (HAW.out _).mono ?_; rintro e WA ⟨rfl,gA,rfl⟩)
  | (go_at_call 10; refine (HF.out _).mono ?_; rintro e WB ⟨pf,nf,rfl,Sf,GB⟩)
  | (go_at_call 20; refine (HB.out _ _ _ Sf).mono ?_; rintro e WC ⟨rfl,rfl⟩))
 obtain ⟨e9,he9⟩:=exl (w.heap.size)
 simp only [he9]
 refine gen_w (fun v=>Gr w v∧Vr v e9 (nw 9 k)) ?_ ?_
 ·subst he9
  exact ⟨(((Gr.refl _).alloc _).trans ⟨gA,rfl⟩).trans GB,((Vr.new _ _ _).gr ⟨gA,rfl⟩).gr GB⟩
 clear he9 GB HAW huu u0u hk2W hk3W hk4W hk5W hu3u
 rintro v0 ⟨G,c9⟩
 refine wp_wS [.c (.agg (nw 9 k)),.c (.int .i64 (m:Int)),.c (.int .i64 (W:Int)),.it (v0.heap.size) n (dF W k n),.it (v0.heap.size) n (dF W k n),.ix (v0.heap.size) n (dF W k n),.c (.int .i64 0),.ix (v0.heap.size) n (dF W k n),.c (.int .i64 0)] [0,3,4,5,6,7] ?hs5 ?hf5
 case hs5=>
  exact .cons (.g 25 0 c9 rfl)<|.cons (.k _ fun yy vv hg hh =>  (RtW.it hg (HD.out _)))<|.cons (.m 3)<|.cons (.m 4)<|.cons (.m 4)<|.cons (.m 5) .nil
 intro yw8 v1 hg h8
 simp only [FW,putFrom,Act.put,lqA,lqB,lqC,wvals,kW,lqD,lqE,Kw.c,Kw.it,Kw.ix]
 obtain ⟨N8_7,S8_7⟩:v0.heap.size≤(yw8 7 0).2∧Rx v1 (yw8 7 0).2 n n (iF (dF W k n)):=h8 7
 clear h8
 replace G:=G.trans hg
 replace c9:=c9.gr hg
 clear hg
 go_upto_region 9 with fail
 refine wp_v false [.c (.slice (some ⟨(yw8 7 0).2,0,none⟩) n n),.c (.int .i64 (W:Int)),.c (.tuple #[.agg (nw 9 k),.int .i64 0]),.c (.tuple #[.agg (nw 9 k),.int .i64 0]),.c (.agg (nw 9 k)),.c (.int .i64 0),.a,.u,.c (.int .i64 0)] [2] [⟨6,7,25,nw 9 0,fun _=>nw 9 k⟩] ?hs6 ?hv6 ?hf6
 case hs6=>
  refine .cons (.k (fun yy => #[.slice (some ⟨(yw8 7 0).2,0,none⟩) n n,.int .i64 (W:Int)]) fun yy vv hg hh=>RtW.of_c (Rt.c (HV.out _ _ (S8_7.gr hg)))) .nil
 case hv6=>
  refine .cons (.mk (fun _ _ _=>rfl) (fun _ v b H F=>by dsimp only at H ⊢; simp [go_sem,exI,H,F]) zNat ⟨fkc,fkc,fkc,fkc,fkc,fkc,fka,fku,fkc,trivial⟩) .nil
 intro yw9 v2 hg h9 hV9
 simp only [FW,putFrom,Act.put,lqA,lqB,lqC,wvals,kW,lqD,lqE,Kw.c,Kw.a,Kw.u]
 obtain ⟨⟨N9_6,V9_6⟩, -⟩:(v1.heap.size≤(yw9 6 0).2∧Vr v2 (yw9 6 0).2 (nw 9 k))∧True:=hV9
 clear h9
 replace G:=G.trans hg
 replace c9:=c9.gr hg
 replace S8_7:=S8_7.gr hg
 clear hg
 go_wp2_with fail
 go_loopw [14] (fun i wr=>∃ j:Nat,Hid (Unit→j≤n)∧i=.int .i64 (j:Int)∧Gr w wr∧Vr wr e9 (nw 9 k)∧Vr wr ((yw9 6 0).2) (nw 9 k)∧Rx wr ((yw8 7 0).2) n n (iF (dF W k n))) (fun i _=>(n-(intOf i).toNat))
 case atStart=>exact ⟨0,fun _=>by omega,rfl,G,c9,V9_6,S8_7⟩
 case round=>
  clear G c9 V9_6 S8_7
  obtain ⟨j,HJ,rfl,G,c9,V9_6,S8_7⟩:=hrel
  by_cases hlt:j<n
  ·skip
   have j0:(0:Int)≤(j:Int):=by omega
   have j1:(j:Int)<(n:Int):=by omega
   obtain ⟨D,hD⟩:=exl (dgw W k (n-1-j))
   have hsh:=HSh.out
   obtain ⟨T,hT⟩:=exl (2 ^ W)
   rw [hT] at hsh
   have h1:=dgw_lt W k (n-1-j)
   rw [hD,hT] at h1
   have dn:¬ (D:Int)<0:=by omega
   have db:¬ (T:Int)≤(D:Int):=by omega
   have dn2:(0:Int)≤(D:Int):=by omega
   have db2:(D:Int)<(T:Int):=by omega
   have c1:∀ v,Gr wr v→v.cell? ⟨(yw8 7 0).2,j,none⟩=some (.int .i64 (D:Int)):=fun v g=>by rw [(S8_7.gr g).cell j hlt,iF,dF,hD]
   have HJ1:Hid (Unit→j+1≤n):=fun _=>hlt
   clear hlt HJ hD hT
   go_upto_region 13 with fail
   refine wp_w [.c (.slice (some ⟨(yw8 7 0).2,0,none⟩) n n),.c (.int .i64 (j:Int)),.c (pv ((yw8 7 0).2) j),.c (.int .i64 (D:Int)),.c (.bool false),.c (.bool false),.c (.slice (some ⟨(yw8 7 0).2,0,none⟩) n n),.c (.int .i64 (j:Int)),.c (pv ((yw8 7 0).2) j),.c (.int .i64 (D:Int)),.c (.int .i64 (W:Int)),.c (.int .i64 (T:Int)),.c (.bool false),.c (.bool false)] [2,3,4,8,9,11,12] ?hs7 ?hf7
   case hs7=>
    exact .cons (.s (.indexAddr 26 (.const (.slice (some ⟨(yw8 7 0).2,0,none⟩) n n)) (.const (.int .i64 (j:Int)))) rfl fun vv hg=>by simp [go_sem,exI,j0,j1])<|.cons (.s (.load 3 (.const (.pointer (some ⟨(yw8 7 0).2,j,none⟩)))) rfl fun vv hg=>by simp [go_sem,exI,c1 _ hg])<|.cons (.s (.binOp .lss 3 (.const (.int .i64 (D:Int))) (.const (.int .i64 0)) 3) rfl fun vv hg=>by simp [go_sem,exI,dn])<|.cons (.s (.indexAddr 26 (.const (.slice (some ⟨(yw8 7 0).2,0,none⟩) n n)) (.const (.int .i64 (j:Int)))) rfl fun vv hg=>by simp [go_sem,exI,j0,j1])<|.cons (.s (.load 3 (.const (.pointer (some ⟨(yw8 7 0).2,j,none⟩)))) rfl fun vv hg=>by simp [go_sem,exI,c1 _ hg])<|.cons (.s (.binOp .shl 3 (.const (.int .i64 1)) (.const (.int .i64 (W:Int))) 3) rfl fun vv hg=>by simp [go_sem,exI,hsh])<|.cons (.s (.binOp .geq 3 (.const (.int .i64 (D:Int))) (.const (.int .i64 (T:Int))) 3) rfl fun vv hg=>by simp [go_sem,exI,h1]) .nil
   intro yw13 v3 hg h13
   simp only [FW,putFrom,Act.put,lqA,lqB,lqC,wvals,kW,lqD,lqE,Kw.c,pv]
   clear h13
   replace G:=G.trans hg
   replace c9:=c9.gr hg
   replace V9_6:=V9_6.gr hg
   replace S8_7:=S8_7.gr hg
   clear hg
   go_wp2_with fail
   go_roundw
   case rel=>exact ⟨j+1,HJ1,by go_num,G,c9,V9_6,S8_7⟩
   case measure=>simp [intOf]; omega
  ·have hni:¬ (j:Int)<(n:Int):=by omega
   clear hlt HJ
   go_upto_region 15 with fail
   refine wp_wS [.c (.int .i64 0),.c (.int .i64 0),.c (.bool true),.c (.bool true),.c (.int .i64 0),.c (.int .i64 0),.c (.bool true),.c (.bool true),.c (.bool true),.c (.agg (nw 9 k)),.c (.agg (nw 9 k)),.c (.bool true),.c (.bool true),.c (.bool true),.c (.slice (some ⟨(yw8 7 0).2,0,none⟩) n n),.c (.int .i64 (n:Nat)),.c (.int .i64 (m:Int)),.c (.int .i64 (W:Int)),.c (.int .i64 ((m:Int)+W:Int)),.c (.int .i64 ((m:Int)+W-1:Int)),.c (.int .i64 (W:Int)),.c (.int .i64 (n:Int)),.c (.bool true),.c (.bool true),.c (.bool true)] [1,5,9,10,11,18,19,21,22] ?hs8 ?hf8
   case hs8=>
    exact .cons (.k _ fun yy vv hg hh=>RtW.of_c (Rt.same (num_any _ _)))<|.cons (.k _ fun yy vv hg hh=>RtW.of_c (Rt.same (num_any _ _)))<|.cons (.g 25 0 V9_6 rfl)<|.cons (.g 25 0 c9 rfl)<|.cons (.s (.binOp .eql 25 (.const (.agg (nw 9 k))) (.const (.agg (nw 9 k))) 25) rfl fun vv hg=>by simp [go_sem,exI,eqNat,eqN_self])<|.cons (.s (.binOp .add 3 (.const (.int .i64 (m:Int))) (.const (.int .i64 (W:Int))) 3) rfl fun vv hg=>by simp [go_sem,exI,x83])<|.cons (.s (.binOp .sub 3 (.const (.int .i64 ((m:Int)+W:Int))) (.const (.int .i64 1)) 3) rfl fun vv hg=>by simp [go_sem,exI,x84])<|.cons (.s (.binOp .quo 3 (.const (.int .i64 ((m:Int)+W-1:Int))) (.const (.int .i64 (W:Int))) 3) rfl fun vv hg=>by simp [go_sem,exI,hq,x86,hW0])<|.cons (.s (.binOp .eql 3 (.const (.int .i64 (n:Nat))) (.const (.int .i64 (n:Int))) 3) rfl fun vv hg=>by simp [go_sem,exI]) .nil
   intro yw15 v4 hg h15
   simp only [FW,putFrom,Act.put,lqA,lqB,lqC,wvals,kW,lqD,lqE,Kw.c]
   clear h15
   replace G:=G.trans hg
   replace c9:=c9.gr hg
   replace V9_6:=V9_6.gr hg
   replace S8_7:=S8_7.gr hg
   clear hg
   go_wp2_with fail
   go_ret
   exact ⟨rfl,G⟩
theorem lvback_any (k:Nat) (hk:k<M) (x y:Int) (w:World):Cg 4 #[.agg (nw 9 k),.int .i64 x,.int .i64 y] w (.bool true):=by
 obtain ⟨a,ha,hy⟩:=and_63' y
 by_cases h:bl k+a=0
 ·exact lvback_z hk x y hy ha (by omega) (by omega) w
 ·exact lvback_n hk x y hy ha rfl (by omega) w
end
end
end Go.Proofs.Ytgpfabihgjhefaa