import Derived.Test.YtikilbpfhijocaaGreatXTUA
import Derived.Test.YtikilbpfhijocaaGreatXTMS
import Derived.Test.YtikilbpfhijocaaGreatXTCC
import Derived.Test.YtikilbpfhijocaaGreatXTAQ
import Derived.Test.YtikilbpfhijocaaGreatXTAU
import Derived.Test.YtikilbpfhijocaaGreatXTTE
namespace Go.Proofs.YtikilbpfhijocaaGreat
open Go.RowKit
set_option maxRecDepth 100000
set_option maxHeartbeats 8000000
section
attribute [local go_sem ↓] loadNat_is loadArr_is loadWide_is loadArrW_is storeNat_is storeWide_is
attribute [local go_sem] loadNat loadArr loadWide loadArrW storeNat storeWide idxArr fold9 fold18 nw_size nw_elem pre_self pre_1 pre_2 pre_3 pre_4 pre_5 pre_6 pre_7 pre_8 pre_9 pre_10 pre_11 pre_12 pre_13 pre_14 pre_15 pre_16 pre_17 pre_18 pre_19 pre_20 pre_21 pre_22 pre_23 pre_24 pre_25 pre_26 pre_27 pre_28 pre_29 pre_30 pre_31 pre_32 pre_33 pre_34 pre_35 pre_36 pre_37 pre_38 pre_39 pre_40 gro_size gro_drew gro_drewN drew_gro drewN_gro gro_gro blk_gro frz_gro blk_drew frz_drew blk_drewN frz_drewN blk_alloc_at frz_alloc_at blk_alloc frz_alloc cell_gro frozen_gro cell_alloc_pre frozen_alloc_pre setCell_drewN alloc_drewN setBlk_drew setBlk_drewN setBlk_alloc_at setBlk_alloc setBlk_gro setCell_gro setCell_alloc_pre size_setBlk size_setCell
section
attribute [local go_sem] ppre_1 ppre_2 ppre_3 ppre_4 ppre_5 ppre_6
attribute [local go_sem ↓] loadPn_is storePn_is zvPn_is buildPn_is loadEn_is storeEn_is zvEn_is buildEn_is Go.wp_at_zero Go.wp_at_succ
attribute [local go_sem] loadPn storePn zvPn loadPX loadPY buildPn0 buildPn3 buildPnI pnt_size pnt_X pnt_Y pnt_18 loadEn storeEn zvEn buildEn2 buildEn3 ent_size ent_X ent_Y ent_18 ent_set18 frz_setBlk blk_setBlk setBlk_setBlk blk_other
theorem sel_msk (p:Bool) {a b:Nat} (ha:a<18446744073709551616) (hb:b<18446744073709551616):sel (msk p) a b=cond p a b:=by
 cases p
 ·show b ^^^ (0 &&& (a ^^^ b))=b
  rw [Nat.zero_and,Nat.xor_zero]
 ·show b ^^^ (18446744073709551615 &&& (a ^^^ b))=a
  have h:(a ^^^ b) &&& (2 ^ 64-1)=a ^^^ b:=Nat.and_two_pow_sub_one_of_lt_two_pow (Nat.xor_lt_two_pow (n:=64) (by omega) (by omega))
  rw [Nat.and_comm,show (18446744073709551615:Nat)=2 ^ 64-1 from rfl,h,Nat.xor_comm a b,← Nat.xor_assoc,Nat.xor_self,Nat.zero_xor]
theorem selN_msk (p:Bool) {a b:Nat} (ha:a<M) (hb:b<M):selN (msk p) a b=cond p a b:=by
 unfold selN
 rw [ofw_congr (g:=fun i=>wd (cond p a b) i) (fun i=>by rw [sel_msk p (wd_lt a i) (wd_lt b i)]; cases p <;> rfl)]
 exact ofw_of _ _ (by cases p <;> assumption) fun _=>rfl
theorem entryOf_any (x y:Nat) (f:Bool) (w:World):Cg 53 #[.agg (pnt x y f)] w (.agg (ent x y (bw f))):=by
 cases f
 all_goals
  go_enter Tryz.func53,Tryz.ntmps53
  go_wp2_with fail
  refine bodyPost_ret (res_one Tryz.results53 (rd_en (by rfl) ?_)) rfl ⟨rfl,grA⟩
  simp [go_sem,bw]
theorem point_any (x y:Nat) (f:Bool) (w:World):Cg 58 #[.agg (ent x y (bw f))] w (.agg (pnt x y f)):=by
 have hd:(((bw f:Nat):Int) != 0)=f:=by cases f <;> rfl
 go_enter Tryz.func58,Tryz.ntmps58
 go_upto_region 1 with fail
 refine gen_w (fun v=>Gr w v∧Vr v (w.heap.size) (ent x y (bw f))∧Vr v (w.heap.size+1) (pnt 0 0 false)) ⟨grA,vrA,vrA⟩ ?_
 rintro v0 ⟨G,c0,c1⟩
 refine wp_wTS 8 [.c (pv (w.heap.size) 0),.c (.agg (nw 9 x)),.c (pv (w.heap.size) 9),.c (.agg (nw 9 y)),.c (pv (w.heap.size) 18),.c (.int .u64 ((bw f):Nat)),.c (.bool f),.c (.agg (pnt x y f))] [1,3,5,6] ?hs2 ?hf2
 case hs2=>
  exact .cons (.g 25 0 c0 rfl)<|.cons (.g 25 9 c0 rfl)<|.cons (.o 22 18 c0 rfl (by exact ent_18 _ _ _))<|.cons (.s (.binOp .neq 22 (.const (.int .u64 ((bw f):Nat))) (.const (.int .u64 0)) 22) rfl fun vv hg=>by simp [go_sem,exI,hd]) .nil
 refine .s 27 (fun yy=>.pointer (some ⟨w.heap.size+1,0,none⟩)) (fun yy=>.agg (pnt x y f)) fun yw1 v1 hg h1=>?_
 have HT:=(c1.gr hg).h
 have FT:=(c1.gr hg).f
 refine ⟨setBlk v1 (w.heap.size+1) (pnt x y f),by simp [go_sem,exI,HT,FT],?_⟩
 simp only [FW,putFrom,Act.put,lqA,lqB,lqC,wvals,kW,lqD,lqE,Kw.c,pv]
 clear h1
 replace G:=G.trans hg
 replace c0:=c0.gr hg
 replace c1:=c1.gr hg
 clear hg
 go_wp2_with fail
 exact bodyPost_ret (res_one Tryz.results58 (rd_pn (by rfl) (blk_setBlk _ _ _ (by rw [HT]; decide +kernel)))) rfl ⟨rfl,gr_setNew G (by omega)⟩
theorem over_any (p:Bool) (x y:Nat) (f:Bool) (x' y':Nat) (f':Bool) (hx:x<M) (hy:y<M) (hx':x'<M) (hy':y'<M) (w:World):
 Cg 57 #[.agg (ent x y (bw f)),.agg (ent x' y' (bw f')),.int .u64 (msk p:Nat)] w (.agg (ent (cond p x x') (cond p y y') (cond p (bw f) (bw f')))):=by
 have HX:Hid (∀ w,Cg 71 #[.int .u64 (msk p:Nat),.agg (nw 9 x),.agg (nw 9 x')] w (.agg (nw 9 (cond p x x')))):=fun w=>selN_msk p hx hx' ▸ select_any (msk p) x x' (msk_lt p) w
 have HY:Hid (∀ w,Cg 71 #[.int .u64 (msk p:Nat),.agg (nw 9 y),.agg (nw 9 y')] w (.agg (nw 9 (cond p y y')))):=fun w=>selN_msk p hy hy' ▸ select_any (msk p) y y' (msk_lt p) w
 clear hx hy hx' hy'
 have a1:bits .and .u64 (msk p:Nat) (bw f:Nat)=(cond p (bw f) 0:Nat):=by cases p <;> cases f <;> rfl
 have a2:bits .xor .u64 (if IntKind.u64.signed=true then -1 else IntKind.u64.max) (msk p:Nat)=(msk (!p):Nat):=by cases p <;> rfl
 have a3:bits .and .u64 (msk (!p):Nat) (bw f':Nat)=(cond p 0 (bw f'):Nat):=by cases p <;> cases f' <;> rfl
 have a4:bits .or .u64 (cond p (bw f) 0:Nat) (cond p 0 (bw f'):Nat)=(cond p (bw f) (bw f'):Nat):=by cases p <;> cases f <;> cases f' <;> rfl
 go_enter Tryz.func57,Tryz.ntmps57
 go_upto_region 1 with fail
 refine gen_w (fun v=>Gr w v∧Vr v (w.heap.size) (ent x y (bw f))∧Vr v (w.heap.size+1) (ent x' y' (bw f'))∧Vr v (w.heap.size+1+1) (ent 0 0 0)) ⟨grA,vrA,vrA,vrA⟩ ?_
 rintro v0 ⟨G,c0,c1,c2⟩
 refine wp_wT 23 [.c (.int .u64 (msk p:Nat)),.c (pv (w.heap.size) 0),.c (.agg (nw 9 x)),.c (pv (w.heap.size+1) 0),.c (.agg (nw 9 x')),.c (.agg (nw 9 (cond p x x'))),.c (.int .u64 (msk p:Nat)),.c (pv (w.heap.size) 9),.c (.agg (nw 9 y)),.c (pv (w.heap.size+1) 9),.c (.agg (nw 9 y')),.c (.agg (nw 9 (cond p y y'))),.c (.int .u64 (msk p:Nat)),.c (pv (w.heap.size) 18),.c (.int .u64 ((bw f):Nat)),.c (.int .u64 (cond p (bw f) 0:Nat)),.c (.int .u64 (msk p:Nat)),.c (.int .u64 (msk (!p):Nat)),.c (pv (w.heap.size+1) 18),.c (.int .u64 ((bw f'):Nat)),.c (.int .u64 (cond p 0 (bw f'):Nat)),.c (.int .u64 (cond p (bw f) (bw f'):Nat)),.c (.agg (ent (cond p x x') (cond p y y') (cond p (bw f) (bw f'))))] [2,4,5,8,10,11,14,15,17,19,20,21] ?hs1 ?hf1
 case hs1=>
  exact .cons (.g 25 0 c0 rfl)<|.cons (.g 25 0 c1 rfl)<|.cons (.k _ fun yy vv hg hh=>RtW.of_c (Rt.c (HX.out _)))<|.cons (.g 25 9 c0 rfl)<|.cons (.g 25 9 c1 rfl)<|.cons (.k _ fun yy vv hg hh=>RtW.of_c (Rt.c (HY.out _)))<|.cons (.o 22 18 c0 rfl (by exact ent_18 _ _ _))<|.cons (.s (.binOp .and 22 (.const (.int .u64 (msk p:Nat))) (.const (.int .u64 ((bw f):Nat))) 22) rfl fun vv hg=>by simp [go_sem,exI,a1])<|.cons (.s (.unOp .xor 22 (.const (.int .u64 (msk p:Nat)))) rfl fun vv hg=>by simp [go_sem,exI,a2])<|.cons (.o 22 18 c1 rfl (by exact ent_18 _ _ _))<|.cons (.s (.binOp .and 22 (.const (.int .u64 (msk (!p):Nat))) (.const (.int .u64 ((bw f'):Nat))) 22) rfl fun vv hg=>by simp [go_sem,exI,a3])<|.cons (.s (.binOp .or 22 (.const (.int .u64 (cond p (bw f) 0:Nat))) (.const (.int .u64 (cond p 0 (bw f'):Nat))) 22) rfl fun vv hg=>by simp [go_sem,exI,a4]) .nil
 refine .s 106 (fun yy=>.pointer (some ⟨w.heap.size+1+1,0,none⟩)) (fun yy=>.agg (ent (cond p x x') (cond p y y') (cond p (bw f) (bw f')))) fun yw1 v1 hg h1=>?_
 have HT:=(c2.gr hg).h
 have FT:=(c2.gr hg).f
 refine ⟨setBlk v1 (w.heap.size+1+1) (ent (cond p x x') (cond p y y') (cond p (bw f) (bw f'))),by simp [go_sem,exI,HT,FT],?_⟩
 simp only [FW,putFrom,Act.put,lqA,lqB,lqC,wvals,kW,lqD,lqE,Kw.c,pv]
 clear h1
 replace G:=G.trans hg
 replace c0:=c0.gr hg
 replace c1:=c1.gr hg
 replace c2:=c2.gr hg
 clear hg
 go_wp2_with fail
 exact bodyPost_ret (res_one Tryz.results57 (rd_en (by rfl) (blk_setBlk _ _ _ (by rw [HT]; decide +kernel)))) rfl ⟨rfl,gr_setNew G (by omega)⟩
theorem only_any (i:Int) (w:World):Calls Tryz.prog 38 #[.int .i64 i] w fun e w'=>e=.returned (.func (.func 61) #[] #[.pointer (some ⟨w.heap.size,0,none⟩)])∧w.alloc (.cells #[.int .i64 i] 3)=w':=by
 have hmf:∀ (fn:Fn) (first cap:Array Value) (w:World),(Instr.makeFunc fn first cap).run Tryz.prog w=.ok (.func fn first cap) w:=fun _ _ _ _=>rfl
 go_enter Tryz.func38,Tryz.ntmps38
 go_wp2_with fail
 go_ret
 exact ⟨rfl,rfl⟩
theorem wanted_any (j i:Nat) (hj:j<9223372036854775808) (hi:i<9223372036854775808) (b:Nat) (w:World) (hv:Vr w b #[.int .i64 (i:Int)]):Cg 61 #[.int .i64 (j:Int),.pointer (some ⟨b,0,none⟩)] w (.int .u64 (msk (decide (j=i)):Nat)):=by
 have HE:Hid (∀ w,Calls Tryz.prog 62 #[.int .u64 (j:Int),.int .u64 (i:Int)] w fun e w'=>e=.returned (.int .u64 (msk (decide (j=i)):Nat))∧w'=w):=fun w=>equal_any j i (by omega) (by omega) w
 have hc:w.cell? ⟨b,0,none⟩=some (.int .i64 (i:Int)):=by rw [hv.cell]; rfl
 have e1:IntKind.u64.wrap (j:Int)=(j:Int):=by rw [IntKind.wrap_u64]; omega
 have e2:IntKind.u64.wrap (i:Int)=(i:Int):=by rw [IntKind.wrap_u64]; omega
 clear hv
 go_enter Tryz.func61,Tryz.ntmps61
 go_wp2_with (go_at_call 62; refine (HE.out _).mono ?_; rintro e w' ⟨rfl,rfl⟩)
 go_ret
 exact ⟨rfl,grA⟩
end
section
attribute [local go_sem] ppre_1 ppre_2 ppre_3 ppre_4 ppre_5 ppre_6
attribute [local go_sem ↓] loadPn_is storePn_is zvPn_is buildPn_is loadEn_is storeEn_is zvEn_is buildEn_is Go.wp_at_zero Go.wp_at_succ
attribute [local go_sem] loadPn storePn zvPn loadPX loadPY buildPn0 buildPn3 buildPnI pnt_size pnt_X pnt_Y pnt_18 loadEn storeEn zvEn buildEn2 buildEn3 ent_size ent_X ent_Y ent_18 ent_set18 frz_setBlk blk_setBlk setBlk_setBlk blk_other
structure GaI (w wr:World) (t:Option Nat) (v v':Value) (xs:List (Int×Int)):Prop where
 r:RecL (w.heap.size+2) w wr t v v' xs
theorem GaI.trans {w wr w2:World} {t:Option Nat} {v v':Value} {xs:List (Int×Int)} (h:GaI w wr t v v' xs) (g:Gr wr w2):GaI w w2 t v v' xs:=⟨h.r.gr g⟩
def gth (f:Nat→Q3) (i j:Nat):Q3:=if i<j then f i else (0,0,false)
theorem gth_succ (f:Nat→Q3) (i j:Nat):gth f i (j+1)=cond (decide (j=i)) (f j) (gth f i j):=by
 unfold gth
 by_cases e:j=i
 ·subst e; simp
 ·by_cases h:i<j
  ·simp [e,h,Nat.lt_succ_of_lt h]
  ·have h2:¬ i<j+1:=by omega
   simp [e,h,h2]
theorem gth_lt {f:Nat→Q3} {i n:Nat} (hi:i<n) (hf:∀ i,i<n→(f i).1<M∧(f i).2.1<M) (j:Nat):(gth f i j).1<M∧(gth f i j).2.1<M:=by
 unfold gth
 split
 ·exact hf i hi
 ·exact ⟨by decide +kernel,by decide +kernel⟩
theorem over_Q (p:Bool) (A D C:Q3) (hA:A.1<M∧A.2.1<M) (hD:D.1<M∧D.2.1<M) (hC:C=cond p A D) (w:World):Cg 57 #[.agg (enQ A),.agg (enQ D),.int .u64 (msk p:Nat)] w (.agg (enQ C)):=by
 subst hC
 have h:=over_any p A.1 A.2.1 A.2.2 D.1 D.2.1 D.2.2 hA.1 hA.2 hD.1 hD.2 w
 cases p <;> exact h
theorem gather_any (t:Option Nat) (b g cap n:Nat) (f:Nat→Q3) (hf:∀ i,i<n→(f i).1<M∧(f i).2.1<M) (i:Nat) (hi:i<n) (hn:n≤16) (w:World) (v:Value) (xs:List (Int×Int)) (hT:Tb w b g cap n f) (ob:¬ Ow t v b) (og:¬ Ow t v g) (hl:Lk w t v xs) (hx:xs.length≤900000)
 (c:Nat) (hc:Vr w c #[.int .i64 (i:Int)]) (oc:¬ Ow t v c):
 Calls Tryz.prog 36 #[.pointer (some ⟨b,0,none⟩),.func (.func 37) #[trp t] #[],.func (.func 61) #[] #[.pointer (some ⟨c,0,none⟩)]] w
  fun e w'=>e=.returned (.agg (pnQ (f i)))∧∃ v',RecL w.heap.size w w' t v v' (xs++ixs n):=by
 have HT:Hid (Tb w b g cap n f):=hT
 have HL:Hid (Lk w t v xs):=hl
 have HC:Hid (Vr w c #[.int .i64 (i:Int)]):=hc
 have HF:Hid (∀ i,i<n→(f i).1<M∧(f i).2.1<M):=hf
 have HB:Hid (¬ Ow t v b∧¬ Ow t v g∧¬ Ow t v c):=⟨ob,og,oc⟩
 have HN:Hid (i<n∧n≤16∧xs.length≤900000):=⟨hi,hn,hx⟩
 clear hT hl hc hf ob og oc hi hn hx
 go_enter Tryz.func36,Tryz.ntmps36
 go_upto_region 2 with fail
 refine gen_w (fun v=>Hid (Gr w v∧Vr v (w.heap.size) (pnt 0 0 false)∧Vr v (w.heap.size+1) (ent 0 0 0))) ⟨grA,vrA,vrA⟩ ?_
 intro v0 HV
 have kb:v0.cell? ⟨b,0,none⟩=some (.slice (some ⟨g,0,none⟩) n cap):=by rw [(HT.out.vr.gr HV.out.1).cell]; rfl
 go_wp2_with fail
 go_loopw [15] (fun ia wr=>∃ (j:Nat) (v':Value),ia=.int .i64 (j:Int)∧Hid (Unit→j≤n)∧Hid (RecL (w.heap.size+2) w wr t v v' (xs++ixs j)∧Vr wr (w.heap.size) (pnt 0 0 false)∧Vr wr (w.heap.size+1) (enQ (gth f i j)))) (fun ia _=>((n:Int)-intOf ia).toNat)
 case atStart=>
  obtain ⟨G,c0,c1⟩:=HV.out
  refine ⟨0,v,rfl,fun _=>Nat.zero_le _,?_,c0,c1⟩
  rw [show ixs 0=[] from rfl,List.append_nil]
  exact (RecL.refl HL.out _).gr G
 case round=>
  clear HV kb
  obtain ⟨j,v1,rfl,HJ,HV⟩:=hrel
  obtain ⟨hR,c0,c1⟩:=HV.out
  obtain ⟨ob,og,oc⟩:=HB.out
  obtain ⟨hi,hn,hx⟩:=HN.out
  have j0:(0:Int)≤(j:Int):=by omega
  have n4:(n:Int)≤16:=by omega
  by_cases hlt:j<n
  ·have j1:(j:Int)<(n:Int):=by omega
   have ld0:=(HT.out.row.kp hR.kp og).load hlt
   obtain ⟨A,hA⟩:∃ A,f j=A:=⟨_,rfl⟩
   obtain ⟨D,hD⟩:∃ A,gth f i j=A:=⟨_,rfl⟩
   obtain ⟨C,hC⟩:∃ A,gth f i (j+1)=A:=⟨_,rfl⟩
   have HO:Hid (∀ w,Cg 57 #[.agg (enQ A),.agg (enQ D),.int .u64 (msk (decide (j=i)):Nat)] w (.agg (enQ C))):=over_Q _ A D C (hA ▸ HF.out j hlt) (hD ▸ gth_lt hi HF.out j) (by rw [← hC,gth_succ,hA,hD])
   rw [hA] at ld0
   have bj:j<9223372036854775808:=by omega
   have bi:i<9223372036854775808:=by omega
   have sz:w.heap.size+1+1≤wr.heap.size:=c1.p
   have HI:Hid (∀ w4,Gr wr w4→Calls Tryz.prog 37 #[trp t,.int .i64 (j:Int)] w4 fun e w'=>∃ z v',e=.returned (.int .i64 z)∧RecL w4.heap.size w4 w' t v1 v' (xs++ixs (j+1))):=fun w4 g4=>by
    rw [ixs_succ,← List.append_assoc]
    exact look_any w4 t v1 _ _ (hR.lk.gr g4) (by rw [List.length_append,ixs_length]; omega)
   go_upto_region 6 with (go_at_call 37; refine (HI.out _ ?_).mono ?_; exact grA; rintro e w5 ⟨z,v2,rfl,r5⟩)
   have e4:(wr.alloc (.cells (enQ A) 106)).heap.size=wr.heap.size+1:=by simp
   have g4:Gr wr (wr.alloc (.cells (enQ A) 106)):=(Gr.refl _).alloc _
   have cE:Vr w5 wr.heap.size (enQ A):=(Vr.new wr (enQ A) 106).kp r5.kp fun h=>by have:=hR.lk.own h; omega
   rw [e4] at r5
   replace c0:=(c0.gr g4).kp r5.kp (hR.no (fun h=>by have:=HL.out.own h; omega) (by omega))
   replace c1:=(c1.gr g4).kp r5.kp (hR.no (fun h=>by have:=HL.out.own h; omega) (by omega))
   have cc:Vr w5 c #[.int .i64 (i:Int)]:=((HC.out.kp hR.kp oc).gr g4).kp r5.kp (hR.no oc (by have:c+1≤w.heap.size:=HC.out.p; omega))
   have G:GaI w w5 t v v2 (xs++ixs (j+1)):=⟨(hR.gr g4).trans r5 (by omega) (by omega)⟩
   have no:¬ Ow t v2 (w.heap.size+1):=G.r.no (fun h=>by have:=HL.out.own h; omega) (by omega)
   rw [hD] at c1
   clear HV hR r5 HI ld0 hA hD g4 e4
   refine wp_wT 6 [.c (.agg (ent A.1 A.2.1 (bw A.2.2))),.c (.agg (ent D.1 D.2.1 (bw D.2.2))),.c (.func (.func 61) #[] #[pv c 0]),.c (.int .i64 (j:Int)),.c (.int .u64 (msk (decide (j=i)):Nat)),.c (.agg (ent C.1 C.2.1 (bw C.2.2)))] [0,1,4,5] ?hs1 ?hf1
   case hs1=>
    exact .cons (.g 106 0 cE rfl)<|.cons (.g 106 0 c1 rfl)<|.cons (.k _ fun yy vv hg hh=>RtW.of_c (Rt.c (wanted_any j i bj bi c _ (cc.gr hg))))<|.cons (.k _ fun yy vv hg hh=>RtW.of_c (Rt.c (HO.out _))) .nil
   refine .s 106 (fun yy=>.pointer (some ⟨w.heap.size+1,0,none⟩)) (fun yy=>.agg (ent C.1 C.2.1 (bw C.2.2))) fun yw6 v1 hg h6=>?_
   have HT:=(c1.gr hg).h
   have FT:=(c1.gr hg).f
   refine ⟨setBlk v1 (w.heap.size+1) (ent C.1 C.2.1 (bw C.2.2)),by simp [go_sem,exI,HT,FT],?_⟩
   simp only [FW,putFrom,Act.put,lqA,lqB,lqC,wvals,kW,lqD,lqE,Kw.c,pv]
   clear h6
   replace G:=G.trans hg
   replace cE:=cE.gr hg
   replace c1:=c1.gr hg
   replace c0:=c0.gr hg
   replace cc:=cc.gr hg
   clear hg
   go_wp2_with fail
   go_roundw
   case rel=>
    refine ⟨j+1,v2,by go_num,fun _=>hlt,G.r.set _ _ (by omega) no,c0.other (by omega),?_⟩
    rw [hC]
    exact c1.set (by rw [ent_size]; decide) _
   case measure=>simp [intOf]; omega
  ·have j1:¬ (j:Int)<(n:Int):=by omega
   have hj:j=n:=by have:=HJ.out (); omega
   have hg:gth f i j=f i:=by unfold gth; rw [if_pos (by omega)]
   rw [hg] at c1
   have ⟨h0,f0,p0⟩:=c0
   have ⟨h1,f1,p1⟩:=c1
   have HP:Hid (∀ w,Cg 58 #[.agg (enQ (f i))] w (.agg (pnQ (f i)))):=fun w=>point_any _ _ _ w
   go_wp2_with (go_at_call 58; refine (HP.out _).mono ?_; rintro e w' ⟨rfl,g,rfl⟩)
   refine bodyPost_ret (res_one Tryz.results36 (rd_pn (by rfl) ?_)) rfl ⟨rfl,v1,?_⟩
   ·simp [go_sem, *]
   ·have h2:=((hR.set (w.heap.size) (pnQ (f i)) (by omega) (hR.no (fun h=>by have:=HL.out.own h; omega) (by omega))).gr ⟨g,rfl⟩).le (m:=w.heap.size) (by omega)
    rw [hj] at h2
    exact h2
theorem pick_any (t:Option Nat) (b g cap n:Nat) (f:Nat→Q3) (hf:∀ i,i<n→(f i).1<M∧(f i).2.1<M) (i:Nat) (hi:i<n) (hn:n≤16) (w:World) (v:Value) (xs:List (Int×Int)) (hT:Tb w b g cap n f) (ob:¬ Ow t v b) (og:¬ Ow t v g) (hl:Lk w t v xs) (hx:xs.length≤900000):
 Calls Tryz.prog 16 #[.pointer (some ⟨b,0,none⟩),trp t,.int .i64 (i:Int)] w
  fun e w'=>e=.returned (.tuple #[.agg (pnQ (f i)),.int .i64 0])∧∃ v',RecL w.heap.size w w' t v v' (xs++ixs n):=by
 have hmf:∀ (fn:Fn) (first cap:Array Value) (w:World),(Instr.makeFunc fn first cap).run Tryz.prog w=.ok (.func fn first cap) w:=fun _ _ _ _=>rfl
 have kb:w.cell? ⟨b,0,none⟩=some (.slice (some ⟨g,0,none⟩) n cap):=by rw [hT.vr.cell]; rfl
 have pb:Pre (b+1) w.heap.size:=hT.vr.p
 have i0:¬ (i:Int)<0:=by omega
 have i1:¬ (n:Int)≤(i:Int):=by omega
 have HG:Hid (∀ W c,Gr w W→Vr W c #[.int .i64 (i:Int)]→w.heap.size<c→Vr W w.heap.size (pnt 0 0 false)→Calls Tryz.prog 36 #[.pointer (some ⟨b,0,none⟩),.func (.func 37) #[trp t] #[],.func (.func 61) #[] #[.pointer (some ⟨c,0,none⟩)]] W
  fun e w'=>e=.returned (.agg (pnQ (f i)))∧∃ v',(RecL (w.heap.size+1) w w' t v v' (xs++ixs n))∧Vr w' w.heap.size (pnt 0 0 false)):=fun W c hG hc hlt hv=>by
  have no:∀ k,w.heap.size≤k→¬ Ow t v k:=fun k hk h=>by have:=hl.own h; omega
  refine (gather_any t b g cap n f hf i hi hn W v xs (hT.gr hG) ob og (hl.gr hG) hx c hc (no c (by omega))).mono ?_
  rintro e w' ⟨rfl,v',hR⟩
  have:w.heap.size+1≤W.heap.size:=hv.p
  exact ⟨rfl,v',(hR.pre hG).le (by omega),hv.kp hR.kp (no _ (Nat.le_refl _))⟩
 have no:¬ Ow t v w.heap.size:=fun h=>by have:=hl.own h; omega
 clear hT ob og hl hx hf hi hn
 go_enter Tryz.func16,Tryz.ntmps16
 go_wp2_with (first
  | (go_at_call 38; refine (only_any _ _).mono ?_; rintro e w' ⟨rfl,rfl⟩)
  | (go_at_call 36; refine (HG.out _ _ ?_ ?_ ?_ ?_).mono ?_; exact grA; exact ⟨by simp [go_sem],by simp [go_sem],by simp [go_sem]⟩; simp; exact ⟨by simp [go_sem],by simp [go_sem],by simp [go_sem]⟩; rintro e w5 ⟨rfl,v2,r5,c5⟩; have ⟨h5,f5,p5⟩:=c5))
 refine bodyPost_ret (res_two Tryz.results16 (rd_pn (by rfl) ?_) (rd_tmp (by rfl))) rfl ⟨rfl,v2,(r5.set _ _ (Nat.le_refl _) (r5.no no (by omega))).le (by omega)⟩
 simp [go_sem, *]
theorem pick_no (p:Value) (b g cap n:Nat) (f:Nat→Q3) (i:Int) (hi:i<0∨(n:Int)≤i) (w:World) (hT:Tb w b g cap n f):
 Cg 16 #[.pointer (some ⟨b,0,none⟩),p,.int .i64 i] w (.tuple #[.agg (pnt 0 0 false),.int .i64 1603]):=by
 have kb:w.cell? ⟨b,0,none⟩=some (.slice (some ⟨g,0,none⟩) n cap):=by rw [hT.vr.cell]; rfl
 have pb:Pre (b+1) w.heap.size:=hT.vr.p
 clear hT
 by_cases i0:i<0
 ·go_enter Tryz.func16,Tryz.ntmps16
  go_wp2_with fail
  refine bodyPost_ret (res_two Tryz.results16 (rd_pn (by rfl) ?_) (rd_tmp (by rfl))) rfl ⟨rfl,grA⟩
  simp [go_sem]
 ·have i1:(n:Int)≤i:=by omega
  go_enter Tryz.func16,Tryz.ntmps16
  go_wp2_with fail
  refine bodyPost_ret (res_two Tryz.results16 (rd_pn (by rfl) ?_) (rd_tmp (by rfl))) rfl ⟨rfl,grA⟩
  simp [go_sem]
theorem size_any (b g cap n:Nat) (f:Nat→Q3) (w:World) (hT:Tb w b g cap n f):Cg 14 #[.pointer (some ⟨b,0,none⟩)] w (.int .i64 (n:Int)):=by
 have kb:w.cell? ⟨b,0,none⟩=some (.slice (some ⟨g,0,none⟩) n cap):=by rw [hT.vr.cell]; rfl
 clear hT
 go_enter Tryz.func14,Tryz.ntmps14
 go_wp2_with fail
 go_ret
 exact ⟨rfl,grA⟩
end
section
attribute [local go_sem] ppre_1 ppre_2 ppre_3 ppre_4 ppre_5 ppre_6
attribute [local go_sem ↓] zvCu_is storeCu_is loadCu_is loadPn_is storePn_is zvPn_is buildPn_is loadEn_is storeEn_is zvEn_is buildEn_is Go.wp_at_zero Go.wp_at_succ
attribute [local go_sem] zvCu storeCu loadCu cu_size loadPn storePn zvPn loadPX loadPY buildPn0 buildPn3 buildPnI pnt_size pnt_X pnt_Y loadEn storeEn zvEn buildEn2 buildEn3 ent_size frz_setBlk blk_setBlk setBlk_setBlk blk_other
theorem check_id (x:Int) (h:x<1∨15<x) (P:Q3) (n:Int) (w:World):Cg 31 #[.int .i64 x,.agg (pnQ P),.int .i64 n] w (.int .i64 1600):=by
 have HG:Hid (∀ w,Cg 51 #[.int .i64 x] w (.tuple #[.agg (cu 0 0 0 0 0 0 0 0 0 false),.int .i64 1300])):=fun w=>get13_no x h w
 clear h
 go_enter Tryz.func31,Tryz.ntmps31
 go_wp2_with (first | (go_at_call 51; refine (HG.out _).mono ?_; rintro e w' ⟨rfl,g0,rfl⟩))
 go_ret
 exact ⟨rfl,grA⟩
theorem check_off {k:Nat} (h1:1≤k) (h2:k≤15) {P:Q3} (lP:P.1<M∧P.2.1<M) (hP:onB k P.1 P.2.1 P.2.2=false) (n:Int) (w:World):Cg 31 #[.int .i64 (k:Int),.agg (pnQ P),.int .i64 n] w (.int .i64 1601):=by
 have HG:Hid (∀ w,Cg 51 #[.int .i64 (k:Int)] w (.tuple #[.agg (cuN k),.int .i64 0])):=fun w=>get13_yes k h1 h2 w
 simp only [cuN] at HG
 have HO:Hid (∀ w,Cg 52 #[.int .i64 (k:Int),.agg (pnQ P)] w (.bool false)):=fun w=>hP ▸ on13_yes k h1 h2 P.1 P.2.1 P.2.2 lP.1 lP.2 w
 go_enter Tryz.func31,Tryz.ntmps31
 go_wp2_with (first | (go_at_call 51; refine (HG.out _).mono ?_; rintro e w' ⟨rfl,g0,rfl⟩) | (go_at_call 52; refine (HO.out _).mono ?_; rintro e w' ⟨rfl,g1,rfl⟩))
 go_ret
 exact ⟨rfl,grA⟩
theorem check_size {k:Nat} (h1:1≤k) (h2:k≤15) {P:Q3} (lP:P.1<M∧P.2.1<M) (hP:onB k P.1 P.2.1 P.2.2=true) (n:Int) (hn:n<1∨16<n) (w:World):Cg 31 #[.int .i64 (k:Int),.agg (pnQ P),.int .i64 n] w (.int .i64 1602):=by
 have HG:Hid (∀ w,Cg 51 #[.int .i64 (k:Int)] w (.tuple #[.agg (cuN k),.int .i64 0])):=fun w=>get13_yes k h1 h2 w
 simp only [cuN] at HG
 have HO:Hid (∀ w,Cg 52 #[.int .i64 (k:Int),.agg (pnQ P)] w (.bool true)):=fun w=>hP ▸ on13_yes k h1 h2 P.1 P.2.1 P.2.2 lP.1 lP.2 w
 by_cases n1:n<1
 ·go_enter Tryz.func31,Tryz.ntmps31
  go_wp2_with (first | (go_at_call 51; refine (HG.out _).mono ?_; rintro e w' ⟨rfl,g0,rfl⟩) | (go_at_call 52; refine (HO.out _).mono ?_; rintro e w' ⟨rfl,g1,rfl⟩))
  go_ret
  exact ⟨rfl,grA⟩
 ·have n2:16<n:=by omega
  go_enter Tryz.func31,Tryz.ntmps31
  go_wp2_with (first | (go_at_call 51; refine (HG.out _).mono ?_; rintro e w' ⟨rfl,g0,rfl⟩) | (go_at_call 52; refine (HO.out _).mono ?_; rintro e w' ⟨rfl,g1,rfl⟩))
  go_ret
  exact ⟨rfl,grA⟩
theorem check_yes {k:Nat} (h1:1≤k) (h2:k≤15) {P:Q3} (lP:P.1<M∧P.2.1<M) (hP:onB k P.1 P.2.1 P.2.2=true) (n:Int) (hn:1≤n∧n≤16) (w:World):Cg 31 #[.int .i64 (k:Int),.agg (pnQ P),.int .i64 n] w (.int .i64 0):=by
 have HG:Hid (∀ w,Cg 51 #[.int .i64 (k:Int)] w (.tuple #[.agg (cuN k),.int .i64 0])):=fun w=>get13_yes k h1 h2 w
 simp only [cuN] at HG
 have HO:Hid (∀ w,Cg 52 #[.int .i64 (k:Int),.agg (pnQ P)] w (.bool true)):=fun w=>hP ▸ on13_yes k h1 h2 P.1 P.2.1 P.2.2 lP.1 lP.2 w
 have n1:¬ n<1:=by omega
 have n2:¬ 16<n:=by omega
 go_enter Tryz.func31,Tryz.ntmps31
 go_wp2_with (first | (go_at_call 51; refine (HG.out _).mono ?_; rintro e w' ⟨rfl,g0,rfl⟩) | (go_at_call 52; refine (HO.out _).mono ?_; rintro e w' ⟨rfl,g1,rfl⟩))
 go_ret
 exact ⟨rfl,grA⟩
def bslE (t:TypeId) (n:Nat) (p:Array (Nat×Value)):Sem Value:=Instr.buildSlice t n p
theorem bslE_is (n:Nat) (p:Array (Nat×Value)):Instr.buildSlice 73 n p=bslE 73 n p:=rfl
theorem bslE1 (x y z:Nat) (w:World):(bslE 73 1 #[(0,.agg (ent x y z))]).run Tryz.prog w=.ok (.slice (some ⟨w.heap.size,0,none⟩) 1 1) (w.alloc (.cells (ent x y z) 106)):=by kernel_rfl
attribute [local go_sem ↓] bslE_is
attribute [local go_sem] bslE1
theorem owns_set {w:World} {base b:Nat} {e:TypeId} {s:Nat} {v:Value} {n:Nat} {xs:List Value} (h:w.ownsRow base e s v n xs) (hb:b<base) (d:Array Value):(setBlk w b d).ownsRow base e s v n xs:=
 owns_kept h ((Kp.refl (fun k=>k=b) w).setBlk b d (Or.inl rfl)) fun k hk e=>by have:=(h.lt k hk).1; omega
def lenV:Value→Nat
 | .slice _ n _=>n
 | _=>0
theorem multiples_any {k:Nat} (h1:1≤k) (h2:k≤15) {P:Q3} (oP:OnQ k P) (n:Nat) (hn:1≤n∧n≤16) (w:World):
 Calls Tryz.prog 32 #[.int .i64 (k:Int),.agg (pnQ P),.int .i64 (n:Int)] w fun e w'=>∃ g cap,e=.returned (.slice (some ⟨g,0,none⟩) n cap)∧Er w' g n (fun i=>mlQ k i P)∧Gr w w':=by
 obtain ⟨i0,hi0,hz0,hz1,hz2⟩:=info_parts Tryz.infoEn
 obtain ⟨F,hF⟩:∃ F:Nat→Q3,(fun i=>mlQ k i P)=F:=⟨_,rfl⟩
 have HA:Hid (∀ j w,Cg 27 #[.int .i64 (k:Int),.agg (pnQ (F j)),.agg (pnQ P)] w (.tuple #[.agg (pnQ (F (j+1))),.int .i64 0])):=fun j w=>by
  subst hF
  exact addQ h1 h2 (mlQ_on h1 h2 j oP) oP (by show _=mlQ k (j+1) P; rw [mlQ_add h1 h2 j 1 oP,mlQ_one h1 h2 oP]) w
 have hF0:F 0=inf:=by subst hF; exact mlQ_zero h1 h2 P
 rw [hF]
 have HN:Hid (1≤n∧n≤16):=hn
 have HE:Hid (∀ (A:Q3) w,Cg 53 #[.agg (pnQ A)] w (.agg (enQ A))):=fun A w=>entryOf_any A.1 A.2.1 A.2.2 w
 have HE0:Hid (∀ w,Cg 53 #[.agg (pnt 0 0 true)] w (.agg (enQ (F 0)))):=fun w=>by rw [hF0]; exact entryOf_any 0 0 true w
 have HF0:Hid (F 0=inf):=hF0
 clear hn hF oP hF0
 go_enter Tryz.func32,Tryz.ntmps32
 go_upto_region 2 with fail
 refine gen_w (fun v=>Hid (Gr w v∧Vr v (w.heap.size) (pnQ P)∧Vr v (w.heap.size+1) (pnt 0 0 true))) ⟨grA,vrA,vrA⟩ ?_
 intro v0 HV0
 have hb0:=HV0.out.2.2.h
 go_upto_region 3 with (go_at_call 53; refine (HE0.out _).mono ?_; rintro e w1 ⟨rfl,G1⟩)
 have e0:pnQ (F 0)=pnt 0 0 true:=by rw [HF0.out]; rfl
 have HV:Hid (Gr w (w1.alloc (.cells (enQ (F 0)) 106))∧Vr (w1.alloc (.cells (enQ (F 0)) 106)) (w.heap.size) (pnQ P)∧Vr (w1.alloc (.cells (enQ (F 0)) 106)) (w.heap.size+1) (pnQ (F 0))∧(w1.alloc (.cells (enQ (F 0)) 106)).ownsRow (w.heap.size+1+1) 106 19 (.slice (some ⟨w1.heap.size,0,none⟩) 1 1) 1 (ens F 1)):=by
  obtain ⟨G,c0,c1⟩:=HV0.out
  have G2:=G1.trans ((Gr.refl _).alloc (.cells (enQ (F 0)) 106))
  rw [e0]
  exact ⟨G.trans G2,c0.gr G2,c1.gr G2,owns_mono (owns_first w1 F) (c1.gr G1).p⟩
 clear hb0 HV0 G1 e0
 go_loopw [8] (fun sl wr=>∃ j:Nat,Hid (Unit→j+1≤n)∧lenV sl=j+1∧Hid (Gr w wr∧Vr wr (w.heap.size) (pnQ P)∧Vr wr (w.heap.size+1) (pnQ (F j))∧wr.ownsRow (w.heap.size+1+1) 106 19 sl (j+1) (ens F (j+1)))) (fun sl _=>n-lenV sl)
 case atStart=>exact ⟨0,fun _=>HN.out.1,rfl,HV⟩
 case round=>
  clear HV
  rename_i sl
  obtain ⟨j,HJ,hl,HV⟩:=hrel
  obtain ⟨G,c0,c1,hr⟩:=HV.out
  obtain ⟨p,cp,rfl, -, -⟩:=owns_shape hr
  obtain ⟨hn1,hn2⟩:=HN.out
  by_cases hlt:j+1<n
  ·have j1:((j:Int)+1<(n:Int)):=by omega
   obtain ⟨A,hA⟩:∃ A,F j=A:=⟨_,rfl⟩
   obtain ⟨C,hC⟩:∃ A,F (j+1)=A:=⟨_,rfl⟩
   have HA2:Hid (∀ w,Cg 27 #[.int .i64 (k:Int),.agg (pnQ A),.agg (pnQ P)] w (.tuple #[.agg (pnQ C),.int .i64 0])):=fun w=>by have:=HA.out j w; rw [hA,hC] at this; exact this
   rw [hA] at c1
   have ⟨h0,f0,p0⟩:=c0
   have ⟨h1',f1,p1⟩:=c1
   go_upto_region 5 with (go_at_call 27; refine (HA2.out _).mono ?_; rintro e w' ⟨rfl,gA,rfl⟩)
   refine gen_w (fun v=>Hid (Gr w v∧Vr v (w.heap.size) (pnQ P)∧Vr v (w.heap.size+1) (pnQ C)∧v.ownsRow (w.heap.size+1+1) 106 19 (.slice p (j+1) cp) (j+1) (ens F (j+1)))) ⟨(gr_setNew G (by omega)).gro gA,(c0.other (by omega)).gr ⟨gA,rfl⟩,(c1.set (by rw [pnt_size]; decide) _).gr ⟨gA,rfl⟩,owns_kept (owns_set hr (by omega) _) (Kp.gr ⟨gA,rfl⟩ fun _=>False) fun _ _ h=>h⟩ ?_
   clear HV G c0 c1 hr h0 f0 p0 h1' f1 p1 HA2
   intro v1 HV
   have hb:=HV.out.2.2.1.h
   have HE2:Hid (Cg 53 #[.agg (pnQ C)] v1 (.agg (enQ C))):=HE.out C v1
   go_wp2_with (first
    | (go_at_call 53; refine HE2.out.mono ?_; rintro e w2 ⟨rfl,gE⟩; have s2:=gE.below.size; have s1:=HV.out.2.2.1.p; have hr2:=owns_kept HV.out.2.2.2 (Kp.gr gE fun _=>False) fun _ _ h=>h)
    | (at_builtin; refine wpList_append_lies _ rfl (.tmp 24) (.tmp 27) 73 rfl (w.heap.size+1+1) 106 i0 _ 19 152 Tryz.underlying73 hi0 hz0 hz1 hz2 (ent_size 0 0 0) (by omega) _ (j+1) (ens F (j+1)) rfl (hr2.alloc _) ⟨w2.heap.size,0,none⟩ 1 1 (enQ C).toList rfl (by rw [Array.length_toList,ent_size]) (World.news_of_block (cs:=enQ C) (t:=106) (fr:=(0,0)) (heap_alloc_new w2 _)) (fun u hu=>Array.all_eq_true_iff_forall_mem.1 (ent_one _ _ _) u (by simpa using hu)) (by omega) (by unfold maxLen; omega) (by omega) (by simp; unfold Pre at s1; omega) _ rfl ?_; intro g2 cap w3 hown hgrow hat hlt2))
   go_roundw
   case rel=>
    obtain ⟨G,c0,c1,hr⟩:=HV.out
    have far:∀ b,b<w.heap.size+1+1→¬ (Value.slice p (j+1) cp).ownBlock=some b:=fun b hb e=>by have:=(hr.lt b e).1; omega
    have g3:Gr v1 (w2.alloc (.cells (enQ C) 106)):=gE.alloc _
    refine ⟨j+1,fun _=>hlt,rfl,gr_kp (G.trans g3) (Kp.grown hgrow) fun b hb=>far b (by omega),(c0.gr g3).kp (Kp.grown hgrow) (far _ (by omega)),?_,?_⟩
    ·rw [hC]; exact (c1.gr g3).kp (Kp.grown hgrow) (far _ (by omega))
    ·rw [ens_succ F (j+1),hC]; exact hown
   case measure=>simp [lenV]; omega
  ·have hj:j+1=n:=by have:=HJ.out (); omega
   subst hj
   obtain ⟨g,cap,e, -, -,he⟩:=Er.of_owns hr (by omega)
   injection e with e1 _ e3
   subst e1 e3
   clear HV hr HE HE0 HA
   go_wp2_with fail
   exact bodyPost_ret (res_one Tryz.results32 (rd_tmp (by rfl))) rfl ⟨g,⟨cp,rfl⟩,he,G⟩
theorem new_err (id:Int) (P:Q3) (n er:Int) (hne:¬ er=0) (w:World) (HC':∀ w,Cg 31 #[.int .i64 id,.agg (pnQ P),.int .i64 n] w (.int .i64 er)):
 Cg 9 #[.int .i64 id,.agg (pnQ P),.int .i64 n] w (.tuple #[.pointer none,.int .i64 er]):=by
 have HC:Hid _:=HC'
 clear HC'
 go_enter Tryz.func9,Tryz.ntmps9
 go_wp2_with (go_at_call 31; refine (HC.out _).mono ?_; rintro e w' ⟨rfl,g,rfl⟩)
 go_ret2
 exact ⟨rfl,grA⟩
theorem new_yes {k:Nat} (h1:1≤k) (h2:k≤15) {P:Q3} (oP:OnQ k P) (n:Nat) (hn:1≤n∧n≤16) (w:World):
 Calls Tryz.prog 9 #[.int .i64 (k:Int),.agg (pnQ P),.int .i64 (n:Int)] w fun e w'=>∃ b g cap,e=.returned (.tuple #[.pointer (some ⟨b,0,none⟩),.int .i64 0])∧Tb w' b g cap n (fun i=>mlQ k i P)∧Gr w w':=by
 have HC:Hid (∀ w,Cg 31 #[.int .i64 (k:Int),.agg (pnQ P),.int .i64 (n:Int)] w (.int .i64 0)):=fun w=>check_yes h1 h2 oP.lt oP n (by omega) w
 have HM:Hid (∀ w,Calls Tryz.prog 32 #[.int .i64 (k:Int),.agg (pnQ P),.int .i64 (n:Int)] w fun e w'=>∃ g cap,e=.returned (.slice (some ⟨g,0,none⟩) n cap)∧Er w' g n (fun i=>mlQ k i P)∧Gr w w'):=fun w=>multiples_any h1 h2 oP n hn w
 obtain ⟨F,hF⟩:∃ F:Nat→Q3,(fun i=>mlQ k i P)=F:=⟨_,rfl⟩
 rw [hF] at HM ⊢
 clear hF oP hn
 go_enter Tryz.func9,Tryz.ntmps9
 go_wp2_with (first
  | (go_at_call 31; refine (HC.out _).mono ?_; rintro e w' ⟨rfl,g0,rfl⟩)
  | (go_at_call 32; refine (HM.out _).mono ?_; rintro e w2 ⟨g,cap,rfl,he,G2⟩))
 go_ret2
 exact ⟨_,g,cap,rfl,⟨Vr.new _ _ _,he.gr ((Gr.refl _).alloc _)⟩,(Gr.trans grA G2).alloc _⟩
end
end
section
def mF (k:Nat) (P:Q3) (i:Nat):Q3:=mlQ k i P
theorem mF_lt {k:Nat} (h1:1≤k) (h2:k≤15) {P:Q3} (oP:OnQ k P) (n:Nat):∀ i,i<n→(mF k P i).1<M∧(mF k P i).2.1<M:=fun i _=>(mlQ_on h1 h2 i oP).lt
def Kw.tt (n:Nat) (f:Nat→Q3):Kw:=⟨fun y=>.tuple #[.pointer (some ⟨(y 0).2,0,none⟩),.int .i64 0],fun y w=>Tb w (y 0).2 (y 1).2 (y 2).2 n f,fun _ _ _ h g=>h.gr g,0,fun h=>absurd rfl h,fun h=>absurd h (by decide)⟩
def Kw.tp (n:Nat) (f:Nat→Q3):Kw:=⟨fun y=>.pointer (some ⟨(y 0).2,0,none⟩),fun y w=>Tb w (y 0).2 (y 1).2 (y 2).2 n f,fun _ _ _ h g=>h.gr g,0,fun h=>absurd rfl h,fun h=>absurd h (by decide)⟩
theorem new_tt {k:Nat} (h1:1≤k) (h2:k≤15) {P:Q3} (oP:OnQ k P) {n:Nat} (hn:1≤n∧n≤16) {x:Int} (hx:(n:Int)=x) (w:World):Calls Tryz.prog 9 #[.int .i64 (k:Int),.agg (pnQ P),.int .i64 x] w (RtW (.tt n (mF k P)) w):=by
 subst hx
 exact (new_yes h1 h2 oP n hn w).mono fun _ _ ⟨b,g,cap,e,hT,G⟩=>⟨fun i=>match i with | 0=>(none,b) | 1=>(none,g) | _=>(none,cap),e,hT,G⟩
theorem new_size {k:Nat} (h1:1≤k) (h2:k≤15) {P:Q3} (oP:OnQ k P) {x:Int} (hx:x<1∨16<x) (w:World):Cg 9 #[.int .i64 (k:Int),.agg (pnQ P),.int .i64 x] w (.tuple #[.pointer none,.int .i64 1602]):=
 new_err _ P x 1602 (by decide) w fun w=>check_size h1 h2 oP.lt oP x hx w
theorem new_off {k:Nat} (h1:1≤k) (h2:k≤15) {P:Q3} (lP:P.1<M∧P.2.1<M) (hP:onB k P.1 P.2.1 P.2.2=false) (x:Int) (w:World):Cg 9 #[.int .i64 (k:Int),.agg (pnQ P),.int .i64 x] w (.tuple #[.pointer none,.int .i64 1601]):=
 new_err _ P x 1601 (by decide) w fun w=>check_off h1 h2 lP hP x w
theorem new_id (id:Int) (h:id<1∨15<id) (P:Q3) (x:Int) (w:World):Cg 9 #[.int .i64 id,.agg (pnQ P),.int .i64 x] w (.tuple #[.pointer none,.int .i64 1600]):=
 new_err _ P x 1600 (by decide) w fun w=>check_id id h P x w
theorem pickM {k:Nat} (h1:1≤k) (h2:k≤15) {P:Q3} (oP:OnQ k P) {b g cap n:Nat} {w:World} (hT:Tb w b g cap n (mF k P)) (hn:n≤16) {i:Nat} (hi:i<n) {x:Int} (hx:(i:Int)=x) {Z:Q3} (hZ:mlQ k i P=Z):
 Cg 16 #[.pointer (some ⟨b,0,none⟩),.pointer none,.int .i64 x] w (.tuple #[.agg (pnQ Z),.int .i64 0]):=by
 subst hx hZ
 refine (pick_any none b g cap n (mF k P) (mF_lt h1 h2 oP n) i hi hn w undef [] hT Ow.none Ow.none (Lk.none _ _ _) (by decide)).mono ?_
 rintro e w' ⟨rfl,v',hR⟩
 exact ⟨rfl,gr_kp (Gr.refl w) hR.kp fun b _ h=>Ow.none h⟩
theorem pickR {k:Nat} (h1:1≤k) (h2:k≤15) {P:Q3} (oP:OnQ k P) {b g cap n:Nat} {u w:World} (hT:Tb u b g cap n (mF k P)) (gu:Gr u w) {t:Nat} (hu:u.heap.size≤t) {v:Value} {xs:List (Int×Int)} (h:Tr w t v xs) (hx:xs.length≤900000) (hn:n≤16) {i:Nat} (hi:i<n) {x:Int} (hx:(i:Int)=x) {Z:Q3} (hZ:mlQ k i P=Z):
 Calls Tryz.prog 16 #[.pointer (some ⟨b,0,none⟩),.pointer (some ⟨t,0,none⟩),.int .i64 x] w fun e w'=>e=.returned (.tuple #[.agg (pnQ Z),.int .i64 0])∧∃ v',RecL w.heap.size w w' (some t) v v' (xs++ixs n)∧Gr u w':=by
 subst hx hZ
 have no:∀ c,c<u.heap.size→¬ Ow (some t) v c:=fun c hc ⟨a,e,ho⟩=>by
  cases e
  have:=(h.own c ho).1
  omega
 refine (pick_any (some t) b g cap n (mF k P) (mF_lt h1 h2 oP n) i hi hn w v xs (hT.gr gu) (no b hT.vr.p) (no g hT.row.lt) (fun c e=>by cases e; exact h) (by assumption)).mono ?_
 rintro e w' ⟨rfl,v',hR⟩
 exact ⟨rfl,v',hR,gr_kp gu hR.kp no⟩
theorem pickE {b g cap n:Nat} {f:Nat→Q3} {w:World} (hT:Tb w b g cap n f) (p:Value) {x:Int} (hx:x<0∨(n:Int)≤x):
 Cg 16 #[.pointer (some ⟨b,0,none⟩),p,.int .i64 x] w (.tuple #[.agg (pnt 0 0 false),.int .i64 1603]):=pick_no p b g cap n f x hx w hT
theorem sizeT {b g cap n:Nat} {f:Nat→Q3} {w:World} (hT:Tb w b g cap n f):Cg 14 #[.pointer (some ⟨b,0,none⟩)] w (.int .i64 (n:Int)):=size_any b g cap n f w hT
theorem Tr.gr {w w':World} {t:Nat} {v:Value} {xs:List (Int×Int)} (h:Tr w t v xs) (g:Gr w w'):Tr w' t v xs:=h.kept (Kp.gr g fun _=>False) fun _ _ h=>h
theorem lenT {w:World} {t:Nat} {v:Value} {xs:List (Int×Int)} (h:Tr w t v xs) {x:Int} (hx:(xs.length:Int)=x):Calls Tryz.prog 24 #[.pointer (some ⟨t,0,none⟩)] w fun e w'=>e=.returned (.int .i64 x)∧w'=w:=by
 subst hx
 exact (Len_tr w t v xs h).mono fun _ _ ⟨e,h⟩=>⟨e,h.symm⟩
theorem rgQ {k:Nat} {P:Q3} (hP:gQ k=P) (qc:Nat→Option Addr×Nat) (w:World) (HQ:∀ j,Sl w (qc j).1 (nN k j)):Calls Tryz.prog 22 #[.agg (crA (k:Int) (nN k) qc)] w (Rt (.pt P.1 P.2.1 P.2.2) w):=by
 subst hP
 exact rg_any qc w HQ
theorem rsmI {i:Nat} (hi:i<16) {y:Int} (hy:(i:Int)=y) (w:World):Calls Tryz.prog 19 #[.int .i64 y] w (Rt (.n i) w):=by
 have e:y.toNat=i:=by omega
 exact e ▸ Rt.n (rsmall_any y (by omega) w)
theorem dl_16 {i:Nat} (hi:i<16):dl i≤400:=by have:=dl_M i (lt_M _ (by omega)); omega
theorem and_15 (x:Int):∃ a:Nat,a<16∧bits .and .i64 x 15=(a:Int):=by
 refine ⟨(BitVec.ofInt 64 x).toNat%16,Nat.mod_lt _ (by decide),?_⟩
 show IntKind.i64.wrap ((BitVec.ofInt 64 x &&& BitVec.ofInt 64 15).toNat:Int)=_
 rw [BitVec.toNat_and,show (BitVec.ofInt 64 15).toNat=2 ^ 4-1 from rfl,Nat.and_two_pow_sub_one_eq_mod,IntKind.wrap_i64]
 omega
theorem len_ixs (n:Nat) {x:Int} (hx:(n:Int)=x):((([]++ixs n).length:Nat):Int)=x:=by rw [List.nil_append,ixs_length]; exact hx
theorem Tr.far {w w':World} {ta tb n:Nat} {va vb v':Value} {xs ys:List (Int×Int)} (h:Tr w ta va xs) (r:RecL n w w' (some tb) vb v' ys) (hn:∀ c,Own ta va c→¬ Own tb vb c):Tr w' ta va xs:=
 h.kept r.kp fun c hc ⟨a,e,ho⟩=>by cases e; exact hn c hc ho
theorem own_none {t c:Nat} (h:Own t (.slice none 0 0) c):c=t:=h.elim id fun h=>by cases h
def Kw.ev (n:Nat) (xs:List (Int×Int)):Kw:=⟨fun y=>.slice (y 0).1 n (y 0).2,fun y w=>Ev w (y 0).1 xs,fun _ _ _ h g=>h.kept (Kp.gr g fun _=>False) fun _ _ h=>h,0,fun h=>absurd rfl h,fun h=>absurd h (by decide)⟩
theorem evT {w:World} {t n:Nat} {v:Value} {xs:List (Int×Int)} (h:Tr w t v xs) (hl:xs.length=n) (hn:n≤1000000):Calls Tryz.prog 21 #[.pointer (some ⟨t,0,none⟩)] w (RtW (.ev n xs) w):=by
 refine (Events_tr w t v xs h (by omega)).mono ?_
 rintro e w' ⟨v',rfl,hc⟩
 have e:=Ev.of_owns hc.row
 obtain ⟨p,c,rfl, -⟩:=owns_parts hc.row
 exact ⟨fun _=>(p,c),by rw [hl]; rfl,e,gr_kp (Gr.refl w) hc.kp fun _ _ h=>h⟩
theorem sameT {w:World} {p q:Option Addr} {c d n:Nat} {xs:List (Int×Int)} (hp:Ev w p xs) (hq:Ev w q xs) (hl:xs.length=n) (hn:n≤1000000):Cg 23 #[.slice p n c,.slice q n d] w (.bool true):=by
 subst hl
 refine (same_ev w p q xs xs c d hp hq (by omega) (by omega)).mono ?_
 rintro e w' ⟨he,m,rfl⟩
 exact ⟨by rw [he]; simp,(Gr.refl w).drewN m⟩
def Iv (w:World) (q:Option Addr) (L:Nat) (f:Nat→Int):Prop:=
 L=0∨∃ b o,q=some ⟨b,o,none⟩∧b<w.heap.size∧∀ i,i<L→w.cell? ⟨b,o+i,none⟩=some (.int .i64 (f i))
end
section
attribute [local go_sem ↓] loadNat_is loadArr_is loadWide_is loadArrW_is storeNat_is storeWide_is
attribute [local go_sem] loadNat loadArr loadWide loadArrW storeNat storeWide idxArr fold9 fold18 nw_size nw_elem pre_self pre_1 pre_2 pre_3 pre_4 pre_5 pre_6 pre_7 pre_8 pre_9 pre_10 pre_11 pre_12 pre_13 pre_14 pre_15 pre_16 pre_17 pre_18 pre_19 pre_20 pre_21 pre_22 pre_23 pre_24 pre_25 pre_26 pre_27 pre_28 pre_29 pre_30 pre_31 pre_32 pre_33 pre_34 pre_35 pre_36 pre_37 pre_38 pre_39 pre_40 gro_size gro_drew gro_drewN drew_gro drewN_gro gro_gro blk_gro frz_gro blk_drew frz_drew blk_drewN frz_drewN blk_alloc_at frz_alloc_at blk_alloc frz_alloc cell_gro frozen_gro cell_alloc_pre frozen_alloc_pre setCell_drewN alloc_drewN setBlk_drew setBlk_drewN setBlk_alloc_at setBlk_alloc setBlk_gro setCell_gro setCell_alloc_pre size_setBlk size_setCell
section
attribute [local go_sem] ppre_1 ppre_2 ppre_3 ppre_4 ppre_5 ppre_6
attribute [local go_sem ↓] bsl_is loadC_is storeC_is loadPt_is storePt_is zvPt_is buildPt_is loadPn_is storePn_is zvPn_is loadCu_is storeCu_is zvCu_is buildCu_is buildPn_is Go.wp_at_zero Go.wp_at_succ
attribute [local go_sem] loadC storeC0 storeCr crA_size loadPt storePt zvPt ptA_size loadPn storePn zvPn pnt_size loadCu storeCu zvCu cu_size buildCu0 buildPnI buildPn2 loadCP loadCA loadCB loadCN loadCG loadCX loadCY cu_P cu_A cu_B cu_N cu_G cu_X cu_Y frz_setBlk blk_setBlk setBlk_setBlk blk_other
theorem tr_new2 (w:World):Tr ((w.alloc (.cells #[.slice none 0 0] 81)).alloc (.cells #[.slice none 0 0] 81)) (w.heap.size+1) (.slice none 0 0) []:=by
 have h:=Tr.new (w.alloc (.cells #[.slice none 0 0] 81))
 have e:(w.alloc (.cells #[.slice none 0 0] 81)).heap.size=w.heap.size+1:=by simp
 rwa [e] at h
theorem awake16_any (w:World):Cg 12 #[] w (.bool true):=by
 have h1:1≤13:=by decide
 have h2:13≤15:=by decide
 obtain ⟨P,hP⟩:∃ P,gQ 13=P:=⟨_,rfl⟩
 have oP:OnQ 13 P:=hP ▸ gQ_on h1 h2
 have HGR:Hid (∀ w,Calls Tryz.prog 8 #[.int .i64 13] w (GetQ 13 w)):=fun w=>getq_yes 13 h1 h2 w
 have HN:Hid (∀ w,Calls Tryz.prog 9 #[.int .i64 13,.agg (pnQ P),.int .i64 4] w (RtW (.tt 4 (mF 13 P)) w)):=fun w=>new_tt (k:=13) h1 h2 oP (by decide) rfl w
 have HS:Hid (∀ w,Cg 9 #[.int .i64 13,.agg (pnQ P),.int .i64 17] w (.tuple #[.pointer none,.int .i64 1602])):=fun w=>new_size (k:=13) h1 h2 oP (by decide) w
 go_enter Tryz.func12,Tryz.ntmps12
 go_upto_region 2 with (go_at_call 8; refine (HGR.out _).mono ?_; rintro e WB ⟨qc,rfl,HQ,GB⟩)
 obtain ⟨e1,he1⟩:∃ b,WB.heap.size=b:=⟨_,rfl⟩
 simp only [he1]
 refine gen_w (fun v=>Gr w v∧Vr v e1 (crA 13 (nN 13) qc)∧∀ j,Sl v (qc j).1 (nN 13 j)) ?_ ?_
 ·subst he1
  exact ⟨GB.alloc _,Vr.new _ _ _,fun j=>(HQ j).gr ((Gr.refl _).alloc _)⟩
 clear he1 GB HQ
 rintro v0 ⟨G,c1,HQ⟩
 refine wp_v false [.c (.agg (crA 13 (nN 13) qc)),.pt (P.1) (P.2.1) P.2.2,.c (.agg (pnt P.1 P.2.1 P.2.2)),.a,.u] [0,1,2] [⟨3,4,27,pnt 0 0 false,fun _=>pnt P.1 P.2.1 P.2.2⟩] ?hs1 ?hv1 ?hf1
 case hs1=>
  exact .cons (.g 32 0 c1 rfl)<|.cons (.k _ fun yy vv hg hh=>RtW.of_pt (rgQ (k:=13) hP qc _ (fun j=>(HQ j).gr hg)))<|.cons (.k (fun yy => #[.agg (ptA (yy 1 0).1 (P.1) (yy 1 0).2 (yy 1 1).1 (P.2.1) (yy 1 1).2 P.2.2)]) fun yy vv hg hh=>RtW.of_c (Rt.c (rout_any _ _ _ _ _ _ _ _ (hh 1 rfl).1 (hh 1 rfl).2))) .nil
 case hv1=>
  refine .cons (.mk (fun _ _ _=>rfl) (fun _ v b H F=>by dsimp only at H ⊢; simp [go_sem,exI,H,F]) zPnt ⟨fkc,fkp bPnt,fkc,fka,fku,trivial⟩) .nil
 intro yw2 v1 hg h2 hV2
 simp only [FW,putFrom,Act.put,lqA,lqB,lqC,wvals,kW,lqD,lqE,Kw.c,Kw.a,Kw.pt,Kw.u]
 obtain ⟨⟨N2_3,V2_3⟩, -⟩:(v0.heap.size≤(yw2 3 0).2∧Vr v1 (yw2 3 0).2 (pnt P.1 P.2.1 P.2.2))∧True:=hV2
 clear h2
 have g2:=hg
 clear hg
 go_upto_region 3 with fail
 refine wp_wS [.c (.agg (pnt P.1 P.2.1 P.2.2)),.tt 4 (mF 13 P),.tt 4 (mF 13 P),.tp 4 (mF 13 P),.c (.int .i64 0),.tp 4 (mF 13 P),.c (.int .i64 0)] [0,1,2,3,4,5] ?hs2 ?hf2
 case hs2=>
  exact .cons (.g 27 0 V2_3 rfl)<|.cons (.k _ fun yy vv hg hh =>  ((HN.out _)))<|.cons (.m 1)<|.cons (.m 2)<|.cons (.m 2)<|.cons (.m 3) .nil
 intro yw3 v2 hg h3
 simp only [FW,putFrom,Act.put,lqA,lqB,lqC,wvals,kW,lqD,lqE,Kw.c,Kw.tp,Kw.tt]
 have T3_5:Tb v2 (yw3 5 0).2 (yw3 5 1).2 (yw3 5 2).2 4 (mF 13 P):=h3 5
 clear h3
 replace g2:=g2.trans hg
 have g3:=hg
 clear hg
 go_upto_region 4 with fail
 refine wp_wS [.c (.int .i64 0),.c (.int .i64 0),.c (.bool false),.c (.bool false),.c (pv ((yw3 5 0).2) 0),.c (.bool false),.c (.bool false)] [1,5] ?hs3 ?hf3
 case hs3=>
  exact .cons (.k _ fun yy vv hg hh=>RtW.of_c (Rt.same (num_any _ _)))<|.cons (.s (.binOp .eql 35 (.const (.pointer (some ⟨(yw3 5 0).2,0,none⟩))) (.const (.pointer none)) 35) rfl fun vv hg=>by simp [go_sem,exI]) .nil
 intro yw4 v3 hg h4
 simp only [FW,putFrom,Act.put,lqA,lqB,lqC,wvals,kW,lqD,lqE,Kw.c,pv]
 clear h4
 replace g2:=g2.trans hg
 replace g3:=g3.trans hg
 have g4:=hg
 clear hg
 replace G:=G.trans g2
 replace c1:=c1.gr g2
 replace HQ:=fun k=>(HQ k).gr g2
 replace V2_3:=V2_3.gr g3
 replace T3_5:=T3_5.gr g4
 clear g2 g3 g4
 go_upto_region 7 with (go_at_call 15; refine (new_any _).mono ?_; rintro e w' ⟨rfl,rfl⟩)
 refine gen_w (fun v=>Gr v3 v∧Tr v (v3.heap.size) (.slice none 0 0) []) ⟨grA,Tr.new _⟩ ?_
 rintro vr ⟨gU,TR0⟩
 go_upto_region 8 with (go_at_call 16; refine (pickR h1 h2 oP T3_5 gU (Nat.le_refl _) TR0 (Nat.zero_le _) (by decide) (by decide) rfl (mlQ_one h1 h2 oP)).mono ?_; rintro e w7 ⟨rfl,z7,hR7,gU7⟩)
 refine gen_w (fun v=>Gr v3 v∧Tr v (v3.heap.size) z7 ([]++ixs 4)∧Vr v (w7.heap.size) (pnt P.1 P.2.1 P.2.2)) ⟨gU7.alloc _,(hR7.lk _ rfl).gr ((Gr.refl _).alloc _),Vr.new _ _ _⟩ ?_
 clear gU  TR0
 rintro v7r ⟨gU,TR0,V7⟩
 clear hR7 gU7
 go_upto_region 8 with fail
 refine wp_v false [.c (pv ((yw3 5 0).2) 0),.c (pv (v3.heap.size) 0),.c (.tuple #[.agg (pnt 0 0 false),.int .i64 1603]),.c (.tuple #[.agg (pnt 0 0 false),.int .i64 1603]),.c (.agg (pnt 0 0 false)),.c (.int .i64 1603),.a,.u,.c (.int .i64 1603)] [2] [⟨6,7,27,pnt 0 0 false,fun _=>pnt 0 0 false⟩] ?hs4 ?hv4 ?hf4
 case hs4=>
  refine .cons (.k _ fun yy vv hg hh=>RtW.of_c (Rt.c (pickE (T3_5.gr (gU.trans hg)) (.pointer (some ⟨v3.heap.size,0,none⟩)) (x:=4) (Or.inr (by decide))))) .nil
 case hv4=>
  refine .cons (.mk (fun _ _ _=>rfl) (fun _ v b H F=>by dsimp only at H ⊢; simp [go_sem,exI,H,F]) zPnt ⟨fkc,fkc,fkc,fkc,fkc,fkc,fka,fku,fkc,trivial⟩) .nil
 intro yw8 v4 hg h8 hV8
 simp only [FW,putFrom,Act.put,lqA,lqB,lqC,wvals,kW,lqD,lqE,Kw.c,pv,Kw.a,Kw.u]
 obtain ⟨⟨N8_6,V8_6⟩, -⟩:(v7r.heap.size≤(yw8 6 0).2∧Vr v4 (yw8 6 0).2 (pnt 0 0 false))∧True:=hV8
 clear h8
 replace gU:=gU.trans hg
 have g8:=hg
 clear hg
 go_upto_region 9 with fail
 refine wp_wS [.c (.agg (pnt P.1 P.2.1 P.2.2)),.c (.tuple #[.pointer none,.int .i64 1602]),.c (.tuple #[.pointer none,.int .i64 1602]),.c (.pointer none),.c (.int .i64 1602),.c (.pointer none),.c (.int .i64 1602)] [0,1] ?hs5 ?hf5
 case hs5=>
  exact .cons (.g 27 0 (V2_3.gr gU) rfl)<|.cons (.k _ fun yy vv hg hh=>RtW.of_c (Rt.c (HS.out _))) .nil
 intro yw9 v5 hg h9
 simp only [FW,putFrom,Act.put,lqA,lqB,lqC,wvals,kW,lqD,lqE,Kw.c]
 clear h9
 replace g8:=g8.trans hg
 replace gU:=gU.trans hg
 have g9:=hg
 clear hg
 go_upto_region 10 with fail
 refine wp_wS [.c (.agg (pnt P.1 P.2.1 P.2.2)),.c (.agg (pnt P.1 P.2.1 P.2.2)),.c (.bool true),.c (.bool true),.c (.int .i64 0),.c (.int .i64 0),.c (.bool true),.c (.bool true),.c (.bool true),.c (.int .i64 1603),.c (.int .i64 1603),.c (.bool true),.c (.bool true),.c (.bool true),.c (.int .i64 1602),.c (.int .i64 1602),.c (.bool true),.c (.bool true),.c (.bool true),.c (pv ((yw3 5 0).2) 0),.c (.int .i64 4),.c (.bool true),.c (.bool true),.c (.bool true),.c (pv (v3.heap.size) 0),.c (.int .i64 4),.c (.bool true),.c (.bool true),.c (.bool true)] [0,1,2,5,10,15,20,25] ?hs6 ?hf6
 case hs6=>
  exact .cons (.g 27 0 (V7.gr g8) rfl)<|.cons (.g 27 0 (V2_3.gr gU) rfl)<|.cons (.s (.binOp .eql 27 (.const (.agg (pnt P.1 P.2.1 P.2.2))) (.const (.agg (pnt P.1 P.2.1 P.2.2))) 27) rfl fun vv hg=>by simp [go_sem,exI,eqPn,eqN_self])<|.cons (.k _ fun yy vv hg hh=>RtW.of_c (Rt.same (num_any _ _)))<|.cons (.k _ fun yy vv hg hh=>RtW.of_c (Rt.same (num_any _ _)))<|.cons (.k _ fun yy vv hg hh=>RtW.of_c (Rt.same (num_any _ _)))<|.cons (.k _ fun yy vv hg hh=>RtW.of_c (Rt.c (sizeT (T3_5.gr (gU.trans hg)))))<|.cons (.k _ fun yy vv hg hh=>RtW.of_c (Rt.same (lenT (TR0.gr (g8.trans hg)) (by decide)))) .nil
 intro yw10 v6 hg h10
 simp only [FW,putFrom,Act.put,lqA,lqB,lqC,wvals,kW,lqD,lqE,Kw.c,pv]
 clear h10
 replace g8:=g8.trans hg
 replace g9:=g9.trans hg
 replace gU:=gU.trans hg
 clear hg
 replace G:=G.trans gU
 replace c1:=c1.gr gU
 replace V2_3:=V2_3.gr gU
 replace HQ:=fun k=>(HQ k).gr gU
 replace T3_5:=T3_5.gr gU
 replace V7:=V7.gr g8
 replace TR0:=TR0.gr g8
 replace V8_6:=V8_6.gr g9
 clear g8 g9 gU
 go_wp2_with fail
 go_ret
 exact ⟨rfl,G⟩
end
end
end Go.Proofs.YtikilbpfhijocaaGreat