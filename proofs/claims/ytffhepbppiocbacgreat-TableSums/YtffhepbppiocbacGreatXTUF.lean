import Derived.Test.YtffhepbppiocbacGreatXTAR
import Derived.Test.YtffhepbppiocbacGreatXTMS
import Derived.Test.YtffhepbppiocbacGreatXTTE
namespace Go.Proofs.YtffhepbppiocbacGreat
open Go.RowKit Go.Proofs.Tryz
set_option maxRecDepth 100000
set_option maxHeartbeats 8000000
section
attribute [local go_sem ↓] uz1
attribute [local go_sem] uz2
section
attribute [local go_sem] uz7
attribute [local go_sem ↓] loadPn_is storePn_is zvPn_is buildPn_is loadEn_is storeEn_is zvEn_is buildEn_is Go.wp_at_zero Go.wp_at_succ
attribute [local go_sem] loadPn storePn zvPn loadPX loadPY buildPn0 buildPn3 buildPnI pnt_size pnt_X pnt_Y pnt_18 loadEn storeEn zvEn buildEn2 buildEn3 ent_size ent_X ent_Y ent_18 ent_set18 frz_setBlk blk_setBlk setBlk_setBlk blk_other
theorem sel_msk(p:Bool){a b:Nat}(ha:a<18446744073709551616)(hb:b<18446744073709551616):sel (msk p) a b=cond p a b:=by
 cases p
 ·show b^^^(0&&&(a^^^b))=b
  rw[Nat.zero_and,Nat.xor_zero]
 ·show b^^^(18446744073709551615&&&(a^^^b))=a
  have h:(a^^^b)&&&(2^64-1)=a^^^b:=Nat.and_two_pow_sub_one_of_lt_two_pow (Nat.xor_lt_two_pow (by omega) (by omega));rw[Nat.and_comm,show (18446744073709551615:Nat)=2^64-1 from rfl,h,Nat.xor_comm a b,←Nat.xor_assoc,Nat.xor_self,Nat.zero_xor]
theorem selN_msk(p:Bool){a b:Nat}(ha:a<M)(hb:b<M):selN (msk p) a b=cond p a b:=by
 grind [selN,sel_msk,wd_lt,ofw_of]
theorem entryOf_any(x y:Nat)(f:Bool)(w:World):Cg 74 #[.agg (pnt x y f)] w (.agg (ent x y (bw f))):=by
 cases f
 all_goals
  go_enter func74,ntmps74
  go_wp2_with fail
  refine bo1 results74 (rd_en (by rfl) ?_) ⟨rfl,grA⟩;simp[go_sem,bw]
theorem point_any(x y:Nat)(f:Bool)(w:World):Cg 76 #[.agg (ent x y (bw f))] w (.agg (pnt x y f)):=by
 have A:(((bw f:Nat):Int) != 0)=f:=by cases f <;> rfl
 go_enter func76,ntmps76
 go_upto_region 1 with fail
 refine gen_w (fun v=>Gr w v∧Vr v (w.heap.size) (ent x y (bw f))∧Vr v (w.heap.size+1) (pnt 0 0 false)) ⟨grA,vrA,vrA⟩ ?_;rintro I ⟨G,i,j⟩;refine wp_wTS 8 [.c (pv (w.heap.size) 0),.N x,.c (pv (w.heap.size) 9),.N y,.c (pv (w.heap.size) 18),.c (.int .u64 ((bw f):Nat)),.c (.bool f),.c (.agg (pnt x y f))] [1,3,5,6] ⟨.g 33 0 i rfl,.g 33 9 i rfl,.o 22 18 i rfl (by exact ent_18 _ _ _),.s (.binOp .neq 22 (.const (.int .u64 ((bw f):Nat))) (.const (.int .u64 0)) 22) rfl fun J d=>by simp[go_sem,exI,A],⟨⟩⟩ (.s 35 (fun B=>pv (w.heap.size+1) 0) (fun B=>.agg (pnt x y f)) fun C D d K=>?_);have q:=(j.gr d).h;have H:=(j.gr d).f;refine⟨setBlk D (w.heap.size+1) (pnt x y f),by simp[go_sem,exI,q,H],?_⟩;simp only[fzw];replace G:=G.trans d
 go_wp2_with fail
 exact bo1 results76 (rd_pn (by rfl) (blk_setBlk _ _ _ (by rw[q];decide +kernel))) ⟨rfl,gr_setNew G (by omega)⟩
theorem over_any(p:Bool)(x y:Nat)(f:Bool)(x' y':Nat)(f':Bool)(hx:x<M)(hy:y<M)(hx':x'<M)(hy':y'<M)(w:World):
 Cg 75 #[.agg (ent x y (bw f)),.agg (ent x' y' (bw f')),.int .u64 (msk p:Nat)] w (.agg (ent (cond p x x') (cond p y y') (cond p (bw f) (bw f')))):=by
 have C:Hid _:=selN_msk p hx hx'▸select_any (msk p) x x' (msk_lt p);have D:Hid _:=selN_msk p hy hy'▸select_any (msk p) y y' (msk_lt p);clear hx hy hx' hy'
 have H:bits .and .u64 (msk p:Nat) (bw f:Nat)=(cond p (bw f) 0:Nat):=by cases p <;> cases f <;> rfl
 have I:bits .xor .u64 (if IntKind.u64.signed=true then -1 else IntKind.u64.max) (msk p:Nat)=(msk (!p):Nat):=by cases p <;> rfl
 have J:bits .and .u64 (msk (!p):Nat) (bw f':Nat)=(cond p 0 (bw f'):Nat):=by cases p <;> cases f' <;> rfl
 have K:bits .or .u64 (cond p (bw f) 0:Nat) (cond p 0 (bw f'):Nat)=(cond p (bw f) (bw f'):Nat):=by cases p <;> cases f <;> cases f' <;> rfl
 go_enter func75,ntmps75
 go_upto_region 1 with fail
 refine gen_w (fun v=>Gr w v∧Vr v (w.heap.size) (ent x y (bw f))∧Vr v (w.heap.size+1) (ent x' y' (bw f'))∧Vr v (w.heap.size+1+1) (ent 0 0 0)) ⟨grA,vrA,vrA,vrA⟩ ?_;rintro U ⟨G,i,j,A⟩;refine wp_wT 23 [.c (.int .u64 (msk p:Nat)),.c (pv (w.heap.size) 0),.N x,.c (pv (w.heap.size+1) 0),.N x',.N (cond p x x'),.c (.int .u64 (msk p:Nat)),.c (pv (w.heap.size) 9),.N y,.c (pv (w.heap.size+1) 9),.N y',.N (cond p y y'),.c (.int .u64 (msk p:Nat)),.c (pv (w.heap.size) 18),.c (.int .u64 ((bw f):Nat)),.c (.int .u64 (cond p (bw f) 0:Nat)),.c (.int .u64 (msk p:Nat)),.c (.int .u64 (msk (!p):Nat)),.c (pv (w.heap.size+1) 18),.c (.int .u64 ((bw f'):Nat)),.c (.int .u64 (cond p 0 (bw f'):Nat)),.c (.int .u64 (cond p (bw f) (bw f'):Nat)),.c (.agg (ent (cond p x x') (cond p y y') (cond p (bw f) (bw f'))))] [2,4,5,8,10,11,14,15,17,19,20,21] ⟨.g 33 0 i rfl,.g 33 0 j rfl,.z C.out,.g 33 9 i rfl,.g 33 9 j rfl,.z D.out,.o 22 18 i rfl (by exact ent_18 _ _ _),.s (.binOp .and 22 (.const (.int .u64 (msk p:Nat))) (.const (.int .u64 ((bw f):Nat))) 22) rfl fun q d=>by simp[go_sem,exI,H],.s (.unOp .xor 22 (.const (.int .u64 (msk p:Nat)))) rfl fun q d=>by simp[go_sem,exI,I],.o 22 18 j rfl (by exact ent_18 _ _ _),.s (.binOp .and 22 (.const (.int .u64 (msk (!p):Nat))) (.const (.int .u64 ((bw f'):Nat))) 22) rfl fun q d=>by simp[go_sem,exI,J],.s (.binOp .or 22 (.const (.int .u64 (cond p (bw f) 0:Nat))) (.const (.int .u64 (cond p 0 (bw f'):Nat))) 22) rfl fun q d=>by simp[go_sem,exI,K],⟨⟩⟩ (.s 121 (fun L=>pv (w.heap.size+1+1) 0) (fun L=>.agg (ent (cond p x x') (cond p y y') (cond p (bw f) (bw f')))) fun P Q d V=>?_);have B:=(A.gr d).h;have S:=(A.gr d).f;refine⟨setBlk Q (w.heap.size+1+1) (ent (cond p x x') (cond p y y') (cond p (bw f) (bw f'))),by simp[go_sem,exI,B,S],?_⟩;simp only[fzw];replace G:=G.trans d
 go_wp2_with fail
 exact bo1 results75 (rd_en (by rfl) (blk_setBlk _ _ _ (by rw[B];decide +kernel))) ⟨rfl,gr_setNew G (by omega)⟩
theorem only_any(i:Int)(w:World):Calls prog 57 #[.int .i64 i] w fun e w'=>e=.returned (.func (.func 79) #[] #[.pointer (some ⟨w.heap.size,0,none⟩)])∧w.alloc (.cells #[.int .i64 i] 3)=w':=by
 go_enter func57,ntmps57
 go_wp2_with fail
 go_ret
 exact⟨rfl,rfl⟩
theorem wanted_any(j i:Nat)(hj:j<9223372036854775808)(hi:i<9223372036854775808)(b:Nat)(w:World)(hv:Vr w b #[.int .i64 i]):Cg 79 #[.int .i64 j,.pointer (some ⟨b,0,none⟩)] w (.int .u64 (msk (decide (j=i)):Nat)):=by
 have d:Hid _:=equal_any j i (by omega) (by omega)
 have f:w.cell? ⟨b,0,none⟩=some (.int .i64 i):=by rw[hv.cell];rfl
 go_enter func79,ntmps79
 go_wp2_with (go_at_call 80;refine(d.out _).mono ?_;rintro e h ⟨rfl,rfl⟩)
 go_ret
 exact⟨rfl,grA⟩
end
section
attribute [local go_sem] uz7
attribute [local go_sem ↓] loadPn_is storePn_is zvPn_is buildPn_is loadEn_is storeEn_is zvEn_is buildEn_is Go.wp_at_zero Go.wp_at_succ
attribute [local go_sem] loadPn storePn zvPn loadPX loadPY buildPn0 buildPn3 buildPnI pnt_size pnt_X pnt_Y pnt_18 loadEn storeEn zvEn buildEn2 buildEn3 ent_size ent_X ent_Y ent_18 ent_set18 frz_setBlk blk_setBlk setBlk_setBlk blk_other
structure GaI(w wr:World)(t:Option Nat)(v v':Value)(xs:List (Int×Int)):Prop where
 r:RecL (w.heap.size+2) w wr t v v' xs
theorem GaI.trans{w wr w2:World}{t:Option Nat}{v v':Value}{xs:List (Int×Int)}(h:GaI w wr t v v' xs)(g:Gr wr w2):GaI w w2 t v v' xs:=⟨h.r.gr g⟩
def gth(f:Nat→Q3)(i j:Nat):Q3:=if i<j then f i else(0,0,false)
theorem gth_succ(f:Nat→Q3)(i j:Nat):gth f i (j+1)=cond (decide (j=i)) (f j) (gth f i j):=by
 unfold gth
 grind
theorem gth_lt{f:Nat→Q3}{i n:Nat}(hi:i<n)(hf:∀i,i<n→(f i).1<M∧(f i).2.1<M)(j:Nat):(gth f i j).1<M∧(gth f i j).2.1<M:=by
 grind [gth]
theorem over_Q(p:Bool)(A D C:Q3)(hA:A.1<M∧A.2.1<M)(hD:D.1<M∧D.2.1<M)(hC:C=cond p A D)(w:World):Cg 75 #[.agg (enQ A),.agg (enQ D),.int .u64 (msk p:Nat)] w (.agg (enQ C)):=by
 subst hC;have h:=over_any p A.1 A.2.1 A.2.2 D.1 D.2.1 D.2.2 hA.1 hA.2 hD.1 hD.2 w
 cases p <;> exact h
theorem gather_any(t:Option Nat)(b g cap n:Nat)(f:Nat→Q3)(hf:∀i,i<n→(f i).1<M∧(f i).2.1<M)(i:Nat)(hi:i<n)(hn:n≤16)(w:World)(v:Value)(xs:List (Int×Int))(hT:Tb w b g cap n f)(ob:¬Ow t v b)(og:¬Ow t v g)(hl:Lk w t v xs)(hx:xs.length≤900000)(c:Nat)(hc:Vr w c #[.int .i64 i])(oc:¬Ow t v c):
 Calls prog 55 #[.pointer (some ⟨b,0,none⟩),.func (.func 56) #[trp t] #[],.func (.func 79) #[] #[.pointer (some ⟨c,0,none⟩)]] w
  fun e w'=>e=.returned (.agg (pnQ (f i)))∧∃v',RecL w.heap.size w w' t v v' (xs++ixs n):=by
 have Q:Hid (Tb w b g cap n f):=hT;have K:Hid (Lk w t v xs):=hl;have X:Hid (Vr w c #[.int .i64 i]):=hc;have Y:Hid (∀i,i<n→(f i).1<M∧(f i).2.1<M):=hf;have HB:Hid (¬Ow t v b∧¬Ow t v g∧¬Ow t v c):=⟨ob,og,oc⟩;have HN:Hid (i<n∧n≤16∧xs.length≤900000):=⟨hi,hn,hx⟩;clear hT hl hc hf ob og oc hi hn hx
 go_enter func55,ntmps55
 go_upto_region 2 with fail
 refine gen_w (fun v=>Hid (Gr w v∧Vr v (w.heap.size) (pnt 0 0 false)∧Vr v (w.heap.size+1) (ent 0 0 0))) ⟨grA,vrA,vrA⟩ ?_;intro v0 J
 have kb:v0.cell? ⟨b,0,none⟩=some (.slice (some ⟨g,0,none⟩) n cap):=by rw[(Q.out.vr.gr J.out.1).cell];rfl
 go_wp2_with fail
 go_loopw [15] (fun ia wr=>∃(j:Nat) (v':Value),ia=.int .i64 j∧Hu (j≤n)∧Hid (RecL (w.heap.size+2) w wr t v v' (xs++ixs j)∧Vr wr (w.heap.size) (pnt 0 0 false)∧Vr wr (w.heap.size+1) (enQ (gth f i j)))) (fun ia _=>((n:Int)-intOf ia).toNat)
 case atStart=>
  obtain⟨G,B,d⟩:=J.out;refine⟨0,v,rfl,fun _=>Nat.zero_le _,?_,B,d⟩;rw[show ixs 0=[] from rfl,List.append_nil];exact(RecL.refl K.out _).gr G
 case round=>
  clear J kb;obtain⟨j,L,rfl,HJ,J⟩:=hrel;obtain⟨q,B,d⟩:=J.out;obtain⟨ob,og,oc⟩:=HB.out;obtain⟨hi,hn,hx⟩:=HN.out
  have j0:(0:Int)≤j:=by omega
  have n4:(n:Int)≤16:=by omega
  by_cases hlt:j<n
  ·have j1:(j:Int)<n:=by omega
   have P:=(Q.out.row.kp q.kp og).load hlt;obtain⟨A,S⟩:=exl (f j);obtain⟨D,U⟩:=exl (gth f i j);obtain⟨C,Z⟩:=exl (gth f i (j+1));have HO:Hid _:=over_Q _ A D C (S▸Y.out j hlt) (U▸gth_lt hi Y.out j) (by rw[←Z,gth_succ,S,U]);rw[S]at P
   have bj:j<9223372036854775808:=by omega
   have bi:i<9223372036854775808:=by omega
   have sz:w.heap.size+1+1≤wr.heap.size:=d.p
   have HI:Hid (∀w4,Gr wr w4→Calls prog 56 #[trp t,.int .i64 j] w4 fun e w'=>∃z v',e=.returned (.int .i64 z)∧RecL w4.heap.size w4 w' t L v' (xs++ixs (j+1))):=fun w4 H=>by
    rw[ixs_succ,←List.append_assoc];exact look_any w4 t L _ _ (q.lk.gr H) (by rw[List.length_append,ixs_length];omega)
   go_upto_region 6 with (go_at_call 56;refine(HI.out _ ?_).mono ?_;exact grA;rintro e w5 ⟨z,V,rfl,I⟩)
   have e4:(wr.alloc (.cells (enQ A) 121)).heap.size=wr.heap.size+1:=by simp
   have H:Gr wr (wr.alloc (.cells (enQ A) 121)):=(Gr.refl _).alloc _
   have W:=(Vr.new wr (enQ A) 121).kp I.kp fun h=>by have:=q.lk.own h;omega
   rw[e4]at I;replace B:=(B.gr H).kp I.kp (q.no (fun h=>by have:=K.out.own h;omega) (by omega));replace d:=(d.gr H).kp I.kp (q.no (fun h=>by have:=K.out.own h;omega) (by omega));have cc:=((X.out.kp q.kp oc).gr H).kp I.kp (q.no oc (by have:c+1≤w.heap.size:=X.out.p;omega));have G:GaI w w5 t v V (xs++ixs (j+1)):=⟨(q.gr H).trans I (by omega) (by omega)⟩;have no:¬Ow t V (w.heap.size+1):=G.r.no (fun h=>by have:=K.out.own h;omega) (by omega);rw[U]at d;clear J q I HI P S U H e4;refine wp_wT 6 [.c (.agg (ent A.1 A.2.1 (bw A.2.2))),.c (.agg (ent D.1 D.2.1 (bw D.2.2))),.c (.func (.func 79) #[] #[pv c 0]),.c (.int .i64 j),.c (.int .u64 (msk (decide (j=i)):Nat)),.c (.agg (ent C.1 C.2.1 (bw C.2.2)))] [0,1,4,5] ⟨.g 121 0 W rfl,.g 121 0 d rfl,.k _ fun yy vv x hh=>RtW.of_c (Rt.c (wanted_any j i bj bi c _ (cc.gr x))),.z HO.out,⟨⟩⟩ (.s 121 (fun yy=>pv (w.heap.size+1) 0) (fun yy=>.agg (ent C.1 C.2.1 (bw C.2.2))) fun aa L x h6=>?_);have Q:=(d.gr x).h;have FT:=(d.gr x).f;refine⟨setBlk L (w.heap.size+1) (ent C.1 C.2.1 (bw C.2.2)),by simp[go_sem,exI,Q,FT],?_⟩;simp only[fzw];clear h6;replace G:=G.trans x;replace W:=W.gr x;replace d:=d.gr x;replace B:=B.gr x
   go_wp2_with fail
   go_roundw
   case rel=>
    refine⟨j+1,V,by go_num,fun _=>hlt,G.r.set _ _ (by omega) no,B.other (by omega),?_⟩;rw[Z];exact d.set (by rw[ent_size];decide) _
   case measure=>simp[intOf];omega
  ·have j1:¬(j:Int)<n:=by omega
   have hj:j=n:=by have:=HJ.out ();omega
   have x:gth f i j=f i:=by unfold gth;rw[if_pos (by omega)]
   rw[x]at d;have⟨h0,f0,p0⟩:=B;have⟨h1,f1,p1⟩:=d;have HP:Hid (∀w,Cg 76 #[.agg (enQ (f i))] w (.agg (pnQ (f i)))):=fun w=>point_any _ _ _ w
   go_wp2_with (go_at_call 76;refine hkA HP fun g=>?_)
   refine bo1 results55 (rd_pn (by rfl) ?_) ⟨rfl,L,?_⟩
   ·simp[go_sem, *]
   ·have h2:=((q.set (w.heap.size) (pnQ (f i)) (by omega) (q.no (fun h=>by have:=K.out.own h;omega) (by omega))).gr ⟨g,rfl⟩).le (m:=w.heap.size) (by omega);rw[hj]at h2;exact h2
theorem pick_any(t:Option Nat)(b g cap n:Nat)(f:Nat→Q3)(hf:∀i,i<n→(f i).1<M∧(f i).2.1<M)(i:Nat)(hi:i<n)(hn:n≤16)(w:World)(v:Value)(xs:List (Int×Int))(hT:Tb w b g cap n f)(ob:¬Ow t v b)(og:¬Ow t v g)(hl:Lk w t v xs)(hx:xs.length≤900000):
 Calls prog 24 #[.pointer (some ⟨b,0,none⟩),trp t,.int .i64 i] w
  fun e w'=>e=.returned (.tuple #[.agg (pnQ (f i)),.int .i64 0])∧∃v',RecL w.heap.size w w' t v v' (xs++ixs n):=by
 have H:w.cell? ⟨b,0,none⟩=some (.slice (some ⟨g,0,none⟩) n cap):=by rw[hT.vr.cell];rfl
 have I:=hT.vr.p
 have A:Hid (∀W c,Gr w W→Vr W c #[.int .i64 i]→w.heap.size<c→Vr W w.heap.size (pnt 0 0 false)→Calls prog 55 #[.pointer (some ⟨b,0,none⟩),.func (.func 56) #[trp t] #[],.func (.func 79) #[] #[.pointer (some ⟨c,0,none⟩)]] W
  fun e w'=>e=.returned (.agg (pnQ (f i)))∧∃v',(RecL (w.heap.size+1) w w' t v v' (xs++ixs n))∧Vr w' w.heap.size (pnt 0 0 false)):=fun W c d B C j=>by
  have no:∀k,w.heap.size≤k→¬Ow t v k:=fun k J h=>by have:=hl.own h;omega
  refine(gather_any t b g cap n f hf i hi hn W v xs (hT.gr d) ob og (hl.gr d) hx c B (no c (by omega))).mono ?_;rintro e w' ⟨rfl,v',q⟩;have:w.heap.size+1≤W.heap.size:=j.p;exact⟨rfl,v',(q.pre d).le (by omega),j.kp q.kp (no _ (Nat.le_refl _))⟩
 have no:¬Ow t v w.heap.size:=fun h=>by have:=hl.own h;omega
 go_enter func24,ntmps24
 go_wp2_with (first
  | (go_at_call 57;refine(only_any _ _).mono ?_;rintro e w' ⟨rfl,rfl⟩)
  | (go_at_call 55;refine(A.out _ _ ?_ ?_ ?_ ?_).mono ?_;exact grA;exact⟨by simp[go_sem],by simp[go_sem],by simp[go_sem]⟩;simp;exact⟨by simp[go_sem],by simp[go_sem],by simp[go_sem]⟩;rintro e K ⟨rfl,D,x,G⟩;have⟨L,P,Q⟩:=G))
 refine bo2 results24 (rd_pn (by rfl) ?_) ⟨rfl,D,(x.set _ _ (Nat.le_refl _) (x.no no (by omega))).le (by omega)⟩;simp[go_sem, *]
theorem pick_no(p:Value)(b g cap n:Nat)(f:Nat→Q3)(i:Int)(hi:i<0∨(n:Int)≤i)(w:World)(hT:Tb w b g cap n f):
 Cg 24 #[.pointer (some ⟨b,0,none⟩),p,.int .i64 i] w (.tuple #[.agg (pnt 0 0 false),.int .i64 1603]):=by
 have d:w.cell? ⟨b,0,none⟩=some (.slice (some ⟨g,0,none⟩) n cap):=by rw[hT.vr.cell];rfl
 have h:=hT.vr.p
 by_cases i0:i<0
 ·go_enter func24,ntmps24
  go_wp2_with fail
  refine bo2 results24 (rd_pn (by rfl) ?_) ⟨rfl,grA⟩;simp[go_sem]
 ·have j:(n:Int)≤i:=by omega
  go_enter func24,ntmps24
  go_wp2_with fail
  refine bo2 results24 (rd_pn (by rfl) ?_) ⟨rfl,grA⟩;simp[go_sem]
theorem size_any(b g cap n:Nat)(f:Nat→Q3)(w:World)(hT:Tb w b g cap n f):Cg 26 #[.pointer (some ⟨b,0,none⟩)] w (.int .i64 n):=by
 have d:w.cell? ⟨b,0,none⟩=some (.slice (some ⟨g,0,none⟩) n cap):=by rw[hT.vr.cell];rfl
 clear hT
 go_enter func26,ntmps26
 go_wp2_with fail
 go_ret
 exact⟨rfl,grA⟩
end
section
attribute [local go_sem] uz7
attribute [local go_sem ↓] zvCu_is storeCu_is loadCu_is loadPn_is storePn_is zvPn_is buildPn_is loadEn_is storeEn_is zvEn_is buildEn_is Go.wp_at_zero Go.wp_at_succ
attribute [local go_sem] zvCu storeCu loadCu cu_size loadPn storePn zvPn loadPX loadPY buildPn0 buildPn3 buildPnI pnt_size pnt_X pnt_Y loadEn storeEn zvEn buildEn2 buildEn3 ent_size frz_setBlk blk_setBlk setBlk_setBlk blk_other
theorem check_size{k:Nat}(h1:1≤k)(h2:k≤15){P:Q3}(lP:P.1<M∧P.2.1<M)(hP:onB k P.1 P.2.1 P.2.2=true)(n:Int)(hn:n<1∨16<n)(w:World):Cg 53 #[.int .i64 k,.agg (pnQ P),.int .i64 n] w (.int .i64 1602):=by
 have d:Hid _:=get13_yes k h1 h2;simp only[cuN]at d;have f:Hid _:=hP▸on13_yes k h1 h2 P.1 P.2.1 P.2.2 lP.1 lP.2
 by_cases n1:n<1
 ·go_enter func53,ntmps53
  go_wp2_with (first|(go_at_call 60;refine hkA d fun h=>?_)|(go_at_call 61;refine hkA f fun i=>?_))
  go_ret
  exact⟨rfl,grA⟩
 ·have j:16<n:=by omega
  go_enter func53,ntmps53
  go_wp2_with (first|(go_at_call 60;refine hkA d fun h=>?_)|(go_at_call 61;refine hkA f fun i=>?_))
  go_ret
  exact⟨rfl,grA⟩
theorem check_yes{k:Nat}(h1:1≤k)(h2:k≤15){P:Q3}(lP:P.1<M∧P.2.1<M)(hP:onB k P.1 P.2.1 P.2.2=true)(n:Int)(hn:1≤n∧n≤16)(w:World):Cg 53 #[.int .i64 k,.agg (pnQ P),.int .i64 n] w (.int .i64 0):=by
 have d:Hid _:=get13_yes k h1 h2;simp only[cuN]at d;have f:Hid _:=hP▸on13_yes k h1 h2 P.1 P.2.1 P.2.2 lP.1 lP.2
 go_enter func53,ntmps53
 go_wp2_with (first|(go_at_call 60;refine hkA d fun h=>?_)|(go_at_call 61;refine hkA f fun i=>?_))
 go_ret
 exact⟨rfl,grA⟩
def bslE(t:TypeId)(n:Nat)(p:Array (Nat×Value)):Sem Value:=Instr.buildSlice t n p
theorem bslE_is(n:Nat)(p:Array (Nat×Value)):Instr.buildSlice 87 n p=bslE 87 n p:=rfl
theorem bslE1(x y z:Nat)(w:World):(bslE 87 1 #[(0,.agg (ent x y z))]).run prog w=.ok (.slice (some ⟨w.heap.size,0,none⟩) 1 1) (w.alloc (.cells (ent x y z) 121)):=by kernel_rfl
attribute [local go_sem ↓] bslE_is
attribute [local go_sem] bslE1
theorem owns_set{w:World}{base b:Nat}{e:TypeId}{s:Nat}{v:Value}{n:Nat}{xs:List Value}(h:w.ownsRow base e s v n xs)(hb:b<base)(d:Array Value):(setBlk w b d).ownsRow base e s v n xs:=
 owns_kept h ((Kp.refl (fun k=>k=b) w).setBlk b d (Or.inl rfl)) fun k f e=>by have:=(h.lt k f).1;omega
def lenV:Value→Nat
 | .slice _ n _=>n
 | _=>0
theorem multiples_any{k:Nat}(h1:1≤k)(h2:k≤15){P:Q3}(oP:OnQ k P)(n:Nat)(hn:1≤n∧n≤16)(w:World):
 Calls prog 54 #[.int .i64 k,.agg (pnQ P),.int .i64 n] w fun e w'=>∃g cap,e=.returned (.slice (some ⟨g,0,none⟩) n cap)∧Er w' g n (fun i=>mlQ k i P)∧Gr w w'∧w.heap.size≤g:=by
 obtain⟨i0,L,Q,S,U⟩:=info_parts Tryz.infoEn;obtain⟨F,hF⟩:∃F:Nat→Q3,(fun i=>mlQ k i P)=F:=⟨_,rfl⟩
 have HA:Hid (∀j w,Cg 25 #[.int .i64 k,.agg (pnQ (F j)),.agg (pnQ P)] w (.tuple #[.agg (pnQ (F (j+1))),.int .i64 0])):=fun j w=>by
  subst hF;exact addQ h1 h2 (mlQ_on h1 h2 j oP) oP (by show _=mlQ k (j+1) P;rw[mlQ_add h1 h2 j 1 oP,mlQ_one h1 h2 oP]) w
 have x:F 0=inf:=by subst hF;exact mlQ_zero h1 h2 P
 rw[hF];have HN:Hid _:=hn;have HE:Hid (∀(A:Q3) w,Cg 74 #[.agg (pnQ A)] w (.agg (enQ A))):=fun A w=>entryOf_any A.1 A.2.1 A.2.2 w
 have V:Hid (∀w,Cg 74 #[.agg (pnt 0 0 true)] w (.agg (enQ (F 0)))):=fun w=>by rw[x];exact entryOf_any 0 0 true w
 have W:Hid _:=x;clear hn hF oP x
 go_enter func54,ntmps54
 go_upto_region 2 with fail
 refine gen_w (fun v=>Hid (Gr w v∧Vr v (w.heap.size) (pnQ P)∧Vr v (w.heap.size+1) (pnt 0 0 true))) ⟨grA,vrA,vrA⟩ ?_;intro v0 B;have X:=B.out.2.2.h
 go_upto_region 3 with (go_at_call 74;refine(V.out _).mono ?_;rintro e D ⟨rfl,Y⟩)
 have e0:pnQ (F 0)=pnt 0 0 true:=by rw[W.out];rfl
 have f:Hid (Gr w (D.alloc (.cells (enQ (F 0)) 121))∧Vr (D.alloc (.cells (enQ (F 0)) 121)) (w.heap.size) (pnQ P)∧Vr (D.alloc (.cells (enQ (F 0)) 121)) (w.heap.size+1) (pnQ (F 0))∧(D.alloc (.cells (enQ (F 0)) 121)).ownsRow (w.heap.size+1+1) 121 19 (.slice (some ⟨D.heap.size,0,none⟩) 1 1) 1 (ens F 1)):=by
  obtain⟨G,H,q⟩:=B.out;have Z:=Y.trans ((Gr.refl _).alloc (.cells (enQ (F 0)) 121));rw[e0];exact⟨G.trans Z,H.gr Z,q.gr Z,owns_mono (owns_first D F) (q.gr Y).p⟩
 clear X B Y e0
 go_loopw [8] (fun sl wr=>∃j:Nat,Hu (j+1≤n)∧lenV sl=j+1∧Hid (Gr w wr∧Vr wr (w.heap.size) (pnQ P)∧Vr wr (w.heap.size+1) (pnQ (F j))∧wr.ownsRow (w.heap.size+1+1) 121 19 sl (j+1) (ens F (j+1)))) (fun sl _=>n-lenV sl)
 case atStart=>exact⟨0,fun _=>HN.out.1,rfl,f⟩
 case round=>
  clear f
  rename_i sl
  obtain⟨j,HJ,hl,f⟩:=hrel;obtain⟨G,H,q,I⟩:=f.out;obtain⟨p,cp,rfl,-,-⟩:=owns_shape I;obtain⟨af,ag⟩:=HN.out
  by_cases hlt:j+1<n
  ·have j1:((j:Int)+1<n):=by omega
   obtain⟨A,hA⟩:=exl (F j);obtain⟨C,hC⟩:=exl (F (j+1))
   have aa:Hid _:=fun w=>by have:=HA.out j w;rw[hA,hC]at this;exact this
   rw[hA]at q;have⟨h0,f0,p0⟩:=H;have⟨ah,f1,p1⟩:=q
   go_upto_region 5 with (go_at_call 25;refine hkA aa fun K=>?_)
   refine gen_w (fun v=>Hid (Gr w v∧Vr v (w.heap.size) (pnQ P)∧Vr v (w.heap.size+1) (pnQ C)∧v.ownsRow (w.heap.size+1+1) 121 19 (.slice p (j+1) cp) (j+1) (ens F (j+1)))) ⟨(gr_setNew G (by omega)).gro K,(H.other (by omega)).gr ⟨K,rfl⟩,(q.set (by rw[pnt_size];decide) _).gr ⟨K,rfl⟩,owns_kept (owns_set I (by omega) _) (Kp.gr ⟨K,rfl⟩ fun _=>False) fun _ _ h=>h⟩ ?_;intro v1 f;have hb:=f.out.2.2.1.h;have ab:Hid (Cg 74 #[.agg (pnQ C)] v1 (.agg (enQ C))):=HE.out C v1
   go_wp2_with (first
    | (go_at_call 74;refine ab.out.mono ?_;rintro e w2 ⟨rfl,gE⟩;have s2:=gE.below.size;have s1:=f.out.2.2.1.p;have ac:=owns_kept f.out.2.2.2 (Kp.gr gE fun _=>False) fun _ _ h=>h)
    | (at_builtin;refine wpList_append_lies _ rfl (.tmp 24) (.tmp 27) 87 rfl (w.heap.size+1+1) 121 i0 _ 19 152 underlying87 L Q S U (ent_size 0 0 0) (by omega) _ (j+1) (ens F (j+1)) rfl (ac.alloc _) ⟨w2.heap.size,0,none⟩ 1 1 (enQ C).toList rfl (by rw[Array.length_toList,ent_size]) (World.news_of_block (heap_alloc_new w2 _)) (fun u hu=>Array.all_eq_true_iff_forall_mem.1 (ent_one _ _ _) u (by simpa using hu)) (by omega) (by unfold maxLen;omega) (by omega) (by simp;unfold Pre at s1;omega) _ rfl ?_;intro g2 cap w3 J d ai ae))
   go_roundw
   case rel=>
    obtain⟨G,H,q,I⟩:=f.out
    have far:∀b,b<w.heap.size+1+1→¬(Value.slice p (j+1) cp).ownBlock=some b:=fun b hb e=>by have:=(I.lt b e).1;omega
    have g3:Gr v1 (w2.alloc (.cells (enQ C) 121)):=gE.alloc _
    refine⟨j+1,fun _=>hlt,rfl,gr_kp (G.trans g3) (Kp.grown d) fun b hb=>far b (by omega),(H.gr g3).kp (Kp.grown d) (far _ (by omega)),?_,?_⟩
    ·rw[hC];exact(q.gr g3).kp (Kp.grown d) (far _ (by omega))
    ·rw[ens_succ F (j+1),hC];exact J
   case measure=>simp[lenV];omega
  ·have hj:j+1=n:=by have:=HJ.out ();omega
   subst hj;obtain⟨g,cap,e,aj,-,he⟩:=Er.of_owns I (by omega)
   injection e with e1 _ e3
   subst e1 e3
   go_wp2_with fail
   exact bo1 results54 (rd_tmp (by rfl)) ⟨g,⟨cp,rfl⟩,he,G,by omega⟩
theorem new_err(id:Int)(P:Q3)(n er:Int)(hne:¬er=0)(w:World)(HC':∀w,Cg 53 #[.int .i64 id,.agg (pnQ P),.int .i64 n] w (.int .i64 er)):
 Cg 22 #[.int .i64 id,.agg (pnQ P),.int .i64 n] w (.tuple #[.pointer none,.int .i64 er]):=by
 have d:Hid _:=HC'
 go_enter func22,ntmps22
 go_wp2_with (go_at_call 53;refine hkA d fun g=>?_)
 go_ret2
 exact⟨rfl,grA⟩
theorem new_yes{k:Nat}(h1:1≤k)(h2:k≤15){P:Q3}(oP:OnQ k P)(n:Nat)(hn:1≤n∧n≤16)(w:World):
 Calls prog 22 #[.int .i64 k,.agg (pnQ P),.int .i64 n] w fun e w'=>∃b g cap,e=.returned (.tuple #[.pointer (some ⟨b,0,none⟩),.int .i64 0])∧Tb w' b g cap n (fun i=>mlQ k i P)∧Gr w w'∧w.heap.size≤b∧w.heap.size≤g:=by
 have h:Hid _:=check_yes h1 h2 oP.lt oP n (by omega);have d:Hid _:=multiples_any h1 h2 oP n hn;obtain⟨F,hF⟩:∃F:Nat→Q3,(fun i=>mlQ k i P)=F:=⟨_,rfl⟩;rw[hF]at d ⊢
 go_enter func22,ntmps22
 go_wp2_with (first
  | (go_at_call 53;refine hkA h fun B=>?_)
  | (go_at_call 54;refine(d.out _).mono ?_;rintro e j ⟨g,cap,rfl,q,x,A⟩))
 go_ret2
 have f:Gr w j:=Gr.trans grA x;exact⟨_,g,cap,rfl,⟨Vr.new _ _ _,q.gr ((Gr.refl _).alloc _)⟩,f.alloc _,f.below.size,(by refine Nat.le_trans (Gr.below ?_).size A;exact grA)⟩
end
end
section
def mF(k:Nat)(P:Q3)(i:Nat):Q3:=mlQ k i P
theorem mF_lt{k:Nat}(h1:1≤k)(h2:k≤15){P:Q3}(oP:OnQ k P)(n:Nat):∀i,i<n→(mF k P i).1<M∧(mF k P i).2.1<M:=fun i _=>(mlQ_on h1 h2 i oP).lt
def Kw.tt(n:Nat)(f:Nat→Q3):Kw:=⟨fun y=>.tuple #[.pointer (some ⟨(y 0).2,0,none⟩),.int .i64 0],fun y w=>Tb w (y 0).2 (y 1).2 (y 2).2 n f,fun _ _ _ h g=>h.gr g,0,fun h=>absurd rfl h,fun h=>absurd h (by decide)⟩
def Kw.tp(n:Nat)(f:Nat→Q3):Kw:=⟨fun y=>.pointer (some ⟨(y 0).2,0,none⟩),fun y w=>Tb w (y 0).2 (y 1).2 (y 2).2 n f,fun _ _ _ h g=>h.gr g,0,fun h=>absurd rfl h,fun h=>absurd h (by decide)⟩
theorem new_tt{k:Nat}(h1:1≤k)(h2:k≤15){P:Q3}(oP:OnQ k P){n:Nat}(hn:1≤n∧n≤16){x:Int}(hx:(n:Int)=x)(w:World):Calls prog 22 #[.int .i64 k,.agg (pnQ P),.int .i64 x] w (RtW (.tt n (mF k P)) w):=by
 subst hx;exact(new_yes h1 h2 oP n hn w).mono fun _ _ ⟨b,g,d,e,f,G,_⟩=>⟨fun i=>match i with|0=>(none,b)|1=>(none,g)|_=>(none,d),e,f,G⟩
theorem new_size{k:Nat}(h1:1≤k)(h2:k≤15){P:Q3}(oP:OnQ k P){x:Int}(hx:x<1∨16<x)(w:World):Cg 22 #[.int .i64 k,.agg (pnQ P),.int .i64 x] w (.tuple #[.pointer none,.int .i64 1602]):=
 new_err _ P x 1602 (by decide) w fun w=>check_size h1 h2 oP.lt oP x hx w
theorem pickM{k:Nat}(h1:1≤k)(h2:k≤15){P:Q3}(oP:OnQ k P){b g cap n:Nat}{w:World}(hT:Tb w b g cap n (mF k P))(hn:n≤16){i:Nat}(hi:i<n){x:Int}(hx:(i:Int)=x){Z:Q3}(hZ:mlQ k i P=Z):
 Cg 24 #[.pointer (some ⟨b,0,none⟩),.pointer none,.int .i64 x] w (.tuple #[.agg (pnQ Z),.int .i64 0]):=by
 subst hx hZ;refine(pick_any none b g cap n (mF k P) (mF_lt h1 h2 oP n) i hi hn w undef [] hT Ow.none Ow.none (Lk.none _ _ _) (by decide)).mono ?_;rintro e f ⟨rfl,j,d⟩;exact⟨rfl,gr_kp (Gr.refl w) d.kp fun b _ h=>Ow.none h⟩
theorem pickR{k:Nat}(h1:1≤k)(h2:k≤15){P:Q3}(oP:OnQ k P){b g cap n:Nat}{u w:World}(hT:Tb u b g cap n (mF k P))(gu:Gr u w){t:Nat}(hu:u.heap.size≤t){v:Value}{xs:List (Int×Int)}(h:Tr w t v xs)(hx:xs.length≤900000)(hn:n≤16){i:Nat}(hi:i<n){x:Int}(hx:(i:Int)=x){Z:Q3}(hZ:mlQ k i P=Z):
 Calls prog 24 #[.pointer (some ⟨b,0,none⟩),.pointer (some ⟨t,0,none⟩),.int .i64 x] w fun e w'=>e=.returned (.tuple #[.agg (pnQ Z),.int .i64 0])∧∃v',RecL w.heap.size w w' (some t) v v' (xs++ixs n)∧Gr u w':=by
 subst hx hZ
 have no:∀c,c<u.heap.size→¬Ow (some t) v c:=fun c j ⟨a,e,f⟩=>by
  cases e
  have:=(h.own c f).1
  omega
 refine(pick_any (some t) b g cap n (mF k P) (mF_lt h1 h2 oP n) i hi hn w v xs (hT.gr gu) (no b hT.vr.p) (no g hT.row.lt) (fun c e=>by cases e;exact h) (by assumption)).mono ?_;rintro e w' ⟨rfl,v',d⟩;exact⟨rfl,v',d,gr_kp gu d.kp no⟩
theorem pickE{b g cap n:Nat}{f:Nat→Q3}{w:World}(hT:Tb w b g cap n f)(p:Value){x:Int}(hx:x<0∨(n:Int)≤x):
 Cg 24 #[.pointer (some ⟨b,0,none⟩),p,.int .i64 x] w (.tuple #[.agg (pnt 0 0 false),.int .i64 1603]):=pick_no p b g cap n f x hx w hT
theorem sizeT{b g cap n:Nat}{f:Nat→Q3}{w:World}(hT:Tb w b g cap n f):Cg 26 #[.pointer (some ⟨b,0,none⟩)] w (.int .i64 n):=size_any b g cap n f w hT
theorem Tr.gr{w w':World}{t:Nat}{v:Value}{xs:List (Int×Int)}(h:Tr w t v xs)(g:Gr w w'):Tr w' t v xs:=h.kept (Kp.gr g fun _=>False) fun _ _ h=>h
theorem lenT{w:World}{t:Nat}{v:Value}{xs:List (Int×Int)}(h:Tr w t v xs){x:Int}(hx:(xs.length:Int)=x):Calls prog 28 #[.pointer (some ⟨t,0,none⟩)] w fun e w'=>e=.returned (.int .i64 x)∧w'=w:=by
 subst hx;exact(Len_tr w t v xs h).mono fun _ _ ⟨e,h⟩=>⟨e,h.symm⟩
theorem rgQ{k:Nat}{P:Q3}(hP:gQ k=P)(qc:Nat→Option Addr×Nat)(w:World)(HQ:∀j,Sl w (qc j).1 (nN k j)):Calls prog 21 #[.agg (crA (k:Int) (nN k) qc)] w (Rt (.pt P.1 P.2.1 P.2.2) w):=by
 subst hP;exact rg_any qc w HQ
theorem rsmI{i:Nat}(hi:i<16){y:Int}(hy:(i:Int)=y)(w:World):Calls prog 29 #[.int .i64 y] w (Rt (.n i) w):=by
 have e:y.toNat=i:=by omega
 exact e▸Rt.n (rsmall_any y (by omega) w)
theorem dl_16{i:Nat}(hi:i<16):dl i≤400:=by have:=dl_M i (lt_M _ (by omega));omega
theorem and_15(x:Int):∃a:Nat,a<16∧bits .and .i64 x 15=(a:Int):=by
 refine⟨(BitVec.ofInt 64 x).toNat%16,Nat.mod_lt _ (by decide),?_⟩
 show IntKind.i64.wrap ((BitVec.ofInt 64 x&&&BitVec.ofInt 64 15).toNat:Int)=_
 rw[BitVec.toNat_and,show (BitVec.ofInt 64 15).toNat=2^4-1 from rfl,Nat.and_two_pow_sub_one_eq_mod,IntKind.wrap_i64]
 omega
theorem len_ixs(n:Nat){x:Int}(hx:(n:Int)=x):((([]++ixs n).length:Nat):Int)=x:=by rw[List.nil_append,ixs_length];exact hx
theorem Tr.far{w w':World}{ta tb n:Nat}{va vb v':Value}{xs ys:List (Int×Int)}(h:Tr w ta va xs)(r:RecL n w w' (some tb) vb v' ys)(hn:∀c,Own ta va c→¬Own tb vb c):Tr w' ta va xs:=
 h.kept r.kp fun c d ⟨a,e,f⟩=>by cases e;exact hn c d f
end
section
attribute [local go_sem ↓] uz1
attribute [local go_sem] uz2
section
attribute [local go_sem] uz7
attribute [local go_sem ↓] uz12 Go.wp_at_zero Go.wp_at_succ
attribute [local go_sem] uz13
theorem awake16_any(w:World):Cg 15 #[] w (.bool true):=by
 have U:1≤13:=by decide
 have D:13≤15:=by decide
 obtain⟨P,hP⟩:=exl (gQ 13);have oP:OnQ 13 P:=hP▸gQ_on U D;have aa:Hid _:=getq_yes 13 U D;have HN:Hid (∀w,Calls prog 22 #[.int .i64 13,.agg (pnQ P),.int .i64 4] w (RtW (.tt 4 (mF 13 P)) w)):=fun w=>new_tt (k:=13) U D oP (by decide) rfl w;have HS:Hid (∀w,Cg 22 #[.int .i64 13,.agg (pnQ P),.int .i64 17] w (.tuple #[.pointer none,.int .i64 1602])):=fun w=>new_size (k:=13) U D oP (by decide) w
 go_enter func15,ntmps15
 go_upto_region 2 with (go_at_call 16;refine(aa.out _).mono ?_;rintro e WB ⟨qc,rfl,H,GB⟩)
 obtain⟨e1,K⟩:=exl (WB.heap.size);simp only[K]
 refine gen_w (fun v=>Gr w v∧Vr v e1 (crA 13 (nN 13) qc)∧∀j,Sl v (qc j).1 (nN 13 j)) ?_ ?_
 ·subst K;exact⟨GB.alloc _,Vr.new _ _ _,fun j=>(H j).gr ((Gr.refl _).alloc _)⟩
 clear K GB H;rintro v0 ⟨G,V,H⟩;refine wp_v false [.c (.agg (crA 13 (nN 13) qc)),.pt (P.1) (P.2.1) P.2.2,.c (.agg (pnQ P)),.a,.u] [0,1,2] [⟨3,4,35,pnt 0 0 false,fun _=>pnQ P⟩] ⟨.g 27 0 V rfl,.k _ fun B L d Q=>RtW.of_pt (rgQ (k:=13) hP qc _ (fun j=>(H j).gr d)),.k (fun B =>#[.agg (ptA (B 1 0).1 (P.1) (B 1 0).2 (B 1 1).1 (P.2.1) (B 1 1).2 P.2.2)]) fun B L d Q=>RtW.of_c (Rt.c (rout_any _ _ _ _ _ _ _ _ (Q 1 rfl).1 (Q 1 rfl).2)),⟨⟩⟩ ⟨.k zPnt ⟨fkc,fkp bPnt,fkc,fka,fku,trivial⟩,⟨⟩⟩ fun W v1 d D ab=>?_;simp only[fzw,Kw.a];obtain⟨⟨ag,f⟩,-⟩:(v0.heap.size≤(W 3 0).2∧Vr v1 (W 3 0).2 (pnQ P))∧True:=ab;clear D;have I:=d;clear d
 go_upto_region 3 with fail
 refine wp_wS [.c (.agg (pnQ P)),.tt 4 (mF 13 P),.tt 4 (mF 13 P),.tp 4 (mF 13 P),.O,.tp 4 (mF 13 P),.O] [0,1,2,3,4,5] ⟨.g 35 0 f rfl,.k _ fun B L d Q =>  ((HN.out _)),.m 1,.m 2,.m 2,.m 3,⟨⟩⟩ fun q v2 d h3=>?_;simp only[fzw,Kw.tp,Kw.tt];have h:Tb v2 (q 5 0).2 (q 5 1).2 (q 5 2).2 4 (mF 13 P):=h3 5;clear h3;replace I:=I.trans d;have g3:=d;clear d
 go_upto_region 4 with fail
 refine wp_wS [.O,.O,.F,.F,.c (pv ((q 5 0).2) 0),.F,.F] [1,5] ⟨.y (num_any _),.s (.binOp .eql 43 (.const (pv ((q 5 0).2) 0)) (.const (.pointer none)) 43) rfl fun L d=>by simp[go_sem,exI],⟨⟩⟩ fun aj S d h4=>?_;simp only[fzw];clear h4;replace I:=I.trans d;replace g3:=g3.trans d;have g4:=d;clear d;replace G:=G.trans I;replace V:=V.gr I;replace H:=fun k=>(H k).gr I;replace f:=f.gr g3;replace h:=h.gr g4;clear I g3 g4
 go_upto_region 7 with (go_at_call 27;refine(new_any _).mono ?_;rintro e w' ⟨rfl,rfl⟩)
 refine gen_w (fun v=>Gr S v∧Tr v (S.heap.size) (.slice none 0 0) []) ⟨grA,Tr.new _⟩ ?_;rintro vr ⟨i,A⟩
 go_upto_region 8 with (go_at_call 24;refine(pickR U D oP h i (Nat.le_refl _) A (Nat.zero_le _) (by decide) (by decide) rfl (mlQ_one U D oP)).mono ?_;rintro e w7 ⟨rfl,z7,X,Y⟩)
 refine gen_w (fun v=>Gr S v∧Tr v (S.heap.size) z7 ([]++ixs 4)∧Vr v (w7.heap.size) (pnQ P)) ⟨Y.alloc _,(X.lk _ rfl).gr ((Gr.refl _).alloc _),Vr.new _ _ _⟩ ?_;clear i  A;rintro ac ⟨i,A,V7⟩;clear X Y
 go_upto_region 8 with fail
 refine wp_v false [.c (pv ((q 5 0).2) 0),.c (pv (S.heap.size) 0),.c (.tuple #[.agg (pnt 0 0 false),.int .i64 1603]),.c (.tuple #[.agg (pnt 0 0 false),.int .i64 1603]),.c (.agg (pnt 0 0 false)),.c (.int .i64 1603),.a,.u,.c (.int .i64 1603)] [2] [⟨6,7,35,pnt 0 0 false,fun _=>pnt 0 0 false⟩] ⟨.k _ fun B L d Q=>RtW.of_c (Rt.c (pickE (h.gr (i.trans d)) (.pointer (some ⟨S.heap.size,0,none⟩)) (x:=4) (Or.inr (by decide)))),⟨⟩⟩ ⟨.k zPnt (.t rfl),⟨⟩⟩ fun Z v4 d h8 ae=>?_;simp only[fzw,Kw.a];obtain⟨⟨ah,J⟩,-⟩:(ac.heap.size≤(Z 6 0).2∧Vr v4 (Z 6 0).2 (pnt 0 0 false))∧True:=ae;clear h8;replace i:=i.trans d;have C:=d;clear d
 go_upto_region 9 with fail
 refine wp_wS [.c (.agg (pnQ P)),.c (.tuple #[.pointer none,.int .i64 1602]),.c (.tuple #[.pointer none,.int .i64 1602]),.c (.pointer none),.c (.int .i64 1602),.c (.pointer none),.c (.int .i64 1602)] [0,1] ⟨.g 35 0 (f.gr i) rfl,.z HS.out,⟨⟩⟩ fun ak v5 d h9=>?_;simp only[fzw];clear h9;replace C:=C.trans d;replace i:=i.trans d;have g9:=d;clear d
 go_upto_region 10 with fail
 refine wp_wS [.c (.agg (pnQ P)),.c (.agg (pnQ P)),.T,.T,.O,.O,.T,.T,.T,.c (.int .i64 1603),.c (.int .i64 1603),.T,.T,.T,.c (.int .i64 1602),.c (.int .i64 1602),.T,.T,.T,.c (pv ((q 5 0).2) 0),.c (.int .i64 4),.T,.T,.T,.c (pv (S.heap.size) 0),.c (.int .i64 4),.T,.T,.T] [0,1,2,5,10,15,20,25] ⟨.g 35 0 (V7.gr C) rfl,.g 35 0 (f.gr i) rfl,.s (.binOp .eql 35 (.const (.agg (pnQ P))) (.const (.agg (pnQ P))) 35) rfl fun L d=>by simp[go_sem,exI,eqPn,eqN_self],.y (num_any _),.y (num_any _),.y (num_any _),.k _ fun B L d Q=>RtW.of_c (Rt.c (sizeT (h.gr (i.trans d)))),.k _ fun B L d Q=>RtW.of_c (Rt.same (lenT (A.gr (C.trans d)) (by decide))),⟨⟩⟩ fun ai v6 d af=>?_;simp only[fzw];clear af;replace C:=C.trans d;replace g9:=g9.trans d;replace i:=i.trans d;clear d;replace G:=G.trans i;replace V:=V.gr i;replace f:=f.gr i;replace H:=fun k=>(H k).gr i;replace h:=h.gr i;replace V7:=V7.gr C;replace A:=A.gr C;replace J:=J.gr g9;clear C g9 i
 go_wp2_with fail
 go_ret
 exact⟨rfl,G⟩
end
end
end Go.Proofs.YtffhepbppiocbacGreat