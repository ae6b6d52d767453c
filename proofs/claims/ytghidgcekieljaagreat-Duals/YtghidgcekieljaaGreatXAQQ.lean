import Derived.Test.YtghidgcekieljaaGreatXAAU
import Derived.Test.YtghidgcekieljaaGreatXAMS
import Derived.Test.YtghidgcekieljaaGreatXAVD
import Derived.Test.YtghidgcekieljaaGreatXAVC
namespace Go.Proofs.YtghidgcekieljaaGreat
open Go.RowKit Go.Proofs.Tryz
set_option maxRecDepth 100000
set_option maxHeartbeats 8000000
section
attribute [local go_sem ↓] uz1
attribute [local go_sem] uz2
section
attribute [local go_sem] uz8
attribute [local go_sem ↓] loadPn_is storePn_is zvPn_is buildPn_is loadEn_is storeEn_is zvEn_is buildEn_is Go.wp_at_zero Go.wp_at_succ
attribute [local go_sem] loadPn storePn zvPn loadPX loadPY buildPn0 buildPn3 buildPnI pnt_size pnt_X pnt_Y pnt_18 loadEn storeEn zvEn buildEn2 buildEn3 ent_size ent_X ent_Y ent_18 ent_set18 frz_setBlk blk_setBlk setBlk_setBlk blk_other
theorem sel_msk(p:Bool){a b:Nat}(ha:a<18446744073709551616)(hb:b<18446744073709551616):sel (msk p) a b=cond p a b:=by
 cases p
 ·show b^^^(0&&&(a^^^b))=b
  rw[Nat.zero_and,Nat.xor_zero]
 ·show b^^^(18446744073709551615&&&(a^^^b))=a
  have h:(a^^^b)&&&(2^64-1)=a^^^b:=Nat.and_two_pow_sub_one_of_lt_two_pow (Nat.xor_lt_two_pow (by omega) (by omega));rw[Nat.and_comm,show (18446744073709551615:Nat)=2^64-1 from rfl,h,Nat.xor_comm a b,←Nat.xor_assoc,Nat.xor_self,Nat.zero_xor]
theorem selN_msk(p:Bool){a b:Nat}(ha:a<M)(hb:b<M):selN (msk p) a b=cond p a b:=by
 unfold selN;rw[ofw_congr (g:=fun i=>wd (cond p a b) i) (fun i=>by rw[sel_msk p (wd_lt a i) (wd_lt b i)];cases p <;> rfl)];exact ofw_of _ _ (by cases p <;> assumption) fun _=>rfl
theorem entryOf_any(x y:Nat)(f:Bool)(w:World):Cg 134 #[.agg (pnt x y f)] w (.agg (ent x y (bw f))):=by
 cases f
 all_goals
  go_enter func134,ntmps134
  go_wp2_with fail
  refine bodyPost_ret (res_one results134 (rd_en (by rfl) ?_)) rfl ⟨rfl,grA⟩;simp[go_sem,bw]
theorem point_any(x y:Nat)(f:Bool)(w:World):Cg 136 #[.agg (ent x y (bw f))] w (.agg (pnt x y f)):=by
 have hd:(((bw f:Nat):Int) != 0)=f:=by cases f <;> rfl
 go_enter func136,ntmps136
 go_upto_region 1 with fail
 refine gen_w (fun v=>Gr w v∧Vr v (w.heap.size) (ent x y (bw f))∧Vr v (w.heap.size+1) (pnt 0 0 false)) ⟨grA,vrA,vrA⟩ ?_;rintro v0 ⟨G,c0,c1⟩;refine wp_wTS 8 [.c (pv (w.heap.size) 0),.N x,.c (pv (w.heap.size) 9),.N y,.c (pv (w.heap.size) 18),.c (.int .u64 ((bw f):Nat)),.c (.bool f),.c (.agg (pnt x y f))] [1,3,5,6] ⟨.g 25 0 c0 rfl,.g 25 9 c0 rfl,.o 22 18 c0 rfl (by exact ent_18 _ _ _),.s (.binOp .neq 22 (.const (.int .u64 ((bw f):Nat))) (.const (.int .u64 0)) 22) rfl fun vv hg=>by simp[go_sem,exI,hd],⟨⟩⟩ (.s 27 (fun yy=>.pointer (some ⟨w.heap.size+1,0,none⟩)) (fun yy=>.agg (pnt x y f)) fun yw1 v1 hg h1=>?_);have HT:=(c1.gr hg).h;have FT:=(c1.gr hg).f;refine⟨setBlk v1 (w.heap.size+1) (pnt x y f),by simp[go_sem,exI,HT,FT],?_⟩;simp only[fzw];replace G:=G.trans hg
 go_wp2_with fail
 exact bodyPost_ret (res_one results136 (rd_pn (by rfl) (blk_setBlk _ _ _ (by rw[HT];decide +kernel)))) rfl ⟨rfl,gr_setNew G (by omega)⟩
theorem over_any(p:Bool)(x y:Nat)(f:Bool)(x' y':Nat)(f':Bool)(hx:x<M)(hy:y<M)(hx':x'<M)(hy':y'<M)(w:World):
 Cg 135 #[.agg (ent x y (bw f)),.agg (ent x' y' (bw f')),.int .u64 (msk p:Nat)] w (.agg (ent (cond p x x') (cond p y y') (cond p (bw f) (bw f')))):=by
 have HX:Hid _:=selN_msk p hx hx'▸select_any (msk p) x x' (msk_lt p);have HY:Hid _:=selN_msk p hy hy'▸select_any (msk p) y y' (msk_lt p);clear hx hy hx' hy'
 have a1:bits .and .u64 (msk p:Nat) (bw f:Nat)=(cond p (bw f) 0:Nat):=by cases p <;> cases f <;> rfl
 have a2:bits .xor .u64 (if IntKind.u64.signed=true then -1 else IntKind.u64.max) (msk p:Nat)=(msk (!p):Nat):=by cases p <;> rfl
 have a3:bits .and .u64 (msk (!p):Nat) (bw f':Nat)=(cond p 0 (bw f'):Nat):=by cases p <;> cases f' <;> rfl
 have a4:bits .or .u64 (cond p (bw f) 0:Nat) (cond p 0 (bw f'):Nat)=(cond p (bw f) (bw f'):Nat):=by cases p <;> cases f <;> cases f' <;> rfl
 go_enter func135,ntmps135
 go_upto_region 1 with fail
 refine gen_w (fun v=>Gr w v∧Vr v (w.heap.size) (ent x y (bw f))∧Vr v (w.heap.size+1) (ent x' y' (bw f'))∧Vr v (w.heap.size+1+1) (ent 0 0 0)) ⟨grA,vrA,vrA,vrA⟩ ?_;rintro v0 ⟨G,c0,c1,c2⟩;refine wp_wT 23 [.c (.int .u64 (msk p:Nat)),.c (pv (w.heap.size) 0),.N x,.c (pv (w.heap.size+1) 0),.N x',.N (cond p x x'),.c (.int .u64 (msk p:Nat)),.c (pv (w.heap.size) 9),.N y,.c (pv (w.heap.size+1) 9),.N y',.N (cond p y y'),.c (.int .u64 (msk p:Nat)),.c (pv (w.heap.size) 18),.c (.int .u64 ((bw f):Nat)),.c (.int .u64 (cond p (bw f) 0:Nat)),.c (.int .u64 (msk p:Nat)),.c (.int .u64 (msk (!p):Nat)),.c (pv (w.heap.size+1) 18),.c (.int .u64 ((bw f'):Nat)),.c (.int .u64 (cond p 0 (bw f'):Nat)),.c (.int .u64 (cond p (bw f) (bw f'):Nat)),.c (.agg (ent (cond p x x') (cond p y y') (cond p (bw f) (bw f'))))] [2,4,5,8,10,11,14,15,17,19,20,21] ⟨.g 25 0 c0 rfl,.g 25 0 c1 rfl,.z HX.out,.g 25 9 c0 rfl,.g 25 9 c1 rfl,.z HY.out,.o 22 18 c0 rfl (by exact ent_18 _ _ _),.s (.binOp .and 22 (.const (.int .u64 (msk p:Nat))) (.const (.int .u64 ((bw f):Nat))) 22) rfl fun vv hg=>by simp[go_sem,exI,a1],.s (.unOp .xor 22 (.const (.int .u64 (msk p:Nat)))) rfl fun vv hg=>by simp[go_sem,exI,a2],.o 22 18 c1 rfl (by exact ent_18 _ _ _),.s (.binOp .and 22 (.const (.int .u64 (msk (!p):Nat))) (.const (.int .u64 ((bw f'):Nat))) 22) rfl fun vv hg=>by simp[go_sem,exI,a3],.s (.binOp .or 22 (.const (.int .u64 (cond p (bw f) 0:Nat))) (.const (.int .u64 (cond p 0 (bw f'):Nat))) 22) rfl fun vv hg=>by simp[go_sem,exI,a4],⟨⟩⟩ (.s 175 (fun yy=>.pointer (some ⟨w.heap.size+1+1,0,none⟩)) (fun yy=>.agg (ent (cond p x x') (cond p y y') (cond p (bw f) (bw f')))) fun yw1 v1 hg h1=>?_);have HT:=(c2.gr hg).h;have FT:=(c2.gr hg).f;refine⟨setBlk v1 (w.heap.size+1+1) (ent (cond p x x') (cond p y y') (cond p (bw f) (bw f'))),by simp[go_sem,exI,HT,FT],?_⟩;simp only[fzw];replace G:=G.trans hg
 go_wp2_with fail
 exact bodyPost_ret (res_one results135 (rd_en (by rfl) (blk_setBlk _ _ _ (by rw[HT];decide +kernel)))) rfl ⟨rfl,gr_setNew G (by omega)⟩
theorem only_any(i:Int)(w:World):Calls prog 102 #[.int .i64 i] w fun e w'=>e=.returned (.func (.func 139) #[] #[.pointer (some ⟨w.heap.size,0,none⟩)])∧w.alloc (.cells #[.int .i64 i] 3)=w':=by
 go_enter func102,ntmps102
 go_wp2_with fail
 go_ret
 exact⟨rfl,rfl⟩
theorem wanted_any(j i:Nat)(hj:j<9223372036854775808)(hi:i<9223372036854775808)(b:Nat)(w:World)(hv:Vr w b #[.int .i64 (i:Int)]):Cg 139 #[.int .i64 (j:Int),.pointer (some ⟨b,0,none⟩)] w (.int .u64 (msk (decide (j=i)):Nat)):=by
 have HE:Hid _:=equal_any j i (by omega) (by omega)
 have hc:w.cell? ⟨b,0,none⟩=some (.int .i64 (i:Int)):=by rw[hv.cell];rfl
 go_enter func139,ntmps139
 go_wp2_with (go_at_call 140;refine(HE.out _).mono ?_;rintro e w' ⟨rfl,rfl⟩)
 go_ret
 exact⟨rfl,grA⟩
end
section
attribute [local go_sem] uz8
attribute [local go_sem ↓] loadPn_is storePn_is zvPn_is buildPn_is Go.wp_at_zero Go.wp_at_succ
attribute [local go_sem] loadPn storePn zvPn loadPX loadPY buildPn0 buildPn3 buildPnI pnt_size pnt_X pnt_Y pnt_18 frz_setBlk blk_setBlk setBlk_setBlk blk_other
attribute [local go_sem ↓] uz13
attribute [local go_sem] uz14
theorem mbelow_any{a b:Nat}(ha:a<M)(hb:b<M)(w:World):Cg 47 #[.agg (nw 9 a),.agg (nw 9 b)] w (.bool (decide (a<b))):=by
 have HS:Hid _:=sub_any a b ha hb;obtain⟨r,hr⟩:=exl ((a+M-b)%M);obtain⟨f,hf⟩:=exl (decide (a<b));rw[hr,hf]at HS;rw[hf]
 go_enter func47,ntmps47
 go_wp2_with (go_at_call 69;refine(HS.out _).mono ?_;rintro e w' ⟨rfl,g,rfl⟩)
 go_ret
 exact⟨rfl,grA⟩
theorem pnt_wX(x y:Nat)(f:Bool){j:Nat}(hj:j<9):(pnt x y f)[j]? = some (.int .u64 (wd x j:Nat)):=by
 obtain rfl|rfl|rfl|rfl|rfl|rfl|rfl|rfl|rfl:j=0∨j=1∨j=2∨j=3∨j=4∨j=5∨j=6∨j=7∨j=8:=by omega
 all_goals kernel_rfl
theorem pnt_wY(x y:Nat)(f:Bool){j:Nat}(hj:j<9):(pnt x y f)[9+j]? = some (.int .u64 (wd y j:Nat)):=by
 obtain rfl|rfl|rfl|rfl|rfl|rfl|rfl|rfl|rfl:j=0∨j=1∨j=2∨j=3∨j=4∨j=5∨j=6∨j=7∨j=8:=by omega
 all_goals kernel_rfl
theorem Vr.atX{w v:World}{b x y:Nat}{f:Bool}(h:Vr w b (pnt x y f)){j:Nat}(hj:j<9)(g:Gr w v):v.cell? ⟨b,j,none⟩=some (.int .u64 (wd x j:Nat)):=by rw[(h.gr g).cell];exact pnt_wX x y f hj
theorem Vr.atY{w v:World}{b x y:Nat}{f:Bool}(h:Vr w b (pnt x y f)){j:Nat}(hj:j<9)(g:Gr w v):v.cell? ⟨b,9+j,none⟩=some (.int .u64 (wd y j:Nat)):=by rw[(h.gr g).cell];exact pnt_wY x y f hj
theorem or_zero{a b:Nat}:a|||b=0↔a=0∧b=0:=Nat.or_eq_zero_iff
theorem words_0{x:Nat}(lx:x<M)(h:∀i,i<9→wd x i=0):x=0:=by
 have e:=ofw_of (fun i=>wd x i) x lx (fun _=>rfl)
 rw[←e,ofw_congr fun i=>?_]
 ·exact ofw_of _ 0 (by decide +kernel) fun _=>rfl
 ·by_cases hi:i<9
  ·rw[h i hi];unfold wd;simp
  ·have h0:wd x i=0:=by
    unfold wd;rw[Nat.div_eq_of_lt (Nat.lt_of_lt_of_le lx (show M≤pw i by rw[show i=9+(i-9) by omega];exact pw_mono 9 _))]
   rw[h0];unfold wd;simp
theorem mtri_raw(x y:Nat)(f:Bool)(lx:x<M)(ly:y<M)(hz:(x=0∧y=0)↔f=true)(w:World):Cg 70 #[.agg (pnt x y f)] w (.agg (prj x (cond f 1 y) (cond f 0 1))):=by
 have HS:Hid _:=small_any 1 (by decide);have H1:Hid _:=selN_msk f (a:=1) (by decide +kernel) ly▸select_any (msk f) 1 y (msk_lt f);have H2:Hid _:=selN_msk f (a:=0) (b:=1) (by decide +kernel) (by decide +kernel)▸select_any (msk f) 0 1 (msk_lt f)
 have HF:Hid ((∀i,i<9→wd x i=0∧wd y i=0)↔f=true):=by
  refine Iff.trans ⟨fun h=>⟨words_0 lx fun i hi=>(h i hi).1,words_0 ly fun i hi=>(h i hi).2⟩,fun⟨a,b⟩ i _=>?_⟩ hz;subst a b;exact⟨by unfold wd;simp,by unfold wd;simp⟩
 clear hz lx ly
 go_enter func70,ntmps70
 go_upto_region 1 with fail
 refine gen_w (fun v=>Hid (Gr w v∧Vr v (w.heap.size) (pnt x y f)∧Vr v (w.heap.size+1) (prj 0 0 0))) ⟨grA,vrA,vrA⟩ ?_;intro v0 HV
 go_wp2_with fail
 go_loopw [3,7] (fun qa ia wr=>∃(j q:Nat),qa=.int .u64 (q:Int)∧ia=.int .i64 (j:Int)∧Hu (j≤9∧q<18446744073709551616∧(q=0↔∀i,i<j→wd x i=0∧wd y i=0))∧Hid (Gr w wr∧Vr wr (w.heap.size) (pnt x y f)∧Vr wr (w.heap.size+1) (prj 0 0 0))) (fun _ ia _=>9-(intOf ia).toNat)
 case atStart=>exact⟨0,0,rfl,rfl,fun _=>⟨by decide,by decide,by simp⟩,HV⟩
 case round=>
  clear HV;obtain⟨j,q,rfl,rfl,HJ,HV⟩:=hrel;obtain⟨G,c0,c1⟩:=HV.out;obtain⟨jl,hq,hz⟩:=HJ.out ();clear HJ HV
  have j0:(0:Int)≤(j:Int):=by omega
  by_cases j9:j<9
  ·have j9i:(j:Int)<9:=by omega
   have lo:=or_lt (wd_lt x j) (wd_lt y j);have o1:=bits_or_u64_nat _ _ (wd_lt x j) (wd_lt y j);have HV2:Hid (Gr w wr∧Vr wr (w.heap.size) (pnt x y f)∧Vr wr (w.heap.size+1) (prj 0 0 0)):=⟨G,c0,c1⟩;have o2:=bits_or_u64_nat _ _ hq lo;have kX:=c0.atX j9 (Gr.refl _);have kY:=c0.atY j9 (Gr.refl _);clear c0 c1 G
   go_upto_region 5 with fail
   go_quiet (fail)
   go_wp2_with fail
   go_roundw
   case rel=>
    refine⟨j+1,_,rfl,by go_num,fun _=>⟨j9,or_lt hq lo,?_⟩,HV2.out.1.drewN _,HV2.out.2.1.gr ((Gr.refl _).drewN _),HV2.out.2.2.gr ((Gr.refl _).drewN _)⟩;rw[or_zero,or_zero,hz]
    constructor
    ·intro⟨a,b⟩ i hi
     by_cases e:i=j
     ·subst e;exact b
     ·exact a i (by omega)
    ·intro h;exact⟨fun i hi=>h i (by omega),h j (by omega)⟩
   case measure=>simp[intOf];omega
  ·have j9i:¬(j:Int)<9:=by omega
   have hj:j=9:=by omega
   subst hj
   have HZ:Hid _:=fun w=>by
    have e:decide (q=0)=f:=by
     have h:=hz.trans HF.out
     cases f
     ·exact decide_eq_false fun e=>by have:=h.1 e;cases this
     ·exact decide_eq_true (h.2 rfl)
    have:=zero_any q hq w
    rwa [e]at this
   go_upto_region 7 with fail
   refine wp_wS [.c (.int .u64 (q:Int)),.c (.int .u64 (msk f:Nat)),.c (.int .u64 (msk f:Nat))] [1] ⟨.y HZ.out,⟨⟩⟩ fun yw7 v1 hg h7=>?_;simp only[fzw];clear h7;replace G:=G.trans hg;replace c0:=c0.gr hg;replace c1:=c1.gr hg;clear hg
   go_upto_region 8 with fail
   refine wp_v false [.N 1,.a,.u] [0] [⟨1,2,25,nw 9 0,fun _=>nw 9 1⟩] ⟨.z HS.out,⟨⟩⟩ ⟨.k zNat (.t rfl),⟨⟩⟩ fun yw8 v2 hg h8 hV8=>?_;simp only[fzw,Kw.a];obtain⟨⟨N8_1,V8_1⟩,-⟩:=hV8;clear h8;replace G:=G.trans hg;replace c0:=c0.gr hg;replace c1:=c1.gr hg
   go_upto_region 9 with fail
   refine wp_wT 12 [.c (pv (w.heap.size) 0),.N x,.c (.int .u64 (msk f:Nat)),.N 1,.c (pv (w.heap.size) 9),.N y,.N (cond f 1 y),.c (.int .u64 (msk f:Nat)),.N 0,.N 1,.N (cond f 0 1),.c (.agg (prj x (cond f 1 y) (cond f 0 1)))] [1,3,5,6,9,10] ⟨.g 25 0 c0 rfl,.g 25 0 V8_1 rfl,.g 25 9 c0 rfl,.z H1.out,.g 25 0 V8_1 rfl,.z H2.out,⟨⟩⟩ (.s 74 (fun yy=>.pointer (some ⟨w.heap.size+1,0,none⟩)) (fun yy=>.agg (prj x (cond f 1 y) (cond f 0 1))) fun yw9 v3 hg h9=>?_);have HT:=(c1.gr hg).h;have FT:=(c1.gr hg).f;refine⟨setBlk v3 (w.heap.size+1) (prj x (cond f 1 y) (cond f 0 1)),by simp[go_sem,exI,HT,FT],?_⟩;simp only[fzw];replace G:=G.trans hg
   go_wp2_with fail
   exact bodyPost_ret (res_one results70 (rd_pj (by rfl) (blk_setBlk _ _ _ (by rw[HT];decide +kernel)))) rfl ⟨rfl,gr_setNew G (by omega)⟩
theorem rh_0(i:Nat)(h1:1≤i)(h2:i≤15):rhN i 0≠0:=by
 obtain rfl|rfl|rfl|rfl|rfl|rfl|rfl|rfl|rfl|rfl|rfl|rfl|rfl|rfl|rfl:i=1∨i=2∨i=3∨i=4∨i=5∨i=6∨i=7∨i=8∨i=9∨i=10∨i=11∨i=12∨i=13∨i=14∨i=15:=by omega
 all_goals decide +kernel
theorem onQ_00{k:Nat}(h1:1≤k)(h2:k≤15){P:Q3}(o:OnQ k P):(P.1=0∧P.2.1=0)↔P.2.2=true:=by
 rcases o.cases with rfl|⟨x,y,rfl,-,-,e⟩
 ·exact⟨fun _=>rfl,fun _=>⟨rfl,rfl⟩⟩
 ·refine⟨fun⟨a,b⟩=>?_,fun h=>by cases h⟩;subst a b;rw[Nat.zero_mul,Nat.zero_mod]at e;exact absurd e.symm (rh_0 k h1 h2)
theorem mtriQ{k:Nat}(h1:1≤k)(h2:k≤15){P:Q3}(oP:OnQ k P){T:T3}(hT:frT P=T)(w:World):Cg 70 #[.agg (pnQ P)] w (.agg (pjT T)):=by
 subst hT;have h:=mtri_raw P.1 P.2.1 P.2.2 oP.lt.1 oP.lt.2 (onQ_00 h1 h2 oP) w
 rcases oP.cases with rfl|⟨x,y,rfl,-⟩
 ·exact h
 ·exact h
end
section
attribute [local go_sem] uz8
attribute [local go_sem ↓] loadPn_is storePn_is zvPn_is buildPn_is loadEn_is storeEn_is zvEn_is buildEn_is Go.wp_at_zero Go.wp_at_succ
attribute [local go_sem] loadPn storePn zvPn loadPX loadPY buildPn0 buildPn3 buildPnI pnt_size pnt_X pnt_Y pnt_18 loadEn storeEn zvEn buildEn2 buildEn3 ent_size ent_X ent_Y ent_18 ent_set18 frz_setBlk blk_setBlk setBlk_setBlk blk_other
structure GaI(w wr:World)(t:Option Nat)(v v':Value)(xs:List (Int×Int)):Prop where
 r:RecL (w.heap.size+2) w wr t v v' xs
theorem GaI.trans{w wr w2:World}{t:Option Nat}{v v':Value}{xs:List (Int×Int)}(h:GaI w wr t v v' xs)(g:Gr wr w2):GaI w w2 t v v' xs:=⟨h.r.gr g⟩
def gth(f:Nat→Q3)(i j:Nat):Q3:=if i<j then f i else(0,0,false)
theorem gth_succ(f:Nat→Q3)(i j:Nat):gth f i (j+1)=cond (decide (j=i)) (f j) (gth f i j):=by
 unfold gth
 by_cases e:j=i
 ·subst e;simp
 ·by_cases h:i<j
  ·simp[e,h,Nat.lt_succ_of_lt h]
  ·have h2:¬i<j+1:=by omega
   simp[e,h,h2]
theorem gth_lt{f:Nat→Q3}{i n:Nat}(hi:i<n)(hf:∀i,i<n→(f i).1<M∧(f i).2.1<M)(j:Nat):(gth f i j).1<M∧(gth f i j).2.1<M:=by
 unfold gth
 split
 ·exact hf i hi
 ·exact⟨by decide +kernel,by decide +kernel⟩
theorem over_Q(p:Bool)(A D C:Q3)(hA:A.1<M∧A.2.1<M)(hD:D.1<M∧D.2.1<M)(hC:C=cond p A D)(w:World):Cg 135 #[.agg (enQ A),.agg (enQ D),.int .u64 (msk p:Nat)] w (.agg (enQ C)):=by
 subst hC;have h:=over_any p A.1 A.2.1 A.2.2 D.1 D.2.1 D.2.2 hA.1 hA.2 hD.1 hD.2 w
 cases p <;> exact h
theorem gather_any(t:Option Nat)(b g cap n:Nat)(f:Nat→Q3)(hf:∀i,i<n→(f i).1<M∧(f i).2.1<M)(i:Nat)(hi:i<n)(hn:n≤16)(w:World)(v:Value)(xs:List (Int×Int))(hT:Tb w b g cap n f)(ob:¬Ow t v b)(og:¬Ow t v g)(hl:Lk w t v xs)(hx:xs.length≤900000)(c:Nat)(hc:Vr w c #[.int .i64 (i:Int)])(oc:¬Ow t v c):
 Calls prog 100 #[.pointer (some ⟨b,0,none⟩),.func (.func 101) #[trp t] #[],.func (.func 139) #[] #[.pointer (some ⟨c,0,none⟩)]] w
  fun e w'=>e=.returned (.agg (pnQ (f i)))∧∃v',RecL w.heap.size w w' t v v' (xs++ixs n):=by
 have HT:Hid (Tb w b g cap n f):=hT;have HL:Hid (Lk w t v xs):=hl;have HC:Hid (Vr w c #[.int .i64 (i:Int)]):=hc;have HF:Hid (∀i,i<n→(f i).1<M∧(f i).2.1<M):=hf;have HB:Hid (¬Ow t v b∧¬Ow t v g∧¬Ow t v c):=⟨ob,og,oc⟩;have HN:Hid (i<n∧n≤16∧xs.length≤900000):=⟨hi,hn,hx⟩;clear hT hl hc hf ob og oc hi hn hx
 go_enter func100,ntmps100
 go_upto_region 2 with fail
 refine gen_w (fun v=>Hid (Gr w v∧Vr v (w.heap.size) (pnt 0 0 false)∧Vr v (w.heap.size+1) (ent 0 0 0))) ⟨grA,vrA,vrA⟩ ?_;intro v0 HV
 have kb:v0.cell? ⟨b,0,none⟩=some (.slice (some ⟨g,0,none⟩) n cap):=by rw[(HT.out.vr.gr HV.out.1).cell];rfl
 go_wp2_with fail
 go_loopw [15] (fun ia wr=>∃(j:Nat) (v':Value),ia=.int .i64 (j:Int)∧Hu (j≤n)∧Hid (RecL (w.heap.size+2) w wr t v v' (xs++ixs j)∧Vr wr (w.heap.size) (pnt 0 0 false)∧Vr wr (w.heap.size+1) (enQ (gth f i j)))) (fun ia _=>((n:Int)-intOf ia).toNat)
 case atStart=>
  obtain⟨G,c0,c1⟩:=HV.out;refine⟨0,v,rfl,fun _=>Nat.zero_le _,?_,c0,c1⟩;rw[show ixs 0=[] from rfl,List.append_nil];exact(RecL.refl HL.out _).gr G
 case round=>
  clear HV kb;obtain⟨j,v1,rfl,HJ,HV⟩:=hrel;obtain⟨hR,c0,c1⟩:=HV.out;obtain⟨ob,og,oc⟩:=HB.out;obtain⟨hi,hn,hx⟩:=HN.out
  have j0:(0:Int)≤(j:Int):=by omega
  have n4:(n:Int)≤16:=by omega
  by_cases hlt:j<n
  ·have j1:(j:Int)<(n:Int):=by omega
   have ld0:=(HT.out.row.kp hR.kp og).load hlt;obtain⟨A,hA⟩:=exl (f j);obtain⟨D,hD⟩:=exl (gth f i j);obtain⟨C,hC⟩:=exl (gth f i (j+1));have HO:Hid _:=over_Q _ A D C (hA▸HF.out j hlt) (hD▸gth_lt hi HF.out j) (by rw[←hC,gth_succ,hA,hD]);rw[hA]at ld0
   have bj:j<9223372036854775808:=by omega
   have bi:i<9223372036854775808:=by omega
   have sz:w.heap.size+1+1≤wr.heap.size:=c1.p
   have HI:Hid (∀w4,Gr wr w4→Calls prog 101 #[trp t,.int .i64 (j:Int)] w4 fun e w'=>∃z v',e=.returned (.int .i64 z)∧RecL w4.heap.size w4 w' t v1 v' (xs++ixs (j+1))):=fun w4 g4=>by
    rw[ixs_succ,←List.append_assoc];exact look_any w4 t v1 _ _ (hR.lk.gr g4) (by rw[List.length_append,ixs_length];omega)
   go_upto_region 6 with (go_at_call 101;refine(HI.out _ ?_).mono ?_;exact grA;rintro e w5 ⟨z,v2,rfl,r5⟩)
   have e4:(wr.alloc (.cells (enQ A) 175)).heap.size=wr.heap.size+1:=by simp
   have g4:Gr wr (wr.alloc (.cells (enQ A) 175)):=(Gr.refl _).alloc _
   have cE:=(Vr.new wr (enQ A) 175).kp r5.kp fun h=>by have:=hR.lk.own h;omega
   rw[e4]at r5;replace c0:=(c0.gr g4).kp r5.kp (hR.no (fun h=>by have:=HL.out.own h;omega) (by omega));replace c1:=(c1.gr g4).kp r5.kp (hR.no (fun h=>by have:=HL.out.own h;omega) (by omega));have cc:=((HC.out.kp hR.kp oc).gr g4).kp r5.kp (hR.no oc (by have:c+1≤w.heap.size:=HC.out.p;omega));have G:GaI w w5 t v v2 (xs++ixs (j+1)):=⟨(hR.gr g4).trans r5 (by omega) (by omega)⟩;have no:¬Ow t v2 (w.heap.size+1):=G.r.no (fun h=>by have:=HL.out.own h;omega) (by omega);rw[hD]at c1;clear HV hR r5 HI ld0 hA hD g4 e4;refine wp_wT 6 [.c (.agg (ent A.1 A.2.1 (bw A.2.2))),.c (.agg (ent D.1 D.2.1 (bw D.2.2))),.c (.func (.func 139) #[] #[pv c 0]),.c (.int .i64 (j:Int)),.c (.int .u64 (msk (decide (j=i)):Nat)),.c (.agg (ent C.1 C.2.1 (bw C.2.2)))] [0,1,4,5] ⟨.g 175 0 cE rfl,.g 175 0 c1 rfl,.k _ fun yy vv hg hh=>RtW.of_c (Rt.c (wanted_any j i bj bi c _ (cc.gr hg))),.z HO.out,⟨⟩⟩ (.s 175 (fun yy=>.pointer (some ⟨w.heap.size+1,0,none⟩)) (fun yy=>.agg (ent C.1 C.2.1 (bw C.2.2))) fun yw6 v1 hg h6=>?_);have HT:=(c1.gr hg).h;have FT:=(c1.gr hg).f;refine⟨setBlk v1 (w.heap.size+1) (ent C.1 C.2.1 (bw C.2.2)),by simp[go_sem,exI,HT,FT],?_⟩;simp only[fzw];clear h6;replace G:=G.trans hg;replace cE:=cE.gr hg;replace c1:=c1.gr hg;replace c0:=c0.gr hg
   go_wp2_with fail
   go_roundw
   case rel=>
    refine⟨j+1,v2,by go_num,fun _=>hlt,G.r.set _ _ (by omega) no,c0.other (by omega),?_⟩;rw[hC];exact c1.set (by rw[ent_size];decide) _
   case measure=>simp[intOf];omega
  ·have j1:¬(j:Int)<(n:Int):=by omega
   have hj:j=n:=by have:=HJ.out ();omega
   have hg:gth f i j=f i:=by unfold gth;rw[if_pos (by omega)]
   rw[hg]at c1;have⟨h0,f0,p0⟩:=c0;have⟨h1,f1,p1⟩:=c1;have HP:Hid (∀w,Cg 136 #[.agg (enQ (f i))] w (.agg (pnQ (f i)))):=fun w=>point_any _ _ _ w
   go_wp2_with (go_at_call 136;refine(HP.out _).mono ?_;rintro e w' ⟨rfl,g,rfl⟩)
   refine bodyPost_ret (res_one results100 (rd_pn (by rfl) ?_)) rfl ⟨rfl,v1,?_⟩
   ·simp[go_sem, *]
   ·have h2:=((hR.set (w.heap.size) (pnQ (f i)) (by omega) (hR.no (fun h=>by have:=HL.out.own h;omega) (by omega))).gr ⟨g,rfl⟩).le (m:=w.heap.size) (by omega);rw[hj]at h2;exact h2
theorem pick_any(t:Option Nat)(b g cap n:Nat)(f:Nat→Q3)(hf:∀i,i<n→(f i).1<M∧(f i).2.1<M)(i:Nat)(hi:i<n)(hn:n≤16)(w:World)(v:Value)(xs:List (Int×Int))(hT:Tb w b g cap n f)(ob:¬Ow t v b)(og:¬Ow t v g)(hl:Lk w t v xs)(hx:xs.length≤900000):
 Calls prog 73 #[.pointer (some ⟨b,0,none⟩),trp t,.int .i64 (i:Int)] w
  fun e w'=>e=.returned (.tuple #[.agg (pnQ (f i)),.int .i64 0])∧∃v',RecL w.heap.size w w' t v v' (xs++ixs n):=by
 have kb:w.cell? ⟨b,0,none⟩=some (.slice (some ⟨g,0,none⟩) n cap):=by rw[hT.vr.cell];rfl
 have pb:=hT.vr.p
 have HG:Hid (∀W c,Gr w W→Vr W c #[.int .i64 (i:Int)]→w.heap.size<c→Vr W w.heap.size (pnt 0 0 false)→Calls prog 100 #[.pointer (some ⟨b,0,none⟩),.func (.func 101) #[trp t] #[],.func (.func 139) #[] #[.pointer (some ⟨c,0,none⟩)]] W
  fun e w'=>e=.returned (.agg (pnQ (f i)))∧∃v',(RecL (w.heap.size+1) w w' t v v' (xs++ixs n))∧Vr w' w.heap.size (pnt 0 0 false)):=fun W c hG hc hlt hv=>by
  have no:∀k,w.heap.size≤k→¬Ow t v k:=fun k hk h=>by have:=hl.own h;omega
  refine(gather_any t b g cap n f hf i hi hn W v xs (hT.gr hG) ob og (hl.gr hG) hx c hc (no c (by omega))).mono ?_;rintro e w' ⟨rfl,v',hR⟩;have:w.heap.size+1≤W.heap.size:=hv.p;exact⟨rfl,v',(hR.pre hG).le (by omega),hv.kp hR.kp (no _ (Nat.le_refl _))⟩
 have no:¬Ow t v w.heap.size:=fun h=>by have:=hl.own h;omega
 go_enter func73,ntmps73
 go_wp2_with (first
  | (go_at_call 102;refine(only_any _ _).mono ?_;rintro e w' ⟨rfl,rfl⟩)
  | (go_at_call 100;refine(HG.out _ _ ?_ ?_ ?_ ?_).mono ?_;exact grA;exact⟨by simp[go_sem],by simp[go_sem],by simp[go_sem]⟩;simp;exact⟨by simp[go_sem],by simp[go_sem],by simp[go_sem]⟩;rintro e w5 ⟨rfl,v2,r5,c5⟩;have⟨h5,f5,p5⟩:=c5))
 refine bodyPost_ret (res_two results73 (rd_pn (by rfl) ?_) (rd_tmp (by rfl))) rfl ⟨rfl,v2,(r5.set _ _ (Nat.le_refl _) (r5.no no (by omega))).le (by omega)⟩;simp[go_sem, *]
end
section
attribute [local go_sem] uz8
attribute [local go_sem ↓] zvCu_is storeCu_is loadCu_is loadPn_is storePn_is zvPn_is buildPn_is loadEn_is storeEn_is zvEn_is buildEn_is Go.wp_at_zero Go.wp_at_succ
attribute [local go_sem] zvCu storeCu loadCu cu_size loadPn storePn zvPn loadPX loadPY buildPn0 buildPn3 buildPnI pnt_size pnt_X pnt_Y loadEn storeEn zvEn buildEn2 buildEn3 ent_size frz_setBlk blk_setBlk setBlk_setBlk blk_other
theorem check_yes{k:Nat}(h1:1≤k)(h2:k≤15){P:Q3}(lP:P.1<M∧P.2.1<M)(hP:onB k P.1 P.2.1 P.2.2=true)(n:Int)(hn:1≤n∧n≤16)(w:World):Cg 98 #[.int .i64 (k:Int),.agg (pnQ P),.int .i64 n] w (.int .i64 0):=by
 have HG:Hid _:=get13_yes k h1 h2;simp only[cuN]at HG;have HO:Hid _:=hP▸on13_yes k h1 h2 P.1 P.2.1 P.2.2 lP.1 lP.2
 go_enter func98,ntmps98
 go_wp2_with (first|(go_at_call 30;refine(HG.out _).mono ?_;rintro e w' ⟨rfl,g0,rfl⟩)|(go_at_call 31;refine(HO.out _).mono ?_;rintro e w' ⟨rfl,g1,rfl⟩))
 go_ret
 exact⟨rfl,grA⟩
def bslE(t:TypeId)(n:Nat)(p:Array (Nat×Value)):Sem Value:=Instr.buildSlice t n p
theorem bslE_is(n:Nat)(p:Array (Nat×Value)):Instr.buildSlice 153 n p=bslE 153 n p:=rfl
theorem bslE1(x y z:Nat)(w:World):(bslE 153 1 #[(0,.agg (ent x y z))]).run prog w=.ok (.slice (some ⟨w.heap.size,0,none⟩) 1 1) (w.alloc (.cells (ent x y z) 175)):=by kernel_rfl
attribute [local go_sem ↓] bslE_is
attribute [local go_sem] bslE1
theorem owns_set{w:World}{base b:Nat}{e:TypeId}{s:Nat}{v:Value}{n:Nat}{xs:List Value}(h:w.ownsRow base e s v n xs)(hb:b<base)(d:Array Value):(setBlk w b d).ownsRow base e s v n xs:=
 owns_kept h ((Kp.refl (fun k=>k=b) w).setBlk b d (Or.inl rfl)) fun k hk e=>by have:=(h.lt k hk).1;omega
def lenV:Value→Nat
 | .slice _ n _=>n
 | _=>0
theorem multiples_any{k:Nat}(h1:1≤k)(h2:k≤15){P:Q3}(oP:OnQ k P)(n:Nat)(hn:1≤n∧n≤16)(w:World):
 Calls prog 99 #[.int .i64 (k:Int),.agg (pnQ P),.int .i64 (n:Int)] w fun e w'=>∃g cap,e=.returned (.slice (some ⟨g,0,none⟩) n cap)∧Er w' g n (fun i=>mlQ k i P)∧Gr w w'∧w.heap.size≤g:=by
 obtain⟨i0,hi0,hz0,hz1,hz2⟩:=info_parts Tryz.infoEn;obtain⟨F,hF⟩:∃F:Nat→Q3,(fun i=>mlQ k i P)=F:=⟨_,rfl⟩
 have HA:Hid (∀j w,Cg 23 #[.int .i64 (k:Int),.agg (pnQ (F j)),.agg (pnQ P)] w (.tuple #[.agg (pnQ (F (j+1))),.int .i64 0])):=fun j w=>by
  subst hF;exact addQ h1 h2 (mlQ_on h1 h2 j oP) oP (by show _=mlQ k (j+1) P;rw[mlQ_add h1 h2 j 1 oP,mlQ_one h1 h2 oP]) w
 have hF0:F 0=inf:=by subst hF;exact mlQ_zero h1 h2 P
 rw[hF];have HN:Hid _:=hn;have HE:Hid (∀(A:Q3) w,Cg 134 #[.agg (pnQ A)] w (.agg (enQ A))):=fun A w=>entryOf_any A.1 A.2.1 A.2.2 w
 have HE0:Hid (∀w,Cg 134 #[.agg (pnt 0 0 true)] w (.agg (enQ (F 0)))):=fun w=>by rw[hF0];exact entryOf_any 0 0 true w
 have HF0:Hid _:=hF0;clear hn hF oP hF0
 go_enter func99,ntmps99
 go_upto_region 2 with fail
 refine gen_w (fun v=>Hid (Gr w v∧Vr v (w.heap.size) (pnQ P)∧Vr v (w.heap.size+1) (pnt 0 0 true))) ⟨grA,vrA,vrA⟩ ?_;intro v0 HV0;have hb0:=HV0.out.2.2.h
 go_upto_region 3 with (go_at_call 134;refine(HE0.out _).mono ?_;rintro e w1 ⟨rfl,G1⟩)
 have e0:pnQ (F 0)=pnt 0 0 true:=by rw[HF0.out];rfl
 have HV:Hid (Gr w (w1.alloc (.cells (enQ (F 0)) 175))∧Vr (w1.alloc (.cells (enQ (F 0)) 175)) (w.heap.size) (pnQ P)∧Vr (w1.alloc (.cells (enQ (F 0)) 175)) (w.heap.size+1) (pnQ (F 0))∧(w1.alloc (.cells (enQ (F 0)) 175)).ownsRow (w.heap.size+1+1) 175 19 (.slice (some ⟨w1.heap.size,0,none⟩) 1 1) 1 (ens F 1)):=by
  obtain⟨G,c0,c1⟩:=HV0.out;have G2:=G1.trans ((Gr.refl _).alloc (.cells (enQ (F 0)) 175));rw[e0];exact⟨G.trans G2,c0.gr G2,c1.gr G2,owns_mono (owns_first w1 F) (c1.gr G1).p⟩
 clear hb0 HV0 G1 e0
 go_loopw [8] (fun sl wr=>∃j:Nat,Hu (j+1≤n)∧lenV sl=j+1∧Hid (Gr w wr∧Vr wr (w.heap.size) (pnQ P)∧Vr wr (w.heap.size+1) (pnQ (F j))∧wr.ownsRow (w.heap.size+1+1) 175 19 sl (j+1) (ens F (j+1)))) (fun sl _=>n-lenV sl)
 case atStart=>exact⟨0,fun _=>HN.out.1,rfl,HV⟩
 case round=>
  clear HV
  rename_i sl
  obtain⟨j,HJ,hl,HV⟩:=hrel;obtain⟨G,c0,c1,hr⟩:=HV.out;obtain⟨p,cp,rfl,-,-⟩:=owns_shape hr;obtain⟨hn1,hn2⟩:=HN.out
  by_cases hlt:j+1<n
  ·have j1:((j:Int)+1<(n:Int)):=by omega
   obtain⟨A,hA⟩:=exl (F j);obtain⟨C,hC⟩:=exl (F (j+1))
   have HA2:Hid _:=fun w=>by have:=HA.out j w;rw[hA,hC]at this;exact this
   rw[hA]at c1;have⟨h0,f0,p0⟩:=c0;have⟨h1',f1,p1⟩:=c1
   go_upto_region 5 with (go_at_call 23;refine(HA2.out _).mono ?_;rintro e w' ⟨rfl,gA,rfl⟩)
   refine gen_w (fun v=>Hid (Gr w v∧Vr v (w.heap.size) (pnQ P)∧Vr v (w.heap.size+1) (pnQ C)∧v.ownsRow (w.heap.size+1+1) 175 19 (.slice p (j+1) cp) (j+1) (ens F (j+1)))) ⟨(gr_setNew G (by omega)).gro gA,(c0.other (by omega)).gr ⟨gA,rfl⟩,(c1.set (by rw[pnt_size];decide) _).gr ⟨gA,rfl⟩,owns_kept (owns_set hr (by omega) _) (Kp.gr ⟨gA,rfl⟩ fun _=>False) fun _ _ h=>h⟩ ?_;intro v1 HV;have hb:=HV.out.2.2.1.h;have HE2:Hid (Cg 134 #[.agg (pnQ C)] v1 (.agg (enQ C))):=HE.out C v1
   go_wp2_with (first
    | (go_at_call 134;refine HE2.out.mono ?_;rintro e w2 ⟨rfl,gE⟩;have s2:=gE.below.size;have s1:=HV.out.2.2.1.p;have hr2:=owns_kept HV.out.2.2.2 (Kp.gr gE fun _=>False) fun _ _ h=>h)
    | (at_builtin;refine wpList_append_lies _ rfl (.tmp 24) (.tmp 27) 153 rfl (w.heap.size+1+1) 175 i0 _ 19 152 underlying153 hi0 hz0 hz1 hz2 (ent_size 0 0 0) (by omega) _ (j+1) (ens F (j+1)) rfl (hr2.alloc _) ⟨w2.heap.size,0,none⟩ 1 1 (enQ C).toList rfl (by rw[Array.length_toList,ent_size]) (World.news_of_block (heap_alloc_new w2 _)) (fun u hu=>Array.all_eq_true_iff_forall_mem.1 (ent_one _ _ _) u (by simpa using hu)) (by omega) (by unfold maxLen;omega) (by omega) (by simp;unfold Pre at s1;omega) _ rfl ?_;intro g2 cap w3 hown hgrow hat hlt2))
   go_roundw
   case rel=>
    obtain⟨G,c0,c1,hr⟩:=HV.out
    have far:∀b,b<w.heap.size+1+1→¬(Value.slice p (j+1) cp).ownBlock=some b:=fun b hb e=>by have:=(hr.lt b e).1;omega
    have g3:Gr v1 (w2.alloc (.cells (enQ C) 175)):=gE.alloc _
    refine⟨j+1,fun _=>hlt,rfl,gr_kp (G.trans g3) (Kp.grown hgrow) fun b hb=>far b (by omega),(c0.gr g3).kp (Kp.grown hgrow) (far _ (by omega)),?_,?_⟩
    ·rw[hC];exact(c1.gr g3).kp (Kp.grown hgrow) (far _ (by omega))
    ·rw[ens_succ F (j+1),hC];exact hown
   case measure=>simp[lenV];omega
  ·have hj:j+1=n:=by have:=HJ.out ();omega
   subst hj;obtain⟨g,cap,e,hbg,-,he⟩:=Er.of_owns hr (by omega)
   injection e with e1 _ e3
   subst e1 e3
   go_wp2_with fail
   exact bodyPost_ret (res_one results99 (rd_tmp (by rfl))) rfl ⟨g,⟨cp,rfl⟩,he,G,by omega⟩
theorem new_yes{k:Nat}(h1:1≤k)(h2:k≤15){P:Q3}(oP:OnQ k P)(n:Nat)(hn:1≤n∧n≤16)(w:World):
 Calls prog 71 #[.int .i64 (k:Int),.agg (pnQ P),.int .i64 (n:Int)] w fun e w'=>∃b g cap,e=.returned (.tuple #[.pointer (some ⟨b,0,none⟩),.int .i64 0])∧Tb w' b g cap n (fun i=>mlQ k i P)∧Gr w w'∧w.heap.size≤b∧w.heap.size≤g:=by
 have HC:Hid _:=check_yes h1 h2 oP.lt oP n (by omega);have HM:Hid _:=multiples_any h1 h2 oP n hn;obtain⟨F,hF⟩:∃F:Nat→Q3,(fun i=>mlQ k i P)=F:=⟨_,rfl⟩;rw[hF]at HM ⊢
 go_enter func71,ntmps71
 go_wp2_with (first
  | (go_at_call 98;refine(HC.out _).mono ?_;rintro e w' ⟨rfl,g0,rfl⟩)
  | (go_at_call 99;refine(HM.out _).mono ?_;rintro e w2 ⟨g,cap,rfl,he,G2,hg⟩))
 go_ret2
 have G3:Gr w w2:=Gr.trans grA G2;exact⟨_,g,cap,rfl,⟨Vr.new _ _ _,he.gr ((Gr.refl _).alloc _)⟩,G3.alloc _,G3.below.size,(by refine Nat.le_trans (Gr.below ?_).size hg;exact grA)⟩
end
end
section
def mF(k:Nat)(P:Q3)(i:Nat):Q3:=mlQ k i P
theorem mF_lt{k:Nat}(h1:1≤k)(h2:k≤15){P:Q3}(oP:OnQ k P)(n:Nat):∀i,i<n→(mF k P i).1<M∧(mF k P i).2.1<M:=fun i _=>(mlQ_on h1 h2 i oP).lt
theorem rgQ{k:Nat}{P:Q3}(hP:gQ k=P)(qc:Nat→Option Addr×Nat)(w:World)(HQ:∀j,Sl w (qc j).1 (nN k j)):Calls prog 17 #[.agg (crA (k:Int) (nN k) qc)] w (Rt (.pt P.1 P.2.1 P.2.2) w):=by
 subst hP;exact rg_any qc w HQ
end
section
attribute [local go_sem ↓] uz1
attribute [local go_sem] uz2
section
attribute [local go_sem] uz8
attribute [local go_sem ↓] uz19 Go.wp_at_zero Go.wp_at_succ
attribute [local go_sem] uz20
attribute [local go_sem ↓] uz13
attribute [local go_sem] uz14
structure GbI(n:Nat)(w wr:World)(t:Option Nat)(v v':Value)(xs:List (Int×Int)):Prop where
 r:RecL n w wr t v v' xs
 s:n≤wr.heap.size
 h:w.heap.size≤n
theorem GbI.trans{n:Nat}{w wr w2:World}{t:Option Nat}{v v':Value}{xs:List (Int×Int)}(h:GbI n w wr t v v' xs)(g:Gr wr w2):GbI n w w2 t v v' xs:=⟨h.r.gr g,Nat.le_trans h.s g.below.size,h.h⟩
theorem GbI.next{n:Nat}{w wr w2:World}{t:Option Nat}{v z z2:Value}{xs ys:List (Int×Int)}(h:GbI n w wr t v z xs)(r:RecL wr.heap.size wr w2 t z z2 ys):GbI n w w2 t v z2 ys:=⟨h.r.trans r h.h h.s,Nat.le_trans h.s r.kp.size,h.h⟩
theorem GbI.set{n:Nat}{w wr:World}{t:Option Nat}{v z:Value}{xs:List (Int×Int)}(h:GbI n w wr t v z xs)(b:Nat)(d:Array Value)(hb:w.heap.size≤b)(ho:¬Ow t z b):GbI n w (setBlk wr b d) t v z xs:=⟨h.r.set b d hb ho,by rw[size_setBlk];exact h.s,h.h⟩
theorem GbI.no{n:Nat}{w wr:World}{t:Option Nat}{v z:Value}{xs ys:List (Int×Int)}(h:GbI n w wr t v z xs)(hl:Lk w t v ys){b:Nat}(h1:w.heap.size≤b)(h2:b<n):¬Ow t z b:=h.r.no (fun e=>by have:=hl.own e;omega) h2
structure Pk(w:World)(t:Option Nat)(bm bt b g cap:Nat)(f:Nat→Q3):Prop where
 m:Vr w bm #[.pointer (some ⟨b,0,none⟩)]
 r:Vr w bt #[trp t]
 tb:Tb w b g cap 16 f
theorem Pk.kp{S:Nat→Prop}{w w':World}{t:Option Nat}{bm bt b g cap:Nat}{f:Nat→Q3}(h:Pk w t bm bt b g cap f)(k:Kp S w w')(n:∀x,x=bm∨x=bt∨x=b∨x=g→¬S x):Pk w' t bm bt b g cap f:=
 ⟨h.m.kp k (n _ (by simp)),h.r.kp k (n _ (by simp)),h.tb.kp k (n _ (by simp)) (n _ (by simp))⟩
theorem Pk.gr{w w':World}{t:Option Nat}{bm bt b g cap:Nat}{f:Nat→Q3}(h:Pk w t bm bt b g cap f)(k:Gr w w'):Pk w' t bm bt b g cap f:=h.kp (Kp.gr k fun _=>False) fun _ _ h=>h
theorem mpicker_any{k:Nat}(h1:1≤k)(h2:k≤15){P:Q3}(oP:OnQ k P)(t:Option Nat)(w:World):Calls prog 49 #[trp t,.int .i64 (k:Int),.agg (pnQ P)] w
 fun e w'=>∃bm bt b g cap,e=.returned (.func (.func 72) #[] #[.pointer (some ⟨bm,0,none⟩),.pointer (some ⟨bt,0,none⟩)])∧Pk w' t bm bt b g cap (mF k P)∧(∀x,x=bm∨x=bt∨x=b∨x=g→w.heap.size≤x)∧Gr w w':=by
 have HN:Hid (∀W,Gr w W→Calls prog 71 #[.int .i64 (k:Int),.agg (pnQ P),.int .i64 16] W fun e w'=>∃b g cap,e=.returned (.tuple #[.pointer (some ⟨b,0,none⟩),.int .i64 0])∧Tb w' b g cap 16 (mF k P)∧Gr W w'∧w.heap.size≤b∧w.heap.size≤g):=fun W hW=>by
  refine(new_yes h1 h2 oP 16 (by decide) W).mono ?_;rintro e w' ⟨b,g,cap,e,hT,G,l1,l2⟩;have:=hW.below.size;exact⟨b,g,cap,e,hT,G,by omega,by omega⟩
 go_enter func49,ntmps49
 go_wp2_with (go_at_call 71;refine(HN.out _ ?_).mono ?_;exact grA;rintro e w2 ⟨b,g,cap,rfl,hT,⟨gg,rfl⟩,l1,l2⟩)
 go_ret
 refine⟨_,_,b,g,cap,rfl,⟨⟨by simp[go_sem],by simp[go_sem],by simp[go_sem]⟩,⟨by simp[go_sem],by simp[go_sem],by simp[go_sem]⟩,hT.gr grA⟩,?_,grA⟩
 rintro x (rfl|rfl|rfl|rfl)
 ·first|omega|(refine(Gr.below ?_).size;exact grA)
 ·exact Nat.le_refl _
 ·exact l1
 ·exact l2
theorem mpicked_any{k:Nat}(h1:1≤k)(h2:k≤15){P:Q3}(oP:OnQ k P){t:Option Nat}{bm bt b g cap:Nat}{w:World}{v:Value}{xs:List (Int×Int)}(hP:Pk w t bm bt b g cap (mF k P))(no:∀x,x=bm∨x=bt∨x=b∨x=g→¬Ow t v x)(hl:Lk w t v xs)(hx:xs.length≤900000){i:Nat}(hi:i<16){T:T3}(hT:frT (mlQ k i P)=T):
 Calls prog 72 #[.int .i64 (i:Int),.pointer (some ⟨bm,0,none⟩),.pointer (some ⟨bt,0,none⟩)] w
  fun e w'=>e=.returned (.agg (pjT T))∧∃v',RecL w.heap.size w w' t v v' (xs++ixs 16):=by
 have km:w.cell? ⟨bm,0,none⟩=some (.pointer (some ⟨b,0,none⟩)):=by rw[hP.m.cell];rfl
 have kt:w.cell? ⟨bt,0,none⟩=some (trp t):=by rw[hP.r.cell];rfl
 have pm:=hP.m.p;have pt:=hP.r.p
 have ho:¬Ow t v w.heap.size:=fun h=>by have:=hl.own h;omega
 obtain⟨Q,hQ⟩:=exl (mlQ k i P);have oQ:=hQ▸mlQ_on h1 h2 i oP;rw[hQ]at hT
 have HP:Hid (∀W,Gr w W→Vr W w.heap.size (prj 0 0 0)→Calls prog 73 #[.pointer (some ⟨b,0,none⟩),trp t,.int .i64 (i:Int)] W
  fun e w'=>e=.returned (.tuple #[.agg (pnQ Q),.int .i64 0])∧∃v',RecL (w.heap.size+1) w w' t v v' (xs++ixs 16)∧Vr w' w.heap.size (prj 0 0 0)):=fun W hW hv=>by
  refine(pick_any t b g cap 16 (mF k P) (mF_lt h1 h2 oP 16) i hi (by decide) W v xs (hP.tb.gr hW) (no _ (by simp)) (no _ (by simp)) (hl.gr hW) hx).mono ?_;rintro e w' ⟨rfl,v',hR⟩;have:w.heap.size+1≤W.heap.size:=hv.p;exact⟨by rw[show mF k P i=Q from hQ],v',(hR.pre hW).le (by omega),hv.kp hR.kp ho⟩
 have HT:Hid _:=mtriQ h1 h2 oQ hT
 go_enter func72,ntmps72
 go_upto_region 2 with (go_at_call 73;refine(HP.out _ ?_ ?_).mono ?_;exact grA;exact⟨by simp[go_sem],by simp[go_sem],by simp[go_sem]⟩;rintro e w5 ⟨rfl,v2,r5,c5⟩;have⟨h5,f5,p5⟩:=c5)
 refine gen_w (fun u=>GbI (w.heap.size+1) w u t v v2 (xs++ixs 16)∧Vr u (w.heap.size) (prj 0 0 0)∧Vr u w5.heap.size (pnt Q.1 Q.2.1 Q.2.2)) ⟨⟨r5.gr ((Gr.refl _).alloc _),Nat.le_trans p5 (by simp),by omega⟩,c5.gr ((Gr.refl _).alloc _),Vr.new _ _ _⟩ ?_;rintro v0 ⟨G,c0,c5⟩;refine wp_wTS 2 [.c (.agg (pnt Q.1 Q.2.1 Q.2.2)),.c (.agg (prj T.1 T.2.1 T.2.2))] [0,1] ⟨.g 27 0 c5 rfl,.z HT.out,⟨⟩⟩ (.s 74 (fun yy=>.pointer (some ⟨w.heap.size,0,none⟩)) (fun yy=>.agg (prj T.1 T.2.1 T.2.2)) fun yw2 v1 hg h2=>?_);have HT2:=(c0.gr hg).h;have FT:=(c0.gr hg).f;refine⟨setBlk v1 (w.heap.size) (prj T.1 T.2.1 T.2.2),by simp[go_sem,exI,HT2,FT],?_⟩;simp only[fzw];replace G:=G.trans hg
 go_wp2_with fail
 exact bodyPost_ret (res_one results72 (rd_pj (by rfl) (blk_setBlk _ _ _ (by rw[HT2];decide +kernel)))) rfl ⟨rfl,v2,((G.r.set _ _ (Nat.le_refl _) (G.r.no ho (by omega))).le (by omega))⟩
end
section
attribute [local go_sem] uz8
attribute [local go_sem ↓] uz19 Go.wp_at_zero Go.wp_at_succ
attribute [local go_sem] uz20
attribute [local go_sem ↓] uz13
attribute [local go_sem] uz14
def rpx:Nat→List (Int×Int)
 | 0=>[]
 | j+1=>rpx j++ixs 16
theorem rpx_length:∀j,(rpx j).length=16*j
 | 0=>rfl
 | j+1=>by rw[rpx,List.length_append,rpx_length j,ixs_length];omega
theorem Rx.oth{w:World}{g n cap b:Nat}{f:Nat→Value}(h:Rx w g n cap f)(ne:b≠g)(d:Array Value):Rx (setBlk w b d) g n cap f:=
 h.kept (S:=fun k=>k=b) ((Kp.refl _ _).setBlk b d (Or.inl rfl)) fun e=>ne e.symm
theorem mnN_16(k:Nat):mnN 4 (bl (oN k))≤576:=mnN_le (by decide) (bl_576 _ (oN_bd k))
theorem bl_pos{a:Nat}(h:0<a):1≤bl a:=Nat.lt_of_not_le fun h0=>by have:=(bl_le a 0).1 h0;omega
theorem lt_bl(a:Nat):a<2^bl a:=(bl_le a (bl a)).1 (Nat.le_refl _)
theorem mprod_any{k:Nat}(h1:1≤k)(h2:k≤15){P:Q3}(oP:OnQ k P){d:Nat}(ld:d<oN k){t:Option Nat}{bm bt b g cap:Nat}{w:World}{z0:Value}{xs:List (Int×Int)}(hP:Pk w t bm bt b g cap (mF k P))(no:∀x,x=bm∨x=bt∨x=b∨x=g→¬Ow t z0 x)(hl:Lk w t z0 xs)(hx:xs.length≤800000):
 Calls prog 48 #[.agg (cu (k:Int) (pN k) (aN k) (bN k) (oN k) (xN k) (yN k) (bl (oN k)) (szN k) (lgN k)),.agg (nw 9 d),.func (.func 72) #[] #[.pointer (some ⟨bm,0,none⟩),.pointer (some ⟨bt,0,none⟩)]] w
  fun e w'=>e=.returned (.agg (pnQ (mlQ k d P)))∧∃v',RecL w.heap.size w w' t z0 v' (xs++rpx (mnN 4 (bl (oN k)))):=by
 have HP:Hid (Pk w t bm bt b g cap (mF k P)):=hP
 have HB:Hid (∀x,x=bm∨x=bt∨x=b∨x=g→¬Ow t z0 x∧x<w.heap.size):=fun x h=>⟨no x h,by
  rcases h with rfl|rfl|rfl|rfl
  ·exact hP.m.p
  ·exact hP.r.p
  ·exact hP.tb.vr.p
  ·exact hP.tb.row.lt⟩
 have HL:Hid (Lk w t z0 xs):=hl;have HX:Hid (xs.length≤800000):=hx;have hd:=Nat.lt_trans ld (lt_bl (oN k));have HD:Hid _:=fun w=>wdig_any (W:=4) (Nat.lt_trans ld (oN_bd k)) (by decide) (by decide) (bl_pos (Nat.lt_of_le_of_lt (Nat.zero_le _) ld)) (bl_576 _ (oN_bd k)) hd w;have HI:Hid (∀w,Cg 70 #[.agg (pnt 0 0 true)] w (.agg (prj 0 1 0))):=fun w=>mtriQ h1 h2 (inf_on k) rfl w;have HM:=mnN_16 k;obtain⟨F,hF⟩:∃F:Nat→Nat,tn (dF 4 d (mnN 4 (bl (oN k))))=F:=⟨_,rfl⟩;have HE:Hid (hor 4 F (mnN 4 (bl (oN k)))=d):=hF▸hor_dF (many_lt (by decide) hd);have HF:Hid (∀j,∃D:Nat,dF 4 d (mnN 4 (bl (oN k))) j=(D:Int)∧F j=D∧D<16):=fun j=>⟨F j,by rw[←hF];unfold tn dF;omega,rfl,by rw[←hF,tn_dF];exact dgw_lt 4 d _⟩;obtain⟨m,hm⟩:=exl (mnN 4 (bl (oN k)));rw[hm]at HD HM HE HF ⊢;obtain⟨Q,hQ⟩:=exl (mlQ k d P);rw[hQ];have HQ:Hid (mlQ k d P=Q):=hQ;clear hQ;clear hP no hl hx ld hd hF hm
 go_enter func48,ntmps48
 go_upto_region 1 with fail
 refine gen_w (fun v=>Gr w v∧Vr v (w.heap.size) (cu (k:Int) (pN k) (aN k) (bN k) (oN k) (xN k) (yN k) (bl (oN k)) (szN k) (lgN k))∧Vr v (w.heap.size+1) (nw 9 d)∧Vr v (w.heap.size+1+1) (pnt 0 0 false)) ⟨grA,vrA,vrA,vrA⟩ ?_;rintro v0 ⟨G,c0,c1,c2⟩;have L0:w.heap.size+1+1<v0.heap.size:=c2.p;refine wp_wS [.N d,.c (pv (w.heap.size) 56),.c (.int .i64 (bl (oN k))),.it (v0.heap.size) m (dF 4 d m),.it (v0.heap.size) m (dF 4 d m),.ix (v0.heap.size) m (dF 4 d m),.O,.ix (v0.heap.size) m (dF 4 d m),.O] [0,2,3,4,5,6,7] ⟨.g 25 0 c1 rfl,.o 3 56 c0 rfl (by exact cu_56 _ _ _ _ _ _ _ _ _ _),.k _ fun yy vv hg hh =>  ((RtW.it hg (HD.out _))),.m 3,.m 4,.m 4,.m 5,⟨⟩⟩ fun yw1 v1 hg h1=>?_;simp only[fzw,Kw.it,Kw.ix];obtain⟨N1_7,S1_7⟩:=h1 7;clear h1;replace G:=G.trans hg;replace c0:=c0.gr hg;replace c1:=c1.gr hg;replace c2:=c2.gr hg;clear hg;have L1:=S1_7.lt
 go_upto_region 2 with fail
 refine wp_v false [.c (.agg (pnt 0 0 true)),.c (.agg (prj 0 1 0)),.a,.u] [1] [⟨2,3,74,prj 0 0 0,fun _=>prj 0 1 0⟩] ⟨.z HI.out,⟨⟩⟩ ⟨.k zPj (.t rfl),⟨⟩⟩ fun yw2 v2 hg h2 hV2=>?_;simp only[fzw,Kw.a];obtain⟨⟨N2_2,V2_2⟩,-⟩:=hV2;clear h2;replace G:=G.trans hg;replace c0:=c0.gr hg;replace c1:=c1.gr hg;replace c2:=c2.gr hg;replace S1_7:=S1_7.gr hg;clear hg
 go_upto_region 3 with fail
 refine wp_wS [.c (.slice (some ⟨(yw1 7 0).2,0,none⟩) m m),.c (.int .i64 (m:Nat)),.O] [] ⟨⟩ fun yw3 v3 hg h3=>?_;simp only[fzw];clear h3;replace G:=G.trans hg;replace c0:=c0.gr hg;replace c1:=c1.gr hg;replace c2:=c2.gr hg;replace V2_2:=V2_2.gr hg;replace S1_7:=S1_7.gr hg;clear hg;generalize (yw2 2 0).2=b9 at *;generalize (yw1 7 0).2=gd at *;obtain⟨n,hn⟩:=exl (v3.heap.size);have L3:b9<n:=hn▸V2_2.p
 have HV:Hid (GbI n w v3 t z0 z0 (xs++rpx 0)∧Vr v3 (w.heap.size) (cu (k:Int) (pN k) (aN k) (bN k) (oN k) (xN k) (yN k) (bl (oN k)) (szN k) (lgN k))∧Vr v3 (w.heap.size+1+1) (pnt 0 0 false)∧Vr v3 b9 (pjT (0,1,0))∧Rx v3 gd m m (iF (dF 4 d m))):=
  ⟨⟨by rw[rpx,List.append_nil];exact(RecL.refl HL.out n).gr G,by omega,by have:=G.below.size;omega⟩,c0,c2,V2_2,S1_7⟩
 have HT0:Hid (TrQ k (0,1,0) (mlQ k (hor 4 F 0) P)):=(mlQ_zero h1 h2 P).symm▸frT_tr h1 h2 (inf_on k);clear c1 G c0 c2 V2_2 S1_7 HD HI
 go_wp2_with fail
 go_loopw [25] (fun ia wr=>∃(j:Nat) (z:Value) (S:T3),ia=.int .i64 (j:Int)∧Hu (j≤m)∧Hid (TrQ k S (mlQ k (hor 4 F j) P))∧Hid (GbI n w wr t z0 z (xs++rpx j)∧Vr wr (w.heap.size) (cu (k:Int) (pN k) (aN k) (bN k) (oN k) (xN k) (yN k) (bl (oN k)) (szN k) (lgN k))∧Vr wr (w.heap.size+1+1) (pnt 0 0 false)∧Vr wr b9 (pjT S)∧Rx wr gd m m (iF (dF 4 d m)))) (fun ia _=>m-(intOf ia).toNat)
 case atStart=>exact⟨0,z0,(0,1,0),rfl,fun _=>Nat.zero_le _,HT0,HV⟩
 case round=>
  clear HV HT0;obtain⟨j,z,S,rfl,HJ,HT,HV⟩:=hrel;obtain⟨G,c0,c2,c9,SD⟩:=HV.out
  have j0:(0:Int)≤(j:Int):=by omega
  by_cases hlt:j<m
  ·have j1:(j:Int)<(m:Int):=by omega
   obtain⟨D,hD,hFD,lD⟩:=HF.out j
   have kc:wr.cell? ⟨gd,j,none⟩=some (.int .i64 (D:Int)):=by rw[SD.cell j hlt,←hD]
   clear HV
   go_wp2_with fail
   have HV:Hid (GbI n w wr t z0 z (xs++rpx j)∧Vr wr (w.heap.size) (cu (k:Int) (pN k) (aN k) (bN k) (oN k) (xN k) (yN k) (bl (oN k)) (szN k) (lgN k))∧Vr wr (w.heap.size+1+1) (pnt 0 0 false)∧Vr wr b9 (pjT S)∧Rx wr gd m m (iF (dF 4 d m))):=⟨G,c0,c2,c9,SD⟩;clear G c0 c2 c9 SD kc
   go_loopw [29] (fun ia wr2=>∃(i:Nat) (S:T3),ia=.int .i64 (i:Int)∧Hu (i≤4)∧Hid (TrQ k S (mlQ k (2^i*hor 4 F j) P))∧Hid (GbI n w wr2 t z0 z (xs++rpx j)∧Vr wr2 (w.heap.size) (cu (k:Int) (pN k) (aN k) (bN k) (oN k) (xN k) (yN k) (bl (oN k)) (szN k) (lgN k))∧Vr wr2 (w.heap.size+1+1) (pnt 0 0 false)∧Vr wr2 b9 (pjT S)∧Rx wr2 gd m m (iF (dF 4 d m)))) (fun ia _=>4-(intOf ia).toNat)
   case atStart=>exact⟨0,S,rfl,fun _=>by decide,by rw[Nat.pow_zero,Nat.one_mul];exact HT,HV⟩
   case round=>
    clear HV HT;obtain⟨i,S,rfl,HI,HT,HV⟩:=hrel;obtain⟨G,c0,c2,c9,SD⟩:=HV.out
    have i0:(0:Int)≤(i:Int):=by omega
    by_cases hi:i<4
    ·have i1:(i:Int)<4:=by omega
     obtain⟨R,hR⟩:=exl (addT k S S);have HDB:Hid _:=jdblQ h1 h2 HT.out hR
     have HT2:Hid (TrQ k R (mlQ k (2^(i+1)*hor 4 F j) P)):=by
      have h:=addT_tr h1 h2 HT.out HT.out;rw[hR,←mlQ_add h1 h2 _ _ oP]at h
      rwa [show 2^(i+1)*hor 4 F j=2^i*hor 4 F j+2^i*hor 4 F j by rw[Nat.pow_succ,Nat.mul_assoc,Nat.mul_comm 2,←Nat.mul_assoc,Nat.mul_two]]
     clear HV hR
     go_upto_region 8 with fail
     refine wp_wTS 7 [.c (pv (w.heap.size) 0),.c (.int .i64 (k:Int)),.c (.agg (prj S.1 S.2.1 S.2.2)),.c (.tuple #[.agg (prj R.1 R.2.1 R.2.2),.int .i64 0]),.c (.tuple #[.agg (prj R.1 R.2.1 R.2.2),.int .i64 0]),.c (.agg (prj R.1 R.2.1 R.2.2)),.O] [1,2,3] ⟨.o 3 0 c0 rfl (by exact cu_0 _ _ _ _ _ _ _ _ _ _),.g 74 0 c9 rfl,.z HDB.out,⟨⟩⟩ (.s 74 (fun yy=>.pointer (some ⟨b9,0,none⟩)) (fun yy=>.agg (prj R.1 R.2.1 R.2.2)) fun yw8 v1 hg h8=>?_);have HT:=(c9.gr hg).h;have FT:=(c9.gr hg).f;refine⟨setBlk v1 (b9) (prj R.1 R.2.1 R.2.2),by simp[go_sem,exI,HT,FT],?_⟩;simp only[fzw];clear h8;replace G:=G.trans hg;replace c0:=c0.gr hg;replace c9:=c9.gr hg;replace c2:=c2.gr hg;replace SD:=SD.gr hg;clear hg
     go_wp2_with fail
     go_roundw
     case rel=>exact⟨i+1,R,by go_num,fun _=>hi,HT2,G.set b9 _ (by omega) (G.no HL.out (by omega) L3),c0.other (by omega),c2.other (by omega),c9.set (by rw[prj_size];decide) _,SD.oth (by omega) _⟩
     case measure=>simp[intOf];omega
    ·have i1:¬(i:Int)<4:=by omega
     have hi4:i=4:=by have:=HI.out ();omega
     subst hi4;obtain⟨T,hT⟩:=exl (frT (mlQ k D P));obtain⟨R,hR⟩:=exl (addT k S T)
     have HT2:Hid (TrQ k R (mlQ k (hor 4 F (j+1)) P)):=by
      have h:=addT_tr h1 h2 HT.out (hT▸frT_tr h1 h2 (mlQ_on h1 h2 D oP));rw[hR,←mlQ_add h1 h2 _ _ oP]at h
      rwa [hor,hFD,Nat.mul_comm (hor 4 F j)]
     have HA:Hid _:=jaddQ h1 h2 HT.out (hT▸frT_tr h1 h2 (mlQ_on h1 h2 D oP)) hR;clear HV hR
     go_upto_region 10 with fail
     refine wp_x true [.c (pv (w.heap.size) 0),.c (.int .i64 (k:Int)),.c (.agg (pjT S)),.c (.func (.func 72) #[] #[.pointer (some ⟨bm,0,none⟩),.pointer (some ⟨bt,0,none⟩)]),.c (.int .i64 (D:Int)),.c (.agg (pjT T)),.c (.tuple #[.agg (pjT R),.int .i64 0]),.c (.tuple #[.agg (pjT R),.int .i64 0]),.c (.agg (pjT R)),.c (.int .i64 0),.u] [1,2,6] 5 10 (fun _ _=>True)
      (fun c v=>∃z,GbI n w v t z0 z (xs++rpx (cond c (j+1) j))∧Vr v (w.heap.size) (cu (k:Int) (pN k) (aN k) (bN k) (oN k) (xN k) (yN k) (bl (oN k)) (szN k) (lgN k))∧Vr v (w.heap.size+1+1) (pnt 0 0 false)∧Vr v b9 (pjT S)∧Rx v gd m m (iF (dF 4 d m)))
      (fun _ v=>∃z,GbI n w v t z0 z (xs++rpx (j+1))∧Vr v (w.heap.size) (cu (k:Int) (pN k) (aN k) (bN k) (oN k) (xN k) (yN k) (bl (oN k)) (szN k) (lgN k))∧Vr v (w.heap.size+1+1) (pnt 0 0 false)∧Vr v b9 (pjT R)∧Rx v gd m m (iF (dF 4 d m)))
      72 (fun _ =>#[.int .i64 (D:Int),pv bm 0,pv bt 0]) 74 (fun _=>pv b9 0) (fun _=>.agg (pjT R)) ⟨z,G,c0,c2,c9,SD⟩ ?x1 ?x2 ?x3 ?x4 ⟨fnc,fnc,fnc,fnc,fnc,fnc,fnc,fnc,fnc,fnc,fnu,trivial⟩ ?x5
     case x1=>exact fun _ _ _ ⟨z,G,c0,c2,c9,SD⟩ g=>⟨z,G.trans g,c0.gr g,c2.gr g,c9.gr g,SD.gr g⟩
     case x2=>
      rintro _ v ⟨z,G,c0,c2,c9,SD⟩;refine .cons (.o 3 0 c0 rfl (by exact cu_0 _ _ _ _ _ _ _ _ _ _)) ?_;refine .cons (.g 74 0 c9 rfl) ?_;exact .cons (.z HA.out) .nil
     case x3=>
      rintro _ v ⟨z,G,c0,c2,c9,SD⟩ _;refine(mpicked_any h1 h2 oP (HP.out.kp G.r.kp fun x h=>(HB.out x h).1) (fun x h=>G.r.no (HB.out x h).1 (Nat.lt_of_lt_of_le (HB.out x h).2 G.h)) G.r.lk (by have:=HX.out;show (xs++rpx j).length≤_;rw[List.length_append,rpx_length];omega) lD hT).mono ?_;rintro e w' ⟨rfl,z2,r2⟩;refine⟨fun _=>(none,0),rfl,trivial,⟨z2,?_,c0.kp r2.kp (G.no HL.out (by omega) (by omega)),c2.kp r2.kp (G.no HL.out (by omega) (by omega)),c9.kp r2.kp (G.no HL.out (by omega) L3),SD.kept r2.kp (G.no HL.out (by omega) (by omega))⟩,trivial⟩;rw[List.append_assoc]at r2;exact G.next r2
     case x4=>
      rintro _ v ⟨z,G,c0,c2,c9,SD⟩ _;have HT:=c9.h;have FT:=c9.f;exact⟨setBlk v b9 (pjT R),by simp[go_sem,exI,HT,FT],z,G.set b9 _ (by omega) (G.no HL.out (by omega) L3),c0.other (by omega),c2.other (by omega),c9.set (by rw[prj_size];decide) _,SD.oth (by omega) _⟩
     case x5=>
      rintro _ v ⟨z3,G,c0,c2,c9,SD⟩;simp only[fzw];have HV:Hid (GbI n w v t z0 z3 (xs++rpx (j+1))∧Vr v (w.heap.size) (cu (k:Int) (pN k) (aN k) (bN k) (oN k) (xN k) (yN k) (bl (oN k)) (szN k) (lgN k))∧Vr v (w.heap.size+1+1) (pnt 0 0 false)∧Vr v b9 (pjT R)∧Rx v gd m m (iF (dF 4 d m))):=⟨G,c0,c2,c9,SD⟩;clear G c0 c2 c9 SD
      go_wp2_with fail
      go_roundw
      case rel=>exact⟨j+1,z3,R,by go_num,fun _=>hlt,HT2,HV⟩
      case measure=>simp[intOf];omega
  ·have j1:¬(j:Int)<(m:Int):=by omega
   have hj:j=m:=by have:=HJ.out ();omega
   subst hj
   have HTO:Hid _:=fun w=>by
    have h:=HT.out;rw[HE.out,HQ.out]at h;exact toQ h1 h2 h w
   clear HV HT
   go_upto_region 12 with fail
   refine wp_v false [.c (pv (w.heap.size) 0),.c (.int .i64 (k:Int)),.c (.agg (prj S.1 S.2.1 S.2.2)),.c (.tuple #[.agg (pnt Q.1 Q.2.1 Q.2.2),.int .i64 0]),.c (.tuple #[.agg (pnt Q.1 Q.2.1 Q.2.2),.int .i64 0]),.c (.agg (pnt Q.1 Q.2.1 Q.2.2)),.O,.a,.u,.O] [1,2,3] [⟨7,8,27,pnt 0 0 false,fun _=>pnt Q.1 Q.2.1 Q.2.2⟩] ⟨.o 3 0 c0 rfl (by exact cu_0 _ _ _ _ _ _ _ _ _ _),.g 74 0 c9 rfl,.z HTO.out,⟨⟩⟩ ⟨.k zPnt (.t rfl),⟨⟩⟩ fun yw12 v1 hg h12 hV12=>?_;simp only[fzw,Kw.a];obtain⟨⟨N12_7,V12_7⟩,-⟩:=hV12;clear h12;replace G:=G.trans hg;replace c0:=c0.gr hg;replace c9:=c9.gr hg;replace c2:=c2.gr hg;clear hg
   go_upto_region 13 with fail
   refine wp_wTS 1 [.c (.agg (pnt Q.1 Q.2.1 Q.2.2))] [0] ⟨.g 27 0 V12_7 rfl,⟨⟩⟩ (.s 27 (fun yy=>.pointer (some ⟨w.heap.size+1+1,0,none⟩)) (fun yy=>.agg (pnt Q.1 Q.2.1 Q.2.2)) fun yw13 v2 hg h13=>?_);have HT:=(c2.gr hg).h;have FT:=(c2.gr hg).f;refine⟨setBlk v2 (w.heap.size+1+1) (pnt Q.1 Q.2.1 Q.2.2),by simp[go_sem,exI,HT,FT],?_⟩;simp only[fzw];replace G:=G.trans hg
   go_wp2_with fail
   exact bodyPost_ret (res_one results48 (rd_pn (by rfl) (blk_setBlk _ _ _ (by rw[HT];decide +kernel)))) rfl ⟨rfl,z,(G.set (w.heap.size+1+1) _ (by omega) (G.no HL.out (by omega) (by omega))).r.le (by omega)⟩
end
section
attribute [local go_sem] uz8
attribute [local go_sem ↓] uz19 Go.wp_at_zero Go.wp_at_succ
attribute [local go_sem] uz20
attribute [local go_sem ↓] uz13
attribute [local go_sem] uz14
def Kw.fk(t:Option Nat)(S:Nat→Prop)(f:Nat→Q3):Kw:=⟨fun y=>.func (.func 72) #[] #[.pointer (some ⟨(y 0).2,0,none⟩),.pointer (some ⟨(y 1).2,0,none⟩)],fun y w=>∃b g cap,Pk w t (y 0).2 (y 1).2 b g cap f∧∀x,x=(y 0).2∨x=(y 1).2∨x=b∨x=g→¬S x,
 fun _ _ _ ⟨b,g,cap,h,n⟩ k=>⟨b,g,cap,h.gr k,n⟩,0,fun h=>absurd rfl h,fun h=>absurd h (by decide)⟩
theorem fnfk{t:Option Nat}{S:Nat→Prop}{f:Nat→Q3}:FarN (fun v w=>Kp S v w) (.fk t S f):=fun _ _ _ k ⟨b,g,cap,h,n⟩=>⟨b,g,cap,h.kp k n,n⟩
theorem mmul_yes{k:Nat}(h1:1≤k)(h2:k≤15){P:Q3}(oP:OnQ k P){d:Nat}(ld:d<oN k){t:Option Nat}{w:World}{z0:Value}{xs:List (Int×Int)}(hl:Lk w t z0 xs)(hx:xs.length≤800000){Q:Q3}(hQ:mlQ k d P=Q):
 Calls prog 25 #[trp t,.int .i64 (k:Int),.agg (nw 9 d),.agg (pnQ P)] w fun e w'=>e=.returned (.tuple #[.agg (pnQ Q),.int .i64 0])∧∃v',RecL w.heap.size w w' t z0 v' (xs++rpx (mnN 4 (bl (oN k)))):=by
 have HG:Hid (∀w,Cg 30 #[.int .i64 (k:Int)] w (.tuple #[.agg (cu (k:Int) (pN k) (aN k) (bN k) (oN k) (xN k) (yN k) (bl (oN k)) (szN k) (lgN k)),.int .i64 0])):=fun w=>get13_yes k h1 h2 w;have HO:Hid (∀w,Cg 31 #[.int .i64 (k:Int),.agg (pnt P.1 P.2.1 P.2.2)] w (.bool true)):=fun w=>(show onB k P.1 P.2.1 P.2.2=true from oP)▸on13_yes k h1 h2 _ _ P.2.2 oP.lt.1 oP.lt.2 w;have HB:Hid (∀w,Cg 47 #[.agg (nw 9 d),.agg (nw 9 (oN k))] w (.bool true)):=fun w=>(decide_eq_true ld)▸mbelow_any (Nat.lt_trans ld (oN_bd k)) (oN_bd k) w;have HL:Hid (Lk w t z0 xs):=hl;have HP:Hid _:=mpicker_any h1 h2 oP t
 have HM:Hid (∀{bm bt b g cap:Nat} {w:World},Pk w t bm bt b g cap (mF k P)→(∀x,x=bm∨x=bt∨x=b∨x=g→¬Ow t z0 x)→Lk w t z0 xs→Calls prog 48 #[.agg (cu (k:Int) (pN k) (aN k) (bN k) (oN k) (xN k) (yN k) (bl (oN k)) (szN k) (lgN k)),.agg (nw 9 d),.func (.func 72) #[] #[.pointer (some ⟨bm,0,none⟩),.pointer (some ⟨bt,0,none⟩)]] w
  fun e w'=>e=.returned (.agg (pnQ Q))∧∃v',RecL w.heap.size w w' t z0 v' (xs++rpx (mnN 4 (bl (oN k))))):=fun hP no hl=>hQ▸mprod_any h1 h2 oP ld hP no hl hx
 obtain⟨E,hE⟩:=exl (rpx (mnN 4 (bl (oN k))));rw[hE]at HM ⊢;clear hl hx hE hQ ld
 go_enter func25,ntmps25
 go_upto_region 1 with fail
 refine gen_w (fun v=>Gr w v∧Vr v (w.heap.size) (nw 9 d)∧Vr v (w.heap.size+1) (pnt P.1 P.2.1 P.2.2)∧Vr v (w.heap.size+1+1) (pnt 0 0 false)) ⟨grA,vrA,vrA,vrA⟩ ?_;rintro v0 ⟨G,c0,c1,c2⟩;have L0:w.heap.size+1+1<v0.heap.size:=c2.p;refine wp_v false [.c (.int .i64 (k:Int)),.c (.tuple #[.agg (cu (k:Int) (pN k) (aN k) (bN k) (oN k) (xN k) (yN k) (bl (oN k)) (szN k) (lgN k)),.int .i64 0]),.c (.tuple #[.agg (cu (k:Int) (pN k) (aN k) (bN k) (oN k) (xN k) (yN k) (bl (oN k)) (szN k) (lgN k)),.int .i64 0]),.c (.agg (cu (k:Int) (pN k) (aN k) (bN k) (oN k) (xN k) (yN k) (bl (oN k)) (szN k) (lgN k))),.O,.a,.u,.O] [1] [⟨5,6,67,cu 0 0 0 0 0 0 0 0 0 false,fun _=>cu (k:Int) (pN k) (aN k) (bN k) (oN k) (xN k) (yN k) (bl (oN k)) (szN k) (lgN k)⟩] ⟨.z HG.out,⟨⟩⟩ ⟨.k zCu (.t rfl),⟨⟩⟩ fun yw1 v1 hg h1 hV1=>?_;simp only[fzw,Kw.a];obtain⟨⟨N1_5,V1_5⟩,-⟩:=hV1;clear h1;replace G:=G.trans hg;replace c0:=c0.gr hg;replace c1:=c1.gr hg;replace c2:=c2.gr hg;clear hg
 go_upto_region 2 with fail
 refine wp_wS [.O,.F] [] ⟨⟩ fun yw2 v2 hg h2=>?_;simp only[fzw];clear h2;replace G:=G.trans hg;replace c0:=c0.gr hg;replace c1:=c1.gr hg;replace c2:=c2.gr hg;replace V1_5:=V1_5.gr hg;clear hg
 go_upto_region 4 with fail
 refine wp_wS [.c (.int .i64 (k:Int)),.c (.agg (pnt P.1 P.2.1 P.2.2)),.T,.F] [1,2] ⟨.g 27 0 c1 rfl,.z HO.out,⟨⟩⟩ fun yw4 v3 hg h4=>?_;simp only[fzw];clear h4;replace G:=G.trans hg;replace c0:=c0.gr hg;replace c1:=c1.gr hg;replace c2:=c2.gr hg;replace V1_5:=V1_5.gr hg;clear hg
 go_upto_region 6 with fail
 refine wp_wS [.N d,.c (pv ((yw1 5 0).2) 28),.N (oN k),.T,.F] [0,2,3] ⟨.g 25 0 c0 rfl,.g 25 28 V1_5 rfl,.z HB.out,⟨⟩⟩ fun yw6 v4 hg h6=>?_;simp only[fzw];clear h6;replace G:=G.trans hg;replace c0:=c0.gr hg;replace c1:=c1.gr hg;replace c2:=c2.gr hg;replace V1_5:=V1_5.gr hg;clear hg;have L1:(yw1 5 0).2<v4.heap.size:=V1_5.p;generalize (yw1 5 0).2=b3 at *;obtain⟨n,hn⟩:=exl (v4.heap.size);have HV:Hid (GbI n w v4 t z0 z0 xs∧Vr v4 (w.heap.size) (nw 9 d)∧Vr v4 (w.heap.size+1) (pnt P.1 P.2.1 P.2.2)∧Vr v4 (w.heap.size+1+1) (pnt 0 0 false)∧Vr v4 b3 (cu (k:Int) (pN k) (aN k) (bN k) (oN k) (xN k) (yN k) (bl (oN k)) (szN k) (lgN k))):=⟨⟨(RecL.refl HL.out n).gr G,by omega,by have:=G.below.size;omega⟩,c0,c1,c2,V1_5⟩;clear G c0 c1 c2 V1_5
 go_upto_region 8 with fail
 refine wp_x true [.c (.agg (cu (k:Int) (pN k) (aN k) (bN k) (oN k) (xN k) (yN k) (bl (oN k)) (szN k) (lgN k))),.c (.agg (nw 9 d)),.c (trp t),.c (.int .i64 (k:Int)),.c (.agg (pnQ P)),.fk t (Ow t z0) (mF k P),.c (.agg (pnQ Q)),.u,.c (.int .i64 0)] [0,1,4,5] 6 7 (fun v u=>Kp (Ow t z0) v u)
  (fun c v=>∃z,(c=false→z=z0)∧GbI n w v t z0 z (cond c (xs++E) xs)∧Vr v (w.heap.size) (nw 9 d)∧Vr v (w.heap.size+1) (pnt P.1 P.2.1 P.2.2)∧Vr v (w.heap.size+1+1) (pnt 0 0 false)∧Vr v b3 (cu (k:Int) (pN k) (aN k) (bN k) (oN k) (xN k) (yN k) (bl (oN k)) (szN k) (lgN k)))
  (fun _ v=>∃z,GbI n w v t z0 z (xs++E)∧Vr v (w.heap.size) (nw 9 d)∧Vr v (w.heap.size+1) (pnt P.1 P.2.1 P.2.2)∧Vr v (w.heap.size+1+1) (pnt Q.1 Q.2.1 Q.2.2)∧Vr v b3 (cu (k:Int) (pN k) (aN k) (bN k) (oN k) (xN k) (yN k) (bl (oN k)) (szN k) (lgN k)))
  48 (fun x =>#[.agg (cu (k:Int) (pN k) (aN k) (bN k) (oN k) (xN k) (yN k) (bl (oN k)) (szN k) (lgN k)),.agg (nw 9 d),.func (.func 72) #[] #[.pointer (some ⟨(x 5 0).2,0,none⟩),.pointer (some ⟨(x 5 1).2,0,none⟩)]]) 27 (fun _=>pv (w.heap.size+1+1) 0) (fun _=>.agg (pnQ Q)) ⟨z0,fun _=>rfl,HV⟩ ?x1 ?x2 ?x3 ?x4 ⟨fnc,fnc,fnc,fnc,fnc,fnfk,fnc,fnu,fnc,trivial⟩ ?x5
 case x1=>exact fun _ _ _ ⟨z,hz,G,c0,c1,c2,c3⟩ g=>⟨z,hz,G.trans g,c0.gr g,c1.gr g,c2.gr g,c3.gr g⟩
 case x2=>
  rintro _ v ⟨z,hz,G,c0,c1,c2,c3⟩
  have HK:∀u,Gr v u→Calls prog 49 #[trp t,.int .i64 (k:Int),.agg (pnQ P)] u (RtW (.fk t (Ow t z0) (mF k P)) u):=fun u hu=>by
   refine(HP.out _).mono ?_;rintro e w' ⟨bm,bt,b,g,cap,rfl,hP,hn,hG⟩;exact⟨fun i=>match i with|0=>(none,bm)|_=>(none,bt),rfl,⟨b,g,cap,hP,fun x h ho=>by have:=hn x h;have:=HL.out.own ho;have:=G.s;have:=G.h;have:=hu.below.size;omega⟩,hG⟩
  refine .cons (.g 67 0 c3 rfl) ?_;refine .cons (.g 25 0 c0 rfl) ?_;refine .cons (.g 27 0 c1 rfl) ?_;exact .cons (.k _ fun yy vv hg hh=>HK _ hg) .nil
 case x3=>
  rintro x v ⟨z,hz,G,c0,c1,c2,c3⟩ hy;obtain rfl:=hz rfl;obtain⟨b,g,cap,hP,hno⟩:=hy 5 (by kernel_rfl);refine(HM.out hP hno G.r.lk).mono ?_;rintro e w' ⟨rfl,z2,r2⟩;exact⟨fun _=>(none,0),rfl,trivial,⟨z2,(fun h=>by cases h),G.next r2,c0.kp r2.kp (G.no HL.out (by omega) (by omega)),c1.kp r2.kp (G.no HL.out (by omega) (by omega)),c2.kp r2.kp (G.no HL.out (by omega) (by omega)),c3.kp r2.kp (G.no HL.out (by omega) (by omega))⟩,r2.kp⟩
 case x4=>
  rintro _ v ⟨z,hz,G,c0,c1,c2,c3⟩ _;have HT:=c2.h;have FT:=c2.f;exact⟨setBlk v (w.heap.size+1+1) (pnQ Q),by simp[go_sem,exI,HT,FT],z,G.set _ _ (by omega) (G.no HL.out (by omega) (by omega)),c0.other (by omega),c1.other (by omega),c2.set (by rw[pnt_size];decide) _,c3.other (by omega)⟩
 case x5=>
  rintro _ v ⟨z3,G,c0,c1,c2,c3⟩;simp only[fzw,Kw.fk];have hh:=c2.h;have HR:=G.r.le (m:=w.heap.size) (by omega)
  go_wp2_with fail
  exact bodyPost_ret (res_two results25 (rd_pn (by rfl) hh) (rd_tmp (by rfl))) rfl ⟨rfl,z3,HR⟩
end
section
theorem loadSm_is:LdI 76:=fun _=>rfl
theorem storeSm_is:StI 76:=fun _ _=>rfl
theorem zvSm_is:zeroValue 76=zvS 76:=rfl
theorem zvSm(w:World):(zvS 76).run prog w=.ok (.agg (pjs (fun _=>(0,0,0)) 16)) w:=by kernel_rfl
theorem loadSm:LdS 76 432:=ldS
theorem storeSm(w:World)(b:Nat)(f:Nat→T3)(hs:(blk w b).size=432)(hf:frz w b=(0,0)):(storeS 76 (.pointer (some ⟨b,0,none⟩)) (.agg (pjs (f) 16))).run prog w=.ok () (setBlk w b (pjs (f) 16)):=
 storeS_run 432 (by decide) (by kernel_rfl) w b _ (pjs_size f 16) (pjs_one f 16) hs hf
theorem rd_sm{tmps:Array Value}{t:Tmp}{w:World}{b:Nat}{f:Nat→T3}(h:tmps.getD t undef=.pointer (some ⟨b,0,none⟩))(hc:blk w b=pjs (f) 16):(readR tmps (.cell t 76)).run prog w=.ok (.agg (pjs (f) 16)) w:=
 rd_cell 432 underlying76 rfl (by kernel_rfl) h hc (pjs_size f 16)
theorem ldJ{w:World}{b i:Nat}{f:Nat→T3}(h:Vr w b (pjs (f) 16))(hi:i<16):(loadS 74 (.pointer (some ⟨b,i*27,none⟩))).run prog w=.ok (.agg (pjT (f i))) w:=by
 rw[loadPartJ w b (i*27) (by rw[h.h,pjs_size];omega),h.h,pjs_get f hi]
theorem stJ{w:World}{b i:Nat}{f:Nat→T3}(h:Vr w b (pjs (f) 16))(hi:i<16)(x y z:Nat):(storeS 74 (.pointer (some ⟨b,i*27,none⟩)) (.agg (prj x y z))).run prog w=.ok () (setBlk w b (pjs (fun j=>if j=i then(x,y,z) else f j) 16)):=by
 have e:=pjs_set f 16 i (x,y,z)
 have hs:(blk w b).size=432:=by rw[h.h,pjs_size]
 rw[store_mid 27 (by kernel_rfl) w b (i*27) _ (prj_size x y z) (prj_one x y z) (by omega) (by omega) h.f,h.h,←e]
def tbU(k:Nat)(Q:Q3)(n i:Nat):T3:=if i<n then tbT k Q i else(0,0,0)
theorem tbU_0(k:Nat)(Q:Q3):pjs (tbU k Q 0) 16=pjs (fun _=>(0,0,0)) 16:=pjs_congr fun i _=>if_neg (Nat.not_lt_zero i)
theorem tbU_all(k:Nat)(Q:Q3):pjs (tbU k Q 16) 16=pjs (tbT k Q) 16:=pjs_congr fun _ h=>if_pos h
theorem tbU_succ(k:Nat)(Q:Q3){n:Nat}:pjs (fun j=>if j=n then tbT k Q n else tbU k Q n j) 16=pjs (tbU k Q (n+1)) 16:=pjs_congr fun i _=>by
 unfold tbU
 by_cases e:i=n
 ·rw[if_pos e,if_pos (by omega),e]
 ·by_cases h:i<n
  ·rw[if_neg e,if_pos h,if_pos (by omega)]
  ·rw[if_neg e,if_neg h,if_neg (by omega)]
attribute [local go_sem] uz8
attribute [local go_sem ↓] uz19 Go.wp_at_zero Go.wp_at_succ
attribute [local go_sem] uz20
attribute [local go_sem ↓] uz13
attribute [local go_sem] uz14
attribute [local go_sem ↓] loadSm_is storeSm_is zvSm_is
attribute [local go_sem] loadSm storeSm zvSm
theorem sums_any{k:Nat}(h1:1≤k)(h2:k≤15){Q:Q3}(oQ:OnQ k Q)(w:World):Cg 34 #[.agg (cu (k:Int) (pN k) (aN k) (bN k) (oN k) (xN k) (yN k) (bl (oN k)) (szN k) (lgN k)),.agg (pnQ Q)] w (.agg (pjs (tbT k Q) 16)):=by
 obtain⟨A,hA⟩:=exl (frT Q);obtain⟨D,hD⟩:=exl (frT (gQ k));have oG:=gQ_on h1 h2;have trA:TrQ k A Q:=hA▸frT_tr h1 h2 oQ;have trD:TrQ k D (gQ k):=hD▸frT_tr h1 h2 oG;have HA:Hid _:=fromQ h1 h2 oQ hA;have HD:Hid (∀w,Cg 59 #[.int .i64 (k:Int),.agg (pnt (xN k) (yN k) false)] w (.tuple #[.agg (prj D.1 D.2.1 D.2.2),.int .i64 0])):=fun w=>fromQ h1 h2 oG hD w;have HI:Hid (∀w,Cg 59 #[.int .i64 (k:Int),.agg (pnt 0 0 true)] w (.tuple #[.agg (prj 0 1 0),.int .i64 0])):=fun w=>fromQ h1 h2 (inf_on k) rfl w;have HTB:Hid _:=tbT_tr h1 h2 oQ;have HR:Hid (∀n m,n%4=0→m+4=n→addT k (tbT k Q m) D=tbT k Q n):=fun n m q hm=>hD▸tbT_row k Q q hm;have HC:Hid (∀n m,n%4≠0→m+1=n→addT k (tbT k Q m) A=tbT k Q n):=fun n m q hm=>hA▸tbT_col k Q q hm;clear hA hD oG oQ
 go_enter func34,ntmps34
 go_upto_region 1 with fail
 refine gen_w (fun v=>Gr w v∧Vr v (w.heap.size) (cu (k:Int) (pN k) (aN k) (bN k) (oN k) (xN k) (yN k) (bl (oN k)) (szN k) (lgN k))∧Vr v (w.heap.size+1) (pnQ Q)∧Vr v (w.heap.size+1+1) (pjs (fun _=>(0,0,0)) 16)) ⟨grA,vrA,vrA,vrA⟩ ?_;rintro v0 ⟨G,c0,c1,c2⟩;have L0:w.heap.size+1+1<v0.heap.size:=c2.p;refine wp_v false [.c (pv (w.heap.size) 0),.c (.int .i64 (k:Int)),.c (.agg (pnt Q.1 Q.2.1 Q.2.2)),.c (.tuple #[.agg (prj A.1 A.2.1 A.2.2),.int .i64 0]),.c (.tuple #[.agg (prj A.1 A.2.1 A.2.2),.int .i64 0]),.c (.agg (prj A.1 A.2.1 A.2.2)),.O,.a,.u,.O] [1,2,3] [⟨7,8,74,prj 0 0 0,fun _=>prj A.1 A.2.1 A.2.2⟩] ⟨.o 3 0 c0 rfl (by exact cu_0 _ _ _ _ _ _ _ _ _ _),.g 27 0 c1 rfl,.z HA.out,⟨⟩⟩ ⟨.k zPj (.t rfl),⟨⟩⟩ fun yw1 v1 hg h1 hV1=>?_;simp only[fzw,Kw.a];obtain⟨⟨N1_7,V1_7⟩,-⟩:(v0.heap.size≤(yw1 7 0).2∧Vr v1 (yw1 7 0).2 (prj A.1 A.2.1 A.2.2))∧True:=hV1;clear h1;replace G:=G.trans hg;replace c0:=c0.gr hg;replace c1:=c1.gr hg;replace c2:=c2.gr hg;clear hg;have La:(yw1 7 0).2<v1.heap.size:=V1_7.p
 go_upto_region 2 with fail
 refine wp_v false [.c (pv (w.heap.size) 0),.c (.int .i64 (k:Int)),.c (pv (w.heap.size) 37),.c (.agg (pnt (xN k) (yN k) false)),.c (.tuple #[.agg (prj D.1 D.2.1 D.2.2),.int .i64 0]),.c (.tuple #[.agg (prj D.1 D.2.1 D.2.2),.int .i64 0]),.c (.agg (prj D.1 D.2.1 D.2.2)),.O,.a,.u,.O] [1,3,4] [⟨8,9,74,prj 0 0 0,fun _=>prj D.1 D.2.1 D.2.2⟩] ⟨.o 3 0 c0 rfl (by exact cu_0 _ _ _ _ _ _ _ _ _ _),.g 27 37 c0 rfl,.z HD.out,⟨⟩⟩ ⟨.k zPj (.t rfl),⟨⟩⟩ fun yw2 v2 hg h2 hV2=>?_;simp only[fzw,Kw.a];obtain⟨⟨N2_8,V2_8⟩,-⟩:(v1.heap.size≤(yw2 8 0).2∧Vr v2 (yw2 8 0).2 (prj D.1 D.2.1 D.2.2))∧True:=hV2;clear h2;replace G:=G.trans hg;replace c0:=c0.gr hg;replace c1:=c1.gr hg;replace c2:=c2.gr hg;replace V1_7:=V1_7.gr hg;clear hg;have L1:(yw1 7 0).2<v2.heap.size:=V1_7.p;have L2:(yw2 8 0).2<v2.heap.size:=V2_8.p
 have L3:(yw1 7 0).2<(yw2 8 0).2:=by have:=N2_8;omega
 go_upto_region 4 with fail
 obtain⟨b9,hb9⟩:=exl (v2.heap.size);rw[hb9]at L1 L2;simp only[hb9];generalize (yw1 7 0).2=bA at *;generalize (yw2 8 0).2=bD at *;refine gen_w (fun v=>Gr w v∧Vr v (w.heap.size) (cu (k:Int) (pN k) (aN k) (bN k) (oN k) (xN k) (yN k) (bl (oN k)) (szN k) (lgN k))∧Vr v (w.heap.size+1+1) (pjs (fun _=>(0,0,0)) 16)∧Vr v bA (pjT A)∧Vr v bD (pjT D)∧Vr v b9 (pjs (tbU k Q 0) 16)) ⟨G.alloc _,c0.gr ((Gr.refl _).alloc _),c2.gr ((Gr.refl _).alloc _),V1_7.gr ((Gr.refl _).alloc _),V2_8.gr ((Gr.refl _).alloc _),by rw[tbU_0,←hb9];exact Vr.new _ _ _⟩ ?_;clear G c0 c1 c2 V1_7 V2_8 hb9;rintro v3 ⟨G,c0,c2,cA,cD,c9⟩;have st0:∀{v:World},Gr v3 v→(storeS 74 (.pointer (some ⟨b9,0,none⟩)) (.agg (prj 0 1 0))).run prog v=.ok () (setBlk v b9 (pjs (tbU k Q 1) 16)):=fun g=>(stJ (i:=0) (c9.gr g) (by decide) 0 1 0).trans (congrArg (fun d=>Result.ok () (setBlk _ b9 d)) (tbU_succ k Q (n:=0)))
 go_upto_region 4 with fail
 refine wp_wTS 8 [.c (pv (w.heap.size) 0),.c (.int .i64 (k:Int)),.c (.agg (pnt 0 0 true)),.c (.tuple #[.agg (prj 0 1 0),.int .i64 0]),.c (.tuple #[.agg (prj 0 1 0),.int .i64 0]),.c (.agg (prj 0 1 0)),.O,.c (pv b9 0)] [1,3] ⟨.o 3 0 c0 rfl (by exact cu_0 _ _ _ _ _ _ _ _ _ _),.z HI.out,⟨⟩⟩ (.s 74 (fun yy=>.pointer (some ⟨b9,0,none⟩)) (fun yy=>.agg (prj 0 1 0)) fun yw4 v1 hg h4=>?_);have HT:=(c9.gr hg).h;have FT:=(c9.gr hg).f;refine⟨setBlk v1 (b9) (pjs (tbU k Q 1) 16),by simp[go_sem,exI,st0 hg],?_⟩;simp only[fzw];clear h4;replace G:=G.trans hg;replace c0:=c0.gr hg;replace cA:=cA.gr hg;replace cD:=cD.gr hg;replace c2:=c2.gr hg;replace c9:=c9.gr hg;clear hg;clear st0 HT FT;have HV:Hid (Gr w (setBlk v1 b9 (pjs (tbU k Q 1) 16))∧Vr (setBlk v1 b9 (pjs (tbU k Q 1) 16)) (w.heap.size) (cu (k:Int) (pN k) (aN k) (bN k) (oN k) (xN k) (yN k) (bl (oN k)) (szN k) (lgN k))∧Vr (setBlk v1 b9 (pjs (tbU k Q 1) 16)) (w.heap.size+1+1) (pjs (fun _=>(0,0,0)) 16)∧Vr (setBlk v1 b9 (pjs (tbU k Q 1) 16)) bA (pjT A)∧Vr (setBlk v1 b9 (pjs (tbU k Q 1) 16)) bD (pjT D)∧Vr (setBlk v1 b9 (pjs (tbU k Q 1) 16)) b9 (pjs (tbU k Q 1) 16)):=⟨gr_setNew G (by omega),c0.other (by omega),c2.other (by omega),cA.other (by omega),cD.other (by omega),c9.set (by rw[pjs_size];decide) _⟩;clear G c0 c2 cA cD c9
 go_wp2_with fail
 go_loopw [10] (fun ia wr=>∃n:Nat,ia=.int .i64 (n:Int)∧Hu (1≤n∧n≤16)∧Hid (Gr w wr∧Vr wr (w.heap.size) (cu (k:Int) (pN k) (aN k) (bN k) (oN k) (xN k) (yN k) (bl (oN k)) (szN k) (lgN k))∧Vr wr (w.heap.size+1+1) (pjs (fun _=>(0,0,0)) 16)∧Vr wr bA (pjT A)∧Vr wr bD (pjT D)∧Vr wr b9 (pjs (tbU k Q n) 16))) (fun ia _=>16-(intOf ia).toNat)
 case atStart=>exact⟨1,rfl,fun _=>⟨by decide,by decide⟩,HV⟩
 case round=>
  clear HV;obtain⟨n,rfl,HJ,HV⟩:=hrel
  have n0:(0:Int)≤(n:Int):=by omega
  have hn1:=(HJ.out ()).1
  by_cases hlt:n<16
  ·have n1:(n:Int)<16:=by omega
   obtain⟨R,hR⟩:=exl (tbT k Q n);have stm:∀{v:World},Vr v b9 (pjs (tbU k Q n) 16)→(storeS 74 (.pointer (some ⟨b9,n*27,none⟩)) (.agg (prj R.1 R.2.1 R.2.2))).run prog v=.ok () (setBlk v b9 (pjs (tbU k Q (n+1)) 16)):=fun h=>(stJ h hlt R.1 R.2.1 R.2.2).trans (congrArg (fun d=>Result.ok () (setBlk _ b9 d)) (hR▸tbU_succ k Q (n:=n)))
   by_cases q:n%4=0
   ·have q4:(n:Int).tmod 4=0:=by rw[Int.tmod_eq_emod_of_nonneg (by omega)];omega
    obtain⟨m,hm⟩:∃m,m+4=n:=⟨n-4,by omega⟩
    have m0:(0:Int)≤(m:Int):=by omega
    have m1:(m:Int)<16:=by omega
    have hs:IntKind.i64.wrap ((n:Int)-4)=(m:Int):=by rw[IntKind.wrap_i64];omega
    obtain⟨S,hS⟩:=exl (tbT k Q m);have hSU:tbU k Q n m=S:=(if_pos (by omega)).trans hS;have HADD:Hid _:=jaddQ h1 h2 (hS▸HTB.out m) trD (R:=R) (by rw[←hS,←hR];exact HR.out n m q hm)
    have ldm:∀{v:World},Vr v b9 (pjs (tbU k Q n) 16)→(loadS 74 (.pointer (some ⟨b9,m*27,none⟩))).run prog v=.ok (.agg (prj S.1 S.2.1 S.2.2)) v:=fun h=>by rw[ldJ h (by omega),hSU]
    clear hS hSU
    go_upto_region 9 with fail
    refine wp_x true [.c (.int .i64 (n:Int)),.c (pv (w.heap.size) 0),.c (.int .i64 (k:Int)),.c (.int .i64 (n:Int)),.c (.int .i64 (m:Int)),.c (pv b9 (m*27)),.c (.agg (prj S.1 S.2.1 S.2.2)),.c (.agg (prj D.1 D.2.1 D.2.2)),.c (.tuple #[.agg (prj R.1 R.2.1 R.2.2),.int .i64 0]),.c (.tuple #[.agg (prj R.1 R.2.1 R.2.2),.int .i64 0]),.c (.agg (prj R.1 R.2.1 R.2.2)),.c (.int .i64 0),.c (pv b9 (n*27)),.u] [2,4,5,6,7,12] 8 13 (fun _ _=>True) (fun _ v=>Gr w v∧Vr v (w.heap.size) (cu (k:Int) (pN k) (aN k) (bN k) (oN k) (xN k) (yN k) (bl (oN k)) (szN k) (lgN k))∧Vr v (w.heap.size+1+1) (pjs (fun _=>(0,0,0)) 16)∧Vr v bA (pjT A)∧Vr v bD (pjT D)∧Vr v b9 (pjs (tbU k Q n) 16)) (fun _ v=>Gr w v∧Vr v (w.heap.size) (cu (k:Int) (pN k) (aN k) (bN k) (oN k) (xN k) (yN k) (bl (oN k)) (szN k) (lgN k))∧Vr v (w.heap.size+1+1) (pjs (fun _=>(0,0,0)) 16)∧Vr v bA (pjT A)∧Vr v bD (pjT D)∧Vr v b9 (pjs (tbU k Q (n+1)) 16)) 57 (fun _ =>#[.int .i64 (k:Int),.agg (prj S.1 S.2.1 S.2.2),.agg (prj D.1 D.2.1 D.2.2)]) 74 (fun _=>pv (b9) (n*27)) (fun _=>.agg (prj R.1 R.2.1 R.2.2)) HV.out ?x1 ?x2 ?x3 ?x4 ⟨fnc,fnc,fnc,fnc,fnc,fnc,fnc,fnc,fnc,fnc,fnc,fnc,fnc,fnu,trivial⟩ ?x5
    case x1=>exact fun _ _ _ ⟨G,c0,c2,cA,cD,c9⟩ g=>⟨G.trans g,c0.gr g,c2.gr g,cA.gr g,cD.gr g,c9.gr g⟩
    case x2=>
     rintro _ v ⟨G,c0,c2,cA,cD,c9⟩;refine .cons (.o 3 0 c0 rfl (by exact cu_0 _ _ _ _ _ _ _ _ _ _)) ?_;refine .cons (.s (.binOp .sub 3 (.const (.int .i64 (n:Int))) (.const (.int .i64 4)) 3) rfl fun vv hg=>by simp[go_sem,exI,hs]) ?_;refine .cons (.s (.indexAddr 76 (.const (pv b9 0)) (.const (.int .i64 (m:Int)))) rfl fun vv hg=>by simp[go_sem,exI,m0,m1]) ?_;refine .cons (.s (.load 74 (.const (pv b9 (m*27)))) rfl fun vv hg=>by simp[go_sem,exI,ldm (c9.gr hg)]) ?_;refine .cons (.g 74 0 cD rfl) ?_;exact .cons (.s (.indexAddr 76 (.const (pv b9 0)) (.const (.int .i64 (n:Int)))) rfl fun vv hg=>by simp[go_sem,exI,n0,n1]) .nil
    case x3=>
     rintro _ v ⟨G,c0,c2,cA,cD,c9⟩ _;refine(HADD.out _).mono ?_;rintro e w' ⟨rfl,g⟩;exact⟨fun _=>(none,0),rfl,trivial,⟨G.trans g,c0.gr g,c2.gr g,cA.gr g,cD.gr g,c9.gr g⟩,trivial⟩
    case x4=>
     rintro _ v ⟨G,c0,c2,cA,cD,c9⟩ _;exact⟨setBlk v (b9) (pjs (tbU k Q (n+1)) 16),by simp[go_sem,exI,stm c9],gr_setNew G (by omega),c0.other (by omega),c2.other (by omega),cA.other (by omega),cD.other (by omega),c9.set (by rw[pjs_size];decide) _⟩
    case x5=>
     clear HV;rintro _ v HV;simp only[fzw]
     go_wp2_with fail
     go_roundw
     case rel=>exact⟨n+1,by go_num,fun _=>⟨by omega,hlt⟩,HV⟩
     case measure=>simp[intOf];omega
   ·have q4:¬(n:Int).tmod 4=0:=by rw[Int.tmod_eq_emod_of_nonneg (by omega)];omega
    obtain⟨m,hm⟩:∃m,m+1=n:=⟨n-1,by omega⟩
    have m0:(0:Int)≤(m:Int):=by omega
    have m1:(m:Int)<16:=by omega
    have hs:IntKind.i64.wrap ((n:Int)-1)=(m:Int):=by rw[IntKind.wrap_i64];omega
    obtain⟨S,hS⟩:=exl (tbT k Q m);have hSU:tbU k Q n m=S:=(if_pos (by omega)).trans hS;have HADD:Hid _:=jaddQ h1 h2 (hS▸HTB.out m) trA (R:=R) (by rw[←hS,←hR];exact HC.out n m q hm)
    have ldm:∀{v:World},Vr v b9 (pjs (tbU k Q n) 16)→(loadS 74 (.pointer (some ⟨b9,m*27,none⟩))).run prog v=.ok (.agg (prj S.1 S.2.1 S.2.2)) v:=fun h=>by rw[ldJ h (by omega),hSU]
    clear hS hSU
    go_upto_region 10 with fail
    refine wp_x true [.c (.int .i64 (n:Int)),.c (pv (w.heap.size) 0),.c (.int .i64 (k:Int)),.c (.int .i64 (n:Int)),.c (.int .i64 (m:Int)),.c (pv b9 (m*27)),.c (.agg (prj S.1 S.2.1 S.2.2)),.c (.agg (prj A.1 A.2.1 A.2.2)),.c (.tuple #[.agg (prj R.1 R.2.1 R.2.2),.int .i64 0]),.c (.tuple #[.agg (prj R.1 R.2.1 R.2.2),.int .i64 0]),.c (.agg (prj R.1 R.2.1 R.2.2)),.c (.int .i64 0),.c (pv b9 (n*27)),.u] [2,4,5,6,7,12] 8 13 (fun _ _=>True) (fun _ v=>Gr w v∧Vr v (w.heap.size) (cu (k:Int) (pN k) (aN k) (bN k) (oN k) (xN k) (yN k) (bl (oN k)) (szN k) (lgN k))∧Vr v (w.heap.size+1+1) (pjs (fun _=>(0,0,0)) 16)∧Vr v bA (pjT A)∧Vr v bD (pjT D)∧Vr v b9 (pjs (tbU k Q n) 16)) (fun _ v=>Gr w v∧Vr v (w.heap.size) (cu (k:Int) (pN k) (aN k) (bN k) (oN k) (xN k) (yN k) (bl (oN k)) (szN k) (lgN k))∧Vr v (w.heap.size+1+1) (pjs (fun _=>(0,0,0)) 16)∧Vr v bA (pjT A)∧Vr v bD (pjT D)∧Vr v b9 (pjs (tbU k Q (n+1)) 16)) 57 (fun _ =>#[.int .i64 (k:Int),.agg (prj S.1 S.2.1 S.2.2),.agg (prj A.1 A.2.1 A.2.2)]) 74 (fun _=>pv (b9) (n*27)) (fun _=>.agg (prj R.1 R.2.1 R.2.2)) HV.out ?x1 ?x2 ?x3 ?x4 ⟨fnc,fnc,fnc,fnc,fnc,fnc,fnc,fnc,fnc,fnc,fnc,fnc,fnc,fnu,trivial⟩ ?x5
    case x1=>exact fun _ _ _ ⟨G,c0,c2,cA,cD,c9⟩ g=>⟨G.trans g,c0.gr g,c2.gr g,cA.gr g,cD.gr g,c9.gr g⟩
    case x2=>
     rintro _ v ⟨G,c0,c2,cA,cD,c9⟩;refine .cons (.o 3 0 c0 rfl (by exact cu_0 _ _ _ _ _ _ _ _ _ _)) ?_;refine .cons (.s (.binOp .sub 3 (.const (.int .i64 (n:Int))) (.const (.int .i64 1)) 3) rfl fun vv hg=>by simp[go_sem,exI,hs]) ?_;refine .cons (.s (.indexAddr 76 (.const (pv b9 0)) (.const (.int .i64 (m:Int)))) rfl fun vv hg=>by simp[go_sem,exI,m0,m1]) ?_;refine .cons (.s (.load 74 (.const (pv b9 (m*27)))) rfl fun vv hg=>by simp[go_sem,exI,ldm (c9.gr hg)]) ?_;refine .cons (.g 74 0 cA rfl) ?_;exact .cons (.s (.indexAddr 76 (.const (pv b9 0)) (.const (.int .i64 (n:Int)))) rfl fun vv hg=>by simp[go_sem,exI,n0,n1]) .nil
    case x3=>
     rintro _ v ⟨G,c0,c2,cA,cD,c9⟩ _;refine(HADD.out _).mono ?_;rintro e w' ⟨rfl,g⟩;exact⟨fun _=>(none,0),rfl,trivial,⟨G.trans g,c0.gr g,c2.gr g,cA.gr g,cD.gr g,c9.gr g⟩,trivial⟩
    case x4=>
     rintro _ v ⟨G,c0,c2,cA,cD,c9⟩ _;exact⟨setBlk v (b9) (pjs (tbU k Q (n+1)) 16),by simp[go_sem,exI,stm c9],gr_setNew G (by omega),c0.other (by omega),c2.other (by omega),cA.other (by omega),cD.other (by omega),c9.set (by rw[pjs_size];decide) _⟩
    case x5=>
     clear HV;rintro _ v HV;simp only[fzw]
     go_wp2_with fail
     go_roundw
     case rel=>exact⟨n+1,by go_num,fun _=>⟨by omega,hlt⟩,HV⟩
     case measure=>simp[intOf];omega
  ·have n1:¬(n:Int)<16:=by omega
   obtain rfl:n=16:=by have:=(HJ.out ()).2;omega
   obtain⟨G,c0,c2,cA,cD,c9⟩:=HV.out;rw[tbU_all]at c9;clear HV
   go_upto_region 11 with fail
   refine wp_wTS 1 [.c (.agg (pjs (tbT k Q) 16))] [0] ⟨.g 76 0 c9 rfl fun vv H=>by simp[go_sem,exI,H,pjs_size],⟨⟩⟩ (.s 76 (fun yy=>.pointer (some ⟨w.heap.size+1+1,0,none⟩)) (fun yy=>.agg (pjs (tbT k Q) 16)) fun yw11 v1 hg h11=>?_);have HT:=(c2.gr hg).h;have FT:=(c2.gr hg).f;refine⟨setBlk v1 (w.heap.size+1+1) (pjs (tbT k Q) 16),by simp[go_sem,exI,HT,FT,pjs_size],?_⟩;simp only[fzw];clear h11;replace G:=G.trans hg;replace c0:=c0.gr hg;replace cA:=cA.gr hg;replace cD:=cD.gr hg;replace c2:=c2.gr hg;replace c9:=c9.gr hg;clear hg
   go_wp2_with fail
   exact bodyPost_ret (res_one results34 (rd_sm (by rfl) (blk_setBlk _ _ _ (by rw[HT,pjs_size];decide)))) rfl ⟨rfl,gr_setNew G (by omega)⟩
end
section
attribute [local go_sem] uz8
attribute [local go_sem ↓] uz19 Go.wp_at_zero Go.wp_at_succ
attribute [local go_sem] uz20
attribute [local go_sem ↓] uz13
attribute [local go_sem] uz14
attribute [local go_sem ↓] loadSm_is storeSm_is zvSm_is
attribute [local go_sem] loadSm storeSm zvSm
theorem dwalk_any{k:Nat}(h1:1≤k)(h2:k≤15){Q:Q3}(oQ:OnQ k Q){T:Nat→T3}(hT:∀i,TrQ k (T i) (twQ k Q (i/4) (i%4))){x y:Nat}(lx:x<oN k)(ly:y<oN k)(w:World):
 Cg 33 #[.agg (cu (k:Int) (pN k) (aN k) (bN k) (oN k) (xN k) (yN k) (bl (oN k)) (szN k) (lgN k)),.agg (nw 9 x),.agg (nw 9 y),.agg (pjs (T) 16)] w (.agg (pnQ (twQ k Q x y))):=by
 have hx:=Nat.lt_trans lx (lt_bl (oN k));have hy:=Nat.lt_trans ly (lt_bl (oN k));have b1:=bl_pos (Nat.lt_of_le_of_lt (Nat.zero_le _) lx);have HX:Hid _:=fun w=>wdig_any (W:=2) (Nat.lt_trans lx (oN_bd k)) (by decide) (by decide) b1 (bl_576 _ (oN_bd k)) hx w;have HY:Hid _:=fun w=>wdig_any (W:=2) (Nat.lt_trans ly (oN_bd k)) (by decide) (by decide) b1 (bl_576 _ (oN_bd k)) hy w;have HM:=mnN_le (W:=2) (by decide) (bl_576 _ (oN_bd k));obtain⟨F,hF⟩:∃F:Nat→Nat,tn (dF 2 x (mnN 2 (bl (oN k))))=F:=⟨_,rfl⟩;obtain⟨H,hH⟩:∃F:Nat→Nat,tn (dF 2 y (mnN 2 (bl (oN k))))=F:=⟨_,rfl⟩;have HE:Hid (hor 2 F (mnN 2 (bl (oN k)))=x∧hor 2 H (mnN 2 (bl (oN k)))=y):=⟨hF▸hor_dF (many_lt (by decide) hx),hH▸hor_dF (many_lt (by decide) hy)⟩;have HF:Hid (∀j,∃D:Nat,dF 2 x (mnN 2 (bl (oN k))) j=(D:Int)∧F j=D∧D<4):=fun j=>⟨F j,by rw[←hF];unfold tn dF;omega,rfl,by rw[←hF,tn_dF];exact dgw_lt 2 x _⟩;have HH:Hid (∀j,∃D:Nat,dF 2 y (mnN 2 (bl (oN k))) j=(D:Int)∧H j=D∧D<4):=fun j=>⟨H j,by rw[←hH];unfold tn dF;omega,rfl,by rw[←hH,tn_dF];exact dgw_lt 2 y _⟩;obtain⟨m,hm⟩:=exl (mnN 2 (bl (oN k)));rw[hm]at HX HY HM HE HF HH;obtain⟨P,hP⟩:=exl (twQ k Q x y);rw[hP];have HP:Hid (twQ k Q x y=P):=hP;have HTT:Hid (∀i,TrQ k (T i) (twQ k Q (i/4) (i%4))):=hT;obtain⟨A,hA0⟩:=exl (T 0);have HT0:Hid (TrQ k A (twQ k Q (hor 2 F 0) (hor 2 H 0))):=hA0▸hT 0;clear hP hT hF hH hm hx hy b1 lx ly
 go_enter func33,ntmps33
 go_upto_region 1 with fail
 refine gen_w (fun v=>Gr w v∧Vr v (w.heap.size) (cu (k:Int) (pN k) (aN k) (bN k) (oN k) (xN k) (yN k) (bl (oN k)) (szN k) (lgN k))∧Vr v (w.heap.size+1) (nw 9 x)∧Vr v (w.heap.size+1+1) (nw 9 y)∧Vr v (w.heap.size+1+1+1) (pjs (T) 16)∧Vr v (w.heap.size+1+1+1+1) (pnt 0 0 false)) ⟨grA,vrA,vrA,vrA,vrA,vrA⟩ ?_;rintro v0 ⟨G,c0,c1,c2,c3,c4⟩;have L0:w.heap.size+1+1+1+1<v0.heap.size:=c4.p;refine wp_wS [.N x,.c (pv (w.heap.size) 56),.c (.int .i64 (bl (oN k))),.it (v0.heap.size) m (dF 2 x m),.it (v0.heap.size) m (dF 2 x m),.ix (v0.heap.size) m (dF 2 x m),.O,.ix (v0.heap.size) m (dF 2 x m),.O] [0,2,3,4,5,6,7] ⟨.g 25 0 c1 rfl,.o 3 56 c0 rfl (by exact cu_56 _ _ _ _ _ _ _ _ _ _),.k _ fun yy vv hg hh =>  ((RtW.it hg (HX.out _))),.m 3,.m 4,.m 4,.m 5,⟨⟩⟩ fun yw1 v1 hg h1=>?_;simp only[fzw,Kw.it,Kw.ix];obtain⟨N1_7,S1_7⟩:v0.heap.size≤(yw1 7 0).2∧Rx v1 (yw1 7 0).2 m m (iF (dF 2 x m)):=h1 7;clear h1;replace G:=G.trans hg;replace c0:=c0.gr hg;replace c1:=c1.gr hg;replace c2:=c2.gr hg;replace c3:=c3.gr hg;replace c4:=c4.gr hg;clear hg
 go_upto_region 2 with fail
 refine wp_wS [.N y,.c (pv (w.heap.size) 56),.c (.int .i64 (bl (oN k))),.it (v1.heap.size) m (dF 2 y m),.it (v1.heap.size) m (dF 2 y m),.ix (v1.heap.size) m (dF 2 y m),.O,.ix (v1.heap.size) m (dF 2 y m),.O] [0,2,3,4,5,6,7] ⟨.g 25 0 c2 rfl,.o 3 56 c0 rfl (by exact cu_56 _ _ _ _ _ _ _ _ _ _),.k _ fun yy vv hg hh =>  ((RtW.it hg (HY.out _))),.m 3,.m 4,.m 4,.m 5,⟨⟩⟩ fun yw2 v2 hg h2=>?_;simp only[fzw,Kw.it,Kw.ix];obtain⟨N2_7,S2_7⟩:v1.heap.size≤(yw2 7 0).2∧Rx v2 (yw2 7 0).2 m m (iF (dF 2 y m)):=h2 7;clear h2;replace G:=G.trans hg;replace c0:=c0.gr hg;replace c1:=c1.gr hg;replace c2:=c2.gr hg;replace c3:=c3.gr hg;replace c4:=c4.gr hg;replace S1_7:=S1_7.gr hg;clear hg;have L1:=S1_7.lt;have L2:=S2_7.lt;have ld0:∀{v:World},Gr v2 v→(loadS 74 (.pointer (some ⟨w.heap.size+1+1+1,0,none⟩))).run prog v=.ok (.agg (prj A.1 A.2.1 A.2.2)) v:=fun g=>(ldJ (i:=0) (c3.gr g) (by decide)).trans (by rw[hA0])
 go_upto_region 3 with fail
 refine wp_v false [.c (pv (w.heap.size+1+1+1) 0),.c (.agg (prj A.1 A.2.1 A.2.2)),.a,.u] [1] [⟨2,3,74,prj 0 0 0,fun _=>prj A.1 A.2.1 A.2.2⟩] ⟨.s (.load 74 (.const (.pointer (some ⟨w.heap.size+1+1+1,0,none⟩)))) rfl fun vv hg=>by simp[go_sem,exI,ld0 hg],⟨⟩⟩ ⟨.k zPj (.t rfl),⟨⟩⟩ fun yw3 v3 hg h3 hV3=>?_;simp only[fzw,Kw.a];obtain⟨⟨N3_2,V3_2⟩,-⟩:(v2.heap.size≤(yw3 2 0).2∧Vr v3 (yw3 2 0).2 (prj A.1 A.2.1 A.2.2))∧True:=hV3;clear h3;replace G:=G.trans hg;replace c0:=c0.gr hg;replace c1:=c1.gr hg;replace c2:=c2.gr hg;replace c3:=c3.gr hg;replace c4:=c4.gr hg;replace S1_7:=S1_7.gr hg;replace S2_7:=S2_7.gr hg;clear hg;clear ld0
 go_upto_region 4 with fail
 refine wp_wS [.c (.slice (some ⟨(yw1 7 0).2,0,none⟩) m m),.c (.int .i64 (m:Nat)),.O] [] ⟨⟩ fun yw4 v4 hg h4=>?_;simp only[fzw];clear h4;replace G:=G.trans hg;replace c0:=c0.gr hg;replace c1:=c1.gr hg;replace c2:=c2.gr hg;replace c3:=c3.gr hg;replace c4:=c4.gr hg;replace V3_2:=V3_2.gr hg;replace S1_7:=S1_7.gr hg;replace S2_7:=S2_7.gr hg;clear hg;have L3:=V3_2.p;generalize (yw3 2 0).2=b9 at *;generalize (yw1 7 0).2=g1 at *;generalize (yw2 7 0).2=g2 at *;have HV:Hid (Gr w v4∧Vr v4 (w.heap.size) (cu (k:Int) (pN k) (aN k) (bN k) (oN k) (xN k) (yN k) (bl (oN k)) (szN k) (lgN k))∧Vr v4 (w.heap.size+1+1+1) (pjs (T) 16)∧Vr v4 (w.heap.size+1+1+1+1) (pnt 0 0 false)∧Vr v4 b9 (pjT A)∧Rx v4 g1 m m (iF (dF 2 x m))∧Rx v4 g2 m m (iF (dF 2 y m))):=⟨G,c0,c3,c4,V3_2,S1_7,S2_7⟩;clear G c0 c1 c2 c3 c4 V3_2 S1_7 S2_7 HX HY hA0
 go_wp2_with fail
 go_loopw [35] (fun ia wr=>∃(j:Nat) (S:T3),ia=.int .i64 (j:Int)∧Hu (j≤m)∧Hid (TrQ k S (twQ k Q (hor 2 F j) (hor 2 H j)))∧Hid (Gr w wr∧Vr wr (w.heap.size) (cu (k:Int) (pN k) (aN k) (bN k) (oN k) (xN k) (yN k) (bl (oN k)) (szN k) (lgN k))∧Vr wr (w.heap.size+1+1+1) (pjs (T) 16)∧Vr wr (w.heap.size+1+1+1+1) (pnt 0 0 false)∧Vr wr b9 (pjT S)∧Rx wr g1 m m (iF (dF 2 x m))∧Rx wr g2 m m (iF (dF 2 y m)))) (fun ia _=>m-(intOf ia).toNat)
 case atStart=>exact⟨0,A,rfl,fun _=>Nat.zero_le _,HT0,HV⟩
 case round=>
  clear HV HT0;obtain⟨j,S,rfl,HJ,HT,HV⟩:=hrel
  have j0:(0:Int)≤(j:Int):=by omega
  by_cases hlt:j<m
  ·have j1:(j:Int)<(m:Int):=by omega
   go_wp2_with fail
   go_loopw [38] (fun ia wr2=>∃(i:Nat) (S:T3),ia=.int .i64 (i:Int)∧Hu (i≤2)∧Hid (TrQ k S (twQ k Q (2^i*hor 2 F j) (2^i*hor 2 H j)))∧Hid (Gr w wr2∧Vr wr2 (w.heap.size) (cu (k:Int) (pN k) (aN k) (bN k) (oN k) (xN k) (yN k) (bl (oN k)) (szN k) (lgN k))∧Vr wr2 (w.heap.size+1+1+1) (pjs (T) 16)∧Vr wr2 (w.heap.size+1+1+1+1) (pnt 0 0 false)∧Vr wr2 b9 (pjT S)∧Rx wr2 g1 m m (iF (dF 2 x m))∧Rx wr2 g2 m m (iF (dF 2 y m)))) (fun ia _=>2-(intOf ia).toNat)
   case atStart=>exact⟨0,S,rfl,fun _=>by decide,by rw[Nat.pow_zero,Nat.one_mul,Nat.one_mul];exact HT,HV⟩
   case round=>
    clear HV HT;obtain⟨i,S,rfl,HI,HT,HV⟩:=hrel
    have i0:(0:Int)≤(i:Int):=by omega
    by_cases hi:i<2
    ·have i1:(i:Int)<2:=by omega
     obtain⟨R,hR⟩:=exl (addT k S S);have HDB:Hid _:=jdblQ h1 h2 HT.out hR
     have HT2:Hid (TrQ k R (twQ k Q (2^(i+1)*hor 2 F j) (2^(i+1)*hor 2 H j))):=by
      have h:=addT_tr h1 h2 HT.out HT.out
      rwa [hR,twQ_add h1 h2 oQ,←Nat.mul_two,←Nat.mul_two,Nat.mul_right_comm,Nat.mul_right_comm _ _ 2,←Nat.pow_succ]at h
     obtain⟨G,c0,c3,c4,c9,SX,SY⟩:=HV.out;clear hR HV
     go_upto_region 9 with fail
     refine wp_wTS 7 [.c (pv (w.heap.size) 0),.c (.int .i64 (k:Int)),.c (.agg (prj S.1 S.2.1 S.2.2)),.c (.tuple #[.agg (prj R.1 R.2.1 R.2.2),.int .i64 0]),.c (.tuple #[.agg (prj R.1 R.2.1 R.2.2),.int .i64 0]),.c (.agg (prj R.1 R.2.1 R.2.2)),.O] [1,2,3] ⟨.o 3 0 c0 rfl (by exact cu_0 _ _ _ _ _ _ _ _ _ _),.g 74 0 c9 rfl,.z HDB.out,⟨⟩⟩ (.s 74 (fun yy=>.pointer (some ⟨b9,0,none⟩)) (fun yy=>.agg (prj R.1 R.2.1 R.2.2)) fun yw9 v1 hg h9=>?_);have HT:=(c9.gr hg).h;have FT:=(c9.gr hg).f;refine⟨setBlk v1 (b9) (prj R.1 R.2.1 R.2.2),by simp[go_sem,exI,HT,FT],?_⟩;simp only[fzw];clear h9;replace G:=G.trans hg;replace c0:=c0.gr hg;replace c3:=c3.gr hg;replace c4:=c4.gr hg;replace c9:=c9.gr hg;replace SX:=SX.gr hg;replace SY:=SY.gr hg;clear hg
     go_wp2_with fail
     go_roundw
     case rel=>exact⟨i+1,R,by go_num,fun _=>hi,HT2,gr_setNew G (by omega),c0.other (by omega),c3.other (by omega),c4.other (by omega),c9.set (by rw[prj_size];decide) _,SX.oth (by omega) _,SY.oth (by omega) _⟩
     case measure=>simp[intOf];omega
    ·have i1:¬(i:Int)<2:=by omega
     obtain rfl:i=2:=by have:=HI.out ();omega
     obtain⟨D,hD,hFD,lD⟩:=HF.out j;obtain⟨E,hE,hHE,lE⟩:=HH.out j
     have kx:∀{v:World},Rx v g1 m m (iF (dF 2 x m))→v.cell? ⟨g1,j,none⟩=some (.int .i64 (D:Int)):=fun h=>by rw[h.cell j hlt,←hD]
     have ky:∀{v:World},Rx v g2 m m (iF (dF 2 y m))→v.cell? ⟨g2,j,none⟩=some (.int .i64 (E:Int)):=fun h=>by rw[h.cell j hlt,←hE]
     obtain⟨D4,e4⟩:=exl (4*D);obtain⟨I,eI⟩:=exl (D4+E)
     have hD4:IntKind.i64.wrap ((D:Int)*4)=(D4:Int):=by rw[IntKind.wrap_i64];omega
     have hI:IntKind.i64.wrap ((D4:Int)+(E:Int))=(I:Int):=by rw[IntKind.wrap_i64];omega
     have I0:(0:Int)≤(I:Int):=by omega
     have I1:(I:Int)<16:=by omega
     obtain⟨V,hV⟩:=exl (T I)
     have ldI:∀{v:World},Vr v (w.heap.size+1+1+1) (pjs (T) 16)→(loadS 74 (.pointer (some ⟨w.heap.size+1+1+1,I*27,none⟩))).run prog v=.ok (.agg (prj V.1 V.2.1 V.2.2)) v:=fun h=>by rw[ldJ h (by omega),hV]
     have tV:=HTT.out I;obtain⟨R,hR⟩:=exl (addT k S V)
     have HT2:Hid (TrQ k R (twQ k Q (hor 2 F (j+1)) (hor 2 H (j+1)))):=by
      have h:=addT_tr h1 h2 HT.out tV;rw[hV,hR,twQ_add h1 h2 oQ]at h
      rwa [hor,hor,hFD,hHE,Nat.mul_comm (hor 2 F j),Nat.mul_comm (hor 2 H j),←show I/4=D by omega,←show I%4=E by omega]
     have HA:Hid _:=jaddQ h1 h2 HT.out (hV▸tV) hR;clear hV hR tV hD hE hFD hHE
     go_upto_region 11 with fail
     refine wp_x true [.c (pv (w.heap.size) 0),.c (.int .i64 (k:Int)),.c (.agg (prj S.1 S.2.1 S.2.2)),.c (.slice (some ⟨g1,0,none⟩) m m),.c (.int .i64 (j:Int)),.c (pv g1 j),.c (.int .i64 (D:Int)),.c (.int .i64 (D4:Int)),.c (.slice (some ⟨g2,0,none⟩) m m),.c (.int .i64 (j:Int)),.c (pv g2 j),.c (.int .i64 (E:Int)),.c (.int .i64 (I:Int)),.c (pv (w.heap.size+1+1+1) (I*27)),.c (.agg (prj V.1 V.2.1 V.2.2)),.c (.tuple #[.agg (prj R.1 R.2.1 R.2.2),.int .i64 0]),.c (.tuple #[.agg (prj R.1 R.2.1 R.2.2),.int .i64 0]),.c (.agg (prj R.1 R.2.1 R.2.2)),.c (.int .i64 0),.u] [1,2,5,6,7,10,11,12,13,14] 15 19 (fun _ _=>True) (fun _ v=>Gr w v∧Vr v (w.heap.size) (cu (k:Int) (pN k) (aN k) (bN k) (oN k) (xN k) (yN k) (bl (oN k)) (szN k) (lgN k))∧Vr v (w.heap.size+1+1+1) (pjs (T) 16)∧Vr v (w.heap.size+1+1+1+1) (pnt 0 0 false)∧Vr v b9 (pjT S)∧Rx v g1 m m (iF (dF 2 x m))∧Rx v g2 m m (iF (dF 2 y m))) (fun _ v=>Gr w v∧Vr v (w.heap.size) (cu (k:Int) (pN k) (aN k) (bN k) (oN k) (xN k) (yN k) (bl (oN k)) (szN k) (lgN k))∧Vr v (w.heap.size+1+1+1) (pjs (T) 16)∧Vr v (w.heap.size+1+1+1+1) (pnt 0 0 false)∧Vr v b9 (pjT R)∧Rx v g1 m m (iF (dF 2 x m))∧Rx v g2 m m (iF (dF 2 y m))) 57 (fun _ =>#[.int .i64 (k:Int),.agg (prj S.1 S.2.1 S.2.2),.agg (prj V.1 V.2.1 V.2.2)]) 74 (fun _=>pv (b9) (0)) (fun _=>.agg (prj R.1 R.2.1 R.2.2)) HV.out ?x1 ?x2 ?x3 ?x4 ⟨fnc,fnc,fnc,fnc,fnc,fnc,fnc,fnc,fnc,fnc,fnc,fnc,fnc,fnc,fnc,fnc,fnc,fnc,fnc,fnu,trivial⟩ ?x5
     case x1=>exact fun _ _ _ ⟨G,c0,c3,c4,c9,SX,SY⟩ g=>⟨G.trans g,c0.gr g,c3.gr g,c4.gr g,c9.gr g,SX.gr g,SY.gr g⟩
     case x2=>
      rintro _ v ⟨G,c0,c3,c4,c9,SX,SY⟩;refine .cons (.o 3 0 c0 rfl (by exact cu_0 _ _ _ _ _ _ _ _ _ _)) ?_;refine .cons (.g 74 0 c9 rfl) ?_;refine .cons (.s (.indexAddr 104 (.const (.slice (some ⟨g1,0,none⟩) m m)) (.const (.int .i64 (j:Int)))) rfl fun vv hg=>by simp[go_sem,exI,j0,j1]) ?_;refine .cons (.s (.load 3 (.const (pv g1 j))) rfl fun vv hg=>by simp[go_sem,exI,kx (SX.gr hg)]) ?_;refine .cons (.s (.binOp .mul 3 (.const (.int .i64 (D:Int))) (.const (.int .i64 4)) 3) rfl fun vv hg=>by simp[go_sem,exI,hD4]) ?_;refine .cons (.s (.indexAddr 104 (.const (.slice (some ⟨g2,0,none⟩) m m)) (.const (.int .i64 (j:Int)))) rfl fun vv hg=>by simp[go_sem,exI,j0,j1]) ?_;refine .cons (.s (.load 3 (.const (pv g2 j))) rfl fun vv hg=>by simp[go_sem,exI,ky (SY.gr hg)]) ?_;refine .cons (.s (.binOp .add 3 (.const (.int .i64 (D4:Int))) (.const (.int .i64 (E:Int))) 3) rfl fun vv hg=>by simp[go_sem,exI,hI]) ?_;refine .cons (.s (.indexAddr 76 (.const (pv (w.heap.size+1+1+1) 0)) (.const (.int .i64 (I:Int)))) rfl fun vv hg=>by simp[go_sem,exI,I0,I1]) ?_;exact .cons (.s (.load 74 (.const (pv (w.heap.size+1+1+1) (I*27)))) rfl fun vv hg=>by simp[go_sem,exI,ldI (c3.gr hg)]) .nil
     case x3=>
      rintro _ v ⟨G,c0,c3,c4,c9,SX,SY⟩ _;refine(HA.out _).mono ?_;rintro e w' ⟨rfl,g⟩;exact⟨fun _=>(none,0),rfl,trivial,⟨G.trans g,c0.gr g,c3.gr g,c4.gr g,c9.gr g,SX.gr g,SY.gr g⟩,trivial⟩
     case x4=>
      rintro _ v ⟨G,c0,c3,c4,c9,SX,SY⟩ _;exact⟨setBlk v (b9) (prj R.1 R.2.1 R.2.2),by simp[go_sem,exI,c9.h,c9.f],gr_setNew G (by omega),c0.other (by omega),c3.other (by omega),c4.other (by omega),c9.set (by rw[prj_size];decide) _,SX.oth (by omega) _,SY.oth (by omega) _⟩
     case x5=>
      clear HV;rintro _ v HV;simp only[fzw]
      go_wp2_with fail
      go_roundw
      case rel=>exact⟨j+1,R,by go_num,fun _=>hlt,HT2,HV⟩
      case measure=>simp[intOf];omega
  ·have j1:¬(j:Int)<(m:Int):=by omega
   obtain rfl:j=m:=by have:=HJ.out ();omega
   obtain⟨G,c0,c3,c4,c9,SX,SY⟩:=HV.out
   have HTO:Hid _:=fun w=>by
    have h:=HT.out;rw[HE.out.1,HE.out.2,HP.out]at h;exact toQ h1 h2 h w
   clear HV HT
   go_upto_region 13 with fail
   refine wp_v false [.c (pv (w.heap.size) 0),.c (.int .i64 (k:Int)),.c (.agg (prj S.1 S.2.1 S.2.2)),.c (.tuple #[.agg (pnt P.1 P.2.1 P.2.2),.int .i64 0]),.c (.tuple #[.agg (pnt P.1 P.2.1 P.2.2),.int .i64 0]),.c (.agg (pnt P.1 P.2.1 P.2.2)),.O,.a,.u,.O] [1,2,3] [⟨7,8,27,pnt 0 0 false,fun _=>pnt P.1 P.2.1 P.2.2⟩] ⟨.o 3 0 c0 rfl (by exact cu_0 _ _ _ _ _ _ _ _ _ _),.g 74 0 c9 rfl,.z HTO.out,⟨⟩⟩ ⟨.k zPnt (.t rfl),⟨⟩⟩ fun yw13 v1 hg h13 hV13=>?_;simp only[fzw,Kw.a];obtain⟨⟨N13_7,V13_7⟩,-⟩:(wr.heap.size≤(yw13 7 0).2∧Vr v1 (yw13 7 0).2 (pnt P.1 P.2.1 P.2.2))∧True:=hV13;clear h13;replace G:=G.trans hg;replace c0:=c0.gr hg;replace c3:=c3.gr hg;replace c4:=c4.gr hg;replace c9:=c9.gr hg;replace SX:=SX.gr hg;replace SY:=SY.gr hg;clear hg
   go_upto_region 14 with fail
   refine wp_wTS 1 [.c (.agg (pnt P.1 P.2.1 P.2.2))] [0] ⟨.g 27 0 V13_7 rfl,⟨⟩⟩ (.s 27 (fun yy=>.pointer (some ⟨w.heap.size+1+1+1+1,0,none⟩)) (fun yy=>.agg (pnt P.1 P.2.1 P.2.2)) fun yw14 v2 hg h14=>?_);have HT:=(c4.gr hg).h;have FT:=(c4.gr hg).f;refine⟨setBlk v2 (w.heap.size+1+1+1+1) (pnt P.1 P.2.1 P.2.2),by simp[go_sem,exI,HT,FT],?_⟩;simp only[fzw];clear h14;replace G:=G.trans hg;replace c0:=c0.gr hg;replace c3:=c3.gr hg;replace c4:=c4.gr hg;replace c9:=c9.gr hg;replace V13_7:=V13_7.gr hg;replace SX:=SX.gr hg;replace SY:=SY.gr hg;clear hg
   go_wp2_with fail
   exact bodyPost_ret (res_one results33 (rd_pn (by rfl) (blk_setBlk _ _ _ (by rw[HT];decide +kernel)))) rfl ⟨rfl,gr_setNew G (by omega)⟩
end
section
attribute [local go_sem] uz8
attribute [local go_sem ↓] uz19 Go.wp_at_zero Go.wp_at_succ
attribute [local go_sem] uz20
attribute [local go_sem ↓] uz13
attribute [local go_sem] uz14
attribute [local go_sem ↓] loadSm_is storeSm_is zvSm_is
attribute [local go_sem] loadSm storeSm zvSm
theorem dmul_no(id:Int)(h:id<1∨15<id){Q:Q3}{x y:Nat}(w:World):Cg 8 #[.int .i64 id,.agg (nw 9 x),.agg (nw 9 y),.agg (pnQ Q)] w (.tuple #[.agg (pnt 0 0 false),.int .i64 2000]):=by
 have HG:Hid (∀w,Cg 30 #[.int .i64 id] w (.tuple #[.agg (cu 0 0 0 0 0 0 0 0 0 false),.int .i64 1300])):=fun w=>get13_no id h w
 go_enter func8,ntmps8
 go_upto_region 1 with fail
 refine gen_w (fun v=>Gr w v∧Vr v (w.heap.size) (nw 9 x)∧Vr v (w.heap.size+1) (nw 9 y)∧Vr v (w.heap.size+1+1) (pnt Q.1 Q.2.1 Q.2.2)∧Vr v (w.heap.size+1+1+1) (pnt 0 0 false)) ⟨grA,vrA,vrA,vrA,vrA⟩ ?_;rintro v0 ⟨G,c0,c1,c2,c3⟩;have L0:w.heap.size+1+1+1<v0.heap.size:=c3.p;refine wp_v false [.c (.int .i64 id),.c (.tuple #[.agg (cu 0 0 0 0 0 0 0 0 0 false),.int .i64 1300]),.c (.tuple #[.agg (cu 0 0 0 0 0 0 0 0 0 false),.int .i64 1300]),.c (.agg (cu 0 0 0 0 0 0 0 0 0 false)),.c (.int .i64 1300),.a,.u,.c (.int .i64 1300)] [1] [⟨5,6,67,cu 0 0 0 0 0 0 0 0 0 false,fun _=>cu 0 0 0 0 0 0 0 0 0 false⟩] ⟨.z HG.out,⟨⟩⟩ ⟨.k zCu (.t rfl),⟨⟩⟩ fun yw1 v1 hg h1 hV1=>?_;simp only[fzw,Kw.a];obtain⟨⟨N1_5,V1_5⟩,-⟩:(v0.heap.size≤(yw1 5 0).2∧Vr v1 (yw1 5 0).2 (cu 0 0 0 0 0 0 0 0 0 false))∧True:=hV1;clear h1;replace G:=G.trans hg;replace c0:=c0.gr hg;replace c1:=c1.gr hg;replace c2:=c2.gr hg;replace c3:=c3.gr hg;clear hg
 go_upto_region 2 with fail
 refine wp_wS [.c (.int .i64 1300),.T] [] ⟨⟩ fun yw2 v2 hg h2=>?_;simp only[fzw];clear h2;replace G:=G.trans hg;replace c0:=c0.gr hg;replace c1:=c1.gr hg;replace c2:=c2.gr hg;replace c3:=c3.gr hg;replace V1_5:=V1_5.gr hg;clear hg;have hh2:=c3.al;clear c0 c1 c2 c3 V1_5
 go_wp2_with fail
 refine bodyPost_ret (res_two results8 (rd_pn (by rfl) ?_) (rd_tmp (by rfl))) rfl ⟨rfl,?_⟩
 ·simp[go_sem, *]
 ·exact grB
theorem dmul_off{k:Nat}(h1:1≤k)(h2:k≤15){Q:Q3}(lQ:Q.1<M∧Q.2.1<M)(oQ:onB k Q.1 Q.2.1 Q.2.2=false){x y:Nat}(w:World):Cg 8 #[.int .i64 (k:Int),.agg (nw 9 x),.agg (nw 9 y),.agg (pnQ Q)] w (.tuple #[.agg (pnt 0 0 false),.int .i64 2001]):=by
 have HG:Hid (∀w,Cg 30 #[.int .i64 (k:Int)] w (.tuple #[.agg (cu (k:Int) (pN k) (aN k) (bN k) (oN k) (xN k) (yN k) (bl (oN k)) (szN k) (lgN k)),.int .i64 0])):=fun w=>get13_yes k h1 h2 w;have HO:Hid (∀w,Cg 31 #[.int .i64 (k:Int),.agg (pnt Q.1 Q.2.1 Q.2.2)] w (.bool false)):=fun w=>oQ▸on13_yes k h1 h2 _ _ Q.2.2 lQ.1 lQ.2 w
 go_enter func8,ntmps8
 go_upto_region 1 with fail
 refine gen_w (fun v=>Gr w v∧Vr v (w.heap.size) (nw 9 x)∧Vr v (w.heap.size+1) (nw 9 y)∧Vr v (w.heap.size+1+1) (pnt Q.1 Q.2.1 Q.2.2)∧Vr v (w.heap.size+1+1+1) (pnt 0 0 false)) ⟨grA,vrA,vrA,vrA,vrA⟩ ?_;rintro v0 ⟨G,c0,c1,c2,c3⟩;have L0:w.heap.size+1+1+1<v0.heap.size:=c3.p;refine wp_v false [.c (.int .i64 (k:Int)),.c (.tuple #[.agg (cu (k:Int) (pN k) (aN k) (bN k) (oN k) (xN k) (yN k) (bl (oN k)) (szN k) (lgN k)),.int .i64 0]),.c (.tuple #[.agg (cu (k:Int) (pN k) (aN k) (bN k) (oN k) (xN k) (yN k) (bl (oN k)) (szN k) (lgN k)),.int .i64 0]),.c (.agg (cu (k:Int) (pN k) (aN k) (bN k) (oN k) (xN k) (yN k) (bl (oN k)) (szN k) (lgN k))),.O,.a,.u,.O] [1] [⟨5,6,67,cu 0 0 0 0 0 0 0 0 0 false,fun _=>cu (k:Int) (pN k) (aN k) (bN k) (oN k) (xN k) (yN k) (bl (oN k)) (szN k) (lgN k)⟩] ⟨.z HG.out,⟨⟩⟩ ⟨.k zCu (.t rfl),⟨⟩⟩ fun yw1 v1 hg h1 hV1=>?_;simp only[fzw,Kw.a];obtain⟨⟨N1_5,V1_5⟩,-⟩:(v0.heap.size≤(yw1 5 0).2∧Vr v1 (yw1 5 0).2 (cu (k:Int) (pN k) (aN k) (bN k) (oN k) (xN k) (yN k) (bl (oN k)) (szN k) (lgN k)))∧True:=hV1;clear h1;replace G:=G.trans hg;replace c0:=c0.gr hg;replace c1:=c1.gr hg;replace c2:=c2.gr hg;replace c3:=c3.gr hg;clear hg
 go_upto_region 2 with fail
 refine wp_wS [.O,.F] [] ⟨⟩ fun yw2 v2 hg h2=>?_;simp only[fzw];clear h2;replace G:=G.trans hg;replace c0:=c0.gr hg;replace c1:=c1.gr hg;replace c2:=c2.gr hg;replace c3:=c3.gr hg;replace V1_5:=V1_5.gr hg;clear hg
 go_upto_region 4 with fail
 refine wp_wS [.c (.int .i64 (k:Int)),.c (.agg (pnt Q.1 Q.2.1 Q.2.2)),.F,.T] [1,2] ⟨.g 27 0 c2 rfl,.z HO.out,⟨⟩⟩ fun yw4 v3 hg h4=>?_;simp only[fzw];clear h4;replace G:=G.trans hg;replace c0:=c0.gr hg;replace c1:=c1.gr hg;replace c2:=c2.gr hg;replace c3:=c3.gr hg;replace V1_5:=V1_5.gr hg;clear hg;have hh2:=c3.al;clear c0 c1 c2 c3 V1_5
 go_wp2_with fail
 refine bodyPost_ret (res_two results8 (rd_pn (by rfl) ?_) (rd_tmp (by rfl))) rfl ⟨rfl,?_⟩
 ·simp[go_sem, *]
 ·exact grB
theorem dmul_bigu{k:Nat}(h1:1≤k)(h2:k≤15){Q:Q3}(oQ:OnQ k Q){x y:Nat}(lx:x<M)(g:oN k≤x)(w:World):Cg 8 #[.int .i64 (k:Int),.agg (nw 9 x),.agg (nw 9 y),.agg (pnQ Q)] w (.tuple #[.agg (pnt 0 0 false),.int .i64 2002]):=by
 have HG:Hid (∀w,Cg 30 #[.int .i64 (k:Int)] w (.tuple #[.agg (cu (k:Int) (pN k) (aN k) (bN k) (oN k) (xN k) (yN k) (bl (oN k)) (szN k) (lgN k)),.int .i64 0])):=fun w=>get13_yes k h1 h2 w;have HO:Hid (∀w,Cg 31 #[.int .i64 (k:Int),.agg (pnt Q.1 Q.2.1 Q.2.2)] w (.bool true)):=fun w=>(show onB k Q.1 Q.2.1 Q.2.2=true from oQ)▸on13_yes k h1 h2 _ _ Q.2.2 oQ.lt.1 oQ.lt.2 w;obtain⟨z1,hz1⟩:=exl (cmpZ x (oN k));have HX:Hid _:=hz1▸cmp_any x (oN k) lx (oN_bd k)
 have q1:0≤z1:=by rw[←hz1];unfold cmpZ;rw[if_neg (Nat.not_lt.2 g)];split <;> decide
 go_enter func8,ntmps8
 go_upto_region 1 with fail
 refine gen_w (fun v=>Gr w v∧Vr v (w.heap.size) (nw 9 x)∧Vr v (w.heap.size+1) (nw 9 y)∧Vr v (w.heap.size+1+1) (pnt Q.1 Q.2.1 Q.2.2)∧Vr v (w.heap.size+1+1+1) (pnt 0 0 false)) ⟨grA,vrA,vrA,vrA,vrA⟩ ?_;rintro v0 ⟨G,c0,c1,c2,c3⟩;have L0:w.heap.size+1+1+1<v0.heap.size:=c3.p;refine wp_v false [.c (.int .i64 (k:Int)),.c (.tuple #[.agg (cu (k:Int) (pN k) (aN k) (bN k) (oN k) (xN k) (yN k) (bl (oN k)) (szN k) (lgN k)),.int .i64 0]),.c (.tuple #[.agg (cu (k:Int) (pN k) (aN k) (bN k) (oN k) (xN k) (yN k) (bl (oN k)) (szN k) (lgN k)),.int .i64 0]),.c (.agg (cu (k:Int) (pN k) (aN k) (bN k) (oN k) (xN k) (yN k) (bl (oN k)) (szN k) (lgN k))),.O,.a,.u,.O] [1] [⟨5,6,67,cu 0 0 0 0 0 0 0 0 0 false,fun _=>cu (k:Int) (pN k) (aN k) (bN k) (oN k) (xN k) (yN k) (bl (oN k)) (szN k) (lgN k)⟩] ⟨.z HG.out,⟨⟩⟩ ⟨.k zCu (.t rfl),⟨⟩⟩ fun yw1 v1 hg h1 hV1=>?_;simp only[fzw,Kw.a];obtain⟨⟨N1_5,V1_5⟩,-⟩:(v0.heap.size≤(yw1 5 0).2∧Vr v1 (yw1 5 0).2 (cu (k:Int) (pN k) (aN k) (bN k) (oN k) (xN k) (yN k) (bl (oN k)) (szN k) (lgN k)))∧True:=hV1;clear h1;replace G:=G.trans hg;replace c0:=c0.gr hg;replace c1:=c1.gr hg;replace c2:=c2.gr hg;replace c3:=c3.gr hg;clear hg
 go_upto_region 2 with fail
 refine wp_wS [.O,.F] [] ⟨⟩ fun yw2 v2 hg h2=>?_;simp only[fzw];clear h2;replace G:=G.trans hg;replace c0:=c0.gr hg;replace c1:=c1.gr hg;replace c2:=c2.gr hg;replace c3:=c3.gr hg;replace V1_5:=V1_5.gr hg;clear hg
 go_upto_region 4 with fail
 refine wp_wS [.c (.int .i64 (k:Int)),.c (.agg (pnt Q.1 Q.2.1 Q.2.2)),.T,.F] [1,2] ⟨.g 27 0 c2 rfl,.z HO.out,⟨⟩⟩ fun yw4 v3 hg h4=>?_;simp only[fzw];clear h4;replace G:=G.trans hg;replace c0:=c0.gr hg;replace c1:=c1.gr hg;replace c2:=c2.gr hg;replace c3:=c3.gr hg;replace V1_5:=V1_5.gr hg;clear hg
 go_upto_region 6 with fail
 refine wp_wS [.N x,.c (pv ((yw1 5 0).2) 28),.N (oN k),.c (.int .i64 z1),.T,.T,.u,.u,.u,.u,.u,.T] [0,2,3,4] ⟨.g 25 0 c0 rfl,.g 25 28 V1_5 rfl,.z HX.out,.s (.binOp .geq 3 (.const (.int .i64 z1)) (.const (.int .i64 0)) 3) rfl fun vv hg=>by simp[go_sem,exI,q1],⟨⟩⟩ fun yw6 v4 hg h6=>?_;simp only[fzw];clear h6;replace G:=G.trans hg;replace c0:=c0.gr hg;replace c1:=c1.gr hg;replace c2:=c2.gr hg;replace c3:=c3.gr hg;replace V1_5:=V1_5.gr hg;clear hg;have hh2:=c3.al;clear c0 c1 c2 c3 V1_5
 go_wp2_with fail
 refine bodyPost_ret (res_two results8 (rd_pn (by rfl) ?_) (rd_tmp (by rfl))) rfl ⟨rfl,?_⟩
 ·simp[go_sem, *]
 ·exact grB
theorem dmul_bigv{k:Nat}(h1:1≤k)(h2:k≤15){Q:Q3}(oQ:OnQ k Q){x y:Nat}(lx:x<oN k)(ly:y<M)(g:oN k≤y)(w:World):Cg 8 #[.int .i64 (k:Int),.agg (nw 9 x),.agg (nw 9 y),.agg (pnQ Q)] w (.tuple #[.agg (pnt 0 0 false),.int .i64 2002]):=by
 have HG:Hid (∀w,Cg 30 #[.int .i64 (k:Int)] w (.tuple #[.agg (cu (k:Int) (pN k) (aN k) (bN k) (oN k) (xN k) (yN k) (bl (oN k)) (szN k) (lgN k)),.int .i64 0])):=fun w=>get13_yes k h1 h2 w;have HO:Hid (∀w,Cg 31 #[.int .i64 (k:Int),.agg (pnt Q.1 Q.2.1 Q.2.2)] w (.bool true)):=fun w=>(show onB k Q.1 Q.2.1 Q.2.2=true from oQ)▸on13_yes k h1 h2 _ _ Q.2.2 oQ.lt.1 oQ.lt.2 w;obtain⟨z1,hz1⟩:=exl (cmpZ x (oN k));have HX:Hid _:=hz1▸cmp_any x (oN k) (Nat.lt_trans lx (oN_bd k)) (oN_bd k)
 have q1:¬0≤z1:=by rw[←hz1];unfold cmpZ;rw[if_pos lx];decide
 obtain⟨z2,hz2⟩:=exl (cmpZ y (oN k));have HY:Hid _:=hz2▸cmp_any y (oN k) ly (oN_bd k)
 have q2:0≤z2:=by rw[←hz2];unfold cmpZ;rw[if_neg (Nat.not_lt.2 g)];split <;> decide
 go_enter func8,ntmps8
 go_upto_region 1 with fail
 refine gen_w (fun v=>Gr w v∧Vr v (w.heap.size) (nw 9 x)∧Vr v (w.heap.size+1) (nw 9 y)∧Vr v (w.heap.size+1+1) (pnt Q.1 Q.2.1 Q.2.2)∧Vr v (w.heap.size+1+1+1) (pnt 0 0 false)) ⟨grA,vrA,vrA,vrA,vrA⟩ ?_;rintro v0 ⟨G,c0,c1,c2,c3⟩;have L0:w.heap.size+1+1+1<v0.heap.size:=c3.p;refine wp_v false [.c (.int .i64 (k:Int)),.c (.tuple #[.agg (cu (k:Int) (pN k) (aN k) (bN k) (oN k) (xN k) (yN k) (bl (oN k)) (szN k) (lgN k)),.int .i64 0]),.c (.tuple #[.agg (cu (k:Int) (pN k) (aN k) (bN k) (oN k) (xN k) (yN k) (bl (oN k)) (szN k) (lgN k)),.int .i64 0]),.c (.agg (cu (k:Int) (pN k) (aN k) (bN k) (oN k) (xN k) (yN k) (bl (oN k)) (szN k) (lgN k))),.O,.a,.u,.O] [1] [⟨5,6,67,cu 0 0 0 0 0 0 0 0 0 false,fun _=>cu (k:Int) (pN k) (aN k) (bN k) (oN k) (xN k) (yN k) (bl (oN k)) (szN k) (lgN k)⟩] ⟨.z HG.out,⟨⟩⟩ ⟨.k zCu (.t rfl),⟨⟩⟩ fun yw1 v1 hg h1 hV1=>?_;simp only[fzw,Kw.a];obtain⟨⟨N1_5,V1_5⟩,-⟩:(v0.heap.size≤(yw1 5 0).2∧Vr v1 (yw1 5 0).2 (cu (k:Int) (pN k) (aN k) (bN k) (oN k) (xN k) (yN k) (bl (oN k)) (szN k) (lgN k)))∧True:=hV1;clear h1;replace G:=G.trans hg;replace c0:=c0.gr hg;replace c1:=c1.gr hg;replace c2:=c2.gr hg;replace c3:=c3.gr hg;clear hg
 go_upto_region 2 with fail
 refine wp_wS [.O,.F] [] ⟨⟩ fun yw2 v2 hg h2=>?_;simp only[fzw];clear h2;replace G:=G.trans hg;replace c0:=c0.gr hg;replace c1:=c1.gr hg;replace c2:=c2.gr hg;replace c3:=c3.gr hg;replace V1_5:=V1_5.gr hg;clear hg
 go_upto_region 4 with fail
 refine wp_wS [.c (.int .i64 (k:Int)),.c (.agg (pnt Q.1 Q.2.1 Q.2.2)),.T,.F] [1,2] ⟨.g 27 0 c2 rfl,.z HO.out,⟨⟩⟩ fun yw4 v3 hg h4=>?_;simp only[fzw];clear h4;replace G:=G.trans hg;replace c0:=c0.gr hg;replace c1:=c1.gr hg;replace c2:=c2.gr hg;replace c3:=c3.gr hg;replace V1_5:=V1_5.gr hg;clear hg
 go_upto_region 6 with fail
 refine wp_wS [.N x,.c (pv ((yw1 5 0).2) 28),.N (oN k),.c (.int .i64 z1),.F,.F,.N y,.c (pv ((yw1 5 0).2) 28),.N (oN k),.c (.int .i64 z2),.T,.T] [0,2,3,4,6,8,9,10] ⟨.g 25 0 c0 rfl,.g 25 28 V1_5 rfl,.z HX.out,.s (.binOp .geq 3 (.const (.int .i64 z1)) (.const (.int .i64 0)) 3) rfl fun vv hg=>by simp[go_sem,exI,q1],.g 25 0 c1 rfl,.g 25 28 V1_5 rfl,.z HY.out,.s (.binOp .geq 3 (.const (.int .i64 z2)) (.const (.int .i64 0)) 3) rfl fun vv hg=>by simp[go_sem,exI,q2],⟨⟩⟩ fun yw6 v4 hg h6=>?_;simp only[fzw];clear h6;replace G:=G.trans hg;replace c0:=c0.gr hg;replace c1:=c1.gr hg;replace c2:=c2.gr hg;replace c3:=c3.gr hg;replace V1_5:=V1_5.gr hg;clear hg;have hh2:=c3.al;clear c0 c1 c2 c3 V1_5
 go_wp2_with fail
 refine bodyPost_ret (res_two results8 (rd_pn (by rfl) ?_) (rd_tmp (by rfl))) rfl ⟨rfl,?_⟩
 ·simp[go_sem, *]
 ·exact grB
theorem dmul_yes{k:Nat}(h1:1≤k)(h2:k≤15){Q:Q3}(oQ:OnQ k Q){x y:Nat}(lx:x<oN k)(ly:y<oN k){R:Q3}(hR:twQ k Q x y=R)(w:World):Cg 8 #[.int .i64 (k:Int),.agg (nw 9 x),.agg (nw 9 y),.agg (pnQ Q)] w (.tuple #[.agg (pnQ R),.int .i64 0]):=by
 have HG:Hid (∀w,Cg 30 #[.int .i64 (k:Int)] w (.tuple #[.agg (cu (k:Int) (pN k) (aN k) (bN k) (oN k) (xN k) (yN k) (bl (oN k)) (szN k) (lgN k)),.int .i64 0])):=fun w=>get13_yes k h1 h2 w;have HO:Hid (∀w,Cg 31 #[.int .i64 (k:Int),.agg (pnt Q.1 Q.2.1 Q.2.2)] w (.bool true)):=fun w=>(show onB k Q.1 Q.2.1 Q.2.2=true from oQ)▸on13_yes k h1 h2 _ _ Q.2.2 oQ.lt.1 oQ.lt.2 w;obtain⟨z1,hz1⟩:=exl (cmpZ x (oN k));have HX:Hid _:=hz1▸cmp_any x (oN k) (Nat.lt_trans lx (oN_bd k)) (oN_bd k)
 have q1:¬0≤z1:=by rw[←hz1];unfold cmpZ;rw[if_pos lx];decide
 obtain⟨z2,hz2⟩:=exl (cmpZ y (oN k));have HY:Hid _:=hz2▸cmp_any y (oN k) (Nat.lt_trans ly (oN_bd k)) (oN_bd k)
 have q2:¬0≤z2:=by rw[←hz2];unfold cmpZ;rw[if_pos ly];decide
 have HS:Hid (∀w,Cg 34 #[.agg (cu (k:Int) (pN k) (aN k) (bN k) (oN k) (xN k) (yN k) (bl (oN k)) (szN k) (lgN k)),.agg (pnt Q.1 Q.2.1 Q.2.2)] w (.agg (pjs (tbT k Q) 16))):=fun w=>sums_any h1 h2 oQ w;have HW:Hid _:=hR▸dwalk_any h1 h2 oQ (tbT_tr h1 h2 oQ) lx ly
 go_enter func8,ntmps8
 go_upto_region 1 with fail
 refine gen_w (fun v=>Gr w v∧Vr v (w.heap.size) (nw 9 x)∧Vr v (w.heap.size+1) (nw 9 y)∧Vr v (w.heap.size+1+1) (pnt Q.1 Q.2.1 Q.2.2)∧Vr v (w.heap.size+1+1+1) (pnt 0 0 false)) ⟨grA,vrA,vrA,vrA,vrA⟩ ?_;rintro v0 ⟨G,c0,c1,c2,c3⟩;have L0:w.heap.size+1+1+1<v0.heap.size:=c3.p;refine wp_v false [.c (.int .i64 (k:Int)),.c (.tuple #[.agg (cu (k:Int) (pN k) (aN k) (bN k) (oN k) (xN k) (yN k) (bl (oN k)) (szN k) (lgN k)),.int .i64 0]),.c (.tuple #[.agg (cu (k:Int) (pN k) (aN k) (bN k) (oN k) (xN k) (yN k) (bl (oN k)) (szN k) (lgN k)),.int .i64 0]),.c (.agg (cu (k:Int) (pN k) (aN k) (bN k) (oN k) (xN k) (yN k) (bl (oN k)) (szN k) (lgN k))),.O,.a,.u,.O] [1] [⟨5,6,67,cu 0 0 0 0 0 0 0 0 0 false,fun _=>cu (k:Int) (pN k) (aN k) (bN k) (oN k) (xN k) (yN k) (bl (oN k)) (szN k) (lgN k)⟩] ⟨.z HG.out,⟨⟩⟩ ⟨.k zCu (.t rfl),⟨⟩⟩ fun yw1 v1 hg h1 hV1=>?_;simp only[fzw,Kw.a];obtain⟨⟨N1_5,V1_5⟩,-⟩:(v0.heap.size≤(yw1 5 0).2∧Vr v1 (yw1 5 0).2 (cu (k:Int) (pN k) (aN k) (bN k) (oN k) (xN k) (yN k) (bl (oN k)) (szN k) (lgN k)))∧True:=hV1;clear h1;replace G:=G.trans hg;replace c0:=c0.gr hg;replace c1:=c1.gr hg;replace c2:=c2.gr hg;replace c3:=c3.gr hg;clear hg
 go_upto_region 2 with fail
 refine wp_wS [.O,.F] [] ⟨⟩ fun yw2 v2 hg h2=>?_;simp only[fzw];clear h2;replace G:=G.trans hg;replace c0:=c0.gr hg;replace c1:=c1.gr hg;replace c2:=c2.gr hg;replace c3:=c3.gr hg;replace V1_5:=V1_5.gr hg;clear hg
 go_upto_region 4 with fail
 refine wp_wS [.c (.int .i64 (k:Int)),.c (.agg (pnt Q.1 Q.2.1 Q.2.2)),.T,.F] [1,2] ⟨.g 27 0 c2 rfl,.z HO.out,⟨⟩⟩ fun yw4 v3 hg h4=>?_;simp only[fzw];clear h4;replace G:=G.trans hg;replace c0:=c0.gr hg;replace c1:=c1.gr hg;replace c2:=c2.gr hg;replace c3:=c3.gr hg;replace V1_5:=V1_5.gr hg;clear hg
 go_upto_region 6 with fail
 refine wp_wS [.N x,.c (pv ((yw1 5 0).2) 28),.N (oN k),.c (.int .i64 z1),.F,.F,.N y,.c (pv ((yw1 5 0).2) 28),.N (oN k),.c (.int .i64 z2),.F,.F] [0,2,3,4,6,8,9,10] ⟨.g 25 0 c0 rfl,.g 25 28 V1_5 rfl,.z HX.out,.s (.binOp .geq 3 (.const (.int .i64 z1)) (.const (.int .i64 0)) 3) rfl fun vv hg=>by simp[go_sem,exI,q1],.g 25 0 c1 rfl,.g 25 28 V1_5 rfl,.z HY.out,.s (.binOp .geq 3 (.const (.int .i64 z2)) (.const (.int .i64 0)) 3) rfl fun vv hg=>by simp[go_sem,exI,q2],⟨⟩⟩ fun yw6 v4 hg h6=>?_;simp only[fzw];clear h6;replace G:=G.trans hg;replace c0:=c0.gr hg;replace c1:=c1.gr hg;replace c2:=c2.gr hg;replace c3:=c3.gr hg;replace V1_5:=V1_5.gr hg;clear hg;generalize (yw1 5 0).2=b5 at *;have HV:Hid (Gr w v4∧Vr v4 (w.heap.size) (nw 9 x)∧Vr v4 (w.heap.size+1) (nw 9 y)∧Vr v4 (w.heap.size+1+1) (pnt Q.1 Q.2.1 Q.2.2)∧Vr v4 (w.heap.size+1+1+1) (pnt 0 0 false)∧Vr v4 b5 (cu (k:Int) (pN k) (aN k) (bN k) (oN k) (xN k) (yN k) (bl (oN k)) (szN k) (lgN k))):=⟨G,c0,c1,c2,c3,V1_5⟩;clear G c0 c1 c2 c3 V1_5
 go_upto_region 8 with fail
 refine wp_x true [.c (.agg (cu (k:Int) (pN k) (aN k) (bN k) (oN k) (xN k) (yN k) (bl (oN k)) (szN k) (lgN k))),.c (.agg (nw 9 x)),.c (.agg (nw 9 y)),.c (.agg (cu (k:Int) (pN k) (aN k) (bN k) (oN k) (xN k) (yN k) (bl (oN k)) (szN k) (lgN k))),.c (.agg (pnt Q.1 Q.2.1 Q.2.2)),.c (.agg (pjs (tbT k Q) 16)),.c (.agg (pnt R.1 R.2.1 R.2.2)),.u,.c (.int .i64 0)] [0,1,2,3,4,5] 6 7 (fun _ _=>True)
  (fun _ v=>Gr w v∧Vr v (w.heap.size) (nw 9 x)∧Vr v (w.heap.size+1) (nw 9 y)∧Vr v (w.heap.size+1+1) (pnt Q.1 Q.2.1 Q.2.2)∧Vr v (w.heap.size+1+1+1) (pnt 0 0 false)∧Vr v b5 (cu (k:Int) (pN k) (aN k) (bN k) (oN k) (xN k) (yN k) (bl (oN k)) (szN k) (lgN k))) (fun _ v=>Gr w v∧Vr v (w.heap.size+1+1+1) (pnt R.1 R.2.1 R.2.2))
  33 (fun _ =>#[.agg (cu (k:Int) (pN k) (aN k) (bN k) (oN k) (xN k) (yN k) (bl (oN k)) (szN k) (lgN k)),.agg (nw 9 x),.agg (nw 9 y),.agg (pjs (tbT k Q) 16)]) 27 (fun _=>pv (w.heap.size+1+1+1) 0) (fun _=>.agg (pnt R.1 R.2.1 R.2.2)) HV.out ?x1 ?x2 ?x3 ?x4 ⟨fnc,fnc,fnc,fnc,fnc,fnc,fnc,fnu,fnc,trivial⟩ ?x5
 case x1=>exact fun _ _ _ ⟨G,c0,c1,c2,c3,c5⟩ g=>⟨G.trans g,c0.gr g,c1.gr g,c2.gr g,c3.gr g,c5.gr g⟩
 case x2=>
  rintro _ v ⟨G,c0,c1,c2,c3,c5⟩;refine .cons (.g 67 0 c5 rfl) ?_;refine .cons (.g 25 0 c0 rfl) ?_;refine .cons (.g 25 0 c1 rfl) ?_;refine .cons (.g 67 0 c5 rfl) ?_;refine .cons (.g 27 0 c2 rfl) ?_;exact .cons (.z HS.out) .nil
 case x3=>
  rintro x v ⟨G,c0,c1,c2,c3,c5⟩ hy;refine(HW.out _).mono ?_;rintro e w' ⟨rfl,g⟩;exact⟨fun _=>(none,0),rfl,trivial,⟨G.trans g,c0.gr g,c1.gr g,c2.gr g,c3.gr g,c5.gr g⟩,trivial⟩
 case x4=>
  rintro _ v ⟨G,c0,c1,c2,c3,c5⟩ _;have HT:=c3.h;have FT:=c3.f;exact⟨setBlk v (w.heap.size+1+1+1) (pnt R.1 R.2.1 R.2.2),by simp[go_sem,exI,HT,FT],gr_setNew G (by omega),c3.set (by rw[pnt_size];decide) _⟩
 case x5=>
  rintro _ v ⟨G,c3⟩;simp only[fzw];have hh:=c3.h;clear c3
  go_wp2_with fail
  exact bodyPost_ret (res_two results8 (rd_pn (by rfl) hh) (rd_tmp (by rfl))) rfl ⟨rfl,G⟩
end
section
attribute [local go_sem] uz8
attribute [local go_sem ↓] uz17 Go.wp_at_zero Go.wp_at_succ
attribute [local go_sem] uz18
theorem awake20_any(w:World):Cg 12 #[] w (.bool true):=by
 have h1:1≤13:=by decide
 have h2:13≤15:=by decide
 obtain⟨P,hP⟩:=exl (gQ 13);have oP:=hP▸gQ_on h1 h2;obtain⟨D,hD⟩:=exl (twQ 13 P 1 1)
 have hS:plQ 13 P P=D:=by rw[←hD,twQ,hP,mlQ_one h1 h2 oP]
 have HGR:Hid _:=getq_yes 13 h1 h2;have HD:Hid _:=dmul_yes h1 h2 oP (by decide +kernel) (by decide +kernel) hD;have HB:Hid (∀w,Cg 8 #[.int .i64 13,.agg (nw 9 223),.agg (nw 9 1),.agg (pnt P.1 P.2.1 P.2.2)] w (.tuple #[.agg (pnt 0 0 false),.int .i64 2002])):=fun w=>dmul_bigu h1 h2 oP (by decide +kernel) (by decide +kernel) w;have HN:Hid (∀w,Cg 8 #[.int .i64 0,.agg (nw 9 1),.agg (nw 9 1),.agg (pnt P.1 P.2.1 P.2.2)] w (.tuple #[.agg (pnt 0 0 false),.int .i64 2000])):=fun w=>dmul_no 0 (by decide) w
 go_enter func12,ntmps12
 go_upto_region 2 with (go_at_call 7;refine(HGR.out _).mono ?_;rintro e WB ⟨qc,rfl,HQ,GB⟩)
 obtain⟨e1,he1⟩:=exl (WB.heap.size);simp only[he1]
 refine gen_w (fun v=>Gr w v∧Vr v e1 (crA 13 (nN 13) qc)∧∀j,Sl v (qc j).1 (nN 13 j)) ?_ ?_
 ·subst he1;exact⟨GB.alloc _,Vr.new _ _ _,fun j=>(HQ j).gr ((Gr.refl _).alloc _)⟩
 clear he1 GB HQ;rintro v0 ⟨G,c1,HQ⟩;refine wp_v false [.c (.agg (crA 13 (nN 13) qc)),.pt (P.1) (P.2.1) P.2.2,.c (.agg (pnt P.1 P.2.1 P.2.2)),.a,.u] [0,1,2] [⟨3,4,27,pnt 0 0 false,fun _=>pnt P.1 P.2.1 P.2.2⟩] ⟨.g 31 0 c1 rfl,.k _ fun yy vv hg hh=>RtW.of_pt (rgQ (k:=13) hP qc _ (fun j=>(HQ j).gr hg)),.k (fun yy =>#[.agg (ptA (yy 1 0).1 (P.1) (yy 1 0).2 (yy 1 1).1 (P.2.1) (yy 1 1).2 P.2.2)]) fun yy vv hg hh=>RtW.of_c (Rt.c (rout_any _ _ _ _ _ _ _ _ (hh 1 rfl).1 (hh 1 rfl).2)),⟨⟩⟩ ⟨.k zPnt ⟨fkc,fkp bPnt,fkc,fka,fku,trivial⟩,⟨⟩⟩ fun yw2 v1 hg h2 hV2=>?_;simp only[fzw,Kw.a];obtain⟨⟨N2_3,V2_3⟩,-⟩:(v0.heap.size≤(yw2 3 0).2∧Vr v1 (yw2 3 0).2 (pnt P.1 P.2.1 P.2.2))∧True:=hV2;clear h2;have g2:=hg;clear hg
 go_upto_region 3 with fail
 refine wp_v true [.N 1,.N 1,.c (.agg (pnt P.1 P.2.1 P.2.2)),.c (.tuple #[.agg (pnt D.1 D.2.1 D.2.2),.int .i64 0]),.c (.tuple #[.agg (pnt D.1 D.2.1 D.2.2),.int .i64 0]),.c (.agg (pnt D.1 D.2.1 D.2.2)),.O,.a,.u,.O] [0,1,2,3] [⟨7,8,27,pnt 0 0 false,fun _=>pnt D.1 D.2.1 D.2.2⟩] ⟨.z (one_any 1 (by decide)),.z (one_any 1 (by decide)),.g 27 0 V2_3 rfl,.z HD.out,⟨⟩⟩ ⟨.k zPnt (.t rfl),⟨⟩⟩ fun yw3 v2 hg h3 hV3=>?_;simp only[fzw,Kw.a];obtain⟨⟨N3_7,V3_7⟩,-⟩:(v1.heap.size≤(yw3 7 0).2∧Vr v2 (yw3 7 0).2 (pnt D.1 D.2.1 D.2.2))∧True:=hV3;clear h3;replace g2:=g2.trans hg;have g3:=hg;clear hg
 go_upto_region 4 with fail
 refine wp_v true [.N 223,.N 1,.c (.agg (pnt P.1 P.2.1 P.2.2)),.c (.tuple #[.agg (pnt 0 0 false),.int .i64 2002]),.c (.tuple #[.agg (pnt 0 0 false),.int .i64 2002]),.c (.agg (pnt 0 0 false)),.c (.int .i64 2002),.a,.u,.c (.int .i64 2002)] [0,1,2,3] [⟨7,8,27,pnt 0 0 false,fun _=>pnt 0 0 false⟩] ⟨.z (one_any 223 (by decide)),.z (one_any 1 (by decide)),.g 27 0 (V2_3.gr g3) rfl,.z HB.out,⟨⟩⟩ ⟨.k zPnt (.t rfl),⟨⟩⟩ fun yw4 v3 hg h4 hV4=>?_;simp only[fzw,Kw.a];obtain⟨⟨N4_7,V4_7⟩,-⟩:(v2.heap.size≤(yw4 7 0).2∧Vr v3 (yw4 7 0).2 (pnt 0 0 false))∧True:=hV4;clear h4;replace g2:=g2.trans hg;replace g3:=g3.trans hg;have g4:=hg;clear hg
 go_upto_region 5 with fail
 refine wp_v true [.N 1,.N 1,.c (.agg (pnt P.1 P.2.1 P.2.2)),.c (.tuple #[.agg (pnt 0 0 false),.int .i64 2000]),.c (.tuple #[.agg (pnt 0 0 false),.int .i64 2000]),.c (.agg (pnt 0 0 false)),.c (.int .i64 2000),.a,.u,.c (.int .i64 2000)] [0,1,2,3] [⟨7,8,27,pnt 0 0 false,fun _=>pnt 0 0 false⟩] ⟨.z (one_any 1 (by decide)),.z (one_any 1 (by decide)),.g 27 0 (V2_3.gr g3) rfl,.z HN.out,⟨⟩⟩ ⟨.k zPnt (.t rfl),⟨⟩⟩ fun yw5 v4 hg h5 hV5=>?_;simp only[fzw,Kw.a];obtain⟨⟨N5_7,V5_7⟩,-⟩:(v3.heap.size≤(yw5 7 0).2∧Vr v4 (yw5 7 0).2 (pnt 0 0 false))∧True:=hV5;clear h5;replace g2:=g2.trans hg;replace g3:=g3.trans hg;replace g4:=g4.trans hg;have g5:=hg;clear hg
 go_upto_region 6 with fail
 refine wp_w [.O,.O,.T,.T,.c (.agg (pnt D.1 D.2.1 D.2.2)),.c (.agg (crA 13 (nN 13) qc)),.c (.agg (crA 13 (nN 13) qc)),.pt (P.1) (P.2.1) P.2.2,.c (.agg (crA 13 (nN 13) qc)),.pt (P.1) (P.2.1) P.2.2,.pt (D.1) (D.2.1) D.2.2,.c (.agg (pnt D.1 D.2.1 D.2.2)),.T,.T,.T,.c (.int .i64 2002),.c (.int .i64 2002),.T,.T,.T,.c (.int .i64 2000),.c (.int .i64 2000),.T,.T,.T] [1,4,5,6,7,8,9,10,11,12,16,21] ⟨.y (num_any _),.g 27 0 (V3_7.gr g4) rfl,.g 31 0 (c1.gr g2) rfl,.g 31 0 (c1.gr g2) rfl,.k _ fun yy vv hg hh=>RtW.of_pt (rgQ (k:=13) hP qc _ (fun j=>(HQ j).gr (g2.trans hg))),.g 31 0 (c1.gr g2) rfl,.k _ fun yy vv hg hh=>RtW.of_pt (rgQ (k:=13) hP qc _ (fun j=>(HQ j).gr (g2.trans hg))),.k (fun yy =>#[.agg (crA 13 (nN 13) qc),.agg (ptA (yy 7 0).1 (P.1) (yy 7 0).2 (yy 7 1).1 (P.2.1) (yy 7 1).2 P.2.2),.agg (ptA (yy 9 0).1 (P.1) (yy 9 0).2 (yy 9 1).1 (P.2.1) (yy 9 1).2 P.2.2)]) fun yy vv hg hh=>RtW.of_pt (hS▸rplusQ 13 h1 h2 qc oP oP (fun j=>(HQ j).gr (g2.trans hg)) (hh 7 rfl).1 (hh 7 rfl).2 (hh 9 rfl).1 (hh 9 rfl).2),.k (fun yy =>#[.agg (ptA (yy 10 0).1 (D.1) (yy 10 0).2 (yy 10 1).1 (D.2.1) (yy 10 1).2 D.2.2)]) fun yy vv hg hh=>RtW.of_c (Rt.c (rout_any _ _ _ _ _ _ _ _ (hh 10 rfl).1 (hh 10 rfl).2)),.s (.binOp .eql 27 (.const (.agg (pnt D.1 D.2.1 D.2.2))) (.const (.agg (pnt D.1 D.2.1 D.2.2))) 27) rfl fun vv hg=>by simp[go_sem,exI,eqPn,eqN_self],.y (num_any _),.y (num_any _),⟨⟩⟩ fun yw6 v5 hg h6=>?_;simp only[fzw];clear h6;replace g2:=g2.trans hg;replace g3:=g3.trans hg;replace g4:=g4.trans hg;replace g5:=g5.trans hg;have g6:=hg;clear hg;replace G:=G.trans g2;replace c1:=c1.gr g2;replace HQ:=fun k=>(HQ k).gr g2;replace V2_3:=V2_3.gr g3;replace V3_7:=V3_7.gr g4;replace V4_7:=V4_7.gr g5;replace V5_7:=V5_7.gr g6;clear g2 g3 g4 g5 g6
 go_wp2_with fail
 go_ret
 exact⟨rfl,G⟩
end
end
end Go.Proofs.YtghidgcekieljaaGreat