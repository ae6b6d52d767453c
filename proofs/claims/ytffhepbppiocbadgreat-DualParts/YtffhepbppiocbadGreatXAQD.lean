import Derived.Test.YtffhepbppiocbadGreatXAAU
import Derived.Test.YtffhepbppiocbadGreatXAMS
import Derived.Test.YtffhepbppiocbadGreatXATE
import Derived.Test.YtffhepbppiocbadGreatXAVD
import Derived.Test.YtffhepbppiocbadGreatXAVC
namespace Go.Proofs.YtffhepbppiocbadGreat
open Go.RowKit Go.Proofs.Tryz
set_option maxRecDepth 100000
set_option maxHeartbeats 8000000
section
attribute [local go_sem ↓] uz1
attribute [local go_sem] uz2
section
attribute [local go_sem] uz8
attribute [local go_sem ↓] loadPn_is storePn_is zvPn_is buildPn_is loadEn_is storeEn_is zvEn_is buildEn_is Go.wp_at_zero Go.wp_at_succ
attribute [local go_sem] loadPn storePn zvPn loadPX loadPY buildPn0 buildPn3 buildPnI pnt_size pnt_X pnt_Y pnt_18 loadEn storeEn zvEn buildEn2 buildEn3 ent_size ent_X ent_Y ent_18 ent_set18 frz_setBlk blk_setBlk setBlk_setBlk blk_other
theorem sel_msk(p:Bool){a b:Nat}(ha:a<18446744073709551616)(hb:b<18446744073709551616):sel (msk p) a b=cond p a b:=by
 cases p
 ·show b^^^(0&&&(a^^^b))=b
  rw[Nat.zero_and,Nat.xor_zero]
 ·show b^^^(18446744073709551615&&&(a^^^b))=a
  have h:(a^^^b)&&&(2^64-1)=a^^^b:=Nat.and_two_pow_sub_one_of_lt_two_pow (Nat.xor_lt_two_pow (by omega) (by omega));rw[Nat.and_comm,show (18446744073709551615:Nat)=2^64-1 from rfl,h,Nat.xor_comm a b,←Nat.xor_assoc,Nat.xor_self,Nat.zero_xor]
theorem selN_msk(p:Bool){a b:Nat}(ha:a<M)(hb:b<M):selN (msk p) a b=cond p a b:=by
 grind [selN,sel_msk,wd_lt,ofw_of]
theorem entryOf_any(x y:Nat)(f:Bool)(w:World):Cg 143 #[.agg (pnt x y f)] w (.agg (ent x y (bw f))):=by
 cases f
 all_goals
  go_enter func143,ntmps143
  go_wp2_with fail
  refine bo1 results143 (rd_en (by rfl) ?_) ⟨rfl,grA⟩;simp[go_sem,bw]
theorem point_any(x y:Nat)(f:Bool)(w:World):Cg 145 #[.agg (ent x y (bw f))] w (.agg (pnt x y f)):=by
 have A:(((bw f:Nat):Int) != 0)=f:=by cases f <;> rfl
 go_enter func145,ntmps145
 go_upto_region 1 with fail
 refine gen_w (fun v=>Gr w v∧Vr v (w.heap.size) (ent x y (bw f))∧Vr v (w.heap.size+1) (pnt 0 0 false)) ⟨grA,vrA,vrA⟩ ?_;rintro I ⟨G,i,j⟩;refine wp_wTS 8 [.c (pv (w.heap.size) 0),.N x,.c (pv (w.heap.size) 9),.N y,.c (pv (w.heap.size) 18),.c (.int .u64 ((bw f):Nat)),.c (.bool f),.c (.agg (pnt x y f))] [1,3,5,6] ⟨.g 25 0 i rfl,.g 25 9 i rfl,.o 22 18 i rfl (by exact ent_18 _ _ _),.s (.binOp .neq 22 (.const (.int .u64 ((bw f):Nat))) (.const (.int .u64 0)) 22) rfl fun J d=>by simp[go_sem,exI,A],⟨⟩⟩ (.s 38 (fun B=>pv (w.heap.size+1) 0) (fun B=>.agg (pnt x y f)) fun C D d K=>?_);have q:=(j.gr d).h;have H:=(j.gr d).f;refine⟨setBlk D (w.heap.size+1) (pnt x y f),by simp[go_sem,exI,q,H],?_⟩;simp only[fzw];replace G:=G.trans d
 go_wp2_with fail
 exact bo1 results145 (rd_pn (by rfl) (blk_setBlk _ _ _ (by rw[q];decide +kernel))) ⟨rfl,gr_setNew G (by omega)⟩
theorem over_any(p:Bool)(x y:Nat)(f:Bool)(x' y':Nat)(f':Bool)(hx:x<M)(hy:y<M)(hx':x'<M)(hy':y'<M)(w:World):
 Cg 144 #[.agg (ent x y (bw f)),.agg (ent x' y' (bw f')),.int .u64 (msk p:Nat)] w (.agg (ent (cond p x x') (cond p y y') (cond p (bw f) (bw f')))):=by
 have C:Hid _:=selN_msk p hx hx'▸select_any (msk p) x x' (msk_lt p);have D:Hid _:=selN_msk p hy hy'▸select_any (msk p) y y' (msk_lt p);clear hx hy hx' hy'
 have H:bits .and .u64 (msk p:Nat) (bw f:Nat)=(cond p (bw f) 0:Nat):=by cases p <;> cases f <;> rfl
 have I:bits .xor .u64 (if IntKind.u64.signed=true then -1 else IntKind.u64.max) (msk p:Nat)=(msk (!p):Nat):=by cases p <;> rfl
 have J:bits .and .u64 (msk (!p):Nat) (bw f':Nat)=(cond p 0 (bw f'):Nat):=by cases p <;> cases f' <;> rfl
 have K:bits .or .u64 (cond p (bw f) 0:Nat) (cond p 0 (bw f'):Nat)=(cond p (bw f) (bw f'):Nat):=by cases p <;> cases f <;> cases f' <;> rfl
 go_enter func144,ntmps144
 go_upto_region 1 with fail
 refine gen_w (fun v=>Gr w v∧Vr v (w.heap.size) (ent x y (bw f))∧Vr v (w.heap.size+1) (ent x' y' (bw f'))∧Vr v (w.heap.size+1+1) (ent 0 0 0)) ⟨grA,vrA,vrA,vrA⟩ ?_;rintro U ⟨G,i,j,A⟩;refine wp_wT 23 [.c (.int .u64 (msk p:Nat)),.c (pv (w.heap.size) 0),.N x,.c (pv (w.heap.size+1) 0),.N x',.N (cond p x x'),.c (.int .u64 (msk p:Nat)),.c (pv (w.heap.size) 9),.N y,.c (pv (w.heap.size+1) 9),.N y',.N (cond p y y'),.c (.int .u64 (msk p:Nat)),.c (pv (w.heap.size) 18),.c (.int .u64 ((bw f):Nat)),.c (.int .u64 (cond p (bw f) 0:Nat)),.c (.int .u64 (msk p:Nat)),.c (.int .u64 (msk (!p):Nat)),.c (pv (w.heap.size+1) 18),.c (.int .u64 ((bw f'):Nat)),.c (.int .u64 (cond p 0 (bw f'):Nat)),.c (.int .u64 (cond p (bw f) (bw f'):Nat)),.c (.agg (ent (cond p x x') (cond p y y') (cond p (bw f) (bw f'))))] [2,4,5,8,10,11,14,15,17,19,20,21] ⟨.g 25 0 i rfl,.g 25 0 j rfl,.z C.out,.g 25 9 i rfl,.g 25 9 j rfl,.z D.out,.o 22 18 i rfl (by exact ent_18 _ _ _),.s (.binOp .and 22 (.const (.int .u64 (msk p:Nat))) (.const (.int .u64 ((bw f):Nat))) 22) rfl fun q d=>by simp[go_sem,exI,H],.s (.unOp .xor 22 (.const (.int .u64 (msk p:Nat)))) rfl fun q d=>by simp[go_sem,exI,I],.o 22 18 j rfl (by exact ent_18 _ _ _),.s (.binOp .and 22 (.const (.int .u64 (msk (!p):Nat))) (.const (.int .u64 ((bw f'):Nat))) 22) rfl fun q d=>by simp[go_sem,exI,J],.s (.binOp .or 22 (.const (.int .u64 (cond p (bw f) 0:Nat))) (.const (.int .u64 (cond p 0 (bw f'):Nat))) 22) rfl fun q d=>by simp[go_sem,exI,K],⟨⟩⟩ (.s 187 (fun L=>pv (w.heap.size+1+1) 0) (fun L=>.agg (ent (cond p x x') (cond p y y') (cond p (bw f) (bw f')))) fun P Q d V=>?_);have B:=(A.gr d).h;have S:=(A.gr d).f;refine⟨setBlk Q (w.heap.size+1+1) (ent (cond p x x') (cond p y y') (cond p (bw f) (bw f'))),by simp[go_sem,exI,B,S],?_⟩;simp only[fzw];replace G:=G.trans d
 go_wp2_with fail
 exact bo1 results144 (rd_en (by rfl) (blk_setBlk _ _ _ (by rw[B];decide +kernel))) ⟨rfl,gr_setNew G (by omega)⟩
theorem only_any(i:Int)(w:World):Calls prog 111 #[.int .i64 i] w fun e w'=>e=.returned (.func (.func 148) #[] #[.pointer (some ⟨w.heap.size,0,none⟩)])∧w.alloc (.cells #[.int .i64 i] 3)=w':=by
 go_enter func111,ntmps111
 go_wp2_with fail
 go_ret
 exact⟨rfl,rfl⟩
theorem wanted_any(j i:Nat)(hj:j<9223372036854775808)(hi:i<9223372036854775808)(b:Nat)(w:World)(hv:Vr w b #[.int .i64 i]):Cg 148 #[.int .i64 j,.pointer (some ⟨b,0,none⟩)] w (.int .u64 (msk (decide (j=i)):Nat)):=by
 have d:Hid _:=equal_any j i (by omega) (by omega)
 have f:w.cell? ⟨b,0,none⟩=some (.int .i64 i):=by rw[hv.cell];rfl
 go_enter func148,ntmps148
 go_wp2_with (go_at_call 149;refine(d.out _).mono ?_;rintro e h ⟨rfl,rfl⟩)
 go_ret
 exact⟨rfl,grA⟩
end
section
attribute [local go_sem] uz8
attribute [local go_sem ↓] loadPn_is storePn_is zvPn_is buildPn_is Go.wp_at_zero Go.wp_at_succ
attribute [local go_sem] loadPn storePn zvPn loadPX loadPY buildPn0 buildPn3 buildPnI pnt_size pnt_X pnt_Y pnt_18 frz_setBlk blk_setBlk setBlk_setBlk blk_other
attribute [local go_sem ↓] uz13
attribute [local go_sem] uz14
theorem mbelow_any{a b:Nat}(ha:a<M)(hb:b<M)(w:World):Cg 55 #[.agg (nw 9 a),.agg (nw 9 b)] w (.bool (decide (a<b))):=by
 have d:Hid _:=sub_any a b ha hb;obtain⟨r,i⟩:=exl ((a+M-b)%M);obtain⟨f,h⟩:=exl (decide (a<b));rw[i,h]at d;rw[h]
 go_enter func55,ntmps55
 go_wp2_with (go_at_call 77;refine hkA d fun g=>?_)
 go_ret
 exact⟨rfl,grA⟩
theorem pnt_wX(x y:Nat)(f:Bool){j:Nat}(hj:j<9):(pnt x y f)[j]? = some (.int .u64 (wd x j:Nat)):=by
 obtain rfl|rfl|rfl|rfl|rfl|rfl|rfl|rfl|rfl:j=0∨j=1∨j=2∨j=3∨j=4∨j=5∨j=6∨j=7∨j=8:=by omega
 all_goals kernel_rfl
theorem pnt_wY(x y:Nat)(f:Bool){j:Nat}(hj:j<9):(pnt x y f)[9+j]? = some (.int .u64 (wd y j:Nat)):=by
 obtain rfl|rfl|rfl|rfl|rfl|rfl|rfl|rfl|rfl:j=0∨j=1∨j=2∨j=3∨j=4∨j=5∨j=6∨j=7∨j=8:=by omega
 all_goals kernel_rfl
theorem Vr.atX{w v:World}{b x y:Nat}{f:Bool}(h:Vr w b (pnt x y f)){j:Nat}(hj:j<9)(g:Gr w v):v.cell? ⟨b,j,none⟩=some (.int .u64 (wd x j:Nat)):=by rw[(h.gr g).cell];exact pnt_wX x y f hj
theorem Vr.atY{w v:World}{b x y:Nat}{f:Bool}(h:Vr w b (pnt x y f)){j:Nat}(hj:j<9)(g:Gr w v):v.cell? ⟨b,9+j,none⟩=some (.int .u64 (wd y j:Nat)):=by rw[(h.gr g).cell];exact pnt_wY x y f hj
theorem or_zero{a b:Nat}:a|||b=0↔a=0∧b=0:=Nat.or_eq_zero_iff
theorem words_0{x:Nat}(lx:x<M)(h:∀i,i<9→wd x i=0):x=0:=by
 have e:=ofw_of (fun i=>wd x i) x lx (fun _=>rfl)
 rw[←e,ofw_congr fun i=>?_]
 ·exact ofw_of _ 0 (by decide +kernel) fun _=>rfl
 ·by_cases hi:i<9
  ·rw[h i hi];unfold wd;simp
  ·have d:wd x i=0:=by
    unfold wd;rw[Nat.div_eq_of_lt (Nat.lt_of_lt_of_le lx (show M≤pw i by rw[show i=9+(i-9) by omega];exact pw_mono 9 _))]
   rw[d];unfold wd;simp
theorem mtri_raw(x y:Nat)(f:Bool)(lx:x<M)(ly:y<M)(hz:(x=0∧y=0)↔f=true)(w:World):Cg 78 #[.agg (pnt x y f)] w (.agg (prj x (cond f 1 y) (cond f 0 1))):=by
 have V:Hid _:=small_any 1 (by decide);have W:Hid _:=selN_msk f (a:=1) (by decide +kernel) ly▸select_any (msk f) 1 y (msk_lt f);have X:Hid _:=selN_msk f (a:=0) (b:=1) (by decide +kernel) (by decide +kernel)▸select_any (msk f) 0 1 (msk_lt f)
 have Y:Hid ((∀i,i<9→wd x i=0∧wd y i=0)↔f=true):=by
  refine Iff.trans ⟨fun h=>⟨words_0 lx fun i H=>(h i H).1,words_0 ly fun i H=>(h i H).2⟩,fun⟨a,b⟩ i _=>?_⟩ hz;subst a b;exact⟨by unfold wd;simp,by unfold wd;simp⟩
 clear hz lx ly
 go_enter func78,ntmps78
 go_upto_region 1 with fail
 refine gen_w (fun v=>Hid (Gr w v∧Vr v (w.heap.size) (pnt x y f)∧Vr v (w.heap.size+1) (prj 0 0 0))) ⟨grA,vrA,vrA⟩ ?_;intro v0 I
 go_wp2_with fail
 go_loopw [3,7] (fun qa ia wr=>∃(j q:Nat),qa=.int .u64 q∧ia=.int .i64 j∧Hu (j≤9∧q<18446744073709551616∧(q=0↔∀i,i<j→wd x i=0∧wd y i=0))∧Hid (Gr w wr∧Vr wr (w.heap.size) (pnt x y f)∧Vr wr (w.heap.size+1) (prj 0 0 0))) (fun _ ia _=>9-(intOf ia).toNat)
 case atStart=>exact⟨0,0,rfl,rfl,fun _=>⟨by decide,by decide,by simp⟩,I⟩
 case round=>
  clear I;obtain⟨j,q,rfl,rfl,P,I⟩:=hrel;obtain⟨G,A,B⟩:=I.out;obtain⟨jl,J,hz⟩:=P.out ();clear P I
  have j0:(0:Int)≤j:=by omega
  by_cases j9:j<9
  ·have K:(j:Int)<9:=by omega
   have Q:=or_lt (wd_lt x j) (wd_lt y j);have o1:=bits_or_u64_nat _ _ (wd_lt x j) (wd_lt y j);have D:Hid (Gr w wr∧Vr wr (w.heap.size) (pnt x y f)∧Vr wr (w.heap.size+1) (prj 0 0 0)):=⟨G,A,B⟩;have o2:=bits_or_u64_nat _ _ J Q;have kX:=A.atX j9 (Gr.refl _);have kY:=A.atY j9 (Gr.refl _);clear A B G
   go_upto_region 5 with fail
   go_quiet (fail)
   go_wp2_with fail
   go_roundw
   case rel=>
    refine⟨j+1,_,rfl,by go_num,fun _=>⟨j9,or_lt J Q,?_⟩,D.out.1.drewN _,D.out.2.1.gr ((Gr.refl _).drewN _),D.out.2.2.gr ((Gr.refl _).drewN _)⟩;rw[or_zero,or_zero,hz]
    constructor
    ·intro⟨a,b⟩ i H
     by_cases e:i=j
     ·subst e;exact b
     ·exact a i (by omega)
    ·intro h;exact⟨fun i H=>h i (by omega),h j (by omega)⟩
   case measure=>simp[intOf];omega
  ·have K:¬(j:Int)<9:=by omega
   have Z:j=9:=by omega
   subst Z
   have HZ:Hid _:=fun w=>by
    have e:decide (q=0)=f:=by
     have h:=hz.trans Y.out
     cases f
     ·exact decide_eq_false fun e=>by have:=h.1 e;cases this
     ·exact decide_eq_true (h.2 rfl)
    have:=zero_any q J w
    rwa [e]at this
   go_upto_region 7 with fail
   refine wp_wS [.c (.int .u64 q),.c (.int .u64 (msk f:Nat)),.c (.int .u64 (msk f:Nat))] [1] ⟨.y HZ.out,⟨⟩⟩ fun aa v1 d h7=>?_;simp only[fzw];clear h7;replace G:=G.trans d;replace A:=A.gr d;replace B:=B.gr d;clear d
   go_upto_region 8 with fail
   refine wp_v false [.N 1,.a,.u] [0] [⟨1,2,25,nw 9 0,fun _=>nw 9 1⟩] ⟨.z V.out,⟨⟩⟩ ⟨.k zNat (.t rfl),⟨⟩⟩ fun ab v2 d h8 L=>?_;simp only[fzw,Kw.a];obtain⟨⟨S,C⟩,-⟩:=L;clear h8;replace G:=G.trans d;replace A:=A.gr d;replace B:=B.gr d
   go_upto_region 9 with fail
   refine wp_wT 12 [.c (pv (w.heap.size) 0),.N x,.c (.int .u64 (msk f:Nat)),.N 1,.c (pv (w.heap.size) 9),.N y,.N (cond f 1 y),.c (.int .u64 (msk f:Nat)),.N 0,.N 1,.N (cond f 0 1),.c (.agg (prj x (cond f 1 y) (cond f 0 1)))] [1,3,5,6,9,10] ⟨.g 25 0 A rfl,.g 25 0 C rfl,.g 25 9 A rfl,.z W.out,.g 25 0 C rfl,.z X.out,⟨⟩⟩ (.s 93 (fun yy=>pv (w.heap.size+1) 0) (fun yy=>.agg (prj x (cond f 1 y) (cond f 0 1))) fun ac v3 d h9=>?_);have U:=(B.gr d).h;have FT:=(B.gr d).f;refine⟨setBlk v3 (w.heap.size+1) (prj x (cond f 1 y) (cond f 0 1)),by simp[go_sem,exI,U,FT],?_⟩;simp only[fzw];replace G:=G.trans d
   go_wp2_with fail
   exact bo1 results78 (rd_pj (by rfl) (blk_setBlk _ _ _ (by rw[U];decide +kernel))) ⟨rfl,gr_setNew G (by omega)⟩
theorem rh_0(i:Nat)(h1:1≤i)(h2:i≤15):rhN i 0≠0:=by
 obtain rfl|rfl|rfl|rfl|rfl|rfl|rfl|rfl|rfl|rfl|rfl|rfl|rfl|rfl|rfl:i=1∨i=2∨i=3∨i=4∨i=5∨i=6∨i=7∨i=8∨i=9∨i=10∨i=11∨i=12∨i=13∨i=14∨i=15:=by omega
 all_goals decide +kernel
theorem onQ_00{k:Nat}(h1:1≤k)(h2:k≤15){P:Q3}(o:OnQ k P):(P.1=0∧P.2.1=0)↔P.2.2=true:=by
 rcases o.cases with rfl|⟨x,y,rfl,-,-,e⟩
 ·exact⟨fun _=>rfl,fun _=>⟨rfl,rfl⟩⟩
 ·refine⟨fun⟨a,b⟩=>?_,fun h=>by cases h⟩;subst a b;rw[Nat.zero_mul,Nat.zero_mod]at e;exact absurd e.symm (rh_0 k h1 h2)
theorem mtriQ{k:Nat}(h1:1≤k)(h2:k≤15){P:Q3}(oP:OnQ k P){T:T3}(hT:frT P=T)(w:World):Cg 78 #[.agg (pnQ P)] w (.agg (pjT T)):=by
 subst hT;have h:=mtri_raw P.1 P.2.1 P.2.2 oP.lt.1 oP.lt.2 (onQ_00 h1 h2 oP) w
 rcases oP.cases with rfl|⟨x,y,rfl,-⟩
 ·exact h
 ·exact h
end
section
attribute [local go_sem] uz8
attribute [local go_sem ↓] loadPn_is storePn_is zvPn_is buildPn_is loadEn_is storeEn_is zvEn_is buildEn_is Go.wp_at_zero Go.wp_at_succ
attribute [local go_sem] loadPn storePn zvPn loadPX loadPY buildPn0 buildPn3 buildPnI pnt_size pnt_X pnt_Y pnt_18 loadEn storeEn zvEn buildEn2 buildEn3 ent_size ent_X ent_Y ent_18 ent_set18 frz_setBlk blk_setBlk setBlk_setBlk blk_other
structure GaI(w wr:World)(t:Option Nat)(v v':Value)(xs:List (Int×Int)):Prop where
 r:RecL (w.heap.size+2) w wr t v v' xs
theorem GaI.trans{w wr w2:World}{t:Option Nat}{v v':Value}{xs:List (Int×Int)}(h:GaI w wr t v v' xs)(g:Gr wr w2):GaI w w2 t v v' xs:=⟨h.r.gr g⟩
def gth(f:Nat→Q3)(i j:Nat):Q3:=if i<j then f i else(0,0,false)
theorem gth_succ(f:Nat→Q3)(i j:Nat):gth f i (j+1)=cond (decide (j=i)) (f j) (gth f i j):=by
 unfold gth
 grind
theorem gth_lt{f:Nat→Q3}{i n:Nat}(hi:i<n)(hf:∀i,i<n→(f i).1<M∧(f i).2.1<M)(j:Nat):(gth f i j).1<M∧(gth f i j).2.1<M:=by
 grind [gth]
theorem over_Q(p:Bool)(A D C:Q3)(hA:A.1<M∧A.2.1<M)(hD:D.1<M∧D.2.1<M)(hC:C=cond p A D)(w:World):Cg 144 #[.agg (enQ A),.agg (enQ D),.int .u64 (msk p:Nat)] w (.agg (enQ C)):=by
 subst hC;have h:=over_any p A.1 A.2.1 A.2.2 D.1 D.2.1 D.2.2 hA.1 hA.2 hD.1 hD.2 w
 cases p <;> exact h
theorem gather_any(t:Option Nat)(b g cap n:Nat)(f:Nat→Q3)(hf:∀i,i<n→(f i).1<M∧(f i).2.1<M)(i:Nat)(hi:i<n)(hn:n≤16)(w:World)(v:Value)(xs:List (Int×Int))(hT:Tb w b g cap n f)(ob:¬Ow t v b)(og:¬Ow t v g)(hl:Lk w t v xs)(hx:xs.length≤900000)(c:Nat)(hc:Vr w c #[.int .i64 i])(oc:¬Ow t v c):
 Calls prog 109 #[.pointer (some ⟨b,0,none⟩),.func (.func 110) #[trp t] #[],.func (.func 148) #[] #[.pointer (some ⟨c,0,none⟩)]] w
  fun e w'=>e=.returned (.agg (pnQ (f i)))∧∃v',RecL w.heap.size w w' t v v' (xs++ixs n):=by
 have Q:Hid (Tb w b g cap n f):=hT;have K:Hid (Lk w t v xs):=hl;have X:Hid (Vr w c #[.int .i64 i]):=hc;have Y:Hid (∀i,i<n→(f i).1<M∧(f i).2.1<M):=hf;have HB:Hid (¬Ow t v b∧¬Ow t v g∧¬Ow t v c):=⟨ob,og,oc⟩;have HN:Hid (i<n∧n≤16∧xs.length≤900000):=⟨hi,hn,hx⟩;clear hT hl hc hf ob og oc hi hn hx
 go_enter func109,ntmps109
 go_upto_region 2 with fail
 refine gen_w (fun v=>Hid (Gr w v∧Vr v (w.heap.size) (pnt 0 0 false)∧Vr v (w.heap.size+1) (ent 0 0 0))) ⟨grA,vrA,vrA⟩ ?_;intro v0 J
 have kb:v0.cell? ⟨b,0,none⟩=some (.slice (some ⟨g,0,none⟩) n cap):=by rw[(Q.out.vr.gr J.out.1).cell];rfl
 go_wp2_with fail
 go_loopw [15] (fun ia wr=>∃(j:Nat) (v':Value),ia=.int .i64 j∧Hu (j≤n)∧Hid (RecL (w.heap.size+2) w wr t v v' (xs++ixs j)∧Vr wr (w.heap.size) (pnt 0 0 false)∧Vr wr (w.heap.size+1) (enQ (gth f i j)))) (fun ia _=>((n:Int)-intOf ia).toNat)
 case atStart=>
  obtain⟨G,B,d⟩:=J.out;refine⟨0,v,rfl,fun _=>Nat.zero_le _,?_,B,d⟩;rw[show ixs 0=[] from rfl,List.append_nil];exact(RecL.refl K.out _).gr G
 case round=>
  clear J kb;obtain⟨j,L,rfl,HJ,J⟩:=hrel;obtain⟨q,B,d⟩:=J.out;obtain⟨ob,og,oc⟩:=HB.out;obtain⟨hi,hn,hx⟩:=HN.out
  have j0:(0:Int)≤j:=by omega
  have n4:(n:Int)≤16:=by omega
  by_cases hlt:j<n
  ·have j1:(j:Int)<n:=by omega
   have P:=(Q.out.row.kp q.kp og).load hlt;obtain⟨A,S⟩:=exl (f j);obtain⟨D,U⟩:=exl (gth f i j);obtain⟨C,Z⟩:=exl (gth f i (j+1));have HO:Hid _:=over_Q _ A D C (S▸Y.out j hlt) (U▸gth_lt hi Y.out j) (by rw[←Z,gth_succ,S,U]);rw[S]at P
   have bj:j<9223372036854775808:=by omega
   have bi:i<9223372036854775808:=by omega
   have sz:w.heap.size+1+1≤wr.heap.size:=d.p
   have HI:Hid (∀w4,Gr wr w4→Calls prog 110 #[trp t,.int .i64 j] w4 fun e w'=>∃z v',e=.returned (.int .i64 z)∧RecL w4.heap.size w4 w' t L v' (xs++ixs (j+1))):=fun w4 H=>by
    rw[ixs_succ,←List.append_assoc];exact look_any w4 t L _ _ (q.lk.gr H) (by rw[List.length_append,ixs_length];omega)
   go_upto_region 6 with (go_at_call 110;refine(HI.out _ ?_).mono ?_;exact grA;rintro e w5 ⟨z,V,rfl,I⟩)
   have e4:(wr.alloc (.cells (enQ A) 187)).heap.size=wr.heap.size+1:=by simp
   have H:Gr wr (wr.alloc (.cells (enQ A) 187)):=(Gr.refl _).alloc _
   have W:=(Vr.new wr (enQ A) 187).kp I.kp fun h=>by have:=q.lk.own h;omega
   rw[e4]at I;replace B:=(B.gr H).kp I.kp (q.no (fun h=>by have:=K.out.own h;omega) (by omega));replace d:=(d.gr H).kp I.kp (q.no (fun h=>by have:=K.out.own h;omega) (by omega));have cc:=((X.out.kp q.kp oc).gr H).kp I.kp (q.no oc (by have:c+1≤w.heap.size:=X.out.p;omega));have G:GaI w w5 t v V (xs++ixs (j+1)):=⟨(q.gr H).trans I (by omega) (by omega)⟩;have no:¬Ow t V (w.heap.size+1):=G.r.no (fun h=>by have:=K.out.own h;omega) (by omega);rw[U]at d;clear J q I HI P S U H e4;refine wp_wT 6 [.c (.agg (ent A.1 A.2.1 (bw A.2.2))),.c (.agg (ent D.1 D.2.1 (bw D.2.2))),.c (.func (.func 148) #[] #[pv c 0]),.c (.int .i64 j),.c (.int .u64 (msk (decide (j=i)):Nat)),.c (.agg (ent C.1 C.2.1 (bw C.2.2)))] [0,1,4,5] ⟨.g 187 0 W rfl,.g 187 0 d rfl,.k _ fun yy vv x hh=>RtW.of_c (Rt.c (wanted_any j i bj bi c _ (cc.gr x))),.z HO.out,⟨⟩⟩ (.s 187 (fun yy=>pv (w.heap.size+1) 0) (fun yy=>.agg (ent C.1 C.2.1 (bw C.2.2))) fun aa L x h6=>?_);have Q:=(d.gr x).h;have FT:=(d.gr x).f;refine⟨setBlk L (w.heap.size+1) (ent C.1 C.2.1 (bw C.2.2)),by simp[go_sem,exI,Q,FT],?_⟩;simp only[fzw];clear h6;replace G:=G.trans x;replace W:=W.gr x;replace d:=d.gr x;replace B:=B.gr x
   go_wp2_with fail
   go_roundw
   case rel=>
    refine⟨j+1,V,by go_num,fun _=>hlt,G.r.set _ _ (by omega) no,B.other (by omega),?_⟩;rw[Z];exact d.set (by rw[ent_size];decide) _
   case measure=>simp[intOf];omega
  ·have j1:¬(j:Int)<n:=by omega
   have hj:j=n:=by have:=HJ.out ();omega
   have x:gth f i j=f i:=by unfold gth;rw[if_pos (by omega)]
   rw[x]at d;have⟨h0,f0,p0⟩:=B;have⟨h1,f1,p1⟩:=d;have HP:Hid (∀w,Cg 145 #[.agg (enQ (f i))] w (.agg (pnQ (f i)))):=fun w=>point_any _ _ _ w
   go_wp2_with (go_at_call 145;refine hkA HP fun g=>?_)
   refine bo1 results109 (rd_pn (by rfl) ?_) ⟨rfl,L,?_⟩
   ·simp[go_sem, *]
   ·have h2:=((q.set (w.heap.size) (pnQ (f i)) (by omega) (q.no (fun h=>by have:=K.out.own h;omega) (by omega))).gr ⟨g,rfl⟩).le (m:=w.heap.size) (by omega);rw[hj]at h2;exact h2
theorem pick_any(t:Option Nat)(b g cap n:Nat)(f:Nat→Q3)(hf:∀i,i<n→(f i).1<M∧(f i).2.1<M)(i:Nat)(hi:i<n)(hn:n≤16)(w:World)(v:Value)(xs:List (Int×Int))(hT:Tb w b g cap n f)(ob:¬Ow t v b)(og:¬Ow t v g)(hl:Lk w t v xs)(hx:xs.length≤900000):
 Calls prog 81 #[.pointer (some ⟨b,0,none⟩),trp t,.int .i64 i] w
  fun e w'=>e=.returned (.tuple #[.agg (pnQ (f i)),.int .i64 0])∧∃v',RecL w.heap.size w w' t v v' (xs++ixs n):=by
 have H:w.cell? ⟨b,0,none⟩=some (.slice (some ⟨g,0,none⟩) n cap):=by rw[hT.vr.cell];rfl
 have I:=hT.vr.p
 have A:Hid (∀W c,Gr w W→Vr W c #[.int .i64 i]→w.heap.size<c→Vr W w.heap.size (pnt 0 0 false)→Calls prog 109 #[.pointer (some ⟨b,0,none⟩),.func (.func 110) #[trp t] #[],.func (.func 148) #[] #[.pointer (some ⟨c,0,none⟩)]] W
  fun e w'=>e=.returned (.agg (pnQ (f i)))∧∃v',(RecL (w.heap.size+1) w w' t v v' (xs++ixs n))∧Vr w' w.heap.size (pnt 0 0 false)):=fun W c d B C j=>by
  have no:∀k,w.heap.size≤k→¬Ow t v k:=fun k J h=>by have:=hl.own h;omega
  refine(gather_any t b g cap n f hf i hi hn W v xs (hT.gr d) ob og (hl.gr d) hx c B (no c (by omega))).mono ?_;rintro e w' ⟨rfl,v',q⟩;have:w.heap.size+1≤W.heap.size:=j.p;exact⟨rfl,v',(q.pre d).le (by omega),j.kp q.kp (no _ (Nat.le_refl _))⟩
 have no:¬Ow t v w.heap.size:=fun h=>by have:=hl.own h;omega
 go_enter func81,ntmps81
 go_wp2_with (first
  | (go_at_call 111;refine(only_any _ _).mono ?_;rintro e w' ⟨rfl,rfl⟩)
  | (go_at_call 109;refine(A.out _ _ ?_ ?_ ?_ ?_).mono ?_;exact grA;exact⟨by simp[go_sem],by simp[go_sem],by simp[go_sem]⟩;simp;exact⟨by simp[go_sem],by simp[go_sem],by simp[go_sem]⟩;rintro e K ⟨rfl,D,x,G⟩;have⟨L,P,Q⟩:=G))
 refine bo2 results81 (rd_pn (by rfl) ?_) ⟨rfl,D,(x.set _ _ (Nat.le_refl _) (x.no no (by omega))).le (by omega)⟩;simp[go_sem, *]
end
section
attribute [local go_sem] uz8
attribute [local go_sem ↓] zvCu_is storeCu_is loadCu_is loadPn_is storePn_is zvPn_is buildPn_is loadEn_is storeEn_is zvEn_is buildEn_is Go.wp_at_zero Go.wp_at_succ
attribute [local go_sem] zvCu storeCu loadCu cu_size loadPn storePn zvPn loadPX loadPY buildPn0 buildPn3 buildPnI pnt_size pnt_X pnt_Y loadEn storeEn zvEn buildEn2 buildEn3 ent_size frz_setBlk blk_setBlk setBlk_setBlk blk_other
theorem check_yes{k:Nat}(h1:1≤k)(h2:k≤15){P:Q3}(lP:P.1<M∧P.2.1<M)(hP:onB k P.1 P.2.1 P.2.2=true)(n:Int)(hn:1≤n∧n≤16)(w:World):Cg 107 #[.int .i64 k,.agg (pnQ P),.int .i64 n] w (.int .i64 0):=by
 have d:Hid _:=get13_yes k h1 h2;simp only[cuN]at d;have f:Hid _:=hP▸on13_yes k h1 h2 P.1 P.2.1 P.2.2 lP.1 lP.2
 go_enter func107,ntmps107
 go_wp2_with (first|(go_at_call 40;refine hkA d fun h=>?_)|(go_at_call 43;refine hkA f fun i=>?_))
 go_ret
 exact⟨rfl,grA⟩
def bslE(t:TypeId)(n:Nat)(p:Array (Nat×Value)):Sem Value:=Instr.buildSlice t n p
theorem bslE_is(n:Nat)(p:Array (Nat×Value)):Instr.buildSlice 167 n p=bslE 167 n p:=rfl
theorem bslE1(x y z:Nat)(w:World):(bslE 167 1 #[(0,.agg (ent x y z))]).run prog w=.ok (.slice (some ⟨w.heap.size,0,none⟩) 1 1) (w.alloc (.cells (ent x y z) 187)):=by kernel_rfl
attribute [local go_sem ↓] bslE_is
attribute [local go_sem] bslE1
theorem owns_set{w:World}{base b:Nat}{e:TypeId}{s:Nat}{v:Value}{n:Nat}{xs:List Value}(h:w.ownsRow base e s v n xs)(hb:b<base)(d:Array Value):(setBlk w b d).ownsRow base e s v n xs:=
 owns_kept h ((Kp.refl (fun k=>k=b) w).setBlk b d (Or.inl rfl)) fun k f e=>by have:=(h.lt k f).1;omega
def lenV:Value→Nat
 | .slice _ n _=>n
 | _=>0
theorem multiples_any{k:Nat}(h1:1≤k)(h2:k≤15){P:Q3}(oP:OnQ k P)(n:Nat)(hn:1≤n∧n≤16)(w:World):
 Calls prog 108 #[.int .i64 k,.agg (pnQ P),.int .i64 n] w fun e w'=>∃g cap,e=.returned (.slice (some ⟨g,0,none⟩) n cap)∧Er w' g n (fun i=>mlQ k i P)∧Gr w w'∧w.heap.size≤g:=by
 obtain⟨i0,L,Q,S,U⟩:=info_parts Tryz.infoEn;obtain⟨F,hF⟩:∃F:Nat→Q3,(fun i=>mlQ k i P)=F:=⟨_,rfl⟩
 have HA:Hid (∀j w,Cg 32 #[.int .i64 k,.agg (pnQ (F j)),.agg (pnQ P)] w (.tuple #[.agg (pnQ (F (j+1))),.int .i64 0])):=fun j w=>by
  subst hF;exact addQ h1 h2 (mlQ_on h1 h2 j oP) oP (by show _=mlQ k (j+1) P;rw[mlQ_add h1 h2 j 1 oP,mlQ_one h1 h2 oP]) w
 have x:F 0=inf:=by subst hF;exact mlQ_zero h1 h2 P
 rw[hF];have HN:Hid _:=hn;have HE:Hid (∀(A:Q3) w,Cg 143 #[.agg (pnQ A)] w (.agg (enQ A))):=fun A w=>entryOf_any A.1 A.2.1 A.2.2 w
 have V:Hid (∀w,Cg 143 #[.agg (pnt 0 0 true)] w (.agg (enQ (F 0)))):=fun w=>by rw[x];exact entryOf_any 0 0 true w
 have W:Hid _:=x;clear hn hF oP x
 go_enter func108,ntmps108
 go_upto_region 2 with fail
 refine gen_w (fun v=>Hid (Gr w v∧Vr v (w.heap.size) (pnQ P)∧Vr v (w.heap.size+1) (pnt 0 0 true))) ⟨grA,vrA,vrA⟩ ?_;intro v0 B;have X:=B.out.2.2.h
 go_upto_region 3 with (go_at_call 143;refine(V.out _).mono ?_;rintro e D ⟨rfl,Y⟩)
 have e0:pnQ (F 0)=pnt 0 0 true:=by rw[W.out];rfl
 have f:Hid (Gr w (D.alloc (.cells (enQ (F 0)) 187))∧Vr (D.alloc (.cells (enQ (F 0)) 187)) (w.heap.size) (pnQ P)∧Vr (D.alloc (.cells (enQ (F 0)) 187)) (w.heap.size+1) (pnQ (F 0))∧(D.alloc (.cells (enQ (F 0)) 187)).ownsRow (w.heap.size+1+1) 187 19 (.slice (some ⟨D.heap.size,0,none⟩) 1 1) 1 (ens F 1)):=by
  obtain⟨G,H,q⟩:=B.out;have Z:=Y.trans ((Gr.refl _).alloc (.cells (enQ (F 0)) 187));rw[e0];exact⟨G.trans Z,H.gr Z,q.gr Z,owns_mono (owns_first D F) (q.gr Y).p⟩
 clear X B Y e0
 go_loopw [8] (fun sl wr=>∃j:Nat,Hu (j+1≤n)∧lenV sl=j+1∧Hid (Gr w wr∧Vr wr (w.heap.size) (pnQ P)∧Vr wr (w.heap.size+1) (pnQ (F j))∧wr.ownsRow (w.heap.size+1+1) 187 19 sl (j+1) (ens F (j+1)))) (fun sl _=>n-lenV sl)
 case atStart=>exact⟨0,fun _=>HN.out.1,rfl,f⟩
 case round=>
  clear f
  rename_i sl
  obtain⟨j,HJ,hl,f⟩:=hrel;obtain⟨G,H,q,I⟩:=f.out;obtain⟨p,cp,rfl,-,-⟩:=owns_shape I;obtain⟨af,ag⟩:=HN.out
  by_cases hlt:j+1<n
  ·have j1:((j:Int)+1<n):=by omega
   obtain⟨A,hA⟩:=exl (F j);obtain⟨C,hC⟩:=exl (F (j+1))
   have aa:Hid _:=fun w=>by have:=HA.out j w;rw[hA,hC]at this;exact this
   rw[hA]at q;have⟨h0,f0,p0⟩:=H;have⟨ah,f1,p1⟩:=q
   go_upto_region 5 with (go_at_call 32;refine hkA aa fun K=>?_)
   refine gen_w (fun v=>Hid (Gr w v∧Vr v (w.heap.size) (pnQ P)∧Vr v (w.heap.size+1) (pnQ C)∧v.ownsRow (w.heap.size+1+1) 187 19 (.slice p (j+1) cp) (j+1) (ens F (j+1)))) ⟨(gr_setNew G (by omega)).gro K,(H.other (by omega)).gr ⟨K,rfl⟩,(q.set (by rw[pnt_size];decide) _).gr ⟨K,rfl⟩,owns_kept (owns_set I (by omega) _) (Kp.gr ⟨K,rfl⟩ fun _=>False) fun _ _ h=>h⟩ ?_;intro v1 f;have hb:=f.out.2.2.1.h;have ab:Hid (Cg 143 #[.agg (pnQ C)] v1 (.agg (enQ C))):=HE.out C v1
   go_wp2_with (first
    | (go_at_call 143;refine ab.out.mono ?_;rintro e w2 ⟨rfl,gE⟩;have s2:=gE.below.size;have s1:=f.out.2.2.1.p;have ac:=owns_kept f.out.2.2.2 (Kp.gr gE fun _=>False) fun _ _ h=>h)
    | (at_builtin;refine wpList_append_lies _ rfl (.tmp 24) (.tmp 27) 167 rfl (w.heap.size+1+1) 187 i0 _ 19 152 underlying167 L Q S U (ent_size 0 0 0) (by omega) _ (j+1) (ens F (j+1)) rfl (ac.alloc _) ⟨w2.heap.size,0,none⟩ 1 1 (enQ C).toList rfl (by rw[Array.length_toList,ent_size]) (World.news_of_block (heap_alloc_new w2 _)) (fun u hu=>Array.all_eq_true_iff_forall_mem.1 (ent_one _ _ _) u (by simpa using hu)) (by omega) (by unfold maxLen;omega) (by omega) (by simp;unfold Pre at s1;omega) _ rfl ?_;intro g2 cap w3 J d ai ae))
   go_roundw
   case rel=>
    obtain⟨G,H,q,I⟩:=f.out
    have far:∀b,b<w.heap.size+1+1→¬(Value.slice p (j+1) cp).ownBlock=some b:=fun b hb e=>by have:=(I.lt b e).1;omega
    have g3:Gr v1 (w2.alloc (.cells (enQ C) 187)):=gE.alloc _
    refine⟨j+1,fun _=>hlt,rfl,gr_kp (G.trans g3) (Kp.grown d) fun b hb=>far b (by omega),(H.gr g3).kp (Kp.grown d) (far _ (by omega)),?_,?_⟩
    ·rw[hC];exact(q.gr g3).kp (Kp.grown d) (far _ (by omega))
    ·rw[ens_succ F (j+1),hC];exact J
   case measure=>simp[lenV];omega
  ·have hj:j+1=n:=by have:=HJ.out ();omega
   subst hj;obtain⟨g,cap,e,aj,-,he⟩:=Er.of_owns I (by omega)
   injection e with e1 _ e3
   subst e1 e3
   go_wp2_with fail
   exact bo1 results108 (rd_tmp (by rfl)) ⟨g,⟨cp,rfl⟩,he,G,by omega⟩
theorem new_yes{k:Nat}(h1:1≤k)(h2:k≤15){P:Q3}(oP:OnQ k P)(n:Nat)(hn:1≤n∧n≤16)(w:World):
 Calls prog 79 #[.int .i64 k,.agg (pnQ P),.int .i64 n] w fun e w'=>∃b g cap,e=.returned (.tuple #[.pointer (some ⟨b,0,none⟩),.int .i64 0])∧Tb w' b g cap n (fun i=>mlQ k i P)∧Gr w w'∧w.heap.size≤b∧w.heap.size≤g:=by
 have h:Hid _:=check_yes h1 h2 oP.lt oP n (by omega);have d:Hid _:=multiples_any h1 h2 oP n hn;obtain⟨F,hF⟩:∃F:Nat→Q3,(fun i=>mlQ k i P)=F:=⟨_,rfl⟩;rw[hF]at d ⊢
 go_enter func79,ntmps79
 go_wp2_with (first
  | (go_at_call 107;refine hkA h fun B=>?_)
  | (go_at_call 108;refine(d.out _).mono ?_;rintro e j ⟨g,cap,rfl,q,x,A⟩))
 go_ret2
 have f:Gr w j:=Gr.trans grA x;exact⟨_,g,cap,rfl,⟨Vr.new _ _ _,q.gr ((Gr.refl _).alloc _)⟩,f.alloc _,f.below.size,(by refine Nat.le_trans (Gr.below ?_).size A;exact grA)⟩
end
end
section
def mF(k:Nat)(P:Q3)(i:Nat):Q3:=mlQ k i P
theorem mF_lt{k:Nat}(h1:1≤k)(h2:k≤15){P:Q3}(oP:OnQ k P)(n:Nat):∀i,i<n→(mF k P i).1<M∧(mF k P i).2.1<M:=fun i _=>(mlQ_on h1 h2 i oP).lt
theorem Tr.gr{w w':World}{t:Nat}{v:Value}{xs:List (Int×Int)}(h:Tr w t v xs)(g:Gr w w'):Tr w' t v xs:=h.kept (Kp.gr g fun _=>False) fun _ _ h=>h
theorem lenT{w:World}{t:Nat}{v:Value}{xs:List (Int×Int)}(h:Tr w t v xs){x:Int}(hx:(xs.length:Int)=x):Calls prog 21 #[.pointer (some ⟨t,0,none⟩)] w fun e w'=>e=.returned (.int .i64 x)∧w'=w:=by
 subst hx;exact(Len_tr w t v xs h).mono fun _ _ ⟨e,h⟩=>⟨e,h.symm⟩
theorem rgQ{k:Nat}{P:Q3}(hP:gQ k=P)(qc:Nat→Option Addr×Nat)(w:World)(HQ:∀j,Sl w (qc j).1 (nN k j)):Calls prog 29 #[.agg (crA (k:Int) (nN k) qc)] w (Rt (.pt P.1 P.2.1 P.2.2) w):=by
 subst hP;exact rg_any qc w HQ
theorem Tr.far{w w':World}{ta tb n:Nat}{va vb v':Value}{xs ys:List (Int×Int)}(h:Tr w ta va xs)(r:RecL n w w' (some tb) vb v' ys)(hn:∀c,Own ta va c→¬Own tb vb c):Tr w' ta va xs:=
 h.kept r.kp fun c d ⟨a,e,f⟩=>by cases e;exact hn c d f
theorem own_none{t c:Nat}(h:Own t (.slice none 0 0) c):c=t:=h.elim id fun h=>by cases h
end
section
attribute [local go_sem ↓] uz1
attribute [local go_sem] uz2
section
attribute [local go_sem] uz8
attribute [local go_sem ↓] uz19 Go.wp_at_zero Go.wp_at_succ
attribute [local go_sem] uz20
attribute [local go_sem ↓] uz13
attribute [local go_sem] uz14
structure GbI(n:Nat)(w wr:World)(t:Option Nat)(v v':Value)(xs:List (Int×Int)):Prop where
 r:RecL n w wr t v v' xs
 s:n≤wr.heap.size
 h:w.heap.size≤n
theorem GbI.trans{n:Nat}{w wr w2:World}{t:Option Nat}{v v':Value}{xs:List (Int×Int)}(h:GbI n w wr t v v' xs)(g:Gr wr w2):GbI n w w2 t v v' xs:=⟨h.r.gr g,Nat.le_trans h.s g.below.size,h.h⟩
theorem GbI.next{n:Nat}{w wr w2:World}{t:Option Nat}{v z z2:Value}{xs ys:List (Int×Int)}(h:GbI n w wr t v z xs)(r:RecL wr.heap.size wr w2 t z z2 ys):GbI n w w2 t v z2 ys:=⟨h.r.trans r h.h h.s,Nat.le_trans h.s r.kp.size,h.h⟩
theorem GbI.set{n:Nat}{w wr:World}{t:Option Nat}{v z:Value}{xs:List (Int×Int)}(h:GbI n w wr t v z xs)(b:Nat)(d:Array Value)(hb:w.heap.size≤b)(ho:¬Ow t z b):GbI n w (setBlk wr b d) t v z xs:=⟨h.r.set b d hb ho,by rw[size_setBlk];exact h.s,h.h⟩
theorem GbI.no{n:Nat}{w wr:World}{t:Option Nat}{v z:Value}{xs ys:List (Int×Int)}(h:GbI n w wr t v z xs)(hl:Lk w t v ys){b:Nat}(h1:w.heap.size≤b)(h2:b<n):¬Ow t z b:=h.r.no (fun e=>by have:=hl.own e;omega) h2
structure Pk(w:World)(t:Option Nat)(bm bt b g cap:Nat)(f:Nat→Q3):Prop where
 m:Vr w bm #[.pointer (some ⟨b,0,none⟩)]
 r:Vr w bt #[trp t]
 tb:Tb w b g cap 16 f
theorem Pk.kp{S:Nat→Prop}{w w':World}{t:Option Nat}{bm bt b g cap:Nat}{f:Nat→Q3}(h:Pk w t bm bt b g cap f)(k:Kp S w w')(n:∀x,x=bm∨x=bt∨x=b∨x=g→¬S x):Pk w' t bm bt b g cap f:=
 ⟨h.m.kp k (n _ (by simp)),h.r.kp k (n _ (by simp)),h.tb.kp k (n _ (by simp)) (n _ (by simp))⟩
theorem Pk.gr{w w':World}{t:Option Nat}{bm bt b g cap:Nat}{f:Nat→Q3}(h:Pk w t bm bt b g cap f)(k:Gr w w'):Pk w' t bm bt b g cap f:=h.kp (Kp.gr k fun _=>False) fun _ _ h=>h
theorem mpicker_any{k:Nat}(h1:1≤k)(h2:k≤15){P:Q3}(oP:OnQ k P)(t:Option Nat)(w:World):Calls prog 57 #[trp t,.int .i64 k,.agg (pnQ P)] w
 fun e w'=>∃bm bt b g cap,e=.returned (.func (.func 80) #[] #[.pointer (some ⟨bm,0,none⟩),.pointer (some ⟨bt,0,none⟩)])∧Pk w' t bm bt b g cap (mF k P)∧(∀x,x=bm∨x=bt∨x=b∨x=g→w.heap.size≤x)∧Gr w w':=by
 have i:Hid (∀W,Gr w W→Calls prog 79 #[.int .i64 k,.agg (pnQ P),.int .i64 16] W fun e w'=>∃b g cap,e=.returned (.tuple #[.pointer (some ⟨b,0,none⟩),.int .i64 0])∧Tb w' b g cap 16 (mF k P)∧Gr W w'∧w.heap.size≤b∧w.heap.size≤g):=fun W j=>by
  refine(new_yes h1 h2 oP 16 (by decide) W).mono ?_;rintro e w' ⟨b,g,cap,e,d,G,f,h⟩;have:=j.below.size;exact⟨b,g,cap,e,d,G,by omega,by omega⟩
 go_enter func57,ntmps57
 go_wp2_with (go_at_call 79;refine(i.out _ ?_).mono ?_;exact grA;rintro e q ⟨b,g,cap,rfl,d,⟨A,rfl⟩,f,h⟩)
 go_ret
 refine⟨_,_,b,g,cap,rfl,⟨⟨by simp[go_sem],by simp[go_sem],by simp[go_sem]⟩,⟨by simp[go_sem],by simp[go_sem],by simp[go_sem]⟩,d.gr grA⟩,?_,grA⟩
 rintro x (rfl|rfl|rfl|rfl)
 ·first|omega|(refine(Gr.below ?_).size;exact grA)
 ·exact Nat.le_refl _
 ·exact f
 ·exact h
theorem mpicked_any{k:Nat}(h1:1≤k)(h2:k≤15){P:Q3}(oP:OnQ k P){t:Option Nat}{bm bt b g cap:Nat}{w:World}{v:Value}{xs:List (Int×Int)}(hP:Pk w t bm bt b g cap (mF k P))(no:∀x,x=bm∨x=bt∨x=b∨x=g→¬Ow t v x)(hl:Lk w t v xs)(hx:xs.length≤900000){i:Nat}(hi:i<16){T:T3}(hT:frT (mlQ k i P)=T):
 Calls prog 80 #[.int .i64 i,.pointer (some ⟨bm,0,none⟩),.pointer (some ⟨bt,0,none⟩)] w
  fun e w'=>e=.returned (.agg (pjT T))∧∃v',RecL w.heap.size w w' t v v' (xs++ixs 16):=by
 have km:w.cell? ⟨bm,0,none⟩=some (.pointer (some ⟨b,0,none⟩)):=by rw[hP.m.cell];rfl
 have kt:w.cell? ⟨bt,0,none⟩=some (trp t):=by rw[hP.r.cell];rfl
 have pm:=hP.m.p;have pt:=hP.r.p
 have C:¬Ow t v w.heap.size:=fun h=>by have:=hl.own h;omega
 obtain⟨Q,q⟩:=exl (mlQ k i P);have K:=q▸mlQ_on h1 h2 i oP;rw[q]at hT
 have L:Hid (∀W,Gr w W→Vr W w.heap.size (prj 0 0 0)→Calls prog 81 #[.pointer (some ⟨b,0,none⟩),trp t,.int .i64 i] W
  fun e w'=>e=.returned (.tuple #[.agg (pnQ Q),.int .i64 0])∧∃v',RecL (w.heap.size+1) w w' t v v' (xs++ixs 16)∧Vr w' w.heap.size (prj 0 0 0)):=fun W A D=>by
  refine(pick_any t b g cap 16 (mF k P) (mF_lt h1 h2 oP 16) i hi (by decide) W v xs (hP.tb.gr A) (no _ (by simp)) (no _ (by simp)) (hl.gr A) hx).mono ?_;rintro e w' ⟨rfl,v',H⟩;have:w.heap.size+1≤W.heap.size:=D.p;exact⟨by rw[show mF k P i=Q from q],v',(H.pre A).le (by omega),D.kp H.kp C⟩
 have S:Hid _:=mtriQ h1 h2 K hT
 go_enter func80,ntmps80
 go_upto_region 2 with (go_at_call 81;refine(L.out _ ?_ ?_).mono ?_;exact grA;exact⟨by simp[go_sem],by simp[go_sem],by simp[go_sem]⟩;rintro e U ⟨rfl,I,V,j⟩;have⟨h5,f5,X⟩:=j)
 refine gen_w (fun u=>GbI (w.heap.size+1) w u t v I (xs++ixs 16)∧Vr u (w.heap.size) (prj 0 0 0)∧Vr u U.heap.size (pnQ Q)) ⟨⟨V.gr ((Gr.refl _).alloc _),Nat.le_trans X (by simp),by omega⟩,j.gr ((Gr.refl _).alloc _),Vr.new _ _ _⟩ ?_;rintro v0 ⟨G,J,j⟩;refine wp_wTS 2 [.c (.agg (pnQ Q)),.c (.agg (pjT T))] [0,1] ⟨.g 38 0 j rfl,.z S.out,⟨⟩⟩ (.s 93 (fun Y=>pv (w.heap.size) 0) (fun Y=>.agg (pjT T)) fun Z v1 B h2=>?_);have d:=(J.gr B).h;have FT:=(J.gr B).f;refine⟨setBlk v1 (w.heap.size) (pjT T),by simp[go_sem,exI,d,FT],?_⟩;simp only[fzw];replace G:=G.trans B
 go_wp2_with fail
 exact bo1 results80 (rd_pj (by rfl) (blk_setBlk _ _ _ (by rw[d];decide +kernel))) ⟨rfl,I,((G.r.set _ _ (Nat.le_refl _) (G.r.no C (by omega))).le (by omega))⟩
end
section
attribute [local go_sem] uz8
attribute [local go_sem ↓] uz19 Go.wp_at_zero Go.wp_at_succ
attribute [local go_sem] uz20
attribute [local go_sem ↓] uz13
attribute [local go_sem] uz14
def rpx:Nat→List (Int×Int)
 | 0=>[]
 | j+1=>rpx j++ixs 16
theorem rpx_length:∀j,(rpx j).length=16*j
 | 0=>rfl
 | j+1=>by rw[rpx,List.length_append,rpx_length j,ixs_length];omega
theorem Rx.oth{w:World}{g n cap b:Nat}{f:Nat→Value}(h:Rx w g n cap f)(ne:b≠g)(d:Array Value):Rx (setBlk w b d) g n cap f:=
 h.kept (S:=fun k=>k=b) ((Kp.refl _ _).setBlk b d (Or.inl rfl)) fun e=>ne e.symm
theorem mnN_16(k:Nat):mnN 4 (bl (oN k))≤576:=mnN_le (by decide) (bl_576 _ (oN_bd k))
theorem bl_pos{a:Nat}(h:0<a):1≤bl a:=Nat.lt_of_not_le fun d=>by have:=(bl_le a 0).1 d;omega
theorem lt_bl(a:Nat):a<2^bl a:=(bl_le a (bl a)).1 (Nat.le_refl _)
theorem mprod_any{k:Nat}(h1:1≤k)(h2:k≤15){P:Q3}(oP:OnQ k P){d:Nat}(ld:d<oN k){t:Option Nat}{bm bt b g cap:Nat}{w:World}{z0:Value}{xs:List (Int×Int)}(hP:Pk w t bm bt b g cap (mF k P))(no:∀x,x=bm∨x=bt∨x=b∨x=g→¬Ow t z0 x)(hl:Lk w t z0 xs)(hx:xs.length≤800000):
 Calls prog 56 #[.agg (cuK k),.agg (nw 9 d),.func (.func 80) #[] #[.pointer (some ⟨bm,0,none⟩),.pointer (some ⟨bt,0,none⟩)]] w
  fun e w'=>e=.returned (.agg (pnQ (mlQ k d P)))∧∃v',RecL w.heap.size w w' t z0 v' (xs++rpx (mnN 4 (bl (oN k)))):=by
 have HP:Hid (Pk w t bm bt b g cap (mF k P)):=hP
 have HB:Hid (∀x,x=bm∨x=bt∨x=b∨x=g→¬Ow t z0 x∧x<w.heap.size):=fun x h=>⟨no x h,by
  rcases h with rfl|rfl|rfl|rfl
  ·exact hP.m.p
  ·exact hP.r.p
  ·exact hP.tb.vr.p
  ·exact hP.tb.row.lt⟩
 have V:Hid (Lk w t z0 xs):=hl;have HX:Hid (xs.length≤800000):=hx;have hd:=Nat.lt_trans ld (lt_bl (oN k));have HD:Hid _:=fun w=>wdig_any (W:=4) (Nat.lt_trans ld (oN_bd k)) (by decide) (by decide) (bl_pos (Nat.lt_of_le_of_lt (Nat.zero_le _) ld)) (bl_576 _ (oN_bd k)) hd w;have HI:Hid (∀w,Cg 78 #[.agg (pnt 0 0 true)] w (.agg (prj 0 1 0))):=fun w=>mtriQ h1 h2 (inf_on k) rfl w;have HM:=mnN_16 k;obtain⟨F,hF⟩:∃F:Nat→Nat,tn (dF 4 d (mnN 4 (bl (oN k))))=F:=⟨_,rfl⟩;have HE:Hid (hor 4 F (mnN 4 (bl (oN k)))=d):=hF▸hor_dF (many_lt (by decide) hd);have HF:Hid (∀j,∃D:Nat,dF 4 d (mnN 4 (bl (oN k))) j=(D:Int)∧F j=D∧D<16):=fun j=>⟨F j,by rw[←hF];unfold tn dF;omega,rfl,by rw[←hF,tn_dF];exact dgw_lt 4 d _⟩;obtain⟨m,hm⟩:=exl (mnN 4 (bl (oN k)));rw[hm]at HD HM HE HF ⊢;obtain⟨Q,hQ⟩:=exl (mlQ k d P);rw[hQ];have HQ:Hid (mlQ k d P=Q):=hQ;clear hQ;clear hP no hl hx ld hd hF hm
 go_enter func56,ntmps56
 go_upto_region 1 with fail
 refine gen_w (fun v=>Gr w v∧Vr v (w.heap.size) (cuK k)∧Vr v (w.heap.size+1) (nw 9 d)∧Vr v (w.heap.size+1+1) (pnt 0 0 false)) ⟨grA,vrA,vrA,vrA⟩ ?_;rintro v0 ⟨G,A,X,B⟩;have L0:w.heap.size+1+1<v0.heap.size:=B.p;refine wp_wS [.N d,.c (pv (w.heap.size) 56),.c (.int .i64 (bl (oN k))),.it (v0.heap.size) m (dF 4 d m),.it (v0.heap.size) m (dF 4 d m),.ix (v0.heap.size) m (dF 4 d m),.O,.ix (v0.heap.size) m (dF 4 d m),.O] [0,2,3,4,5,6,7] ⟨.g 25 0 X rfl,.o 3 56 A rfl (by exact cu_56 _ _ _ _ _ _ _ _ _ _),.k _ fun yy vv q hh =>  ((RtW.it q (HD.out _))),.m 3,.m 4,.m 4,.m 5,⟨⟩⟩ fun ac v1 q h1=>?_;simp only[fzw,Kw.it,Kw.ix];obtain⟨ar,H⟩:=h1 7;clear h1;replace G:=G.trans q;replace A:=A.gr q;replace X:=X.gr q;replace B:=B.gr q;clear q;have L1:=H.lt
 go_upto_region 2 with fail
 refine wp_v false [.c (.agg (pnt 0 0 true)),.c (.agg (prj 0 1 0)),.a,.u] [1] [⟨2,3,93,prj 0 0 0,fun _=>prj 0 1 0⟩] ⟨.z HI.out,⟨⟩⟩ ⟨.k zPj (.t rfl),⟨⟩⟩ fun ag v2 q h2 ah=>?_;simp only[fzw,Kw.a];obtain⟨⟨au,J⟩,-⟩:=ah;clear h2;replace G:=G.trans q;replace A:=A.gr q;replace X:=X.gr q;replace B:=B.gr q;replace H:=H.gr q;clear q
 go_upto_region 3 with fail
 refine wp_wS [.c (.slice (some ⟨(ac 7 0).2,0,none⟩) m m),.c (.int .i64 (m:Nat)),.O] [] ⟨⟩ fun ax v3 q h3=>?_;simp only[fzw];clear h3;replace G:=G.trans q;replace A:=A.gr q;replace X:=X.gr q;replace B:=B.gr q;replace J:=J.gr q;replace H:=H.gr q;clear q;generalize (ag 2 0).2=U at *;generalize (ac 7 0).2=Y at *;obtain⟨n,hn⟩:=exl (v3.heap.size);have L3:U<n:=hn▸J.p
 have L:Hid (GbI n w v3 t z0 z0 (xs++rpx 0)∧Vr v3 (w.heap.size) (cuK k)∧Vr v3 (w.heap.size+1+1) (pnt 0 0 false)∧Vr v3 U (pjT (0,1,0))∧Rx v3 Y m m (iF (dF 4 d m))):=
  ⟨⟨by rw[rpx,List.append_nil];exact(RecL.refl V.out n).gr G,by omega,by have:=G.below.size;omega⟩,A,B,J,H⟩
 have ae:Hid (TrQ k (0,1,0) (mlQ k (hor 4 F 0) P)):=(mlQ_zero h1 h2 P).symm▸frT_tr h1 h2 (inf_on k);clear X G A B J H HD HI
 go_wp2_with fail
 go_loopw [25] (fun ia wr=>∃(j:Nat) (z:Value) (S:T3),ia=.int .i64 j∧Hu (j≤m)∧Hid (TrQ k S (mlQ k (hor 4 F j) P))∧Hid (GbI n w wr t z0 z (xs++rpx j)∧Vr wr (w.heap.size) (cuK k)∧Vr wr (w.heap.size+1+1) (pnt 0 0 false)∧Vr wr U (pjT S)∧Rx wr Y m m (iF (dF 4 d m)))) (fun ia _=>m-(intOf ia).toNat)
 case atStart=>exact⟨0,z0,(0,1,0),rfl,fun _=>Nat.zero_le _,ae,L⟩
 case round=>
  clear L ae;obtain⟨j,z,S,rfl,HJ,K,L⟩:=hrel;obtain⟨G,A,B,C,I⟩:=L.out
  have j0:(0:Int)≤j:=by omega
  by_cases hlt:j<m
  ·have j1:(j:Int)<m:=by omega
   obtain⟨D,hD,ai,lD⟩:=HF.out j
   have kc:wr.cell? ⟨Y,j,none⟩=some (.int .i64 D):=by rw[I.cell j hlt,←hD]
   clear L
   go_wp2_with fail
   have L:Hid (GbI n w wr t z0 z (xs++rpx j)∧Vr wr (w.heap.size) (cuK k)∧Vr wr (w.heap.size+1+1) (pnt 0 0 false)∧Vr wr U (pjT S)∧Rx wr Y m m (iF (dF 4 d m))):=⟨G,A,B,C,I⟩;clear G A B C I kc
   go_loopw [29] (fun ia wr2=>∃(i:Nat) (S:T3),ia=.int .i64 i∧Hu (i≤4)∧Hid (TrQ k S (mlQ k (2^i*hor 4 F j) P))∧Hid (GbI n w wr2 t z0 z (xs++rpx j)∧Vr wr2 (w.heap.size) (cuK k)∧Vr wr2 (w.heap.size+1+1) (pnt 0 0 false)∧Vr wr2 U (pjT S)∧Rx wr2 Y m m (iF (dF 4 d m)))) (fun ia _=>4-(intOf ia).toNat)
   case atStart=>exact⟨0,S,rfl,fun _=>by decide,by rw[Nat.pow_zero,Nat.one_mul];exact K,L⟩
   case round=>
    clear L K;obtain⟨i,S,rfl,HI,K,L⟩:=hrel;obtain⟨G,A,B,C,I⟩:=L.out
    have i0:(0:Int)≤i:=by omega
    by_cases hi:i<4
    ·have i1:(i:Int)<4:=by omega
     obtain⟨R,Z⟩:=exl (addT k S S);have aj:Hid _:=jdblQ h1 h2 K.out Z
     have aa:Hid (TrQ k R (mlQ k (2^(i+1)*hor 4 F j) P)):=by
      have h:=addT_tr h1 h2 K.out K.out;rw[Z,←mlQ_add h1 h2 _ _ oP]at h
      rwa [show 2^(i+1)*hor 4 F j=2^i*hor 4 F j+2^i*hor 4 F j by rw[Nat.pow_succ,Nat.mul_assoc,Nat.mul_comm 2,←Nat.mul_assoc,Nat.mul_two]]
     clear L Z
     go_upto_region 8 with fail
     refine wp_wTS 7 [.c (pv (w.heap.size) 0),.c (.int .i64 k),.c (.agg (pjT S)),.E (.agg (pjT R)),.E (.agg (pjT R)),.c (.agg (pjT R)),.O] [1,2,3] ⟨.o 3 0 A rfl (by exact cu_0 _ _ _ _ _ _ _ _ _ _),.g 93 0 C rfl,.z aj.out,⟨⟩⟩ (.s 93 (fun yy=>pv U 0) (fun yy=>.agg (pjT R)) fun ay v1 q h8=>?_);have K:=(C.gr q).h;have FT:=(C.gr q).f;refine⟨setBlk v1 (U) (pjT R),by simp[go_sem,exI,K,FT],?_⟩;simp only[fzw];clear h8;replace G:=G.trans q;replace A:=A.gr q;replace C:=C.gr q;replace B:=B.gr q;replace I:=I.gr q;clear q
     go_wp2_with fail
     go_roundw
     case rel=>exact⟨i+1,R,by go_num,fun _=>hi,aa,G.set U _ (by omega) (G.no V.out (by omega) L3),A.other (by omega),B.other (by omega),C.set (by rw[prj_size];decide) _,I.oth (by omega) _⟩
     case measure=>simp[intOf];omega
    ·have i1:¬(i:Int)<4:=by omega
     have ak:i=4:=by have:=HI.out ();omega
     subst ak;obtain⟨T,hT⟩:=exl (frT (mlQ k D P));obtain⟨R,Z⟩:=exl (addT k S T)
     have aa:Hid (TrQ k R (mlQ k (hor 4 F (j+1)) P)):=by
      have h:=addT_tr h1 h2 K.out (hT▸frT_tr h1 h2 (mlQ_on h1 h2 D oP));rw[Z,←mlQ_add h1 h2 _ _ oP]at h
      rwa [hor,ai,Nat.mul_comm (hor 4 F j)]
     have HA:Hid _:=jaddQ h1 h2 K.out (hT▸frT_tr h1 h2 (mlQ_on h1 h2 D oP)) Z;clear L Z
     go_upto_region 10 with fail
     refine wp_x true [.c (pv (w.heap.size) 0),.c (.int .i64 k),.c (.agg (pjT S)),.c (.func (.func 80) #[] #[.pointer (some ⟨bm,0,none⟩),.pointer (some ⟨bt,0,none⟩)]),.c (.int .i64 D),.c (.agg (pjT T)),.c (.tuple #[.agg (pjT R),.int .i64 0]),.c (.tuple #[.agg (pjT R),.int .i64 0]),.c (.agg (pjT R)),.c (.int .i64 0),.u] [1,2,6] 5 10 (fun _ _=>True)
      (fun c v=>∃z,GbI n w v t z0 z (xs++rpx (cond c (j+1) j))∧Vr v (w.heap.size) (cuK k)∧Vr v (w.heap.size+1+1) (pnt 0 0 false)∧Vr v U (pjT S)∧Rx v Y m m (iF (dF 4 d m)))
      (fun _ v=>∃z,GbI n w v t z0 z (xs++rpx (j+1))∧Vr v (w.heap.size) (cuK k)∧Vr v (w.heap.size+1+1) (pnt 0 0 false)∧Vr v U (pjT R)∧Rx v Y m m (iF (dF 4 d m)))
      80 (fun _ =>#[.int .i64 D,pv bm 0,pv bt 0]) 93 (fun _=>pv U 0) (fun _=>.agg (pjT R)) ⟨z,G,A,B,C,I⟩ ?x1 ?x2 ?x3 ?x4 ⟨fnc,fnc,fnc,fnc,fnc,fnc,fnc,fnc,fnc,fnc,fnu,trivial⟩ ?x5
     case x1=>exact fun _ _ _ ⟨z,G,A,B,C,I⟩ g=>⟨z,G.trans g,A.gr g,B.gr g,C.gr g,I.gr g⟩
     case x2=>
      rintro _ v ⟨z,G,A,B,C,I⟩;refine .cons (.o 3 0 A rfl (by exact cu_0 _ _ _ _ _ _ _ _ _ _)) ?_;refine .cons (.g 93 0 C rfl) ?_;exact .cons (.z HA.out) .nil
     case x3=>
      rintro _ v ⟨z,G,A,B,C,I⟩ _;refine(mpicked_any h1 h2 oP (HP.out.kp G.r.kp fun x h=>(HB.out x h).1) (fun x h=>G.r.no (HB.out x h).1 (Nat.lt_of_lt_of_le (HB.out x h).2 G.h)) G.r.lk (by have:=HX.out;show (xs++rpx j).length≤_;rw[List.length_append,rpx_length];omega) lD hT).mono ?_;rintro e w' ⟨rfl,z2,r2⟩;refine⟨fun _=>(none,0),rfl,trivial,⟨z2,?_,A.kp r2.kp (G.no V.out (by omega) (by omega)),B.kp r2.kp (G.no V.out (by omega) (by omega)),C.kp r2.kp (G.no V.out (by omega) L3),I.kept r2.kp (G.no V.out (by omega) (by omega))⟩,trivial⟩;rw[List.append_assoc]at r2;exact G.next r2
     case x4=>
      rintro _ v ⟨z,G,A,B,C,I⟩ _;have K:=C.h;have FT:=C.f;exact⟨setBlk v U (pjT R),by simp[go_sem,exI,K,FT],z,G.set U _ (by omega) (G.no V.out (by omega) L3),A.other (by omega),B.other (by omega),C.set (by rw[prj_size];decide) _,I.oth (by omega) _⟩
     case x5=>
      rintro _ v ⟨z3,G,A,B,C,I⟩;simp only[fzw];have L:Hid (GbI n w v t z0 z3 (xs++rpx (j+1))∧Vr v (w.heap.size) (cuK k)∧Vr v (w.heap.size+1+1) (pnt 0 0 false)∧Vr v U (pjT R)∧Rx v Y m m (iF (dF 4 d m))):=⟨G,A,B,C,I⟩;clear G A B C I
      go_wp2_with fail
      go_roundw
      case rel=>exact⟨j+1,z3,R,by go_num,fun _=>hlt,aa,L⟩
      case measure=>simp[intOf];omega
  ·have j1:¬(j:Int)<m:=by omega
   have hj:j=m:=by have:=HJ.out ();omega
   subst hj
   have ao:Hid _:=fun w=>by
    have h:=K.out;rw[HE.out,HQ.out]at h;exact toQ h1 h2 h w
   clear L K
   go_upto_region 12 with fail
   refine wp_v false [.c (pv (w.heap.size) 0),.c (.int .i64 k),.c (.agg (pjT S)),.E (.agg (pnQ Q)),.E (.agg (pnQ Q)),.c (.agg (pnQ Q)),.O,.a,.u,.O] [1,2,3] [⟨7,8,38,pnt 0 0 false,fun _=>pnQ Q⟩] ⟨.o 3 0 A rfl (by exact cu_0 _ _ _ _ _ _ _ _ _ _),.g 93 0 C rfl,.z ao.out,⟨⟩⟩ ⟨.k zPnt (.t rfl),⟨⟩⟩ fun av v1 q ap af=>?_;simp only[fzw,Kw.a];obtain⟨⟨aq,ab⟩,-⟩:=af;clear ap;replace G:=G.trans q;replace A:=A.gr q;replace C:=C.gr q;replace B:=B.gr q;clear q
   go_upto_region 13 with fail
   refine wp_wTS 1 [.c (.agg (pnQ Q))] [0] ⟨.g 38 0 ab rfl,⟨⟩⟩ (.s 38 (fun yy=>pv (w.heap.size+1+1) 0) (fun yy=>.agg (pnQ Q)) fun aw v2 q az=>?_);have K:=(B.gr q).h;have FT:=(B.gr q).f;refine⟨setBlk v2 (w.heap.size+1+1) (pnQ Q),by simp[go_sem,exI,K,FT],?_⟩;simp only[fzw];replace G:=G.trans q
   go_wp2_with fail
   exact bo1 results56 (rd_pn (by rfl) (blk_setBlk _ _ _ (by rw[K];decide +kernel))) ⟨rfl,z,(G.set (w.heap.size+1+1) _ (by omega) (G.no V.out (by omega) (by omega))).r.le (by omega)⟩
end
section
attribute [local go_sem] uz8
attribute [local go_sem ↓] uz19 Go.wp_at_zero Go.wp_at_succ
attribute [local go_sem] uz20
attribute [local go_sem ↓] uz13
attribute [local go_sem] uz14
def Kw.fk(t:Option Nat)(S:Nat→Prop)(f:Nat→Q3):Kw:=⟨fun y=>.func (.func 80) #[] #[.pointer (some ⟨(y 0).2,0,none⟩),.pointer (some ⟨(y 1).2,0,none⟩)],fun y w=>∃b g cap,Pk w t (y 0).2 (y 1).2 b g cap f∧∀x,x=(y 0).2∨x=(y 1).2∨x=b∨x=g→¬S x,
 fun _ _ _ ⟨b,g,cap,h,n⟩ k=>⟨b,g,cap,h.gr k,n⟩,0,fun h=>absurd rfl h,fun h=>absurd h (by decide)⟩
theorem fnfk{t:Option Nat}{S:Nat→Prop}{f:Nat→Q3}:FarN (fun v w=>Kp S v w) (.fk t S f):=fun _ _ _ k ⟨b,g,d,h,n⟩=>⟨b,g,d,h.kp k n,n⟩
theorem mmul_big{k:Nat}(h1:1≤k)(h2:k≤15){P:Q3}(oP:OnQ k P){d:Nat}(ld:d<M)(gd:oN k≤d)(p:Value)(w:World):Cg 33 #[p,.int .i64 k,.agg (nw 9 d),.agg (pnQ P)] w (.tuple #[.agg (pnt 0 0 false),.int .i64 1802]):=by
 have C:Hid _:=get13_yes k h1 h2;have D:Hid _:=(show onB k P.1 P.2.1 P.2.2=true from oP)▸on13_yes k h1 h2 _ _ P.2.2 oP.lt.1 oP.lt.2;have H:Hid _:=(decide_eq_false (Nat.not_lt.2 gd))▸mbelow_any ld (oN_bd k)
 go_enter func33,ntmps33
 go_upto_region 1 with fail
 refine gen_w (fun v=>Gr w v∧Vr v (w.heap.size) (nw 9 d)∧Vr v (w.heap.size+1) (pnQ P)∧Vr v (w.heap.size+1+1) (pnt 0 0 false)) ⟨grA,vrA,vrA,vrA⟩ ?_;rintro W ⟨G,j,q,i⟩;have X:=i.p;refine wp_v false [.c (.int .i64 k),.E (.agg (cuK k)),.E (.agg (cuK k)),.c (.agg (cuK k)),.O,.a,.u,.O] [1] [⟨5,6,78,cu 0 0 0 0 0 0 0 0 0 false,fun _=>cuK k⟩] ⟨.z C.out,⟨⟩⟩ ⟨.k zCu (.t rfl),⟨⟩⟩ fun x Y f h1 A=>?_;simp only[fzw,Kw.a];obtain⟨⟨B,h⟩,-⟩:=A;clear h1;replace G:=G.trans f;replace j:=j.gr f;replace q:=q.gr f;replace i:=i.gr f;clear f
 go_upto_region 2 with fail
 refine wp_wS [.O,.F] [] ⟨⟩ fun I Z f h2=>?_;simp only[fzw];clear h2;replace G:=G.trans f;replace j:=j.gr f;replace q:=q.gr f;replace i:=i.gr f;replace h:=h.gr f;clear f
 go_upto_region 4 with fail
 refine wp_wS [.c (.int .i64 k),.c (.agg (pnQ P)),.T,.F] [1,2] ⟨.g 38 0 q rfl,.z D.out,⟨⟩⟩ fun J v3 f K=>?_;simp only[fzw];clear K;replace G:=G.trans f;replace j:=j.gr f;replace q:=q.gr f;replace i:=i.gr f;replace h:=h.gr f;clear f
 go_upto_region 6 with fail
 refine wp_wS [.N d,.c (pv ((x 5 0).2) 28),.N (oN k),.F,.T] [0,2,3] ⟨.g 25 0 j rfl,.g 25 28 h rfl,.z H.out,⟨⟩⟩ fun L v4 f Q=>?_;simp only[fzw];clear Q;replace G:=G.trans f;replace j:=j.gr f;replace i:=i.gr f;have⟨S,U,V⟩:=i
 go_wp2_with fail
 refine bo2 results33 (rd_pn (by rfl) ?_) ⟨rfl,?_⟩
 ·simp[go_sem, *]
 ·exact grB
theorem mmul_yes{k:Nat}(h1:1≤k)(h2:k≤15){P:Q3}(oP:OnQ k P){d:Nat}(ld:d<oN k){t:Option Nat}{w:World}{z0:Value}{xs:List (Int×Int)}(hl:Lk w t z0 xs)(hx:xs.length≤800000){Q:Q3}(hQ:mlQ k d P=Q):
 Calls prog 33 #[trp t,.int .i64 k,.agg (nw 9 d),.agg (pnQ P)] w fun e w'=>e=.returned (.tuple #[.agg (pnQ Q),.int .i64 0])∧∃v',RecL w.heap.size w w' t z0 v' (xs++rpx (mnN 4 (bl (oN k)))):=by
 have HG:Hid (∀w,Cg 40 #[.int .i64 k] w (.tuple #[.agg (cuK k),.int .i64 0])):=fun w=>get13_yes k h1 h2 w;have HO:Hid (∀w,Cg 43 #[.int .i64 k,.agg (pnQ P)] w (.bool true)):=fun w=>(show onB k P.1 P.2.1 P.2.2=true from oP)▸on13_yes k h1 h2 _ _ P.2.2 oP.lt.1 oP.lt.2 w;have HB:Hid (∀w,Cg 55 #[.agg (nw 9 d),.agg (nw 9 (oN k))] w (.bool true)):=fun w=>(decide_eq_true ld)▸mbelow_any (Nat.lt_trans ld (oN_bd k)) (oN_bd k) w;have H:Hid (Lk w t z0 xs):=hl;have HP:Hid _:=mpicker_any h1 h2 oP t
 have X:Hid (∀{bm bt b g cap:Nat} {w:World},Pk w t bm bt b g cap (mF k P)→(∀x,x=bm∨x=bt∨x=b∨x=g→¬Ow t z0 x)→Lk w t z0 xs→Calls prog 56 #[.agg (cuK k),.agg (nw 9 d),.func (.func 80) #[] #[.pointer (some ⟨bm,0,none⟩),.pointer (some ⟨bt,0,none⟩)]] w
  fun e w'=>e=.returned (.agg (pnQ Q))∧∃v',RecL w.heap.size w w' t z0 v' (xs++rpx (mnN 4 (bl (oN k))))):=fun L no hl=>hQ▸mprod_any h1 h2 oP ld L no hl hx
 obtain⟨E,Y⟩:=exl (rpx (mnN 4 (bl (oN k))));rw[Y]at X ⊢;clear hl hx Y hQ ld
 go_enter func33,ntmps33
 go_upto_region 1 with fail
 refine gen_w (fun v=>Gr w v∧Vr v (w.heap.size) (nw 9 d)∧Vr v (w.heap.size+1) (pnQ P)∧Vr v (w.heap.size+1+1) (pnt 0 0 false)) ⟨grA,vrA,vrA,vrA⟩ ?_;rintro v0 ⟨G,B,C,A⟩;have L0:w.heap.size+1+1<v0.heap.size:=A.p;refine wp_v false [.c (.int .i64 k),.E (.agg (cuK k)),.E (.agg (cuK k)),.c (.agg (cuK k)),.O,.a,.u,.O] [1] [⟨5,6,78,cu 0 0 0 0 0 0 0 0 0 false,fun _=>cuK k⟩] ⟨.z HG.out,⟨⟩⟩ ⟨.k zCu (.t rfl),⟨⟩⟩ fun I v1 q h1 U=>?_;simp only[fzw,Kw.a];obtain⟨⟨Z,j⟩,-⟩:=U;clear h1;replace G:=G.trans q;replace B:=B.gr q;replace C:=C.gr q;replace A:=A.gr q;clear q
 go_upto_region 2 with fail
 refine wp_wS [.O,.F] [] ⟨⟩ fun aa v2 q h2=>?_;simp only[fzw];clear h2;replace G:=G.trans q;replace B:=B.gr q;replace C:=C.gr q;replace A:=A.gr q;replace j:=j.gr q;clear q
 go_upto_region 4 with fail
 refine wp_wS [.c (.int .i64 k),.c (.agg (pnQ P)),.T,.F] [1,2] ⟨.g 38 0 C rfl,.z HO.out,⟨⟩⟩ fun ab v3 q h4=>?_;simp only[fzw];clear h4;replace G:=G.trans q;replace B:=B.gr q;replace C:=C.gr q;replace A:=A.gr q;replace j:=j.gr q;clear q
 go_upto_region 6 with fail
 refine wp_wS [.N d,.c (pv ((I 5 0).2) 28),.N (oN k),.T,.F] [0,2,3] ⟨.g 25 0 B rfl,.g 25 28 j rfl,.z HB.out,⟨⟩⟩ fun ac J q h6=>?_;simp only[fzw];clear h6;replace G:=G.trans q;replace B:=B.gr q;replace C:=C.gr q;replace A:=A.gr q;replace j:=j.gr q;clear q;have L1:(I 5 0).2<J.heap.size:=j.p;generalize (I 5 0).2=V at *;obtain⟨n,hn⟩:=exl (J.heap.size);have HV:Hid (GbI n w J t z0 z0 xs∧Vr J (w.heap.size) (nw 9 d)∧Vr J (w.heap.size+1) (pnQ P)∧Vr J (w.heap.size+1+1) (pnt 0 0 false)∧Vr J V (cuK k)):=⟨⟨(RecL.refl H.out n).gr G,by omega,by have:=G.below.size;omega⟩,B,C,A,j⟩;clear G B C A j
 go_upto_region 8 with fail
 refine wp_x true [.c (.agg (cuK k)),.c (.agg (nw 9 d)),.c (trp t),.c (.int .i64 k),.c (.agg (pnQ P)),.fk t (Ow t z0) (mF k P),.c (.agg (pnQ Q)),.u,.c (.int .i64 0)] [0,1,4,5] 6 7 (fun v u=>Kp (Ow t z0) v u)
  (fun c v=>∃z,(c=false→z=z0)∧GbI n w v t z0 z (cond c (xs++E) xs)∧Vr v (w.heap.size) (nw 9 d)∧Vr v (w.heap.size+1) (pnQ P)∧Vr v (w.heap.size+1+1) (pnt 0 0 false)∧Vr v V (cuK k))
  (fun _ v=>∃z,GbI n w v t z0 z (xs++E)∧Vr v (w.heap.size) (nw 9 d)∧Vr v (w.heap.size+1) (pnQ P)∧Vr v (w.heap.size+1+1) (pnQ Q)∧Vr v V (cuK k))
  56 (fun x =>#[.agg (cuK k),.agg (nw 9 d),.func (.func 80) #[] #[.pointer (some ⟨(x 5 0).2,0,none⟩),.pointer (some ⟨(x 5 1).2,0,none⟩)]]) 38 (fun _=>pv (w.heap.size+1+1) 0) (fun _=>.agg (pnQ Q)) ⟨z0,fun _=>rfl,HV⟩ ?x1 ?x2 ?x3 ?x4 ⟨fnc,fnc,fnc,fnc,fnc,fnfk,fnc,fnu,fnc,trivial⟩ ?x5
 case x1=>exact fun _ _ _ ⟨z,S,G,B,C,A,D⟩ g=>⟨z,S,G.trans g,B.gr g,C.gr g,A.gr g,D.gr g⟩
 case x2=>
  rintro _ v ⟨z,S,G,B,C,A,D⟩
  have HK:∀u,Gr v u→Calls prog 57 #[trp t,.int .i64 k,.agg (pnQ P)] u (RtW (.fk t (Ow t z0) (mF k P)) u):=fun u hu=>by
   refine(HP.out _).mono ?_;rintro e w' ⟨bm,bt,b,g,cap,rfl,L,hn,hG⟩;exact⟨fun i=>match i with|0=>(none,bm)|_=>(none,bt),rfl,⟨b,g,cap,L,fun x h ho=>by have:=hn x h;have:=H.out.own ho;have:=G.s;have:=G.h;have:=hu.below.size;omega⟩,hG⟩
  refine .cons (.g 78 0 D rfl) ?_;refine .cons (.g 25 0 B rfl) ?_;refine .cons (.g 38 0 C rfl) ?_;exact .cons (.k _ fun yy vv q hh=>HK _ q) .nil
 case x3=>
  rintro x v ⟨z,S,G,B,C,A,D⟩ hy;obtain rfl:=S rfl;obtain⟨b,g,cap,L,W⟩:=hy 5 (by kernel_rfl);refine(X.out L W G.r.lk).mono ?_;rintro e w' ⟨rfl,z2,K⟩;exact⟨fun _=>(none,0),rfl,trivial,⟨z2,(fun h=>by cases h),G.next K,B.kp K.kp (G.no H.out (by omega) (by omega)),C.kp K.kp (G.no H.out (by omega) (by omega)),A.kp K.kp (G.no H.out (by omega) (by omega)),D.kp K.kp (G.no H.out (by omega) (by omega))⟩,K.kp⟩
 case x4=>
  rintro _ v ⟨z,S,G,B,C,A,D⟩ _;have HT:=A.h;have FT:=A.f;exact⟨setBlk v (w.heap.size+1+1) (pnQ Q),by simp[go_sem,exI,HT,FT],z,G.set _ _ (by omega) (G.no H.out (by omega) (by omega)),B.other (by omega),C.other (by omega),A.set (by rw[pnt_size];decide) _,D.other (by omega)⟩
 case x5=>
  rintro _ v ⟨z3,G,B,C,A,D⟩;simp only[fzw,Kw.fk];have hh:=A.h;have HR:=G.r.le (m:=w.heap.size) (by omega)
  go_wp2_with fail
  exact bo2 results33 (rd_pn (by rfl) hh) ⟨rfl,z3,HR⟩
end
end
end Go.Proofs.YtffhepbppiocbadGreat