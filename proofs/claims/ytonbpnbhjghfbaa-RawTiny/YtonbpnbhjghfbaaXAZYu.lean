import Derived.Test.YtonbpnbhjghfbaaXAZX
import Derived.Test.YtonbpnbhjghfbaaXAZB
import Derived.Test.YtonbpnbhjghfbaaXAByt
import Derived.Test.YtonbpnbhjghfbaaXAOf
import Derived.Test.YtonbpnbhjghfbaaXARM
import Derived.Test.YtonbpnbhjghfbaaXARRead
namespace Go.Proofs.Ytonbpnbhjghfbaa
open Go.RowKit Go.Proofs.Try
set_option maxRecDepth 100000
set_option maxHeartbeats 8000000
section
attribute [local go_sem ↓] uz1
attribute [local go_sem] uz2
section
attribute [local go_sem] uz4
attribute [local go_sem ↓] uz5 Go.wp_at_zero Go.wp_at_succ
attribute [local go_sem] uz6
theorem cmpN_lt{a b:Nat}(h:a<b):cmpZ a b<0:=by
 unfold cmpZ;rw[if_pos h]
 decide
theorem cmpN_ge{a b:Nat}(h:¬a<b):¬cmpZ a b<0:=by
 unfold cmpZ;rw[if_neg h]
 split <;> decide
theorem cmpN_no{a b:Nat}(h:¬a<b):0≤cmpZ a b:=by
 have:=cmpN_ge h
 omega
theorem oN_pos{k:Nat}(h1:1≤k)(h2:k≤15):0<oN k:=by
 obtain rfl|rfl|rfl|rfl|rfl|rfl|rfl|rfl|rfl|rfl|rfl|rfl|rfl|rfl|rfl:k=1∨k=2∨k=3∨k=4∨k=5∨k=6∨k=7∨k=8∨k=9∨k=10∨k=11∨k=12∨k=13∨k=14∨k=15:=by omega
 all_goals decide +kernel
theorem rwsize{k:Nat}(w:World):Cg 26 #[.agg (cuK k)] w (.int .i64 (nzB (oN k):Int)):=by
 have i:bl (oN k)≤576:=bl_576 _ (oN_bd k);obtain⟨n,f⟩:=exl (nzB (oN k))
 have j:IntKind.i64.wrap ((bl (oN k):Int)+7)=(bl (oN k):Int)+7:=by rw[IntKind.wrap_i64];omega
 have l:IntKind.i64.wrap (((bl (oN k):Int)+7).tdiv 8)=(n:Int):=tdiv8 (by omega) (by omega) (by rw[←f];unfold nzB;omega);rw[f];clear f i
 go_enter func26,ntmps26
 go_upto_region 1 with fail
 refine gen_w (fun v=>Gr w v∧Vr v (w.heap.size) (cuK k)) ⟨grA,vrA⟩ ?_;rintro B ⟨G,h⟩;refine wp_wS [.c (pv (w.heap.size) 56),.c (.int .i64 (bl (oN k))),.c (.int .i64 ((bl (oN k):Int)+7)),.c (.int .i64 n),.c (.int .i64 n)] [1,2,3] ⟨.o 3 56 h rfl (by exact cu_56 _ _ _ _ _ _ _ _ _ _),.s (.binOp .add 3 (.const (.int .i64 (bl (oN k)))) (.const (.int .i64 7)) 3) rfl fun q d=>by simp[go_sem,exI,j],.s (.binOp .quo 3 (.const (.int .i64 ((bl (oN k):Int)+7))) (.const (.int .i64 8)) 3) rfl fun q d=>by simp[go_sem,exI,l],⟨⟩⟩ fun x C d A=>?_;simp only[fzw];clear A;replace G:=G.trans d;replace h:=h.gr d;clear d
 go_wp2_with fail
 go_ret
 exact⟨rfl,G⟩
theorem rwbelow_0{k r s:Nat}(hr:r<M)(hs:s<M)(h:r<oN k)(h2:s<oN k)(w:World):Cg 24 #[.agg (cuK k),.agg (sgA r s)] w (.bool true):=by
 obtain⟨y,j⟩:=exl (cmpZ r (oN k))
 have A:y<0:=by rw[←j];exact cmpN_lt (by omega)
 have l:Hid (∀w,Cg 37 #[.agg (nw 9 r),.agg (nw 9 (oN k))] w (.int .i64 y)):=fun w=>j▸cmp_any r (oN k) hr (oN_bd k) w;obtain⟨z,q⟩:=exl (cmpZ s (oN k))
 have B:z<0:=by rw[←q];exact cmpN_lt (by omega)
 have x:Hid (∀w,Cg 37 #[.agg (nw 9 s),.agg (nw 9 (oN k))] w (.int .i64 z)):=fun w=>q▸cmp_any s (oN k) hs (oN_bd k) w;clear j q h2 hs h hr
 go_enter func24,ntmps24
 go_upto_region 1 with fail
 refine gen_w (fun v=>Gr w v∧Vr v (w.heap.size) (cuK k)∧Vr v (w.heap.size+1) (sgA r s)) ⟨grA,vrA,vrA⟩ ?_;rintro I ⟨G,f,i⟩;refine wp_wS [.c (pv (w.heap.size+1) 0),.N r,.c (pv (w.heap.size) 28),.N (oN k),.c (.int .i64 y),.T,.T,.c (pv (w.heap.size+1) 9),.N s,.c (pv (w.heap.size) 28),.N (oN k),.c (.int .i64 z),.T,.T,.T] [1,3,4,5,8,10,11,12] ⟨.g 25 0 i rfl,.g 25 28 f rfl,.z l.out,.s (.binOp .lss 3 (.const (.int .i64 y)) (.const (.int .i64 0)) 3) rfl fun C d=>by simp[go_sem,exI,A],.g 25 9 i rfl,.g 25 28 f rfl,.z x.out,.s (.binOp .lss 3 (.const (.int .i64 z)) (.const (.int .i64 0)) 3) rfl fun C d=>by simp[go_sem,exI,B],⟨⟩⟩ fun D J d H=>?_;simp only[fzw];clear H;replace G:=G.trans d;replace f:=f.gr d;replace i:=i.gr d;clear d
 go_wp2_with fail
 go_ret
 exact⟨rfl,G⟩
theorem rwbelow_1{k r s:Nat}(hr:r<M)(hs:s<M)(h:r<oN k)(h2:¬s<oN k)(w:World):Cg 24 #[.agg (cuK k),.agg (sgA r s)] w (.bool false):=by
 obtain⟨y,j⟩:=exl (cmpZ r (oN k))
 have A:y<0:=by rw[←j];exact cmpN_lt (by omega)
 have l:Hid (∀w,Cg 37 #[.agg (nw 9 r),.agg (nw 9 (oN k))] w (.int .i64 y)):=fun w=>j▸cmp_any r (oN k) hr (oN_bd k) w;obtain⟨z,q⟩:=exl (cmpZ s (oN k))
 have B:¬z<0:=by rw[←q];exact cmpN_ge (by omega)
 have x:Hid (∀w,Cg 37 #[.agg (nw 9 s),.agg (nw 9 (oN k))] w (.int .i64 z)):=fun w=>q▸cmp_any s (oN k) hs (oN_bd k) w;clear j q h2 hs h hr
 go_enter func24,ntmps24
 go_upto_region 1 with fail
 refine gen_w (fun v=>Gr w v∧Vr v (w.heap.size) (cuK k)∧Vr v (w.heap.size+1) (sgA r s)) ⟨grA,vrA,vrA⟩ ?_;rintro I ⟨G,f,i⟩;refine wp_wS [.c (pv (w.heap.size+1) 0),.N r,.c (pv (w.heap.size) 28),.N (oN k),.c (.int .i64 y),.T,.T,.c (pv (w.heap.size+1) 9),.N s,.c (pv (w.heap.size) 28),.N (oN k),.c (.int .i64 z),.F,.F,.F] [1,3,4,5,8,10,11,12] ⟨.g 25 0 i rfl,.g 25 28 f rfl,.z l.out,.s (.binOp .lss 3 (.const (.int .i64 y)) (.const (.int .i64 0)) 3) rfl fun C d=>by simp[go_sem,exI,A],.g 25 9 i rfl,.g 25 28 f rfl,.z x.out,.s (.binOp .lss 3 (.const (.int .i64 z)) (.const (.int .i64 0)) 3) rfl fun C d=>by simp[go_sem,exI,B],⟨⟩⟩ fun D J d H=>?_;simp only[fzw];clear H;replace G:=G.trans d;replace f:=f.gr d;replace i:=i.gr d;clear d
 go_wp2_with fail
 go_ret
 exact⟨rfl,G⟩
theorem rwbelow_2{k r s:Nat}(hr:r<M)(h:¬r<oN k)(w:World):Cg 24 #[.agg (cuK k),.agg (sgA r s)] w (.bool false):=by
 obtain⟨y,f⟩:=exl (cmpZ r (oN k))
 have q:¬y<0:=by rw[←f];exact cmpN_ge (by omega)
 have i:Hid (∀w,Cg 37 #[.agg (nw 9 r),.agg (nw 9 (oN k))] w (.int .i64 y)):=fun w=>f▸cmp_any r (oN k) hr (oN_bd k) w;clear f h hr
 go_enter func24,ntmps24
 go_upto_region 1 with fail
 refine gen_w (fun v=>Gr w v∧Vr v (w.heap.size) (cuK k)∧Vr v (w.heap.size+1) (sgA r s)) ⟨grA,vrA,vrA⟩ ?_;rintro B ⟨G,j,l⟩;refine wp_wS [.c (pv (w.heap.size+1) 0),.N r,.c (pv (w.heap.size) 28),.N (oN k),.c (.int .i64 y),.F,.F,.u,.u,.u,.u,.u,.u,.F,.F] [1,3,4,5] ⟨.g 25 0 l rfl,.g 25 28 j rfl,.z i.out,.s (.binOp .lss 3 (.const (.int .i64 y)) (.const (.int .i64 0)) 3) rfl fun C d=>by simp[go_sem,exI,q],⟨⟩⟩ fun x D d A=>?_;simp only[fzw];clear A;replace G:=G.trans d;replace j:=j.gr d;replace l:=l.gr d;clear d
 go_wp2_with fail
 go_ret
 exact⟨rfl,G⟩
theorem rwbelow{k r s:Nat}{b:Bool}(hr:r<M)(hs:s<M)(hb:decide (r<oN k∧s<oN k)=b)(w:World):Cg 24 #[.agg (cuK k),.agg (sgA r s)] w (.bool b):=by
 subst hb
 by_cases h:r<oN k
 ·by_cases h2:s<oN k
  ·rw[decide_eq_true ⟨h,h2⟩];exact rwbelow_0 hr hs h h2 w
  ·rw[decide_eq_false fun e=>h2 e.2];exact rwbelow_1 hr hs h h2 w
 ·rw[decide_eq_false fun e=>h e.1];exact rwbelow_2 hr h w
theorem rwhalf{k a:Nat}(h:a≤oN k){t:ByteArray}(et:⟨(bs (nzB (oN k)) a).toArray⟩=t)(w:World):Cg 25 #[.agg (cuK k),.agg (nw 9 a)] w (.string t):=by
 have f:=nzB_le (oN_bd k);have i:=nzB_bl h;obtain⟨n,j⟩:=exl (nzB (oN k));rw[j]at f i et;have x:Hid (∀w,Cg 26 #[.agg (cuK k)] w (.int .i64 n)):=fun w=>j▸rwsize w;have A:Hid (∀w,Cg 38 #[.agg (nw 9 a),.int .i64 n] w (.tuple #[.string t,.int .i64 0])):=fun w=>et▸bytes_any a n (Nat.lt_of_le_of_lt h (oN_bd k)) f i w;clear et h j f i
 go_enter func25,ntmps25
 go_upto_region 1 with fail
 refine gen_w (fun v=>Gr w v∧Vr v (w.heap.size) (cuK k)∧Vr v (w.heap.size+1) (nw 9 a)) ⟨grA,vrA,vrA⟩ ?_;rintro D ⟨G,l,q⟩;refine wp_w [.N a,.c (.agg (cuK k)),.c (.int .i64 n),.E (.string t),.E (.string t),.c (.string t),.O,.c (.string t),.O] [0,1,2,3] ⟨.g 25 0 q rfl,.g 65 0 l rfl,.z x.out,.z A.out,⟨⟩⟩ fun B H d C=>?_;simp only[fzw];clear C;replace G:=G.trans d;replace l:=l.gr d;replace q:=q.gr d;clear d
 go_wp2_with fail
 go_ret
 exact⟨rfl,G⟩
theorem rwnum{s:ByteArray}(h:s.size≤72){x:Nat}(hx:bn s.data.toList=x)(w:World):Cg 27 #[.string s] w (.agg (nw 9 x)):=by
 have C:Hid (∀w,Cg 39 #[.string s] w (.tuple #[.agg (nw 9 x),.int .i64 0])):=fun w=>hx▸natof_any s h w;clear h hx
 go_enter func27,ntmps27
 go_upto_region 1 with fail
 refine gen_w (fun v=>Gr w v∧Vr v (w.heap.size) (nw 9 0)) ⟨grA,vrA⟩ ?_;rintro D ⟨G,j⟩;refine wp_v false [.c (.string s),.E (.agg (nw 9 x)),.E (.agg (nw 9 x)),.N x,.O,.a,.u,.O] [1] [⟨5,6,25,nw 9 0,fun _=>nw 9 x⟩] ⟨.z C.out,⟨⟩⟩ ⟨.k zNat (.t rfl),⟨⟩⟩ fun l H i I q=>?_;simp only[fzw,Kw.a];obtain⟨⟨A,d⟩,-⟩:(D.heap.size≤(l 5 0).2∧Vr H (l 5 0).2 (nw 9 x))∧True:=q;clear I;replace G:=G.trans i;replace j:=j.gr i;clear i
 go_upto_region 2 with fail
 refine wp_wTS 1 [.N x] [0] ⟨.g 25 0 d rfl,⟨⟩⟩ (.s 25 (fun J=>pv (w.heap.size) 0) (fun J=>.agg (nw 9 x)) fun K L i P=>?_);have B:=(j.gr i).h;have Q:=(j.gr i).f;refine⟨setBlk L (w.heap.size) (nw 9 x),by simp[go_sem,exI,B,Q],?_⟩;simp only[fzw];clear P;replace G:=G.trans i;replace j:=j.gr i;replace d:=d.gr i;clear i
 go_wp2_with fail
 exact bo1 results27 (rd_nat (by rfl) (blk_setBlk _ _ _ (by rw[B,nw_size];decide))) ⟨rfl,gr_setNew G (by omega)⟩
abbrev uz7:=And.intro @bsl_is<|And.intro @loadC_is<|And.intro @storeC_is<|And.intro @loadSg_is<|And.intro @storeSg_is<|And.intro @zvSg_is<|And.intro @buildSg_is<|And.intro @loadCu_is<|And.intro @storeCu_is @zvCu_is
abbrev uz8:=And.intro @loadC<|And.intro @storeC0<|And.intro @storeCr<|And.intro @crA_size<|And.intro @loadSg<|And.intro @storeSg<|And.intro @zvSg<|And.intro @sgA_size<|And.intro @buildSg0<|And.intro @buildSg1<|And.intro @buildSg2<|And.intro @loadSR<|And.intro @loadSS<|And.intro @sgA_R<|And.intro @sgA_S<|And.intro @loadCu<|And.intro @storeCu<|And.intro @zvCu<|And.intro @cu_size<|And.intro @loadCN<|And.intro @cu_N<|And.intro @frz_setBlk<|And.intro @blk_setBlk<|And.intro @setBlk_setBlk @blk_other
end
section
attribute [local go_sem] uz4
attribute [local go_sem ↓] uz5 Go.wp_at_zero Go.wp_at_succ
attribute [local go_sem] uz6
theorem rwput_no{id:Int}(h:id<1∨15<id)(r s:Nat)(w:World):Cg 8 #[.int .i64 id,.agg (sgA r s)] w (.tuple #[.string ⟨#[]⟩,.int .i64 2300]):=by
 have x:Hid (∀w,Cg 23 #[.int .i64 id] w (.tuple #[.agg (cu 0 0 0 0 0 0 0 0 0 false),.int .i64 1300])):=fun w=>get13_no id h w;clear h
 go_enter func8,ntmps8
 go_upto_region 1 with fail
 refine gen_w (fun v=>Gr w v∧Vr v (w.heap.size) (sgA r s)) ⟨grA,vrA⟩ ?_;rintro A ⟨G,j⟩;refine wp_v false [.c (.int .i64 id),.c (.tuple #[.agg (cu 0 0 0 0 0 0 0 0 0 false),.int .i64 1300]),.c (.tuple #[.agg (cu 0 0 0 0 0 0 0 0 0 false),.int .i64 1300]),.c (.agg (cu 0 0 0 0 0 0 0 0 0 false)),.c (.int .i64 1300),.a,.u,.c (.int .i64 1300)] [1] [⟨5,6,65,cu 0 0 0 0 0 0 0 0 0 false,fun _=>cu 0 0 0 0 0 0 0 0 0 false⟩] ⟨.z x.out,⟨⟩⟩ ⟨.k zCu (.t rfl),⟨⟩⟩ fun i B d C l=>?_;simp only[fzw,Kw.a];obtain⟨⟨q,f⟩,-⟩:(A.heap.size≤(i 5 0).2∧Vr B (i 5 0).2 (cu 0 0 0 0 0 0 0 0 0 false))∧True:=l;clear C;replace G:=G.trans d;replace j:=j.gr d;clear d
 go_upto_region 2 with fail
 refine wp_wS [.c (.int .i64 1300),.T] [] ⟨⟩ fun D I d H=>?_;simp only[fzw];clear H;replace G:=G.trans d;replace j:=j.gr d;replace f:=f.gr d;clear d
 go_wp2_with fail
 exact bo2 results8 (rd_tmp (by rfl)) ⟨rfl,G⟩
theorem rwput_off{k:Nat}(h1:1≤k)(h2:k≤15){r s:Nat}(hr:r<M)(hs:s<M)(h:¬(r<oN k∧s<oN k))(w:World):Cg 8 #[.int .i64 k,.agg (sgA r s)] w (.tuple #[.string ⟨#[]⟩,.int .i64 2302]):=by
 have x:Hid (∀w,Cg 23 #[.int .i64 k] w (.tuple #[.agg (cuK k),.int .i64 0])):=fun w=>get13_yes k h1 h2 w;have A:Hid (∀w,Cg 24 #[.agg (cuK k),.agg (sgA r s)] w (.bool false)):=fun w=>rwbelow hr hs (decide_eq_false h) w;clear h hr hs h1 h2
 go_enter func8,ntmps8
 go_upto_region 1 with fail
 refine gen_w (fun v=>Gr w v∧Vr v (w.heap.size) (sgA r s)) ⟨grA,vrA⟩ ?_;rintro B ⟨G,i⟩;refine wp_v false [.c (.int .i64 k),.E (.agg (cuK k)),.E (.agg (cuK k)),.c (.agg (cuK k)),.O,.a,.u,.O] [1] [⟨5,6,65,cu 0 0 0 0 0 0 0 0 0 false,fun _=>cuK k⟩] ⟨.z x.out,⟨⟩⟩ ⟨.k zCu (.t rfl),⟨⟩⟩ fun j C f h1 l=>?_;simp only[fzw,Kw.a];obtain⟨⟨q,d⟩,-⟩:(B.heap.size≤(j 5 0).2∧Vr C (j 5 0).2 (cuK k))∧True:=l;clear h1;replace G:=G.trans f;replace i:=i.gr f;clear f
 go_upto_region 2 with fail
 refine wp_wS [.O,.F] [] ⟨⟩ fun D J f h2=>?_;simp only[fzw];clear h2;replace G:=G.trans f;replace i:=i.gr f;replace d:=d.gr f;clear f
 go_upto_region 4 with fail
 refine wp_wS [.c (.agg (cuK k)),.c (.agg (sgA r s)),.F,.T] [0,1,2] ⟨.g 65 0 d rfl,.g 27 0 i rfl,.z A.out,⟨⟩⟩ fun H K f I=>?_;simp only[fzw];clear I;replace G:=G.trans f;replace i:=i.gr f;replace d:=d.gr f;clear f
 go_wp2_with fail
 exact bo2 results8 (rd_tmp (by rfl)) ⟨rfl,G⟩
theorem rwput_yes{k:Nat}(h1:1≤k)(h2:k≤15){r s:Nat}(hr:r<oN k)(hs:s<oN k)(w:World):Cg 8 #[.int .i64 k,.agg (sgA r s)] w (.tuple #[.string ⟨(rawL (oN k) r s).toArray⟩,.int .i64 0]):=by
 have C:Hid (∀w,Cg 23 #[.int .i64 k] w (.tuple #[.agg (cuK k),.int .i64 0])):=fun w=>get13_yes k h1 h2 w;have D:Hid (∀w,Cg 24 #[.agg (cuK k),.agg (sgA r s)] w (.bool true)):=fun w=>rwbelow (Nat.lt_trans hr (oN_bd k)) (Nat.lt_trans hs (oN_bd k)) (decide_eq_true ⟨hr,hs⟩) w;obtain⟨p,j⟩:∃t:ByteArray,⟨(bs (nzB (oN k)) r).toArray⟩=t:=⟨_,rfl⟩;obtain⟨q,l⟩:∃t:ByteArray,⟨(bs (nzB (oN k)) s).toArray⟩=t:=⟨_,rfl⟩
 have A:(⟨(rawL (oN k) r s).toArray⟩:ByteArray)=p++q:=by rw[←j,←l,app_tx];rfl
 have H:p.size+q.size≤9223372036854775807:=by
  have:=nzB_le (oN_bd k);rw[←j,←l,sz_tx,sz_tx,bs_length,bs_length]
  omega
 rw[A];have I:Hid (∀w,Cg 25 #[.agg (cuK k),.agg (nw 9 r)] w (.string p)):=fun w=>rwhalf (Nat.le_of_lt hr) j w;have J:Hid (∀w,Cg 25 #[.agg (cuK k),.agg (nw 9 s)] w (.string q)):=fun w=>rwhalf (Nat.le_of_lt hs) l w;clear A j l hr hs h1 h2
 go_enter func8,ntmps8
 go_upto_region 1 with fail
 refine gen_w (fun v=>Gr w v∧Vr v (w.heap.size) (sgA r s)) ⟨grA,vrA⟩ ?_;rintro K ⟨G,h⟩;refine wp_v false [.c (.int .i64 k),.E (.agg (cuK k)),.E (.agg (cuK k)),.c (.agg (cuK k)),.O,.a,.u,.O] [1] [⟨5,6,65,cu 0 0 0 0 0 0 0 0 0 false,fun _=>cuK k⟩] ⟨.z C.out,⟨⟩⟩ ⟨.k zCu (.t rfl),⟨⟩⟩ fun i L f h1 x=>?_;simp only[fzw,Kw.a];obtain⟨⟨B,d⟩,-⟩:(K.heap.size≤(i 5 0).2∧Vr L (i 5 0).2 (cuK k))∧True:=x;clear h1;replace G:=G.trans f;replace h:=h.gr f;clear f
 go_upto_region 2 with fail
 refine wp_wS [.O,.F] [] ⟨⟩ fun P V f h2=>?_;simp only[fzw];clear h2;replace G:=G.trans f;replace h:=h.gr f;replace d:=d.gr f;clear f
 go_upto_region 4 with fail
 refine wp_wS [.c (.agg (cuK k)),.c (.agg (sgA r s)),.T,.F] [0,1,2] ⟨.g 65 0 d rfl,.g 27 0 h rfl,.z D.out,⟨⟩⟩ fun Q W f R=>?_;simp only[fzw];clear R;replace G:=G.trans f;replace h:=h.gr f;replace d:=d.gr f;clear f
 go_upto_region 6 with fail
 refine wp_w [.c (.agg (cuK k)),.c (pv (w.heap.size) 0),.N r,.c (.string p),.c (.agg (cuK k)),.c (pv (w.heap.size) 9),.N s,.c (.string q),.c (.string (p++q)),.c (.string (p++q)),.O] [0,2,3,4,6,7,8] ⟨.g 65 0 d rfl,.g 25 0 h rfl,.z I.out,.g 65 0 d rfl,.g 25 9 h rfl,.z J.out,.s (.binOp .add 9 (.const (.string p)) (.const (.string q)) 9) rfl fun X f=>by simp[go_sem,exI,H],⟨⟩⟩ fun S Y f U=>?_;simp only[fzw];clear U;replace G:=G.trans f;replace h:=h.gr f;replace d:=d.gr f;clear f
 go_wp2_with fail
 exact bo2 results8 (rd_tmp (by rfl)) ⟨rfl,G⟩
theorem rwput{k:Nat}(h1:1≤k)(h2:k≤15){r s:Nat}(hr:r<M)(hs:s<M)(w:World):Cg 8 #[.int .i64 k,.agg (sgA r s)] w (.tuple #[.string ⟨(rawP (oN k) r s).1.toArray⟩,.int .i64 (rawP (oN k) r s).2]):=by
 by_cases h:r<oN k∧s<oN k
 ·rw[rawP,if_pos h];exact rwput_yes h1 h2 h.1 h.2 w
 ·rw[rawP,if_neg h];exact rwput_off h1 h2 hr hs h w
theorem bd_M{n x:Nat}(h:x<2^(8*n))(hn:n≤72):x<M:=by
 obtain⟨K,d⟩:=exl (64*9)
 have e:M=2^K:=by show pw 9=_;unfold pw;rw[d]
 rw[e];exact Nat.lt_of_lt_of_le h (Nat.pow_le_pow_right (by decide) (by omega))
theorem rwget_no{id:Int}(h:id<1∨15<id)(t:ByteArray)(w:World):Cg 9 #[.int .i64 id,.string t] w (.tuple #[.agg (sgA 0 0),.int .i64 2300]):=by
 have x:Hid (∀w,Cg 23 #[.int .i64 id] w (.tuple #[.agg (cu 0 0 0 0 0 0 0 0 0 false),.int .i64 1300])):=fun w=>get13_no id h w;clear h
 go_enter func9,ntmps9
 go_upto_region 1 with fail
 refine gen_w (fun v=>Gr w v∧Vr v (w.heap.size) (sgA 0 0)) ⟨grA,vrA⟩ ?_;rintro A ⟨G,i⟩;refine wp_v false [.c (.int .i64 id),.c (.tuple #[.agg (cu 0 0 0 0 0 0 0 0 0 false),.int .i64 1300]),.c (.tuple #[.agg (cu 0 0 0 0 0 0 0 0 0 false),.int .i64 1300]),.c (.agg (cu 0 0 0 0 0 0 0 0 0 false)),.c (.int .i64 1300),.a,.u,.c (.int .i64 1300)] [1] [⟨5,6,65,cu 0 0 0 0 0 0 0 0 0 false,fun _=>cu 0 0 0 0 0 0 0 0 0 false⟩] ⟨.z x.out,⟨⟩⟩ ⟨.k zCu (.t rfl),⟨⟩⟩ fun j B d C l=>?_;simp only[fzw,Kw.a];obtain⟨⟨q,f⟩,-⟩:(A.heap.size≤(j 5 0).2∧Vr B (j 5 0).2 (cu 0 0 0 0 0 0 0 0 0 false))∧True:=l;clear C;replace G:=G.trans d;replace i:=i.gr d;clear d
 go_upto_region 2 with fail
 refine wp_wS [.c (.int .i64 1300),.T] [] ⟨⟩ fun D L d H=>?_;simp only[fzw];clear H;replace G:=G.trans d;replace i:=i.gr d;replace f:=f.gr d;clear d;have⟨I,J,K⟩:=i;clear i
 go_wp2_with fail
 exact bo2 results9 (rd_sg (by rfl) (by simp[go_sem, *])) ⟨rfl,by exact grB⟩
theorem rwget_len{k:Nat}(h1:1≤k)(h2:k≤15){t:ByteArray}(h:t.size≠2*nzB (oN k))(w:World):Cg 9 #[.int .i64 k,.string t] w (.tuple #[.agg (sgA 0 0),.int .i64 2301]):=by
 have B:Hid (∀w,Cg 23 #[.int .i64 k] w (.tuple #[.agg (cuK k),.int .i64 0])):=fun w=>get13_yes k h1 h2 w;have x:=nzB_le (oN_bd k);obtain⟨n,l⟩:=exl (nzB (oN k));rw[l]at h x;have C:Hid (∀w,Cg 26 #[.agg (cuK k)] w (.int .i64 n)):=fun w=>l▸rwsize w;obtain⟨m,D⟩:=exl (2*n)
 have H:IntKind.i64.wrap (2*(n:Int))=(m:Int):=by rw[IntKind.wrap_i64];omega
 have I:((t.size:Int) != (m:Int))=true:=by rw[bne_iff_ne];omega
 clear l D h x h1 h2
 go_enter func9,ntmps9
 go_upto_region 1 with fail
 refine gen_w (fun v=>Gr w v∧Vr v (w.heap.size) (sgA 0 0)) ⟨grA,vrA⟩ ?_;rintro J ⟨G,i⟩;refine wp_v false [.c (.int .i64 k),.E (.agg (cuK k)),.E (.agg (cuK k)),.c (.agg (cuK k)),.O,.a,.u,.O] [1] [⟨5,6,65,cu 0 0 0 0 0 0 0 0 0 false,fun _=>cuK k⟩] ⟨.z B.out,⟨⟩⟩ ⟨.k zCu (.t rfl),⟨⟩⟩ fun j K f h1 q=>?_;simp only[fzw,Kw.a];obtain⟨⟨A,d⟩,-⟩:(J.heap.size≤(j 5 0).2∧Vr K (j 5 0).2 (cuK k))∧True:=q;clear h1;replace G:=G.trans f;replace i:=i.gr f;clear f
 go_upto_region 2 with fail
 refine wp_wS [.O,.F] [] ⟨⟩ fun L Y f h2=>?_;simp only[fzw];clear h2;replace G:=G.trans f;replace i:=i.gr f;replace d:=d.gr f;clear f
 go_upto_region 4 with fail
 refine wp_wS [.c (.agg (cuK k)),.c (.int .i64 n),.c (.int .i64 n)] [0,1] ⟨.g 65 0 d rfl,.z C.out,⟨⟩⟩ fun P Z f Q=>?_;simp only[fzw];clear Q;replace G:=G.trans f;replace i:=i.gr f;replace d:=d.gr f;clear f
 go_upto_region 5 with fail
 refine wp_wS [.c (.string t),.c (.int .i64 (t.size:Int)),.c (.int .i64 n),.c (.int .i64 m),.T] [3,4] ⟨.s (.binOp .mul 3 (.const (.int .i64 2)) (.const (.int .i64 n)) 3) rfl fun R f=>by simp[go_sem,exI,H],.s (.binOp .neq 3 (.const (.int .i64 (t.size:Int))) (.const (.int .i64 m)) 3) rfl fun R f=>by simp[go_sem,exI,I],⟨⟩⟩ fun S v4 f U=>?_;simp only[fzw];clear U;replace G:=G.trans f;replace i:=i.gr f;replace d:=d.gr f;clear f;have⟨V,W,X⟩:=i;clear i
 go_wp2_with fail
 exact bo2 results9 (rd_sg (by rfl) (by simp[go_sem, *])) ⟨rfl,by exact grB⟩
theorem rwget_off{k:Nat}(h1:1≤k)(h2:k≤15){t:ByteArray}(h:t.size=2*nzB (oN k)){r s:Nat}(er:bn (t.data.toList.take (nzB (oN k)))=r)(es:bn (t.data.toList.drop (nzB (oN k)))=s)(hb:¬(r<oN k∧s<oN k))(w:World):Cg 9 #[.int .i64 k,.string t] w (.tuple #[.agg (sgA 0 0),.int .i64 2302]):=by
 have X:Hid (∀w,Cg 23 #[.int .i64 k] w (.tuple #[.agg (cuK k),.int .i64 0])):=fun w=>get13_yes k h1 h2 w;have A:=nzB_le (oN_bd k);obtain⟨n,C⟩:=exl (nzB (oN k));rw[C]at h A er es;have Y:Hid (∀w,Cg 26 #[.agg (cuK k)] w (.int .i64 n)):=fun w=>C▸rwsize w;obtain⟨m,Z⟩:=exl (2*n)
 have w1:IntKind.i64.wrap (2*(n:Int))=(m:Int):=by rw[IntKind.wrap_i64];omega
 have hl:((t.size:Int) != (m:Int))=false:=by rw[bne_eq_false_iff_eq];omega
 have D:t.data.toList.length=t.size:=rfl;obtain⟨u,eu⟩:∃x:ByteArray,⟨(t.data.toList.take n).toArray⟩=x:=⟨_,rfl⟩;obtain⟨v,B⟩:∃x:ByteArray,⟨(t.data.toList.drop n).toArray⟩=x:=⟨_,rfl⟩;have P:=bn_bd n (t.data.toList.take n) (by rw[List.length_take];omega);have Q:=bn_bd n (t.data.toList.drop n) (by rw[List.length_drop];omega);have R:r<M:=er▸bd_M P A;have S:s<M:=es▸bd_M Q A
 have hu:∀w,(Instr.slice 9 (.string t) none (some (.int .i64 n)) none).run prog w=.ok (.string u) w:=fun w=>by
  have:=slT_lo t n (by omega) w
  rwa [show t.extract 0 n=u by rw[←eu];exact(ex_tx t.data.toList 0 n).trans (by rw[List.drop_zero,Nat.sub_zero])]at this
 have hv:∀w,(Instr.slice 9 (.string t) (some (.int .i64 n)) none none).run prog w=.ok (.string v) w:=fun w=>by
  have:=slT_hi t n (by omega) w
  rwa [show t.extract n t.size=v by rw[←B];exact(ex_tx t.data.toList n t.size).trans (by rw[List.take_of_length_le (by rw[List.length_drop];omega)])]at this
 have H:Hid (∀w,Cg 27 #[.string u] w (.agg (nw 9 r))):=fun w=>rwnum (by rw[←eu,sz_tx,List.length_take];omega) (by rw[←eu];exact er) w;have I:Hid (∀w,Cg 27 #[.string v] w (.agg (nw 9 s))):=fun w=>rwnum (by rw[←B,sz_tx,List.length_drop];omega) (by rw[←B];exact es) w;have HB:Hid (∀w,Cg 24 #[.agg (cuK k),.agg (sgA r s)] w (.bool false)):=fun w=>rwbelow R S (decide_eq_false hb) w;clear C Z h A h1 h2 D eu B P Q R S er es hb
 go_enter func9,ntmps9
 go_upto_region 1 with fail
 refine gen_w (fun v=>Gr w v∧Vr v (w.heap.size) (sgA 0 0)) ⟨grA,vrA⟩ ?_;rintro v0 ⟨G,i⟩;refine wp_v false [.c (.int .i64 k),.E (.agg (cuK k)),.E (.agg (cuK k)),.c (.agg (cuK k)),.O,.a,.u,.O] [1] [⟨5,6,65,cu 0 0 0 0 0 0 0 0 0 false,fun _=>cuK k⟩] ⟨.z X.out,⟨⟩⟩ ⟨.k zCu (.t rfl),⟨⟩⟩ fun l v1 f h1 J=>?_;simp only[fzw,Kw.a];obtain⟨⟨U,d⟩,-⟩:(v0.heap.size≤(l 5 0).2∧Vr v1 (l 5 0).2 (cuK k))∧True:=J;clear h1;replace G:=G.trans f;replace i:=i.gr f;clear f
 go_upto_region 2 with fail
 refine wp_wS [.O,.F] [] ⟨⟩ fun aa v2 f h2=>?_;simp only[fzw];clear h2;replace G:=G.trans f;replace i:=i.gr f;replace d:=d.gr f;clear f
 go_upto_region 4 with fail
 refine wp_wS [.c (.agg (cuK k)),.c (.int .i64 n),.c (.int .i64 n)] [0,1] ⟨.g 65 0 d rfl,.z Y.out,⟨⟩⟩ fun ab v3 f h4=>?_;simp only[fzw];clear h4;replace G:=G.trans f;replace i:=i.gr f;replace d:=d.gr f;clear f
 go_upto_region 5 with fail
 refine wp_wS [.c (.string t),.c (.int .i64 (t.size:Int)),.c (.int .i64 n),.c (.int .i64 m),.F] [3,4] ⟨.s (.binOp .mul 3 (.const (.int .i64 2)) (.const (.int .i64 n)) 3) rfl fun K f=>by simp[go_sem,exI,w1],.s (.binOp .neq 3 (.const (.int .i64 (t.size:Int))) (.const (.int .i64 m)) 3) rfl fun K f=>by simp[go_sem,exI,hl],⟨⟩⟩ fun ac V f h5=>?_;simp only[fzw];clear h5;replace G:=G.trans f;replace i:=i.gr f;replace d:=d.gr f;clear f;have L0:w.heap.size<V.heap.size:=i.p
 go_upto_region 7 with fail
 refine wp_v true [.c (.string t),.c (.int .i64 n),.c (.string u),.N r,.c (.string t),.c (.int .i64 n),.c (.string v),.N s,.c (.agg (sgA r s)),.a,.u] [2,3,6,7] [⟨9,10,27,sgA 0 0,fun _=>sgA r s⟩] ⟨.s (.slice 9 (.const (.string t)) none (some (.const (.int .i64 n))) none) rfl fun K f=>by simp[go_sem,exI,hu],.z H.out,.s (.slice 9 (.const (.string t)) (some (.const (.int .i64 n))) none none) rfl fun K f=>by simp[go_sem,exI,hv],.z I.out,⟨⟩⟩ ⟨.k zSg (.t rfl),⟨⟩⟩ fun q v5 f h7 L=>?_;simp only[fzw,Kw.a];obtain⟨⟨W,j⟩,-⟩:(V.heap.size≤(q 9 0).2∧Vr v5 (q 9 0).2 (sgA r s))∧True:=L;clear h7;replace G:=G.trans f;replace i:=i.gr f;replace d:=d.gr f;clear f
 go_upto_region 8 with fail
 refine wp_wS [.c (.agg (cuK k)),.c (.agg (sgA r s)),.F,.T] [0,1,2] ⟨.g 65 0 d rfl,.g 27 0 j rfl,.z HB.out,⟨⟩⟩ fun ad v6 f h8=>?_;simp only[fzw];clear h8;replace G:=G.trans f;replace i:=i.gr f;replace d:=d.gr f;replace j:=j.gr f;clear f;have⟨ae,af,ag⟩:=i;clear i
 go_wp2_with fail
 exact bo2 results9 (rd_sg (by rfl) (by simp[go_sem, *])) ⟨rfl,by exact grB⟩
theorem rwget_yes{k:Nat}(h1:1≤k)(h2:k≤15){t:ByteArray}(h:t.size=2*nzB (oN k)){r s:Nat}(er:bn (t.data.toList.take (nzB (oN k)))=r)(es:bn (t.data.toList.drop (nzB (oN k)))=s)(hb:(r<oN k∧s<oN k))(w:World):Cg 9 #[.int .i64 k,.string t] w (.tuple #[.agg (sgA r s),.int .i64 0]):=by
 have X:Hid (∀w,Cg 23 #[.int .i64 k] w (.tuple #[.agg (cuK k),.int .i64 0])):=fun w=>get13_yes k h1 h2 w;have A:=nzB_le (oN_bd k);obtain⟨n,C⟩:=exl (nzB (oN k));rw[C]at h A er es;have Y:Hid (∀w,Cg 26 #[.agg (cuK k)] w (.int .i64 n)):=fun w=>C▸rwsize w;obtain⟨m,Z⟩:=exl (2*n)
 have w1:IntKind.i64.wrap (2*(n:Int))=(m:Int):=by rw[IntKind.wrap_i64];omega
 have hl:((t.size:Int) != (m:Int))=false:=by rw[bne_eq_false_iff_eq];omega
 have D:t.data.toList.length=t.size:=rfl;obtain⟨u,eu⟩:∃x:ByteArray,⟨(t.data.toList.take n).toArray⟩=x:=⟨_,rfl⟩;obtain⟨v,B⟩:∃x:ByteArray,⟨(t.data.toList.drop n).toArray⟩=x:=⟨_,rfl⟩;have P:=bn_bd n (t.data.toList.take n) (by rw[List.length_take];omega);have Q:=bn_bd n (t.data.toList.drop n) (by rw[List.length_drop];omega);have R:r<M:=er▸bd_M P A;have S:s<M:=es▸bd_M Q A
 have hu:∀w,(Instr.slice 9 (.string t) none (some (.int .i64 n)) none).run prog w=.ok (.string u) w:=fun w=>by
  have:=slT_lo t n (by omega) w
  rwa [show t.extract 0 n=u by rw[←eu];exact(ex_tx t.data.toList 0 n).trans (by rw[List.drop_zero,Nat.sub_zero])]at this
 have hv:∀w,(Instr.slice 9 (.string t) (some (.int .i64 n)) none none).run prog w=.ok (.string v) w:=fun w=>by
  have:=slT_hi t n (by omega) w
  rwa [show t.extract n t.size=v by rw[←B];exact(ex_tx t.data.toList n t.size).trans (by rw[List.take_of_length_le (by rw[List.length_drop];omega)])]at this
 have H:Hid (∀w,Cg 27 #[.string u] w (.agg (nw 9 r))):=fun w=>rwnum (by rw[←eu,sz_tx,List.length_take];omega) (by rw[←eu];exact er) w;have I:Hid (∀w,Cg 27 #[.string v] w (.agg (nw 9 s))):=fun w=>rwnum (by rw[←B,sz_tx,List.length_drop];omega) (by rw[←B];exact es) w;have HB:Hid (∀w,Cg 24 #[.agg (cuK k),.agg (sgA r s)] w (.bool true)):=fun w=>rwbelow R S (decide_eq_true hb) w;clear C Z h A h1 h2 D eu B P Q R S er es hb
 go_enter func9,ntmps9
 go_upto_region 1 with fail
 refine gen_w (fun v=>Gr w v∧Vr v (w.heap.size) (sgA 0 0)) ⟨grA,vrA⟩ ?_;rintro v0 ⟨G,j⟩;refine wp_v false [.c (.int .i64 k),.E (.agg (cuK k)),.E (.agg (cuK k)),.c (.agg (cuK k)),.O,.a,.u,.O] [1] [⟨5,6,65,cu 0 0 0 0 0 0 0 0 0 false,fun _=>cuK k⟩] ⟨.z X.out,⟨⟩⟩ ⟨.k zCu (.t rfl),⟨⟩⟩ fun l v1 f h1 J=>?_;simp only[fzw,Kw.a];obtain⟨⟨U,d⟩,-⟩:(v0.heap.size≤(l 5 0).2∧Vr v1 (l 5 0).2 (cuK k))∧True:=J;clear h1;replace G:=G.trans f;replace j:=j.gr f;clear f
 go_upto_region 2 with fail
 refine wp_wS [.O,.F] [] ⟨⟩ fun aa v2 f h2=>?_;simp only[fzw];clear h2;replace G:=G.trans f;replace j:=j.gr f;replace d:=d.gr f;clear f
 go_upto_region 4 with fail
 refine wp_wS [.c (.agg (cuK k)),.c (.int .i64 n),.c (.int .i64 n)] [0,1] ⟨.g 65 0 d rfl,.z Y.out,⟨⟩⟩ fun ab v3 f h4=>?_;simp only[fzw];clear h4;replace G:=G.trans f;replace j:=j.gr f;replace d:=d.gr f;clear f
 go_upto_region 5 with fail
 refine wp_wS [.c (.string t),.c (.int .i64 (t.size:Int)),.c (.int .i64 n),.c (.int .i64 m),.F] [3,4] ⟨.s (.binOp .mul 3 (.const (.int .i64 2)) (.const (.int .i64 n)) 3) rfl fun K f=>by simp[go_sem,exI,w1],.s (.binOp .neq 3 (.const (.int .i64 (t.size:Int))) (.const (.int .i64 m)) 3) rfl fun K f=>by simp[go_sem,exI,hl],⟨⟩⟩ fun ac V f h5=>?_;simp only[fzw];clear h5;replace G:=G.trans f;replace j:=j.gr f;replace d:=d.gr f;clear f;have L0:w.heap.size<V.heap.size:=j.p
 go_upto_region 7 with fail
 refine wp_v true [.c (.string t),.c (.int .i64 n),.c (.string u),.N r,.c (.string t),.c (.int .i64 n),.c (.string v),.N s,.c (.agg (sgA r s)),.a,.u] [2,3,6,7] [⟨9,10,27,sgA 0 0,fun _=>sgA r s⟩] ⟨.s (.slice 9 (.const (.string t)) none (some (.const (.int .i64 n))) none) rfl fun K f=>by simp[go_sem,exI,hu],.z H.out,.s (.slice 9 (.const (.string t)) (some (.const (.int .i64 n))) none none) rfl fun K f=>by simp[go_sem,exI,hv],.z I.out,⟨⟩⟩ ⟨.k zSg (.t rfl),⟨⟩⟩ fun q v5 f h7 L=>?_;simp only[fzw,Kw.a];obtain⟨⟨W,i⟩,-⟩:(V.heap.size≤(q 9 0).2∧Vr v5 (q 9 0).2 (sgA r s))∧True:=L;clear h7;replace G:=G.trans f;replace j:=j.gr f;replace d:=d.gr f;clear f
 go_upto_region 8 with fail
 refine wp_wS [.c (.agg (cuK k)),.c (.agg (sgA r s)),.T,.F] [0,1,2] ⟨.g 65 0 d rfl,.g 27 0 i rfl,.z HB.out,⟨⟩⟩ fun ad v6 f h8=>?_;simp only[fzw];clear h8;replace G:=G.trans f;replace j:=j.gr f;replace d:=d.gr f;replace i:=i.gr f;clear f;have⟨ae,af,ag⟩:=j;have⟨ah,ai,aj⟩:=i;clear j i
 go_wp2_with fail
 exact bo2 results9 (rd_sg (by rfl) (by simp[go_sem, *])) ⟨rfl,by exact grB⟩
theorem rwget{k:Nat}(h1:1≤k)(h2:k≤15)(t:ByteArray){X Y:Nat}{E:Int}(h:rawG (oN k) t.data.toList=(X,Y,E))(w:World):Cg 9 #[.int .i64 k,.string t] w (.tuple #[.agg (sgA X Y),.int .i64 E]):=by
 have d:t.data.toList.length=t.size:=rfl;unfold rawG at h
 split at h
 ·rename_i hl
  split at h
  ·rename_i hb
   simp only[Prod.mk.injEq]at h;obtain⟨rfl,rfl,rfl⟩:=h;exact rwget_yes h1 h2 (d▸hl) rfl rfl hb w
  ·rename_i hb
   simp only[Prod.mk.injEq]at h;obtain⟨rfl,rfl,rfl⟩:=h;exact rwget_off h1 h2 (d▸hl) rfl rfl hb w
 ·rename_i hl
  simp only[Prod.mk.injEq]at h;obtain⟨rfl,rfl,rfl⟩:=h;exact rwget_len h1 h2 (d▸hl) w
end
section
attribute [local go_sem] uz4
attribute [local go_sem ↓] uz5 Go.wp_at_zero Go.wp_at_succ
attribute [local go_sem] uz6
theorem sgA_no(r s:Nat):Blank (sgA r s):=blank_of (by kernel_rfl)
theorem neSg(r s r' s':Nat)(w:World):(binOp .neq 27 (.agg (sgA r s)) (.agg (sgA r' s'))).run prog w=.ok (.bool (!(eqN 9 r r'&&eqN 9 s s'))) w:=by
 have h:=eqSg r s r' s' w;rw[run_eql_struct]at h;rw[run_neq_struct]
 cases hr:(Op.equalIn 10000 27 (.agg (sgA r s)) (.agg (sgA r' s'))).run prog w with
 | ok b w'=>
  rw[hr]at h;simp[Result.andThen]at h ⊢;exact⟨by rw[h.1],h.2⟩
 | _=>rw[hr]at h;simp[Result.andThen]at h
theorem awake23_any(w:World):Cg 11 #[] w (.bool true):=by
 have A:Hid (∀w,Cg 8 #[.int .i64 13,.agg (sgA 3 222)] w (.tuple #[.string ⟨#[3,222]⟩,.int .i64 0])):=fun w=>by have t:=rwput_yes (k:=13) (r:=3) (s:=222) (by decide) (by decide) (by decide +kernel) (by decide +kernel) w;rwa [show rawL (oN 13) 3 222=[3,222] by decide +kernel]at t
 have B:Hid (∀w,Cg 8 #[.int .i64 0,.agg (sgA 0 0)] w (.tuple #[.string ⟨#[]⟩,.int .i64 2300])):=fun w=>rwput_no (.inl (by decide)) 0 0 w;have C:Hid (∀w,Cg 9 #[.int .i64 13,.string ⟨#[3,222]⟩] w (.tuple #[.agg (sgA 3 222),.int .i64 0])):=fun w=>rwget (k:=13) (by decide) (by decide) ⟨#[3,222]⟩ (by decide +kernel) w;have D:Hid (∀w,Cg 9 #[.int .i64 13,.string ⟨#[3,223]⟩] w (.tuple #[.agg (sgA 0 0),.int .i64 2302])):=fun w=>rwget (k:=13) (by decide) (by decide) ⟨#[3,223]⟩ (by decide +kernel) w
 go_enter func11,ntmps11
 go_upto_region 1 with fail
 refine gen_w (fun v=>Gr w v) (by exact grA) ?_;intro v0 G;refine wp_wS [.N 3,.N 222,.c (.agg (sgA 3 222)),.E (.string ⟨#[3,222]⟩),.E (.string ⟨#[3,222]⟩),.c (.string ⟨#[3,222]⟩),.O,.c (.string ⟨#[3,222]⟩),.O] [0,1,2,3] ⟨.z (one_any 3 (by decide)),.z (one_any 222 (by decide)),.s (.build 27 #[(0,(.const (.agg (nw 9 3)))),(1,(.const (.agg (nw 9 222))))]) rfl fun H d=>by simp[go_sem,exI,buildSg2],.z A.out,⟨⟩⟩ fun Q R d S=>?_;simp only[fzw];clear S;have h:=d;clear d
 go_upto_region 2 with fail
 refine wp_v false [.c (.string ⟨#[3,222]⟩),.E (.agg (sgA 3 222)),.E (.agg (sgA 3 222)),.c (.agg (sgA 3 222)),.O,.a,.u,.O] [1] [⟨5,6,27,sgA 0 0,fun _=>sgA 3 222⟩] ⟨.z C.out,⟨⟩⟩ ⟨.k zSg (.t rfl),⟨⟩⟩ fun l K d U I=>?_;simp only[fzw,Kw.a];obtain⟨⟨L,f⟩,-⟩:(R.heap.size≤(l 5 0).2∧Vr K (l 5 0).2 (sgA 3 222))∧True:=I;clear U;replace h:=h.trans d;clear d
 go_upto_region 3 with fail
 refine wp_v false [.c (.tuple #[.agg (sgA 0 0),.int .i64 2302]),.c (.tuple #[.agg (sgA 0 0),.int .i64 2302]),.c (.agg (sgA 0 0)),.c (.int .i64 2302),.a,.u,.c (.int .i64 2302)] [0] [⟨4,5,27,sgA 0 0,fun _=>sgA 0 0⟩] ⟨.z D.out,⟨⟩⟩ ⟨.k zSg (.t rfl),⟨⟩⟩ fun q V d W J=>?_;simp only[fzw,Kw.a];obtain⟨⟨P,i⟩,-⟩:(K.heap.size≤(q 4 0).2∧Vr V (q 4 0).2 (sgA 0 0))∧True:=J;clear W;replace h:=h.trans d;have j:=d;clear d
 go_upto_region 4 with fail
 refine wp_wS [.c (.agg (sgA 0 0)),.c (.tuple #[.string ⟨#[]⟩,.int .i64 2300]),.c (.tuple #[.string ⟨#[]⟩,.int .i64 2300]),.c (.string ⟨#[]⟩),.c (.int .i64 2300),.c (.string ⟨#[]⟩),.c (.int .i64 2300)] [1] ⟨.z B.out,⟨⟩⟩ fun X v4 d Y=>?_;simp only[fzw];clear Y;replace h:=h.trans d;replace j:=j.trans d;have x:=d;clear d
 go_upto_region 5 with fail
 refine wp_w [.c (.string ⟨#[3,222]⟩),.T,.T,.O,.O,.T,.T,.T,.c (.agg (sgA 3 222)),.N 3,.N 222,.c (.agg (sgA 3 222)),.T,.T,.T,.O,.O,.T,.T,.T,.c (.int .i64 2302),.c (.int .i64 2302),.T,.T,.T,.c (.int .i64 2300),.c (.int .i64 2300),.T,.T,.T] [1,4,8,9,10,11,12,16,21,26] ⟨.s (.binOp .eql 9 (.const (.string ⟨#[3,222]⟩)) (.const (.string { data :=#[3,222] })) 9) rfl fun H d=>by simp[go_sem,exI],.y (num_any _),.g 27 0 (f.gr j) rfl,.z (one_any 3 (by decide)),.z (one_any 222 (by decide)),.s (.build 27 #[(0,(.const (.agg (nw 9 3)))),(1,(.const (.agg (nw 9 222))))]) rfl fun H d=>by simp[go_sem,exI,buildSg2],.s (.binOp .eql 27 (.const (.agg (sgA 3 222))) (.const (.agg (sgA 3 222))) 27) rfl fun H d=>by simp[go_sem,exI,eqSg,eqN_self],.y (num_any _),.y (num_any _),.y (num_any _),⟨⟩⟩ fun Z v5 d h5=>?_;simp only[fzw];clear h5;replace h:=h.trans d;replace j:=j.trans d;replace x:=x.trans d;clear d;replace G:=G.trans h;replace f:=f.gr j;replace i:=i.gr x;clear h j x
 go_wp2_with fail
 go_ret
 exact⟨rfl,G⟩
end
section
attribute [local go_sem] uz4
attribute [local go_sem ↓] uz7 Go.wp_at_zero Go.wp_at_succ
attribute [local go_sem] uz8
theorem rnsize{k:Nat}(qc:Nat→Option Addr×Nat){w:World}(HQ:∀j,Sl w (qc j).1 (nN k j)):Calls prog 17 #[.agg (crA (k:Int) (nN k) qc)] w (Rt (.c (.int .i64 (nzB (oN k):Int))) w):=by
 refine Rt.c ?_;have q:bl (oN k)≤576:=bl_576 _ (oN_bd k)
 have f:dl (oN k)≤400:=by have:=dl_M _ (oN_bd k);omega
 obtain⟨n,h⟩:=exl (nzB (oN k))
 have x:IntKind.i64.wrap ((bl (oN k):Int)+7)=(bl (oN k):Int)+7:=by rw[IntKind.wrap_i64];omega
 have A:IntKind.i64.wrap (((bl (oN k):Int)+7).tdiv 8)=(n:Int):=tdiv8 (by omega) (by omega) (by rw[←h];unfold nzB;omega);rw[h];clear h q
 go_enter func17,ntmps17
 go_upto_region 1 with fail
 refine gen_w (fun v=>Gr w v∧Vr v (w.heap.size) (crA (k:Int) (nN k) qc)) ⟨grA,vrA⟩ ?_;rintro H ⟨G,i⟩;replace HQ:=fun j=>(HQ j).gr G;refine wp_wS [.c (pv (w.heap.size) 4),.c (.slice (qc 3).1 (dl (oN k)) (qc 3).2),.c (.int .i64 (bl (oN k):Int)),.c (.int .i64 ((bl (oN k):Int)+7)),.c (.int .i64 n),.c (.int .i64 n)] [1,2,3,4] ⟨.o 29 4 i rfl rfl,.k (fun B =>#[.slice (qc 3).1 (dl (oN k)) (qc 3).2]) fun B l d I=>RtW.of_c (bt_any ((HQ 3).gr d) f rfl),.s (.binOp .add 3 (.const (.int .i64 (bl (oN k):Int))) (.const (.int .i64 7)) 3) rfl fun l d=>by simp[go_sem,exI,x],.s (.binOp .quo 3 (.const (.int .i64 ((bl (oN k):Int)+7))) (.const (.int .i64 8)) 3) rfl fun l d=>by simp[go_sem,exI,A],⟨⟩⟩ fun C J d D=>?_;simp only[fzw];clear D;replace G:=G.trans d;replace i:=i.gr d;replace HQ:=fun k=>(HQ k).gr d;clear d
 go_wp2_with fail
 exact bo1 results17 (rd_tmp (by rfl)) ⟨rfl,G⟩
theorem rraw_0{k:Nat}{r s:Nat}(hr:r<M)(hs:s<M)(h:r<oN k)(h3:s<oN k)(qc:Nat→Option Addr×Nat){w:World}(HQ:∀j,Sl w (qc j).1 (nN k j)):Cg 12 #[.agg (crA (k:Int) (nN k) qc),.agg (sgA r s)] w (.tuple #[.string ⟨(rawL (oN k) r s).toArray⟩,.int .i64 0]):=by
 have H:dl (oN k)≤400:=by have:=dl_M _ (oN_bd k);omega
 have P:dl r≤400:=by have:=dl_M r hr;omega
 have Q:dl s≤400:=by have:=dl_M s hs;omega
 obtain⟨y,X⟩:=exl (cmpZ r (oN k))
 have hy:¬0≤y:=by rw[←X];exact Int.not_le.2 (cmpN_lt (by omega))
 obtain⟨z,Y⟩:=exl (cmpZ s (oN k))
 have hz:¬0≤z:=by rw[←Y];exact Int.not_le.2 (cmpN_lt (by omega))
 have R:=nzB_le (oN_bd k);have I:=nzB_bl (Nat.le_of_lt h);have J:=nzB_bl (Nat.le_of_lt h3)
 have S:dl r≤50000:=by omega
 have U:dl s≤50000:=by omega
 obtain⟨p,K⟩:∃t:ByteArray,⟨(bs (nzB (oN k)) r).toArray⟩=t:=⟨_,rfl⟩;obtain⟨q,L⟩:∃t:ByteArray,⟨(bs (nzB (oN k)) s).toArray⟩=t:=⟨_,rfl⟩
 have Z:(⟨(rawL (oN k) r s).toArray⟩:ByteArray)=p++q:=by rw[←K,←L,app_tx];rfl
 obtain⟨n,V⟩:=exl (nzB (oN k));rw[V]at R I J K L
 have z1:p.size+q.size≤9223372036854775807:=by rw[←K,←L,sz_tx,sz_tx,bs_length,bs_length];omega
 rw[Z];have HS:Hid (∀w,(∀j,Sl w (qc j).1 (nN k j))→Calls prog 17 #[.agg (crA (k:Int) (nN k) qc)] w (Rt (.c (.int .i64 n)) w)):=fun w HQ=>V▸rnsize qc HQ;clear Z V
 go_enter func12,ntmps12
 go_upto_region 1 with fail
 refine gen_w (fun v=>Gr w v∧Vr v (w.heap.size) (crA (k:Int) (nN k) qc)∧Vr v (w.heap.size+1) (sgA r s)) ⟨grA,vrA,vrA⟩ ?_;rintro v0 ⟨G,x,A⟩;replace HQ:=fun j=>(HQ j).gr G;refine wp_w [.c (pv (w.heap.size+1) 0),.N r,.n (r),.c (pv (w.heap.size+1) 9),.N s,.n (s),.n (r),.n (s)] [1,2,4,5,6,7] ⟨.g 25 0 A rfl,.k _ fun B C d D=>RtW.of_n (fm_any hr),.g 25 9 A rfl,.k _ fun B C d D=>RtW.of_n (fm_any hs),.m 2,.m 5,⟨⟩⟩ fun f v1 d W=>?_;simp only[fzw];have i:Sl v1 (f 6 0).1 (r):=W 6;have l:Sl v1 (f 7 0).1 (s):=W 7;clear W;replace G:=G.trans d;replace x:=x.gr d;replace A:=A.gr d;replace HQ:=fun k=>(HQ k).gr d;clear d
 go_upto_region 2 with fail
 refine wp_wS [.c (.slice (f 6 0).1 (dl (r)) (f 6 0).2),.c (pv (w.heap.size) 4),.c (.slice (qc 3).1 (dl (oN k)) (qc 3).2),.c (.int .i64 y),.F,.F,.c (.slice (f 7 0).1 (dl (s)) (f 7 0).2),.c (pv (w.heap.size) 4),.c (.slice (qc 3).1 (dl (oN k)) (qc 3).2),.c (.int .i64 z),.F,.F] [2,3,4,8,9,10] ⟨.o 29 4 x rfl rfl,.k (fun B =>#[.slice (f 6 0).1 (dl (r)) (f 6 0).2,.slice (qc 3).1 (dl (oN k)) (qc 3).2]) fun B C d D=>RtW.of_c (cz_any (i.gr d) ((HQ 3).gr d) P H X),.s (.binOp .geq 3 (.const (.int .i64 y)) (.const (.int .i64 0)) 3) rfl fun C d=>by simp[go_sem,exI,hy],.o 29 4 x rfl rfl,.k (fun B =>#[.slice (f 7 0).1 (dl (s)) (f 7 0).2,.slice (qc 3).1 (dl (oN k)) (qc 3).2]) fun B C d D=>RtW.of_c (cz_any (l.gr d) ((HQ 3).gr d) Q H Y),.s (.binOp .geq 3 (.const (.int .i64 z)) (.const (.int .i64 0)) 3) rfl fun C d=>by simp[go_sem,exI,hz],⟨⟩⟩ fun aa v2 d h2=>?_;simp only[fzw];clear h2;replace G:=G.trans d;replace x:=x.gr d;replace A:=A.gr d;replace HQ:=fun k=>(HQ k).gr d;replace i:=i.gr d;replace l:=l.gr d;clear d
 go_upto_region 4 with fail
 refine wp_wS [.c (.slice (f 6 0).1 (dl (r)) (f 6 0).2),.c (.agg (crA (k:Int) (nN k) qc)),.c (.int .i64 n),.c (.tuple #[.string p,.bool true]),.c (.tuple #[.string p,.bool true]),.c (.string p),.T,.c (.string p),.T] [1,2,3] ⟨.g 31 0 x rfl,.k _ fun B C d D=>RtW.of_c (HS.out _ (fun j=>(HQ j).gr d)),.k (fun B =>#[.slice (f 6 0).1 (dl (r)) (f 6 0).2,.int .i64 n]) fun B C d D=>RtW.of_c (Rt.c (K▸rbytes_any r _ n _ _ (i.gr d) S R I)),⟨⟩⟩ fun ab v3 d h4=>?_;simp only[fzw];clear h4;replace G:=G.trans d;replace x:=x.gr d;replace A:=A.gr d;replace HQ:=fun k=>(HQ k).gr d;replace i:=i.gr d;replace l:=l.gr d;clear d
 go_upto_region 5 with fail
 refine wp_wS [.c (.slice (f 7 0).1 (dl (s)) (f 7 0).2),.c (.agg (crA (k:Int) (nN k) qc)),.c (.int .i64 n),.c (.tuple #[.string q,.bool true]),.c (.tuple #[.string q,.bool true]),.c (.string q),.T,.c (.string q),.T] [1,2,3] ⟨.g 31 0 x rfl,.k _ fun B C d D=>RtW.of_c (HS.out _ (fun j=>(HQ j).gr d)),.k (fun B =>#[.slice (f 7 0).1 (dl (s)) (f 7 0).2,.int .i64 n]) fun B C d D=>RtW.of_c (Rt.c (L▸rbytes_any s _ n _ _ (l.gr d) U R J)),⟨⟩⟩ fun ac v4 d h5=>?_;simp only[fzw];clear h5;replace G:=G.trans d;replace x:=x.gr d;replace A:=A.gr d;replace HQ:=fun k=>(HQ k).gr d;replace i:=i.gr d;replace l:=l.gr d;clear d
 go_upto_region 6 with fail
 refine wp_wS [.c (.string p),.c (.string q),.c (.string (p++q)),.c (.string (p++q)),.O] [2] ⟨.s (.binOp .add 9 (.const (.string p)) (.const (.string q)) 9) rfl fun C d=>by simp[go_sem,exI,z1],⟨⟩⟩ fun ad v5 d h6=>?_;simp only[fzw];clear h6;replace G:=G.trans d;replace x:=x.gr d;replace A:=A.gr d;replace HQ:=fun k=>(HQ k).gr d;replace i:=i.gr d;replace l:=l.gr d;clear d
 go_wp2_with fail
 exact bo2 results12 (rd_tmp (by rfl)) ⟨rfl,G⟩
theorem rraw_1{k:Nat}{r s:Nat}(hr:r<M)(hs:s<M)(h:r<oN k)(h3:¬s<oN k)(qc:Nat→Option Addr×Nat){w:World}(HQ:∀j,Sl w (qc j).1 (nN k j)):Cg 12 #[.agg (crA (k:Int) (nN k) qc),.agg (sgA r s)] w (.tuple #[.string ⟨#[]⟩,.int .i64 2302]):=by
 have A:dl (oN k)≤400:=by have:=dl_M _ (oN_bd k);omega
 have D:dl r≤400:=by have:=dl_M r hr;omega
 have H:dl s≤400:=by have:=dl_M s hs;omega
 obtain⟨y,K⟩:=exl (cmpZ r (oN k))
 have Q:¬0≤y:=by rw[←K];exact Int.not_le.2 (cmpN_lt (by omega))
 obtain⟨z,L⟩:=exl (cmpZ s (oN k))
 have R:0≤z:=by rw[←L];exact cmpN_no (by omega)
 go_enter func12,ntmps12
 go_upto_region 1 with fail
 refine gen_w (fun v=>Gr w v∧Vr v (w.heap.size) (crA (k:Int) (nN k) qc)∧Vr v (w.heap.size+1) (sgA r s)) ⟨grA,vrA,vrA⟩ ?_;rintro V ⟨G,q,x⟩;replace HQ:=fun j=>(HQ j).gr G;refine wp_w [.c (pv (w.heap.size+1) 0),.N r,.n (r),.c (pv (w.heap.size+1) 9),.N s,.n (s),.n (r),.n (s)] [1,2,4,5,6,7] ⟨.g 25 0 x rfl,.k _ fun B C d I=>RtW.of_n (fm_any hr),.g 25 9 x rfl,.k _ fun B C d I=>RtW.of_n (fm_any hs),.m 2,.m 5,⟨⟩⟩ fun f P d J=>?_;simp only[fzw];have i:Sl P (f 6 0).1 (r):=J 6;have l:Sl P (f 7 0).1 (s):=J 7;clear J;replace G:=G.trans d;replace q:=q.gr d;replace x:=x.gr d;replace HQ:=fun k=>(HQ k).gr d;clear d
 go_upto_region 2 with fail
 refine wp_wS [.c (.slice (f 6 0).1 (dl (r)) (f 6 0).2),.c (pv (w.heap.size) 4),.c (.slice (qc 3).1 (dl (oN k)) (qc 3).2),.c (.int .i64 y),.F,.F,.c (.slice (f 7 0).1 (dl (s)) (f 7 0).2),.c (pv (w.heap.size) 4),.c (.slice (qc 3).1 (dl (oN k)) (qc 3).2),.c (.int .i64 z),.T,.T] [2,3,4,8,9,10] ⟨.o 29 4 q rfl rfl,.k (fun B =>#[.slice (f 6 0).1 (dl (r)) (f 6 0).2,.slice (qc 3).1 (dl (oN k)) (qc 3).2]) fun B C d I=>RtW.of_c (cz_any (i.gr d) ((HQ 3).gr d) D A K),.s (.binOp .geq 3 (.const (.int .i64 y)) (.const (.int .i64 0)) 3) rfl fun C d=>by simp[go_sem,exI,Q],.o 29 4 q rfl rfl,.k (fun B =>#[.slice (f 7 0).1 (dl (s)) (f 7 0).2,.slice (qc 3).1 (dl (oN k)) (qc 3).2]) fun B C d I=>RtW.of_c (cz_any (l.gr d) ((HQ 3).gr d) H A L),.s (.binOp .geq 3 (.const (.int .i64 z)) (.const (.int .i64 0)) 3) rfl fun C d=>by simp[go_sem,exI,R],⟨⟩⟩ fun S W d U=>?_;simp only[fzw];clear U;replace G:=G.trans d;replace q:=q.gr d;replace x:=x.gr d;replace HQ:=fun k=>(HQ k).gr d;replace i:=i.gr d;replace l:=l.gr d;clear d
 go_wp2_with fail
 exact bo2 results12 (rd_tmp (by rfl)) ⟨rfl,G⟩
theorem rraw_2{k:Nat}{r s:Nat}(hr:r<M)(hs:s<M)(h:¬r<oN k)(qc:Nat→Option Addr×Nat){w:World}(HQ:∀j,Sl w (qc j).1 (nN k j)):Cg 12 #[.agg (crA (k:Int) (nN k) qc),.agg (sgA r s)] w (.tuple #[.string ⟨#[]⟩,.int .i64 2302]):=by
 have A:dl (oN k)≤400:=by have:=dl_M _ (oN_bd k);omega
 have B:dl r≤400:=by have:=dl_M r hr;omega
 have L:dl s≤400:=by have:=dl_M s hs;omega
 obtain⟨y,I⟩:=exl (cmpZ r (oN k))
 have P:0≤y:=by rw[←I];exact cmpN_no (by omega)
 go_enter func12,ntmps12
 go_upto_region 1 with fail
 refine gen_w (fun v=>Gr w v∧Vr v (w.heap.size) (crA (k:Int) (nN k) qc)∧Vr v (w.heap.size+1) (sgA r s)) ⟨grA,vrA,vrA⟩ ?_;rintro S ⟨G,x,q⟩;replace HQ:=fun j=>(HQ j).gr G;refine wp_w [.c (pv (w.heap.size+1) 0),.N r,.n (r),.c (pv (w.heap.size+1) 9),.N s,.n (s),.n (r),.n (s)] [1,2,4,5,6,7] ⟨.g 25 0 q rfl,.k _ fun C D d J=>RtW.of_n (fm_any hr),.g 25 9 q rfl,.k _ fun C D d J=>RtW.of_n (fm_any hs),.m 2,.m 5,⟨⟩⟩ fun f K d H=>?_;simp only[fzw];have i:Sl K (f 6 0).1 (r):=H 6;have l:Sl K (f 7 0).1 (s):=H 7;clear H;replace G:=G.trans d;replace x:=x.gr d;replace q:=q.gr d;replace HQ:=fun k=>(HQ k).gr d;clear d
 go_upto_region 2 with fail
 refine wp_wS [.c (.slice (f 6 0).1 (dl (r)) (f 6 0).2),.c (pv (w.heap.size) 4),.c (.slice (qc 3).1 (dl (oN k)) (qc 3).2),.c (.int .i64 y),.T,.T,.u,.u,.u,.u,.u,.T] [2,3,4] ⟨.o 29 4 x rfl rfl,.k (fun C =>#[.slice (f 6 0).1 (dl (r)) (f 6 0).2,.slice (qc 3).1 (dl (oN k)) (qc 3).2]) fun C D d J=>RtW.of_c (cz_any (i.gr d) ((HQ 3).gr d) B A I),.s (.binOp .geq 3 (.const (.int .i64 y)) (.const (.int .i64 0)) 3) rfl fun D d=>by simp[go_sem,exI,P],⟨⟩⟩ fun Q U d R=>?_;simp only[fzw];clear R;replace G:=G.trans d;replace x:=x.gr d;replace q:=q.gr d;replace HQ:=fun k=>(HQ k).gr d;replace i:=i.gr d;replace l:=l.gr d;clear d
 go_wp2_with fail
 exact bo2 results12 (rd_tmp (by rfl)) ⟨rfl,G⟩
theorem rraw{k:Nat}{r s:Nat}(hr:r<M)(hs:s<M)(qc:Nat→Option Addr×Nat){w:World}(HQ:∀j,Sl w (qc j).1 (nN k j)):Cg 12 #[.agg (crA (k:Int) (nN k) qc),.agg (sgA r s)] w (.tuple #[.string ⟨(rawP (oN k) r s).1.toArray⟩,.int .i64 (rawP (oN k) r s).2]):=by
 by_cases h:r<oN k
 ·by_cases h3:s<oN k
  ·rw[rawP,if_pos ⟨h,h3⟩];exact rraw_0 hr hs h h3 qc HQ
  ·rw[rawP,if_neg fun e=>h3 e.2];exact rraw_1 hr hs h h3 qc HQ
 ·rw[rawP,if_neg fun e=>h e.1];exact rraw_2 hr hs h qc HQ
end
section
attribute [local go_sem] uz4
attribute [local go_sem ↓] uz7 Go.wp_at_zero Go.wp_at_succ
attribute [local go_sem] uz8
theorem runraw_0{k:Nat}{t:ByteArray}(h:t.size=2*nzB (oN k)){r s:Nat}(er:bn (t.data.toList.take (nzB (oN k)))=r)(es:bn (t.data.toList.drop (nzB (oN k)))=s)(hb:r<oN k)(hb3:s<oN k)(qc:Nat→Option Addr×Nat){w:World}(HQ:∀j,Sl w (qc j).1 (nN k j)):Cg 13 #[.agg (crA (k:Int) (nN k) qc),.string t] w (.tuple #[.agg (sgA r s),.int .i64 0]):=by
 have I:=nzB_le (oN_bd k);obtain⟨n,L⟩:=exl (nzB (oN k));rw[L]at h I er es;have HS:Hid (∀w,(∀j,Sl w (qc j).1 (nN k j))→Calls prog 17 #[.agg (crA (k:Int) (nN k) qc)] w (Rt (.c (.int .i64 n)) w)):=fun w HQ=>L▸rnsize qc HQ;obtain⟨m,em⟩:=exl (2*n)
 have w1:IntKind.i64.wrap (2*(n:Int))=(m:Int):=by rw[IntKind.wrap_i64];omega
 have hl:((t.size:Int) != (m:Int))=false:=by rw[bne_eq_false_iff_eq];omega
 have P:t.data.toList.length=t.size:=rfl;obtain⟨u,eu⟩:∃x:ByteArray,⟨(t.data.toList.take n).toArray⟩=x:=⟨_,rfl⟩;obtain⟨v,J⟩:∃x:ByteArray,⟨(t.data.toList.drop n).toArray⟩=x:=⟨_,rfl⟩;have hr:r<M:=er▸bd_M (bn_bd n (t.data.toList.take n) (by rw[List.length_take];omega)) I;have hs:s<M:=es▸bd_M (bn_bd n (t.data.toList.drop n) (by rw[List.length_drop];omega)) I
 have hu:∀w,(Instr.slice 9 (.string t) none (some (.int .i64 n)) none).run prog w=.ok (.string u) w:=fun w=>by
  have:=slT_lo t n (by omega) w
  rwa [show t.extract 0 n=u by rw[←eu];exact(ex_tx t.data.toList 0 n).trans (by rw[List.drop_zero,Nat.sub_zero])]at this
 have hv:∀w,(Instr.slice 9 (.string t) (some (.int .i64 n)) none none).run prog w=.ok (.string v) w:=fun w=>by
  have:=slT_hi t n (by omega) w
  rwa [show t.extract n t.size=v by rw[←J];exact(ex_tx t.data.toList n t.size).trans (by rw[List.take_of_length_le (by rw[List.length_drop];omega)])]at this
 have Q:Hid (∀w,Calls prog 29 #[.string u] w (Nm r w)):=fun w=>by have:=rread_any u (by rw[←eu,sz_tx,List.length_take];omega) w;rwa [show bn u.data.toList=r by rw[←eu];exact er]at this
 have R:Hid (∀w,Calls prog 29 #[.string v] w (Nm s w)):=fun w=>by have:=rread_any v (by rw[←J,sz_tx,List.length_drop];omega) w;rwa [show bn v.data.toList=s by rw[←J];exact es]at this
 have H:dl (oN k)≤400:=by have:=dl_M _ (oN_bd k);omega
 have S:dl r≤400:=by have:=dl_M r hr;omega
 have U:dl s≤400:=by have:=dl_M s hs;omega
 obtain⟨y,X⟩:=exl (cmpZ r (oN k))
 have hy:¬0≤y:=by rw[←X];exact Int.not_le.2 (cmpN_lt (by omega))
 obtain⟨z,Y⟩:=exl (cmpZ s (oN k))
 have hz:¬0≤z:=by rw[←Y];exact Int.not_le.2 (cmpN_lt (by omega))
 clear L em h I P eu J er es
 go_enter func13,ntmps13
 go_upto_region 1 with fail
 refine gen_w (fun v=>Gr w v∧Vr v (w.heap.size) (crA (k:Int) (nN k) qc)∧Vr v (w.heap.size+1) (sgA 0 0)) ⟨grA,vrA,vrA⟩ ?_;rintro v0 ⟨G,B,A⟩;replace HQ:=fun j=>(HQ j).gr G;refine wp_wS [.c (.agg (crA (k:Int) (nN k) qc)),.c (.int .i64 n),.c (.int .i64 n)] [0,1] ⟨.g 31 0 B rfl,.k _ fun D C d K=>RtW.of_c (HS.out _ (fun j=>(HQ j).gr d)),⟨⟩⟩ fun aa v1 d h1=>?_;simp only[fzw];clear h1;replace G:=G.trans d;replace B:=B.gr d;replace A:=A.gr d;replace HQ:=fun k=>(HQ k).gr d;clear d
 go_upto_region 2 with fail
 refine wp_wS [.c (.string t),.c (.int .i64 (t.size:Int)),.c (.int .i64 n),.c (.int .i64 m),.F] [3,4] ⟨.s (.binOp .mul 3 (.const (.int .i64 2)) (.const (.int .i64 n)) 3) rfl fun C d=>by simp[go_sem,exI,w1],.s (.binOp .neq 3 (.const (.int .i64 (t.size:Int))) (.const (.int .i64 m)) 3) rfl fun C d=>by simp[go_sem,exI,hl],⟨⟩⟩ fun ab v2 d h2=>?_;simp only[fzw];clear h2;replace G:=G.trans d;replace B:=B.gr d;replace A:=A.gr d;replace HQ:=fun k=>(HQ k).gr d;clear d
 go_upto_region 4 with fail
 refine wp_w [.c (.string t),.c (.int .i64 n),.c (.string u),.n (r),.c (.string t),.c (.int .i64 n),.c (.string v),.n (s),.n (r),.n (s)] [2,3,6,7,8,9] ⟨.s (.slice 9 (.const (.string t)) none (some (.const (.int .i64 n))) none) rfl fun C d=>by simp[go_sem,exI,hu],.k _ fun D C d K=>RtW.of_n (Rt.n (Q.out _)),.s (.slice 9 (.const (.string t)) (some (.const (.int .i64 n))) none none) rfl fun C d=>by simp[go_sem,exI,hv],.k _ fun D C d K=>RtW.of_n (Rt.n (R.out _)),.m 3,.m 7,⟨⟩⟩ fun i Z d V=>?_;simp only[fzw];have q:Sl Z (i 8 0).1 (r):=V 8;have l:Sl Z (i 9 0).1 (s):=V 9;clear V;replace G:=G.trans d;replace B:=B.gr d;replace A:=A.gr d;replace HQ:=fun k=>(HQ k).gr d;clear d
 go_upto_region 5 with fail
 refine wp_wS [.c (.slice (i 8 0).1 (dl (r)) (i 8 0).2),.c (pv (w.heap.size) 4),.c (.slice (qc 3).1 (dl (oN k)) (qc 3).2),.c (.int .i64 y),.F,.F,.c (.slice (i 9 0).1 (dl (s)) (i 9 0).2),.c (pv (w.heap.size) 4),.c (.slice (qc 3).1 (dl (oN k)) (qc 3).2),.c (.int .i64 z),.F,.F] [2,3,4,8,9,10] ⟨.o 29 4 B rfl rfl,.k (fun D =>#[.slice (i 8 0).1 (dl (r)) (i 8 0).2,.slice (qc 3).1 (dl (oN k)) (qc 3).2]) fun D C d K=>RtW.of_c (cz_any (q.gr d) ((HQ 3).gr d) S H X),.s (.binOp .geq 3 (.const (.int .i64 y)) (.const (.int .i64 0)) 3) rfl fun C d=>by simp[go_sem,exI,hy],.o 29 4 B rfl rfl,.k (fun D =>#[.slice (i 9 0).1 (dl (s)) (i 9 0).2,.slice (qc 3).1 (dl (oN k)) (qc 3).2]) fun D C d K=>RtW.of_c (cz_any (l.gr d) ((HQ 3).gr d) U H Y),.s (.binOp .geq 3 (.const (.int .i64 z)) (.const (.int .i64 0)) 3) rfl fun C d=>by simp[go_sem,exI,hz],⟨⟩⟩ fun ac v4 d h5=>?_;simp only[fzw];clear h5;replace G:=G.trans d;replace B:=B.gr d;replace A:=A.gr d;replace HQ:=fun k=>(HQ k).gr d;replace q:=q.gr d;replace l:=l.gr d;clear d
 go_wp2_with (first
  | (go_at_call 14;refine(rnat_any r _ _ _ q).mono ?_;rintro e wA ⟨rfl,W⟩;replace l:=l.gr W;clear q;replace A:=A.gr W;replace G:=G.trans W)
  | (go_at_call 14;refine(rnat_any s _ _ _ l).mono ?_;rintro e wB ⟨rfl,gB⟩;replace A:=A.gr gB;have ad:=A.h;have ae:=A.f;have af:=A.p;replace G:=G.trans gB))
 exact bo2 results13 (rd_sg (by rfl) (by simp[go_sem, *])) ⟨rfl,by exact grB⟩
theorem runraw_1{k:Nat}{t:ByteArray}(h:t.size=2*nzB (oN k)){r s:Nat}(er:bn (t.data.toList.take (nzB (oN k)))=r)(es:bn (t.data.toList.drop (nzB (oN k)))=s)(hb:r<oN k)(hb3:¬s<oN k)(qc:Nat→Option Addr×Nat){w:World}(HQ:∀j,Sl w (qc j).1 (nN k j)):Cg 13 #[.agg (crA (k:Int) (nN k) qc),.string t] w (.tuple #[.agg (sgA 0 0),.int .i64 2302]):=by
 have H:=nzB_le (oN_bd k);obtain⟨n,K⟩:=exl (nzB (oN k));rw[K]at h H er es;have Y:Hid (∀w,(∀j,Sl w (qc j).1 (nN k j))→Calls prog 17 #[.agg (crA (k:Int) (nN k) qc)] w (Rt (.c (.int .i64 n)) w)):=fun w HQ=>K▸rnsize qc HQ;obtain⟨m,Z⟩:=exl (2*n)
 have w1:IntKind.i64.wrap (2*(n:Int))=(m:Int):=by rw[IntKind.wrap_i64];omega
 have hl:((t.size:Int) != (m:Int))=false:=by rw[bne_eq_false_iff_eq];omega
 have L:t.data.toList.length=t.size:=rfl;obtain⟨u,eu⟩:∃x:ByteArray,⟨(t.data.toList.take n).toArray⟩=x:=⟨_,rfl⟩;obtain⟨v,I⟩:∃x:ByteArray,⟨(t.data.toList.drop n).toArray⟩=x:=⟨_,rfl⟩;have hr:r<M:=er▸bd_M (bn_bd n (t.data.toList.take n) (by rw[List.length_take];omega)) H;have hs:s<M:=es▸bd_M (bn_bd n (t.data.toList.drop n) (by rw[List.length_drop];omega)) H
 have hu:∀w,(Instr.slice 9 (.string t) none (some (.int .i64 n)) none).run prog w=.ok (.string u) w:=fun w=>by
  have:=slT_lo t n (by omega) w
  rwa [show t.extract 0 n=u by rw[←eu];exact(ex_tx t.data.toList 0 n).trans (by rw[List.drop_zero,Nat.sub_zero])]at this
 have hv:∀w,(Instr.slice 9 (.string t) (some (.int .i64 n)) none none).run prog w=.ok (.string v) w:=fun w=>by
  have:=slT_hi t n (by omega) w
  rwa [show t.extract n t.size=v by rw[←I];exact(ex_tx t.data.toList n t.size).trans (by rw[List.take_of_length_le (by rw[List.length_drop];omega)])]at this
 have P:Hid (∀w,Calls prog 29 #[.string u] w (Nm r w)):=fun w=>by have:=rread_any u (by rw[←eu,sz_tx,List.length_take];omega) w;rwa [show bn u.data.toList=r by rw[←eu];exact er]at this
 have Q:Hid (∀w,Calls prog 29 #[.string v] w (Nm s w)):=fun w=>by have:=rread_any v (by rw[←I,sz_tx,List.length_drop];omega) w;rwa [show bn v.data.toList=s by rw[←I];exact es]at this
 have D:dl (oN k)≤400:=by have:=dl_M _ (oN_bd k);omega
 have R:dl r≤400:=by have:=dl_M r hr;omega
 have S:dl s≤400:=by have:=dl_M s hs;omega
 obtain⟨y,V⟩:=exl (cmpZ r (oN k))
 have hy:¬0≤y:=by rw[←V];exact Int.not_le.2 (cmpN_lt (by omega))
 obtain⟨z,W⟩:=exl (cmpZ s (oN k))
 have hz:0≤z:=by rw[←W];exact cmpN_no (by omega)
 clear K Z h H L eu I er es
 go_enter func13,ntmps13
 go_upto_region 1 with fail
 refine gen_w (fun v=>Gr w v∧Vr v (w.heap.size) (crA (k:Int) (nN k) qc)∧Vr v (w.heap.size+1) (sgA 0 0)) ⟨grA,vrA,vrA⟩ ?_;rintro v0 ⟨G,i,A⟩;replace HQ:=fun j=>(HQ j).gr G;refine wp_wS [.c (.agg (crA (k:Int) (nN k) qc)),.c (.int .i64 n),.c (.int .i64 n)] [0,1] ⟨.g 31 0 i rfl,.k _ fun C B d J=>RtW.of_c (Y.out _ (fun j=>(HQ j).gr d)),⟨⟩⟩ fun aa v1 d h1=>?_;simp only[fzw];clear h1;replace G:=G.trans d;replace i:=i.gr d;replace A:=A.gr d;replace HQ:=fun k=>(HQ k).gr d;clear d
 go_upto_region 2 with fail
 refine wp_wS [.c (.string t),.c (.int .i64 (t.size:Int)),.c (.int .i64 n),.c (.int .i64 m),.F] [3,4] ⟨.s (.binOp .mul 3 (.const (.int .i64 2)) (.const (.int .i64 n)) 3) rfl fun B d=>by simp[go_sem,exI,w1],.s (.binOp .neq 3 (.const (.int .i64 (t.size:Int))) (.const (.int .i64 m)) 3) rfl fun B d=>by simp[go_sem,exI,hl],⟨⟩⟩ fun ab v2 d h2=>?_;simp only[fzw];clear h2;replace G:=G.trans d;replace i:=i.gr d;replace A:=A.gr d;replace HQ:=fun k=>(HQ k).gr d;clear d
 go_upto_region 4 with fail
 refine wp_w [.c (.string t),.c (.int .i64 n),.c (.string u),.n (r),.c (.string t),.c (.int .i64 n),.c (.string v),.n (s),.n (r),.n (s)] [2,3,6,7,8,9] ⟨.s (.slice 9 (.const (.string t)) none (some (.const (.int .i64 n))) none) rfl fun B d=>by simp[go_sem,exI,hu],.k _ fun C B d J=>RtW.of_n (Rt.n (P.out _)),.s (.slice 9 (.const (.string t)) (some (.const (.int .i64 n))) none none) rfl fun B d=>by simp[go_sem,exI,hv],.k _ fun C B d J=>RtW.of_n (Rt.n (Q.out _)),.m 3,.m 7,⟨⟩⟩ fun f X d U=>?_;simp only[fzw];have l:Sl X (f 8 0).1 (r):=U 8;have q:Sl X (f 9 0).1 (s):=U 9;clear U;replace G:=G.trans d;replace i:=i.gr d;replace A:=A.gr d;replace HQ:=fun k=>(HQ k).gr d;clear d
 go_upto_region 5 with fail
 refine wp_wS [.c (.slice (f 8 0).1 (dl (r)) (f 8 0).2),.c (pv (w.heap.size) 4),.c (.slice (qc 3).1 (dl (oN k)) (qc 3).2),.c (.int .i64 y),.F,.F,.c (.slice (f 9 0).1 (dl (s)) (f 9 0).2),.c (pv (w.heap.size) 4),.c (.slice (qc 3).1 (dl (oN k)) (qc 3).2),.c (.int .i64 z),.T,.T] [2,3,4,8,9,10] ⟨.o 29 4 i rfl rfl,.k (fun C =>#[.slice (f 8 0).1 (dl (r)) (f 8 0).2,.slice (qc 3).1 (dl (oN k)) (qc 3).2]) fun C B d J=>RtW.of_c (cz_any (l.gr d) ((HQ 3).gr d) R D V),.s (.binOp .geq 3 (.const (.int .i64 y)) (.const (.int .i64 0)) 3) rfl fun B d=>by simp[go_sem,exI,hy],.o 29 4 i rfl rfl,.k (fun C =>#[.slice (f 9 0).1 (dl (s)) (f 9 0).2,.slice (qc 3).1 (dl (oN k)) (qc 3).2]) fun C B d J=>RtW.of_c (cz_any (q.gr d) ((HQ 3).gr d) S D W),.s (.binOp .geq 3 (.const (.int .i64 z)) (.const (.int .i64 0)) 3) rfl fun B d=>by simp[go_sem,exI,hz],⟨⟩⟩ fun ac v4 d h5=>?_;simp only[fzw];clear h5;replace G:=G.trans d;replace i:=i.gr d;replace A:=A.gr d;replace HQ:=fun k=>(HQ k).gr d;replace l:=l.gr d;replace q:=q.gr d;clear d;have⟨ad,ae,af⟩:=A;clear i A
 go_wp2_with fail
 exact bo2 results13 (rd_sg (by rfl) (by simp[go_sem, *])) ⟨rfl,by exact grB⟩
theorem runraw_2{k:Nat}{t:ByteArray}(h:t.size=2*nzB (oN k)){r s:Nat}(er:bn (t.data.toList.take (nzB (oN k)))=r)(es:bn (t.data.toList.drop (nzB (oN k)))=s)(hb:¬r<oN k)(qc:Nat→Option Addr×Nat){w:World}(HQ:∀j,Sl w (qc j).1 (nN k j)):Cg 13 #[.agg (crA (k:Int) (nN k) qc),.string t] w (.tuple #[.agg (sgA 0 0),.int .i64 2302]):=by
 have C:=nzB_le (oN_bd k);obtain⟨n,I⟩:=exl (nzB (oN k));rw[I]at h C er es;have W:Hid (∀w,(∀j,Sl w (qc j).1 (nN k j))→Calls prog 17 #[.agg (crA (k:Int) (nN k) qc)] w (Rt (.c (.int .i64 n)) w)):=fun w HQ=>I▸rnsize qc HQ;obtain⟨m,X⟩:=exl (2*n)
 have Y:IntKind.i64.wrap (2*(n:Int))=(m:Int):=by rw[IntKind.wrap_i64];omega
 have Z:((t.size:Int) != (m:Int))=false:=by rw[bne_eq_false_iff_eq];omega
 have J:t.data.toList.length=t.size:=rfl;obtain⟨u,eu⟩:∃x:ByteArray,⟨(t.data.toList.take n).toArray⟩=x:=⟨_,rfl⟩;obtain⟨v,D⟩:∃x:ByteArray,⟨(t.data.toList.drop n).toArray⟩=x:=⟨_,rfl⟩;have hr:r<M:=er▸bd_M (bn_bd n (t.data.toList.take n) (by rw[List.length_take];omega)) C;have hs:s<M:=es▸bd_M (bn_bd n (t.data.toList.drop n) (by rw[List.length_drop];omega)) C
 have hu:∀w,(Instr.slice 9 (.string t) none (some (.int .i64 n)) none).run prog w=.ok (.string u) w:=fun w=>by
  have:=slT_lo t n (by omega) w
  rwa [show t.extract 0 n=u by rw[←eu];exact(ex_tx t.data.toList 0 n).trans (by rw[List.drop_zero,Nat.sub_zero])]at this
 have hv:∀w,(Instr.slice 9 (.string t) (some (.int .i64 n)) none none).run prog w=.ok (.string v) w:=fun w=>by
  have:=slT_hi t n (by omega) w
  rwa [show t.extract n t.size=v by rw[←D];exact(ex_tx t.data.toList n t.size).trans (by rw[List.take_of_length_le (by rw[List.length_drop];omega)])]at this
 have K:Hid (∀w,Calls prog 29 #[.string u] w (Nm r w)):=fun w=>by have:=rread_any u (by rw[←eu,sz_tx,List.length_take];omega) w;rwa [show bn u.data.toList=r by rw[←eu];exact er]at this
 have L:Hid (∀w,Calls prog 29 #[.string v] w (Nm s w)):=fun w=>by have:=rread_any v (by rw[←D,sz_tx,List.length_drop];omega) w;rwa [show bn v.data.toList=s by rw[←D];exact es]at this
 have P:dl (oN k)≤400:=by have:=dl_M _ (oN_bd k);omega
 have Q:dl r≤400:=by have:=dl_M r hr;omega
 have aa:dl s≤400:=by have:=dl_M s hs;omega
 obtain⟨y,U⟩:=exl (cmpZ r (oN k))
 have hy:0≤y:=by rw[←U];exact cmpN_no (by omega)
 clear I X h C J eu D er es
 go_enter func13,ntmps13
 go_upto_region 1 with fail
 refine gen_w (fun v=>Gr w v∧Vr v (w.heap.size) (crA (k:Int) (nN k) qc)∧Vr v (w.heap.size+1) (sgA 0 0)) ⟨grA,vrA,vrA⟩ ?_;rintro v0 ⟨G,i,q⟩;replace HQ:=fun j=>(HQ j).gr G;refine wp_wS [.c (.agg (crA (k:Int) (nN k) qc)),.c (.int .i64 n),.c (.int .i64 n)] [0,1] ⟨.g 31 0 i rfl,.k _ fun H A d R=>RtW.of_c (W.out _ (fun j=>(HQ j).gr d)),⟨⟩⟩ fun ab v1 d h1=>?_;simp only[fzw];clear h1;replace G:=G.trans d;replace i:=i.gr d;replace q:=q.gr d;replace HQ:=fun k=>(HQ k).gr d;clear d
 go_upto_region 2 with fail
 refine wp_wS [.c (.string t),.c (.int .i64 (t.size:Int)),.c (.int .i64 n),.c (.int .i64 m),.F] [3,4] ⟨.s (.binOp .mul 3 (.const (.int .i64 2)) (.const (.int .i64 n)) 3) rfl fun A d=>by simp[go_sem,exI,Y],.s (.binOp .neq 3 (.const (.int .i64 (t.size:Int))) (.const (.int .i64 m)) 3) rfl fun A d=>by simp[go_sem,exI,Z],⟨⟩⟩ fun ac v2 d h2=>?_;simp only[fzw];clear h2;replace G:=G.trans d;replace i:=i.gr d;replace q:=q.gr d;replace HQ:=fun k=>(HQ k).gr d;clear d
 go_upto_region 4 with fail
 refine wp_w [.c (.string t),.c (.int .i64 n),.c (.string u),.n (r),.c (.string t),.c (.int .i64 n),.c (.string v),.n (s),.n (r),.n (s)] [2,3,6,7,8,9] ⟨.s (.slice 9 (.const (.string t)) none (some (.const (.int .i64 n))) none) rfl fun A d=>by simp[go_sem,exI,hu],.k _ fun H A d R=>RtW.of_n (Rt.n (K.out _)),.s (.slice 9 (.const (.string t)) (some (.const (.int .i64 n))) none none) rfl fun A d=>by simp[go_sem,exI,hv],.k _ fun H A d R=>RtW.of_n (Rt.n (L.out _)),.m 3,.m 7,⟨⟩⟩ fun f V d S=>?_;simp only[fzw];have l:Sl V (f 8 0).1 (r):=S 8;have B:Sl V (f 9 0).1 (s):=S 9;clear S;replace G:=G.trans d;replace i:=i.gr d;replace q:=q.gr d;replace HQ:=fun k=>(HQ k).gr d;clear d
 go_upto_region 5 with fail
 refine wp_wS [.c (.slice (f 8 0).1 (dl (r)) (f 8 0).2),.c (pv (w.heap.size) 4),.c (.slice (qc 3).1 (dl (oN k)) (qc 3).2),.c (.int .i64 y),.T,.T,.u,.u,.u,.u,.u,.T] [2,3,4] ⟨.o 29 4 i rfl rfl,.k (fun H =>#[.slice (f 8 0).1 (dl (r)) (f 8 0).2,.slice (qc 3).1 (dl (oN k)) (qc 3).2]) fun H A d R=>RtW.of_c (cz_any (l.gr d) ((HQ 3).gr d) Q P U),.s (.binOp .geq 3 (.const (.int .i64 y)) (.const (.int .i64 0)) 3) rfl fun A d=>by simp[go_sem,exI,hy],⟨⟩⟩ fun ad v4 d h5=>?_;simp only[fzw];clear h5;replace G:=G.trans d;replace i:=i.gr d;replace q:=q.gr d;replace HQ:=fun k=>(HQ k).gr d;replace l:=l.gr d;replace B:=B.gr d;clear d;have⟨ae,af,ag⟩:=q;clear i q
 go_wp2_with fail
 exact bo2 results13 (rd_sg (by rfl) (by simp[go_sem, *])) ⟨rfl,by exact grB⟩
theorem runraw_3{k:Nat}{t:ByteArray}(h:t.size≠2*nzB (oN k))(qc:Nat→Option Addr×Nat){w:World}(HQ:∀j,Sl w (qc j).1 (nN k j)):Cg 13 #[.agg (crA (k:Int) (nN k) qc),.string t] w (.tuple #[.agg (sgA 0 0),.int .i64 2301]):=by
 have q:=nzB_le (oN_bd k);obtain⟨n,l⟩:=exl (nzB (oN k));rw[l]at h q;have A:Hid (∀w,(∀j,Sl w (qc j).1 (nN k j))→Calls prog 17 #[.agg (crA (k:Int) (nN k) qc)] w (Rt (.c (.int .i64 n)) w)):=fun w HQ=>l▸rnsize qc HQ;obtain⟨m,B⟩:=exl (2*n)
 have C:IntKind.i64.wrap (2*(n:Int))=(m:Int):=by rw[IntKind.wrap_i64];omega
 have D:((t.size:Int) != (m:Int))=true:=by rw[bne_iff_ne];omega
 clear l B h q
 go_enter func13,ntmps13
 go_upto_region 1 with fail
 refine gen_w (fun v=>Gr w v∧Vr v (w.heap.size) (crA (k:Int) (nN k) qc)∧Vr v (w.heap.size+1) (sgA 0 0)) ⟨grA,vrA,vrA⟩ ?_;rintro R ⟨G,f,i⟩;replace HQ:=fun j=>(HQ j).gr G;refine wp_wS [.c (.agg (crA (k:Int) (nN k) qc)),.c (.int .i64 n),.c (.int .i64 n)] [0,1] ⟨.g 31 0 f rfl,.k _ fun S x d U=>RtW.of_c (A.out _ (fun j=>(HQ j).gr d)),⟨⟩⟩ fun H V d I=>?_;simp only[fzw];clear I;replace G:=G.trans d;replace f:=f.gr d;replace i:=i.gr d;replace HQ:=fun k=>(HQ k).gr d;clear d
 go_upto_region 2 with fail
 refine wp_wS [.c (.string t),.c (.int .i64 (t.size:Int)),.c (.int .i64 n),.c (.int .i64 m),.T] [3,4] ⟨.s (.binOp .mul 3 (.const (.int .i64 2)) (.const (.int .i64 n)) 3) rfl fun x d=>by simp[go_sem,exI,C],.s (.binOp .neq 3 (.const (.int .i64 (t.size:Int))) (.const (.int .i64 m)) 3) rfl fun x d=>by simp[go_sem,exI,D],⟨⟩⟩ fun J W d K=>?_;simp only[fzw];clear K;replace G:=G.trans d;replace f:=f.gr d;replace i:=i.gr d;replace HQ:=fun k=>(HQ k).gr d;clear d;have⟨L,P,Q⟩:=i;clear f i
 go_wp2_with fail
 exact bo2 results13 (rd_sg (by rfl) (by simp[go_sem, *])) ⟨rfl,by exact grB⟩
theorem runraw{k:Nat}(t:ByteArray){X Y:Nat}{E:Int}(h:rawG (oN k) t.data.toList=(X,Y,E))(qc:Nat→Option Addr×Nat){w:World}(HQ:∀j,Sl w (qc j).1 (nN k j)):Cg 13 #[.agg (crA (k:Int) (nN k) qc),.string t] w (.tuple #[.agg (sgA X Y),.int .i64 E]):=by
 have d:t.data.toList.length=t.size:=rfl;unfold rawG at h
 split at h
 ·rename_i hl
  split at h
  ·rename_i hb
   simp only[Prod.mk.injEq]at h;obtain⟨rfl,rfl,rfl⟩:=h;exact runraw_0 (d▸hl) rfl rfl hb.1 hb.2 qc HQ
  ·rename_i hb
   simp only[Prod.mk.injEq]at h;obtain⟨rfl,rfl,rfl⟩:=h
   by_cases h3:bn (t.data.toList.take (nzB (oN k)))<oN k
   ·exact runraw_1 (d▸hl) rfl rfl h3 (fun e=>hb ⟨h3,e⟩) qc HQ
   ·exact runraw_2 (d▸hl) rfl rfl h3 qc HQ
 ·rename_i hl
  simp only[Prod.mk.injEq]at h;obtain⟨rfl,rfl,rfl⟩:=h;exact runraw_3 (d▸hl) qc HQ
end
end
end Go.Proofs.Ytonbpnbhjghfbaa