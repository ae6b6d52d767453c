import Derived.Test.YtonbpnbhjghfbaaXAZYu
namespace Go.Proofs.Ytonbpnbhjghfbaa
open Go.RowKit Go.Proofs.Try
set_option maxRecDepth 100000
set_option maxHeartbeats 8000000
section
attribute [local go_sem ↓] uz1
attribute [local go_sem] uz2
section
attribute [local go_sem] uz4
attribute [local go_sem ↓] uz7 Go.wp_at_zero Go.wp_at_succ
attribute [local go_sem] uz8
theorem lzrawback_any(id:Int){r t:Nat}(hr:r<M)(ht:t<M)(s:ByteArray)(w:World):Cg 4 #[.int .i64 id,.agg (nw 9 r),.agg (nw 9 t),.string s] w (.bool true):=by
 obtain⟨u,hu,aj,hk⟩:=idx_conv id;have ak:=idx_bd id;obtain⟨k,al⟩:=exl (idx id);rw[al]at hk ak;obtain⟨h1,h2⟩:=ak
 have u0:(0:Int)≤u:=by omega
 have ao:(1:Int)+u%15=k:=by omega
 have ap:IntKind.i64.wrap ((u:Int)%15)=(u:Int)%15:=by rw[IntKind.wrap_i64];omega
 have aq:IntKind.u64.wrap ((u:Int)%15)=(u:Int)%15:=by rw[IntKind.wrap_u64];omega
 have ar:(u:Int).tmod 15=(u:Int)%15:=by rw[Int.tmod_eq_emod_of_nonneg (by omega)]
 have k0:(1:Int)≤k:=by omega
 have k1:(k:Int)≤15:=by omega
 have au:id%18446744073709551616=(u:Int):=by rw[←hu,IntKind.wrap_u64]
 clear al hk;have Z:Hid (∀w,Calls prog 7 #[.int .i64 k] w (GetQ k w)):=fun w=>getq_yes k h1 h2 w;have aa:Hid (∀w,Cg 11 #[] w (.bool true)):=fun w=>awake23_any w;have P:=oN_pos h1 h2
 have av:dl r≤1000:=by have:=dl_M r hr;omega
 have aw:dl t≤1000:=by have:=dl_M t ht;omega
 have ab:dl (oN k)≤1000:=by have:=dl_M _ (oN_bd k);omega
 obtain⟨R,eR⟩:=exl (r%oN k);obtain⟨T,eT⟩:=exl (t%oN k);have lR:R<oN k:=eR▸Nat.mod_lt _ P;have lT:T<oN k:=eT▸Nat.mod_lt _ P;obtain⟨a,ea⟩:∃t:ByteArray,⟨(rawL (oN k) R T).toArray⟩=t:=⟨_,rfl⟩
 have ax:Hid (∀w,Cg 8 #[.int .i64 k,.agg (sgA R T)] w (.tuple #[.string a,.int .i64 0])):=fun w=>by have t:=rwput_yes h1 h2 lR lT w;rwa [ea]at t
 have ay:Hid (∀w,Cg 9 #[.int .i64 k,.string a] w (.tuple #[.agg (sgA R T),.int .i64 0])):=fun w=>ea▸rwget h1 h2 ⟨(rawL (oN k) R T).toArray⟩ (rawG_put lR lT) w;have hn:=nzB_le (oN_bd k);obtain⟨n,en⟩:=exl (nzB (oN k));obtain⟨m,em⟩:=exl (2*n)
 have w1:IntKind.i64.wrap (2*(n:Int))=(m:Int):=by rw[IntKind.wrap_i64];omega
 have az:((a.size:Int) != (m:Int))=false:=by
  rw[bne_eq_false_iff_eq,←ea,sz_tx,rawL_length]
  omega
 have HS:Hid (∀qc w,(∀j,Sl w (qc j).1 (nN k j))→Calls prog 17 #[.agg (crA (k:Int) (nN k) qc)] w (Rt (.c (.int .i64 n)) w)):=fun qc w D=>en▸rnsize qc D;clear en em ea hn lR lT
 rcases rawG_cases (oN k) s.data.toList with ⟨X,Y,lX,lY,eL,hX⟩|⟨E,hE0,hX⟩
 ·skip
  have ac:Hid (∀w,Cg 9 #[.int .i64 k,.string s] w (.tuple #[.agg (sgA X Y),.int .i64 0])):=fun w=>rwget h1 h2 s hX w
  have aC:Hid (∀w,Cg 8 #[.int .i64 k,.agg (sgA X Y)] w (.tuple #[.string s,.int .i64 0])):=fun w=>by have t:=rwput_yes h1 h2 lX lY w;rwa [eL,show (⟨s.data.toList.toArray⟩:ByteArray)=s by rw[Array.toArray_toList]]at t
  clear hX lX lY eL
  go_enter func4,ntmps4
  go_upto_region 1 with fail
  refine gen_w (fun v=>Hid (Gr w v∧Vr v (w.heap.size) (nw 9 r)∧Vr v (w.heap.size+1) (nw 9 t))) ⟨grA,vrA,vrA⟩ ?_;intro u0 HV
  go_upto_region 6 with (first
   | (go_at_call 11;refine(aa.out _).mono ?_;rintro e WA ⟨rfl,GA⟩)
   | (go_at_call 7;refine(Z.out _).mono ?_;rintro e WB ⟨qc,rfl,D,GB⟩))
  obtain⟨L,K⟩:=exl (WB.heap.size);simp only[K]
  refine gen_w (fun v=>Gr w v∧Vr v (w.heap.size) (nw 9 r)∧Vr v (w.heap.size+1) (nw 9 t)∧Vr v L (crA (k:Int) (nN k) qc)∧∀j,Sl v (qc j).1 (nN k j)) ?_ ?_
  ·subst K;obtain⟨G,Q,S⟩:=HV.out;have g1:Gr WB (WB.alloc (.cells (crA (k:Int) (nN k) qc) 31)):=(Gr.refl _).alloc _;have g:=(GA.trans GB).trans g1;exact⟨G.trans g,Q.gr g,S.gr g,Vr.new _ _ _,fun j=>(D j).gr g1⟩
  clear K GB Z HV GA aa D hu aj ao ap aq ar au u0 k0 k1;rintro v0 ⟨G,Q,S,I,D⟩;refine wp_v true [.N r,.n (r),.c (pv L 4),.c (.slice (qc 3).1 (dl (oN k)) (qc 3).2),.n (R),.N R,.N t,.n (t),.c (pv L 4),.c (.slice (qc 3).1 (dl (oN k)) (qc 3).2),.n (T),.N T,.c (.agg (sgA R T)),.a,.u] [0,1,3,4,5,6,7,9,10,11,12] [⟨13,14,27,sgA 0 0,fun _=>sgA R T⟩] ⟨.g 25 0 Q rfl,.k _ fun i A d C=>RtW.of_n (fm_any hr),.o 29 4 I rfl rfl,.k (fun i =>#[.slice (i 1 0).1 (dl (r)) (i 1 0).2,.slice (qc 3).1 (dl (oN k)) (qc 3).2]) fun i A d C=>RtW.of_n (Rt.n (eR▸rmod_any r (oN k) _ _ _ _ _ (C 1 rfl) ((D 3).gr d) av ab P)),.k (fun i =>#[.slice (i 4 0).1 (dl (R)) (i 4 0).2]) fun i A d C=>RtW.of_c (nt_any (C 4 rfl)),.g 25 0 S rfl,.k _ fun i A d C=>RtW.of_n (fm_any ht),.o 29 4 I rfl rfl,.k (fun i =>#[.slice (i 7 0).1 (dl (t)) (i 7 0).2,.slice (qc 3).1 (dl (oN k)) (qc 3).2]) fun i A d C=>RtW.of_n (Rt.n (eT▸rmod_any t (oN k) _ _ _ _ _ (C 7 rfl) ((D 3).gr d) aw ab P)),.k (fun i =>#[.slice (i 10 0).1 (dl (T)) (i 10 0).2]) fun i A d C=>RtW.of_c (nt_any (C 10 rfl)),.s (.build 27 #[(0,(.const (.agg (nw 9 R)))),(1,(.const (.agg (nw 9 T))))]) rfl fun A d=>by simp[go_sem,exI,buildSg2],⟨⟩⟩ ⟨.k zSg ⟨fkc,fkn bSg,fkc,fkc,fkn bSg,fkc,fkc,fkn bSg,fkc,fkc,fkn bSg,fkc,fkc,fka,fku,trivial⟩,⟨⟩⟩ fun U v1 d h6 ad=>?_;simp only[fzw,Kw.a];obtain⟨⟨ae,h⟩,-⟩:(v0.heap.size≤(U 13 0).2∧Vr v1 (U 13 0).2 (sgA R T))∧True:=ad;clear h6;have f:=d;clear d
  go_upto_region 7 with fail
  refine wp_wS [.c (pv L 0),.c (.int .i64 k),.c (.agg (sgA R T)),.E (.string a),.E (.string a),.c (.string a),.O,.c (.string a),.O] [1,2,3] ⟨.o 3 0 (I.gr f) rfl rfl,.g 27 0 h rfl,.z ax.out,⟨⟩⟩ fun aD v2 d h7=>?_;simp only[fzw];clear h7;replace f:=f.trans d;have q:=d;clear d
  go_upto_region 8 with fail
  refine wp_v false [.c (pv L 0),.c (.int .i64 k),.c (.string a),.E (.agg (sgA R T)),.E (.agg (sgA R T)),.c (.agg (sgA R T)),.O,.a,.u,.O] [1,3] [⟨7,8,27,sgA 0 0,fun _=>sgA R T⟩] ⟨.o 3 0 (I.gr f) rfl rfl,.z ay.out,⟨⟩⟩ ⟨.k zSg (.t rfl),⟨⟩⟩ fun V v3 d h8 af=>?_;simp only[fzw,Kw.a];obtain⟨⟨aA,B⟩,-⟩:(v2.heap.size≤(V 7 0).2∧Vr v3 (V 7 0).2 (sgA R T))∧True:=af;clear h8;replace f:=f.trans d;replace q:=q.trans d;clear d
  go_upto_region 9 with fail
  refine wp_wS [.O,.O,.F,.F,.O,.O,.F,.F,.F,.c (.agg (sgA R T)),.c (.agg (sgA R T)),.F,.F,.F,.c (.string a),.c (.int .i64 (a.size:Int)),.c (.agg (crA (k:Int) (nN k) qc)),.c (.int .i64 n),.c (.int .i64 m),.F,.F] [1,5,9,10,11,16,17,18,19] ⟨.y (num_any _),.y (num_any _),.g 27 0 B rfl,.g 27 0 (h.gr q) rfl,.s (.binOp .neq 27 (.const (.agg (sgA R T))) (.const (.agg (sgA R T))) 27) rfl fun A d=>by simp[go_sem,exI,neSg,eqN_self],.g 31 0 (I.gr f) rfl,.k _ fun i A d C=>RtW.of_c (HS.out _ _ (fun j=>(D j).gr (f.trans d))),.s (.binOp .mul 3 (.const (.int .i64 2)) (.const (.int .i64 n)) 3) rfl fun A d=>by simp[go_sem,exI,w1],.s (.binOp .neq 3 (.const (.int .i64 (a.size:Int))) (.const (.int .i64 m)) 3) rfl fun A d=>by simp[go_sem,exI,az],⟨⟩⟩ fun aE v4 d h9=>?_;simp only[fzw];clear h9;replace f:=f.trans d;replace q:=q.trans d;have H:=d;clear d
  go_upto_region 11 with fail
  refine wp_v false [.c (pv L 0),.c (.int .i64 k),.c (.string s),.E (.agg (sgA X Y)),.E (.agg (sgA X Y)),.c (.agg (sgA X Y)),.O,.a,.u,.O] [1,3] [⟨7,8,27,sgA 0 0,fun _=>sgA X Y⟩] ⟨.o 3 0 (I.gr f) rfl rfl,.z ac.out,⟨⟩⟩ ⟨.k zSg (.t rfl),⟨⟩⟩ fun J v5 d ag W=>?_;simp only[fzw,Kw.a];obtain⟨⟨ah,l⟩,-⟩:(v4.heap.size≤(J 7 0).2∧Vr v5 (J 7 0).2 (sgA X Y))∧True:=W;clear ag;replace f:=f.trans d;replace q:=q.trans d;replace H:=H.trans d;clear d
  go_upto_region 12 with fail
  refine wp_wS [.O,.O,.F] [1] ⟨.y (num_any _),⟨⟩⟩ fun aB v6 d ai=>?_;simp only[fzw];clear ai;replace f:=f.trans d;replace q:=q.trans d;replace H:=H.trans d;have x:=d;clear d
  go_upto_region 14 with fail
  refine wp_wS [.c (pv L 0),.c (.int .i64 k),.c (.agg (sgA X Y)),.E (.string s),.E (.string s),.c (.string s),.O,.c (.string s),.O] [1,2,3] ⟨.o 3 0 (I.gr f) rfl rfl,.g 27 0 (l.gr x) rfl,.z aC.out,⟨⟩⟩ fun aI v7 d aF=>?_;simp only[fzw];clear aF;replace x:=x.trans d;replace f:=f.trans d;replace q:=q.trans d;replace H:=H.trans d;clear d
  go_upto_region 15 with fail
  refine wp_wS [.O,.O,.T,.T,.c (.string s),.c (.string s),.T,.T,.T] [1,6] ⟨.y (num_any _),.s (.binOp .eql 9 (.const (.string s)) (.const (.string s)) 9) rfl fun A d=>by simp[go_sem,exI],⟨⟩⟩ fun aJ v8 d aG=>?_;simp only[fzw];clear aG;replace x:=x.trans d;replace f:=f.trans d;replace q:=q.trans d;replace H:=H.trans d;clear d;replace G:=G.trans f;replace Q:=Q.gr f;replace S:=S.gr f;replace I:=I.gr f;replace D:=fun k=>(D k).gr f;replace h:=h.gr q;replace B:=B.gr H;replace l:=l.gr x;clear x f q H
  go_wp2_with fail
  go_ret
  exact⟨rfl,G⟩
 ·skip
  have ac:Hid (∀w,Cg 9 #[.int .i64 k,.string s] w (.tuple #[.agg (sgA 0 0),.int .i64 E])):=fun w=>rwget h1 h2 s hX w
  have hE:(E != 0)=true:=by rcases hE0 with rfl|rfl <;> rfl
  clear hX hE0
  go_enter func4,ntmps4
  go_upto_region 1 with fail
  refine gen_w (fun v=>Hid (Gr w v∧Vr v (w.heap.size) (nw 9 r)∧Vr v (w.heap.size+1) (nw 9 t))) ⟨grA,vrA,vrA⟩ ?_;intro u0 HV
  go_upto_region 6 with (first
   | (go_at_call 11;refine(aa.out _).mono ?_;rintro e WA ⟨rfl,GA⟩)
   | (go_at_call 7;refine(Z.out _).mono ?_;rintro e WB ⟨qc,rfl,D,GB⟩))
  obtain⟨L,K⟩:=exl (WB.heap.size);simp only[K]
  refine gen_w (fun v=>Gr w v∧Vr v (w.heap.size) (nw 9 r)∧Vr v (w.heap.size+1) (nw 9 t)∧Vr v L (crA (k:Int) (nN k) qc)∧∀j,Sl v (qc j).1 (nN k j)) ?_ ?_
  ·subst K;obtain⟨G,Q,S⟩:=HV.out;have g1:Gr WB (WB.alloc (.cells (crA (k:Int) (nN k) qc) 31)):=(Gr.refl _).alloc _;have g:=(GA.trans GB).trans g1;exact⟨G.trans g,Q.gr g,S.gr g,Vr.new _ _ _,fun j=>(D j).gr g1⟩
  clear K GB Z HV GA aa D hu aj ao ap aq ar au u0 k0 k1;rintro v0 ⟨G,Q,S,I,D⟩;refine wp_v true [.N r,.n (r),.c (pv L 4),.c (.slice (qc 3).1 (dl (oN k)) (qc 3).2),.n (R),.N R,.N t,.n (t),.c (pv L 4),.c (.slice (qc 3).1 (dl (oN k)) (qc 3).2),.n (T),.N T,.c (.agg (sgA R T)),.a,.u] [0,1,3,4,5,6,7,9,10,11,12] [⟨13,14,27,sgA 0 0,fun _=>sgA R T⟩] ⟨.g 25 0 Q rfl,.k _ fun i A d C=>RtW.of_n (fm_any hr),.o 29 4 I rfl rfl,.k (fun i =>#[.slice (i 1 0).1 (dl (r)) (i 1 0).2,.slice (qc 3).1 (dl (oN k)) (qc 3).2]) fun i A d C=>RtW.of_n (Rt.n (eR▸rmod_any r (oN k) _ _ _ _ _ (C 1 rfl) ((D 3).gr d) av ab P)),.k (fun i =>#[.slice (i 4 0).1 (dl (R)) (i 4 0).2]) fun i A d C=>RtW.of_c (nt_any (C 4 rfl)),.g 25 0 S rfl,.k _ fun i A d C=>RtW.of_n (fm_any ht),.o 29 4 I rfl rfl,.k (fun i =>#[.slice (i 7 0).1 (dl (t)) (i 7 0).2,.slice (qc 3).1 (dl (oN k)) (qc 3).2]) fun i A d C=>RtW.of_n (Rt.n (eT▸rmod_any t (oN k) _ _ _ _ _ (C 7 rfl) ((D 3).gr d) aw ab P)),.k (fun i =>#[.slice (i 10 0).1 (dl (T)) (i 10 0).2]) fun i A d C=>RtW.of_c (nt_any (C 10 rfl)),.s (.build 27 #[(0,(.const (.agg (nw 9 R)))),(1,(.const (.agg (nw 9 T))))]) rfl fun A d=>by simp[go_sem,exI,buildSg2],⟨⟩⟩ ⟨.k zSg ⟨fkc,fkn bSg,fkc,fkc,fkn bSg,fkc,fkc,fkn bSg,fkc,fkc,fkn bSg,fkc,fkc,fka,fku,trivial⟩,⟨⟩⟩ fun U v1 d h6 ad=>?_;simp only[fzw,Kw.a];obtain⟨⟨ae,h⟩,-⟩:(v0.heap.size≤(U 13 0).2∧Vr v1 (U 13 0).2 (sgA R T))∧True:=ad;clear h6;have f:=d;clear d
  go_upto_region 7 with fail
  refine wp_wS [.c (pv L 0),.c (.int .i64 k),.c (.agg (sgA R T)),.E (.string a),.E (.string a),.c (.string a),.O,.c (.string a),.O] [1,2,3] ⟨.o 3 0 (I.gr f) rfl rfl,.g 27 0 h rfl,.z ax.out,⟨⟩⟩ fun aD v2 d h7=>?_;simp only[fzw];clear h7;replace f:=f.trans d;have q:=d;clear d
  go_upto_region 8 with fail
  refine wp_v false [.c (pv L 0),.c (.int .i64 k),.c (.string a),.E (.agg (sgA R T)),.E (.agg (sgA R T)),.c (.agg (sgA R T)),.O,.a,.u,.O] [1,3] [⟨7,8,27,sgA 0 0,fun _=>sgA R T⟩] ⟨.o 3 0 (I.gr f) rfl rfl,.z ay.out,⟨⟩⟩ ⟨.k zSg (.t rfl),⟨⟩⟩ fun V v3 d h8 af=>?_;simp only[fzw,Kw.a];obtain⟨⟨aA,B⟩,-⟩:(v2.heap.size≤(V 7 0).2∧Vr v3 (V 7 0).2 (sgA R T))∧True:=af;clear h8;replace f:=f.trans d;replace q:=q.trans d;clear d
  go_upto_region 9 with fail
  refine wp_wS [.O,.O,.F,.F,.O,.O,.F,.F,.F,.c (.agg (sgA R T)),.c (.agg (sgA R T)),.F,.F,.F,.c (.string a),.c (.int .i64 (a.size:Int)),.c (.agg (crA (k:Int) (nN k) qc)),.c (.int .i64 n),.c (.int .i64 m),.F,.F] [1,5,9,10,11,16,17,18,19] ⟨.y (num_any _),.y (num_any _),.g 27 0 B rfl,.g 27 0 (h.gr q) rfl,.s (.binOp .neq 27 (.const (.agg (sgA R T))) (.const (.agg (sgA R T))) 27) rfl fun A d=>by simp[go_sem,exI,neSg,eqN_self],.g 31 0 (I.gr f) rfl,.k _ fun i A d C=>RtW.of_c (HS.out _ _ (fun j=>(D j).gr (f.trans d))),.s (.binOp .mul 3 (.const (.int .i64 2)) (.const (.int .i64 n)) 3) rfl fun A d=>by simp[go_sem,exI,w1],.s (.binOp .neq 3 (.const (.int .i64 (a.size:Int))) (.const (.int .i64 m)) 3) rfl fun A d=>by simp[go_sem,exI,az],⟨⟩⟩ fun aE v4 d h9=>?_;simp only[fzw];clear h9;replace f:=f.trans d;replace q:=q.trans d;have H:=d;clear d
  go_upto_region 11 with fail
  refine wp_v false [.c (pv L 0),.c (.int .i64 k),.c (.string s),.c (.tuple #[.agg (sgA 0 0),.int .i64 E]),.c (.tuple #[.agg (sgA 0 0),.int .i64 E]),.c (.agg (sgA 0 0)),.c (.int .i64 E),.a,.u,.c (.int .i64 E)] [1,3] [⟨7,8,27,sgA 0 0,fun _=>sgA 0 0⟩] ⟨.o 3 0 (I.gr f) rfl rfl,.z ac.out,⟨⟩⟩ ⟨.k zSg (.t rfl),⟨⟩⟩ fun J v5 d ag W=>?_;simp only[fzw,Kw.a];obtain⟨⟨ah,l⟩,-⟩:(v4.heap.size≤(J 7 0).2∧Vr v5 (J 7 0).2 (sgA 0 0))∧True:=W;clear ag;replace f:=f.trans d;replace q:=q.trans d;replace H:=H.trans d;clear d
  go_upto_region 12 with fail
  refine wp_wS [.c (.int .i64 E),.c (.int .i64 E),.T] [1,2] ⟨.y (num_any _),.s (.binOp .neq 3 (.const (.int .i64 E)) (.const (.int .i64 0)) 3) rfl fun A d=>by simp[go_sem,exI,hE],⟨⟩⟩ fun aB v6 d ai=>?_;simp only[fzw];clear ai;replace f:=f.trans d;replace q:=q.trans d;replace H:=H.trans d;have x:=d;clear d
  go_upto_region 13 with fail
  refine wp_wS [.c (.agg (sgA 0 0)),.c (.agg (sgA 0 0)),.T,.T] [0,2] ⟨.g 27 0 (l.gr x) rfl,.s (.binOp .eql 27 (.const (.agg (sgA 0 0))) (.const (.agg (sgA 0 0))) 27) rfl fun A d=>by simp[go_sem,exI,eqSg,eqN_self],⟨⟩⟩ fun aK v7 d aH=>?_;simp only[fzw];clear aH;replace x:=x.trans d;replace f:=f.trans d;replace q:=q.trans d;replace H:=H.trans d;clear d;replace G:=G.trans f;replace Q:=Q.gr f;replace S:=S.gr f;replace I:=I.gr f;replace D:=fun k=>(D k).gr f;replace h:=h.gr q;replace B:=B.gr H;replace l:=l.gr x;clear x f q H
  go_wp2_with fail
  go_ret
  exact⟨rfl,G⟩
end
end
end Go.Proofs.Ytonbpnbhjghfbaa