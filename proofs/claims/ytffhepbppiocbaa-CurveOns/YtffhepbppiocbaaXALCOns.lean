import Derived.Test.YtffhepbppiocbaaXALC
namespace Go.Proofs.Ytffhepbppiocbaa
open Go.RowKit Go.Proofs.Try
set_option maxRecDepth 100000
set_option maxHeartbeats 8000000
section
attribute [local go_sem ↓] uz1
attribute [local go_sem] uz2
section
attribute [local go_sem] uz7
attribute [local go_sem ↓] loadC_is storeC_is loadPt_is storePt_is zvPt_is buildPt_is loadPn_is storePn_is zvPn_is loadCu_is storeCu_is zvCu_is buildCu_is buildPn_is Go.wp_at_zero Go.wp_at_succ
attribute [local go_sem] loadC storeC0 storeCr crA_size loadPt storePt zvPt ptA_size loadPn storePn zvPn pnt_size loadCu storeCu zvCu cu_size buildCu0 buildPnI buildPn2 frz_setBlk blk_setBlk setBlk_setBlk blk_other
theorem lcons_no(id:Int)(h:id<1∨15<id)(x y:Nat)(f:Bool)(w:World):Cg 4 #[.int .i64 id,.agg (pnt x y f)] w (.bool true):=by
 have HG:Hid (∀w,Cg 10 #[.int .i64 id] w (.tuple #[.agg #[.int .i64 0,.slice none 0 0,.slice none 0 0,.slice none 0 0,.slice none 0 0,.slice none 0 0,.slice none 0 0],.bool false])):=fun w=>get_no id h w
 go_enter func4,ntmps4
 go_upto_region 2 with (go_at_call 10;refine hkA HG fun g=>?_)
 refine gen_w (fun v=>Gr w v∧Vr v (w.heap.size) (pnt x y f)) ⟨grA,vrA⟩ ?_;rintro v0 ⟨G,c1⟩;refine wp_region_q (by kernel_rfl) (by kernel_rfl) [.c (.int .i64 id),.c (.agg (pnt x y f)),.c (.bool false),.c (.bool false),.c (.bool false),.top,.top,.top,.top,.c (.bool false),.c (.bool true),.c (.bool true),.c (.bool true),.c (.bool true),.c (.bool true)] ?hs1 ?hf1
 case hs1=>
  intro af d a1 v1 C oo hg l B D H;have ag:blk v1 (w.heap.size)=pnt x y f:=(hg.blk _ c1.p).trans c1.h
  have zi:C<15:=by simpa using (Array.getElem?_eq_some_iff.1 D).1
  obtain rfl|rfl|rfl|rfl|rfl|rfl|rfl|rfl|rfl|rfl|rfl|rfl|rfl|rfl|rfl:C=0∨C=1∨C=2∨C=3∨C=4∨C=5∨C=6∨C=7∨C=8∨C=9∨C=10∨C=11∨C=12∨C=13∨C=14:=by omega
  ·obtain rfl:=Option.some.inj D;have q:=B.old (s:=0) (v:=.int .i64 id) (by kernel_rfl) rfl;refine Or.inl ⟨wanted_no rfl,?_⟩;exact wp_val (.int .i64 id) (by simp[go_sem,q]) ⟨_,rfl,Gr.refl _,rfl⟩
  ·obtain rfl:=Option.some.inj D;have q:=B.old (s:=3) (v:=.pointer (some ⟨w.heap.size,0,none⟩)) (by kernel_rfl) rfl;refine Or.inl ⟨wanted_no rfl,?_⟩;exact wp_val (.agg (pnt x y f)) (by simp[go_sem,q,ag]) ⟨_,rfl,Gr.refl _,rfl⟩
  ·obtain rfl:=Option.some.inj D;have A:=on_of H 0 (by kernel_rfl);have q:=B.at (s:=12) (i:=0) (by kernel_rfl) (by simp) A;have K:d 0=.int .i64 id:=l 0 A;rw[K]at q;have V:=on_of H 1 (by kernel_rfl);have W:=B.at (s:=13) (i:=1) (by kernel_rfl) (by simp) V;have e1:d 1=.agg (pnt x y f):=l 1 V;rw[e1]at W;refine Or.inl ⟨wanted_no rfl,?_⟩;exact wp_retz (k:=.c (.bool false)) (by simp[go_sem,q,W]) (show Calls prog 16 #[.int .i64 id,.agg (pnt x y f)] v1 (Rt (.c (.bool false)) v1) from Rt.c (on13_no id h x y f _)) (fun u w2 hu ae=>⟨_,rfl,ae,hu⟩)
  ·obtain rfl:=Option.some.inj D;have q:=B.old (s:=6) (v:=.bool false) (by kernel_rfl) rfl;refine Or.inl ⟨wanted_no rfl,?_⟩;exact wp_val (.bool false) (by simp[go_sem,q]) ⟨_,rfl,Gr.refl _,rfl⟩
  ·obtain rfl:=Option.some.inj D;have A:=on_of H 3 (by kernel_rfl);have q:=B.at (s:=15) (i:=3) (by kernel_rfl) (by simp) A;have K:d 3=.bool false:=l 3 A;rw[K]at q;refine Or.inl ⟨wanted_no rfl,?_⟩;exact wp_val (.bool false) (by simp[go_sem,q]) ⟨_,rfl,Gr.refl _,rfl⟩
  ·obtain rfl:=Option.some.inj D;have I:=on_of H 4 (by kernel_rfl);have J:=B.at (s:=16) (i:=4) (by kernel_rfl) (by simp) I;rw[show d 4=.bool false from l 4 I]at J;exact Or.inr ⟨unwanted_at (j:=4) (s:=16) rfl rfl rfl J (by decide),trivial⟩
  ·obtain rfl:=Option.some.inj D;have I:=on_of H 4 (by kernel_rfl);have J:=B.at (s:=16) (i:=4) (by kernel_rfl) (by simp) I;rw[show d 4=.bool false from l 4 I]at J;exact Or.inr ⟨unwanted_at (j:=4) (s:=16) rfl rfl rfl J (by decide),trivial⟩
  ·obtain rfl:=Option.some.inj D;have I:=on_of H 4 (by kernel_rfl);have J:=B.at (s:=16) (i:=4) (by kernel_rfl) (by simp) I;rw[show d 4=.bool false from l 4 I]at J;exact Or.inr ⟨unwanted_at (j:=4) (s:=16) rfl rfl rfl J (by decide),trivial⟩
  ·obtain rfl:=Option.some.inj D;have I:=on_of H 4 (by kernel_rfl);have J:=B.at (s:=16) (i:=4) (by kernel_rfl) (by simp) I;rw[show d 4=.bool false from l 4 I]at J;exact Or.inr ⟨unwanted_at (j:=4) (s:=16) rfl rfl rfl J (by decide),trivial⟩
  ·obtain rfl:=Option.some.inj D;have A:=on_of H 4 (by kernel_rfl);have q:=B.at (s:=16) (i:=4) (by kernel_rfl) (by simp) A;have K:d 4=.bool false:=l 4 A;rw[K]at q;have V:=on_of H 8 (by kernel_rfl);have W:=B.at (s:=20) (i:=8) (by kernel_rfl) (by simp) V;refine Or.inl ⟨wanted_no rfl,?_⟩;exact wp_val (.bool false) (by simp[go_sem,q,W]) ⟨_,rfl,Gr.refl _,rfl⟩
  ·obtain rfl:=Option.some.inj D;have A:=on_of H 2 (by kernel_rfl);have q:=B.at (s:=14) (i:=2) (by kernel_rfl) (by simp) A;have K:d 2=.bool false:=l 2 A;rw[K]at q;have V:=on_of H 9 (by kernel_rfl);have W:=B.at (s:=21) (i:=9) (by kernel_rfl) (by simp) V;have e1:d 9=.bool false:=l 9 V;rw[e1]at W;refine Or.inl ⟨wanted_no rfl,?_⟩;exact wp_val (.bool true) (by simp[go_sem,q,W]) ⟨_,rfl,Gr.refl _,rfl⟩
  ·obtain rfl:=Option.some.inj D;have A:=on_of H 10 (by kernel_rfl);have q:=B.at (s:=22) (i:=10) (by kernel_rfl) (by simp) A;have K:d 10=.bool true:=l 10 A;rw[K]at q;refine Or.inl ⟨wanted_no rfl,?_⟩;exact wp_val (.bool true) (by simp[go_sem,q]) ⟨_,rfl,Gr.refl _,rfl⟩
  ·obtain rfl:=Option.some.inj D;have I:=on_of H 11 (by kernel_rfl);have J:=B.at (s:=23) (i:=11) (by kernel_rfl) (by simp) I;rw[show d 11=.bool true from l 11 I]at J;refine Or.inl ⟨wanted_at (j:=11) (s:=23) rfl rfl rfl J,?_⟩;exact wp_retz (k:=.c (.bool true)) (by simp[go_sem]) (show Calls prog 14 #[] v1 (Rt (.c (.bool true)) v1) from Rt.c (awake13_any _)) (fun u w2 hu ae=>⟨_,rfl,ae,hu⟩)
  ·obtain rfl:=Option.some.inj D;have A:=on_of H 11 (by kernel_rfl);have q:=B.at (s:=23) (i:=11) (by kernel_rfl) (by simp) A;have K:d 11=.bool true:=l 11 A;rw[K]at q;have V:=on_of H 12 (by kernel_rfl);have W:=B.at (s:=24) (i:=12) (by kernel_rfl) (by simp) V;have e1:d 12=.bool true:=l 12 V;rw[e1]at W;refine Or.inl ⟨wanted_no rfl,?_⟩;exact wp_val (.bool true) (by simp[go_sem,q,W]) ⟨_,rfl,Gr.refl _,rfl⟩
  ·obtain rfl:=Option.some.inj D;have A:=on_of H 13 (by kernel_rfl);have q:=B.at (s:=25) (i:=13) (by kernel_rfl) (by simp) A;have K:d 13=.bool true:=l 13 A;rw[K]at q;refine Or.inl ⟨wanted_no rfl,?_⟩;exact wp_val (.bool true) (by simp[go_sem,q]) ⟨_,rfl,Gr.refl _,rfl⟩
 case hf1=>
  intro d v1 hg l;have X:d 0=.int .i64 id:=l 0 (by simp);have Y:d 1=.agg (pnt x y f):=l 1 (by simp);have Z:d 2=.bool false:=l 2 (by simp);have aa:d 3=.bool false:=l 3 (by simp);have ab:d 4=.bool false:=l 4 (by simp);have ac:d 9=.bool false:=l 9 (by simp);have L:d 10=.bool true:=l 10 (by simp);have P:d 11=.bool true:=l 11 (by simp);have Q:d 12=.bool true:=l 12 (by simp);have S:d 13=.bool true:=l 13 (by simp);have U:d 14=.bool true:=l 14 (by simp);simp only[putFrom,Act.put,lqA,lqB,lqC,X,Y,Z,aa,ab,ac,L,P,Q,S,U];clear l X Y Z aa ab ac L P Q S U;replace G:=G.trans hg;replace c1:=c1.gr hg;clear hg
  go_wp2_with fail
  go_ret
  exact⟨rfl,G⟩
theorem lcons_yes(k:Nat)(h1:1≤k)(h2:k≤15)(x y:Nat)(f:Bool)(hx:x<M)(hy:y<M)(w:World):Cg 4 #[.int .i64 k,.agg (pnt x y f)] w (.bool true):=by
 have HG:Hid (∀w,Calls prog 10 #[.int .i64 k] w (GetQ k w)):=fun w=>getq_yes k h1 h2 w;obtain⟨r,hr⟩:=exl (onB k x y f)
 go_enter func4,ntmps4
 go_upto_region 2 with (go_at_call 10;refine(HG.out _).mono ?_;rintro e W1 ⟨qc,rfl,HQ,G1⟩)
 obtain⟨e5,ao⟩:=exl (W1.heap.size);simp only[ao]
 refine gen_w (fun v=>Gr w v∧Vr v (w.heap.size) (pnt x y f)∧Vr v e5 (crA (k:Int) (nN k) qc)∧∀j,Sl v (qc j).1 (nN k j)) ?_ ?_
 ·subst ao;exact⟨(((Gr.refl w).alloc _).trans G1).alloc _,((Vr.new w _ _).gr G1).gr ((Gr.refl _).alloc _),Vr.new _ _ _,fun j=>(HQ j).gr ((Gr.refl _).alloc _)⟩
 clear HQ G1 ao;rintro v0 ⟨G,c1,c5,HQ⟩;refine wp_region_q (by kernel_rfl) (by kernel_rfl) [.c (.int .i64 k),.c (.agg (pnt x y f)),.c (.bool r),.c (.bool true),.c (.bool true),.c (.agg (crA (k:Int) (nN k) qc)),.c (.agg (pnt x y f)),.pt (x) (y) f,.c (.bool r),.c (.bool r),.c (.bool true),.c (.bool true),.c (.bool true),.c (.bool true),.c (.bool true)] ?hs2 ?hf2
 case hs2=>
  intro ar d a1 K I oo hg l C J D;have ap:blk K (w.heap.size)=pnt x y f:=(hg.blk _ c1.p).trans c1.h;have au:blk K (e5)=crA (k:Int) (nN k) qc:=(hg.blk _ c5.p).trans c5.h
  have zi:I<15:=by simpa using (Array.getElem?_eq_some_iff.1 J).1
  obtain rfl|rfl|rfl|rfl|rfl|rfl|rfl|rfl|rfl|rfl|rfl|rfl|rfl|rfl|rfl:I=0∨I=1∨I=2∨I=3∨I=4∨I=5∨I=6∨I=7∨I=8∨I=9∨I=10∨I=11∨I=12∨I=13∨I=14:=by omega
  ·obtain rfl:=Option.some.inj J;have A:=C.old (s:=0) (v:=.int .i64 k) (by kernel_rfl) rfl;refine Or.inl ⟨wanted_no rfl,?_⟩;exact wp_val (.int .i64 k) (by simp[go_sem,A]) ⟨_,rfl,Gr.refl _,rfl⟩
  ·obtain rfl:=Option.some.inj J;have A:=C.old (s:=3) (v:=.pointer (some ⟨w.heap.size,0,none⟩)) (by kernel_rfl) rfl;refine Or.inl ⟨wanted_no rfl,?_⟩;exact wp_val (.agg (pnt x y f)) (by simp[go_sem,A,ap]) ⟨_,rfl,Gr.refl _,rfl⟩
  ·obtain rfl:=Option.some.inj J;have B:=on_of D 0 (by kernel_rfl);have A:=C.at (s:=12) (i:=0) (by kernel_rfl) (by simp) B;have H:d 0=.int .i64 k:=l 0 B;rw[H]at A;have P:=on_of D 1 (by kernel_rfl);have Q:=C.at (s:=13) (i:=1) (by kernel_rfl) (by simp) P;have e1:d 1=.agg (pnt x y f):=l 1 P;rw[e1]at Q;refine Or.inl ⟨wanted_no rfl,?_⟩;exact wp_retz (k:=.c (.bool r)) (by simp[go_sem,A,Q]) (show Calls prog 16 #[.int .i64 k,.agg (pnt x y f)] K (Rt (.c (.bool r)) K) from Rt.c (hr▸on13_yes k h1 h2 x y f hx hy _)) (fun u w2 hu L=>⟨_,rfl,L,hu⟩)
  ·obtain rfl:=Option.some.inj J;have A:=C.old (s:=6) (v:=.bool true) (by kernel_rfl) rfl;refine Or.inl ⟨wanted_no rfl,?_⟩;exact wp_val (.bool true) (by simp[go_sem,A]) ⟨_,rfl,Gr.refl _,rfl⟩
  ·obtain rfl:=Option.some.inj J;have B:=on_of D 3 (by kernel_rfl);have A:=C.at (s:=15) (i:=3) (by kernel_rfl) (by simp) B;have H:d 3=.bool true:=l 3 B;rw[H]at A;refine Or.inl ⟨wanted_no rfl,?_⟩;exact wp_val (.bool true) (by simp[go_sem,A]) ⟨_,rfl,Gr.refl _,rfl⟩
  ·obtain rfl:=Option.some.inj J;have S:=on_of D 4 (by kernel_rfl);have U:=C.at (s:=16) (i:=4) (by kernel_rfl) (by simp) S;rw[show d 4=.bool true from l 4 S]at U;have A:=C.old (s:=5) (v:=.pointer (some ⟨e5,0,none⟩)) (by kernel_rfl) rfl;refine Or.inl ⟨wanted_at (j:=4) (s:=16) rfl rfl rfl U,?_⟩;exact wp_val (.agg (crA (k:Int) (nN k) qc)) (by simp[go_sem,A,au]) ⟨_,rfl,Gr.refl _,rfl⟩
  ·obtain rfl:=Option.some.inj J;have S:=on_of D 4 (by kernel_rfl);have U:=C.at (s:=16) (i:=4) (by kernel_rfl) (by simp) S;rw[show d 4=.bool true from l 4 S]at U;have A:=C.old (s:=3) (v:=.pointer (some ⟨w.heap.size,0,none⟩)) (by kernel_rfl) rfl;refine Or.inl ⟨wanted_at (j:=4) (s:=16) rfl rfl rfl U,?_⟩;exact wp_val (.agg (pnt x y f)) (by simp[go_sem,A,ap]) ⟨_,rfl,Gr.refl _,rfl⟩
  ·obtain rfl:=Option.some.inj J;have S:=on_of D 4 (by kernel_rfl);have U:=C.at (s:=16) (i:=4) (by kernel_rfl) (by simp) S;rw[show d 4=.bool true from l 4 S]at U;have B:=on_of D 6 (by kernel_rfl);have A:=C.at (s:=18) (i:=6) (by kernel_rfl) (by simp) B;have H:d 6=.agg (pnt x y f):=l 6 B;rw[H]at A;refine Or.inl ⟨wanted_at (j:=4) (s:=16) rfl rfl rfl U,?_⟩;exact wp_retz (k:=.pt (x) (y) f) (by simp[go_sem,A]) (show Calls prog 18 #[.agg (pnt x y f)] K (Rt (.pt (x) (y) f) K) from rin_any x y f hx hy _) (fun u w2 hu L=>⟨_,rfl,L,hu⟩)
  ·obtain rfl:=Option.some.inj J;have S:=on_of D 4 (by kernel_rfl);have U:=C.at (s:=16) (i:=4) (by kernel_rfl) (by simp) S;rw[show d 4=.bool true from l 4 S]at U;have B:=on_of D 5 (by kernel_rfl);have A:=C.at (s:=17) (i:=5) (by kernel_rfl) (by simp) B;have H:d 5=.agg (crA (k:Int) (nN k) qc):=l 5 B;rw[H]at A;have P:=on_of D 7 (by kernel_rfl);have Q:=C.at (s:=19) (i:=7) (by kernel_rfl) (by simp) P;obtain⟨p1,n1,q1,aq,e1,S1,T1⟩:=(show ∃p n q kp,d 7=.agg (ptA p (x) n q (y) kp f)∧Sl K p (x)∧Sl K q (y) from l 7 P);rw[e1]at Q;refine Or.inl ⟨wanted_at (j:=4) (s:=16) rfl rfl rfl U,?_⟩;exact wp_retz (k:=.c (.bool r)) (by simp[go_sem,A,Q]) (show Calls prog 17 #[.agg (crA (k:Int) (nN k) qc),.agg (ptA p1 (x) n1 q1 (y) aq f)] K (Rt (.c (.bool r)) K) from hr▸ron_any k h1 h2 x y f hx hy qc p1 q1 n1 aq _ (fun k=>(HQ k).gr hg) S1 T1) (fun u w2 hu L=>⟨_,rfl,L,hu⟩)
  ·obtain rfl:=Option.some.inj J;have B:=on_of D 4 (by kernel_rfl);have A:=C.at (s:=16) (i:=4) (by kernel_rfl) (by simp) B;have H:d 4=.bool true:=l 4 B;rw[H]at A;have P:=on_of D 8 (by kernel_rfl);have Q:=C.at (s:=20) (i:=8) (by kernel_rfl) (by simp) P;have e1:d 8=.bool r:=l 8 P;rw[e1]at Q;refine Or.inl ⟨wanted_no rfl,?_⟩;exact wp_val (.bool r) (by simp[go_sem,A,Q]) ⟨_,rfl,Gr.refl _,rfl⟩
  ·obtain rfl:=Option.some.inj J;have B:=on_of D 2 (by kernel_rfl);have A:=C.at (s:=14) (i:=2) (by kernel_rfl) (by simp) B;have H:d 2=.bool r:=l 2 B;rw[H]at A;have P:=on_of D 9 (by kernel_rfl);have Q:=C.at (s:=21) (i:=9) (by kernel_rfl) (by simp) P;have e1:d 9=.bool r:=l 9 P;rw[e1]at Q;refine Or.inl ⟨wanted_no rfl,?_⟩;exact wp_val (.bool true) (by simp[go_sem,A,Q]) ⟨_,rfl,Gr.refl _,rfl⟩
  ·obtain rfl:=Option.some.inj J;have B:=on_of D 10 (by kernel_rfl);have A:=C.at (s:=22) (i:=10) (by kernel_rfl) (by simp) B;have H:d 10=.bool true:=l 10 B;rw[H]at A;refine Or.inl ⟨wanted_no rfl,?_⟩;exact wp_val (.bool true) (by simp[go_sem,A]) ⟨_,rfl,Gr.refl _,rfl⟩
  ·obtain rfl:=Option.some.inj J;have S:=on_of D 11 (by kernel_rfl);have U:=C.at (s:=23) (i:=11) (by kernel_rfl) (by simp) S;rw[show d 11=.bool true from l 11 S]at U;refine Or.inl ⟨wanted_at (j:=11) (s:=23) rfl rfl rfl U,?_⟩;exact wp_retz (k:=.c (.bool true)) (by simp[go_sem]) (show Calls prog 14 #[] K (Rt (.c (.bool true)) K) from Rt.c (awake13_any _)) (fun u w2 hu L=>⟨_,rfl,L,hu⟩)
  ·obtain rfl:=Option.some.inj J;have B:=on_of D 11 (by kernel_rfl);have A:=C.at (s:=23) (i:=11) (by kernel_rfl) (by simp) B;have H:d 11=.bool true:=l 11 B;rw[H]at A;have P:=on_of D 12 (by kernel_rfl);have Q:=C.at (s:=24) (i:=12) (by kernel_rfl) (by simp) P;have e1:d 12=.bool true:=l 12 P;rw[e1]at Q;refine Or.inl ⟨wanted_no rfl,?_⟩;exact wp_val (.bool true) (by simp[go_sem,A,Q]) ⟨_,rfl,Gr.refl _,rfl⟩
  ·obtain rfl:=Option.some.inj J;have B:=on_of D 13 (by kernel_rfl);have A:=C.at (s:=25) (i:=13) (by kernel_rfl) (by simp) B;have H:d 13=.bool true:=l 13 B;rw[H]at A;refine Or.inl ⟨wanted_no rfl,?_⟩;exact wp_val (.bool true) (by simp[go_sem,A]) ⟨_,rfl,Gr.refl _,rfl⟩
 case hf2=>
  intro d K hg l;have aa:d 0=.int .i64 k:=l 0 (by simp);have ab:d 1=.agg (pnt x y f):=l 1 (by simp);have ac:d 2=.bool r:=l 2 (by simp);have ae:d 3=.bool true:=l 3 (by simp);have af:d 4=.bool true:=l 4 (by simp);have ag:d 5=.agg (crA (k:Int) (nN k) qc):=l 5 (by simp);have ah:d 6=.agg (pnt x y f):=l 6 (by simp);obtain⟨aw,ax,ay,av,ai,az,aA⟩:=(show ∃p n q kp,d 7=.agg (ptA p (x) n q (y) kp f)∧Sl K p (x)∧Sl K q (y) from l 7 (by simp));have aj:d 8=.bool r:=l 8 (by simp);have ak:d 9=.bool r:=l 9 (by simp);have V:d 10=.bool true:=l 10 (by simp);have W:d 11=.bool true:=l 11 (by simp);have X:d 12=.bool true:=l 12 (by simp);have Y:d 13=.bool true:=l 13 (by simp);have Z:d 14=.bool true:=l 14 (by simp);simp only[putFrom,Act.put,lqA,lqB,lqC,aa,ab,ac,ae,af,ag,ah,ai,aj,ak,V,W,X,Y,Z];clear l aa ab ac ae af ag ah ai aj ak V W X Y Z;replace G:=G.trans hg;replace c1:=c1.gr hg;replace c5:=c5.gr hg;replace HQ:=fun k=>(HQ k).gr hg;clear hg
  go_wp2_with fail
  go_ret
  exact⟨rfl,G⟩
theorem lcons_any(id:Int)(x y:Nat)(f:Bool)(hx:x<M)(hy:y<M)(w:World):Cg 4 #[.int .i64 id,.agg (pnt x y f)] w (.bool true):=by
 by_cases h:id<1∨15<id
 ·exact lcons_no id h x y f w
 ·obtain⟨k,rfl⟩:=Int.eq_ofNat_of_zero_le (show 0≤id by omega);exact lcons_yes k (by omega) (by omega) x y f hx hy w
end
end
end Go.Proofs.Ytffhepbppiocbaa