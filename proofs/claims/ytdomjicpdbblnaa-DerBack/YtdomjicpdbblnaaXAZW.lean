import Derived.Test.YtdomjicpdbblnaaXAZN
import Derived.Test.YtdomjicpdbblnaaXAZP
namespace Go.Proofs.Ytdomjicpdbblnaa
open Go.RowKit Go.Proofs.Try
set_option maxRecDepth 100000
set_option maxHeartbeats 8000000
section
attribute [local go_sem ↓] uz1
attribute [local go_sem] uz2
section
attribute [local go_sem] uz4
attribute [local go_sem ↓] uz7 Go.wp_at_zero Go.wp_at_succ
attribute [local go_sem] uz8
theorem Rd.new{w v u:World}{p:Nat}{m:List UInt8}(h:Gr w v)(hp:w.heap.size≤p)(k:Rd v p m u):Gr w u:=(gr_setNew h hp).trans k
theorem Rd.oth{w v:World}{p b:Nat}{m:List UInt8}{c:Array Value}(hb:Vr w b c)(hn:p≠b)(k:Rd w p m v):Vr v b c:=(hb.other hn).gr k
theorem dget_any{l:List UInt8}{r s:Nat}{e:Int}(h:getA l=(r,s,e))(w:World):
 Calls prog 9 #[.string ⟨l.toArray⟩] w fun x w'=>x=.returned (.tuple #[.agg (sgA r s),.int .i64 e])∧Gr w w':=by
 obtain⟨⟨i,m⟩,e1⟩:∃x,fdR l=x:=⟨_,rfl⟩;obtain⟨⟨f,j⟩,e2⟩:∃x,fdR i=x:=⟨_,rfl⟩;obtain⟨⟨g,n⟩,D⟩:∃x,fdR j=x:=⟨_,rfl⟩;obtain⟨a,V⟩:=exl (nbR f);obtain⟨b,W⟩:=exl (nbR g);have ha:a<M:=V▸nbR_lt f;have hb:b<M:=W▸nbR_lt g
 have eg:gtR l=(a,b):=by rw[gtR,e1,e2,D,V,W]
 obtain⟨o,eo⟩:∃o:ByteArray,⟨(derD a b).toArray⟩=o:=⟨_,rfl⟩;obtain⟨t,X⟩:∃t:ByteArray,⟨l.toArray⟩=t:=⟨_,rfl⟩;have HP:Hid (∀w,Cg 11 #[.agg (sgA a b)] w (.string o)):=fun w=>eo▸dput_any ha hb w
 have HF:Hid (∀v p,Vr v p #[.string t]→Calls prog 18 #[.pointer (some ⟨p,0,none⟩)] v fun e w'=>e=.returned (.string ⟨i.toArray⟩)∧Rd v p m w'):=fun v p H=>by
  have:=field_of l (by rw[X];exact H);rw[e1]at this;exact this
 have HA:Hid (∀v p,Vr v p #[.string ⟨i.toArray⟩]→Calls prog 19 #[.pointer (some ⟨p,0,none⟩)] v fun e w'=>e=.returned (.agg (nw 9 a))∧Rd v p j w'):=fun v p H=>by
  have:=rdnum_of i H;rw[e2,V]at this;exact this
 have HB:Hid (∀v p,Vr v p #[.string ⟨j.toArray⟩]→Calls prog 19 #[.pointer (some ⟨p,0,none⟩)] v fun e w'=>e=.returned (.agg (nw 9 b))∧Rd v p n w'):=fun v p H=>by
  have:=rdnum_of j H;rw[D,W]at this;exact this
 have hq:(o=t∧r=a∧s=b∧e=0)∨(o≠t∧r=0∧s=0∧e=2200):=by
  have I:o=t↔derD a b=l:=by
   rw[←eo,←X];simp
  rw[getA,eg]at h;simp only at h
  split at h
  ·rename_i q
   simp only[Prod.mk.injEq]at h;exact Or.inl ⟨I.2 q,h.1.symm,h.2.1.symm,h.2.2.symm⟩
  ·rename_i q
   simp only[Prod.mk.injEq]at h;exact Or.inr ⟨fun z=>q (I.1 z),h.1.symm,h.2.1.symm,h.2.2.symm⟩
 rw[X];clear e1 e2 D V W ha hb eg eo X h
 go_enter func9,ntmps9
 go_upto_region 1 with fail
 refine gen_w (fun v=>Gr w v∧Vr v w.heap.size (sgA 0 0)) ⟨grA,vrA⟩ ?_;rintro v0 ⟨G0,c0⟩
 go_upto_region 2 with fail
 refine gen_w (fun v=>Gr v0 v∧Vr v v0.heap.size #[.string t]) ⟨grA,vrA⟩ ?_;rintro v1 ⟨G1,c1⟩
 go_upto_region 3 with (go_at_call 18;refine(HF.out _ _ c1).mono ?_;rintro e Y ⟨rfl,g1⟩)
 have G:=Rd.new (G0.trans G1) G0.below.size g1;have c:=Rd.oth (c0.gr G1) (by have:=c0.p;unfold Pre at this;omega) g1;clear HF G0 G1 c0 c1 g1;refine gen_w (fun v=>Gr w v∧Vr v w.heap.size (sgA 0 0)∧Vr v Y.heap.size #[.string ⟨i.toArray⟩]) ⟨(by exact grB),c.gr grA,vrA⟩ ?_;rintro A ⟨G2,c2,Z⟩;have l2:w.heap.size<Y.heap.size:=c.p;have l3:Y.heap.size<A.heap.size:=Z.p;clear G c
 go_upto_region 4 with fail
 refine gen_w (fun v=>Gr A v∧Vr v A.heap.size (sgA 0 0)) ⟨grA,vrA⟩ ?_;rintro v3 ⟨J,D⟩
 go_upto_region 5 with (go_at_call 19;refine(HA.out _ _ (Z.gr J)).mono ?_;rintro e w3 ⟨rfl,K⟩;have L:=Rd.oth D (Nat.ne_of_lt l3) K;have aa:=L.h;have ab:=L.f;have ac:=L.p)
 have G:=Rd.new (G2.trans J) (Nat.le_of_lt l2) K;have c:=(Rd.oth (c2.gr J) (by omega) K).other (d:=sgA a 0) (k:=A.heap.size) (by omega);have d:=(Rd.vr (Z.gr J) K).other (d:=sgA a 0) (k:=A.heap.size) (by omega);have P:=L.set (by rw[sgA_size];decide) (sgA a 0);refine gen_w (fun v=>Gr w v∧Vr v w.heap.size (sgA 0 0)∧Vr v Y.heap.size #[.string ⟨j.toArray⟩]∧Vr v A.heap.size (sgA a 0)) ⟨gr_setNew G (by omega),c,d,P⟩ ?_;clear G c d P G2 c2 Z J D L aa ab ac K;rintro v4 ⟨G4,c4,d4,P⟩
 go_upto_region 6 with (go_at_call 19;refine(HB.out _ _ d4).mono ?_;rintro e w5 ⟨rfl,g5⟩;have Q:=Rd.oth P (Nat.ne_of_lt l3) g5;have ad:=Q.h;have ae:=Q.f;have af:=Q.p)
 have G:=Rd.new G4 (Nat.le_of_lt l2) g5;have c:=(Rd.oth c4 (by omega) g5).other (d:=sgA a b) (k:=A.heap.size) (by omega);have e5:=Q.set (by rw[sgA_size];decide) (sgA a b);refine gen_w (fun v=>Gr w v∧Vr v w.heap.size (sgA 0 0)∧Vr v A.heap.size (sgA a b)) ⟨gr_setNew G (by omega),c,e5⟩ ?_;clear G c e5 G4 c4 d4 P Q ad ae af g5;rintro v6 ⟨G6,c6,R⟩
 have l5:w.heap.size≠A.heap.size:=by omega
 have h6:=R.h
 have ag:(blk v6 A.heap.size).size=18:=by rw[h6,sgA_size]
 rcases hq with ⟨rfl,rfl,rfl,rfl⟩|⟨hn,rfl,rfl,rfl⟩
 ·go_wp2_with (go_at_call 11;refine(HP.out _).mono ?_;rintro e S ⟨rfl,B⟩;have U:=R.gr B;have C:=c6.gr B;have h8:=U.h;have h9:=C.h;have f9:=C.f;have p9:=C.p;have s8:(blk S A.heap.size).size=18:=(by rw[h8,sgA_size]);have s9:(blk S w.heap.size).size=18:=(by rw[h9,sgA_size]);have G:=G6.trans B;clear U C B G6 c6 R)
  exact bodyPost_ret (res_two results9 (rd_sg (by rfl) (blk_setBlk _ _ _ (by rw[s9];decide))) (by rfl)) rfl ⟨rfl,gr_setNew G (by omega)⟩
 ·have ah:(o.toList==t.toList)=false:=by
   rw[beq_eq_false_iff_ne];exact fun z=>hn (ByteArray.ext (Array.ext' (by rw[←Lib.toList_data,←Lib.toList_data,z])))
  go_wp2_with (go_at_call 11;refine(HP.out _).mono ?_;rintro e S ⟨rfl,B⟩;have U:=R.gr B;have C:=c6.gr B;have h8:=U.h;have h9:=C.h;have f9:=C.f;have p9:=C.p;have s8:(blk S A.heap.size).size=18:=(by rw[h8,sgA_size]);have s9:(blk S w.heap.size).size=18:=(by rw[h9,sgA_size]);have G:=G6.trans B;clear U C B G6 c6 R)
  exact bodyPost_ret (res_two results9 (rd_sg (by rfl) (blk_setBlk _ _ _ (by rw[s9];decide))) (by rfl)) rfl ⟨rfl,gr_setNew G (by omega)⟩
end
section
attribute [local go_sem] uz4
attribute [local go_sem ↓] uz7 Go.wp_at_zero Go.wp_at_succ
attribute [local go_sem] uz8
theorem awake22_any(w:World):Cg 15 #[] w (.bool true):=by
 have I:Hid (∀w,Cg 11 #[.agg (sgA 128 0)] w (.string ⟨#[48,7,2,2,0,128,2,1,0]⟩)):=fun w=>by have t:=dput_any (r:=128) (s:=0) (by decide +kernel) (by decide +kernel) w;rwa [show derD 128 0=[48,7,2,2,0,128,2,1,0] by decide +kernel]at t
 have o:Hid (∀w,Cg 9 #[.string ⟨#[48,7,2,2,0,128,2,1,0]⟩] w (.tuple #[.agg (sgA 128 0),.int .i64 0])):=fun w=>dget_any (l:=[48,7,2,2,0,128,2,1,0]) (by decide +kernel) w;have p:Hid (∀w,Cg 9 #[.string ⟨#[48,6,2,1,128,2,1,0]⟩] w (.tuple #[.agg (sgA 0 0),.int .i64 2200])):=fun w=>dget_any (l:=[48,6,2,1,128,2,1,0]) (by decide +kernel) w
 go_enter func15,ntmps15
 go_upto_region 1 with fail
 refine gen_w (fun v=>Gr w v) (by exact grA) ?_;intro V G;refine wp_wS [.N 128,.N 0,.c (.agg (sgA 128 0)),.c (.string ⟨#[48,7,2,2,0,128,2,1,0]⟩),.c (.string ⟨#[48,7,2,2,0,128,2,1,0]⟩)] [0,1,2,3] ⟨.z (one_any 128 (by decide)),.z (one_any 0 (by decide)),.s (.build 27 #[(0,(.const (.agg (nw 9 128)))),(1,(.const (.agg (nw 9 0))))]) rfl fun q b=>by simp[go_sem,exI,buildSg2],.z I.out,⟨⟩⟩ fun J K b L=>?_;simp only[fzw];clear L;have f:=b;clear b
 go_upto_region 2 with fail
 refine wp_v false [.c (.string ⟨#[48,7,2,2,0,128,2,1,0]⟩),.E (.agg (sgA 128 0)),.E (.agg (sgA 128 0)),.c (.agg (sgA 128 0)),.O,.a,.u,.O] [1] [⟨5,6,27,sgA 0 0,fun _=>sgA 128 0⟩] ⟨.z o.out,⟨⟩⟩ ⟨.k zSg (.t rfl),⟨⟩⟩ fun i B b P x=>?_;simp only[fzw,Kw.a];obtain⟨⟨C,d⟩,-⟩:(K.heap.size≤(i 5 0).2∧Vr B (i 5 0).2 (sgA 128 0))∧True:=x;clear P;replace f:=f.trans b;clear b
 go_upto_region 3 with fail
 refine wp_v false [.c (.tuple #[.agg (sgA 0 0),.int .i64 2200]),.c (.tuple #[.agg (sgA 0 0),.int .i64 2200]),.c (.agg (sgA 0 0)),.c (.int .i64 2200),.a,.u,.c (.int .i64 2200)] [0] [⟨4,5,27,sgA 0 0,fun _=>sgA 0 0⟩] ⟨.z p.out,⟨⟩⟩ ⟨.k zSg (.t rfl),⟨⟩⟩ fun j Q b R A=>?_;simp only[fzw,Kw.a];obtain⟨⟨D,h⟩,-⟩:(B.heap.size≤(j 4 0).2∧Vr Q (j 4 0).2 (sgA 0 0))∧True:=A;clear R;replace f:=f.trans b;have m:=b;clear b
 go_upto_region 4 with fail
 refine wp_w [.c (.string ⟨#[48,7,2,2,0,128,2,1,0]⟩),.T,.T,.c (.agg (sgA 128 0)),.N 128,.c (.agg (sgA 128 0)),.T,.T,.T,.O,.O,.T,.T,.T,.c (.int .i64 2200),.c (.int .i64 2200),.T,.T,.T] [1,3,4,5,6,10,15] ⟨.s (.binOp .eql 9 (.const (.string ⟨#[48,7,2,2,0,128,2,1,0]⟩)) (.const (.string { data :=#[48,7,2,2,0,128,2,1,0] })) 9) rfl fun q b=>by simp[go_sem,exI],.g 27 0 (d.gr m) rfl,.z (one_any 128 (by decide)),.s (.build 27 #[(0,(.const (.agg (nw 9 128))))]) rfl fun q b=>by simp[go_sem,exI,buildSg1],.s (.binOp .eql 27 (.const (.agg (sgA 128 0))) (.const (.agg (sgA 128 0))) 27) rfl fun q b=>by simp[go_sem,exI,eqSg,eqN_self],.y (num_any _),.y (num_any _),⟨⟩⟩ fun S W b U=>?_;simp only[fzw];clear U;replace f:=f.trans b;replace m:=m.trans b;have H:=b;clear b;replace G:=G.trans f;replace d:=d.gr m;replace h:=h.gr H;clear f m H
 go_wp2_with fail
 go_ret
 exact⟨rfl,G⟩
end
end
end Go.Proofs.Ytdomjicpdbblnaa