import Derived.Test.YtffhepbppiocbaaXALCS
namespace Go.Proofs.Ytffhepbppiocbaa
open Go.RowKit Go.Proofs.Try
set_option maxRecDepth 100000
set_option maxHeartbeats 8000000
section
attribute [local go_sem ↓] uz1
attribute [local go_sem] uz2
section
attribute [local go_sem] uz7
attribute [local go_sem ↓] uz10 Go.wp_at_zero Go.wp_at_succ
attribute [local go_sem] uz11
theorem lcurves_yes(k:Nat)(h1:1≤k)(h2:k≤15)(w:World):Cg 3 #[.int .i64 k] w (.bool true):=by
 have HG:Hid (∀w,Cg 9 #[.int .i64 k] w (.tuple #[.agg (cuK k),.int .i64 0])):=fun w=>get13_yes k h1 h2 w;have P:Hid (∀w,Calls prog 10 #[.int .i64 k] w (GetQ k w)):=fun w=>getq_yes k h1 h2 w;have Q:Hid (∀w,Calls prog 11 #[] w fun e K=>∃g cap,e=.returned (.slice (some ⟨g,0,none⟩) 15 cap)∧w.heap.size≤g∧Rx K g 15 cap idsF∧Gr w K):=fun w=>ids_any w
 go_enter func3,ntmps3
 go_upto_region 3 with (first
  | (go_at_call 9;refine(HG.out _).mono ?_;rintro e Z ⟨rfl,GA⟩)
  | (go_at_call 10;refine(P.out _).mono ?_;rintro e W1 ⟨i,rfl,A,S⟩))
 obtain⟨e5,f⟩:=exl (W1.heap.size);simp only[f];obtain⟨e3,h⟩:=exl (Z.heap.size);simp only[h]
 refine gen_w (fun v=>Gr w v∧Vr v e3 (cuK k)∧Vr v e5 (crA (k:Int) (nN k) i)∧(∀j,Sl v (i j).1 (nN k j))) ?_ ?_
 ·subst f h;exact⟨((GA.alloc _).trans S).alloc _,((Vr.new Z _ _).gr S).gr ((Gr.refl _).alloc _),Vr.new _ _ _,fun j=>(A j).gr ((Gr.refl _).alloc _)⟩
 clear S GA f h A;rintro L ⟨G,l,q,x⟩
 go_upto_region 7 with (go_at_call 11;refine(Q.out _).mono ?_;rintro e U ⟨g,cap,rfl,B,hR,G2⟩)
 have C:Hid (L.heap.size≤g∧Rx U g 15 cap idsF∧Gr L U):=⟨B,hR,G2⟩;clear B hR G2
 go_loopw [8] (fun ia wr=>∃j:Nat,ia=.int .i64 j∧Hu (j≤15)∧wr=U) (fun ia _=>15-(intOf ia).toNat)
 case atStart=>exact⟨0,rfl,fun _=>by omega,rfl⟩
 case round=>
  obtain⟨j,rfl,HJ,rfl⟩:=hrel
  by_cases hlt:j<15
  ·have j0:(0:Int)≤j:=by omega
   have j1:(j:Int)<15:=by omega
   have hc:wr.cell? ⟨g,j,none⟩=some (.int .i64 ((j:Int)+1)):=C.out.2.1.cell j hlt
   go_wp2_with fail
   go_roundw
   case rel=>exact⟨j+1,by go_num,fun _=>by omega,trivial⟩
   case measure=>simp[intOf];omega
  ·have ji:¬(j:Int)<15:=by omega
   have HS:Hu (Calls prog 12 #[.slice (some ⟨g,0,none⟩) 15 cap] wr fun e K=>e=.returned (.tuple #[])∧∀W,Gr W wr→W.heap.size≤g→Gr W K):=fun _=>spoil_any wr g cap C.out.2.1;clear hlt
   go_upto_region 16 with (first
    | (go_at_call 12;refine(HS.out ()).mono ?_;rintro e V3 ⟨rfl,H3⟩;have G3:=H3 L C.out.2.2 C.out.1)
    | (go_at_call 11;have _:=G4;refine(Q.out _).mono ?_;rintro e V5 ⟨g5,aa,rfl,D,H,G5⟩;have V:V5.cell? ⟨g5,3,none⟩=some (.int .i64 4):=H.cell 3 (by decide))
    | (go_at_call 11;refine(Q.out _).mono ?_;rintro e V4 ⟨g4,ab,rfl,I,X,G4⟩))
   have J:Gr L V5:=(G3.trans G4).trans G5;clear C HS H3 G3 G4 G5 I X D H V;refine gen_w (fun v=>Gr w v∧Vr v e3 (cuK k)∧Vr v e5 (crA (k:Int) (nN k) i)∧(∀j,Sl v (i j).1 (nN k j))) ⟨G.trans J,l.gr J,q.gr J,fun j=>(x j).gr J⟩ ?_;clear J G l q x;rintro V6 ⟨G,l,q,x⟩;refine wp_w [.O,.O,.T,.T,.c (.agg (cuK k)),.c (.agg (crA (k:Int) (nN k) i)),.c (.agg (cuK k)),.T,.T,.T,.T,.T,.T] [1,4,5,6,7,10] ⟨.y (num_any _),.g 29 0 l rfl,.g 36 0 q rfl,.k _ fun yy vv d hh=>RtW.of_c (rapi_yes k h1 h2 i _ (fun j=>(x j).gr d)),.s (.binOp .eql 29 (.const (.agg (cuK k))) (.const (.agg (cuK k))) 29) rfl fun vv d=>by simp[go_sem,exI,eqCu_self],.z awake13_any,⟨⟩⟩ fun ac v1 d Y=>?_;simp only[fzw];clear Y;replace G:=G.trans d;replace l:=l.gr d;replace q:=q.gr d;replace x:=fun k=>(x k).gr d;clear d
   go_wp2_with fail
   go_ret
   exact⟨rfl,G⟩
theorem lcurves_no(id:Int)(h:id<1∨15<id)(w:World):Cg 3 #[.int .i64 id] w (.bool true):=by
 have HG:Hid (∀w,Cg 9 #[.int .i64 id] w (.tuple #[.agg (cu 0 0 0 0 0 0 0 0 0 false),.int .i64 1300])):=fun w=>get13_no id h w;have I:Hid (∀w,Cg 10 #[.int .i64 id] w (.tuple #[.agg #[.int .i64 0,.slice none 0 0,.slice none 0 0,.slice none 0 0,.slice none 0 0,.slice none 0 0,.slice none 0 0],.bool false])):=fun w=>get_no id h w;have J:Hid (∀w,Calls prog 11 #[] w fun e C=>∃g cap,e=.returned (.slice (some ⟨g,0,none⟩) 15 cap)∧w.heap.size≤g∧Rx C g 15 cap idsF∧Gr w C):=fun w=>ids_any w
 go_enter func3,ntmps3
 go_upto_region 3 with (first
  | (go_at_call 9;refine(HG.out _).mono ?_;rintro e V ⟨rfl,X⟩)
  | (go_at_call 10;refine(I.out _).mono ?_;rintro e W1 ⟨rfl,K⟩))
 obtain⟨e5,d⟩:=exl (W1.heap.size);simp only[d];obtain⟨Y,f⟩:=exl (V.heap.size);simp only[f]
 refine gen_w (fun v=>Gr w v∧Vr v Y (cu 0 0 0 0 0 0 0 0 0 false)) ?_ ?_
 ·subst d f;exact⟨((X.alloc _).trans K).alloc _,((Vr.new V _ _).gr K).gr ((Gr.refl _).alloc _)⟩
 clear K X d f;rintro D ⟨G,i⟩
 go_upto_region 7 with (go_at_call 11;refine(J.out _).mono ?_;rintro e L ⟨g,cap,rfl,l,Z,G2⟩)
 have q:Hid (D.heap.size≤g∧Rx L g 15 cap idsF∧Gr D L):=⟨l,Z,G2⟩;clear l Z G2
 go_loopw [8] (fun ia wr=>∃j:Nat,ia=.int .i64 j∧Hu (j≤15)∧wr=L) (fun ia _=>15-(intOf ia).toNat)
 case atStart=>exact⟨0,rfl,fun _=>by omega,rfl⟩
 case round=>
  obtain⟨j,rfl,HJ,rfl⟩:=hrel
  by_cases hlt:j<15
  ·have j0:(0:Int)≤j:=by omega
   have j1:(j:Int)<15:=by omega
   have hc:wr.cell? ⟨g,j,none⟩=some (.int .i64 ((j:Int)+1)):=q.out.2.1.cell j hlt
   go_wp2_with fail
   go_roundw
   case rel=>exact⟨j+1,by go_num,fun _=>by omega,trivial⟩
   case measure=>simp[intOf];omega
  ·have ji:¬(j:Int)<15:=by omega
   have HS:Hu (Calls prog 12 #[.slice (some ⟨g,0,none⟩) 15 cap] wr fun e C=>e=.returned (.tuple #[])∧∀W,Gr W wr→W.heap.size≤g→Gr W C):=fun _=>spoil_any wr g cap q.out.2.1;clear hlt
   go_upto_region 15 with (first
    | (go_at_call 12;refine(HS.out ()).mono ?_;rintro e V3 ⟨rfl,H3⟩;have G3:=H3 D q.out.2.2 q.out.1)
    | (go_at_call 11;have _:=G4;refine(J.out _).mono ?_;rintro e V5 ⟨g5,aa,rfl,x,A,G5⟩;have P:V5.cell? ⟨g5,3,none⟩=some (.int .i64 4):=A.cell 3 (by decide))
    | (go_at_call 11;refine(J.out _).mono ?_;rintro e V4 ⟨g4,ab,rfl,B,Q,G4⟩))
   have S:Gr D V5:=(G3.trans G4).trans G5;clear q HS H3 G3 G4 G5 B Q x A P;refine gen_w (fun v=>Gr w v∧Vr v Y (cu 0 0 0 0 0 0 0 0 0 false)) ⟨G.trans S,i.gr S⟩ ?_;clear S G i;rintro V6 ⟨G,i⟩;refine wp_wS [.c (.int .i64 1300),.c (.int .i64 1300),.T,.T,.c (.agg (cu 0 0 0 0 0 0 0 0 0 false)),.c (.agg (cu 0 0 0 0 0 0 0 0 0 false)),.T,.T,.T,.T,.T,.T] [1,4,6,9] ⟨.y (num_any _),.g 29 0 i rfl,.s (.binOp .eql 29 (.const (.agg (cu 0 0 0 0 0 0 0 0 0 false))) (.const (.agg (cu 0 0 0 0 0 0 0 0 0 false))) 29) rfl fun vv H=>by simp[go_sem,exI,eqCu_self],.z awake13_any,⟨⟩⟩ fun ac v1 H U=>?_;simp only[fzw];clear U;replace G:=G.trans H;replace i:=i.gr H;clear H
   go_wp2_with fail
   go_ret
   exact⟨rfl,G⟩
theorem lcurves_any(id:Int)(w:World):Cg 3 #[.int .i64 id] w (.bool true):=by
 by_cases h:id<1∨15<id
 ·exact lcurves_no id h w
 ·obtain⟨k,rfl⟩:=Int.eq_ofNat_of_zero_le (show 0≤id by omega);exact lcurves_yes k (by omega) (by omega) w
end
end
end Go.Proofs.Ytffhepbppiocbaa