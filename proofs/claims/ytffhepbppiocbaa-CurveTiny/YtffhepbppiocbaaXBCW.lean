import Derived.Test.YtffhepbppiocbaaXBRGet
import Derived.Test.YtffhepbppiocbaaXBVI
namespace Go.Proofs.Ytffhepbppiocbaa
open Go.RowKit Go.Proofs.Try
set_option maxRecDepth 100000
set_option maxHeartbeats 8000000
section
attribute [local go_sem ↓] uz1
attribute [local go_sem] uz2
section
theorem bslI_is(n:Nat)(p:Array (Nat×Value)):Instr.buildSlice 39 n p=bslF 39 n p:=rfl
theorem bslI1(x:Int)(w:World):(bslF 39 1 #[(0,.int .i64 x)]).run prog w=.ok (.slice (some ⟨w.heap.size,0,none⟩) 1 1) (w.alloc (.cells #[.int .i64 x] 3)):=by kernel_rfl
def idsF(k:Nat):Value:=.int .i64 ((k:Int)+1)
theorem tabM_fn(k:Nat)(h1:1≤k)(h2:k<16):∃f,tabM[k]? = some (.func (.func f) #[] #[]):=by
 obtain rfl|rfl|rfl|rfl|rfl|rfl|rfl|rfl|rfl|rfl|rfl|rfl|rfl|rfl|rfl:k=1∨k=2∨k=3∨k=4∨k=5∨k=6∨k=7∨k=8∨k=9∨k=10∨k=11∨k=12∨k=13∨k=14∨k=15:=by omega
 all_goals exact⟨_,rfl⟩
theorem idxTm(k:Nat)(v:Value)(h:tabM[k]? = some v)(w:World):(Instr.index 75 (.agg tabM) (.int .i64 k)).run prog w=.ok v w:=by
 have d:k<16:=(Array.getElem?_eq_some_iff.1 h).1;simp[Instr.index,run_underlying underlying75,asIntOf,d,go_sem,h]
attribute [local go_sem ↓] apI_is bslI_is
attribute [local go_sem] bslI1 neFn neFn0
theorem ids_any(w:World):Calls prog 11 #[] w fun e w'=>∃g cap,e=.returned (.slice (some ⟨g,0,none⟩) 15 cap)∧w.heap.size≤g∧Rx w' g 15 cap idsF∧Gr w w':=by
 have S:Hid _:=table_any
 go_enter func11,ntmps11
 go_wp2_with (go_at_call 38;refine(S.out _).mono ?_;rintro e W0 ⟨rfl,U⟩)
 have G:Hid _:=U;clear U S
 go_loopw [1,5] (fun v i wr=>∃j:Nat,i=.int .i64 j∧Hu (j≤16)∧Hu (Rvx wr w.heap.size v (j-1) idsF)∧Hid (Gr w wr)) (fun _ i _=>16-(intOf i).toNat)
 case atStart=>exact⟨0,rfl,fun _=>by omega,fun _=>Or.inl ⟨rfl,rfl⟩,G⟩
 case round=>
  obtain⟨j,rfl,H,q,x⟩:=hrel
  by_cases hlt:j<16
  ·have j0:(0:Int)≤j:=by omega
   have j1:(j:Int)<16:=by omega
   by_cases hz:j=0
   ·subst hz
    have Z:∀w,(Instr.index 75 (.agg tabM) (.int .i64 0)).run prog w=.ok .nilFunc w:=fun w=>by kernel_rfl
    go_wp2
    go_roundw
    case rel=>exact⟨1,by go_num,fun _=>by omega,fun _=>q.out (),x⟩
    case measure=>simp[intOf]
   ·obtain⟨f,V⟩:=tabM_fn j (by omega) hlt;have Z:=fun w=>idxTm j _ V w;obtain⟨i0,W,A,B,C⟩:=info_parts infoI;have I:w.heap.size≤wr.heap.size:=x.out.below.size
    obtain⟨g,cap,J,l,d,D,X⟩:=apx_run (P:=prog) underlying39 W A rfl B C (wr.alloc (.cells #[.int .i64 j] 3)) w.heap.size wr.heap.size (j-1) 1 1 u1 idsF (fun _=>rfl) ((q.out ()).gr ((Gr.refl _).alloc _))
     (fun k hk=>by
      obtain rfl:k=0:=by omega
      rw[cell_new]
      show some (Value.int .i64 j)=some (.int .i64 (((j-1+0:Nat):Int)+1))
      rw[show ((j-1+0:Nat):Int)+1=(j:Int) by omega]) (by omega) (by omega) (by omega) (by simp;omega)
    have K:∀ty,(apI ty #[u1,.slice (some ⟨wr.heap.size,0,none⟩) 1 1]).run prog (wr.alloc (.cells #[.int .i64 j] 3))=.ok (.slice (some ⟨g,0,none⟩) (j-1+1) cap) J:=l;have HW:Hid (Gr w J):=X w (x.out.alloc _) (Nat.le_refl _);have L:Hu (Rvx J w.heap.size (.slice (some ⟨g,0,none⟩) (j-1+1) cap) (j+1-1) idsF):=fun _=>Or.inr ⟨g,cap,by rw[show j-1+1=j+1-1 by omega],d,by rw[show j+1-1=j-1+1 by omega];exact D⟩
    have Q:Hu (j+1≤16):=fun _=>by omega
    clear l d D X V I hz hlt q x H W A B C
    go_wp2
    go_roundw
    case rel=>exact⟨j+1,by go_num,Q,L,HW⟩
    case measure=>simp[intOf];omega
  ·obtain rfl:j=16:=by have:=H.out ();omega
   rcases q.out () with ⟨-,h⟩|⟨g,cap,rfl,d,D⟩
   ·omega
   ·have Y:Hid (w.heap.size≤g∧Rx wr g 15 cap idsF):=⟨d,D⟩;clear d D hlt q H
    go_wp2
    go_ret
    exact⟨g,cap,rfl,Y.out.1,Y.out.2,x.out⟩
end
section
theorem cuN_13:cuN 13=cu 13 251 248 26 223 2 84 8 1 false:=by kernel_rfl
attribute [local go_sem] uz7
attribute [local go_sem ↓] zvCu_is storeCu_is loadCu_is loadPn_is buildCu_is buildPn_is Go.wp_at_zero Go.wp_at_succ
attribute [local go_sem] zvCu storeCu loadCu loadPn loadCP loadCX loadCG buildPnI cu_size cu_P cu_X cu_G pnt_size frz_setBlk blk_setBlk setBlk_setBlk blk_other
theorem awake13_any(w:World):Cg 14 #[] w (.bool true):=by
 have aO:Hid (∀w,Cg 9 #[.int .i64 13] w (.tuple #[.agg (cu 13 251 248 26 223 2 84 8 1 false),.int .i64 0])):=fun w=>cuN_13▸get13_yes 13 (by decide) (by decide) w;have aP:Hid (∀w,Cg 9 #[.int .i64 16] w (.tuple #[.agg (cu 0 0 0 0 0 0 0 0 0 false),.int .i64 1300])):=fun w=>get13_no 16 (by decide) w;have HI:Hid (∀w,Calls prog 11 #[] w (Rt (.sl 15) w)):=fun w=>(ids_any w).mono fun e w' ⟨g,aU,he,_,_,hg⟩=>⟨_,he,⟨_,_,rfl⟩,hg⟩;have aQ:Hid (∀w,Calls prog 16 #[.int .i64 13,.agg (pnt 2 84 false)] w (Rt (.c (.bool true)) w)):=fun w=>Rt.c ((show onB 13 2 84 false=true by decide +kernel)▸on13_yes 13 (by decide) (by decide) 2 84 false (by decide +kernel) (by decide +kernel) w);have aR:Hid (∀w,Calls prog 16 #[.int .i64 13,.agg (pnt 0 0 true)] w (Rt (.c (.bool true)) w)):=fun w=>Rt.c ((show onB 13 0 0 true=true by decide +kernel)▸on13_yes 13 (by decide) (by decide) 0 0 true (by decide +kernel) (by decide +kernel) w)
 go_enter func14,ntmps14
 go_upto_region 3 with (first
  | (go_at_call_of 9 (Value.int .i64 13);refine hkA aO fun g1=>?_)
  | (go_at_call_of 9 (Value.int .i64 16);refine hkA aP fun g2=>?_))
 obtain⟨D,h1⟩:=exl (w.heap.size+g1.os.length);simp only[h1];obtain⟨e3,h3⟩:=exl (D+1+g2.os.length);simp only[h3]
 refine gen_w (fun v=>Hid (Gr w v∧Vr v D (cu 13 251 248 26 223 2 84 8 1 false))) ?_ ?_
 ·subst h3 h1;exact⟨grA,⟨by simp[go_sem],by simp[go_sem],by simp[go_sem]⟩⟩
 intro v0 HV;obtain⟨G,c1⟩:=HV.out;refine wp_region_q (by kernel_rfl) (by kernel_rfl) [.c (.int .i64 0),.c (.int .i64 0),.c (.bool true),.c (.bool true),.c (.pointer (some ⟨D,1,none⟩)),.c (.agg (nw 9 251)),.c (.agg (nw 9 251)),.c (.bool true),.c (.bool true),.c (.bool true),.c (.pointer (some ⟨D,37,none⟩)),.c (.pointer (some ⟨D,37,none⟩)),.c (.agg (nw 9 2)),.c (.agg (nw 9 2)),.c (.bool true),.c (.bool true),.c (.bool true),.c (.pointer (some ⟨D,56,none⟩)),.c (.int .i64 8),.c (.bool true),.c (.bool true),.c (.bool true),.c (.int .i64 1300),.c (.int .i64 1300),.c (.bool true),.c (.bool true),.c (.bool true),.c (.pointer (some ⟨D,37,none⟩)),.c (.agg (pnt 2 84 false)),.c (.bool true),.c (.bool true),.c (.bool true),.c (.agg (pnt 0 0 true)),.c (.bool true),.c (.bool true),.c (.bool true),.sl 15,.c (.int .i64 15),.c (.bool true),.c (.bool true),.c (.bool true)] ?hs ?hf
 case hs=>
  intro aM d a1 v H oo hg f hF I B;have H1:blk v D=cu 13 251 248 26 223 2 84 8 1 false:=(hg.blk _ c1.p).trans c1.h
  have K1:v.cell? ⟨D,56,none⟩=some (.int .i64 8):=by rw[cell_blk,H1];exact cu_56 _ _ _ _ _ _ _ _ _ _
  have hi:H<41:=by simpa using (Array.getElem?_eq_some_iff.1 I).1
  obtain rfl|rfl|rfl|rfl|rfl|rfl|rfl|rfl|rfl|rfl|rfl|rfl|rfl|rfl|rfl|rfl|rfl|rfl|rfl|rfl|rfl|rfl|rfl|rfl|rfl|rfl|rfl|rfl|rfl|rfl|rfl|rfl|rfl|rfl|rfl|rfl|rfl|rfl|rfl|rfl|rfl:H=0∨H=1∨H=2∨H=3∨H=4∨H=5∨H=6∨H=7∨H=8∨H=9∨H=10∨H=11∨H=12∨H=13∨H=14∨H=15∨H=16∨H=17∨H=18∨H=19∨H=20∨H=21∨H=22∨H=23∨H=24∨H=25∨H=26∨H=27∨H=28∨H=29∨H=30∨H=31∨H=32∨H=33∨H=34∨H=35∨H=36∨H=37∨H=38∨H=39∨H=40:=by omega
  ·obtain rfl:=Option.some.inj I;have l:=hF.old (s:=2) (v:=.int .i64 0) (by kernel_rfl) rfl;refine Or.inl ⟨wanted_no rfl,?_⟩;exact wp_val (.int .i64 0) (by simp[go_sem,l]) ⟨_,rfl,Gr.refl _,rfl⟩
  ·obtain rfl:=Option.some.inj I;have q:=on_of B 0 (by kernel_rfl);have l:=hF.at (s:=13) (i:=0) (by kernel_rfl) (by simp) q;have C:d 0=.int .i64 0:=f 0 q;rw[C]at l;refine Or.inl ⟨wanted_no rfl,?_⟩;exact wp_retz (k:=.c (.int .i64 0)) (by simp[go_sem,l]) (Rt.same (num_any _ _)) (fun u w2 P J=>⟨_,rfl,J,P⟩)
  ·obtain rfl:=Option.some.inj I;have q:=on_of B 1 (by kernel_rfl);have l:=hF.at (s:=14) (i:=1) (by kernel_rfl) (by simp) q;have C:d 1=.int .i64 0:=f 1 q;rw[C]at l;refine Or.inl ⟨wanted_no rfl,?_⟩;exact wp_val (.bool true) (by simp[go_sem,l]) ⟨_,rfl,Gr.refl _,rfl⟩
  ·obtain rfl:=Option.some.inj I;have q:=on_of B 2 (by kernel_rfl);have l:=hF.at (s:=15) (i:=2) (by kernel_rfl) (by simp) q;have C:d 2=.bool true:=f 2 q;rw[C]at l;refine Or.inl ⟨wanted_no rfl,?_⟩;exact wp_val (.bool true) (by simp[go_sem,l]) ⟨_,rfl,Gr.refl _,rfl⟩
  ·obtain rfl:=Option.some.inj I;have x:=on_of B 3 (by kernel_rfl);have A:=hF.at (s:=16) (i:=3) (by kernel_rfl) (by simp) x;rw[show d 3=.bool true from f 3 x]at A;have l:=hF.old (s:=1) (v:=.pointer (some ⟨D,0,none⟩)) (by kernel_rfl) rfl;refine Or.inl ⟨wanted_at (j:=3) (s:=16) rfl rfl rfl A,?_⟩;exact wp_val (.pointer (some ⟨D,1,none⟩)) (by simp[go_sem,l]) ⟨_,rfl,Gr.refl _,rfl⟩
  ·obtain rfl:=Option.some.inj I;have x:=on_of B 3 (by kernel_rfl);have A:=hF.at (s:=16) (i:=3) (by kernel_rfl) (by simp) x;rw[show d 3=.bool true from f 3 x]at A;have q:=on_of B 4 (by kernel_rfl);have l:=hF.at (s:=17) (i:=4) (by kernel_rfl) (by simp) q;have C:d 4=.pointer (some ⟨D,1,none⟩):=f 4 q;rw[C]at l;refine Or.inl ⟨wanted_at (j:=3) (s:=16) rfl rfl rfl A,?_⟩;exact wp_val (.agg (nw 9 251)) (by simp[go_sem,l,H1]) ⟨_,rfl,Gr.refl _,rfl⟩
  ·obtain rfl:=Option.some.inj I;have x:=on_of B 3 (by kernel_rfl);have A:=hF.at (s:=16) (i:=3) (by kernel_rfl) (by simp) x;rw[show d 3=.bool true from f 3 x]at A;refine Or.inl ⟨wanted_at (j:=3) (s:=16) rfl rfl rfl A,?_⟩;exact wp_retz (k:=.c (.agg (nw 9 251))) (by simp[go_sem]) (Rt.c (one_any 251 (by decide) _)) (fun u w2 P J=>⟨_,rfl,J,P⟩)
  ·obtain rfl:=Option.some.inj I;have x:=on_of B 3 (by kernel_rfl);have A:=hF.at (s:=16) (i:=3) (by kernel_rfl) (by simp) x;rw[show d 3=.bool true from f 3 x]at A;have q:=on_of B 5 (by kernel_rfl);have l:=hF.at (s:=18) (i:=5) (by kernel_rfl) (by simp) q;have C:d 5=.agg (nw 9 251):=f 5 q;rw[C]at l;have K:=on_of B 6 (by kernel_rfl);have L:=hF.at (s:=19) (i:=6) (by kernel_rfl) (by simp) K;have D:d 6=.agg (nw 9 251):=f 6 K;rw[D]at L;refine Or.inl ⟨wanted_at (j:=3) (s:=16) rfl rfl rfl A,?_⟩;exact wp_val (.bool true) (by simp[go_sem,l,L,eqNat,eqN_self]) ⟨_,rfl,Gr.refl _,rfl⟩
  ·obtain rfl:=Option.some.inj I;have q:=on_of B 3 (by kernel_rfl);have l:=hF.at (s:=16) (i:=3) (by kernel_rfl) (by simp) q;have C:d 3=.bool true:=f 3 q;rw[C]at l;have K:=on_of B 7 (by kernel_rfl);have L:=hF.at (s:=20) (i:=7) (by kernel_rfl) (by simp) K;have D:d 7=.bool true:=f 7 K;rw[D]at L;refine Or.inl ⟨wanted_no rfl,?_⟩;exact wp_val (.bool true) (by simp[go_sem,l,L]) ⟨_,rfl,Gr.refl _,rfl⟩
  ·obtain rfl:=Option.some.inj I;have q:=on_of B 8 (by kernel_rfl);have l:=hF.at (s:=21) (i:=8) (by kernel_rfl) (by simp) q;have C:d 8=.bool true:=f 8 q;rw[C]at l;refine Or.inl ⟨wanted_no rfl,?_⟩;exact wp_val (.bool true) (by simp[go_sem,l]) ⟨_,rfl,Gr.refl _,rfl⟩
  ·obtain rfl:=Option.some.inj I;have x:=on_of B 9 (by kernel_rfl);have A:=hF.at (s:=22) (i:=9) (by kernel_rfl) (by simp) x;rw[show d 9=.bool true from f 9 x]at A;have l:=hF.old (s:=1) (v:=.pointer (some ⟨D,0,none⟩)) (by kernel_rfl) rfl;refine Or.inl ⟨wanted_at (j:=9) (s:=22) rfl rfl rfl A,?_⟩;exact wp_val (.pointer (some ⟨D,37,none⟩)) (by simp[go_sem,l]) ⟨_,rfl,Gr.refl _,rfl⟩
  ·obtain rfl:=Option.some.inj I;have x:=on_of B 9 (by kernel_rfl);have A:=hF.at (s:=22) (i:=9) (by kernel_rfl) (by simp) x;rw[show d 9=.bool true from f 9 x]at A;have q:=on_of B 10 (by kernel_rfl);have l:=hF.at (s:=23) (i:=10) (by kernel_rfl) (by simp) q;have C:d 10=.pointer (some ⟨D,37,none⟩):=f 10 q;rw[C]at l;refine Or.inl ⟨wanted_at (j:=9) (s:=22) rfl rfl rfl A,?_⟩;exact wp_val (.pointer (some ⟨D,37,none⟩)) (by simp[go_sem,l]) ⟨_,rfl,Gr.refl _,rfl⟩
  ·obtain rfl:=Option.some.inj I;have x:=on_of B 9 (by kernel_rfl);have A:=hF.at (s:=22) (i:=9) (by kernel_rfl) (by simp) x;rw[show d 9=.bool true from f 9 x]at A;have q:=on_of B 11 (by kernel_rfl);have l:=hF.at (s:=24) (i:=11) (by kernel_rfl) (by simp) q;have C:d 11=.pointer (some ⟨D,37,none⟩):=f 11 q;rw[C]at l;refine Or.inl ⟨wanted_at (j:=9) (s:=22) rfl rfl rfl A,?_⟩;exact wp_val (.agg (nw 9 2)) (by simp[go_sem,l,H1]) ⟨_,rfl,Gr.refl _,rfl⟩
  ·obtain rfl:=Option.some.inj I;have x:=on_of B 9 (by kernel_rfl);have A:=hF.at (s:=22) (i:=9) (by kernel_rfl) (by simp) x;rw[show d 9=.bool true from f 9 x]at A;refine Or.inl ⟨wanted_at (j:=9) (s:=22) rfl rfl rfl A,?_⟩;exact wp_retz (k:=.c (.agg (nw 9 2))) (by simp[go_sem]) (Rt.c (one_any 2 (by decide) _)) (fun u w2 P J=>⟨_,rfl,J,P⟩)
  ·obtain rfl:=Option.some.inj I;have x:=on_of B 9 (by kernel_rfl);have A:=hF.at (s:=22) (i:=9) (by kernel_rfl) (by simp) x;rw[show d 9=.bool true from f 9 x]at A;have q:=on_of B 12 (by kernel_rfl);have l:=hF.at (s:=25) (i:=12) (by kernel_rfl) (by simp) q;have C:d 12=.agg (nw 9 2):=f 12 q;rw[C]at l;have K:=on_of B 13 (by kernel_rfl);have L:=hF.at (s:=26) (i:=13) (by kernel_rfl) (by simp) K;have D:d 13=.agg (nw 9 2):=f 13 K;rw[D]at L;refine Or.inl ⟨wanted_at (j:=9) (s:=22) rfl rfl rfl A,?_⟩;exact wp_val (.bool true) (by simp[go_sem,l,L,eqNat,eqN_self]) ⟨_,rfl,Gr.refl _,rfl⟩
  ·obtain rfl:=Option.some.inj I;have q:=on_of B 9 (by kernel_rfl);have l:=hF.at (s:=22) (i:=9) (by kernel_rfl) (by simp) q;have C:d 9=.bool true:=f 9 q;rw[C]at l;have K:=on_of B 14 (by kernel_rfl);have L:=hF.at (s:=27) (i:=14) (by kernel_rfl) (by simp) K;have D:d 14=.bool true:=f 14 K;rw[D]at L;refine Or.inl ⟨wanted_no rfl,?_⟩;exact wp_val (.bool true) (by simp[go_sem,l,L]) ⟨_,rfl,Gr.refl _,rfl⟩
  ·obtain rfl:=Option.some.inj I;have q:=on_of B 15 (by kernel_rfl);have l:=hF.at (s:=28) (i:=15) (by kernel_rfl) (by simp) q;have C:d 15=.bool true:=f 15 q;rw[C]at l;refine Or.inl ⟨wanted_no rfl,?_⟩;exact wp_val (.bool true) (by simp[go_sem,l]) ⟨_,rfl,Gr.refl _,rfl⟩
  ·obtain rfl:=Option.some.inj I;have x:=on_of B 16 (by kernel_rfl);have A:=hF.at (s:=29) (i:=16) (by kernel_rfl) (by simp) x;rw[show d 16=.bool true from f 16 x]at A;have l:=hF.old (s:=1) (v:=.pointer (some ⟨D,0,none⟩)) (by kernel_rfl) rfl;refine Or.inl ⟨wanted_at (j:=16) (s:=29) rfl rfl rfl A,?_⟩;exact wp_val (.pointer (some ⟨D,56,none⟩)) (by simp[go_sem,l]) ⟨_,rfl,Gr.refl _,rfl⟩
  ·obtain rfl:=Option.some.inj I;have x:=on_of B 16 (by kernel_rfl);have A:=hF.at (s:=29) (i:=16) (by kernel_rfl) (by simp) x;rw[show d 16=.bool true from f 16 x]at A;have q:=on_of B 17 (by kernel_rfl);have l:=hF.at (s:=30) (i:=17) (by kernel_rfl) (by simp) q;have C:d 17=.pointer (some ⟨D,56,none⟩):=f 17 q;rw[C]at l;refine Or.inl ⟨wanted_at (j:=16) (s:=29) rfl rfl rfl A,?_⟩;exact wp_val (.int .i64 8) (by simp[go_sem,l,K1]) ⟨_,rfl,Gr.refl _,rfl⟩
  ·obtain rfl:=Option.some.inj I;have x:=on_of B 16 (by kernel_rfl);have A:=hF.at (s:=29) (i:=16) (by kernel_rfl) (by simp) x;rw[show d 16=.bool true from f 16 x]at A;have q:=on_of B 18 (by kernel_rfl);have l:=hF.at (s:=31) (i:=18) (by kernel_rfl) (by simp) q;have C:d 18=.int .i64 8:=f 18 q;rw[C]at l;refine Or.inl ⟨wanted_at (j:=16) (s:=29) rfl rfl rfl A,?_⟩;exact wp_val (.bool true) (by simp[go_sem,l]) ⟨_,rfl,Gr.refl _,rfl⟩
  ·obtain rfl:=Option.some.inj I;have q:=on_of B 16 (by kernel_rfl);have l:=hF.at (s:=29) (i:=16) (by kernel_rfl) (by simp) q;have C:d 16=.bool true:=f 16 q;rw[C]at l;have K:=on_of B 19 (by kernel_rfl);have L:=hF.at (s:=32) (i:=19) (by kernel_rfl) (by simp) K;have D:d 19=.bool true:=f 19 K;rw[D]at L;refine Or.inl ⟨wanted_no rfl,?_⟩;exact wp_val (.bool true) (by simp[go_sem,l,L]) ⟨_,rfl,Gr.refl _,rfl⟩
  ·obtain rfl:=Option.some.inj I;have q:=on_of B 20 (by kernel_rfl);have l:=hF.at (s:=33) (i:=20) (by kernel_rfl) (by simp) q;have C:d 20=.bool true:=f 20 q;rw[C]at l;refine Or.inl ⟨wanted_no rfl,?_⟩;exact wp_val (.bool true) (by simp[go_sem,l]) ⟨_,rfl,Gr.refl _,rfl⟩
  ·obtain rfl:=Option.some.inj I;have x:=on_of B 21 (by kernel_rfl);have A:=hF.at (s:=34) (i:=21) (by kernel_rfl) (by simp) x;rw[show d 21=.bool true from f 21 x]at A;have l:=hF.old (s:=4) (v:=.int .i64 1300) (by kernel_rfl) rfl;refine Or.inl ⟨wanted_at (j:=21) (s:=34) rfl rfl rfl A,?_⟩;exact wp_val (.int .i64 1300) (by simp[go_sem,l]) ⟨_,rfl,Gr.refl _,rfl⟩
  ·obtain rfl:=Option.some.inj I;have x:=on_of B 21 (by kernel_rfl);have A:=hF.at (s:=34) (i:=21) (by kernel_rfl) (by simp) x;rw[show d 21=.bool true from f 21 x]at A;have q:=on_of B 22 (by kernel_rfl);have l:=hF.at (s:=35) (i:=22) (by kernel_rfl) (by simp) q;have C:d 22=.int .i64 1300:=f 22 q;rw[C]at l;refine Or.inl ⟨wanted_at (j:=21) (s:=34) rfl rfl rfl A,?_⟩;exact wp_retz (k:=.c (.int .i64 1300)) (by simp[go_sem,l]) (Rt.same (num_any _ _)) (fun u w2 P J=>⟨_,rfl,J,P⟩)
  ·obtain rfl:=Option.some.inj I;have x:=on_of B 21 (by kernel_rfl);have A:=hF.at (s:=34) (i:=21) (by kernel_rfl) (by simp) x;rw[show d 21=.bool true from f 21 x]at A;have q:=on_of B 23 (by kernel_rfl);have l:=hF.at (s:=36) (i:=23) (by kernel_rfl) (by simp) q;have C:d 23=.int .i64 1300:=f 23 q;rw[C]at l;refine Or.inl ⟨wanted_at (j:=21) (s:=34) rfl rfl rfl A,?_⟩;exact wp_val (.bool true) (by simp[go_sem,l]) ⟨_,rfl,Gr.refl _,rfl⟩
  ·obtain rfl:=Option.some.inj I;have q:=on_of B 21 (by kernel_rfl);have l:=hF.at (s:=34) (i:=21) (by kernel_rfl) (by simp) q;have C:d 21=.bool true:=f 21 q;rw[C]at l;have K:=on_of B 24 (by kernel_rfl);have L:=hF.at (s:=37) (i:=24) (by kernel_rfl) (by simp) K;have D:d 24=.bool true:=f 24 K;rw[D]at L;refine Or.inl ⟨wanted_no rfl,?_⟩;exact wp_val (.bool true) (by simp[go_sem,l,L]) ⟨_,rfl,Gr.refl _,rfl⟩
  ·obtain rfl:=Option.some.inj I;have q:=on_of B 25 (by kernel_rfl);have l:=hF.at (s:=38) (i:=25) (by kernel_rfl) (by simp) q;have C:d 25=.bool true:=f 25 q;rw[C]at l;refine Or.inl ⟨wanted_no rfl,?_⟩;exact wp_val (.bool true) (by simp[go_sem,l]) ⟨_,rfl,Gr.refl _,rfl⟩
  ·obtain rfl:=Option.some.inj I;have x:=on_of B 26 (by kernel_rfl);have A:=hF.at (s:=39) (i:=26) (by kernel_rfl) (by simp) x;rw[show d 26=.bool true from f 26 x]at A;have l:=hF.old (s:=1) (v:=.pointer (some ⟨D,0,none⟩)) (by kernel_rfl) rfl;refine Or.inl ⟨wanted_at (j:=26) (s:=39) rfl rfl rfl A,?_⟩;exact wp_val (.pointer (some ⟨D,37,none⟩)) (by simp[go_sem,l]) ⟨_,rfl,Gr.refl _,rfl⟩
  ·obtain rfl:=Option.some.inj I;have x:=on_of B 26 (by kernel_rfl);have A:=hF.at (s:=39) (i:=26) (by kernel_rfl) (by simp) x;rw[show d 26=.bool true from f 26 x]at A;have q:=on_of B 27 (by kernel_rfl);have l:=hF.at (s:=40) (i:=27) (by kernel_rfl) (by simp) q;have C:d 27=.pointer (some ⟨D,37,none⟩):=f 27 q;rw[C]at l;refine Or.inl ⟨wanted_at (j:=26) (s:=39) rfl rfl rfl A,?_⟩;exact wp_val (.agg (pnt 2 84 false)) (by simp[go_sem,l,H1]) ⟨_,rfl,Gr.refl _,rfl⟩
  ·obtain rfl:=Option.some.inj I;have x:=on_of B 26 (by kernel_rfl);have A:=hF.at (s:=39) (i:=26) (by kernel_rfl) (by simp) x;rw[show d 26=.bool true from f 26 x]at A;have q:=on_of B 28 (by kernel_rfl);have l:=hF.at (s:=41) (i:=28) (by kernel_rfl) (by simp) q;have C:d 28=.agg (pnt 2 84 false):=f 28 q;rw[C]at l;refine Or.inl ⟨wanted_at (j:=26) (s:=39) rfl rfl rfl A,?_⟩;exact wp_retz (k:=.c (.bool true)) (by simp[go_sem,l]) (aQ.out _) (fun u w2 P J=>⟨_,rfl,J,P⟩)
  ·obtain rfl:=Option.some.inj I;have q:=on_of B 26 (by kernel_rfl);have l:=hF.at (s:=39) (i:=26) (by kernel_rfl) (by simp) q;have C:d 26=.bool true:=f 26 q;rw[C]at l;have K:=on_of B 29 (by kernel_rfl);have L:=hF.at (s:=42) (i:=29) (by kernel_rfl) (by simp) K;have D:d 29=.bool true:=f 29 K;rw[D]at L;refine Or.inl ⟨wanted_no rfl,?_⟩;exact wp_val (.bool true) (by simp[go_sem,l,L]) ⟨_,rfl,Gr.refl _,rfl⟩
  ·obtain rfl:=Option.some.inj I;have q:=on_of B 30 (by kernel_rfl);have l:=hF.at (s:=43) (i:=30) (by kernel_rfl) (by simp) q;have C:d 30=.bool true:=f 30 q;rw[C]at l;refine Or.inl ⟨wanted_no rfl,?_⟩;exact wp_val (.bool true) (by simp[go_sem,l]) ⟨_,rfl,Gr.refl _,rfl⟩
  ·obtain rfl:=Option.some.inj I;have x:=on_of B 31 (by kernel_rfl);have A:=hF.at (s:=44) (i:=31) (by kernel_rfl) (by simp) x;rw[show d 31=.bool true from f 31 x]at A;refine Or.inl ⟨wanted_at (j:=31) (s:=44) rfl rfl rfl A,?_⟩;exact wp_val (.agg (pnt 0 0 true)) (by simp[go_sem]) ⟨_,rfl,Gr.refl _,rfl⟩
  ·obtain rfl:=Option.some.inj I;have x:=on_of B 31 (by kernel_rfl);have A:=hF.at (s:=44) (i:=31) (by kernel_rfl) (by simp) x;rw[show d 31=.bool true from f 31 x]at A;have q:=on_of B 32 (by kernel_rfl);have l:=hF.at (s:=45) (i:=32) (by kernel_rfl) (by simp) q;have C:d 32=.agg (pnt 0 0 true):=f 32 q;rw[C]at l;refine Or.inl ⟨wanted_at (j:=31) (s:=44) rfl rfl rfl A,?_⟩;exact wp_retz (k:=.c (.bool true)) (by simp[go_sem,l]) (aR.out _) (fun u w2 P J=>⟨_,rfl,J,P⟩)
  ·obtain rfl:=Option.some.inj I;have q:=on_of B 31 (by kernel_rfl);have l:=hF.at (s:=44) (i:=31) (by kernel_rfl) (by simp) q;have C:d 31=.bool true:=f 31 q;rw[C]at l;have K:=on_of B 33 (by kernel_rfl);have L:=hF.at (s:=46) (i:=33) (by kernel_rfl) (by simp) K;have D:d 33=.bool true:=f 33 K;rw[D]at L;refine Or.inl ⟨wanted_no rfl,?_⟩;exact wp_val (.bool true) (by simp[go_sem,l,L]) ⟨_,rfl,Gr.refl _,rfl⟩
  ·obtain rfl:=Option.some.inj I;have q:=on_of B 34 (by kernel_rfl);have l:=hF.at (s:=47) (i:=34) (by kernel_rfl) (by simp) q;have C:d 34=.bool true:=f 34 q;rw[C]at l;refine Or.inl ⟨wanted_no rfl,?_⟩;exact wp_val (.bool true) (by simp[go_sem,l]) ⟨_,rfl,Gr.refl _,rfl⟩
  ·obtain rfl:=Option.some.inj I;have x:=on_of B 35 (by kernel_rfl);have A:=hF.at (s:=48) (i:=35) (by kernel_rfl) (by simp) x;rw[show d 35=.bool true from f 35 x]at A;refine Or.inl ⟨wanted_at (j:=35) (s:=48) rfl rfl rfl A,?_⟩;exact wp_retz (k:=.sl 15) (by simp[go_sem]) (HI.out _) (fun u w2 P J=>⟨_,rfl,J,P⟩)
  ·obtain rfl:=Option.some.inj I;have x:=on_of B 35 (by kernel_rfl);have A:=hF.at (s:=48) (i:=35) (by kernel_rfl) (by simp) x;rw[show d 35=.bool true from f 35 x]at A;have q:=on_of B 36 (by kernel_rfl);have l:=hF.at (s:=49) (i:=36) (by kernel_rfl) (by simp) q;obtain⟨p0,n0,C⟩:=(show ∃p n,d 36=.slice p 15 n from f 36 q);rw[C]at l;refine Or.inl ⟨wanted_at (j:=35) (s:=48) rfl rfl rfl A,?_⟩;exact wp_val (.int .i64 15) (by simp[go_sem,l]) ⟨_,rfl,Gr.refl _,rfl⟩
  ·obtain rfl:=Option.some.inj I;have x:=on_of B 35 (by kernel_rfl);have A:=hF.at (s:=48) (i:=35) (by kernel_rfl) (by simp) x;rw[show d 35=.bool true from f 35 x]at A;have q:=on_of B 37 (by kernel_rfl);have l:=hF.at (s:=50) (i:=37) (by kernel_rfl) (by simp) q;have C:d 37=.int .i64 15:=f 37 q;rw[C]at l;refine Or.inl ⟨wanted_at (j:=35) (s:=48) rfl rfl rfl A,?_⟩;exact wp_val (.bool true) (by simp[go_sem,l]) ⟨_,rfl,Gr.refl _,rfl⟩
  ·obtain rfl:=Option.some.inj I;have q:=on_of B 35 (by kernel_rfl);have l:=hF.at (s:=48) (i:=35) (by kernel_rfl) (by simp) q;have C:d 35=.bool true:=f 35 q;rw[C]at l;have K:=on_of B 38 (by kernel_rfl);have L:=hF.at (s:=51) (i:=38) (by kernel_rfl) (by simp) K;have D:d 38=.bool true:=f 38 K;rw[D]at L;refine Or.inl ⟨wanted_no rfl,?_⟩;exact wp_val (.bool true) (by simp[go_sem,l,L]) ⟨_,rfl,Gr.refl _,rfl⟩
  ·obtain rfl:=Option.some.inj I;have q:=on_of B 39 (by kernel_rfl);have l:=hF.at (s:=52) (i:=39) (by kernel_rfl) (by simp) q;have C:d 39=.bool true:=f 39 q;rw[C]at l;refine Or.inl ⟨wanted_no rfl,?_⟩;exact wp_val (.bool true) (by simp[go_sem,l]) ⟨_,rfl,Gr.refl _,rfl⟩
 case hf=>
  intro d v hg f;have H1:blk v D=cu 13 251 248 26 223 2 84 8 1 false:=(hg.blk _ c1.p).trans c1.h
  have K1:v.cell? ⟨D,56,none⟩=some (.int .i64 8):=by rw[cell_blk,H1];exact cu_56 _ _ _ _ _ _ _ _ _ _
  have Q:d 0=.int .i64 0:=f 0 (by simp);have S:d 1=.int .i64 0:=f 1 (by simp);have U:d 2=.bool true:=f 2 (by simp);have V:d 3=.bool true:=f 3 (by simp);have W:d 4=.pointer (some ⟨D,1,none⟩):=f 4 (by simp);have X:d 5=.agg (nw 9 251):=f 5 (by simp);have Y:d 6=.agg (nw 9 251):=f 6 (by simp);have Z:d 7=.bool true:=f 7 (by simp);have aa:d 8=.bool true:=f 8 (by simp);have ab:d 9=.bool true:=f 9 (by simp);have ac:d 10=.pointer (some ⟨D,37,none⟩):=f 10 (by simp);have ad:d 11=.pointer (some ⟨D,37,none⟩):=f 11 (by simp);have ae:d 12=.agg (nw 9 2):=f 12 (by simp);have af:d 13=.agg (nw 9 2):=f 13 (by simp);have ag:d 14=.bool true:=f 14 (by simp);have ah:d 15=.bool true:=f 15 (by simp);have ai:d 16=.bool true:=f 16 (by simp);have aj:d 17=.pointer (some ⟨D,56,none⟩):=f 17 (by simp);have ak:d 18=.int .i64 8:=f 18 (by simp);have ao:d 19=.bool true:=f 19 (by simp);have ap:d 20=.bool true:=f 20 (by simp);have aq:d 21=.bool true:=f 21 (by simp);have ar:d 22=.int .i64 1300:=f 22 (by simp);have au:d 23=.int .i64 1300:=f 23 (by simp);have av:d 24=.bool true:=f 24 (by simp);have aw:d 25=.bool true:=f 25 (by simp);have ax:d 26=.bool true:=f 26 (by simp);have ay:d 27=.pointer (some ⟨D,37,none⟩):=f 27 (by simp);have az:d 28=.agg (pnt 2 84 false):=f 28 (by simp);have aA:d 29=.bool true:=f 29 (by simp);have aB:d 30=.bool true:=f 30 (by simp);have aC:d 31=.bool true:=f 31 (by simp);have aD:d 32=.agg (pnt 0 0 true):=f 32 (by simp);have aE:d 33=.bool true:=f 33 (by simp);have aF:d 34=.bool true:=f 34 (by simp);have aG:d 35=.bool true:=f 35 (by simp);obtain⟨aS,aT,aH⟩:=(show ∃p n,d 36=.slice p 15 n from f 36 (by simp));have aI:d 37=.int .i64 15:=f 37 (by simp);have aJ:d 38=.bool true:=f 38 (by simp);have aK:d 39=.bool true:=f 39 (by simp);have aL:d 40=.bool true:=f 40 (by simp);simp only[putFrom,Act.put,lqA,lqB,lqC,Q,S,U,V,W,X,Y,Z,aa,ab,ac,ad,ae,af,ag,ah,ai,aj,ak,ao,ap,aq,ar,au,av,aw,ax,ay,az,aA,aB,aC,aD,aE,aF,aG,aH,aI,aJ,aK,aL];clear f Q S U V W X Y Z aa ab ac ad ae af ag ah ai aj ak ao ap aq ar au av aw ax ay az aA aB aC aD aE aF aG aH aI aJ aK aL;have HG:Gr w v:=G.trans hg;clear hg
  go_wp2_with fail
  go_ret
  exact⟨rfl,HG⟩
end
end
end Go.Proofs.Ytffhepbppiocbaa