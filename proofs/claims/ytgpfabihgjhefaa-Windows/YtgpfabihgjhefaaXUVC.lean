import Derived.Test.YtgpfabihgjhefaaXUVB
import Derived.Test.YtgpfabihgjhefaaXUQt
namespace Go.Proofs.Ytgpfabihgjhefaa
open Go.RowKit
set_option maxRecDepth 100000
set_option maxHeartbeats 8000000
section
attribute [local go_sem ↓] uz1
attribute [local go_sem] uz2
section
attribute [local go_sem] uz3
attribute [local go_sem] ppre_1 ppre_2 ppre_3 ppre_4 ppre_5 ppre_6
def tn (f:Nat→Int) (i:Nat):Nat:=(f i).toNat
def Vok (W:Nat) (f:Nat→Int) (n:Nat):Prop:=(∀ i,i<n→0≤f i∧f i<((2 ^ W:Nat):Int))∧hor W (tn f) n<M
theorem Vok.le {W:Nat} {f:Nat→Int} {n m:Nat} (h:Vok W f n) (hm:m≤n):Vok W f m:=⟨fun i hi=>h.1 i (by omega),Nat.lt_of_le_of_lt (hor_mono W (tn f) hm) h.2⟩
theorem Vok.zero (W:Nat) (f:Nat→Int):Vok W f 0:=⟨fun _ h=>absurd h (Nat.not_lt_zero _),lt_M 0 (by decide)⟩
theorem pw_pow {n a b:Nat} (h:a+b=64*n):pw n=2 ^ a*2 ^ b:=by unfold pw; rw [← h,Nat.pow_add]
theorem M_pow {a b:Nat} (h:a+b=576):M=2 ^ a*2 ^ b:=pw_pow (n:=9) (by omega)
theorem Vok.succ {W:Nat} {f:Nat→Int} {j:Nat} (h:Vok W f j) (h1:W≤576):Vok W f (j+1)↔(0≤f j∧f j<((2 ^ W:Nat):Int))∧hor W (tn f) j<2 ^ (576-W):=by
 have e:M=2 ^ (576-W)*2 ^ W:=M_pow (by omega)
 constructor
 ·intro k
  refine ⟨k.1 j (by omega),?_⟩
  have h2:=k.2
  rw [hor,e] at h2
  exact Nat.lt_of_mul_lt_mul_right (Nat.lt_of_le_of_lt (Nat.le_add_right _ _) h2)
 ·rintro ⟨hd,hs⟩
  refine ⟨fun i hi=>?_,?_⟩
  ·by_cases c:i=j
   ·rw [c]; exact hd
   ·exact h.1 i (by omega)
  ·have h3:(hor W (tn f) j+1)*2 ^ W≤M:=by rw [e]; exact Nat.mul_le_mul_right _ hs
   have h4:tn f j<2 ^ W:=by unfold tn; omega
   rw [hor]
   rw [Nat.succ_mul] at h3
   omega
theorem or_low (S W D:Nat) (h1:W≤6) (hD:D<2 ^ W):bits BinOp.or IntKind.u64 ((wd (S*2 ^ W) 0:Nat):Int) (D:Int)=((wd (S*2 ^ W) 0+D:Nat):Int)∧wd (S*2 ^ W) 0+D<18446744073709551616:=by
 have e:(18446744073709551616:Nat)=2 ^ (64-W)*2 ^ W:=by rw [← Nat.pow_add,show 64-W+W=64 by omega]
 have e1:wd (S*2 ^ W) 0=2 ^ W*(S%2 ^ (64-W)):=by
  unfold wd
  rw [pw_zero,Nat.div_one,e,Nat.mul_mod_mul_right,Nat.mul_comm]
 have h2:S%2 ^ (64-W)<2 ^ (64-W):=Nat.mod_lt _ (Nat.two_pow_pos _)
 have h3:2 ^ W*(S%2 ^ (64-W)+1)≤2 ^ W*2 ^ (64-W):=Nat.mul_le_mul_left _ h2
 have h4:2 ^ W*(S%2 ^ (64-W))+D<18446744073709551616:=by
  rw [e,Nat.mul_comm (2 ^ (64-W))]
  rw [Nat.mul_succ] at h3
  omega
 rw [e1]
 refine ⟨?_,h4⟩
 rw [bits_or_u64_nat _ D (by omega) (by omega),← Nat.two_pow_add_eq_or_of_lt hD]
theorem set_low (S W D:Nat) (h1:W≤6) (hD:D<2 ^ W):(nw 9 (S*2 ^ W)).setIfInBounds 0 (.int .u64 (((wd (S*2 ^ W) 0:Nat):Int)+(D:Int)))=nw 9 (S*2 ^ W+D):=by
 obtain ⟨-,h⟩:=or_low S W D h1 hD
 rw [← Int.natCast_add,nw_set 9 _ 0 _ h,pw_zero,Nat.mod_one,Nat.zero_add,Nat.mul_one,Nat.zero_add]
 refine congrArg (nw 9) ?_
 have e:wd (S*2 ^ W) 0=S*2 ^ W%pw 1:=by unfold wd; rw [pw_zero,Nat.div_one]; rfl
 have:=Nat.div_add_mod (S*2 ^ W) (pw 1)
 rw [e]
 rw [Nat.mul_comm] at this
 omega
theorem wval_form {x:Int} (hx:x<1∨6<x) (p:Value) (w:World):Cg 12 #[p,.int .i64 x] w (.tuple #[.agg (nw 9 0),.int .i64 1700]):=by
 have HI:Hid _:=fun w=>isw_no hx w
 clear hx
 go_enter Try.func12,Try.ntmps12
 go_wp2_with (go_at_call 26; refine (HI.out _).mono ?_; rintro e w' ⟨rfl,rfl⟩)
 exact bodyPost_ret (v:=.tuple #[.agg (nw 9 0),.int .i64 1700]) (by simp [results,Try.results12,go_sem,nw9_lit]) rfl ⟨rfl,grA⟩
theorem wval_any {n W:Nat} (h0:1≤W) (h1:W≤6) (hn:n≤4611686018427387904) {f:Nat→Int} {q:Option Addr} (c:Nat) {w:World} (hf:Iv w q n f):
 Calls Try.prog 12 #[.slice q n c,.int .i64 (W:Int)] w fun e w'=>(Vok W f n∧e=.returned (.tuple #[.agg (nw 9 (hor W (tn f) n)),.int .i64 0])∨¬ Vok W f n∧e=.returned (.tuple #[.agg (nw 9 0),.int .i64 1700]))∧Gr w w':=by
 have HI:Hid _:=fun w=>isw_yes (x:=W) (by omega) (by omega) w
 have HY:Hid _:=fun (d:Int) (d0:0≤d) (d1:d<((2 ^ W:Nat):Int)) w=>isd_yes h0 h1 d0 d1 w
 have HN:Hid _:=fun (d:Int) (h:d<0∨((2 ^ W:Nat):Int)≤d) w=>isd_no h0 h1 h w
 have HF:Hid (∀ (S:Nat) (hS:S<M) w,Cg 27 #[.agg (nw 9 S),.int .i64 (576-(W:Int))] w (.bool (decide (S<2 ^ (576-W))))):=fun S hS w=>by
  have:=wfit_any (b:=576-W) hS (by omega) w
  rwa [show ((576-W:Nat):Int)=576-(W:Int) by omega] at this
 have HL:Hid _:=fun (S:Nat) w=>shl_any S W (by omega) w
 have n0:(n:Int)≤4611686018427387904:=by omega
 have w0:(1:Int)≤(W:Int):=by omega
 have w1:(W:Int)≤6:=by omega
 have HV:Hid _:=hf
 have HW:Hid _:=h1
 clear hf h0 h1 hn
 go_enter Try.func12,Try.ntmps12
 go_wp2_with (go_at_call 26; refine (HI.out _).mono ?_; rintro e w' ⟨rfl,rfl⟩)
 clear HI
 go_loopw [15,8] (fun i _ wr=>∃ (j:Nat) (g:Grow),Hid (Unit→j≤n)∧i=.int .i64 (j:Int)∧Hid (Unit→Vok W f j)∧wr=gro ((w.alloc (.cells (nw 9 0) 25)).alloc (.cells (nw 9 (hor W (tn f) j)) 25)) g) (fun i _ _=>(n-(intOf i).toNat))
 case atStart=>
  obtain ⟨g0,hg0⟩:=Gr.refl ((w.alloc (.cells (nw 9 0) 25)).alloc (.cells (nw 9 0) 25))
  exact ⟨0,g0,fun _=>by omega,rfl,fun _=>Vok.zero W f,hg0⟩
 case round=>
  obtain ⟨j,g,HJ,rfl,HK,rfl⟩:=hrel
  by_cases hlt:j<n
  ·obtain ⟨b,o,rfl,hb,hcc⟩:∃ b o,q=some ⟨b,o,none⟩∧Pre (b+1) w.heap.size∧∀ i,i<n→w.cell? ⟨b,o+i,none⟩=some (.int .i64 (f i)):=HV.out.resolve_left (by omega)
   have hc:=hcc j hlt
   have HK1:Hid _:=(HK.out ()).succ (show W≤576 by have:=HW.out; omega)
   have HS:Hid _:=(HK.out ()).2
   have HM:Hid (hor W (tn f) (j+1)=hor W (tn f) j*2 ^ W+tn f j):=rfl
   have HD:Hid (tn f j=(f j).toNat):=rfl
   obtain ⟨S,hS⟩:=exl (hor W (tn f) j)
   obtain ⟨d,hd⟩:=exl (f j)
   rw [hS] at HK1 HS HM ⊢
   rw [hd] at hc HK1 HD
   have j0:(0:Int)≤(j:Int):=by omega
   have j1:(j:Int)<(n:Int):=by omega
   have HNo:Hid (Unit→¬ Vok W f (j+1)→¬ Vok W f n):=fun _ h k=>h (k.le hlt)
   have HJ1:Hid (Unit→j+1≤n):=fun _=>hlt
   clear hS hd hcc hlt HJ HK
   by_cases hd:0≤d∧d<((2 ^ W:Nat):Int)
   ·have HF1:=HF.out S HS.out
    have HY1:Hid _:=HY.out d hd.1 hd.2
    by_cases hs:S<2 ^ (576-W)
    ·rw [decide_eq_true hs] at HF1
     have HF2:Hid _:=HF1
     have HV1:Hid (Unit→Vok W f (j+1)):=fun _=>HK1.out.2 ⟨hd,hs⟩
     obtain ⟨D,rfl⟩:∃ D:Nat,d=(D:Int):=⟨d.toNat,by omega⟩
     have hD:D<2 ^ W:=by omega
     obtain ⟨ho,hl⟩:=or_low S W D HW.out hD
     have HE:Hid _:=set_low S W D HW.out hD
     have HL1:Hid (∀ w,Cg 22 #[.agg (nw 9 S),.int .i64 (W:Int)] w (.tuple #[.agg (nw 9 (S*2 ^ W)),.int .i64 0])):=fun w=>by
      have:=HL.out S w
      rwa [Nat.mod_eq_of_lt (by rw [M_pow (show 576-W+W=576 by have:=HW.out; omega)]; exact Nat.mul_lt_mul_of_pos_right hs (Nat.two_pow_pos W))] at this
     have HH:Hid (S*2 ^ W+D=hor W (tn f) (j+1)):=by
      show _=_
      rw [HM.out,HD.out]; rfl
     have d1:(D:Int)<64:=by
      have:=Nat.pow_le_pow_right (n:=2) (by decide) HW.out
      omega
     obtain ⟨X,hX⟩:=exl (S*2 ^ W)
     rw [hX] at ho hl HE HL1 HH
     have ga:=nw_get 9 X 0 (by decide)
     have d0:(0:Int)≤(D:Int):=by omega
     clear hX hs hd hD hl HF HF1 HY HN HL HK1 HM HD HNo
     go_wp2_with (first
      | (go_at_call 32; refine (HY1.out _).mono ?_; rintro e w' ⟨rfl,rfl⟩)
      | (go_at_call 27; refine (HF2.out _).mono ?_; rintro e w' ⟨rfl,g2,rfl⟩)
      | (go_at_call 22; refine (HL1.out _).mono ?_; rintro e w' ⟨rfl,g3,rfl⟩))
     go_roundw
     case rel=>
      refine ⟨j+1,⟨g.os++(g2.os++g3.os),g3.n⟩,HJ1,by go_num,HV1,?_⟩
      rw [HE.out,HH.out]
     case measure=>simp [intOf]; omega
    ·rw [decide_eq_false hs] at HF1
     have HF2:Hid _:=HF1
     have HV1:Hid (Unit→¬ Vok W f n):=fun _=>HNo.out () fun k=>hs (HK1.out.1 k).2
     clear hs hd HF HF1 HY HN HL HK1 HM HD HNo
     go_wp2_with (first
      | (go_at_call 32; refine (HY1.out _).mono ?_; rintro e w' ⟨rfl,rfl⟩)
      | (go_at_call 27; refine (HF2.out _).mono ?_; rintro e w' ⟨rfl,g2,rfl⟩))
     exact bodyPost_ret (v:=.tuple #[.agg (nw 9 0),.int .i64 1700]) (by simp [results,Try.results12,go_sem,nw9_lit]) rfl ⟨Or.inr ⟨HV1.out (),rfl⟩,grA⟩
   ·have HN1:Hid _:=HN.out d (by omega)
    have HV1:Hid (Unit→¬ Vok W f n):=fun _=>HNo.out () fun k=>hd (HK1.out.1 k).1
    clear hd HF HY HN HL HK1 HM HD HNo
    go_wp2_with (go_at_call 32; refine (HN1.out _).mono ?_; rintro e w' ⟨rfl,rfl⟩)
    exact bodyPost_ret (v:=.tuple #[.agg (nw 9 0),.int .i64 1700]) (by simp [results,Try.results12,go_sem,nw9_lit]) rfl ⟨Or.inr ⟨HV1.out (),rfl⟩,grA⟩
  ·have HE:Hid (Unit→j=n):=fun _=>by have:=HJ.out (); omega
   have hni:¬ (j:Int)<(n:Int):=by omega
   clear hlt HJ
   go_wp2
   refine bodyPost_ret (v:=.tuple #[.agg (nw 9 (hor W (tn f) j)),.int .i64 0]) (by simp [results,Try.results12,go_sem,nw9_lit]) rfl ⟨Or.inl ?_,grA⟩
   rw [← HE.out ()]
   exact ⟨HK.out (),rfl⟩
theorem wval_ok {n W:Nat} (h0:1≤W) (h1:W≤6) (hn:n≤4611686018427387904) {f:Nat→Int} {q:Option Addr} (c:Nat) {w:World} (hf:Iv w q n f) (h:Vok W f n):
 Cg 12 #[.slice q n c,.int .i64 (W:Int)] w (.tuple #[.agg (nw 9 (hor W (tn f) n)),.int .i64 0]):=
 (wval_any h0 h1 hn c hf).mono fun _ _ ⟨h',g⟩=>⟨h'.elim (fun k=>k.2) fun k=>absurd h k.1,g⟩
theorem wval_no {n W:Nat} (h0:1≤W) (h1:W≤6) (hn:n≤4611686018427387904) {f:Nat→Int} {q:Option Addr} (c:Nat) {w:World} (hf:Iv w q n f) (h:¬ Vok W f n):
 Cg 12 #[.slice q n c,.int .i64 (W:Int)] w (.tuple #[.agg (nw 9 0),.int .i64 1700]):=
 (wval_any h0 h1 hn c hf).mono fun _ _ ⟨h',g⟩=>⟨h'.elim (fun k=>absurd k.1 h) fun k=>k.2,g⟩
theorem dF_bd (W k m i:Nat):0≤dF W k m i∧dF W k m i<((2 ^ W:Nat):Int):=by
 have:=dgw_lt W k (m-1-i)
 unfold dF
 omega
end
end
end Go.Proofs.Ytgpfabihgjhefaa