import Derived.Shelf.Bits.Mul64
import Derived.Test.YtgpfabihgjhefaaXVSl
namespace Go.Proofs.Ytgpfabihgjhefaa
open Go.RowKit
set_option maxRecDepth 100000
set_option maxHeartbeats 8000000
section
attribute [local go_sem ↓] uz1
attribute [local go_sem] uz2
section
theorem dbl_top (x j:Nat) (hx:x<pq (j+1)) (h:dg x j≠0):bl x=32*j+bl (dg x j):=by
 have e:x/2 ^ (32*j)=dg x j:=by
  unfold dg
  show x/pq j=_
  rw [Nat.mod_eq_of_lt]
  rw [pq_succ] at hx
  rw [Nat.div_lt_iff_lt_mul (pq_pos j),Nat.mul_comm]
  exact hx
 rw [← e]
 refine bl_shift x (32*j) ?_
 by_cases hl:2 ^ (32*j)≤x
 ·exact hl
 ·exfalso
  apply h
  rw [← e,Nat.div_eq_of_lt (by omega)]
theorem rbits_any (x n:Nat) (p:Option Addr) (w:World) (hp:Sl w p x) (hx:dl x≤50000):
 Calls Try.prog 20 #[.slice p (dl x) n] w fun e w'=>e=.returned (.int .i64 ((bl x:Nat):Int))∧w'=w:=by
 obtain hz | ⟨j,hj⟩:dl x=0∨∃ j,dl x=j+1:=by
  cases dl x with
  | zero=>exact Or.inl rfl
  | succ j=>exact Or.inr ⟨j,rfl⟩
 ·have hx0:=dl_eq_zero x hz
  subst hx0
  rw [hz]
  clear hp
  go_enter Try.func20,Try.ntmps20
  go_wp2
  go_ret
  exact ⟨rfl,rfl⟩
 ·obtain ⟨b,rfl,hb,hc⟩:=hp j (by omega)
  have hlx:=dl_lt x
  rw [hj] at hx hlx ⊢
  have hne:dg x j≠0:=fun h0=>by
   have:=(dl_le x j).2 (dl_top_zero x j hlx h0)
   omega
  have hB:=dbl_top x j hlx hne
  have hl:=dg_lt x j
  have hb32:bl (dg x j)≤32:=(bl_le _ 32).2 hl
  have hg:w.cell? ⟨b,j,none⟩=some (.int .u32 ((dg x j:Nat):Int)):=by rw [cell_blk]; exact hc
  have j0:(0:Int)≤(j:Int):=by omega
  have j1:(j:Int)<50000:=by omega
  obtain ⟨L,hL⟩:=exl (j+1)
  rw [hL]
  have e1:(L:Int)-1=(j:Int):=by omega
  have e3:((L:Int) == 0)=false:=by rw [beq_eq_false_iff_ne]; omega
  have e4:(j:Int)<(L:Int):=by omega
  obtain ⟨D,hD⟩:=exl (dg x j)
  obtain ⟨B,hBx⟩:=exl (bl x)
  rw [hD] at hB hl hg hb32
  rw [hBx] at hB ⊢
  have HB:Hid (Unit→_):=fun _=>hB
  have HL:Hid (Unit→_):=fun _=>hb32
  have HX:Hid (Unit→j<50000):=fun _=>by omega
  clear hB hBx hD hc hne hlx hj hb32 hp hx hL
  go_enter Try.func20,Try.ntmps20
  go_wp2
  go_loopw [3,4] (fun k v wr=>∃ K V:Nat,k=.int .i64 (K:Int)∧v=.int .u32 (V:Int)∧(V:Int)<4294967296∧(K:Int)≤1700000∧Hid (Unit→K+bl V=B)∧wr=w) (fun _ v _=>(intOf v).toNat)
  case atStart=>exact ⟨32*j,D,by go_num,rfl,by omega,by have:=HX.out (); omega,fun _=>(HB.out ()).symm,rfl⟩
  case round=>
   obtain ⟨K,V,rfl,rfl,hV,hK,HE,rfl⟩:=hrel
   by_cases h0:V=0
   ·subst h0
    have HK:Hid (Unit→K=B):=fun _=>by have:=HE.out (); rw [bl_zero] at this; omega
    clear HE HB HL
    go_wp2
    go_ret
    exact ⟨by rw [HK.out ()]; rfl,rfl⟩
   ·have v0:(0:Int)<(V:Int):=by omega
    have HN:Hid (Unit→K+1+bl (V/2)=B):=fun _=>by have:=HE.out (); rw [bl_half V h0] at this; omega
    have HW:Hid (Unit→V<4294967296):=fun _=>by omega
    clear hV HE h0 e1 e3 e4 j0 j1 hl hb hg
    go_wp2
    go_roundw
    case rel=>exact ⟨K+1,V/2,by go_num,by go_num,by have:=HW.out (); omega,by have:=HN.out (); have:=HB.out (); have:=HL.out (); have:=HX.out (); omega,HN,trivial⟩
    case measure=>simp [intOf]; omega
end
section
theorem dg_i (x k:Nat):((dg x k:Nat):Int)%4294967296=((dg x k:Nat):Int):=by have:=dg_lt x k; omega
theorem mask_wd (a k:Nat):bits BinOp.and IntKind.u64 ((wd a k:Nat):Int) 4294967295=((dg a (2*k):Nat):Int):=by
 rw [Mul64.maskN _ (wd_lt a k),dg_even]
theorem half_wd (a k:Nat):((wd a k:Nat):Int)/4294967296=((dg a (2*k+1):Nat):Int):=by
 rw [dg_odd]; omega
theorem pq_M:pq 18=M:=pq_two 9
theorem from_any (a:Nat) (ha:a<M) (w:World):Calls Try.prog 10 #[.agg (nw 9 a)] w (Nm a w):=by
 have hmk:∀ w,(Instr.makeSlice 33 (.int .i64 18) (.int .i64 18)).run Try.prog w=.ok (.slice (some ⟨w.heap.size,0,none⟩) 18 18) (w.alloc (.cells (nd 18 0) 59)):=fun w=>make_digits 18 (by decide) w
 have HA:Hid (Unit→a<M):=fun _=>ha
 clear ha
 go_enter Try.func10,Try.ntmps10
 go_wp2
 clear hmk
 go_loopw [4] (fun i wr=>∃ k:Nat,k≤9∧i=.int .i64 (k:Int)∧wr=(w.alloc (.cells (nw 9 a) 25)).alloc (.cells (nd 18 (a%pq (2*k))) 59)) (fun i _=>9-(intOf i).toNat)
 case atStart=>exact ⟨0,by omega,rfl,by rw [Nat.mul_zero,pq_zero,Nat.mod_one]⟩
 case round=>
  obtain ⟨k,hk,rfl,rfl⟩:=hrel
  by_cases hlt:k<9
  ·have k0:(0:Int)≤(k:Int):=by omega
   have k1:(k:Int)<9:=by omega
   have ga:=nw_get 9 a k hlt
   have m1:=mask_wd a k
   have m2:=half_wd a k
   have m3:=dg_i a (2*k)
   have m4:=dg_i a (2*k+1)
   have s1:=nd_next 18 a (2*k)
   have s2:=nd_next 18 a (2*k+1)
   obtain ⟨V,hV⟩:=exl (a%pq (2*k))
   obtain ⟨V1,hV1⟩:=exl (a%pq (2*k+1))
   obtain ⟨V2,hV2⟩:=exl (a%pq (2*k+1+1))
   rw [hV,hV1] at s1
   rw [hV1,hV2] at s2
   rw [hV]
   have gV:=nd_get 18 V (2*k) (by omega)
   have gV1:=nd_get 18 V1 (2*k+1) (by omega)
   have HV:Hid (Unit→V2=a%pq (2*(k+1))):=fun _=>hV2.symm
   clear hV hV1 hV2
   go_wp2
   go_roundw
   case rel=>exact ⟨k+1,by omega,by go_num,by rw [← HV.out ()]⟩
   case measure=>simp [intOf]; omega
  ·have hk9:Hid (Unit→k=9):=fun _=>by omega
   obtain ⟨V,hV⟩:=exl (a%pq (2*k))
   have HV:Hid (Unit→V=a):=fun _=>by rw [← hV,hk9.out (),pq_M,Nat.mod_eq_of_lt (HA.out ())]
   have ki:¬ (k:Int)<9:=by omega
   rw [hV]
   clear hV hlt hk
   have hVq:V<pq 18:=by rw [HV.out (),pq_M]; exact HA.out ()
   have HQ:Hid (Unit→V<pq 18):=fun _=>hVq
   clear hVq
   go_wp2_with (go_at_call 30; refine (trim_nd _ _ 18 V (by decide) (HQ.out ()) (by simp [go_sem])).mono ?_; rintro e w' ⟨rfl,rfl⟩)
   go_ret
   exact Nm.mk (HV.out ()) (HQ.out ()) (by simp [go_sem]) (by simp [go_sem]) grA
end
end
end Go.Proofs.Ytgpfabihgjhefaa