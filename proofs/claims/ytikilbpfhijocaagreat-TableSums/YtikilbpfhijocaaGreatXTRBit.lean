import Derived.Test.YtikilbpfhijocaaGreatXTRSub
import Derived.Test.YtikilbpfhijocaaGreatXTLawA
namespace Go.Proofs.YtikilbpfhijocaaGreat
open Go.RowKit
set_option maxRecDepth 100000
set_option maxHeartbeats 8000000
section
attribute [local go_sem ↓] loadNat_is loadArr_is loadWide_is loadArrW_is storeNat_is storeWide_is
attribute [local go_sem] loadNat loadArr loadWide loadArrW storeNat storeWide idxArr fold9 fold18 nw_size nw_elem pre_self pre_1 pre_2 pre_3 pre_4 pre_5 pre_6 pre_7 pre_8 pre_9 pre_10 pre_11 pre_12 pre_13 pre_14 pre_15 pre_16 pre_17 pre_18 pre_19 pre_20 pre_21 pre_22 pre_23 pre_24 pre_25 pre_26 pre_27 pre_28 pre_29 pre_30 pre_31 pre_32 pre_33 pre_34 pre_35 pre_36 pre_37 pre_38 pre_39 pre_40 gro_size gro_drew gro_drewN drew_gro drewN_gro gro_gro blk_gro frz_gro blk_drew frz_drew blk_drewN frz_drewN blk_alloc_at frz_alloc_at blk_alloc frz_alloc cell_gro frozen_gro cell_alloc_pre frozen_alloc_pre setCell_drewN alloc_drewN setBlk_drew setBlk_drewN setBlk_alloc_at setBlk_alloc setBlk_gro setCell_gro setCell_alloc_pre size_setBlk size_setCell
section
theorem bit_dg (x q r:Nat) (h:r<32):dg x q/2 ^ r%2=bitN x (32*q+r):=by
 unfold bitN dg pq
 rw [show (4294967296:Nat)=2 ^ 32 from rfl,← Nat.shiftRight_eq_div_pow,← Nat.shiftRight_eq_div_pow,← Nat.shiftRight_eq_div_pow]
 have e:∀ y,y%2=(y.testBit 0).toNat:=fun y=>by rw [Nat.testBit_zero]; rcases Nat.mod_two_eq_zero_or_one y with h | h <;> simp [h]
 rw [e,e,Nat.testBit_shiftRight,Nat.testBit_mod_two_pow,Nat.testBit_shiftRight,Nat.testBit_shiftRight]
 simp [h]
theorem rbit_conv (x q r:Nat) (h:r<32):bits BinOp.and IntKind.u64 (((dg x q:Nat):Int)/2 ^ r) 1=((bitN x (32*q+r):Nat):Int):=by
 have h1:=dg_lt x q
 have h2:dg x q/2 ^ r≤dg x q:=Nat.div_le_self _ _
 rw [int_pow,← Int.natCast_ediv,← bit_dg x q r h]
 generalize dg x q/2 ^ r=y at *
 rw [and_one_u64 _ (by omega) (by omega)]
 omega
theorem rbit_any (x n i:Nat) (p:Option Addr) (w:World) (hp:Sl w p x) (hi:i≤1000000):
 Calls Tryz.prog 42 #[.slice p (dl x) n,.int .i64 (i:Int)] w fun e w'=>e=.returned (.int .i64 (bitN x i))∧w'=w:=by
 obtain ⟨q,r,hqr,hr⟩:∃ q r,i=32*q+r∧r<32:=⟨i/32,i%32,by omega,by omega⟩
 have CD:=digit_any w p x n q hp
 obtain ⟨K,hK⟩:∃ K:Int,K=(i:Int):=⟨_,rfl⟩
 rw [← hK]
 obtain ⟨B,hB⟩:∃ B:Nat,bitN x i=B:=⟨_,rfl⟩
 have hb:=rbit_conv x q r hr
 rw [← hqr] at hb
 rw [hB] at hb ⊢
 have k0:0≤K:=by omega
 have q1:K/32=(q:Int):=by omega
 have q2:K%32=(r:Int):=by omega
 have d1:K.tdiv 32=(q:Int):=by rw [Int.tdiv_eq_ediv_of_nonneg (by omega)]; exact q1
 have d2:K.tmod 32=(r:Int):=by rw [Int.tmod_eq_emod_of_nonneg (by omega)]; exact q2
 have qb:(q:Int)≤50000:=by omega
 have r0:(0:Int)≤(r:Int):=by omega
 have r1:(r:Int)<32:=by omega
 have b0:(0:Int)≤(B:Int):=by omega
 have b1:(B:Int)<2:=by have:=bitN_lt x i; omega
 have HD:Hid (Unit→Calls Tryz.prog 50 #[.slice p (dl x) n,.int .i64 (q:Int)] w fun e w'=>e=.returned (.int .u64 ((dg x q:Nat):Int))∧w'=w):=fun _=>CD
 obtain ⟨L,hL⟩:∃ L,dl x=L:=⟨_,rfl⟩
 rw [hL] at HD ⊢
 clear CD hK hB hqr hr hp hL hi
 go_enter Tryz.func42,Tryz.ntmps42
 go_wp2_with (go_at_call 50; refine (HD.out ()).mono ?_; rintro e w' ⟨rfl,rfl⟩)
 go_ret
 exact ⟨rfl,rfl⟩
theorem nd_two (x:Nat):(#[.int .u32 ((x%4294967296:Nat):Int),.int .u32 ((x/4294967296%4294967296:Nat):Int)]:Array Value)=nd 2 x:=by
 have h0:dg x 0=x%4294967296:=by unfold dg; rw [pq_zero,Nat.div_one]
 have h1:dg x 1=x/4294967296%4294967296:=rfl
 rw [← h0,← h1]
 rfl
theorem rsmall_any (x:Int) (hx:x≤9223372036854775807) (w:World):
 Calls Tryz.prog 19 #[.int .i64 x] w (Nm x.toNat w):=by
 by_cases h:0≤x
 ·obtain ⟨n,rfl⟩:=Int.eq_ofNat_of_zero_le h
  have hw:IntKind.u64.wrap (n:Int)=(n:Int):=by rw [IntKind.wrap_u64]; omega
  have hn:n<pq 2:=by
   have:pq 2=18446744073709551616:=by decide
   omega
  rw [Int.toNat_natCast]
  obtain ⟨u,hu⟩:∃ u,n%4294967296=u:=⟨_,rfl⟩
  obtain ⟨v,hv⟩:∃ v,n/4294967296=v:=⟨_,rfl⟩
  have e1:bits BinOp.and IntKind.u64 (n:Int) 4294967295=(u:Int):=by rw [← hu]; exact Mul64.maskN n (by omega)
  have e2:(n:Int)/4294967296=(v:Int):=by omega
  have e3:(u:Int)%4294967296=(u:Int):=by omega
  have e4:(v:Int)%4294967296=(v:Int):=by omega
  have n0:¬ (n:Int)<0:=by omega
  have hc:(#[.int .u32 (u:Int),.int .u32 (v:Int)]:Array Value)=nd 2 n:=by
   rw [← nd_two n,hu,hv,Nat.mod_eq_of_lt (show v<4294967296 by omega)]
  have HN:Hid (Unit→n<pq 2):=fun _=>hn
  clear hn hu hv hx h
  go_enter Tryz.func19,Tryz.ntmps19
  go_wp2_with (go_at_call 43; refine (trim_nd _ _ 2 n (by decide) (HN.out ()) (by simp [go_sem])).mono ?_; rintro e w' ⟨rfl,rfl⟩)
  go_ret
  exact Nm.mk rfl (HN.out ()) (by simp [go_sem]) (by simp [go_sem]) grA
 ·have hz:x.toNat=0:=by omega
  have h':x<0:=by omega
  rw [hz]
  clear hz h hx
  go_enter Tryz.func19,Tryz.ntmps19
  go_wp2
  go_ret
  exact ⟨none,0,rfl,Sl.zero _ _,grA⟩
end
end
end Go.Proofs.YtikilbpfhijocaaGreat