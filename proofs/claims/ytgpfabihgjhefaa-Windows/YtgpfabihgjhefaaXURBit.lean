import Derived.Test.YtgpfabihgjhefaaXURFrom
import Derived.Test.YtgpfabihgjhefaaXULawA
namespace Go.Proofs.Ytgpfabihgjhefaa
open Go.RowKit
set_option maxRecDepth 100000
set_option maxHeartbeats 8000000
section
attribute [local go_sem ↓] uz1
attribute [local go_sem] uz2
section
theorem nd_two (x:Nat):(#[.int .u32 ((x%4294967296:Nat):Int),.int .u32 ((x/4294967296%4294967296:Nat):Int)]:Array Value)=nd 2 x:=by
 have h0:dg x 0=x%4294967296:=by unfold dg; rw [pq_zero,Nat.div_one]
 have h1:dg x 1=x/4294967296%4294967296:=rfl
 rw [← h0,← h1]
 rfl
theorem rsmall_any (x:Int) (hx:x≤9223372036854775807) (w:World):
 Calls Try.prog 35 #[.int .i64 x] w (Nm x.toNat w):=by
 by_cases h:0≤x
 ·obtain ⟨n,rfl⟩:=Int.eq_ofNat_of_zero_le h
  have hw:IntKind.u64.wrap (n:Int)=(n:Int):=wuA
  have hn:n<pq 2:=by
   have:pq 2=18446744073709551616:=by decide
   omega
  rw [Int.toNat_natCast]
  obtain ⟨u,hu⟩:=exl (n%4294967296)
  obtain ⟨v,hv⟩:=exl (n/4294967296)
  have e1:bits BinOp.and IntKind.u64 (n:Int) 4294967295=(u:Int):=by rw [← hu]; exact Mul64.maskN n (by omega)
  have e2:(n:Int)/4294967296=(v:Int):=by omega
  have e3:(u:Int)%4294967296=(u:Int):=by omega
  have e4:(v:Int)%4294967296=(v:Int):=by omega
  have n0:¬ (n:Int)<0:=by omega
  have hc:(#[.int .u32 (u:Int),.int .u32 (v:Int)]:Array Value)=nd 2 n:=by
   rw [← nd_two n,hu,hv,Nat.mod_eq_of_lt (show v<4294967296 by omega)]
  have HN:Hid (Unit→_):=fun _=>hn
  clear hn hu hv hx h
  go_enter Try.func35,Try.ntmps35
  go_wp2_with (go_at_call 30; refine (trim_nd _ _ 2 n (by decide) (HN.out ()) (by simp [go_sem])).mono ?_; rintro e w' ⟨rfl,rfl⟩)
  go_ret
  exact Nm.mk rfl (HN.out ()) (by simp [go_sem]) (by simp [go_sem]) grA
 ·have hz:x.toNat=0:=by omega
  have h':x<0:=by omega
  rw [hz]
  clear hz h hx
  go_enter Try.func35,Try.ntmps35
  go_wp2
  go_ret
  exact ⟨none,0,rfl,Sl.zero _ _,grA⟩
end
end
end Go.Proofs.Ytgpfabihgjhefaa