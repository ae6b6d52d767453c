import Derived.Shelf.Bits.Mul64
import Derived.Lib.Strings
import Derived.Lib.Walk
import Derived.Lib.Slices
import Derived.Lib.Small
import Derived.Test.YtgpfabihgjhefaaXVShl
import Derived.Test.YtgpfabihgjhefaaXVDig
namespace Go.Proofs.Ytgpfabihgjhefaa
open Go.RowKit
set_option maxRecDepth 100000
set_option maxHeartbeats 8000000
section
attribute [local go_sem ↓] uz1
attribute [local go_sem] uz2
section
def bitN (a i:Nat):Nat:=a/2 ^ i%2
theorem bit_wd (a q r:Nat) (h:r<64):wd a q/2 ^ r%2=bitN a (64*q+r):=by
 obtain ⟨d,hd⟩:∃ d,64=r+(1+d):=⟨63-r,by omega⟩
 have e:(18446744073709551616:Nat)=2 ^ r*(2*2 ^ d):=by
  rw [show (2:Nat)*2 ^ d=2 ^ (1+d) from by rw [Nat.pow_add],← Nat.pow_add,← hd]
 unfold bitN wd pw
 rw [e,Nat.mod_mul_right_div_self,Nat.mod_mul_right_mod,Nat.div_div_eq_div_mul,← Nat.pow_add]
end
section
theorem bit_conv (a q r:Nat) (h:r<64):bits BinOp.and IntKind.u64 (((wd a q:Nat):Int)/2 ^ r) 1=((bitN a (64*q+r):Nat):Int):=by
 have h1:=wd_lt a q
 have h2:wd a q/2 ^ r≤wd a q:=Nat.div_le_self _ _
 rw [int_pow,← Int.natCast_ediv,← bit_wd a q r h]
 generalize wd a q/2 ^ r=y at *
 rw [and_one_u64 _ (by omega) (by omega)]
 omega
theorem bitN_lt (a i:Nat):bitN a i<2:=Nat.mod_lt _ (by decide)
theorem bit_raw (a q r:Nat) (hq:q<9) (hr:r<64) (w:World):
 Cg 25 #[.agg (nw 9 a),.int .i64 ((64*q+r:Nat):Int)] w (.int .i64 (bitN a (64*q+r))):=by
 obtain ⟨K,hK⟩:∃ K:Int,K=((64*q+r:Nat):Int):=⟨_,rfl⟩
 rw [← hK]
 obtain ⟨B,hB⟩:∃ B:Nat,bitN a (64*q+r)=B:=⟨_,rfl⟩
 rw [hB]
 have k0:¬ K<0:=by omega
 have k1:K<576:=by omega
 have k2:0≤K:=by omega
 have q1:K/64=(q:Int):=by omega
 have q2:K%64=(r:Int):=by omega
 have r0:(0:Int)≤(r:Int):=by omega
 have r1:(r:Int)<64:=by omega
 have qq0:(0:Int)≤(q:Int):=by omega
 have qq1:(q:Int)<9:=by omega
 have ga:=nw_get 9 a q hq
 have hb:=bit_conv a q r hr
 rw [hB] at hb
 have b0:(0:Int)≤(B:Int):=by omega
 have b1:(B:Int)<2:=by have:=bitN_lt a (64*q+r); omega
 clear hK hB
 go_enter Try.func25,Try.ntmps25
 go_wp2
 go_ret
 exact ⟨rfl,grA⟩
theorem bit_any (a i:Nat) (h:i<576) (w:World):
 Cg 25 #[.agg (nw 9 a),.int .i64 (i:Int)] w (.int .i64 (bitN a i)):=by
 have e:i=64*(i/64)+i%64:=by omega
 have h:=bit_raw a (i/64) (i%64) (by omega) (by omega) w
 rw [← e] at h
 exact h
def cut (a m n:Nat):Nat:=a%2 ^ min (64*n) m
theorem cut_lt (a m n:Nat):cut a m n<pw n:=
 Nat.lt_of_lt_of_le (Nat.mod_lt _ (Nat.two_pow_pos _)) (Nat.pow_le_pow_right (by decide) (Nat.min_le_left _ _))
theorem cut_hi (a m n:Nat) (h:64*(n+1)≤m):cut a m (n+1)=cut a m n+wd a n*pw n:=by
 unfold cut
 rw [Nat.min_eq_left h,Nat.min_eq_left (by omega)]
 exact mod_succ a n
theorem cut_mid (a n k:Nat) (hk:k<64):cut a (64*n+k) (n+1)=cut a (64*n+k) n+wd a n%2 ^ k*pw n:=by
 unfold cut
 rw [Nat.min_eq_right (by omega),Nat.min_eq_left (by omega),Nat.pow_add,Nat.mod_mul]
 have e:wd a n%2 ^ k=a/2 ^ (64*n)%2 ^ k:=by
  unfold wd pw
  rw [← pow64 (64-k) (by omega),show 64-(64-k)=k from by omega,Nat.mod_mul_right_mod]
 rw [e,Nat.mul_comm (2 ^ (64*n))]
 rfl
theorem cut_lo (a m n:Nat) (h:m≤64*n):cut a m (n+1)=cut a m n:=by
 unfold cut
 rw [Nat.min_eq_right h,Nat.min_eq_right (by omega)]
theorem cut_zero (a m:Nat):cut a m 0=0:=by
 unfold cut
 rw [Nat.mul_zero,Nat.zero_min,Nat.pow_zero,Nat.mod_one]
theorem cut_end (a m:Nat) (h:m≤576):cut a m 9=a%2 ^ m:=by
 unfold cut
 rw [Nat.min_eq_right (by omega)]
theorem mask_word (x k:Nat) (hx:x<18446744073709551616) (hk:k<64):bits BinOp.and IntKind.u64 (x:Int) (IntKind.u64.wrap (IntKind.u64.wrap (2 ^ k)-1))=((x%2 ^ k:Nat):Int):=by
 have h1:=pow_lt64 k hk
 have h2:=Nat.two_pow_pos k
 have e:IntKind.u64.wrap (IntKind.u64.wrap (2 ^ k)-1)=((2 ^ k-1:Nat):Int):=by
  rw [int_pow,IntKind.wrap_u64,IntKind.wrap_u64]; omega
 rw [e,bits_and_u64_nat _ _ hx (by omega),Nat.and_two_pow_sub_one_eq_mod]
theorem natcut_raw (a m:Nat) (hm:m≤576) (w:World):
 Cg 21 #[.agg (nw 9 a),.int .i64 (m:Int)] w (.agg (nw 9 (cut a m 9))):=by
 have m0:(0:Int)≤(m:Int):=by omega
 have m1:(m:Int)≤576:=by omega
 go_enter Try.func21,Try.ntmps21
 go_wp2
 go_loopw [6] (fun i wr=>∃ n U:Nat,n≤9∧i=.int .i64 (n:Int)∧cut a m n=U∧∃ q,wr=(((w.alloc (.cells (nw 9 a) 23)).alloc (.cells (nw 9 0) 25)).alloc (.cells (nw 9 U) 25)).drewN q) (fun i _=>9-(intOf i).toNat)
 case atStart=>exact ⟨0,0,by omega,rfl,cut_zero a m,0,rfl⟩
 case round=>
  obtain ⟨n,U,hn,rfl,hU,q,rfl⟩:=hrel
  have HU:Hid (Unit→_):=fun _=>hU
  have HL:Hid (Unit→U<pw n):=fun _=>by rw [← hU]; exact cut_lt a m n
  clear hU
  by_cases hlt:n<9
  ·have n0:(0:Int)≤(n:Int):=by omega
   have n1:(n:Int)<9:=by omega
   have ga:=nw_get 9 a n hlt
   have gu:=nw_get 9 U n hlt
   by_cases h1:64*(n+1)≤m
   ·have hk:(64:Int)≤(m:Int)-64*(n:Int):=by omega
    clear hn
    go_wp2
    go_roundw
    case rel=>
     refine ⟨n+1,U+wd a n*pw n,by omega,by go_num,by rw [← HU.out ()]; exact cut_hi a m n h1,q,?_⟩
     simp only [nw_set_top 9 U n (wd a n) (wd_lt _ _) (HL.out ()),go_sem]
    case measure=>simp [intOf]; omega
   ·by_cases h2:64*n<m
    ·obtain ⟨k,hmk⟩:∃ k,m=64*n+k:=⟨m-64*n,by omega⟩
     have ek:((m:Int)-64*(n:Int))=(k:Int):=by omega
     have k0:(0:Int)<(k:Int):=by omega
     have k1:(k:Int)<64:=by omega
     have hk:k<64:=by omega
     have HK:Hid (Unit→_):=fun _=>hmk
     clear hn hmk h1 h2 hm
     go_wp2
     go_region_held3 (fun w'=>w'.cell? ⟨w.heap.size,n,none⟩=some (.int .u64 ((wd a n:Nat):Int))) (simp [go_sem, *]) (fail)
     go_wp2
     go_roundw
     case rel=>
      refine ⟨n+1,U+wd a n%2 ^ k*pw n,by omega,by go_num,?_,q+1,?_⟩
      ·rw [← HU.out (),HK.out ()]; exact cut_mid a n k hk
      ·rw [mask_word _ _ (wd_lt _ _) hk,nw_set_top 9 U n _ (Nat.lt_of_le_of_lt (Nat.mod_le _ _) (wd_lt _ _)) (HL.out ())]
     case measure=>simp [intOf]; omega
    ·have hk:(m:Int)-64*(n:Int)≤0:=by omega
     clear hn
     go_wp2
     go_roundw
     case rel=>exact ⟨n+1,U,by omega,by go_num,by rw [← HU.out ()]; exact cut_lo a m n (by omega),q,rfl⟩
     case measure=>simp [intOf]; omega
  ·have h9:Hid (Unit→n=9):=fun _=>by omega
   have hni:¬ (n:Int)<9:=by omega
   clear hlt hn
   go_wp2
   exact bodyPost_ret (v:=.agg (nw 9 U)) (by simp [results,Try.results21,go_sem,nw9_lit]) rfl ⟨by rw [← HU.out (),h9.out ()],grA⟩
theorem natcut_any (a m:Nat) (hm:m≤576) (w:World):
 Cg 21 #[.agg (nw 9 a),.int .i64 (m:Int)] w (.agg (nw 9 (a%2 ^ m))):=by
 have h:=natcut_raw a m hm w
 rw [cut_end a m hm] at h
 exact h
end
end
end Go.Proofs.Ytgpfabihgjhefaa