import Derived.Test.YtonbpnbhjghfbaaXABsB
import Derived.Test.YtonbpnbhjghfbaaXADD
namespace Go.Proofs.Ytonbpnbhjghfbaa
open Go.RowKit
set_option maxRecDepth 100000
set_option maxHeartbeats 8000000
section
def nzB(N:Nat):Nat:=(bl N+7)/8
def rawL(N r s:Nat):List UInt8:=bs (nzB N) r++bs (nzB N) s
def rawP(N r s:Nat):List UInt8×Int:=if r<N∧s<N then(rawL N r s,0) else([],2302)
def rawG(N:Nat)(l:List UInt8):Nat×Nat×Int:=
 if l.length=2*nzB N then
  if bn (l.take (nzB N))<N∧bn (l.drop (nzB N))<N then(bn (l.take (nzB N)),bn (l.drop (nzB N)),0) else(0,0,2302)
 else(0,0,2301)
theorem nzB_le{N:Nat}(h:N<M):nzB N≤72:=by
 have:=bl_pwk N 9 h;unfold nzB
 omega
theorem nzB_bl{N x:Nat}(h:x≤N):bl x≤8*nzB N:=by
 have d:bl N≤8*nzB N:=by unfold nzB;omega
 exact(bl_le _ _).2 (Nat.lt_of_le_of_lt h ((bl_le _ _).1 d))
theorem bn_nz{N x:Nat}(h:x≤N):bn (bs (nzB N) x)=x:=bn_bs _ _ ((bl_le _ _).1 (nzB_bl h))
theorem rawL_length(N r s:Nat):(rawL N r s).length=2*nzB N:=by
 rw[rawL,List.length_append,bs_length,bs_length]
 omega
theorem rawG_pair{N r s:Nat}(hr:r≤N)(hs:s≤N):rawG N (rawL N r s)=if r<N∧s<N then(r,s,0) else(0,0,2302):=by
 rw[rawG,if_pos (rawL_length N r s),rawL,List.take_left' (bs_length _ _),List.drop_left' (bs_length _ _),bn_nz hr,bn_nz hs]
theorem rawG_put{N r s:Nat}(hr:r<N)(hs:s<N):rawG N (rawL N r s)=(r,s,0):=by
 rw[rawG_pair (Nat.le_of_lt hr) (Nat.le_of_lt hs),if_pos ⟨hr,hs⟩]
theorem rawG_back{N r s:Nat}{l:List UInt8}(h:rawG N l=(r,s,0)):r<N∧s<N∧rawL N r s=l:=by
 unfold rawG at h
 split at h
 ·rename_i hl
  split at h
  ·rename_i hb
   simp only[Prod.mk.injEq,and_true]at h;obtain⟨rfl,rfl⟩:=h;refine⟨hb.1,hb.2,?_⟩;have d:=bs_of (nzB N) (l.take (nzB N)) (by rw[List.length_take];omega);have f:=bs_of (nzB N) (l.drop (nzB N)) (by rw[List.length_drop];omega);rw[rawL,d,f,List.take_append_drop]
  ·cases h
 ·cases h
theorem rawG_cases(N:Nat)(l:List UInt8):(∃r s,r<N∧s<N∧rawL N r s=l∧rawG N l=(r,s,0))∨(∃e:Int,(e=2301∨e=2302)∧rawG N l=(0,0,e)):=by
 by_cases h:l.length=2*nzB N
 ·by_cases hb:bn (l.take (nzB N))<N∧bn (l.drop (nzB N))<N
  ·have e:rawG N l=(bn (l.take (nzB N)),bn (l.drop (nzB N)),0):=by rw[rawG,if_pos h,if_pos hb]
   obtain⟨d,f,i⟩:=rawG_back e;exact .inl ⟨_,_,d,f,i,e⟩
  ·exact .inr ⟨2302,.inr rfl,by rw[rawG,if_pos h,if_neg hb]⟩
 ·exact .inr ⟨2301,.inl rfl,by rw[rawG,if_neg h]⟩
theorem rawG_len{N:Nat}{l:List UInt8}(h:l.length≠2*nzB N):rawG N l=(0,0,2301):=by rw[rawG,if_neg h]
end
end Go.Proofs.Ytonbpnbhjghfbaa