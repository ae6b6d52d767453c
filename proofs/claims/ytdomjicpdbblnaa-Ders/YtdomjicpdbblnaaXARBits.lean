import Derived.Test.YtdomjicpdbblnaaXARNat
import Derived.Test.YtdomjicpdbblnaaXANumO
namespace Go.Proofs.Ytdomjicpdbblnaa
open Go.RowKit Go.Proofs.Try
set_option maxRecDepth 100000
set_option maxHeartbeats 8000000
section
attribute [local go_sem ↓] uz1
attribute [local go_sem] uz2
section
theorem bits_or32(a b:Nat)(ha:a<4294967296)(hb:b<4294967296):bits .or .u32 (a:Int) (b:Int)=((a|||b:Nat):Int):=by
 have h:a|||b<2^32:=Nat.or_lt_two_pow (by omega) (by omega)
 have d:(BitVec.ofInt 32 (a:Int)).toNat=a:=by
  rw[BitVec.ofInt_natCast,BitVec.toNat_ofNat];exact Nat.mod_eq_of_lt (by omega)
 have f:(BitVec.ofInt 32 (b:Int)).toNat=b:=by
  rw[BitVec.ofInt_natCast,BitVec.toNat_ofNat];exact Nat.mod_eq_of_lt (by omega)
 show IntKind.u32.wrap ((BitVec.ofInt 32 (a:Int)|||BitVec.ofInt 32 (b:Int)).toNat:Int)=_
 rw[BitVec.toNat_or,d,f,IntKind.wrap_u32]
 omega
end
section
theorem dbl_top(x j:Nat)(hx:x<pq (j+1))(h:dg x j≠0):bl x=32*j+bl (dg x j):=by
 have e:x/2^(32*j)=dg x j:=by
  unfold dg
  show x/pq j=_
  rw[Nat.mod_eq_of_lt];rw[pq_succ]at hx;rw[Nat.div_lt_iff_lt_mul (pq_pos j),Nat.mul_comm];exact hx
 rw[←e];refine bl_shift x (32*j) ?_
 grind [Nat.div_eq_of_lt]
theorem rbits_any(x n:Nat)(p:Option Addr)(w:World)(hp:Sl w p x)(hx:dl x≤50000):
 Calls prog 21 #[.slice p (dl x) n] w fun e w'=>e=.returned (.int .i64 ((bl x:Nat):Int))∧w'=w:=by
 obtain hz|⟨j,hj⟩:dl x=0∨∃j,dl x=j+1:=by
  cases dl x with
  | zero=>exact Or.inl rfl
  | succ j=>exact Or.inr ⟨j,rfl⟩
 ·have o:=dl_eq_zero x hz;subst o;rw[hz];clear hp
  go_enter func21,ntmps21
  go_wp2
  go_ret
  exact⟨rfl,rfl⟩
 ·obtain⟨b,rfl,R,C⟩:=hp j (by omega);have f:=dl_lt x;rw[hj]at hx f ⊢
  have h:dg x j≠0:=fun i=>by
   have:=(dl_le x j).2 (dl_top_zero x j f i)
   omega
  have m:=dbl_top x j f h;have q:=dg_lt x j;have d:=(bl_le _ 32).2 q
  have G:w.cell? ⟨b,j,none⟩=some (.int .u32 ((dg x j:Nat):Int)):=by rw[cell_blk];exact C
  have S:(0:Int)≤j:=by omega
  have U:(j:Int)<50000:=by omega
  obtain⟨L,H⟩:=exl (j+1);rw[H]
  have W:(L:Int)-1=j:=by omega
  have X:((L:Int)==0)=false:=by rw[beq_eq_false_iff_ne];omega
  have Y:(j:Int)<L:=by omega
  obtain⟨D,I⟩:=exl (dg x j);obtain⟨B,l⟩:=exl (bl x);rw[I]at m q G d;rw[l]at m ⊢;have J:Hu (_):=fun _=>m;have Z:Hu (_):=fun _=>d
  have P:Hu (j<50000):=fun _=>by omega
  clear m l I C h f hj d hp hx H
  go_enter func21,ntmps21
  go_wp2
  go_loopw [3,4] (fun k v wr=>∃K V:Nat,k=.int .i64 K∧v=.int .u32 V∧(V:Int)<4294967296∧(K:Int)≤1700000∧Hu (K+bl V=B)∧wr=w) (fun _ v _=>(intOf v).toNat)
  case atStart=>exact⟨32*j,D,by go_num,rfl,by omega,by have:=P.out ();omega,fun _=>(J.out ()).symm,rfl⟩
  case round=>
   obtain⟨K,V,rfl,rfl,hV,hK,A,rfl⟩:=hrel
   by_cases i:V=0
   ·subst i
    have HK:Hu (K=B):=fun _=>by have:=A.out ();rw[bl_zero]at this;omega
    go_wp2
    go_ret
    exact⟨by rw[HK.out ()];rfl,rfl⟩
   ·have v0:(0:Int)<V:=by omega
    have Q:Hu (K+1+bl (V/2)=B):=fun _=>by have:=A.out ();rw[bl_half V i]at this;omega
    have HW:Hu (V<4294967296):=fun _=>by omega
    clear hV A i W X Y S U q R G
    go_wp2
    go_roundw
    case rel=>exact⟨K+1,V/2,by go_num,by go_num,by have:=HW.out ();omega,by have:=Q.out ();have:=J.out ();have:=Z.out ();have:=P.out ();omega,Q,trivial⟩
    case measure=>simp[intOf];omega
end
end
end Go.Proofs.Ytdomjicpdbblnaa