import Derived.ProofKit
import Derived.OpenShut
import Derived.Test.YtonbpnbhjghfbaaXAAdd
namespace Go.Proofs.Ytonbpnbhjghfbaa
open Go.RowKit Go.Proofs.Try
set_option maxRecDepth 100000
set_option maxHeartbeats 8000000
section
open Go.ChangeShapes Go.WideShapes Go.ChangeAt Go.RowKit
theorem Try.own:ownKnob prog.godebug=none:=by kernel_rfl
theorem Try.laidOut:laidOutB prog=true:=by kernel_rfl
theorem of_words(f:Nat→Nat)(hf:∀i,f i<18446744073709551616):∀n,∃a,a<pw n∧∀i,i<n→wd a i=f i
 | 0=>⟨0,pw_pos 0,fun i hi=>by omega⟩
 | n+1=>by
  obtain⟨a,ha,hw⟩:=of_words f hf n
  refine⟨a+f n*pw n,?_,fun i hi=>?_⟩
  ·rw[pow_succ64];have:f n*pw n≤18446744073709551615*pw n:=Nat.mul_le_mul_right _ (by have:=hf n;omega)
   omega
  ·have e:a+f n*pw n=a%pw n+f n*pw n+a/pw (n+1)*pw (n+1):=by
    have d:pw n≤pw (n+1):=by rw[pow_succ64];omega
    rw[Nat.mod_eq_of_lt ha,Nat.div_eq_of_lt (show a<pw (n+1) by omega),Nat.zero_mul,Nat.add_zero]
   rw[e,wd_set a n (f n) i (hf n)]
   by_cases h:i=n
   ·rw[if_pos h,h]
   ·grind
theorem word_of_wf{x:Int}(h:(Lit.int .u64 x).wf=true):0≤x∧x<18446744073709551616:=by
 simp[Lit.wf,IntKind.min,IntKind.max,IntKind.signed,IntKind.bits]at h;exact⟨by omega,by omega⟩
theorem int_of_wf{x:Int}(h:(Lit.int .i64 x).wf=true) : -9223372036854775808≤x∧x≤9223372036854775807:=by
 simp[Lit.wf,IntKind.min,IntKind.max,IntKind.signed,IntKind.bits]at h;exact⟨by omega,by omega⟩
theorem open_nat{H:Type}{enc:TypeId×Value→H}{W:World}{base:Nat}{v:Value}{d:DataW H}{p:List MemPlace}(hv:Value.okWide prog W .any base 25 v)(h:DataW.Trod enc prog W 0 (fun _=>true) true 25 v d p):∃a,a<M∧v=.agg (nw 9 a)∧p=[]:=by
 obtain⟨j,rfl,C⟩:=okWide_struct underlying25 hv;rw[show prog.cellsOf 25=9 from by kernel_rfl]at C;obtain⟨L,U⟩:=h;obtain⟨V,n,P,_,A⟩:=trod_struct1 underlying25 U;simp only[Prod.mk.injEq]at P;obtain⟨_,X⟩:=P;have Y:(Value.agg j).cells.toList=j.toList:=rfl;rw[Y]at A;simp only[show prog.cellsOf 23=9 from by kernel_rfl,List.drop_zero]at A;rw[List.take_of_length_le (by simp;omega)]at A;obtain⟨xs,m,_,D,_,Q,Z⟩:=DataW.trod_array underlying23 A
 have f:∀i,i<9→∃z:Int,j[i]? = some (.int .u64 z)∧0≤z∧z<18446744073709551616∧∃q,xs[i]? = some (q,[]):=fun i l=>by
  have G:=Z i l;rw[show prog.cellsOf 22=1 from by kernel_rfl,Nat.mul_one]at G;have R:xs[i]? = some xs[i]:=List.getElem?_eq_getElem (by omega);rw[R]at G;obtain⟨z,I,x,B⟩:=DataW.trod_int underlying22 G
  have h3:j.toList[i]? = some (.int .u64 z):=by
   have h4:=I
   have S:((j.toList.drop i).take 1)[0]? = some (Value.int .u64 z):=by rw[h4];rfl
   rw[List.getElem?_take_of_lt (by decide),List.getElem?_drop,Nat.add_zero]at S;exact S
  refine⟨z,by simpa using h3,(word_of_wf B).1,(word_of_wf B).2,(xs[i]).1,?_⟩;rw[R,x]
 obtain⟨a,ha,B⟩:=of_words (fun i=>match j[i]? with|some (.int .u64 z)=>z.toNat%18446744073709551616|_=>0) (fun i=>by split <;> omega) 9
 refine⟨a,ha,?_,?_⟩
 ·refine congrArg Value.agg ?_
  apply Array.ext_getElem?
  intro i
  by_cases l:i<9
  ·obtain⟨z,I,z0,z1,_⟩:=f i l;rw[nw_get 9 a i l,B i l,I];simp only;refine congrArg some (congrArg (Value.int .u64) ?_)
   omega
  ·rw[Array.getElem?_eq_none (by omega),Array.getElem?_eq_none (by rw[nw_size];omega)]
 ·rw[X,show V.2=xs.flatMap (·.2) from by rw[D]];rw[List.flatMap_eq_nil_iff];intro y J;obtain⟨i,K,rfl⟩:=List.mem_iff_getElem.1 J;obtain⟨_,_,_,_,q,x⟩:=f i (by omega);rw[List.getElem?_eq_getElem K]at x;simp only[Option.some.injEq]at x;rw[x]
theorem stay_nat{H:Type}{enc:TypeId×Value→H}{W W':World}{sp:Nat→Bool}{v:Value}{d:DataW H}(h:DataW.Trod enc prog W 0 (fun _=>true) true 25 v d []):
 DataW.Trod enc prog W' 0 sp true 25 v d []:=
 WideElems.Trod_stays Try.laidOut (by kernel_rfl) (of_decide_eq_true (by kernel_rfl)) h (by simp) (by simp)
end
end Go.Proofs.Ytonbpnbhjghfbaa