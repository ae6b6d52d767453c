import Derived.Deep.Strs
import Derived.Test.YtonbpnbhjghfbaaXAOpen
import Derived.Test.YtonbpnbhjghfbaaXAIX
namespace Go.Proofs.Ytonbpnbhjghfbaa
open Go.RowKit Go.Proofs.Try
set_option maxRecDepth 100000
set_option maxHeartbeats 8000000
section
open Go.ChangeShapes Go.WideShapes Go.ChangeAt Go.RowKit Go.Deep
theorem trod_nat{H:Type}{enc:TypeId×Value→H}{W:World}{fuel:Nat}{cs:List Value}{y:DataW H×List MemPlace}(hf:DataW.trod enc prog W 0 (fun _=>true) true fuel 25 cs=some y):∃a,a<M∧cs=(nw 9 a).toList∧y.2=[]:=by
 obtain⟨D,n,K,L,l⟩:=trod_struct1 underlying25 hf;rw[show prog.cellsOf 25=9 from by kernel_rfl]at L
 have P:y.2=D.2:=by rw[K]
 simp only[show prog.cellsOf 23=9 from by kernel_rfl,List.drop_zero]at l;rw[List.take_of_length_le (by omega)]at l;obtain⟨xs,m,_,v,_,G,Q⟩:=DataW.trod_array underlying23 l
 have d:∀i,i<9→∃z:Int,cs[i]? = some (.int .u64 z)∧0≤z∧z<18446744073709551616∧∃q,xs[i]? = some (q,[]):=fun i f=>by
  have x:=Q i f;rw[show prog.cellsOf 22=1 from by kernel_rfl,Nat.mul_one]at x;have I:xs[i]? = some xs[i]:=List.getElem?_eq_getElem (by omega);rw[I]at x;obtain⟨z,A,h,j⟩:=DataW.trod_int underlying22 x
  have R:cs[i]? = some (.int .u64 z):=by
   have S:(cs.drop i).take 1=[Value.int .u64 z]:=A
   have J:((cs.drop i).take 1)[0]? = some (Value.int .u64 z):=by rw[S];rfl
   rw[List.getElem?_take_of_lt (by decide),List.getElem?_drop,Nat.add_zero]at J;exact J
  refine⟨z,R,(word_of_wf j).1,(word_of_wf j).2,(xs[i]).1,?_⟩;rw[I,h]
 obtain⟨a,U,j⟩:=of_words (fun i=>match cs[i]? with|some (.int .u64 z)=>z.toNat%18446744073709551616|_=>0) (fun i=>by split <;> omega) 9
 refine⟨a,U,?_,?_⟩
 ·apply List.ext_getElem?
  intro i
  have e:(nw 9 a).toList[i]? = (nw 9 a)[i]? := by simp
  rw[e]
  by_cases f:i<9
  ·obtain⟨z,A,V,X,_⟩:=d i f;rw[nw_get 9 a i f,j i f,A];simp only;refine congrArg some (congrArg (Value.int .u64) ?_)
   omega
  ·rw[List.getElem?_eq_none (by omega),Array.getElem?_eq_none (by rw[nw_size];omega)]
 ·rw[P,show D.2=xs.flatMap (·.2) from by rw[v]];rw[List.flatMap_eq_nil_iff];intro y B;obtain⟨i,C,rfl⟩:=List.mem_iff_getElem.1 B;obtain⟨_,_,_,_,q,h⟩:=d i (by omega);rw[List.getElem?_eq_getElem C]at h;simp only[Option.some.injEq]at h;rw[h]
end
end Go.Proofs.Ytonbpnbhjghfbaa