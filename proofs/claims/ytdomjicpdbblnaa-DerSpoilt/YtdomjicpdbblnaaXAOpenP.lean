import Derived.Deep.Strs
import Derived.Test.YtdomjicpdbblnaaXAOpen
import Derived.Test.YtdomjicpdbblnaaXAZV
namespace Go.Proofs.Ytdomjicpdbblnaa
open Go.RowKit Go.Proofs.Try
set_option maxRecDepth 100000
set_option maxHeartbeats 8000000
section
open Go.ChangeShapes Go.WideShapes Go.ChangeAt Go.RowKit Go.Deep
theorem trod_nat{H:Type}{enc:TypeId×Value→H}{W:World}{fuel:Nat}{cs:List Value}{y:DataW H×List MemPlace}(hf:DataW.trod enc prog W 0 (fun _=>true) true fuel 25 cs=some y):∃a,a<M∧cs=(nw 9 a).toList∧y.2=[]:=by
 obtain⟨x,n,D,G,j⟩:=trod_struct1 underlying25 hf;rw[show prog.cellsOf 25=9 from by kernel_rfl]at G
 have I:y.2=x.2:=by rw[D]
 simp only[show prog.cellsOf 23=9 from by kernel_rfl,List.drop_zero]at j;rw[List.take_of_length_le (by omega)]at j;obtain⟨xs,m,_,l,_,A,J⟩:=DataW.trod_array underlying23 j
 have b:∀i,i<9→∃z:Int,cs[i]? = some (.int .u64 z)∧0≤z∧z<18446744073709551616∧∃q,xs[i]? = some (q,[]):=fun i d=>by
  have o:=J i d;rw[show prog.cellsOf 22=1 from by kernel_rfl,Nat.mul_one]at o;have B:xs[i]? = some xs[i]:=List.getElem?_eq_getElem (by omega);rw[B]at o;obtain⟨z,p,f,h⟩:=DataW.trod_int underlying22 o
  have K:cs[i]? = some (.int .u64 z):=by
   have L:(cs.drop i).take 1=[Value.int .u64 z]:=p
   have C:((cs.drop i).take 1)[0]? = some (Value.int .u64 z):=by rw[L];rfl
   rw[List.getElem?_take_of_lt (by decide),List.getElem?_drop,Nat.add_zero]at C;exact C
  refine⟨z,K,(word_of_wf h).1,(word_of_wf h).2,(xs[i]).1,?_⟩;rw[B,f]
 obtain⟨a,P,h⟩:=of_words (fun i=>match cs[i]? with|some (.int .u64 z)=>z.toNat%18446744073709551616|_=>0) (fun i=>by split <;> omega) 9
 refine⟨a,P,?_,?_⟩
 ·apply List.ext_getElem?
  intro i
  have e:(nw 9 a).toList[i]? = (nw 9 a)[i]? := by simp
  rw[e]
  by_cases d:i<9
  ·obtain⟨z,p,Q,R,_⟩:=b i d;rw[nw_get 9 a i d,h i d,p];simp only;refine congrArg some (congrArg (Value.int .u64) ?_)
   omega
  ·rw[List.getElem?_eq_none (by omega),Array.getElem?_eq_none (by rw[nw_size];omega)]
 ·rw[I,show x.2=xs.flatMap (·.2) from by rw[l]];rw[List.flatMap_eq_nil_iff];intro y v;obtain⟨i,w,rfl⟩:=List.mem_iff_getElem.1 v;obtain⟨_,_,_,_,q,f⟩:=b i (by omega);rw[List.getElem?_eq_getElem w]at f;simp only[Option.some.injEq]at f;rw[f]
end
end Go.Proofs.Ytdomjicpdbblnaa