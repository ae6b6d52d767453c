import Derived.Deep.Strs
import Derived.Test.YtffhepbppiocbacGreatXMOpen
import Derived.Test.YtffhepbppiocbacGreatXMCC
namespace Go.Proofs.YtffhepbppiocbacGreat
open Go.RowKit Go.Proofs.Tryz
set_option maxRecDepth 100000
set_option maxHeartbeats 8000000
section
open Go.ChangeShapes Go.WideShapes Go.ChangeAt Go.RowKit Go.Deep
theorem trod_nat{H:Type}{enc:TypeId×Value→H}{W:World}{fuel:Nat}{cs:List Value}{y:DataW H×List MemPlace}(hf:DataW.trod enc prog W 0 (fun _=>true) true fuel 33 cs=some y):∃a,a<M∧cs=(nw 9 a).toList∧y.2=[]:=by
 obtain⟨J,n,Q,S,A⟩:=trod_struct1 underlying33 hf;rw[show prog.cellsOf 33=9 from by kernel_rfl]at S
 have U:y.2=J.2:=by rw[Q]
 simp only[show prog.cellsOf 31=9 from by kernel_rfl,List.drop_zero]at A;rw[List.take_of_length_le (by omega)]at A;obtain⟨f,m,_,B,_,K,V⟩:=DataW.trod_array underlying31 A
 have d:∀i,i<9→∃z:Int,cs[i]? = some (.int .u64 z)∧0≤z∧z<18446744073709551616∧∃q,f[i]? = some (q,[]):=fun i h=>by
  have C:=V i h;rw[show prog.cellsOf 22=1 from by kernel_rfl,Nat.mul_one]at C;have L:f[i]? = some f[i]:=List.getElem?_eq_getElem (by omega);rw[L]at C;obtain⟨z,D,j,x⟩:=DataW.trod_int underlying22 C
  have X:cs[i]? = some (.int .u64 z):=by
   have Y:(cs.drop i).take 1=[Value.int .u64 z]:=D
   have P:((cs.drop i).take 1)[0]? = some (Value.int .u64 z):=by rw[Y];rfl
   rw[List.getElem?_take_of_lt (by decide),List.getElem?_drop,Nat.add_zero]at P;exact P
  refine⟨z,X,(word_of_wf x).1,(word_of_wf x).2,(f[i]).1,?_⟩;rw[L,j]
 obtain⟨a,Z,x⟩:=of_words (fun i=>match cs[i]? with|some (.int .u64 z)=>z.toNat%18446744073709551616|_=>0) (fun i=>by split <;> omega) 9
 refine⟨a,Z,?_,?_⟩
 ·apply List.ext_getElem?
  intro i
  have e:(nw 9 a).toList[i]? = (nw 9 a)[i]? := by simp
  rw[e]
  by_cases h:i<9
  ·obtain⟨z,D,z0,z1,_⟩:=d i h;rw[nw_get 9 a i h,x i h,D];simp only;refine congrArg some (congrArg (Value.int .u64) ?_)
   omega
  ·rw[List.getElem?_eq_none (by omega),Array.getElem?_eq_none (by rw[nw_size];omega)]
 ·rw[U,show J.2=f.flatMap (·.2) from by rw[B]];rw[List.flatMap_eq_nil_iff];intro y G;obtain⟨i,I,rfl⟩:=List.mem_iff_getElem.1 G;obtain⟨_,_,_,_,q,j⟩:=d i (by omega);rw[List.getElem?_eq_getElem I]at j;simp only[Option.some.injEq]at j;rw[j]
theorem three_parts(l:List Value)(h:l.length=19):l=l.take 9++(l.drop 9).take 9++(l.drop 18).take 1:=by
 grind [List.take_append_drop]
theorem open_pnt{H:Type}{enc:TypeId×Value→H}{W:World}{base:Nat}{v:Value}{d:DataW H}{p:List MemPlace}(hv:Value.okWide prog W .any base 35 v)(h:DataW.Trod enc prog W 0 (fun _=>true) true 35 v d p):∃x y f,x<M∧y<M∧v=.agg (pnt x y f)∧p=[]:=by
 obtain⟨q,rfl,i⟩:=okWide_struct underlying35 hv;rw[show prog.cellsOf 35=19 from by kernel_rfl]at i;obtain⟨D,G⟩:=h;obtain⟨X,Y,Z,n,j,_,A,B,C⟩:=trod_struct3 underlying35 G;simp only[Prod.mk.injEq]at j;obtain⟨_,I⟩:=j;have J:(Value.agg q).cells.toList=q.toList:=rfl;rw[J]at A B C;simp only[show prog.cellsOf 33=9 from by kernel_rfl,show prog.cellsOf 4=1 from by kernel_rfl,List.drop_zero]at A B C;obtain⟨x,j,K,L⟩:=trod_nat A;obtain⟨y,P,Q,S⟩:=trod_nat B;obtain⟨f,U,V⟩:=DataW.trod_bool underlying4 C
 refine⟨x,y,f,j,P,?_,?_⟩
 ·refine congrArg Value.agg ?_
  apply Array.ext'
  rw[three_parts q.toList (by simpa using i),K,Q,U];simp[pnt]
 ·rw[I,L,S,V];rfl
theorem stay_pnt{H:Type}{enc:TypeId×Value→H}{W W':World}{sp:Nat→Bool}{v:Value}{d:DataW H}(h:DataW.Trod enc prog W 0 (fun _=>true) true 35 v d []):
 DataW.Trod enc prog W' 0 sp true 35 v d []:=
 WideElems.Trod_stays Tryz.laidOut (by kernel_rfl) (of_decide_eq_true (by kernel_rfl)) h (by simp) (by simp)
end
end Go.Proofs.YtffhepbppiocbacGreat