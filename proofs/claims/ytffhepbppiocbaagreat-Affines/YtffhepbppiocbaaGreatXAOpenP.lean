import Derived.Deep.Strs
import Derived.Test.YtffhepbppiocbaaGreatXAOpen
import Derived.Test.YtffhepbppiocbaaGreatXACC
namespace Go.Proofs.YtffhepbppiocbaaGreat
open Go.RowKit Go.Proofs.Tryz
set_option maxRecDepth 100000
set_option maxHeartbeats 8000000
section
open Go.ChangeShapes Go.WideShapes Go.ChangeAt Go.RowKit Go.Deep
theorem trod_nat{H:Type}{enc:TypeId×Value→H}{W:World}{fuel:Nat}{cs:List Value}{y:DataW H×List MemPlace}(hf:DataW.trod enc prog W 0 (fun _=>true) true fuel 25 cs=some y):∃a,a<M∧cs=(nw 9 a).toList∧y.2=[]:=by
 obtain⟨I,n,P,Q,x⟩:=trod_struct1 underlying25 hf;rw[show prog.cellsOf 25=9 from by kernel_rfl]at Q
 have S:y.2=I.2:=by rw[P]
 simp only[show prog.cellsOf 23=9 from by kernel_rfl,List.drop_zero]at x;rw[List.take_of_length_le (by omega)]at x;obtain⟨f,m,_,A,_,J,U⟩:=DataW.trod_array underlying23 x
 have d:∀i,i<9→∃z:Int,cs[i]? = some (.int .u64 z)∧0≤z∧z<18446744073709551616∧∃q,f[i]? = some (q,[]):=fun i h=>by
  have B:=U i h;rw[show prog.cellsOf 22=1 from by kernel_rfl,Nat.mul_one]at B;have K:f[i]? = some f[i]:=List.getElem?_eq_getElem (by omega);rw[K]at B;obtain⟨z,C,j,l⟩:=DataW.trod_int underlying22 B
  have V:cs[i]? = some (.int .u64 z):=by
   have X:(cs.drop i).take 1=[Value.int .u64 z]:=C
   have L:((cs.drop i).take 1)[0]? = some (Value.int .u64 z):=by rw[X];rfl
   rw[List.getElem?_take_of_lt (by decide),List.getElem?_drop,Nat.add_zero]at L;exact L
  refine⟨z,V,(word_of_wf l).1,(word_of_wf l).2,(f[i]).1,?_⟩;rw[K,j]
 obtain⟨a,Y,l⟩:=of_words (fun i=>match cs[i]? with|some (.int .u64 z)=>z.toNat%18446744073709551616|_=>0) (fun i=>by split <;> omega) 9
 refine⟨a,Y,?_,?_⟩
 ·apply List.ext_getElem?
  intro i
  have e:(nw 9 a).toList[i]? = (nw 9 a)[i]? := by simp
  rw[e]
  by_cases h:i<9
  ·obtain⟨z,C,Z,z1,_⟩:=d i h;rw[nw_get 9 a i h,l i h,C];simp only;refine congrArg some (congrArg (Value.int .u64) ?_)
   omega
  ·rw[List.getElem?_eq_none (by omega),Array.getElem?_eq_none (by rw[nw_size];omega)]
 ·rw[S,show I.2=f.flatMap (·.2) from by rw[A]];rw[List.flatMap_eq_nil_iff];intro y D;obtain⟨i,G,rfl⟩:=List.mem_iff_getElem.1 D;obtain⟨_,_,_,_,q,j⟩:=d i (by omega);rw[List.getElem?_eq_getElem G]at j;simp only[Option.some.injEq]at j;rw[j]
theorem three_parts(l:List Value)(h:l.length=19):l=l.take 9++(l.drop 9).take 9++(l.drop 18).take 1:=by
 grind [List.take_append_drop]
theorem open_pnt{H:Type}{enc:TypeId×Value→H}{W:World}{base:Nat}{v:Value}{d:DataW H}{p:List MemPlace}(hv:Value.okWide prog W .any base 27 v)(h:DataW.Trod enc prog W 0 (fun _=>true) true 27 v d p):∃x y f,x<M∧y<M∧v=.agg (pnt x y f)∧p=[]:=by
 obtain⟨l,rfl,i⟩:=okWide_struct underlying27 hv;rw[show prog.cellsOf 27=19 from by kernel_rfl]at i;obtain⟨C,D⟩:=h;obtain⟨V,X,Y,n,j,_,q,A,B⟩:=trod_struct3 underlying27 D;simp only[Prod.mk.injEq]at j;obtain⟨_,G⟩:=j;have I:(Value.agg l).cells.toList=l.toList:=rfl;rw[I]at q A B;simp only[show prog.cellsOf 25=9 from by kernel_rfl,show prog.cellsOf 4=1 from by kernel_rfl,List.drop_zero]at q A B;obtain⟨x,j,J,K⟩:=trod_nat q;obtain⟨y,L,P,Q⟩:=trod_nat A;obtain⟨f,S,U⟩:=DataW.trod_bool underlying4 B
 refine⟨x,y,f,j,L,?_,?_⟩
 ·refine congrArg Value.agg ?_
  apply Array.ext'
  rw[three_parts l.toList (by simpa using i),J,P,S];simp[pnt]
 ·rw[G,K,Q,U];rfl
theorem stay_pnt{H:Type}{enc:TypeId×Value→H}{W W':World}{sp:Nat→Bool}{v:Value}{d:DataW H}(h:DataW.Trod enc prog W 0 (fun _=>true) true 27 v d []):
 DataW.Trod enc prog W' 0 sp true 27 v d []:=
 WideElems.Trod_stays Tryz.laidOut (by kernel_rfl) (of_decide_eq_true (by kernel_rfl)) h (by simp) (by simp)
end
end Go.Proofs.YtffhepbppiocbaaGreat