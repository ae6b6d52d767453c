import Derived.Test.YtffhepbppiocbabGreatXAOpenP
import Derived.Test.YtffhepbppiocbabGreatXAMixU
namespace Go.Proofs.YtffhepbppiocbabGreat
open Go.RowKit Go.Proofs.Tryz
set_option maxRecDepth 100000
set_option maxHeartbeats 8000000
section
open Go.ChangeShapes Go.WideShapes Go.ChangeAt Go.RowKit Go.Deep
theorem three_partsJ(l:List Value)(h:l.length=27):l=l.take 9++(l.drop 9).take 9++(l.drop 18).take 9:=by
 rw[List.append_assoc]
 have d:(l.drop 9).take 9++(l.drop 18).take 9=l.drop 9:=by
  rw[show l.drop 18=(l.drop 9).drop 9 by rw[List.drop_drop]];rw[List.take_of_length_le (l:=(l.drop 9).drop 9) (by simp;omega),List.take_append_drop]
 rw[d,List.take_append_drop]
theorem open_prj{H:Type}{enc:TypeId×Value→H}{W:World}{base:Nat}{v:Value}{d:DataW H}{p:List MemPlace}(hv:Value.okWide prog W .any base 53 v)(h:DataW.Trod enc prog W 0 (fun _=>true) true 53 v d p):∃x y z,x<M∧y<M∧z<M∧v=.agg (prj x y z)∧p=[]:=by
 obtain⟨j,rfl,f⟩:=okWide_struct underlying53 hv;rw[show prog.cellsOf 53=27 from by kernel_rfl]at f;obtain⟨C,D⟩:=h;obtain⟨X,Y,Z,n,i,_,q,A,B⟩:=trod_struct3 underlying53 D;simp only[Prod.mk.injEq]at i;obtain⟨_,G⟩:=i;have I:(Value.agg j).cells.toList=j.toList:=rfl;rw[I]at q A B;simp only[show prog.cellsOf 33=9 from by kernel_rfl,List.drop_zero]at q A B;obtain⟨x,i,J,K⟩:=trod_nat q;obtain⟨y,L,P,Q⟩:=trod_nat A;obtain⟨z,S,U,V⟩:=trod_nat B
 refine⟨x,y,z,i,L,S,?_,?_⟩
 ·refine congrArg Value.agg ?_
  apply Array.ext'
  rw[three_partsJ j.toList (by simpa using f),J,P,U];simp[prj]
 ·rw[G,K,Q,V];rfl
theorem stay_prj{H:Type}{enc:TypeId×Value→H}{W W':World}{sp:Nat→Bool}{v:Value}{d:DataW H}(h:DataW.Trod enc prog W 0 (fun _=>true) true 53 v d []):
 DataW.Trod enc prog W' 0 sp true 53 v d []:=
 WideElems.Trod_stays Tryz.laidOut (by kernel_rfl) (of_decide_eq_true (by kernel_rfl)) h (by simp) (by simp)
end
end Go.Proofs.YtffhepbppiocbabGreat