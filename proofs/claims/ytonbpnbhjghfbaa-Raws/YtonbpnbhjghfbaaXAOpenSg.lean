import Derived.ChangeSame
import Derived.Test.YtonbpnbhjghfbaaXAOpenP
namespace Go.Proofs.Ytonbpnbhjghfbaa
open Go.RowKit Go.Proofs.Try
set_option maxRecDepth 100000
set_option maxHeartbeats 8000000
section
open Go.ChangeShapes Go.WideShapes Go.ChangeAt Go.RowKit Go.Deep
theorem two_parts(l:List Value)(h:l.length=18):l=l.take 9++(l.drop 9).take 9:=by
 grind [List.take_append_drop]
theorem open_sig{H:Type}{enc:TypeId×Value→H}{W:World}{base:Nat}{v:Value}{d:DataW H}{p:List MemPlace}(hv:Value.okWide prog W .any base 27 v)(h:DataW.Trod enc prog W 0 (fun _=>true) true 27 v d p):∃r s,r<M∧s<M∧v=.agg (sgA r s)∧p=[]:=by
 obtain⟨j,rfl,f⟩:=okWide_struct underlying27 hv;rw[show prog.cellsOf 27=18 from by kernel_rfl]at f;obtain⟨A,B⟩:=h;obtain⟨P,Q,n,i,_,l,q⟩:=trod_struct2 underlying27 B;simp only[Prod.mk.injEq]at i;obtain⟨_,C⟩:=i;have D:(Value.agg j).cells.toList=j.toList:=rfl;rw[D]at l q;simp only[show prog.cellsOf 25=9 from by kernel_rfl,List.drop_zero]at l q;obtain⟨x,i,G,I⟩:=trod_nat l;obtain⟨y,J,K,L⟩:=trod_nat q
 refine⟨x,y,i,J,?_,?_⟩
 ·refine congrArg Value.agg ?_
  apply Array.ext'
  rw[two_parts j.toList (by simpa using f),G,K];simp[sgA]
 ·rw[C,I,L];rfl
theorem stay_sig{H:Type}{enc:TypeId×Value→H}{W W':World}{sp:Nat→Bool}{v:Value}{d:DataW H}(h:DataW.Trod enc prog W 0 (fun _=>true) true 27 v d []):
 DataW.Trod enc prog W' 0 sp true 27 v d []:=
 WideElems.Trod_stays Try.laidOut (by kernel_rfl) (of_decide_eq_true (by kernel_rfl)) h (by simp) (by simp)
end
end Go.Proofs.Ytonbpnbhjghfbaa