import Derived.Deep.Strs
import Derived.Test.YtghidgcekieljaaGreatXAOpen
import Derived.Test.YtghidgcekieljaaGreatXACC
namespace Go.Proofs.YtghidgcekieljaaGreat
open Go.RowKit Go.Proofs.Tryz
set_option maxRecDepth 100000
set_option maxHeartbeats 8000000
section
open Go.ChangeShapes Go.WideShapes Go.ChangeAt Go.RowKit Go.Deep
theorem trod_nat{H:Type}{enc:TypeId×Value→H}{W:World}{fuel:Nat}{cs:List Value}{y:DataW H×List MemPlace}(hf:DataW.trod enc prog W 0 (fun _=>true) true fuel 25 cs=some y):∃a,a<M∧cs=(nw 9 a).toList∧y.2=[]:=by
 obtain⟨y0,n,hx,hl,hy⟩:=trod_struct1 underlying25 hf;rw[show prog.cellsOf 25=9 from by kernel_rfl]at hl
 have hp:y.2=y0.2:=by rw[hx]
 simp only[show prog.cellsOf 23=9 from by kernel_rfl,List.drop_zero]at hy;rw[List.take_of_length_le (by omega)]at hy;obtain⟨xs,m,_,hx2,_,hlen,hi⟩:=DataW.trod_array underlying23 hy
 have hcell:∀i,i<9→∃z:Int,cs[i]? = some (.int .u64 z)∧0≤z∧z<18446744073709551616∧∃q,xs[i]? = some (q,[]):=fun i h9=>by
  have h1:=hi i h9;rw[show prog.cellsOf 22=1 from by kernel_rfl,Nat.mul_one]at h1;have h2:xs[i]? = some xs[i]:=List.getElem?_eq_getElem (by omega);rw[h2]at h1;obtain⟨z,hz,hq,hw⟩:=DataW.trod_int underlying22 h1
  have h3:cs[i]? = some (.int .u64 z):=by
   have h4:(cs.drop i).take 1=[Value.int .u64 z]:=hz
   have h5:((cs.drop i).take 1)[0]? = some (Value.int .u64 z):=by rw[h4];rfl
   rw[List.getElem?_take_of_lt (by decide),List.getElem?_drop,Nat.add_zero]at h5;exact h5
  refine⟨z,h3,(word_of_wf hw).1,(word_of_wf hw).2,(xs[i]).1,?_⟩;rw[h2,hq]
 obtain⟨a,ha,hw⟩:=of_words (fun i=>match cs[i]? with|some (.int .u64 z)=>z.toNat%18446744073709551616|_=>0) (fun i=>by split <;> omega) 9
 refine⟨a,ha,?_,?_⟩
 ·apply List.ext_getElem?
  intro i
  have e:(nw 9 a).toList[i]? = (nw 9 a)[i]? := by simp
  rw[e]
  by_cases h9:i<9
  ·obtain⟨z,hz,z0,z1,_⟩:=hcell i h9;rw[nw_get 9 a i h9,hw i h9,hz];simp only;refine congrArg some (congrArg (Value.int .u64) ?_)
   omega
  ·rw[List.getElem?_eq_none (by omega),Array.getElem?_eq_none (by rw[nw_size];omega)]
 ·rw[hp,show y0.2=xs.flatMap (·.2) from by rw[hx2]];rw[List.flatMap_eq_nil_iff];intro y hy';obtain⟨i,hil,rfl⟩:=List.mem_iff_getElem.1 hy';obtain⟨_,_,_,_,q,hq⟩:=hcell i (by omega);rw[List.getElem?_eq_getElem hil]at hq;simp only[Option.some.injEq]at hq;rw[hq]
theorem three_parts(l:List Value)(h:l.length=19):l=l.take 9++(l.drop 9).take 9++(l.drop 18).take 1:=by
 rw[List.append_assoc]
 have h1:(l.drop 9).take 9++(l.drop 18).take 1=l.drop 9:=by
  rw[show l.drop 18=(l.drop 9).drop 9 by rw[List.drop_drop]];rw[List.take_of_length_le (l:=(l.drop 9).drop 9) (by simp;omega),List.take_append_drop]
 rw[h1,List.take_append_drop]
theorem open_pnt{H:Type}{enc:TypeId×Value→H}{W:World}{base:Nat}{v:Value}{d:DataW H}{p:List MemPlace}(hv:Value.okWide prog W .any base 27 v)(h:DataW.Trod enc prog W 0 (fun _=>true) true 27 v d p):∃x y f,x<M∧y<M∧v=.agg (pnt x y f)∧p=[]:=by
 obtain⟨cs,rfl,hsz⟩:=okWide_struct underlying27 hv;rw[show prog.cellsOf 27=19 from by kernel_rfl]at hsz;obtain⟨fuel,hf⟩:=h;obtain⟨y0,y1,y2,n,hx,_,h0,h1,h2⟩:=trod_struct3 underlying27 hf;simp only[Prod.mk.injEq]at hx;obtain⟨_,hp⟩:=hx;have hc:(Value.agg cs).cells.toList=cs.toList:=rfl;rw[hc]at h0 h1 h2;simp only[show prog.cellsOf 25=9 from by kernel_rfl,show prog.cellsOf 4=1 from by kernel_rfl,List.drop_zero]at h0 h1 h2;obtain⟨x,hx,e0,q0⟩:=trod_nat h0;obtain⟨y,hy,e1,q1⟩:=trod_nat h1;obtain⟨f,e2,q2⟩:=DataW.trod_bool underlying4 h2
 refine⟨x,y,f,hx,hy,?_,?_⟩
 ·refine congrArg Value.agg ?_
  apply Array.ext'
  rw[three_parts cs.toList (by simpa using hsz),e0,e1,e2];simp[pnt]
 ·rw[hp,q0,q1,q2];rfl
theorem stay_pnt{H:Type}{enc:TypeId×Value→H}{W W':World}{sp:Nat→Bool}{v:Value}{d:DataW H}(h:DataW.Trod enc prog W 0 (fun _=>true) true 27 v d []):
 DataW.Trod enc prog W' 0 sp true 27 v d []:=
 WideElems.Trod_stays Tryz.laidOut (by kernel_rfl) (of_decide_eq_true (by kernel_rfl)) h (by simp) (by simp)
end
end Go.Proofs.YtghidgcekieljaaGreat