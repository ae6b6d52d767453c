import Derived.ProofKit
import Derived.OpenShut
import Derived.ChangeOld
import Derived.Carry
import Derived.Deep.Slices
import Derived.SizedLaws
import Derived.Test.YtffhepbppiocbabGreatXAVI
namespace Go.Proofs.YtffhepbppiocbabGreat
open Go.RowKit Go.Proofs.Tryz
set_option maxRecDepth 100000
set_option maxHeartbeats 8000000
section
open Go.ChangeShapes Go.WideShapes Go.ChangeAt Go.RowKit Go.Deep
theorem Trod.ltR{H:Type}{enc:TypeId×Value→H}{W:World}{t:TypeId}{v:Value}{d:DataW H}{p:List MemPlace}(h:DataW.Trod enc prog W 0 (fun _=>true) true t v d p):∀x∈p,x.block<W.heap.size:=by
 obtain⟨n,f⟩:=h;exact DataW.trod_lt n _ _ _ f
theorem open_ints{H:Type}{enc:TypeId×Value→H}{W:World}{base:Nat}{v:Value}{d:DataW H}{p:List MemPlace}(hv:Value.okWide prog W .any base 76 v)(h:DataW.Trod enc prog W 0 (fun _=>true) true 76 v d p):
 ∃q n c f,v=.slice q n c∧Iv W q n f∧(n=0∨∃elems spare,d=.slice elems spare∧elems.length=n):=by
 obtain⟨a,j,B,rfl⟩:=okWide_slice underlying76 hv;obtain⟨x,S⟩:=h;have C:DataW.trod enc prog W 0 (fun _=>true) true x 76 [.slice a j B]=some (d,p):=S
 rcases open_slice1 underlying76 (by kernel_rfl) C with ⟨hcs,hx⟩|⟨a',len',cap',m,n,V,D,Pl,hcs,_,hl,hm,hmm,hx,hc⟩
 ·simp only[List.cons.injEq,Value.slice.injEq,and_true]at hcs;obtain⟨rfl,rfl,rfl⟩:=hcs;exact⟨none,0,0,fun _=>0,rfl,Or.inl rfl,Or.inl rfl⟩
 ·simp only[List.cons.injEq,Value.slice.injEq,and_true]at hcs;obtain⟨rfl,rfl,rfl⟩:=hcs;simp only[if_true]at hmm;subst hmm
  have A:∀i,i<j→∃e:Int,V i=.int .i64 e:=fun i I=>by
   obtain⟨_,G⟩:=hc i (by omega);obtain⟨U,J,_,_⟩:=DataW.trod_int underlying3 G;simp only[List.cons.injEq,and_true]at J;exact⟨U,J⟩
  obtain⟨F,hF⟩:=choose_lt A;simp only[Prod.mk.injEq]at hx;refine⟨some a',j,m,F,rfl,?_,Or.inr ⟨_,_,hx.1,by simp⟩⟩
  by_cases G:j=0
  ·exact Or.inl G
  ·obtain⟨K,_⟩:=hc 0 (by omega);have L:=World.cell?_spot K;have P:=World.block_lt_of_cell? W _ K;obtain⟨b,o,s⟩:=a';simp[Addr.add]at L P;subst L;refine Or.inr ⟨b,o,rfl,P,fun i I=>?_⟩;obtain⟨Q,_⟩:=hc i (by omega)
   have X:(⟨b,o,none⟩:Addr).add i=⟨b,o+i,none⟩:=by unfold Addr.add;split <;> simp_all
   rw[X,hF i I]at Q;exact Q
theorem stay_ints{H:Type}{enc:TypeId×Value→H}{W W':World}{v:Value}{d:DataW H}{p:List MemPlace}(h:DataW.Trod enc prog W 0 (fun _=>true) true 76 v d p)(hb:Below W.heap.size W W'):
 DataW.Trod enc prog W' 0 (fun b=>decide (b<W.heap.size)) true 76 v d p:=
 Below.trod (by kernel_rfl) (by kernel_rfl) (of_decide_eq_true (by kernel_rfl)) h hb (Trod.ltR h)
end
end Go.Proofs.YtffhepbppiocbabGreat