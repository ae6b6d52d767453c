import Derived.ProofKit
import Derived.OpenShut
import Derived.ChangeOld
import Derived.Carry
import Derived.Deep.Slices
import Derived.Test.YtikilbpfhijocaaGreatXTUF
namespace Go.Proofs.YtikilbpfhijocaaGreat
open Go.RowKit
set_option maxRecDepth 100000
set_option maxHeartbeats 8000000
section
open Go.ChangeShapes Go.WideShapes Go.ChangeAt Go.RowKit Go.Deep
theorem Trod.ltR {H:Type} {enc:TypeId×Value→H} {W:World} {t:TypeId} {v:Value} {d:DataW H} {p:List MemPlace}
 (h:DataW.Trod enc Tryz.prog W 0 (fun _=>true) true t v d p):∀ x∈p,x.block<W.heap.size:=by
 obtain ⟨n,hf⟩:=h
 exact DataW.trod_lt n _ _ _ hf
theorem open_ints {H:Type} {enc:TypeId×Value→H} {W:World} {base:Nat} {v:Value} {d:DataW H} {p:List MemPlace}
 (hv:Value.okWide Tryz.prog W .any base 28 v) (h:DataW.Trod enc Tryz.prog W 0 (fun _=>true) true 28 v d p):
 ∃ q n c f,v=.slice q n c∧Iv W q n f:=by
 obtain ⟨a,len,cap,rfl⟩:=okWide_slice Tryz.underlying28 hv
 obtain ⟨fuel,hf⟩:=h
 have hf':DataW.trod enc Tryz.prog W 0 (fun _=>true) true fuel 28 [.slice a len cap]=some (d,p):=hf
 rcases open_slice1 Tryz.underlying28 (by kernel_rfl) hf' with ⟨hcs,hx⟩ | ⟨a',len',cap',m,n,V,D,Pl,hcs,_,hl,hm,hmm,hx,hc⟩
 ·simp only [List.cons.injEq,Value.slice.injEq,and_true] at hcs
  obtain ⟨rfl,rfl,rfl⟩:=hcs
  exact ⟨none,0,0,fun _=>0,rfl,Or.inl rfl⟩
 ·simp only [List.cons.injEq,Value.slice.injEq,and_true] at hcs
  obtain ⟨rfl,rfl,rfl⟩:=hcs
  simp only [if_true] at hmm
  subst hmm
  have each:∀ i,i<len→∃ e:Int,V i=.int .i64 e:=fun i hi=>by
   obtain ⟨_,h0⟩:=hc i (by omega)
   obtain ⟨z0,e0,_,_⟩:=DataW.trod_int Tryz.underlying3 h0
   simp only [List.cons.injEq,and_true] at e0
   exact ⟨z0,e0⟩
  obtain ⟨F,hF⟩:=choose_lt each
  refine ⟨some a',len,m,F,rfl,?_⟩
  by_cases h0:len=0
  ·exact Or.inl h0
  ·obtain ⟨h1,_⟩:=hc 0 (by omega)
   have hs:=World.cell?_spot h1
   have hb:=World.block_lt_of_cell? W _ h1
   obtain ⟨b,o,s⟩:=a'
   simp [Addr.add] at hs hb
   subst hs
   refine Or.inr ⟨b,o,rfl,hb,fun i hi=>?_⟩
   obtain ⟨h2,_⟩:=hc i (by omega)
   have ea:(⟨b,o,none⟩:Addr).add i=⟨b,o+i,none⟩:=by unfold Addr.add; split <;> simp_all
   rw [ea,hF i hi] at h2
   exact h2
theorem stay_ints {H:Type} {enc:TypeId×Value→H} {W W':World} {v:Value} {d:DataW H} {p:List MemPlace} (h:DataW.Trod enc Tryz.prog W 0 (fun _=>true) true 28 v d p) (hb:Below W.heap.size W W'):
 DataW.Trod enc Tryz.prog W' 0 (fun b=>decide (b<W.heap.size)) true 28 v d p:=
 Below.trod (by kernel_rfl) (by kernel_rfl) (of_decide_eq_true (by kernel_rfl)) h hb (Trod.ltR h)
end
end Go.Proofs.YtikilbpfhijocaaGreat