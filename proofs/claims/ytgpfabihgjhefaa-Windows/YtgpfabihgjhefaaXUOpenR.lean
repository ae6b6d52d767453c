import Derived.ProofKit
import Derived.OpenShut
import Derived.ChangeOld
import Derived.Carry
import Derived.Deep.Slices
import Derived.SizedLaws
import Derived.Test.YtgpfabihgjhefaaXUVI
namespace Go.Proofs.Ytgpfabihgjhefaa
open Go.RowKit
set_option maxRecDepth 100000
set_option maxHeartbeats 8000000
section
open Go.ChangeShapes Go.WideShapes Go.ChangeAt Go.RowKit Go.Deep
theorem Trod.ltR {H:Type} {enc:TypeId×Value→H} {W:World} {t:TypeId} {v:Value} {d:DataW H} {p:List MemPlace}
 (h:DataW.Trod enc Try.prog W 0 (fun _=>true) true t v d p):∀ x∈p,x.block<W.heap.size:=by
 obtain ⟨n,hf⟩:=h
 exact DataW.trod_lt n _ _ _ hf
theorem open_ints {H:Type} {enc:TypeId×Value→H} {W:World} {base:Nat} {v:Value} {d:DataW H} {p:List MemPlace}
 (hv:Value.okWide Try.prog W .any base 26 v) (h:DataW.Trod enc Try.prog W 0 (fun _=>true) true 26 v d p):
 ∃ q n c f,v=.slice q n c∧Iv W q n f∧(n=0∨∃ elems spare,d=.slice elems spare∧elems.length=n):=by
 obtain ⟨a,len,cap,rfl⟩:=okWide_slice Try.underlying26 hv
 obtain ⟨fuel,hf⟩:=h
 have hf':DataW.trod enc Try.prog W 0 (fun _=>true) true fuel 26 [.slice a len cap]=some (d,p):=hf
 rcases open_slice1 Try.underlying26 (by kernel_rfl) hf' with ⟨hcs,hx⟩ | ⟨a',len',cap',m,n,V,D,Pl,hcs,_,hl,hm,hmm,hx,hc⟩
 ·simp only [List.cons.injEq,Value.slice.injEq,and_true] at hcs
  obtain ⟨rfl,rfl,rfl⟩:=hcs
  exact ⟨none,0,0,fun _=>0,rfl,Or.inl rfl,Or.inl rfl⟩
 ·simp only [List.cons.injEq,Value.slice.injEq,and_true] at hcs
  obtain ⟨rfl,rfl,rfl⟩:=hcs
  simp only [if_true] at hmm
  subst hmm
  have each:∀ i,i<len→∃ e:Int,V i=.int .i64 e:=fun i hi=>by
   obtain ⟨_,h0⟩:=hc i (by omega)
   obtain ⟨z0,e0,_,_⟩:=DataW.trod_int Try.underlying3 h0
   simp only [List.cons.injEq,and_true] at e0
   exact ⟨z0,e0⟩
  obtain ⟨F,hF⟩:=choose_lt each
  simp only [Prod.mk.injEq] at hx
  refine ⟨some a',len,m,F,rfl,?_,Or.inr ⟨_,_,hx.1,by simp⟩⟩
  by_cases h0:len=0
  ·exact Or.inl h0
  ·obtain ⟨h1,_⟩:=hc 0 (by omega)
   have hs:=World.cell?_spot h1
   have hb:=World.block_lt_of_cell? W _ h1
   obtain ⟨b,o,s⟩:=a'
   simp [Addr.add] at hs hb
   subst hs
   refine Or.inr ⟨b,o,rfl,hb,fun i hi=>?_⟩
   obtain ⟨h2,_⟩:=hc i (by omega)
   have ea:(⟨b,o,none⟩:Addr).add i=⟨b,o+i,none⟩:=by unfold Addr.add; split <;> simp_all
   rw [ea,hF i hi] at h2
   exact h2
theorem stay_ints {H:Type} {enc:TypeId×Value→H} {W W':World} {v:Value} {d:DataW H} {p:List MemPlace} (h:DataW.Trod enc Try.prog W 0 (fun _=>true) true 26 v d p) (hb:Below W.heap.size W W'):
 DataW.Trod enc Try.prog W' 0 (fun b=>decide (b<W.heap.size)) true 26 v d p:=
 Below.trod (by kernel_rfl) (by kernel_rfl) (of_decide_eq_true (by kernel_rfl)) h hb (Trod.ltR h)
theorem ints_sized {H:Type} {ts:List TypeId} {ds:List (DataW H)} (hsz:(DataW.weightsEach Try.prog ts ds).all (· ≤ reachBytes)=true) {j:Nat} {d:DataW H} {n:Nat} (ht:ts[j]? = some 26) (hd:ds[j]? = some d)
 (h:n=0∨∃ elems spare,d=.slice elems spare∧elems.length=n):n*8≤140737488351232:=by
 rcases h with rfl | ⟨el,sp,rfl,hl⟩
 ·simp
 ·have:=sized_slice hsz ht hd Try.underlying26
  rw [show Try.prog.bytesOf 3=8 from by kernel_rfl,hl] at this
  have h2:(n+sp.length)*8≤140737488351232:=this
  omega
end
end Go.Proofs.Ytgpfabihgjhefaa