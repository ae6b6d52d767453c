import Derived.Laws.MakeOwn
import Derived.Deep.AppendSrc
import Derived.OwnWalk
import Derived.Test.YtffhepbppiocbacGreatXTMixG
namespace Go.Proofs.YtffhepbppiocbacGreat
open Go.RowKit
set_option maxRecDepth 100000
set_option maxHeartbeats 8000000
section
def fr(m:Nat)(f:Nat→Value):Array Value:=((List.range m).map f).toArray
theorem fr_get(m:Nat)(f:Nat→Value)(i:Nat)(h:i<m):(fr m f)[i]? = some (f i):=by simp[fr,h]
structure Rx(w:World)(g n cap:Nat)(f:Nat→Value):Prop where
 lt:g<w.heap.size
 le:n≤cap
 cell:∀i,i<n→w.cell? ⟨g,i,none⟩=some (f i)
 room:∀i,i<cap→(w.cell? ⟨g,i,none⟩).isSome=true∧w.frozen? ⟨g,i,none⟩=false
theorem Rx.gr{w w':World}{g n cap:Nat}{f:Nat→Value}(h:Rx w g n cap f)(k:Gr w w'):Rx w' g n cap f:=by
 obtain⟨k,rfl⟩:=k;exact⟨by have:=h.lt;rw[gro_size];omega,h.le,fun i d=>(cell_gro w k g i h.lt).trans (h.cell i d),fun i d=>by rw[cell_gro w k g i h.lt,frozen_gro w k g i h.lt];exact h.room i d⟩
def Rvx(w:World)(lo:Nat)(v:Value)(n:Nat)(f:Nat→Value):Prop:=
 (v=.slice none 0 0∧n=0)∨∃g cap,v=.slice (some ⟨g,0,none⟩) n cap∧lo≤g∧Rx w g n cap f
theorem Rvx.gr{w w':World}{lo n:Nat}{v:Value}{f:Nat→Value}(h:Rvx w lo v n f)(k:Gr w w'):Rvx w' lo v n f:=by
 rcases h with h|⟨g,cap,h1,h2,h3⟩
 ·exact Or.inl h
 ·exact Or.inr ⟨g,cap,h1,h2,h3.gr k⟩
theorem cell_new(w:World)(c:Array Value)(t:TypeId)(k:Nat):(w.alloc (.cells c t)).cell? ⟨w.heap.size,k,none⟩=c[k]? := by rw[cell_blk,blk_alloc_at _ _ _ _ _ rfl]
theorem fz_new(w:World)(c:Array Value)(t:TypeId)(k:Nat):(w.alloc (.cells c t)).frozen? ⟨w.heap.size,k,none⟩=false:=by
 simp
end
end Go.Proofs.YtffhepbppiocbacGreat