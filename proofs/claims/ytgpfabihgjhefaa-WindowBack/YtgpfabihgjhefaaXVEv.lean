import Derived.Deep.AppendLies
import Derived.Laws.StructEq
import Derived.Test.YtgpfabihgjhefaaXVBlk
namespace Go.Proofs.Ytgpfabihgjhefaa
open Go.RowKit
set_option maxRecDepth 100000
set_option maxHeartbeats 8000000
section
structure Kp (S:Nat→Prop) (w w':World):Prop where
 os:w'.os=w.os
 tape:w'.tape=w.tape
 output:w'.output=w.output
 size:w.heap.size≤w'.heap.size
 block:∀ k,k<w.heap.size→¬ S k→w'.heap[k]? = w.heap[k]?
theorem Kp.gr {w v:World} (g:Gr w v) (S:Nat→Prop):Kp S w v:=by
 obtain ⟨k,rfl⟩:=g
 exact ⟨rfl,rfl,rfl,by rw [gro_size]; omega,fun b hb _=>gro_heap w k b hb⟩
theorem Kp.cell {S:Nat→Prop} {w w':World} (h:Kp S w w') (b o:Nat) (hb:b<w.heap.size) (hn:¬ S b):w'.cell? ⟨b,o,none⟩=w.cell? ⟨b,o,none⟩:=
 World.cell?_of_block (w:=w) (h.block b hb hn)
def At (p:Option Addr) (b:Nat):Prop:=∃ o,p=some ⟨b,o,none⟩
end
end Go.Proofs.Ytgpfabihgjhefaa