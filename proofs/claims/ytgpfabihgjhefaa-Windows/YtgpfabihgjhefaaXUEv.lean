import Derived.Deep.AppendLies
import Derived.Laws.StructEq
import Derived.Test.YtgpfabihgjhefaaXUBlk
namespace Go.Proofs.Ytgpfabihgjhefaa
open Go.RowKit
set_option maxRecDepth 100000
set_option maxHeartbeats 8000000
section
structure Kp (S:Nat→Prop) (w w':World):Prop where
 os:w'.os=w.os
 tape:w'.tape=w.tape
 output:w'.output=w.output
 size:w.heap.size≤w'.heap.size
 block:∀ k,k<w.heap.size→¬ S k→w'.heap[k]? = w.heap[k]?
theorem Kp.refl (S:Nat→Prop) (w:World):Kp S w w:=⟨rfl,rfl,rfl,Nat.le_refl _,fun _ _ _=>rfl⟩
theorem Kp.trans {S:Nat→Prop} {a b c:World} (h:Kp S a b) (k:Kp S b c):Kp S a c:=
 ⟨k.os.trans h.os,k.tape.trans h.tape,k.output.trans h.output,Nat.le_trans h.size k.size,fun i hi hn=>(k.block i (Nat.lt_of_lt_of_le hi h.size) hn).trans (h.block i hi hn)⟩
theorem Kp.mono {S T:Nat→Prop} {w w':World} (h:Kp S w w') (hs:∀ k,k<w.heap.size→S k→T k):Kp T w w':=
 ⟨h.os,h.tape,h.output,h.size,fun k hk hn=>h.block k hk fun hS=>hn (hs k hk hS)⟩
theorem Kp.gr {w v:World} (g:Gr w v) (S:Nat→Prop):Kp S w v:=by
 obtain ⟨k,rfl⟩:=g
 exact ⟨rfl,rfl,rfl,by rw [gro_size]; omega,fun b hb _=>gro_heap w k b hb⟩
theorem Kp.setCell {S:Nat→Prop} {w w':World} (h:Kp S w w') (a:Addr) (v:Value) (ha:S a.block):Kp S w (w'.setCell a v):=
 h.trans ⟨rfl,rfl,rfl,by simp [World.setCell],fun k _ hn=>Below.heap_setCell w' a v k (fun e=>hn (e ▸ ha))⟩
theorem Kp.cell {S:Nat→Prop} {w w':World} (h:Kp S w w') (b o:Nat) (hb:b<w.heap.size) (hn:¬ S b):w'.cell? ⟨b,o,none⟩=w.cell? ⟨b,o,none⟩:=
 World.cell?_of_block (w:=w) (h.block b hb hn)
theorem Kp.frozen {S:Nat→Prop} {w w':World} (h:Kp S w w') (b o:Nat) (hb:b<w.heap.size) (hn:¬ S b):w'.frozen? ⟨b,o,none⟩=w.frozen? ⟨b,o,none⟩:=
 World.frozen?_of_block (w:=w) (h.block b hb hn)
theorem gr_kp {S:Nat→Prop} {u v v':World} (g:Gr u v) (k:Kp S v v') (hs:∀ b,b<u.heap.size→¬ S b):Gr u v':=by
 have hk:Kp (fun _=>False) u v':=((Kp.gr g _).mono fun _ _ h=>h).trans (Kp.refl _ _) |> fun h=>⟨k.os.trans h.os,k.tape.trans h.tape,k.output.trans h.output,Nat.le_trans h.size k.size,fun i hi hn=>(k.block i (Nat.lt_of_lt_of_le hi h.size) (hs i hi)).trans (h.block i hi hn)⟩
 refine ⟨⟨(v'.heap.toList.drop u.heap.size),v'.drawn⟩,ext_world ?_ hk.tape rfl hk.os hk.output⟩
 apply Array.ext_getElem?
 intro i
 simp only [gro,Array.getElem?_append,List.getElem?_toArray,List.getElem?_drop,Array.getElem?_toList]
 split
 ·rename_i h; exact hk.block i h (fun h=>h)
 ·rename_i h; rw [show u.heap.size+(i-u.heap.size)=i by omega]
def At (p:Option Addr) (b:Nat):Prop:=∃ o,p=some ⟨b,o,none⟩
end
end Go.Proofs.Ytgpfabihgjhefaa