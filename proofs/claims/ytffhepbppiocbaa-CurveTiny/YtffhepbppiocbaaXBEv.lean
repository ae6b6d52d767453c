import Derived.Deep.AppendLies
import Derived.Laws.StructEq
import Derived.Test.YtffhepbppiocbaaXBLdS
namespace Go.Proofs.Ytffhepbppiocbaa
open Go.RowKit
set_option maxRecDepth 100000
set_option maxHeartbeats 8000000
section
structure Kp(S:Nat→Prop)(w w':World):Prop where
 os:w'.os=w.os
 tape:w'.tape=w.tape
 output:w'.output=w.output
 size:w.heap.size≤w'.heap.size
 block:∀k,k<w.heap.size→¬S k→w'.heap[k]? = w.heap[k]?
theorem Kp.refl(S:Nat→Prop)(w:World):Kp S w w:=⟨rfl,rfl,rfl,Nat.le_refl _,fun _ _ _=>rfl⟩
theorem Kp.trans{S:Nat→Prop}{a b c:World}(h:Kp S a b)(k:Kp S b c):Kp S a c:=
 ⟨k.os.trans h.os,k.tape.trans h.tape,k.output.trans h.output,Nat.le_trans h.size k.size,fun i d f=>(k.block i (Nat.lt_of_lt_of_le d h.size) f).trans (h.block i d f)⟩
theorem Kp.mono{S T:Nat→Prop}{w w':World}(h:Kp S w w')(hs:∀k,k<w.heap.size→S k→T k):Kp T w w':=
 ⟨h.os,h.tape,h.output,h.size,fun k d f=>h.block k d fun i=>f (hs k d i)⟩
theorem Kp.gr{w v:World}(g:Gr w v)(S:Nat→Prop):Kp S w v:=by
 obtain⟨k,rfl⟩:=g;exact⟨rfl,rfl,rfl,by rw[gro_size];omega,fun b d _=>gro_heap w k b d⟩
theorem Kp.grown{w w':World}{row:Option Nat}(h:w.grownBy w' row):Kp (fun k=>row=some k) w w':=
 ⟨h.os,h.tape,h.output,h.size,fun k d f=>h.block k d fun e=>f e.symm⟩
theorem Kp.alloc{S:Nat→Prop}{w w':World}(h:Kp S w w')(o:Obj):Kp S w (w'.alloc o):=
 h.trans (Kp.gr ((Gr.refl _).alloc o) S)
theorem Kp.drew{S:Nat→Prop}{w w':World}(h:Kp S w w'):Kp S w w'.drew:=⟨h.os,h.tape,h.output,h.size,h.block⟩
theorem Kp.drewN{S:Nat→Prop}{w w':World}(h:Kp S w w')(n:Nat):Kp S w (w'.drewN n):=⟨h.os,h.tape,h.output,h.size,h.block⟩
theorem Kp.setCell{S:Nat→Prop}{w w':World}(h:Kp S w w')(a:Addr)(v:Value)(ha:S a.block):Kp S w (w'.setCell a v):=
 h.trans ⟨rfl,rfl,rfl,by simp[World.setCell],fun k _ d=>Below.heap_setCell w' a v k (fun e=>d (e▸ha))⟩
theorem Kp.below{S:Nat→Prop}{w w':World}(h:Kp S w w')(n:Nat)(hn:n≤w.heap.size)(hs:∀k,S k→n≤k):Below n w w':=
 ⟨h.os,h.tape,h.output,h.size,fun k f=>h.block k (by omega) fun d=>by have:=hs k d;omega⟩
theorem Kp.cell{S:Nat→Prop}{w w':World}(h:Kp S w w')(b o:Nat)(hb:b<w.heap.size)(hn:¬S b):w'.cell? ⟨b,o,none⟩=w.cell? ⟨b,o,none⟩:=
 World.cell?_of_block (w:=w) (h.block b hb hn)
theorem Kp.frozen{S:Nat→Prop}{w w':World}(h:Kp S w w')(b o:Nat)(hb:b<w.heap.size)(hn:¬S b):w'.frozen? ⟨b,o,none⟩=w.frozen? ⟨b,o,none⟩:=
 World.frozen?_of_block (w:=w) (h.block b hb hn)
theorem Kp.setBlk{S:Nat→Prop}{w w':World}(h:Kp S w w')(b:Nat)(d:Array Value)(hb:S b∨w.heap.size≤b):Kp S w (setBlk w' b d):=
 ⟨h.os,h.tape,h.output,by rw[size_setBlk];exact h.size,fun k i f=>by
  refine Eq.trans ?_ (h.block k i f)
  have j:b≠k:=fun e=>by subst e;rcases hb with hb|hb;exact f hb;omega
  unfold Go.Proofs.Ytffhepbppiocbaa.setBlk
  simp[Array.getElem?_modify,j]⟩
def Ev(w:World)(p:Option Addr)(xs:List (Int×Int)):Prop:=
 xs=[]∨∃b o,p=some ⟨b,o,none⟩∧b<w.heap.size∧∀i k a,xs[i]? = some (k,a)→w.cell? ⟨b,o+i*2,none⟩=some (.int .i64 k)∧w.cell? ⟨b,o+i*2+1,none⟩=some (.int .i64 a)
theorem Ev.nil(w:World)(p:Option Addr):Ev w p []:=Or.inl rfl
def At(p:Option Addr)(b:Nat):Prop:=∃o,p=some ⟨b,o,none⟩
theorem Ev.kept{S:Nat→Prop}{w w':World}{p:Option Addr}{xs:List (Int×Int)}(h:Ev w p xs)(k:Kp S w w')(hn:∀b,At p b→¬S b):Ev w' p xs:=by
 rcases h with h|⟨b,o,rfl,hb,hc⟩
 ·exact Or.inl h
 ·refine Or.inr ⟨b,o,rfl,Nat.lt_of_lt_of_le hb k.size,fun i x a d=>?_⟩;rw[k.cell b _ hb (hn b ⟨o,rfl⟩),k.cell b _ hb (hn b ⟨o,rfl⟩)];exact hc i x a d
theorem Ev.drewN{w:World}{p:Option Addr}{xs:List (Int×Int)}(h:Ev w p xs)(n:Nat):Ev (w.drewN n) p xs:=h
theorem Ev.take{w:World}{p:Option Addr}{xs:List (Int×Int)}(h:Ev w p xs)(n:Nat):Ev w p (xs.take n):=by
 rcases h with rfl|⟨b,o,rfl,hb,hc⟩
 ·exact Or.inl (by simp)
 ·refine Or.inr ⟨b,o,rfl,hb,fun i k a d=>hc i k a ?_⟩;rw[List.getElem?_take]at d
  split at d
  ·exact d
  ·cases d
def adr:Value→Option Addr
 | .slice p _ _=>p
 | _=>none
theorem At.own{v:Value}{b:Nat}(h:At (adr v) b):v.ownBlock=some b:=by
 obtain⟨o,h⟩:=h
 cases v <;> simp[adr]at h
 subst h
 rfl
end
end Go.Proofs.Ytffhepbppiocbaa