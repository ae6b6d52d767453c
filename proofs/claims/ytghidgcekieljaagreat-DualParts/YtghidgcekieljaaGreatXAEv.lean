import Derived.Deep.AppendLies
import Derived.Laws.StructEq
import Derived.Test.YtghidgcekieljaaGreatXALdS
namespace Go.Proofs.YtghidgcekieljaaGreat
open Go.RowKit Go.Proofs.Tryz
set_option maxRecDepth 100000
set_option maxHeartbeats 8000000
section
structure Kp(S:Nat→Prop)(w w':World):Prop where
 os:w'.os=w.os
 tape:w'.tape=w.tape
 output:w'.output=w.output
 size:w.heap.size≤w'.heap.size
 block:∀k,k<w.heap.size→¬S k→w'.heap[k]? = w.heap[k]?
theorem Kp.refl(S:Nat→Prop)(w:World):Kp S w w:=⟨rfl,rfl,rfl,Nat.le_refl _,fun _ _ _=>rfl⟩
theorem Kp.trans{S:Nat→Prop}{a b c:World}(h:Kp S a b)(k:Kp S b c):Kp S a c:=
 ⟨k.os.trans h.os,k.tape.trans h.tape,k.output.trans h.output,Nat.le_trans h.size k.size,fun i hi hn=>(k.block i (Nat.lt_of_lt_of_le hi h.size) hn).trans (h.block i hi hn)⟩
theorem Kp.mono{S T:Nat→Prop}{w w':World}(h:Kp S w w')(hs:∀k,k<w.heap.size→S k→T k):Kp T w w':=
 ⟨h.os,h.tape,h.output,h.size,fun k hk hn=>h.block k hk fun hS=>hn (hs k hk hS)⟩
theorem Kp.gr{w v:World}(g:Gr w v)(S:Nat→Prop):Kp S w v:=by
 obtain⟨k,rfl⟩:=g;exact⟨rfl,rfl,rfl,by rw[gro_size];omega,fun b hb _=>gro_heap w k b hb⟩
theorem Kp.grown{w w':World}{row:Option Nat}(h:w.grownBy w' row):Kp (fun k=>row=some k) w w':=
 ⟨h.os,h.tape,h.output,h.size,fun k hk hn=>h.block k hk fun e=>hn e.symm⟩
theorem Kp.alloc{S:Nat→Prop}{w w':World}(h:Kp S w w')(o:Obj):Kp S w (w'.alloc o):=
 h.trans (Kp.gr ((Gr.refl _).alloc o) S)
theorem Kp.drew{S:Nat→Prop}{w w':World}(h:Kp S w w'):Kp S w w'.drew:=⟨h.os,h.tape,h.output,h.size,h.block⟩
theorem Kp.setCell{S:Nat→Prop}{w w':World}(h:Kp S w w')(a:Addr)(v:Value)(ha:S a.block):Kp S w (w'.setCell a v):=
 h.trans ⟨rfl,rfl,rfl,by simp[World.setCell],fun k _ hn=>Below.heap_setCell w' a v k (fun e=>hn (e▸ha))⟩
theorem Kp.cell{S:Nat→Prop}{w w':World}(h:Kp S w w')(b o:Nat)(hb:b<w.heap.size)(hn:¬S b):w'.cell? ⟨b,o,none⟩=w.cell? ⟨b,o,none⟩:=
 World.cell?_of_block (w:=w) (h.block b hb hn)
theorem Kp.frozen{S:Nat→Prop}{w w':World}(h:Kp S w w')(b o:Nat)(hb:b<w.heap.size)(hn:¬S b):w'.frozen? ⟨b,o,none⟩=w.frozen? ⟨b,o,none⟩:=
 World.frozen?_of_block (w:=w) (h.block b hb hn)
theorem gr_kp{S:Nat→Prop}{u v v':World}(g:Gr u v)(k:Kp S v v')(hs:∀b,b<u.heap.size→¬S b):Gr u v':=by
 have hk:Kp (fun _=>False) u v':=((Kp.gr g _).mono fun _ _ h=>h).trans (Kp.refl _ _) |> fun h=>⟨k.os.trans h.os,k.tape.trans h.tape,k.output.trans h.output,Nat.le_trans h.size k.size,fun i hi hn=>(k.block i (Nat.lt_of_lt_of_le hi h.size) (hs i hi)).trans (h.block i hi hn)⟩
 refine⟨⟨(v'.heap.toList.drop u.heap.size),v'.drawn⟩,ext_world ?_ hk.tape rfl hk.os hk.output⟩
 apply Array.ext_getElem?
 intro i;simp only[gro,Array.getElem?_append,List.getElem?_toArray,List.getElem?_drop,Array.getElem?_toList]
 split
 ·rename_i h;exact hk.block i h (fun h=>h)
 ·rename_i h;rw[show u.heap.size+(i-u.heap.size)=i by omega]
theorem Kp.setBlk{S:Nat→Prop}{w w':World}(h:Kp S w w')(b:Nat)(d:Array Value)(hb:S b∨w.heap.size≤b):Kp S w (setBlk w' b d):=
 ⟨h.os,h.tape,h.output,by rw[size_setBlk];exact h.size,fun k hk hn=>by
  refine Eq.trans ?_ (h.block k hk hn)
  have ne:b≠k:=fun e=>by subst e;rcases hb with hb|hb;exact hn hb;omega
  unfold Go.Proofs.YtghidgcekieljaaGreat.setBlk
  simp[Array.getElem?_modify,ne]⟩
def evc:List (Int×Int)→List Value
 | []=>[]
 | (k,a) :: r=>.int .i64 k :: .int .i64 a :: evc r
theorem evc_append:∀(x y:List (Int×Int)),evc (x++y)=evc x++evc y
 | [],_=>rfl
 | (k,a) :: r,y=>by simp[evc,evc_append r y]
theorem owns_shape{w:World}{base:Nat}{e:TypeId}{s:Nat}{v:Value}{n:Nat}{xs:List Value}(h:w.ownsRow base e s v n xs):∃p c,v=.slice p n c∧n≤c∧c≤maxLen:=by
 rcases h.2 with ⟨rfl,h0⟩|⟨g,cap,cur,rfl,hb,hg,h1,h2,_⟩
 ·exact⟨none,0,by rw[h0],by omega,by decide⟩
 ·exact⟨_,_,rfl,h1,h2⟩
theorem owns_kept{S:Nat→Prop}{w w':World}{base:Nat}{e:TypeId}{s:Nat}{v:Value}{n:Nat}{xs:List Value}(h:w.ownsRow base e s v n xs)(k:Kp S w w')(hn:∀b,v.ownBlock=some b→¬S b):w'.ownsRow base e s v n xs:=by
 refine⟨h.1,?_⟩
 rcases h.2 with hz|⟨g,cap,cur,rfl,hb,hg,r⟩
 ·exact Or.inl hz
 ·refine Or.inr ⟨g,cap,cur,rfl,hb,?_,r⟩;rw[k.block g (Array.getElem?_eq_some_iff.1 hg).1 (hn g rfl)];exact hg
theorem owns_mono{w:World}{base base':Nat}{e:TypeId}{s:Nat}{v:Value}{n:Nat}{xs:List Value}(h:w.ownsRow base e s v n xs)(hb:base'≤base):w.ownsRow base' e s v n xs:=by
 refine⟨h.1,?_⟩
 rcases h.2 with hz|⟨g,cap,cur,rfl,hg,r⟩
 ·exact Or.inl hz
 ·exact Or.inr ⟨g,cap,cur,rfl,by omega,r⟩
structure Tr(w:World)(t:Nat)(v:Value)(xs:List (Int×Int)):Prop where
 cell:w.heap[t]? = some (.cells #[v] 192 (0,0))
 row:w.ownsRow (t+1) 189 2 v xs.length (evc xs)
theorem Tr.lt{w:World}{t:Nat}{v:Value}{xs:List (Int×Int)}(h:Tr w t v xs):t<w.heap.size:=(Array.getElem?_eq_some_iff.1 h.cell).1
def Own(t:Nat)(v:Value)(b:Nat):Prop:=b=t∨v.ownBlock=some b
theorem Tr.own{w:World}{t:Nat}{v:Value}{xs:List (Int×Int)}(h:Tr w t v xs):∀b,Own t v b→t≤b∧b<w.heap.size:=fun b hb=>by
 rcases hb with rfl|hb
 ·exact⟨Nat.le_refl _,h.lt⟩
 ·have:=h.row.lt b hb
  omega
theorem Tr.kept{S:Nat→Prop}{w w':World}{t:Nat}{v:Value}{xs:List (Int×Int)}(h:Tr w t v xs)(k:Kp S w w')(hn:∀b,Own t v b→¬S b):Tr w' t v xs:=
 ⟨by rw[k.block t h.lt (hn t (Or.inl rfl))];exact h.cell,owns_kept h.row k fun b hb=>hn b (Or.inr hb)⟩
theorem Tr.cell0{w:World}{t:Nat}{v:Value}{xs:List (Int×Int)}(h:Tr w t v xs):w.cell? ⟨t,0,none⟩=some v:=by
 rw[cell_of_row w t 0 _ _ _ h.cell];rfl
theorem Tr.frozen0{w:World}{t:Nat}{v:Value}{xs:List (Int×Int)}(h:Tr w t v xs):w.frozen? ⟨t,0,none⟩=false:=by
 unfold World.frozen?;rw[h.cell];simp
end
end Go.Proofs.YtghidgcekieljaaGreat