import Derived.Deep.AppendLies
import Derived.Laws.StructEq
import Derived.Test.YtffhepbppiocbadGreatXALdS
namespace Go.Proofs.YtffhepbppiocbadGreat
open Go.RowKit
set_option maxRecDepth 100000
set_option maxHeartbeats 8000000
section
structure Kp(S:Nat→Prop)(w w':World):Prop where
 os:w'.os=w.os
 tape:w'.tape=w.tape
 output:w'.output=w.output
 size:w.heap.size≤w'.heap.size
 block:∀k,k<w.heap.size→¬S k→w'.heap[k]? = w.heap[k]?
theorem Kp.refl(S:Nat→Prop)(w:World):Kp S w w:=⟨rfl,rfl,rfl,Nat.le_refl _,fun _ _ _=>rfl⟩
theorem Kp.trans{S:Nat→Prop}{a b c:World}(h:Kp S a b)(k:Kp S b c):Kp S a c:=
 ⟨k.os.trans h.os,k.tape.trans h.tape,k.output.trans h.output,Nat.le_trans h.size k.size,fun i d f=>(k.block i (Nat.lt_of_lt_of_le d h.size) f).trans (h.block i d f)⟩
theorem Kp.mono{S T:Nat→Prop}{w w':World}(h:Kp S w w')(hs:∀k,k<w.heap.size→S k→T k):Kp T w w':=
 ⟨h.os,h.tape,h.output,h.size,fun k d f=>h.block k d fun i=>f (hs k d i)⟩
theorem Kp.gr{w v:World}(g:Gr w v)(S:Nat→Prop):Kp S w v:=by
 obtain⟨k,rfl⟩:=g;exact⟨rfl,rfl,rfl,by rw[gro_size];omega,fun b d _=>gro_heap w k b d⟩
theorem Kp.grown{w w':World}{row:Option Nat}(h:w.grownBy w' row):Kp (fun k=>row=some k) w w':=
 ⟨h.os,h.tape,h.output,h.size,fun k d f=>h.block k d fun e=>f e.symm⟩
theorem Kp.alloc{S:Nat→Prop}{w w':World}(h:Kp S w w')(o:Obj):Kp S w (w'.alloc o):=
 h.trans (Kp.gr ((Gr.refl _).alloc o) S)
theorem Kp.drew{S:Nat→Prop}{w w':World}(h:Kp S w w'):Kp S w w'.drew:=⟨h.os,h.tape,h.output,h.size,h.block⟩
theorem Kp.drewN{S:Nat→Prop}{w w':World}(h:Kp S w w')(n:Nat):Kp S w (w'.drewN n):=⟨h.os,h.tape,h.output,h.size,h.block⟩
theorem Kp.setCell{S:Nat→Prop}{w w':World}(h:Kp S w w')(a:Addr)(v:Value)(ha:S a.block):Kp S w (w'.setCell a v):=
 h.trans ⟨rfl,rfl,rfl,by simp[World.setCell],fun k _ d=>Below.heap_setCell w' a v k (fun e=>d (e▸ha))⟩
theorem Kp.below{S:Nat→Prop}{w w':World}(h:Kp S w w')(n:Nat)(hn:n≤w.heap.size)(hs:∀k,S k→n≤k):Below n w w':=
 ⟨h.os,h.tape,h.output,h.size,fun k f=>h.block k (by omega) fun d=>by have:=hs k d;omega⟩
theorem Kp.cell{S:Nat→Prop}{w w':World}(h:Kp S w w')(b o:Nat)(hb:b<w.heap.size)(hn:¬S b):w'.cell? ⟨b,o,none⟩=w.cell? ⟨b,o,none⟩:=
 World.cell?_of_block (w:=w) (h.block b hb hn)
theorem Kp.frozen{S:Nat→Prop}{w w':World}(h:Kp S w w')(b o:Nat)(hb:b<w.heap.size)(hn:¬S b):w'.frozen? ⟨b,o,none⟩=w.frozen? ⟨b,o,none⟩:=
 World.frozen?_of_block (w:=w) (h.block b hb hn)
theorem gr_kp{S:Nat→Prop}{u v v':World}(g:Gr u v)(k:Kp S v v')(hs:∀b,b<u.heap.size→¬S b):Gr u v':=by
 have d:Kp (fun _=>False) u v':=((Kp.gr g _).mono fun _ _ h=>h).trans (Kp.refl _ _) |> fun h=>⟨k.os.trans h.os,k.tape.trans h.tape,k.output.trans h.output,Nat.le_trans h.size k.size,fun i f j=>(k.block i (Nat.lt_of_lt_of_le f h.size) (hs i f)).trans (h.block i f j)⟩
 refine⟨⟨(v'.heap.toList.drop u.heap.size),v'.drawn⟩,ext_world ?_ d.tape rfl d.os d.output⟩
 apply Array.ext_getElem?
 intro i;simp only[gro,Array.getElem?_append,List.getElem?_toArray,List.getElem?_drop,Array.getElem?_toList]
 split
 ·rename_i h;exact d.block i h (fun h=>h)
 grind
theorem Kp.setBlk{S:Nat→Prop}{w w':World}(h:Kp S w w')(b:Nat)(d:Array Value)(hb:S b∨w.heap.size≤b):Kp S w (setBlk w' b d):=
 ⟨h.os,h.tape,h.output,by rw[size_setBlk];exact h.size,fun k i f=>by
  refine Eq.trans ?_ (h.block k i f)
  have j:b≠k:=fun e=>by subst e;rcases hb with hb|hb;exact f hb;omega
  unfold Go.Proofs.YtffhepbppiocbadGreat.setBlk
  simp[Array.getElem?_modify,j]⟩
def evc:List (Int×Int)→List Value
 | []=>[]
 | (k,a) :: r=>.int .i64 k :: .int .i64 a :: evc r
theorem evc_append:∀(x y:List (Int×Int)),evc (x++y)=evc x++evc y
 | [],_=>rfl
 | (k,a) :: r,y=>by simp[evc,evc_append r y]
theorem evc_length:∀x:List (Int×Int),(evc x).length=x.length*2
 | []=>rfl
 | (k,a) :: r=>by simp[evc,evc_length r];omega
theorem evc_at:∀(x:List (Int×Int)) (i:Nat) (k a:Int),x[i]? = some (k,a)→(evc x)[i*2]? = some (.int .i64 k)∧(evc x)[i*2+1]? = some (.int .i64 a)
 | [],i,k,a,h=>by simp at h
 | (k',a') :: r,0,k,a,h=>by simp at h;simp[evc,h]
 | (k',a') :: r,i+1,k,a,h=>by
  have:=evc_at r i k a (by simpa using h)
  have e:(i+1)*2=i*2+2:=by omega
  rw[e]
  simpa [evc]using this
def Ev(w:World)(p:Option Addr)(xs:List (Int×Int)):Prop:=
 xs=[]∨∃b o,p=some ⟨b,o,none⟩∧b<w.heap.size∧∀i k a,xs[i]? = some (k,a)→w.cell? ⟨b,o+i*2,none⟩=some (.int .i64 k)∧w.cell? ⟨b,o+i*2+1,none⟩=some (.int .i64 a)
theorem Ev.nil(w:World)(p:Option Addr):Ev w p []:=Or.inl rfl
def At(p:Option Addr)(b:Nat):Prop:=∃o,p=some ⟨b,o,none⟩
theorem Ev.kept{S:Nat→Prop}{w w':World}{p:Option Addr}{xs:List (Int×Int)}(h:Ev w p xs)(k:Kp S w w')(hn:∀b,At p b→¬S b):Ev w' p xs:=by
 rcases h with h|⟨b,o,rfl,hb,hc⟩
 ·exact Or.inl h
 ·refine Or.inr ⟨b,o,rfl,Nat.lt_of_lt_of_le hb k.size,fun i x a d=>?_⟩;rw[k.cell b _ hb (hn b ⟨o,rfl⟩),k.cell b _ hb (hn b ⟨o,rfl⟩)];exact hc i x a d
theorem Ev.drewN{w:World}{p:Option Addr}{xs:List (Int×Int)}(h:Ev w p xs)(n:Nat):Ev (w.drewN n) p xs:=h
theorem Ev.take{w:World}{p:Option Addr}{xs:List (Int×Int)}(h:Ev w p xs)(n:Nat):Ev w p (xs.take n):=by
 rcases h with rfl|⟨b,o,rfl,hb,hc⟩
 ·exact Or.inl (by simp)
 ·refine Or.inr ⟨b,o,rfl,hb,fun i k a d=>hc i k a ?_⟩;rw[List.getElem?_take]at d
  split at d
  ·exact d
  ·cases d
def adr:Value→Option Addr
 | .slice p _ _=>p
 | _=>none
theorem Ev.of_owns{w:World}{base:Nat}{e:TypeId}{v:Value}{n:Nat}{xs:List (Int×Int)}(h:w.ownsRow base e 2 v n (evc xs)):Ev w (adr v) xs:=by
 rcases h.2 with ⟨rfl,h0⟩|⟨g,cap,cur,rfl,hb,hg,h1,h2,h3,h4⟩
 ·left
  have:=h.1;rw[evc_length,h0]at this;exact List.eq_nil_of_length_eq_zero (by omega)
 ·right
  have q:=(Array.getElem?_eq_some_iff.1 hg).1;refine⟨g,0,rfl,q,fun i k a A=>?_⟩;have x:=evc_at xs i k a A
  have d:∀j u,(evc xs)[j]? = some u→w.cell? ⟨g,0+j,none⟩=some u:=fun j u f=>by
   rw[Nat.zero_add,cell_of_row w g j cur e (0,0) hg];rw[←h4,List.getElem?_take]at f
   split at f
   ·simpa using f
   ·cases f
  exact⟨d _ _ x.1,by have:=d _ _ x.2;rwa [←Nat.add_assoc]at this⟩
theorem At.own{v:Value}{b:Nat}(h:At (adr v) b):v.ownBlock=some b:=by
 obtain⟨o,h⟩:=h
 cases v <;> simp[adr]at h
 subst h
 rfl
theorem owns_shape{w:World}{base:Nat}{e:TypeId}{s:Nat}{v:Value}{n:Nat}{xs:List Value}(h:w.ownsRow base e s v n xs):∃p c,v=.slice p n c∧n≤c∧c≤maxLen:=by
 rcases h.2 with ⟨rfl,h0⟩|⟨g,cap,cur,rfl,hb,hg,h1,h2,_⟩
 ·exact⟨none,0,by rw[h0],by omega,by decide⟩
 ·exact⟨_,_,rfl,h1,h2⟩
theorem owns_kept{S:Nat→Prop}{w w':World}{base:Nat}{e:TypeId}{s:Nat}{v:Value}{n:Nat}{xs:List Value}(h:w.ownsRow base e s v n xs)(k:Kp S w w')(hn:∀b,v.ownBlock=some b→¬S b):w'.ownsRow base e s v n xs:=by
 refine⟨h.1,?_⟩
 rcases h.2 with hz|⟨g,cap,cur,rfl,hb,hg,r⟩
 ·exact Or.inl hz
 ·refine Or.inr ⟨g,cap,cur,rfl,hb,?_,r⟩;rw[k.block g (Array.getElem?_eq_some_iff.1 hg).1 (hn g rfl)];exact hg
theorem owns_mono{w:World}{base base':Nat}{e:TypeId}{s:Nat}{v:Value}{n:Nat}{xs:List Value}(h:w.ownsRow base e s v n xs)(hb:base'≤base):w.ownsRow base' e s v n xs:=by
 refine⟨h.1,?_⟩
 rcases h.2 with hz|⟨g,cap,cur,rfl,hg,r⟩
 ·exact Or.inl hz
 ·exact Or.inr ⟨g,cap,cur,rfl,by omega,r⟩
structure Tr(w:World)(t:Nat)(v:Value)(xs:List (Int×Int)):Prop where
 cell:w.heap[t]? = some (.cells #[v] 88 (0,0))
 row:w.ownsRow (t+1) 207 2 v xs.length (evc xs)
theorem Tr.lt{w:World}{t:Nat}{v:Value}{xs:List (Int×Int)}(h:Tr w t v xs):t<w.heap.size:=(Array.getElem?_eq_some_iff.1 h.cell).1
def Own(t:Nat)(v:Value)(b:Nat):Prop:=b=t∨v.ownBlock=some b
theorem Tr.own{w:World}{t:Nat}{v:Value}{xs:List (Int×Int)}(h:Tr w t v xs):∀b,Own t v b→t≤b∧b<w.heap.size:=fun b d=>by
 rcases d with rfl|d
 ·exact⟨Nat.le_refl _,h.lt⟩
 ·have:=h.row.lt b d
  omega
theorem Tr.kept{S:Nat→Prop}{w w':World}{t:Nat}{v:Value}{xs:List (Int×Int)}(h:Tr w t v xs)(k:Kp S w w')(hn:∀b,Own t v b→¬S b):Tr w' t v xs:=
 ⟨by rw[k.block t h.lt (hn t (Or.inl rfl))];exact h.cell,owns_kept h.row k fun b d=>hn b (Or.inr d)⟩
theorem Tr.cell0{w:World}{t:Nat}{v:Value}{xs:List (Int×Int)}(h:Tr w t v xs):w.cell? ⟨t,0,none⟩=some v:=by
 rw[cell_of_row w t 0 _ _ _ h.cell];rfl
theorem Tr.frozen0{w:World}{t:Nat}{v:Value}{xs:List (Int×Int)}(h:Tr w t v xs):w.frozen? ⟨t,0,none⟩=false:=by
 unfold World.frozen?;rw[h.cell];simp
theorem Tr.new(w:World):Tr (w.alloc (.cells #[.slice none 0 0] 88)) w.heap.size (.slice none 0 0) []:=
 ⟨heap_alloc_new w _,World.ownsRow_nil _ _ _ _⟩
end
end Go.Proofs.YtffhepbppiocbadGreat