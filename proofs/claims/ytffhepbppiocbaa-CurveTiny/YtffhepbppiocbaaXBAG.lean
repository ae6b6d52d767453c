import Derived.Laws.MakeOwn
import Derived.Deep.AppendSrc
import Derived.OwnWalk
import Derived.Test.YtffhepbppiocbaaXBMixG
namespace Go.Proofs.Ytffhepbppiocbaa
open Go.RowKit
set_option maxRecDepth 100000
set_option maxHeartbeats 8000000
section
def fr(m:Nat)(f:Nat→Value):Array Value:=((List.range m).map f).toArray
theorem fr_size(m:Nat)(f:Nat→Value):(fr m f).size=m:=by simp[fr]
theorem fr_get(m:Nat)(f:Nat→Value)(i:Nat)(h:i<m):(fr m f)[i]? = some (f i):=by simp[fr,h]
structure Rx(w:World)(g n cap:Nat)(f:Nat→Value):Prop where
 lt:g<w.heap.size
 le:n≤cap
 cell:∀i,i<n→w.cell? ⟨g,i,none⟩=some (f i)
 room:∀i,i<cap→(w.cell? ⟨g,i,none⟩).isSome=true∧w.frozen? ⟨g,i,none⟩=false
theorem Rx.gr{w w':World}{g n cap:Nat}{f:Nat→Value}(h:Rx w g n cap f)(k:Gr w w'):Rx w' g n cap f:=by
 obtain⟨k,rfl⟩:=k;exact⟨by have:=h.lt;rw[gro_size];omega,h.le,fun i d=>(cell_gro w k g i h.lt).trans (h.cell i d),fun i d=>by rw[cell_gro w k g i h.lt,frozen_gro w k g i h.lt];exact h.room i d⟩
def Rvx(w:World)(lo:Nat)(v:Value)(n:Nat)(f:Nat→Value):Prop:=
 (v=.slice none 0 0∧n=0)∨∃g cap,v=.slice (some ⟨g,0,none⟩) n cap∧lo≤g∧Rx w g n cap f
theorem Rvx.gr{w w':World}{lo n:Nat}{v:Value}{f:Nat→Value}(h:Rvx w lo v n f)(k:Gr w w'):Rvx w' lo v n f:=by
 rcases h with h|⟨g,cap,h1,h2,h3⟩
 ·exact Or.inl h
 ·exact Or.inr ⟨g,cap,h1,h2,h3.gr k⟩
theorem cell_new(w:World)(c:Array Value)(t:TypeId)(k:Nat):(w.alloc (.cells c t)).cell? ⟨w.heap.size,k,none⟩=c[k]? := by rw[cell_blk,blk_alloc_at _ _ _ _ _ rfl]
theorem fz_new(w:World)(c:Array Value)(t:TypeId)(k:Nat):(w.alloc (.cells c t)).frozen? ⟨w.heap.size,k,none⟩=false:=by
 simp
theorem srcx{P:Program}{t e:TypeId}{w:World}(ht:P.underlying t=some (.slice e))(b o m c:Nat)(f:Nat→Value)(h1:∀k,(f k).oneCell'=true)(hb:∀j,j<m→w.cell? ⟨b,o+j,none⟩=some (f j)):Src P 1 t (.slice (some ⟨b,o,none⟩) m c) m (fr m f).toList w:=by
 refine Src.ofSlice w ht ⟨b,o,none⟩ m c _ (by rw[Array.length_toList,fr_size,Nat.mul_one]) (fun j u h=>?_) (fun u i=>?_)
 ·have e:(⟨b,o,none⟩:Addr).add j=⟨b,o+j,none⟩:=Addr.add_lit _ _ _;rw[Array.getElem?_toList]at h
  have d:j<m:=by
   have:=(Array.getElem?_eq_some_iff.1 h).1
   rwa [fr_size]at this
  rw[e,hb j d,←h,fr_get m _ j d]
 grind [fr]
theorem aps_run{P:Program}{t e:TypeId}{i:TypeInfo}{z:Value}{by':Nat}(ht:P.underlying t=some (.slice e))(hi:P.info? e=some i)(hz:i.zero=some z)(hzc:z.cells.size=1)(hs:i.size=1)(hby:i.bytes=by')(w:World)(lo n m:Nat)(x v:Value)(f:Nat→Value)(h:Rvx w lo v n f)(hsrc:Src P i.size t x m (fr m fun j=>f (n+j)).toList w)(hm:0<m∨v≠.slice none 0 0)(hbd:(n+m)*by'≤140737488355328)(hbn:n+m≤9223372036854775807)(hlo:lo≤w.heap.size):
 ∃g cap w',(∀ty,(Builtin.append_ #[t,t] ty #[v,x]).run P w=.ok (.slice (some ⟨g,0,none⟩) (n+m) cap) w')∧lo≤g∧Rx w' g (n+m) cap f∧∀W,Gr W w→W.heap.size≤lo→Gr W w':=by
 have d:(fr m fun j=>f (n+j)).toList.length=m*i.size:=by rw[hs,Array.length_toList,fr_size,Nat.mul_one]
 -- the arm that makes a new row
 have l:∀(base:Option Addr) (cap:Nat) (olds:List Value),olds=(fr n f).toList→(Builtin.firstCells i.size n (.slice base n cap)).run P w.drew=.ok olds.toArray w.drew→cap<n+m →
  ∃g cap' w',(∀ty,(Builtin.append_ #[t,t] ty #[.slice base n cap,x]).run P w=.ok (.slice (some ⟨g,0,none⟩) (n+m) cap') w')∧lo≤g∧Rx w' g (n+m) cap' f∧∀W,Gr W w→W.heap.size≤lo→Gr W w':=by
  intro base cap olds Q G H;have I:=fun ty=>run_append_grow_src w t t ty e i _ ht hi hz base n cap olds G x m _ hsrc H (by omega) (growslice_fits H (by rw[hby];omega));have X:=fun k=>cell_new w.drew ((olds++(fr m fun j=>f (n+j)).toList).toArray++Builtin.zeroCells z.cells (grownCap w (n+m) cap e-(n+m))) e k;have J:=grownCap_ge w (n+m) cap e
  refine⟨w.heap.size,_,_,I,hlo,⟨by simp,J,fun k q=>?_,fun k q=>⟨?_,fz_new w.drew _ _ k⟩⟩,fun W g _=>(g.drew).alloc _⟩
  ·refine(X k).trans ?_;rw[Array.getElem?_append_left (by rw[Q];simp[fr_size];omega),List.getElem?_toArray,Q]
   by_cases c1:k<n
   ·rw[List.getElem?_append_left (by simp[fr_size];exact c1),Array.getElem?_toList,fr_get n f k c1]
   ·rw[List.getElem?_append_right (by simp[fr_size];omega),Array.getElem?_toList,Array.length_toList,fr_size,fr_get m _ _ (by omega),show n+(k-n)=k by omega]
  ·rw[show (⟨w.heap.size,k,none⟩:Addr)=⟨w.drew.heap.size,k,none⟩ from rfl,X k,Array.getElem?_eq_getElem (by
    rw[Q];simp only[Array.size_append,List.size_toArray,List.length_append,Array.length_toList,fr_size,size_zeroCells];rw[hzc]
    omega)]
   rfl
 rcases h with ⟨rfl,rfl⟩|⟨g,cap,rfl,H,hR⟩
 ·exact l none 0 [] (by unfold fr;rfl) (by simp[Builtin.firstCells]) (by rcases hm with hm|hm;omega;exact absurd rfl hm)
 ·by_cases hroom:n+m≤cap
  ·have I:=fun ty=>run_append_room_src w t t ty e i ht hi g 0 n cap x m _ hsrc hroom
    (fun j A=>by rw[hs,Nat.zero_add,Nat.mul_one];rw[d,hs]at A;exact(hR.room _ (by omega)).1) (fun j A=>by rw[hs,Nat.zero_add,Nat.mul_one];rw[d,hs]at A;exact(hR.room _ (by omega)).2)
   rw[hs,Nat.zero_add,Nat.mul_one]at I;rw[hs]at d
   have Z:(fr m fun j=>f (n+j)).toList.length=m:=by rw[Array.length_toList,fr_size]
   have D:∀j,j<(fr m fun j=>f (n+j)).toList.length→(w.cell? ⟨g,n+j,none⟩).isSome=true:=fun j A=>(hR.room _ (by omega)).1
   by_cases hm0:m=0
   ·subst hm0;exact⟨g,cap,w,I,H,hR,fun W S _=>S⟩
   have B:0<(blk w g).size:=by
    have U:=(hR.room 0 (by omega)).1;rw[cell_blk]at U
    cases hz:(blk w g)[0]? with
    | none=>rw[hz]at U;cases U
    | some x=>exact(Array.getElem?_eq_some_iff.1 hz).1
   have K:∀k,n≤k→k<n+m→(w.setCells g n (fr m fun j=>f (n+j)).toList).cell? ⟨g,k,none⟩=some (f k):=fun k h1 h2=>by
    have:=World.cell?_setCells_in g _ n w D (k-n) (by omega);rw[show n+(k-n)=k by omega]at this;rw[this,Array.getElem_toList];have Y:=fr_get m (fun j=>f (n+j)) (k-n) (by omega);rw[Array.getElem?_eq_getElem (by rw[fr_size];omega)]at Y;rw[Y,show n+(k-n)=k by omega]
   have C:∀k,k<n∨n+m≤k→(w.setCells g n (fr m fun j=>f (n+j)).toList).cell? ⟨g,k,none⟩=w.cell? ⟨g,k,none⟩:=fun k q=>World.cell?_setCells_out g _ n w ⟨g,k,none⟩ fun _ _=>by rw[Z];exact q
   have V:(w.setCells g n (fr m fun j=>f (n+j)).toList).heap.size=w.heap.size:=by rw[setCells_setBlk _ _ _ _ B,size_setBlk]
   refine⟨g,cap,_,I,H,⟨by rw[V];exact hR.lt,hroom,fun k q=>?_,fun k q=>⟨?_,?_⟩⟩,fun W S aa=>?_⟩
   ·by_cases c1:k<n
    ·rw[C k (Or.inl c1)];exact hR.cell k c1
    ·exact K k (by omega) q
   ·by_cases c1:k<n∨n+m≤k
    ·rw[C k c1];exact(hR.room k q).1
    ·rw[K k (by omega) (by omega)];rfl
   ·rw[World.frozen?_setCells];exact(hR.room k q).2
   ·rw[setCells_setBlk _ _ _ _ B];exact gr_setNew S (by omega)
  ·refine l (some ⟨g,0,none⟩) cap (fr n f).toList rfl ?_ (by omega);rw[hs];refine run_firstCells_some w.drew 1 n ⟨g,0,none⟩ n cap _ (by rw[Array.length_toList,fr_size,Nat.mul_one]) fun j u A=>?_
   have e:(⟨g,0,none⟩:Addr).add j=⟨g,j,none⟩:=by rw[Addr.add_lit,Nat.zero_add]
   rw[Array.getElem?_toList]at A
   have L:j<n:=by
    have:=(Array.getElem?_eq_some_iff.1 A).1
    rwa [fr_size]at this
   rw[e,←A,fr_get n f j L];exact hR.cell j L
theorem apx_run{P:Program}{t e:TypeId}{i:TypeInfo}{z:Value}{by':Nat}(ht:P.underlying t=some (.slice e))(hi:P.info? e=some i)(hz:i.zero=some z)(hzc:z.cells.size=1)(hs:i.size=1)(hby:i.bytes=by')(w:World)(lo b n m c:Nat)(v:Value)(f:Nat→Value)(h1:∀k,(f k).oneCell'=true)(h:Rvx w lo v n f)(hb:∀j,j<m→w.cell? ⟨b,j,none⟩=some (f (n+j)))(hm:0<m)(hbd:(n+m)*by'≤140737488355328)(hbn:n+m≤9223372036854775807)(hlo:lo≤w.heap.size):
 ∃g cap w',(∀ty,(Builtin.append_ #[t,t] ty #[v,.slice (some ⟨b,0,none⟩) m c]).run P w=.ok (.slice (some ⟨g,0,none⟩) (n+m) cap) w')∧lo≤g∧Rx w' g (n+m) cap f∧∀W,Gr W w→W.heap.size≤lo→Gr W w':=
 aps_run ht hi hz hzc hs hby w lo n m _ v f h (by rw[hs];exact srcx ht b 0 m c _ (fun _=>h1 _) fun j d=>by rw[Nat.zero_add];exact hb j d) (Or.inl hm) hbd hbn hlo
end
end Go.Proofs.Ytffhepbppiocbaa