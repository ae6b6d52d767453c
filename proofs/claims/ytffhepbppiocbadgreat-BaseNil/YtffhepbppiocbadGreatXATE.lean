import Derived.Deep.AppendSrc
import Derived.Test.YtffhepbppiocbadGreatXATB
namespace Go.Proofs.YtffhepbppiocbadGreat
open Go.RowKit Go.Proofs.Tryz
set_option maxRecDepth 100000
set_option maxHeartbeats 8000000
section
theorem Ev.cells{w:World}{ad:Addr}{xs:List (Int×Int)}(h:Ev w (some ad) xs):∀j u,(evc xs)[j]? = some u→w.cell? (ad.add j)=some u:=fun j u d=>by
 have G:j<xs.length*2:=by rw[←evc_length];exact(List.getElem?_eq_some_iff.1 d).1
 rcases h with rfl|⟨b,o,e,hb,hc⟩
 ·simp[evc]at d
 ·cases e
  have B:∀j,(⟨b,o,none⟩:Addr).add j=⟨b,o+j,none⟩:=fun j=>by unfold Addr.add;split <;> simp_all
  rw[B]
  have C:j/2<xs.length:=by omega
  obtain⟨⟨k,a⟩,A⟩:∃x,xs[j/2]? = some x:=⟨_,List.getElem?_eq_getElem C⟩;have f:=evc_at xs (j/2) k a A;have i:=hc (j/2) k a A
  rcases Nat.mod_two_eq_zero_or_one j with hm|hm
  ·have q:j/2*2=j:=by omega
   rw[q]at f i;rw[f.1]at d
   cases d
   exact i.1
  ·have q:j/2*2+1=j:=by omega
   have D:o+j/2*2+1=o+j:=by omega
   rw[q]at f;rw[D]at i;rw[f.2]at d
   cases d
   exact i.2
structure Cp(w w':World)(v:Value)(xs:List (Int×Int)):Prop where
 row:w'.ownsRow w.heap.size 207 2 v xs.length (evc xs)
 kp:Kp (fun _=>False) w w'
theorem owns_parts{w:World}{base:Nat}{e:TypeId}{s:Nat}{v:Value}{n:Nat}{xs:List Value}(h:w.ownsRow base e s v n xs):∃p c,v=.slice p n c∧n≤c∧c≤maxLen∧(p=none→c=0):=by
 rcases h.2 with ⟨rfl,h0⟩|⟨g,cap,cur,rfl,hb,hg,h1,h2,_⟩
 ·grind
 grind
theorem Len_tr(w:World)(t:Nat)(v:Value)(xs:List (Int×Int))(h:Tr w t v xs):
 Calls prog 21 #[.pointer (some ⟨t,0,none⟩)] w fun e w'=>e=.returned (.int .i64 (xs.length:Int))∧w=w':=by
 obtain⟨p,c,rfl,i,j,q⟩:=owns_parts h.row;have f:=h.cell0;obtain⟨n,d⟩:=exl (xs.length);rw[d]at f ⊢
 go_enter func21,ntmps21
 go_wp2
 go_ret
 exact⟨rfl,rfl⟩
end
end Go.Proofs.YtffhepbppiocbadGreat