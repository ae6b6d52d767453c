import Derived.WalkSpells
import Derived.WalkLawsBesides
import Derived.StillTactics
import Derived.Deep.RegionHeld3
import Derived.BigRegion
import Derived.Test.YtffhepbppiocbacGreatXMEv
namespace Go.Proofs.YtffhepbppiocbacGreat
open Go.RowKit Go.Proofs.Tryz
set_option maxRecDepth 100000
set_option maxHeartbeats 8000000
section
theorem drop_cons{α:Type}(xs:List α)(i:Nat)(h:i<xs.length):xs.drop i=xs[i] :: xs.drop (i+1):=List.drop_eq_getElem_cons h
theorem sameev_any(w:World)(p q:Option Addr)(xs ys:List (Int×Int))(n m:Nat)(hp:Ev w p xs)(hq:Ev w q ys)(hx:xs.length≤4611686018427387904)(hy:ys.length≤4611686018427387904):
 Calls prog 39 #[.slice p xs.length n,.slice q ys.length m] w fun e w'=>e=.returned (.bool (decide (xs=ys)))∧∃k,w'=w.drewN k:=by
 by_cases hl:xs.length=ys.length
 ·obtain⟨L,I⟩:=exl (ys.length);rw[I]at hl;rw[hl,I]
  have aa:(L:Int)≤4611686018427387904:=by omega
  have P:Hid (xs.length=L∧ys.length=L):=⟨hl,I⟩;have HP:Hid _:=hp;have HQ:Hid _:=hq;clear hp hq hl I hx hy
  go_enter func39,ntmps39
  go_wp2
  go_loopw [5] (fun i wr=>∃k j:Nat,k≤L∧i=.int .i64 k∧wr=w.drewN j∧Hid (decide (xs=ys)=decide (xs.drop k=ys.drop k))) (fun i _=>L-(intOf i).toNat)
  case atStart=>exact⟨0,0,by omega,rfl,rfl,rfl⟩
  case round=>
   obtain⟨k,j,hk,rfl,rfl,J⟩:=hrel
   by_cases hlt:k<L
   ·obtain⟨hx,hy⟩:=P.out
    have d:k<xs.length:=by omega
    have f:k<ys.length:=by omega
    obtain⟨⟨x,B⟩,S⟩:∃a,xs[k]=a:=⟨_,rfl⟩;obtain⟨⟨A,C⟩,U⟩:∃a,ys[k]=a:=⟨_,rfl⟩
    have D:xs[k]? = some (x,B):=by rw[List.getElem?_eq_getElem d,S]
    have G:ys[k]? = some (A,C):=by rw[List.getElem?_eq_getElem f,U]
    obtain⟨b,o,rfl,ab,V⟩:∃b o,p=some ⟨b,o,none⟩∧b<w.heap.size∧∀i k a,xs[i]? = some (k,a)→w.cell? ⟨b,o+i*2,none⟩=some (.int .i64 k)∧w.cell? ⟨b,o+i*2+1,none⟩=some (.int .i64 a):=by
     rcases HP.out with h|h
     ·rw[h]at d;simp at d
     ·exact h
    obtain⟨b',o',rfl,W,H⟩:∃b o,q=some ⟨b,o,none⟩∧b<w.heap.size∧∀i k a,ys[i]? = some (k,a)→w.cell? ⟨b,o+i*2,none⟩=some (.int .i64 k)∧w.cell? ⟨b,o+i*2+1,none⟩=some (.int .i64 a):=by
     rcases HQ.out with h|h
     ·rw[h]at f;simp at f
     ·exact h
    have c1:=(V k x B D).1;have c2:=(V k x B D).2;have d1:=(H k A C G).1;have d2:=(H k A C G).2
    have k0:(0:Int)≤k:=by omega
    have k1:(k:Int)<L:=by omega
    have Q:Hid (decide (xs.drop k=ys.drop k)=(decide ((x,B)=(A,C))&&decide (xs.drop (k+1)=ys.drop (k+1)))):=by
     show decide (xs.drop k=ys.drop k)=_
     rw[drop_cons xs k d,drop_cons ys k f,S,U]
     by_cases h1:(x,B)=(A,C) <;> simp[h1]
    by_cases hab:x=A∧B=C
    ·obtain⟨rfl,rfl⟩:=hab
     go_wp2
     go_big_region
     go_wp2
     go_roundw
     case rel=>exact⟨k+1,j+1,by omega,by go_num,rfl,show _=_ from by rw[J.out,Q.out];simp⟩
     case measure=>simp[intOf];omega
    ·have K:Hid (decide ((x,B)=(A,C))=false):=by
      show decide _=false
      simpa using hab
     by_cases h1:x=A
     ·subst h1
      have h2:(B==C)=false:=by simpa using hab
      go_wp2
      go_big_region
      go_wp2
      go_ret
      exact⟨by rw[J.out,Q.out,K.out];rfl,j+1,rfl⟩
     ·have ac:(x==A)=false:=by simpa using h1
      go_wp2
      go_big_region
      go_wp2
      go_ret
      exact⟨by rw[J.out,Q.out,K.out];rfl,j+1,rfl⟩
   ·have ki:¬(k:Int)<L:=by omega
    have HZ:Hid (decide (xs.drop k=ys.drop k)=true):=by
     rw[List.drop_eq_nil_of_le (by have:=P.out;omega),List.drop_eq_nil_of_le (by have:=P.out;omega)]
     rfl
    go_wp2
    go_ret
    exact⟨by rw[J.out,HZ.out];rfl,j,rfl⟩
 ·have hn:¬(xs.length:Int)=(ys.length:Int):=by omega
  have K:Hid (decide (xs=ys)=false):=by
   show decide _=false
   rw[decide_eq_false];rintro rfl;exact hl rfl
  obtain⟨X,Z⟩:=exl (xs.length);obtain⟨Y,hY⟩:=exl (ys.length);rw[Z,hY]at hn;rw[Z,hY]
  go_enter func39,ntmps39
  go_wp2
  go_ret
  exact⟨by rw[K.out];rfl,0,rfl⟩
end
end Go.Proofs.YtffhepbppiocbacGreat