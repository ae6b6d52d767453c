import Derived.WalkSpells
import Derived.WalkLawsBesides
import Derived.StillTactics
import Derived.Deep.RegionHeld3
import Derived.BigRegion
import Derived.Test.YtpogpconfonljaaGreatXAEv
namespace Go.Proofs.YtpogpconfonljaaGreat
open Go.RowKit
set_option maxRecDepth 100000
set_option maxHeartbeats 8000000
section
theorem drop_cons {α:Type} (xs:List α) (i:Nat) (h:i<xs.length):xs.drop i=xs[i] :: xs.drop (i+1):=List.drop_eq_getElem_cons h
theorem sameev_any (w:World) (p q:Option Addr) (xs ys:List (Int×Int)) (n m:Nat) (hp:Ev w p xs) (hq:Ev w q ys) (hx:xs.length≤4611686018427387904) (hy:ys.length≤4611686018427387904):
 Calls Tryz.prog 22 #[.slice p xs.length n,.slice q ys.length m] w fun e w'=>e=.returned (.bool (decide (xs=ys)))∧∃ k,w'=w.drewN k:=by
 by_cases hl:xs.length=ys.length
 ·obtain ⟨L,hL⟩:=exl (ys.length)
  rw [hL] at hl
  rw [hl,hL]
  have hL0:(L:Int)≤4611686018427387904:=by omega
  have HD:Hid (xs.length=L∧ys.length=L):=⟨hl,hL⟩
  have HP:Hid _:=hp
  have HQ:Hid _:=hq
  clear hp hq hl hL hx hy
  go_enter Tryz.func22,Tryz.ntmps22
  go_wp2
  go_loopw [5] (fun i wr=>∃ k j:Nat,k≤L∧i=.int .i64 (k:Int)∧wr=w.drewN j∧Hid (decide (xs=ys)=decide (xs.drop k=ys.drop k))) (fun i _=>L-(intOf i).toNat)
  case atStart=>exact ⟨0,0,by omega,rfl,rfl,rfl⟩
  case round=>
   obtain ⟨k,j,hk,rfl,rfl,HE⟩:=hrel
   by_cases hlt:k<L
   ·obtain ⟨hx,hy⟩:=HD.out
    have hx1:k<xs.length:=by omega
    have hy1:k<ys.length:=by omega
    obtain ⟨⟨a1,a2⟩,ha⟩:∃ a,xs[k]=a:=⟨_,rfl⟩
    obtain ⟨⟨b1,b2⟩,hb⟩:∃ a,ys[k]=a:=⟨_,rfl⟩
    have ha':xs[k]? = some (a1,a2):=by rw [List.getElem?_eq_getElem hx1,ha]
    have hb':ys[k]? = some (b1,b2):=by rw [List.getElem?_eq_getElem hy1,hb]
    obtain ⟨b,o,rfl,hb0,hc⟩:∃ b o,p=some ⟨b,o,none⟩∧b<w.heap.size∧∀ i k a,xs[i]? = some (k,a)→w.cell? ⟨b,o+i*2,none⟩=some (.int .i64 k)∧w.cell? ⟨b,o+i*2+1,none⟩=some (.int .i64 a):=by
     rcases HP.out with h | h
     ·rw [h] at hx1; simp at hx1
     ·exact h
    obtain ⟨b',o',rfl,hb0',hc'⟩:∃ b o,q=some ⟨b,o,none⟩∧b<w.heap.size∧∀ i k a,ys[i]? = some (k,a)→w.cell? ⟨b,o+i*2,none⟩=some (.int .i64 k)∧w.cell? ⟨b,o+i*2+1,none⟩=some (.int .i64 a):=by
     rcases HQ.out with h | h
     ·rw [h] at hy1; simp at hy1
     ·exact h
    have c1:=(hc k a1 a2 ha').1
    have c2:=(hc k a1 a2 ha').2
    have d1:=(hc' k b1 b2 hb').1
    have d2:=(hc' k b1 b2 hb').2
    have k0:(0:Int)≤(k:Int):=by omega
    have k1:(k:Int)<(L:Int):=by omega
    have HS:Hid (decide (xs.drop k=ys.drop k)=(decide ((a1,a2)=(b1,b2))&&decide (xs.drop (k+1)=ys.drop (k+1)))):=by
     show decide (xs.drop k=ys.drop k)=_
     rw [drop_cons xs k hx1,drop_cons ys k hy1,ha,hb]
     by_cases h1:(a1,a2)=(b1,b2) <;> simp [h1]
    clear hc hc' ha hb ha' hb' hx hy hx1 hy1
    by_cases hab:a1=b1∧a2=b2
    ·obtain ⟨rfl,rfl⟩:=hab
     go_wp2
     go_big_region
     go_wp2
     go_roundw
     case rel=>exact ⟨k+1,j+1,by omega,by go_num,rfl,show _=_ from by rw [HE.out,HS.out]; simp⟩
     case measure=>simp [intOf]; omega
    ·have HN:Hid (decide ((a1,a2)=(b1,b2))=false):=by
      show decide _=false
      simpa using hab
     by_cases h1:a1=b1
     ·subst h1
      have h2:(a2 == b2)=false:=by simpa using hab
      clear hab
      go_wp2
      go_big_region
      go_wp2
      go_ret
      exact ⟨by rw [HE.out,HS.out,HN.out]; rfl,j+1,rfl⟩
     ·have h1':(a1 == b1)=false:=by simpa using h1
      clear hab h1
      go_wp2
      go_big_region
      go_wp2
      go_ret
      exact ⟨by rw [HE.out,HS.out,HN.out]; rfl,j+1,rfl⟩
   ·have ki:¬ (k:Int)<(L:Int):=by omega
    have HZ:Hid (decide (xs.drop k=ys.drop k)=true):=by
     show decide _=true
     rw [List.drop_eq_nil_of_le (by have:=HD.out; omega),List.drop_eq_nil_of_le (by have:=HD.out; omega)]
     rfl
    clear hlt hk
    go_wp2
    go_ret
    exact ⟨by rw [HE.out,HZ.out]; rfl,j,rfl⟩
 ·have hn:¬ (xs.length:Int)=(ys.length:Int):=by omega
  have HN:Hid (decide (xs=ys)=false):=by
   show decide _=false
   rw [decide_eq_false]
   rintro rfl
   exact hl rfl
  obtain ⟨X,hX⟩:=exl (xs.length)
  obtain ⟨Y,hY⟩:=exl (ys.length)
  rw [hX,hY] at hn
  rw [hX,hY]
  have hn':((X:Int) == (Y:Int))=false:=by simpa using hn
  clear hl hp hq hx hy hX hY hn
  go_enter Tryz.func22,Tryz.ntmps22
  go_wp2
  go_ret
  exact ⟨by rw [HN.out]; rfl,0,rfl⟩
end
end Go.Proofs.YtpogpconfonljaaGreat