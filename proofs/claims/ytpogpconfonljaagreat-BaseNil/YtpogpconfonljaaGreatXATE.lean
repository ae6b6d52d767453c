import Derived.Deep.AppendSrc
import Derived.Test.YtpogpconfonljaaGreatXATB
namespace Go.Proofs.YtpogpconfonljaaGreat
open Go.RowKit
set_option maxRecDepth 100000
set_option maxHeartbeats 8000000
section
theorem Ev.cells {w:World} {ad:Addr} {xs:List (Int×Int)} (h:Ev w (some ad) xs):∀ j u,(evc xs)[j]? = some u→w.cell? (ad.add j)=some u:=fun j u hu=>by
 have hj:j<xs.length*2:=by rw [← evc_length]; exact (List.getElem?_eq_some_iff.1 hu).1
 rcases h with rfl | ⟨b,o,e,hb,hc⟩
 ·simp [evc] at hu
 ·cases e
  have e1:∀ j,(⟨b,o,none⟩:Addr).add j=⟨b,o+j,none⟩:=fun j=>by unfold Addr.add; split <;> simp_all
  rw [e1]
  have hi:j/2<xs.length:=by omega
  obtain ⟨⟨k,a⟩,hx⟩:∃ x,xs[j/2]? = some x:=⟨_,List.getElem?_eq_getElem hi⟩
  have h1:=evc_at xs (j/2) k a hx
  have h2:=hc (j/2) k a hx
  rcases Nat.mod_two_eq_zero_or_one j with hm | hm
  ·have e2:j/2*2=j:=by omega
   rw [e2] at h1 h2
   rw [h1.1] at hu
   cases hu
   exact h2.1
  ·have e2:j/2*2+1=j:=by omega
   have e3:o+j/2*2+1=o+j:=by omega
   rw [e2] at h1
   rw [e3] at h2
   rw [h1.2] at hu
   cases hu
   exact h2.2
theorem Ev.of_none {w:World} {xs:List (Int×Int)} (h:Ev w none xs):xs=[]:=by
 rcases h with h | ⟨b,o,e,_⟩
 ·exact h
 ·cases e
structure Cp (w w':World) (v:Value) (xs:List (Int×Int)):Prop where
 row:w'.ownsRow w.heap.size 86 2 v xs.length (evc xs)
 kp:Kp (fun _=>False) w w'
theorem kp_new {w W w1:World} {b:Nat} (hk:Kp (fun _=>False) w W) (hg:W.grownBy w1 (some b)) (hb:w.heap.size≤b):Kp (fun _=>False) w w1:=
 ((hk.mono fun _ _ h=>h.elim).trans ((Kp.grown hg).mono (T:=fun k=>k=b) fun k _ h=>by cases h; rfl)).mono fun k hk h=>by omega
theorem owns_empty (w:World) (B:Nat) (hB:B=w.heap.size):(w.alloc (.cells #[] 86)).ownsRow w.heap.size 86 2 (.slice (some ⟨B,0,none⟩) 0 0) 0 []:=by
 subst hB
 exact World.ownsRow_made w #[] 0 (Nat.le_refl _) (Nat.zero_le _) rfl
theorem clone_any (w:World) (p:Option Addr) (xs:List (Int×Int)) (c:Nat) (h:Ev w p xs) (hn:xs.length*16≤140737488355328) (hz:p=none→c=0):
 Calls Tryz.prog 42 #[.slice p xs.length c] w fun e w'=>∃ v,e=.returned v∧Cp w w' v xs:=by
 obtain ⟨i0,hi0,hz0,hz1,hz2⟩:=info_parts Tryz.infoEv
 have q:=fun w=>Lib.run_eql_slice_nil (P:=Tryz.prog) w 55 86 p xs.length c 0 0 Tryz.underlying55
 cases p with
 | none=>
  have e:=h.of_none
  subst e
  have:=hz rfl
  subst this
  simp only [List.length_nil,Option.isNone] at q ⊢
  go_enter Tryz.func42,Tryz.ntmps42
  go_wp2
  go_ret
  exact ⟨_,rfl,⟨World.ownsRow_nil _ _ _ _,Kp.refl _ _⟩⟩
 | some ad=>
  have n1:0+xs.length≤maxLen:=by unfold maxLen; omega
  have HE:Hid (Ev (w.alloc (.cells #[] 86)) (some ad) xs):=h.kept (Kp.gr ((Gr.refl w).alloc _) (fun _=>False)) fun _ _ h=>h
  have HC:=HE.out.cells
  have HL:Hid _:=evc_length xs
  obtain ⟨n,hnn⟩:=exl (xs.length)
  rw [hnn] at n1 hn q HL ⊢
  have HN:Hid _:=hnn
  have HCC:Hid _:=HC
  clear h hz hnn HC
  go_enter Tryz.func42,Tryz.ntmps42
  go_wp2_with
   (at_builtin; refine wpList_append_own_at _ rfl (.tmp 5) (.tmp 6) 55 rfl w.heap.size 86 i0 _ 2 16 Tryz.underlying55 hi0 hz0 hz1 hz2 rfl (by omega) _ 0 [] rfl (owns_empty w _ rfl) ad n c (evc xs) rfl HL.out HCC.out (evc_one xs) n1 (by omega) (by simp) ?_; intro v' w1 hown hgrow hnil hat)
  go_ret
  refine ⟨_,rfl,⟨?_,?_⟩⟩
  ·rw [HN.out]; simpa using hown
  ·exact kp_new ((Kp.refl _ _).alloc _) hgrow (Nat.le_refl _)
theorem owns_parts {w:World} {base:Nat} {e:TypeId} {s:Nat} {v:Value} {n:Nat} {xs:List Value} (h:w.ownsRow base e s v n xs):∃ p c,v=.slice p n c∧n≤c∧c≤maxLen∧(p=none→c=0):=by
 rcases h.2 with ⟨rfl,h0⟩ | ⟨g,cap,cur,rfl,hb,hg,h1,h2,_⟩
 ·exact ⟨none,0,by rw [h0],by omega,by decide,fun _=>rfl⟩
 ·exact ⟨_,_,rfl,h1,h2,fun h=>by cases h⟩
theorem Events_tr (w:World) (t:Nat) (v:Value) (xs:List (Int×Int)) (h:Tr w t v xs) (hn:xs.length≤1000000):
 Calls Tryz.prog 23 #[.pointer (some ⟨t,0,none⟩)] w fun e w'=>∃ v,e=.returned v∧Cp w w' v xs:=by
 obtain ⟨p,c,rfl,h1,h2,h3⟩:=owns_parts h.row
 have c0:=h.cell0
 have H:Hid (Unit→Calls Tryz.prog 42 #[.slice p xs.length c] w fun e w'=>∃ v,e=.returned v∧Cp w w' v xs):=fun _=>clone_any w p xs c (Ev.of_owns h.row) (by omega) h3
 obtain ⟨n,hnn⟩:=exl (xs.length)
 rw [hnn] at c0 H
 clear h h1 h2 h3 hnn hn
 go_enter Tryz.func23,Tryz.ntmps23
 go_wp2_with (go_at_call 42; refine (H.out ()).mono ?_; rintro e w' ⟨v,rfl,hc⟩)
 go_ret
 exact ⟨v,rfl,hc⟩
theorem Len_tr (w:World) (t:Nat) (v:Value) (xs:List (Int×Int)) (h:Tr w t v xs):
 Calls Tryz.prog 12 #[.pointer (some ⟨t,0,none⟩)] w fun e w'=>e=.returned (.int .i64 (xs.length:Int))∧w=w':=by
 obtain ⟨p,c,rfl,h1,h2,h3⟩:=owns_parts h.row
 have c0:=h.cell0
 obtain ⟨n,hnn⟩:=exl (xs.length)
 rw [hnn] at c0 ⊢
 clear h h1 h2 h3 hnn
 go_enter Tryz.func12,Tryz.ntmps12
 go_wp2
 go_ret
 exact ⟨rfl,rfl⟩
end
end Go.Proofs.YtpogpconfonljaaGreat