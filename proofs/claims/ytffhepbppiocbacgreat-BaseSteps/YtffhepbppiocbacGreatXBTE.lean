import Derived.Deep.AppendSrc
import Derived.Test.YtffhepbppiocbacGreatXBTB
namespace Go.Proofs.YtffhepbppiocbacGreat
open Go.RowKit Go.Proofs.Tryz
set_option maxRecDepth 100000
set_option maxHeartbeats 8000000
section
theorem Ev.cells{w:World}{ad:Addr}{xs:List (Int×Int)}(h:Ev w (some ad) xs):∀j u,(evc xs)[j]? = some u→w.cell? (ad.add j)=some u:=fun j u d=>by
 have G:j<xs.length*2:=by rw[←evc_length];exact(List.getElem?_eq_some_iff.1 d).1
 rcases h with rfl|⟨b,o,e,hb,hc⟩
 ·simp[evc]at d
 ·cases e
  have B:∀j,(⟨b,o,none⟩:Addr).add j=⟨b,o+j,none⟩:=fun j=>by unfold Addr.add;split <;> simp_all
  rw[B]
  have C:j/2<xs.length:=by omega
  obtain⟨⟨k,a⟩,A⟩:∃x,xs[j/2]? = some x:=⟨_,List.getElem?_eq_getElem C⟩;have f:=evc_at xs (j/2) k a A;have i:=hc (j/2) k a A
  rcases Nat.mod_two_eq_zero_or_one j with hm|hm
  ·have q:j/2*2=j:=by omega
   rw[q]at f i;rw[f.1]at d
   cases d
   exact i.1
  ·have q:j/2*2+1=j:=by omega
   have D:o+j/2*2+1=o+j:=by omega
   rw[q]at f;rw[D]at i;rw[f.2]at d
   cases d
   exact i.2
theorem Ev.of_none{w:World}{xs:List (Int×Int)}(h:Ev w none xs):xs=[]:=by
 rcases h with h|⟨b,o,e,_⟩
 ·exact h
 ·cases e
structure Cp(w w':World)(v:Value)(xs:List (Int×Int)):Prop where
 row:w'.ownsRow w.heap.size 67 2 v xs.length (evc xs)
 kp:Kp (fun _=>False) w w'
theorem kp_new{w W w1:World}{b:Nat}(hk:Kp (fun _=>False) w W)(hg:W.grownBy w1 (some b))(hb:w.heap.size≤b):Kp (fun _=>False) w w1:=
 ((hk.mono fun _ _ h=>h.elim).trans ((Kp.grown hg).mono (T:=fun k=>k=b) fun k _ h=>by cases h;rfl)).mono fun k hk h=>by omega
theorem owns_empty(w:World)(B:Nat)(hB:B=w.heap.size):(w.alloc (.cells #[] 67)).ownsRow w.heap.size 67 2 (.slice (some ⟨B,0,none⟩) 0 0) 0 []:=by
 subst hB;exact World.ownsRow_made w #[] 0 (Nat.le_refl _) (Nat.zero_le _) rfl
theorem clone_any(w:World)(p:Option Addr)(xs:List (Int×Int))(c:Nat)(h:Ev w p xs)(hn:xs.length*16≤140737488355328)(hz:p=none→c=0):
 Calls prog 68 #[.slice p xs.length c] w fun e w'=>∃v,e=.returned v∧Cp w w' v xs:=by
 obtain⟨I,j,x,A,B⟩:=info_parts Tryz.infoEv;have q:=fun w=>Lib.run_eql_slice_nil w 64 67 p xs.length c 0 0 underlying64
 cases p with
 | none=>
  have e:=h.of_none;subst e;have:=hz rfl;subst this;simp only[List.length_nil,Option.isNone]at q ⊢
  go_enter func68,ntmps68
  go_wp2
  go_ret
  exact⟨_,rfl,⟨World.ownsRow_nil _ _ _ _,Kp.refl _ _⟩⟩
 | some ad=>
  have D:0+xs.length≤maxLen:=by unfold maxLen;omega
  have J:Hid (Ev (w.alloc (.cells #[] 67)) (some ad) xs):=h.kept (Kp.gr ((Gr.refl w).alloc _) (fun _=>False)) fun _ _ h=>h;have K:=J.out.cells;have G:Hid _:=evc_length xs;obtain⟨n,f⟩:=exl (xs.length);rw[f]at D hn q G ⊢;have L:Hid _:=f;have C:Hid _:=K
  go_enter func68,ntmps68
  go_wp2_with
   (at_builtin;refine wpList_append_own_at _ rfl (.tmp 5) (.tmp 6) 64 rfl w.heap.size 67 I _ 2 16 underlying64 j x A B rfl (by omega) _ 0 [] rfl (owns_empty w _ rfl) ad n c (evc xs) rfl G.out C.out (evc_one xs) D (by omega) (by simp) ?_;intro Q S i d H P)
  go_ret
  refine⟨_,rfl,⟨?_,?_⟩⟩
  ·rw[L.out];simpa using i
  ·exact kp_new ((Kp.refl _ _).alloc _) d (Nat.le_refl _)
theorem owns_parts{w:World}{base:Nat}{e:TypeId}{s:Nat}{v:Value}{n:Nat}{xs:List Value}(h:w.ownsRow base e s v n xs):∃p c,v=.slice p n c∧n≤c∧c≤maxLen∧(p=none→c=0):=by
 rcases h.2 with ⟨rfl,h0⟩|⟨g,cap,cur,rfl,hb,hg,h1,h2,_⟩
 ·grind
 grind
theorem Events_tr(w:World)(t:Nat)(v:Value)(xs:List (Int×Int))(h:Tr w t v xs)(hn:xs.length≤1000000):
 Calls prog 37 #[.pointer (some ⟨t,0,none⟩)] w fun e w'=>∃v,e=.returned v∧Cp w w' v xs:=by
 obtain⟨p,c,rfl,q,x,f⟩:=owns_parts h.row;have i:=h.cell0;have H:Hu (Calls prog 68 #[.slice p xs.length c] w fun e w'=>∃v,e=.returned v∧Cp w w' v xs):=fun _=>clone_any w p xs c (Ev.of_owns h.row) (by omega) f;obtain⟨n,d⟩:=exl (xs.length);rw[d]at i H
 go_enter func37,ntmps37
 go_wp2_with (go_at_call 68;refine(H.out ()).mono ?_;rintro e w' ⟨v,rfl,j⟩)
 go_ret
 exact⟨v,rfl,j⟩
theorem Len_tr(w:World)(t:Nat)(v:Value)(xs:List (Int×Int))(h:Tr w t v xs):
 Calls prog 28 #[.pointer (some ⟨t,0,none⟩)] w fun e w'=>e=.returned (.int .i64 (xs.length:Int))∧w=w':=by
 obtain⟨p,c,rfl,i,j,q⟩:=owns_parts h.row;have f:=h.cell0;obtain⟨n,d⟩:=exl (xs.length);rw[d]at f ⊢
 go_enter func28,ntmps28
 go_wp2
 go_ret
 exact⟨rfl,rfl⟩
end
end Go.Proofs.YtffhepbppiocbacGreat