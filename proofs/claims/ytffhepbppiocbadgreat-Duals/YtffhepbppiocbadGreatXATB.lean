import Derived.OwnWalk
import Derived.Deep.RegionLaw
import Derived.Laws.Pointers
import Derived.Deep.DrawnRows
import Derived.WalkSpells
import Derived.WalkLawsBesides
import Derived.StillTactics
import Derived.Deep.RegionHeld3
import Derived.BigRegion
import Derived.Test.YtffhepbppiocbadGreatXAEv
namespace Go.Proofs.YtffhepbppiocbadGreat
open Go.RowKit Go.Proofs.Tryz
set_option maxRecDepth 100000
set_option maxHeartbeats 8000000
section
theorem Tryz.infoEv:(prog.info? 207).map (fun i=>(i.zero,i.size,i.bytes))=some (some (.agg #[.int .i64 0,.int .i64 0]),2,16):=by kernel_rfl
theorem new_any(w:World):Calls prog 20 #[] w fun e w'=>e=.returned (.pointer (some ⟨w.heap.size,0,none⟩))∧w.alloc (.cells #[.slice none 0 0] 88)=w':=by
 go_enter func20,ntmps20
 go_wp2
 go_ret
 exact⟨rfl,rfl⟩
theorem laid2(w:World)(o p:Obj):((w.alloc o).alloc p).drew.heap[w.heap.size+1]? = some p:=by
 have h:=heap_alloc_new (w.alloc o) p
 have e:(w.alloc o).heap.size=w.heap.size+1:=by simp
 rw[e]at h;exact h
theorem laid1(w:World)(o p:Obj):((w.alloc o).alloc p).drew.heap[w.heap.size]? = some o:=by
 have d:=Below.heap_alloc (w.alloc o) p w.heap.size (by simp);exact d.trans (heap_alloc_new w o)
structure Rec(w w':World)(t:Nat)(v v':Value)(xs:List (Int×Int)):Prop where
 tr:Tr w' t v' xs
 kp:Kp (Own t v) w w'
 at':v'.ownBlock=v.ownBlock∨∃g,v'.ownBlock=some g∧w.heap.size≤g
theorem setCell_at(w:World)(t:Nat)(c:Array Value)(ty:TypeId)(f:Nat×Nat)(o:Nat)(v:Value)(h:w.heap[t]? = some (.cells c ty f)):(w.setCell ⟨t,o,none⟩ v).heap[t]? = some (.cells (c.setIfInBounds o v) ty f):=by
 simp[World.setCell,Array.getElem?_modify,h]
theorem rec_add{w W w1:World}{t n g cap:Nat}{v:Value}{xs:List (Int×Int)}{k a:Int}(h:Tr w t v xs)(hl:xs.length=n)(hk:Kp (fun _=>False) w W)(hs:W.heap.size=w.heap.size+2)(ho:w1.ownsRow (t+1) 207 2 (.slice (some ⟨g,0,none⟩) (n+1) cap) (n+1) (evc xs++[.int .i64 k,.int .i64 a]))(hg:W.grownBy w1 v.ownBlock)(hat:v.ownBlock=some g∨g=w.heap.size+2):
 Rec w (w1.setCell ⟨t,0,none⟩ (.slice (some ⟨g,0,none⟩) (n+1) cap)) t v (.slice (some ⟨g,0,none⟩) (n+1) cap) (xs++[(k,a)]):=by
 have d:Kp (Own t v) w w1:=(hk.mono fun _ _ h=>h.elim).trans ((Kp.grown hg).mono fun b _ f=>Or.inr f)
 have i:v.ownBlock≠some t:=fun e=>by have:=h.row.lt t e;omega
 have j:w1.heap[t]? = some (.cells #[v] 88 (0,0)):=by
  rw[hg.block t (by have:=h.lt;omega) (fun e=>i e.symm),hk.block t h.lt (fun h=>h)];exact h.cell
 refine⟨⟨setCell_at w1 t _ _ _ 0 _ j,?_⟩,d.setCell _ _ (Or.inl rfl),?_⟩
 ·have e:(xs++[(k,a)]).length=n+1:=by simp[hl]
  rw[e,evc_append];exact ownsRow_setCell_below ho (by show t<t+1;omega) _
 ·rcases hat with e|e
  ·exact Or.inl (by rw[e];rfl)
  ·exact Or.inr ⟨g,rfl,by omega⟩
attribute [local go_sem ↓] Go.wp_at_zero Go.wp_at_succ
theorem add_tr(w:World)(t:Nat)(v:Value)(xs:List (Int×Int))(k a:Int)(h:Tr w t v xs)(hn:xs.length≤1000000):
 Calls prog 147 #[.pointer (some ⟨t,0,none⟩),.agg #[.int .i64 k,.int .i64 a]] w fun e w'=>e=.returned (.int .i64 0)∧∃v',Rec w w' t v v' (xs++[(k,a)]):=by
 obtain⟨U,G,H,I,J⟩:=info_parts Tryz.infoEv;have V:=h.cell0;have W:=h.frozen0;have L:=h.lt;have P:Hid _:=h.row
 have Q:v.ownBlock≠some t:=fun e=>by have:=h.row.lt t e;omega
 have A:v.ownBlock≠some w.heap.size:=fun e=>by have:=h.row.lt _ e;omega
 have S:xs.length+1≤maxLen:=by unfold maxLen;omega
 have X:Hid _:=h;obtain⟨n,i⟩:=exl (xs.length);rw[i]at P S hn;have Y:Hid _:=i;clear h i;obtain⟨j,f⟩:=exl (((w.alloc (.cells #[.int .i64 k,.int .i64 a] 207)).alloc (.cells #[.int .i64 k,.int .i64 a] 207)).drew)
 have B:Kp (fun _=>False) w j:=by rw[←f];exact(((Kp.refl _ _).alloc _).alloc _).drew
 have q:Hid (j.heap.size=w.heap.size+2):=by show j.heap.size=_;rw[←f];simp
 have Z:Hid (j.heap[w.heap.size+1]? = some (.cells #[.int .i64 k,.int .i64 a] 207 (0,0))):=by show j.heap[w.heap.size+1]? = _;rw[←f];exact laid2 w _ _
 have C:Hid (j.heap[w.heap.size]? = some (.cells #[.int .i64 k,.int .i64 a] 207 (0,0))):=by show j.heap[w.heap.size]? = _;rw[←f];exact laid1 w _ _
 have HC:Hid _:=(B.cell t 0 L (fun h=>h)).trans V;have HF:Hid _:=(B.frozen t 0 L (fun h=>h)).trans W;have HR:Hid _:=owns_kept P.out B fun _ _ h=>h;have HW:Hu (_):=fun _=>f;have HK:Hid _:=B;clear f B
 go_enter func147,ntmps147
 go_wp2_with fail
 go_region_law
  ((rw[HW.out ()];refine step_append_lies _ (by rfl) _ _ _ (by rfl) (t+1) 207 U _ 2 16 underlying86 G H I J rfl (by omega) v n (evc xs) (by rfl) HR.out ⟨w.heap.size+1,0,none⟩ 1 1 [.int .i64 k,.int .i64 a] (by rfl) (by rfl) (World.news_of_block Z.out) (by simp[Value.oneCell']) (by omega) S (by omega) (by rw[q.out];omega) (w.heap.size+2) q.out ?_;intro g aa D x d K ab;have q1:D.cell? ⟨t,0,none⟩=some v:=(d.cell_far _ (by rw[q.out];show t<_;omega) (Ne.symm Q)).trans HC.out;have q2:D.frozen? ⟨t,0,none⟩=false:=(d.frozen_far _ (by rw[q.out];show t<_;omega) (Ne.symm Q)).trans HF.out;have q3:D.cell? ⟨w.heap.size,0,none⟩=some (.int .i64 k):=(d.cell_far _ (by rw[q.out];show w.heap.size<_;omega) (Ne.symm A)).trans (by rw[cell_of_row _ _ _ _ _ _ C.out];rfl);have q4:D.cell? ⟨w.heap.size,1,none⟩=some (.int .i64 a):=(d.cell_far _ (by rw[q.out];show w.heap.size<_;omega) (Ne.symm A)).trans (by rw[cell_of_row _ _ _ _ _ _ C.out];rfl)))
 all_goals
  go_wp2
  go_ret
  exact⟨rfl,_,rec_add X.out Y.out HK.out q.out x d K⟩
theorem add_nil(w:World)(k a:Int):Cg 147 #[.pointer none,.agg #[.int .i64 k,.int .i64 a]] w (.int .i64 1):=by
 go_enter func147,ntmps147
 go_wp2
 go_ret
 exact⟨rfl,grA⟩
end
section
theorem Rec.pre{u w w':World}{t:Nat}{v v':Value}{xs:List (Int×Int)}(g:Gr u w)(h:Rec w w' t v v' xs):Rec u w' t v v' xs:=by
 refine⟨h.tr,(Kp.gr g (Own t v)).trans h.kp,?_⟩;have:=(Kp.gr g (Own t v)).size
 rcases h.at' with e|⟨b,e,hb⟩
 ·exact Or.inl e
 ·exact Or.inr ⟨b,e,by omega⟩
theorem index_tr(w:World)(t:Nat)(v:Value)(xs:List (Int×Int))(i:Int)(h:Tr w t v xs)(hn:xs.length≤1000000):
 Calls prog 146 #[.func (.func 147) #[.pointer (some ⟨t,0,none⟩)] #[],.int .i64 i] w fun e w'=>e=.returned (.int .i64 0)∧∃v',Rec w w' t v v' (xs++[(2,i)]):=by
 have H:Hu (_):=fun _=>add_tr w t v xs 2 i h hn
 go_enter func146,ntmps146
 go_wp2_with (go_at_call 147;refine(H.out ()).mono ?_;rintro e w' ⟨rfl,v',d⟩)
 go_ret
 exact⟨rfl,v',d⟩
theorem index_nil(w:World)(i:Int):
 Cg 146 #[.func (.func 147) #[.pointer none] #[],.int .i64 i] w (.int .i64 1):=by
 go_enter func146,ntmps146
 go_wp2_with (go_at_call 147;refine(add_nil _ _ _).mono ?_;rintro e d ⟨rfl,g,rfl⟩)
 go_ret
 exact⟨rfl,grA⟩
theorem Index_tr(w:World)(t:Nat)(v:Value)(xs:List (Int×Int))(i:Int)(h:Tr w t v xs)(hn:xs.length≤1000000):
 Calls prog 110 #[.pointer (some ⟨t,0,none⟩),.int .i64 i] w fun e w'=>e=.returned (.int .i64 0)∧∃v',Rec w w' t v v' (xs++[(2,i)]):=by
 have H:Hu (_):=fun _=>index_tr w t v xs i h hn
 go_enter func110,ntmps110
 go_wp2_with (go_at_call 146;refine(H.out ()).mono ?_;rintro e w' ⟨rfl,v',d⟩)
 go_ret
 exact⟨rfl,v',d⟩
theorem Index_nil(w:World)(i:Int):
 Cg 110 #[.pointer none,.int .i64 i] w (.int .i64 1):=by
 go_enter func110,ntmps110
 go_wp2_with (go_at_call 146;refine(index_nil _ _).mono ?_;rintro e d ⟨rfl,g,rfl⟩)
 go_ret
 exact⟨rfl,grA⟩
end
end Go.Proofs.YtffhepbppiocbadGreat