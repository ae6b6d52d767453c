import Derived.OwnWalk
import Derived.Deep.RegionLaw
import Derived.Laws.Pointers
import Derived.Deep.DrawnRows
import Derived.WalkSpells
import Derived.WalkLawsBesides
import Derived.StillTactics
import Derived.Deep.RegionHeld3
import Derived.BigRegion
import Derived.Test.YtghidgcekieljaaGreatXAEv
namespace Go.Proofs.YtghidgcekieljaaGreat
open Go.RowKit Go.Proofs.Tryz
set_option maxRecDepth 100000
set_option maxHeartbeats 8000000
section
theorem Tryz.infoEv:(prog.info? 189).map (fun i=>(i.zero,i.size,i.bytes))=some (some (.agg #[.int .i64 0,.int .i64 0]),2,16):=by kernel_rfl
theorem laid2(w:World)(o p:Obj):((w.alloc o).alloc p).drew.heap[w.heap.size+1]? = some p:=by
 have h:=heap_alloc_new (w.alloc o) p
 have e:(w.alloc o).heap.size=w.heap.size+1:=by simp
 rw[e]at h;exact h
theorem laid1(w:World)(o p:Obj):((w.alloc o).alloc p).drew.heap[w.heap.size]? = some o:=by
 have h1:=Below.heap_alloc (w.alloc o) p w.heap.size (by simp);exact h1.trans (heap_alloc_new w o)
structure Rec(w w':World)(t:Nat)(v v':Value)(xs:List (Int×Int)):Prop where
 tr:Tr w' t v' xs
 kp:Kp (Own t v) w w'
 at':v'.ownBlock=v.ownBlock∨∃g,v'.ownBlock=some g∧w.heap.size≤g
theorem setCell_at(w:World)(t:Nat)(c:Array Value)(ty:TypeId)(f:Nat×Nat)(o:Nat)(v:Value)(h:w.heap[t]? = some (.cells c ty f)):(w.setCell ⟨t,o,none⟩ v).heap[t]? = some (.cells (c.setIfInBounds o v) ty f):=by
 simp[World.setCell,Array.getElem?_modify,h]
theorem rec_add{w W w1:World}{t n g cap:Nat}{v:Value}{xs:List (Int×Int)}{k a:Int}(h:Tr w t v xs)(hl:xs.length=n)(hk:Kp (fun _=>False) w W)(hs:W.heap.size=w.heap.size+2)(ho:w1.ownsRow (t+1) 189 2 (.slice (some ⟨g,0,none⟩) (n+1) cap) (n+1) (evc xs++[.int .i64 k,.int .i64 a]))(hg:W.grownBy w1 v.ownBlock)(hat:v.ownBlock=some g∨g=w.heap.size+2):
 Rec w (w1.setCell ⟨t,0,none⟩ (.slice (some ⟨g,0,none⟩) (n+1) cap)) t v (.slice (some ⟨g,0,none⟩) (n+1) cap) (xs++[(k,a)]):=by
 have k1:Kp (Own t v) w w1:=(hk.mono fun _ _ h=>h.elim).trans ((Kp.grown hg).mono fun b _ hb=>Or.inr hb)
 have ne:v.ownBlock≠some t:=fun e=>by have:=h.row.lt t e;omega
 have c1:w1.heap[t]? = some (.cells #[v] 192 (0,0)):=by
  rw[hg.block t (by have:=h.lt;omega) (fun e=>ne e.symm),hk.block t h.lt (fun h=>h)];exact h.cell
 refine⟨⟨setCell_at w1 t _ _ _ 0 _ c1,?_⟩,k1.setCell _ _ (Or.inl rfl),?_⟩
 ·have e:(xs++[(k,a)]).length=n+1:=by simp[hl]
  rw[e,evc_append];exact ownsRow_setCell_below ho (by show t<t+1;omega) _
 ·rcases hat with e|e
  ·exact Or.inl (by rw[e];rfl)
  ·exact Or.inr ⟨g,rfl,by omega⟩
attribute [local go_sem ↓] Go.wp_at_zero Go.wp_at_succ
theorem add_tr(w:World)(t:Nat)(v:Value)(xs:List (Int×Int))(k a:Int)(h:Tr w t v xs)(hn:xs.length≤1000000):
 Calls prog 138 #[.pointer (some ⟨t,0,none⟩),.agg #[.int .i64 k,.int .i64 a]] w fun e w'=>e=.returned (.int .i64 0)∧∃v',Rec w w' t v v' (xs++[(k,a)]):=by
 obtain⟨i0,hi0,hz0,hz1,hz2⟩:=info_parts Tryz.infoEv;have c0:=h.cell0;have f0:=h.frozen0;have tl:=h.lt;have hr:Hid _:=h.row
 have ho:v.ownBlock≠some t:=fun e=>by have:=h.row.lt t e;omega
 have ho2:v.ownBlock≠some w.heap.size:=fun e=>by have:=h.row.lt _ e;omega
 have n1:xs.length+1≤maxLen:=by unfold maxLen;omega
 have HT:Hid _:=h;obtain⟨n,hnn⟩:=exl (xs.length);rw[hnn]at hr n1 hn;have HL:Hid _:=hnn;clear h hnn;obtain⟨W2,hW2⟩:=exl (((w.alloc (.cells #[.int .i64 k,.int .i64 a] 189)).alloc (.cells #[.int .i64 k,.int .i64 a] 189)).drew)
 have KW:Kp (fun _=>False) w W2:=by rw[←hW2];exact(((Kp.refl _ _).alloc _).alloc _).drew
 have HS:Hid (W2.heap.size=w.heap.size+2):=by show W2.heap.size=_;rw[←hW2];simp
 have HB:Hid (W2.heap[w.heap.size+1]? = some (.cells #[.int .i64 k,.int .i64 a] 189 (0,0))):=by show W2.heap[w.heap.size+1]? = _;rw[←hW2];exact laid2 w _ _
 have HB0:Hid (W2.heap[w.heap.size]? = some (.cells #[.int .i64 k,.int .i64 a] 189 (0,0))):=by show W2.heap[w.heap.size]? = _;rw[←hW2];exact laid1 w _ _
 have HC:Hid _:=(KW.cell t 0 tl (fun h=>h)).trans c0;have HF:Hid _:=(KW.frozen t 0 tl (fun h=>h)).trans f0;have HR:Hid _:=owns_kept hr.out KW fun _ _ h=>h;have HW:Hu (_):=fun _=>hW2;have HK:Hid _:=KW;clear hW2 KW
 go_enter func138,ntmps138
 go_wp2_with fail
 go_region_law
  ((rw[HW.out ()];refine step_append_lies _ (by rfl) _ _ _ (by rfl) (t+1) 189 i0 _ 2 16 underlying190 hi0 hz0 hz1 hz2 rfl (by omega) v n (evc xs) (by rfl) HR.out ⟨w.heap.size+1,0,none⟩ 1 1 [.int .i64 k,.int .i64 a] (by rfl) (by rfl) (World.news_of_block HB.out) (by simp[Value.oneCell']) (by omega) n1 (by omega) (by rw[HS.out];omega) (w.heap.size+2) HS.out ?_;intro g cap w1 hown1 hgrow hat hlt;have q1:w1.cell? ⟨t,0,none⟩=some v:=(hgrow.cell_far _ (by rw[HS.out];show t<_;omega) (Ne.symm ho)).trans HC.out;have q2:w1.frozen? ⟨t,0,none⟩=false:=(hgrow.frozen_far _ (by rw[HS.out];show t<_;omega) (Ne.symm ho)).trans HF.out;have q3:w1.cell? ⟨w.heap.size,0,none⟩=some (.int .i64 k):=(hgrow.cell_far _ (by rw[HS.out];show w.heap.size<_;omega) (Ne.symm ho2)).trans (by rw[cell_of_row _ _ _ _ _ _ HB0.out];rfl);have q4:w1.cell? ⟨w.heap.size,1,none⟩=some (.int .i64 a):=(hgrow.cell_far _ (by rw[HS.out];show w.heap.size<_;omega) (Ne.symm ho2)).trans (by rw[cell_of_row _ _ _ _ _ _ HB0.out];rfl)))
 all_goals
  go_wp2
  go_ret
  exact⟨rfl,_,rec_add HT.out HL.out HK.out HS.out hown1 hgrow hat⟩
theorem add_nil(w:World)(k a:Int):Cg 138 #[.pointer none,.agg #[.int .i64 k,.int .i64 a]] w (.int .i64 1):=by
 go_enter func138,ntmps138
 go_wp2
 go_ret
 exact⟨rfl,grA⟩
end
section
theorem index_tr(w:World)(t:Nat)(v:Value)(xs:List (Int×Int))(i:Int)(h:Tr w t v xs)(hn:xs.length≤1000000):
 Calls prog 137 #[.func (.func 138) #[.pointer (some ⟨t,0,none⟩)] #[],.int .i64 i] w fun e w'=>e=.returned (.int .i64 0)∧∃v',Rec w w' t v v' (xs++[(2,i)]):=by
 have H:Hu (_):=fun _=>add_tr w t v xs 2 i h hn
 go_enter func137,ntmps137
 go_wp2_with (go_at_call 138;refine(H.out ()).mono ?_;rintro e w' ⟨rfl,v',hr⟩)
 go_ret
 exact⟨rfl,v',hr⟩
theorem index_nil(w:World)(i:Int):
 Cg 137 #[.func (.func 138) #[.pointer none] #[],.int .i64 i] w (.int .i64 1):=by
 go_enter func137,ntmps137
 go_wp2_with (go_at_call 138;refine(add_nil _ _ _).mono ?_;rintro e w' ⟨rfl,g,rfl⟩)
 go_ret
 exact⟨rfl,grA⟩
theorem Index_tr(w:World)(t:Nat)(v:Value)(xs:List (Int×Int))(i:Int)(h:Tr w t v xs)(hn:xs.length≤1000000):
 Calls prog 101 #[.pointer (some ⟨t,0,none⟩),.int .i64 i] w fun e w'=>e=.returned (.int .i64 0)∧∃v',Rec w w' t v v' (xs++[(2,i)]):=by
 have H:Hu (_):=fun _=>index_tr w t v xs i h hn
 go_enter func101,ntmps101
 go_wp2_with (go_at_call 137;refine(H.out ()).mono ?_;rintro e w' ⟨rfl,v',hr⟩)
 go_ret
 exact⟨rfl,v',hr⟩
theorem Index_nil(w:World)(i:Int):
 Cg 101 #[.pointer none,.int .i64 i] w (.int .i64 1):=by
 go_enter func101,ntmps101
 go_wp2_with (go_at_call 137;refine(index_nil _ _).mono ?_;rintro e w' ⟨rfl,g,rfl⟩)
 go_ret
 exact⟨rfl,grA⟩
end
end Go.Proofs.YtghidgcekieljaaGreat