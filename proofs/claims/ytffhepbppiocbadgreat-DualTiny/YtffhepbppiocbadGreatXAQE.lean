import Derived.Test.YtffhepbppiocbadGreatXAQD
namespace Go.Proofs.YtffhepbppiocbadGreat
open Go.RowKit Go.Proofs.Tryz
set_option maxRecDepth 100000
set_option maxHeartbeats 8000000
section
theorem mulM{k:Nat}(h1:1≤k)(h2:k≤15){P:Q3}(oP:OnQ k P){d:Nat}(ld:d<oN k){Q:Q3}(hQ:mlQ k d P=Q)(w:World):
 Cg 33 #[.pointer none,.int .i64 k,.agg (nw 9 d),.agg (pnQ P)] w (.tuple #[.agg (pnQ Q),.int .i64 0]):=by
 refine(mmul_yes h1 h2 oP ld (z0:=undef) (xs:=[]) (Lk.none _ _ _) (by decide) hQ).mono ?_;rintro e i ⟨rfl,j,f⟩;exact⟨rfl,gr_kp (Gr.refl w) f.kp fun b _ h=>Ow.none h⟩
def evN(k:Nat):List (Int×Int):=rpx (mnN 4 (bl (oN k)))
structure MrI(W:World)(t:Nat)(E:List (Int×Int))(c:Bool)(v:World):Prop where
 k:Kp (fun b=>b=t) W v
 tr:∃z,(c=false→z=.slice none 0 0)∧Tr v t z (cond c E [])
theorem MrI.start{W:World}{t:Nat}{E:List (Int×Int)}(h:Tr W t (.slice none 0 0) []):MrI W t E false W:=⟨Kp.refl _ _,_,fun _=>rfl,h⟩
theorem MrI.gr{W v w:World}{t:Nat}{E:List (Int×Int)}{c:Bool}(h:MrI W t E c v)(g:Gr v w):MrI W t E c w:=by
 obtain⟨k,z,d,f⟩:=h;exact⟨k.trans (Kp.gr g _),z,d,f.gr g⟩
theorem MrI.g{u W v:World}{t:Nat}{E:List (Int×Int)}{c:Bool}(h:MrI W t E c v)(g:Gr u W)(hu:u.heap.size≤t):Gr u v:=gr_kp g h.k fun b d e=>by subst e;omega
theorem MrI.mul{W v:World}{t:Nat}{E:List (Int×Int)}(h:MrI W t E false v)(ht:t<W.heap.size){P:Program}{f:FuncId}{a:Array Value}{r:Value}(hc:Tr v t (.slice none 0 0) []→Calls P f a v fun e w'=>e=.returned r∧∃z,RecL v.heap.size v w' (some t) (.slice none 0 0) z E):
 Calls P f a v fun e w'=>∃_:Wt,e=.returned r∧True∧MrI W t E true w'∧Kp (fun b=>b<W.heap.size) v w':=by
 obtain⟨k,z,j,q⟩:=h;obtain rfl:=j rfl;refine(hc q).mono ?_;rintro e w' ⟨rfl,x,d⟩
 have i:=d.kp.mono fun b _ ⟨a,e,A⟩=>by
  cases e
  exact own_none A
 exact⟨fun _=>(none,0),rfl,trivial,⟨k.trans i,x,(fun h=>by cases h),d.lk _ rfl⟩,i.mono fun b _ e=>by subst e;exact ht⟩
def Kw.vt(N:Nat)(c:Array Value)(ty:TypeId):Kw:=⟨fun y=>.pointer (some ⟨(y 0).2,0,none⟩),fun y w=>N≤(y 0).2∧w.heap[(y 0).2]? = some (.cells c ty (0,0)),
 fun _ _ _ h g=>⟨h.1,(g.below.block _ (Array.getElem?_eq_some_iff.1 h.2).1).trans h.2⟩,0,fun h=>absurd rfl h,fun h=>absurd h (by decide)⟩
theorem fnvt{N:Nat}{c:Array Value}{ty:TypeId}:FarN (fun v w=>Kp (fun b=>b<N) v w) (.vt N c ty):=fun _ _ _ k ⟨a,b⟩=>⟨a,(k.block _ (Array.getElem?_eq_some_iff.1 b).1 (by omega)).trans b⟩
theorem ObW.n{P:Program}{l:List Oper}{a0:Act}{W:World}{kp:List Kw}{i N:Nat}{z:Array Value}(t:TypeId)(hk:kW kp i=.vt N z t)(hN:N≤W.heap.size)(hc:∀v:World,(exI (.alloc t)).run P v=.ok (.value (.pointer (some ⟨v.heap.size,0,none⟩))) (v.alloc (.cells z t)):=by intro vv;simp[go_sem,exI])(hr:runW l kp a0 i=fun _=>some (exI (.alloc t)):=by kernel_rfl):ObW P l kp a0 W i:=
 ObW.e (fun _=>exI (.alloc t)) hr fun _ v d _=>⟨fun _=>(none,v.heap.size),_,by rw[hk];exact hc v,(Gr.refl _).alloc _,by rw[hk];exact⟨Nat.le_trans hN d.below.size,heap_alloc_new v _⟩⟩
theorem vr_vt{w:World}{b:Nat}{c:Array Value}{ty:TypeId}(h:w.heap[b]? = some (.cells c ty (0,0))):Vr w b c:=
 ⟨by unfold blk;rw[h],by unfold frz;rw[h],(Array.getElem?_eq_some_iff.1 h).1⟩
theorem MrI.set{W v:World}{t:Nat}{E:List (Int×Int)}(h:MrI W t E true v)(ht:t<W.heap.size){b:Nat}{c:Array Value}{ty:TypeId}(hb:W.heap.size≤b)(hv:v.heap[b]? = some (.cells c ty (0,0)))(hc:0<c.size)(hty:ty≠207)(d:Array Value):
 Kp (fun b=>b=t) W (setBlk v b d)∧∃z,Tr (setBlk v b d) t z E∧Vr (setBlk v b d) b d:=by
 obtain⟨k,z,-,f⟩:=h;refine⟨k.setBlk b d (Or.inr hb),z,f.kept ((Kp.refl _ _).setBlk b d (Or.inl rfl)) fun x i e=>?_,(vr_vt hv).set hc d⟩;subst e
 rcases i with e|e
 ·omega
 ·rcases f.row.2 with ⟨rfl,-⟩|⟨g,cap,cur,rfl,-,hg,-⟩
  ·cases e
  ·have j:=Option.some.inj e;subst j;rw[hg]at hv
   injection hv with hv
   injection hv with _ e2 _
   exact hty e2.symm
end
end Go.Proofs.YtffhepbppiocbadGreat