import Derived.Test.YtghidgcekieljaaGreatXAQQ
namespace Go.Proofs.YtghidgcekieljaaGreat
open Go.RowKit Go.Proofs.Tryz
set_option maxRecDepth 100000
set_option maxHeartbeats 8000000
section
theorem mulM{k:Nat}(h1:1≤k)(h2:k≤15){P:Q3}(oP:OnQ k P){d:Nat}(ld:d<oN k){Q:Q3}(hQ:mlQ k d P=Q)(w:World):
 Cg 25 #[.pointer none,.int .i64 (k:Int),.agg (nw 9 d),.agg (pnQ P)] w (.tuple #[.agg (pnQ Q),.int .i64 0]):=by
 refine(mmul_yes h1 h2 oP ld (z0:=undef) (xs:=[]) (Lk.none _ _ _) (by decide) hQ).mono ?_;rintro e w' ⟨rfl,v',hR⟩;exact⟨rfl,gr_kp (Gr.refl w) hR.kp fun b _ h=>Ow.none h⟩
def evN(k:Nat):List (Int×Int):=rpx (mnN 4 (bl (oN k)))
def Kw.vt(N:Nat)(c:Array Value)(ty:TypeId):Kw:=⟨fun y=>.pointer (some ⟨(y 0).2,0,none⟩),fun y w=>N≤(y 0).2∧w.heap[(y 0).2]? = some (.cells c ty (0,0)),
 fun _ _ _ h g=>⟨h.1,(g.below.block _ (Array.getElem?_eq_some_iff.1 h.2).1).trans h.2⟩,0,fun h=>absurd rfl h,fun h=>absurd h (by decide)⟩
theorem fnvt{N:Nat}{c:Array Value}{ty:TypeId}:FarN (fun v w=>Kp (fun b=>b<N) v w) (.vt N c ty):=fun _ _ _ k ⟨a,b⟩=>⟨a,(k.block _ (Array.getElem?_eq_some_iff.1 b).1 (by omega)).trans b⟩
theorem ObW.n{P:Program}{l:List Oper}{a0:Act}{W:World}{kp:List Kw}{i N:Nat}{z:Array Value}(t:TypeId)(hk:kW kp i=.vt N z t)(hN:N≤W.heap.size)(hc:∀v:World,(exI (.alloc t)).run P v=.ok (.value (.pointer (some ⟨v.heap.size,0,none⟩))) (v.alloc (.cells z t)):=by intro vv;simp[go_sem,exI])(hr:runW l kp a0 i=fun _=>some (exI (.alloc t)):=by kernel_rfl):ObW P l kp a0 W i:=
 ObW.e (fun _=>exI (.alloc t)) hr fun _ v hg _=>⟨fun _=>(none,v.heap.size),_,by rw[hk];exact hc v,(Gr.refl _).alloc _,by rw[hk];exact⟨Nat.le_trans hN hg.below.size,heap_alloc_new v _⟩⟩
theorem vr_vt{w:World}{b:Nat}{c:Array Value}{ty:TypeId}(h:w.heap[b]? = some (.cells c ty (0,0))):Vr w b c:=
 ⟨by unfold blk;rw[h],by unfold frz;rw[h],(Array.getElem?_eq_some_iff.1 h).1⟩
end
section
theorem ml_mod{k:Nat}(h1:1≤k)(h2:k≤15){P:Q3}(oP:OnQ k P)(hN:mlQ k (oN k) P=inf)(m:Nat):mlQ k (m%oN k) P=mlQ k m P:=by
 have h:mlQ k m P=mlQ k (oN k*(m/oN k)+m%oN k) P:=by rw[Nat.div_add_mod]
 rw[h,mlQ_add h1 h2 _ _ oP,Nat.mul_comm,mlQ_mul h1 h2 _ _ oP,hN,mlQ_inf h1 h2,inf_plQ h1 h2 (mlQ_on h1 h2 _ oP)]
theorem add_modQ{k:Nat}(h1:1≤k)(h2:k≤15){P:Q3}(oP:OnQ k P)(hN:mlQ k (oN k) P=inf){x y s:Nat}(hs:(x+y)%oN k=s):plQ k (mlQ k x P) (mlQ k y P)=mlQ k s P:=by
 rw[←hs,ml_mod h1 h2 oP hN,mlQ_add h1 h2 _ _ oP]
end
end Go.Proofs.YtghidgcekieljaaGreat