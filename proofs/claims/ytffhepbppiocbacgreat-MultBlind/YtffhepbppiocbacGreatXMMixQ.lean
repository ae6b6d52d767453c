import Derived.Test.YtffhepbppiocbacGreatXMMixR
import Derived.Test.YtffhepbppiocbacGreatXMPC
namespace Go.Proofs.YtffhepbppiocbacGreat
open Go.RowKit
set_option maxRecDepth 100000
set_option maxHeartbeats 8000000
section
theorem Sl.set{w:World}{p:Option Addr}{x b:Nat}{d:Array Value}(h:Sl w p x)(hz:∀(i:Nat) (n:Int),(blk w b)[i]? ≠ some (Value.int .u32 n)):Sl (setBlk w b d) p x:=fun i j=>by
 obtain⟨c,q,A,f⟩:=h i j;have B:b≠c:=fun e=>hz i _ (e▸f);exact⟨c,q,by rw[size_setBlk];exact A,by rw[blk_other _ _ _ _ B];exact f⟩
theorem kAt.set{kp:List Kn}{i b:Nat}{v:Value}{w:World}{d:Array Value}(h:kAt kp i v w)(hz:∀(i:Nat) (n:Int),(blk w b)[i]? ≠ some (Value.int .u32 n)):kAt kp i v (setBlk w b d):=by
 unfold kAt at h ⊢
 cases e:kp[i]? with
 | none=>trivial
 | some k=>
  rw[e]at h;obtain⟨f,u,x⟩:=k
  cases f with
  | false=>exact h
  | true=>obtain⟨p,n,e,h⟩:=h;exact⟨p,n,e,Sl.set h hz⟩
structure RQ(W:World)(kp:List Kn)(D:List Nat)(mk:(Nat→Value)→Array Value)(z:Array Value)(bd al st:Nat)(listed:Array Bool)(vals:Nat→Value)(w:World):Prop where
 g:Gr W w
 k:∀j,listed.getD j false=true→kAt kp j (vals j) w
 d:listed.getD bd false=true→(∀j∈D,listed.getD j false=true)∧vals bd=.agg (mk vals)
 a:listed.getD al false=true→∃b,vals al=.pointer (some ⟨b,0,none⟩)∧W.heap.size≤b∧b<w.heap.size∧frz w b=(0,0)∧(listed.getD st false=false→blk w b=z)∧(listed.getD st false=true→blk w b=mk vals)
 s:listed.getD st false=true→listed.getD bd false=true∧listed.getD al false=true
theorem RQ.start(W:World)(kp:List Kn)(D:List Nat)(mk:(Nat→Value)→Array Value)(z:Array Value)(bd al st n:Nat)(vals:Nat→Value):RQ W kp D mk z bd al st (Array.replicate n false) vals W.drew:=by
 have h:∀i,(Array.replicate n false).getD i false=false:=fun i=>by by_cases h:i<n <;> simp[h]
 have f:∀(i:Nat) (p:Prop),(Array.replicate n false).getD i false=true→p:=fun i p q=>by rw[h]at q;cases q
 exact⟨(Gr.refl _).drew,fun j d=>f j _ d,fun d=>f _ _ d,fun d=>f _ _ d,fun d=>f _ _ d⟩
variable {W w w':World} {kp:List Kn} {D:List Nat} {mk:(Nat→Value)→Array Value} {z:Array Value} {bd al st:Nat} {listed:Array Bool} {vals:Nat→Value}
theorem mk_upd(hmk:∀f g:Nat→Value,(∀j∈D,f j=g j)→mk f=mk g)(i:Nat)(v:Value)(hi:i ∉ D):mk (upd vals i v)=mk vals:=
 hmk _ _ fun j d=>by
  have e:j≠i:=fun e=>hi (e▸d);simp[upd,e]
theorem RQ.build(hmk:∀f g:Nat→Value,(∀j∈D,f j=g j)→mk f=mk g)(hi:bd<listed.size)(hl:listed.getD bd false=false)(na:bd≠al)(ns:bd≠st)(hD:bd ∉ D)(hk:kp[bd]? = none)(hd:∀j∈D,listed.getD j false=true)(h:RQ W kp D mk z bd al st listed vals w):RQ W kp D mk z bd al st (listed.setIfInBounds bd true) (upd vals bd (.agg (mk vals))) w:=by
 have q:listed.getD st false=false:=by
  cases e:listed.getD st false with
  | false=>rfl
  | true=>rw[(h.s e).1]at hl;cases hl
 refine⟨h.g,fun j i=>?_,fun _=>?_,fun x=>?_,fun d=>?_⟩
 ·by_cases e:j=bd
  ·subst e;unfold kAt;rw[hk];trivial
  ·rw[getD_set_other _ _ _ (Ne.symm e)]at i;simp only[upd,e,if_false];exact h.k j i
 ·refine⟨fun j i=>?_,?_⟩
  ·have e:j≠bd:=fun e=>hD (e▸i);rw[getD_set_other _ _ _ (Ne.symm e)];exact hd j i
  ·rw[mk_upd hmk bd _ hD];simp[upd]
 ·rw[getD_set_other _ _ _ na]at x;obtain⟨b,A,B,C,G,H,I⟩:=h.a x;refine⟨b,by simp only[upd,Ne.symm na,if_false];exact A,B,C,G,fun _=>H q,fun d=>?_⟩;rw[getD_set_other _ _ _ ns,q]at d
  cases d
 ·rw[getD_set_other _ _ _ ns,q]at d
  cases d
theorem RQ.alloc(hmk:∀f g:Nat→Value,(∀j∈D,f j=g j)→mk f=mk g)(t:TypeId)(hi:al<listed.size)(hl:listed.getD al false=false)(nb:al≠bd)(ns:al≠st)(hD:al ∉ D)(hk:kp[al]? = none)(h:RQ W kp D mk z bd al st listed vals w):RQ W kp D mk z bd al st (listed.setIfInBounds al true) (upd vals al (.pointer (some ⟨w.heap.size,0,none⟩))) (w.alloc (.cells z t)):=by
 have x:listed.getD st false=false:=by
  cases e:listed.getD st false with
  | false=>rfl
  | true=>rw[(h.s e).2]at hl;cases hl
 have A:Gr w (w.alloc (.cells z t)):=(Gr.refl w).alloc _
 refine⟨h.g.trans A,fun j q=>?_,fun B=>?_,fun _=>?_,fun i=>?_⟩
 ·by_cases e:j=al
  ·subst e;unfold kAt;rw[hk];trivial
  ·rw[getD_set_other _ _ _ (Ne.symm e)]at q;simp only[upd,e,if_false];exact(h.k j q).gr A
 ·rw[getD_set_other _ _ _ nb]at B;obtain⟨C,G⟩:=h.d B
  refine⟨fun j q=>?_,?_⟩
  ·have e:j≠al:=fun e=>hD (e▸q);rw[getD_set_other _ _ _ (Ne.symm e)];exact C j q
  ·rw[mk_upd hmk al _ hD];simp only[upd,Ne.symm nb,if_false];exact G
 ·refine⟨w.heap.size,by simp[upd],h.g.below.size,by simp,frz_alloc_at _ _ _ _ _ rfl,fun _=>blk_alloc_at _ _ _ _ _ rfl,fun i=>?_⟩;rw[getD_set_other _ _ _ ns,x]at i
  cases i
 ·rw[getD_set_other _ _ _ ns,x]at i
  cases i
theorem RQ.store(hmk:∀f g:Nat→Value,(∀j∈D,f j=g j)→mk f=mk g)(hi:st<listed.size)(hl:listed.getD st false=false)(nb:st≠bd)(na:st≠al)(hD:st ∉ D)(hk:kp[st]? = none)(hz:∀(i:Nat) (n:Int),z[i]? ≠ some (Value.int .u32 n))(hzs:0<z.size)(lb:listed.getD bd false=true)(la:listed.getD al false=true)(b:Nat)(hb:vals al=.pointer (some ⟨b,0,none⟩))(h:RQ W kp D mk z bd al st listed vals w):RQ W kp D mk z bd al st (listed.setIfInBounds st true) (upd vals st undef) (setBlk w b (mk vals)):=by
 obtain⟨c,B,C,H,I,J,-⟩:=h.a la
 have A:b=c:=by rw[hb]at B;simpa using B
 subst A;have q:=J hl
 refine⟨gr_setNew h.g C,fun j x=>?_,fun _=>?_,fun _=>?_,fun _=>?_⟩
 ·by_cases e:j=st
  ·subst e;unfold kAt;rw[hk];trivial
  ·rw[getD_set_other _ _ _ (Ne.symm e)]at x;simp only[upd,e,if_false];exact kAt.set (h.k j x) (by rw[q];exact hz)
 ·obtain⟨K,L⟩:=h.d lb
  refine⟨fun j x=>?_,?_⟩
  ·have e:j≠st:=fun e=>hD (e▸x);rw[getD_set_other _ _ _ (Ne.symm e)];exact K j x
  ·rw[mk_upd hmk st _ hD];simp only[upd,Ne.symm nb,if_false];exact L
 ·refine⟨b,by simp only[upd,Ne.symm na,if_false];exact hb,C,by rw[size_setBlk];exact H,by rw[frz_setBlk];exact I,fun G=>?_,fun _=>?_⟩
  ·rw[getD_set_same _ _ hi]at G;cases G
  ·rw[mk_upd hmk st _ hD,blk_setBlk _ _ _ (by rw[q];exact hzs)]
 ·rw[getD_set_other _ _ _ nb,getD_set_other _ _ _ na];exact⟨lb,la⟩
end
end Go.Proofs.YtffhepbppiocbacGreat