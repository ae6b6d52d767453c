import Derived.Test.YtonbpnbhjghfbaaXAMixG
import Derived.Test.YtonbpnbhjghfbaaXASl
namespace Go.Proofs.Ytonbpnbhjghfbaa
open Go.RowKit
set_option maxRecDepth 100000
set_option maxHeartbeats 8000000
section
structure Kn where
 num:Bool
 val:Value
 nat:Nat
theorem none_listed(n j:Nat):(Array.replicate n false).getD j false=false:=by
 by_cases h:j<n <;> simp[h]
theorem on_of{after:Array Edge}{listed:Array Bool}(hd:∀e∈after,Region.binds .any e=true→listed.getD e.on false=true)(j:Nat)(h:(after.any fun e=>e.on==j&&Region.binds .any e)=true):listed.getD j false=true:=by
 obtain⟨i,f,d⟩:=Array.any_eq_true.1 h;simp only[Bool.and_eq_true,beq_iff_eq]at d;rw[←d.1];exact hd _ (Array.getElem_mem f) d.2
theorem wanted_no{ops:Array Oper}{a:Act}{o:Oper}(hg:o.guard=none):Region.wanted o (yielded ops a.tmps)=true:=by
 unfold Region.wanted;rw[hg]
end
section
section
variable {P:Program} {l:List Oper} {Q:Exit→Act→World→Prop} {a0:Act}
def StepR(d:Bool)(P:Program)(l:List Oper)(Q:Exit→Act→World→Prop)(a0:Act)(R:Array Bool→(Nat→Value)→World→Prop):Prop:=
 ∀listed vals a w i o,listed.size=l.toArray.size→R listed vals w→Frm l.toArray a0 vals listed a→l.toArray[i]? = some o→listed.getD i false=false →
  (∀e∈o.after,Region.binds .any e=true→listed.getD e.on false=true)→(d=false→∀j,j<i→listed.getD j false=true)→(Region.wanted o (yielded l.toArray a.tmps)=true∧o.wp P a w (fun a' w'=>∃v,a'=a.put o.dst v∧R (listed.setIfInBounds i true) (upd vals i v) w') Q)∨(Region.wanted o (yielded l.toArray a.tmps)=false∧R (listed.setIfInBounds i true) (upd vals i undef) w)
theorem wpList_mix(hu:uniqG l.toArray=true)(R:Array Bool→(Nat→Value)→World→Prop)(hstep:StepR false P l Q a0 R)(hfin:∀listed vals a w,(∀i,i<l.toArray.size→listed.getD i false=true)→R listed vals w→Frm l.toArray a0 vals listed a→Q .normal a w):
 ∀(d k:Nat) (vals:Nat→Value) (a:Act) (w:World),k+d=l.length→R (upTo l.length k) vals w→Frm l.toArray a0 vals (upTo l.length k) a→wpList P l.toArray Q (l.drop k) a w
 | 0,k,vals,a,w,hk,hR,hF=>by
  obtain rfl:k=l.length:=by omega
  rw[List.drop_length,wpList];exact hfin _ vals a w (fun i B=>by rw[upTo_getD];simp at B ⊢;exact B) hR hF
 | d+1,k,vals,a,w,hk,hR,hF=>by
  have f:k<l.length:=by omega
  rw[List.drop_eq_getElem_cons f,wpList]
  have A:l.toArray[k]? = some l[k]:=by simp[f]
  obtain⟨-,C⟩:=uniq_at hu A
  have next:∀v w',R ((upTo l.length k).setIfInBounds k true) (upd vals k v) w'→wpList P l.toArray Q (l.drop (k+1)) (a.put l[k].dst v) w':=fun v w' q=>by
   have x:=hF.put hu A (by simp[upTo]) v;rw[upTo_set _ _ f]at q x;exact wpList_mix hu R hstep hfin d (k+1) _ _ _ (by omega) q x
  obtain⟨q,x⟩|⟨q,x⟩:=hstep (upTo l.length k) vals a w k _ (by simp[upTo]) hR hF A (by rw[upTo_getD];simp) (fun e D G=>by rw[upTo_getD];have:=C e D G;simp;omega) (fun _ j I=>by rw[upTo_getD];simp;omega)
  ·rw[if_pos q];refine Or.inl (Oper.wp_mono (fun J w' h=>?_) x);obtain⟨v,rfl,H⟩:=h;exact next v w' H
  ·rw[if_neg (by rw[q];decide)];exact next undef w x
theorem wp_region_ord{id:Nat}{w:World}(d:Bool)(hm:d=true→P.follows .mixedOrders=true)(hu:uniqG l.toArray=true)(R:Array Bool→(Nat→Value)→World→Prop)(h0:∀listed w',(∀i,listed.getD i false=false)→Gr w w'→R listed (fun _=>undef) w')(hstep:StepR d P l Q a0 R)(hfin:∀listed vals a w,(∀i,i<l.toArray.size→listed.getD i false=true)→R listed vals w→Frm l.toArray a0 vals listed a→Q .normal a w):(Code.region id l.toArray d).wp P Q a0 w:=by
 cases d with
 | true=>exact wp_region_mixG (hm rfl) hu R (h0 _ _ (fun i=>none_listed _ i) (Gr.refl _).drew) (fun listed vals a w i o f j q v x A=>hstep listed vals a w i o f j q v x A (fun h=>by cases h)) hfin
 | false=>exact wp_region_lit (wpList_mix hu R hstep hfin l.length 0 (fun _=>undef) a0 w (by omega) (h0 _ _ (fun i=>by rw[upTo_getD];simp) (Gr.refl _)) (Frm.start_up l a0 _))
end
end
end Go.Proofs.Ytonbpnbhjghfbaa