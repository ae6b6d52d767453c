import Derived.Orders
import Derived.Test.YtonbpnbhjghfbaaXALdS
namespace Go.Proofs.Ytonbpnbhjghfbaa
open Go.RowKit
set_option maxRecDepth 100000
set_option maxHeartbeats 8000000
section
def own(ops:Array Oper)(s:Nat):Option Nat:=(List.range ops.size).find? fun i=>((ops[i]?).bind (·.dst))==some s
def uniqG(ops:Array Oper):Bool:=(List.range ops.size).all fun i=>
 match ops[i]? with
 | some o=>(match o.dst with|some d=>own ops d==some i|none=>true)&&o.after.all fun e => !Region.binds .any e || decide (e.on<i)
 | none=>true
theorem uniq_at{ops:Array Oper}(h:uniqG ops=true){i:Nat}{o:Oper}(ho:ops[i]? = some o):
 (∀d,o.dst=some d→own ops d=some i)∧∀e∈o.after,Region.binds .any e=true→e.on<i:=by
 have f:=(Array.getElem?_eq_some_iff.1 ho).1;have j:=List.all_eq_true.1 h i (by simpa using f)
 grind [Array.all_eq_true_iff_forall_mem,Bool.not_eq_true']
theorem own_spec{ops:Array Oper}{s i:Nat}(h:own ops s=some i):∃o,ops[i]? = some o∧o.dst=some s:=by
 have:=List.find?_some h
 grind
def Frm(ops:Array Oper)(a0:Act)(vals:Nat→Value)(listed:Array Bool)(a:Act):Prop:=
 a.defers=a0.defers∧a.tmps.size=a0.tmps.size∧∀s,s<a0.tmps.size→a.tmps[s]? = match own ops s with
  | some i=>if listed.getD i false=true then some (vals i) else a0.tmps[s]?
  | none=>a0.tmps[s]?
def upd(f:Nat→Value)(i:Nat)(v:Value):Nat→Value:=fun j=>if j=i then v else f j
theorem getD_set_same(listed:Array Bool)(i:Nat)(h:i<listed.size):(listed.setIfInBounds i true).getD i false=true:=by simp[h]
theorem getD_set_other(listed:Array Bool)(i j:Nat)(h:i≠j):(listed.setIfInBounds i true).getD j false=listed.getD j false:=getD_set_ne false h
theorem Frm.put{ops:Array Oper}{a0 a:Act}{vals:Nat→Value}{listed:Array Bool}(hu:uniqG ops=true){i:Nat}{o:Oper}(ho:ops[i]? = some o)(hz:listed.size=ops.size)(v:Value)(hf:Frm ops a0 vals listed a):
 Frm ops a0 (upd vals i v) (listed.setIfInBounds i true) (a.put o.dst v):=by
 have C:i<listed.size:=by rw[hz];exact(Array.getElem?_eq_some_iff.1 ho).1
 obtain⟨D,_⟩:=uniq_at hu ho;obtain⟨G,q,H⟩:=hf
 refine⟨?_,?_,fun s B=>?_⟩
 ·cases o.dst <;> exact G
 ·cases o.dst with
  | none=>exact q
  | some d=>simp[Act.put,q]
 ·have x:∀j,own ops s=some j→j≠i→(if(listed.setIfInBounds i true).getD j false=true then some (upd vals i v j) else a0.tmps[s]?)=if listed.getD j false=true then some (vals j) else a0.tmps[s]? := fun j _ f=>by
   rw[getD_set_other _ _ _ (Ne.symm f)];simp[upd,f]
  by_cases hsd:o.dst=some s
  ·rw[D s hsd,hsd];simp[Act.put,C,upd,q,B]
  ·have h:(a.put o.dst v).tmps[s]? = a.tmps[s]?:=by
    cases hdst:o.dst with
    | none=>rfl
    | some d=>
     have:d≠s:=fun e=>hsd (by rw[hdst,e]);simp[Act.put,this]
   rw[h,H s B]
   cases hw:own ops s with
   | none=>rfl
   | some j=>
    have f:j≠i:=fun e=>by
     obtain⟨I,l,A⟩:=own_spec hw;rw[e,ho]at l
     cases l
     exact hsd A
    exact(x j hw f).symm
def left(ops:Array Oper)(listed:Array Bool):Nat:=((List.range ops.size).filter fun i => !listed.getD i false).length
theorem filter_drop(p q:Nat→Bool)(i:Nat):∀(l:List Nat),l.Nodup→i∈l→p i=true→q i=false→(∀j,j≠i→q j=p j)→(l.filter q).length+1=(l.filter p).length
 | [],_,h,_,_,_=>by cases h
 | x :: l,hn,hm,hp,hq,hj=>by
  obtain⟨hx,hn'⟩:=List.nodup_cons.1 hn
  by_cases e:x=i
  ·subst e;have:l.filter q=l.filter p:=List.filter_congr fun j f=>hj j (fun e=>hx (e▸f));simp[hp,hq,this]
  ·have v:i∈l:=by
    rcases List.mem_cons.1 hm with h|h
    ·exact absurd h.symm e
    ·exact h
   have A:=filter_drop p q i l hn' v hp hq hj
   by_cases hpx:p x=true
   ·have:q x=true:=by rw[hj x e];exact hpx
    simp[hpx,this];omega
   ·have d:p x=false:=by simpa using hpx
    have:q x=false:=by rw[hj x e];exact d
    simp[d,this];omega
theorem left_set(ops:Array Oper)(listed:Array Bool)(i:Nat)(hi:i<ops.size)(hz:listed.size=ops.size)(hl:listed.getD i false=false):left ops (listed.setIfInBounds i true)+1=left ops listed:=by
 refine filter_drop _ _ i _ List.nodup_range (by simpa using hi) (by simp[hl]) ?_ fun j d=>?_
 ·rw[getD_set_same _ _ (by omega)];rfl
 ·rw[getD_set_other _ _ _ (Ne.symm d)]
theorem getD_flip(listed:Array Bool)(i:Nat)(hi:i<listed.size):listed.getD i true=listed.getD i false:=by simp[hi]
theorem all_of_ready{ops:Array Oper}{listed:Array Bool}(hu:uniqG ops=true)(hz:listed.size=ops.size)(hr:Region.ready .any ops listed=[]):∀n i,i<n→i<ops.size→listed.getD i false=true
 | 0,i,h,_=>by omega
 | n+1,i,h,hi=>by
  by_cases hc:listed.getD i false=true
  ·exact hc
  ·exfalso
   have ho:ops[i]? = some ops[i]:=Array.getElem?_eq_getElem hi;obtain⟨_,d⟩:=uniq_at hu ho;have:i∈Region.ready .any ops listed:=mem_ready.2 ⟨by rw[getD_flip _ _ (by omega)];simpa using hc,ops[i],ho,fun e f j=>all_of_ready hu hz hr n e.on (by have:=d e f j;omega) (by have:=d e f j;omega)⟩;rw[hr]at this
   cases this
theorem wpAny_mix{P:Program}{ops:Array Oper}{Q:Exit→Act→World→Prop}{a0:Act}(hu:uniqG ops=true)(R:Array Bool→(Nat→Value)→World→Prop)(hstep:∀listed vals a w i o,listed.size=ops.size→R listed vals w→Frm ops a0 vals listed a→ops[i]? = some o→listed.getD i false=false →
     (∀e∈o.after,Region.binds .any e=true→listed.getD e.on false=true)→(Region.wanted o (yielded ops a.tmps)=true∧o.wp P a w (fun a' w'=>∃v,a'=a.put o.dst v∧R (listed.setIfInBounds i true) (upd vals i v) w') Q)∨(Region.wanted o (yielded ops a.tmps)=false∧R (listed.setIfInBounds i true) (upd vals i undef) w))(hfin:∀listed vals a w,(∀i,i<ops.size→listed.getD i false=true)→R listed vals w→Frm ops a0 vals listed a→Q .normal a w):
 ∀fuel listed vals a w,listed.size=ops.size→left ops listed≤fuel→R listed vals w→Frm ops a0 vals listed a→wpAny P .any ops Q fuel listed a w
 | 0,listed,vals,a,w,hz,hl,hR,hF=>by
  have hall:∀i,i<ops.size→listed.getD i false=true:=fun i l=>by
   have C:=List.length_eq_zero_iff.1 (Nat.le_zero.1 hl);have:=List.filter_eq_nil_iff.1 C i (by simpa using l)
   simpa using this
  refine⟨?_,hfin listed vals a w hall hR hF⟩
  by_cases h:Region.ready .any ops listed=[]
  ·exact h
  ·exfalso
   obtain⟨j,D⟩:=List.exists_mem_of_ne_nil _ h;obtain⟨f,o,d,_⟩:=mem_ready.1 D;have q:=(Array.getElem?_eq_some_iff.1 d).1;rw[getD_flip _ _ (by omega),hall j q]at f
   cases f
 | fuel+1,listed,vals,a,w,hz,hl,hR,hF=>by
  refine⟨fun G=>hfin listed vals a w (fun i l=>all_of_ready hu hz G (i+1) i (by omega) l) hR hF,fun i l=>?_⟩;obtain⟨f,o,d,H⟩:=mem_ready.1 l;have x:=(Array.getElem?_eq_some_iff.1 d).1;rw[getD_flip _ _ (by omega)]at f;unfold wpOp;rw[d];have I:=left_set ops listed i x hz f
  obtain⟨A,B⟩|⟨A,hR'⟩:=hstep listed vals a w i o hz hR hF d f H
  ·simp only[A,if_true];refine Or.inl (Oper.wp_mono (fun a' w' h=>?_) B);obtain⟨v,rfl,hR'⟩:=h;exact wpAny_mix hu R hstep hfin fuel _ _ _ _ (by simpa using hz) (by omega) hR' (hF.put hu d hz v)
  ·simp only[A];exact wpAny_mix hu R hstep hfin fuel _ _ _ _ (by simpa using hz) (by omega) hR' (hF.put hu d hz undef)
theorem Frm.start(ops:Array Oper)(a0:Act)(vals:Nat→Value):Frm ops a0 vals (Array.replicate ops.size false) a0:=by
 refine⟨rfl,rfl,fun s _=>?_⟩
 cases own ops s with
 | none=>rfl
 | some i=>
  have:(Array.replicate ops.size false).getD i false=false:=by
   by_cases h:i<ops.size <;> simp[h]
  simp only[this]
  rfl
theorem wp_region_mixG{P:Program}{id:Nat}{l:List Oper}{Q:Exit→Act→World→Prop}{a0:Act}{w:World}(hm:P.follows .mixedOrders=true)(hu:uniqG l.toArray=true)(R:Array Bool→(Nat→Value)→World→Prop)(h0:R (Array.replicate l.toArray.size false) (fun _=>undef) w.drew)(hstep:∀listed vals a w i o,listed.size=l.toArray.size→R listed vals w→Frm l.toArray a0 vals listed a→l.toArray[i]? = some o→listed.getD i false=false →
     (∀e∈o.after,Region.binds .any e=true→listed.getD e.on false=true)→(Region.wanted o (yielded l.toArray a.tmps)=true∧o.wp P a w (fun a' w'=>∃v,a'=a.put o.dst v∧R (listed.setIfInBounds i true) (upd vals i v) w') Q)∨(Region.wanted o (yielded l.toArray a.tmps)=false∧R (listed.setIfInBounds i true) (upd vals i undef) w))(hfin:∀listed vals a w,(∀i,i<l.toArray.size→listed.getD i false=true)→R listed vals w→Frm l.toArray a0 vals listed a→Q .normal a w):
 (Code.region id l.toArray true).wp P Q a0 w:=
 wp_region_any hm (wpAny_mix hu R hstep hfin _ _ _ a0 _ (by simp) (by
  unfold left
  refine Nat.le_trans (List.length_filter_le _ _) (by simp)) h0 (Frm.start _ _ _))
def putFrom(vals:Nat→Value):Nat→List Oper→Act→Act
 | _,[],a=>a
 | k,o :: l,a=>putFrom vals (k+1) l (a.put o.dst (vals k))
def upTo(n k:Nat):Array Bool:=((List.range n).map fun i=>decide (i<k)).toArray
theorem upTo_getD(n k i:Nat):(upTo n k).getD i false=decide (i<k∧i<n):=by
 unfold upTo
 by_cases h:i<n
 ·simp[h]
 ·simp[h]
theorem upTo_set(n k:Nat)(h:k<n):(upTo n k).setIfInBounds k true=upTo n (k+1):=by
 apply Array.ext_getElem?
 intro j;rw[Array.getElem?_setIfInBounds];unfold upTo
 by_cases hj:j<n
 ·by_cases hk:k=j
  ·subst hk;simp[h]
  ·simp only[hk,if_false,List.getElem?_toArray,List.getElem?_map,List.getElem?_range hj,Option.map_some,Option.some.injEq,decide_eq_decide]
   omega
 ·have:¬k=j:=by omega
  simp[hj,this]
theorem upd_self(vals:Nat→Value)(k:Nat):upd vals k (vals k)=vals:=by
 funext j
 unfold upd
 split
 ·rename_i h;rw[h]
 ·rfl
theorem putFrom_frm{l:List Oper}{a0:Act}{vals:Nat→Value}(hu:uniqG l.toArray=true):∀(r:List Oper) (k:Nat) (a:Act),(∀j,r[j]? = l[k+j]?)→Frm l.toArray a0 vals (upTo l.length k) a→Frm l.toArray a0 vals (upTo l.length (k+r.length)) (putFrom vals k r a)
 | [],k,a,_,h=>h
 | o :: r,k,a,hr,h=>by
  have ho:l[k]? = some o:=by simpa using (hr 0).symm
  have f:k<l.length:=(List.getElem?_eq_some_iff.1 ho).1;have d:=h.put hu (i:=k) (o:=o) (by simpa using ho) (by simp[upTo]) (vals k);rw[upd_self,upTo_set _ _ f]at d;have q:=putFrom_frm hu r (k+1) (a.put o.dst (vals k)) (fun j=>by have:=hr (j+1);rw[List.getElem?_cons_succ]at this;rw[this,Nat.add_assoc,Nat.add_comm 1 j]) d;rw[show k+(o :: r).length=k+1+r.length from by simp;omega];exact q
theorem Frm.start_up(l:List Oper)(a0:Act)(vals:Nat→Value):Frm l.toArray a0 vals (upTo l.length 0) a0:=by
 refine⟨rfl,rfl,fun s _=>?_⟩
 cases own l.toArray s with
 | none=>rfl
 | some i=>
  have:(upTo l.length 0).getD i false=false:=by rw[upTo_getD];simp
  simp only[this]
  rfl
theorem Frm.final{l:List Oper}{a0 a:Act}{vals:Nat→Value}{listed:Array Bool}(hu:uniqG l.toArray=true)(hall:∀i,i<l.toArray.size→listed.getD i false=true)(hf:Frm l.toArray a0 vals listed a):a=putFrom vals 0 l a0:=by
 have h:=putFrom_frm hu l 0 a0 (fun j=>by simp) (Frm.start_up l a0 vals);obtain⟨d,D,x⟩:=hf;obtain⟨f,G,A⟩:=h
 have q:a.tmps=(putFrom vals 0 l a0).tmps:=by
  apply Array.ext_getElem?
  intro s
  by_cases hs:s<a0.tmps.size
  ·rw[x s hs,A s hs]
   cases hw:own l.toArray s with
   | none=>rfl
   | some i=>
    obtain⟨o,B,_⟩:=own_spec hw;have v:=(Array.getElem?_eq_some_iff.1 B).1
    have C:(upTo l.length (0+l.length)).getD i false=true:=by rw[upTo_getD];simpa using v
    simp only[hall i v,C,if_true]
  ·rw[Array.getElem?_eq_none (by omega),Array.getElem?_eq_none (by omega)]
 cases a
 generalize putFrom vals 0 l a0=b at *
 cases b
 simp only at q d f;rw[q,d,f]
theorem wp_val{P:Program}{o:Oper}{a:Act}{w w':World}{K:Act→World→Prop}{Q:Exit→Act→World→Prop}(v:Value)(h:(execOp a.eval o).run P w=.ok (.value v) w')(hk:K (a.put o.dst v) w'):o.wp P a w K Q:=by
 unfold Oper.wp;rw[h];exact hk
theorem wp_skip{P:Program}{o:Oper}{a:Act}{w w':World}{K:Act→World→Prop}{Q:Exit→Act→World→Prop}(h:(execOp a.eval o).run P w=.ok .skip w')(hk:K (a.put o.dst undef) w'):o.wp P a w K Q:=by
 unfold Oper.wp;rw[h];exact hk
theorem Gr.blk{w v:World}(h:Gr w v)(b:Nat)(hb:b<w.heap.size):blk v b=blk w b:=by
 obtain⟨g,rfl⟩:=h;exact blk_gro w g b hb
theorem Gr.frz{w v:World}(h:Gr w v)(b:Nat)(hb:b<w.heap.size):frz v b=frz w b:=by
 obtain⟨g,rfl⟩:=h;exact frz_gro w g b hb
theorem frz_setBlk(w:World)(b c:Nat)(d:Array Value):frz (setBlk w b d) c=frz w c:=by
 unfold frz setBlk;simp only[Array.getElem?_modify]
 by_cases h:b=c
 ·subst h
  cases hw:w.heap[b]? with
  | none=>simp
  | some o=>cases o <;> simp
 ·simp[h]
end
section
theorem gr_setNew{W v:World}(h:Gr W v){b:Nat}{d:Array Value}(hb:W.heap.size≤b):Gr W (setBlk v b d):=by
 obtain⟨g,rfl⟩:=h;refine⟨⟨g.os.modify (b-W.heap.size) (fun | .cells _ e f=>.cells d e f|o=>o),g.n⟩,ext_world ?_ rfl rfl rfl rfl⟩
 grind [setBlk,gro]
theorem grB{w v:World}(h:Gr w v:=by repeat (first|assumption|apply Gr.drewN|apply Gr.drew|apply Gr.alloc|apply Gr.gro|(refine gr_setNew ?_ (by omega)))):Gr w v:=h
end
end Go.Proofs.Ytonbpnbhjghfbaa