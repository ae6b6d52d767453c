import Derived.Deep.RegionLaw
import Derived.Deep.DrawnRows
import Derived.BigQuiet
import Derived.Deep.QuietTactic
import Derived.BigRegion
import Derived.Deep.CutBlock
import Derived.Test.YtgpfabihgjhefaaXUDInst
import Derived.Test.YtgpfabihgjhefaaXUEq
import Derived.Test.YtgpfabihgjhefaaRows
import Derived.Test.YtgpfabihgjhefaaXUShr
import Derived.Test.YtgpfabihgjhefaaXULawA
import Derived.Test.YtgpfabihgjhefaaXURFrom
import Derived.Test.YtgpfabihgjhefaaXUMixR
namespace Go.Proofs.Ytgpfabihgjhefaa
open Go.RowKit
set_option maxRecDepth 100000
set_option maxHeartbeats 8000000
section
section
variable (id:Int) (p a b n x y:Nat) (s z:Int) (l:Bool)
end
structure Vr (v:World) (b:Nat) (c:Array Value):Prop where
 h:blk v b=c
 f:frz v b=(0,0)
 p:Pre (b+1) v.heap.size
theorem Vr.gr {v v':World} {b:Nat} {c:Array Value} (h:Vr v b c) (k:Gr v v'):Vr v' b c:=
 ⟨by rw [k.blk _ h.p]; exact h.h,by rw [k.frz _ h.p]; exact h.f,Nat.le_trans h.p k.below.size⟩
theorem Vr.other {v:World} {b k:Nat} {c d:Array Value} (h:Vr v b c) (n:k≠b):Vr (setBlk v k d) b c:=
 ⟨by rw [blk_other _ _ _ _ n]; exact h.h,by rw [frz_setBlk]; exact h.f,by rw [size_setBlk]; exact h.p⟩
theorem Vr.new (w:World) (c:Array Value) (t:TypeId):Vr (w.alloc (.cells c t)) w.heap.size c:=
 ⟨blk_alloc_at _ _ _ _ _ rfl,frz_alloc_at _ _ _ _ _ rfl,by simp [Pre]⟩
theorem vrA {v:World} {b:Nat} {c:Array Value} (h1:blk v b=c:=by simp [go_sem]) (h2:frz v b=(0,0):=by simp [go_sem]) (h3:Pre (b+1) v.heap.size:=by simp [go_sem]):Vr v b c:=⟨h1,h2,h3⟩
end
section
structure Kz where
 ok:Value→World→Prop
 gr:∀ v w w',ok v w→Gr w w'→ok v w'
def Kz.c (v:Value):Kz:=⟨fun u _=>u=v,fun _ _ _ h _=>h⟩
def Kz.n (x:Nat):Kz:=⟨fun u w=>∃ p n,u=.slice p (dl x) n∧Sl w p x,fun _ _ _ ⟨p,n,e,h⟩ g=>⟨p,n,e,h.gr g⟩⟩
def kz (kp:List Kz) (i:Nat) (v:Value) (w:World):Prop:=match kp[i]? with | some k=>k.ok v w | none=>True
theorem kz.gr {kp:List Kz} {i:Nat} {v:Value} {w w':World} (h:kz kp i v w) (g:Gr w w'):kz kp i v w':=by
 unfold kz at h ⊢
 cases e:kp[i]? with
 | none=>trivial
 | some k=>rw [e] at h; exact k.gr _ _ _ h g
def Rt (k:Kz) (w:World) (e:Ending) (w':World):Prop:=∃ u,e=.returned u∧k.ok u w'∧Gr w w'
theorem Rt.c {P:Program} {f:FuncId} {args:Array Value} {w:World} {v:Value} (h:Calls P f args w fun e w'=>e=.returned v∧Gr w w'):Calls P f args w (Rt (.c v) w):=h.mono fun _ _ ⟨e,g⟩=>⟨_,e,rfl,g⟩
theorem Rt.n {P:Program} {f:FuncId} {args:Array Value} {w:World} {x:Nat} (h:Calls P f args w (Nm x w)):Calls P f args w (Rt (.n x) w):=h.mono fun _ _ ⟨p,n,e,s,g⟩=>⟨_,e,⟨p,n,rfl,s⟩,g⟩
theorem Rt.same {P:Program} {f:FuncId} {args:Array Value} {w:World} {v:Value} (h:Calls P f args w fun e w'=>e=.returned v∧w'=w):Calls P f args w (Rt (.c v) w):=h.mono fun _ _ ⟨e,g⟩=>⟨_,e,rfl,by rw [g]; exact Gr.refl _⟩
theorem wp_retz {P:Program} {o:Oper} {a:Act} {w:World} {K:Act→World→Prop} {Q:Exit→Act→World→Prop} {f:FuncId} {args:Array Value} {k:Kz} (h:(execOp a.eval o).run P w=.ok (.enter f args) w)
 (hc:Calls P f args w (Rt k w)) (hk:∀ u w',k.ok u w'→Gr w w'→K (a.put o.dst u) w'):o.wp P a w K Q:=by
 unfold Oper.wp; rw [h]
 exact hc.mono fun e w' ⟨u,he,hu,hg⟩=>by subst he; exact hk u w' hu hg
def RZ (W:World) (kp:List Kz) (listed:Array Bool) (vals:Nat→Value) (w:World):Prop:=
 Gr W w∧∀ j,listed.getD j false=true→kz kp j (vals j) w
theorem RZ.next {W w w':World} {kp:List Kz} {listed:Array Bool} {vals:Nat→Value} {i:Nat} {v:Value} (h:RZ W kp listed vals w) (hg:Gr w w') (hv:kz kp i v w'):RZ W kp (listed.setIfInBounds i true) (upd vals i v) w':=by
 refine ⟨h.1.trans hg,fun j hj=>?_⟩
 by_cases e:j=i
 ·subst e; simpa [upd] using hv
 ·rw [getD_set_other _ _ _ (Ne.symm e)] at hj
  simp only [upd,e,if_false]
  exact (h.2 j hj).gr hg
theorem putFrom_congr {vals vals':Nat→Value}:∀ (l:List Oper) (k:Nat) (a:Act),(∀ j o,l[j]? = some o→o.dst.isSome=true→vals (k+j)=vals' (k+j))→putFrom vals k l a=putFrom vals' k l a
 | [],_,_,_=>rfl
 | o :: l,k,a,h=>by
  rw [putFrom,putFrom]
  have e:a.put o.dst (vals k)=a.put o.dst (vals' k):=by
   cases hd:o.dst with
   | none=>rfl
   | some d=>rw [show vals k=vals' k from h 0 o rfl (by rw [hd]; rfl)]
  rw [e]
  exact putFrom_congr l (k+1) _ fun j o hj hd=>by
   have:=h (j+1) o (by simpa using hj) hd
   rw [show k+1+j=k+(j+1) by omega]; exact this
end
section
abbrev Wt:=Nat→Option Addr×Nat
structure Kw where
 val:Wt→Value
 ok:Wt→World→Prop
 gr:∀ x w w',ok x w→Gr w w'→ok x w'
 cst:Nat
 hc:cst≠0→∀ y w,ok y w
 hs:cst=2→∀ y,val y=undef
def Kw.c (v:Value):Kw:=⟨fun _=>v,fun _ _=>True,fun _ _ _ _ _=>trivial,1,fun _ _ _=>trivial,fun h=>absurd h (by decide)⟩
def Kw.u:Kw:=⟨fun _=>undef,fun _ _=>True,fun _ _ _ _ _=>trivial,2,fun _ _ _=>trivial,fun _ _=>rfl⟩
def Kw.n (x:Nat):Kw:=⟨fun y=>.slice (y 0).1 (dl x) (y 0).2,fun y w=>Sl w (y 0).1 x,fun _ _ _ h g=>h.gr g,0,fun h=>absurd rfl h,fun h=>absurd h (by decide)⟩
abbrev pv (b o:Nat):Value:=.pointer (some ⟨b,o,none⟩)
def Kw.kz (k:Kw):Kz:=⟨fun u w=>∃ y,u=k.val y∧k.ok y w,fun _ _ _ ⟨y,e,h⟩ g=>⟨y,e,k.gr _ _ _ h g⟩⟩
def kW (kp:List Kw) (i:Nat):Kw:=kp.getD i .u
def wvals (kp:List Kw) (x:Nat→Wt) (j:Nat):Value:=(kW kp j).val (x j)
def FW (l:List Oper) (kp:List Kw) (a0:Act) (x:Nat→Wt):Act:=putFrom (wvals kp x) 0 l a0
def opW (l:List Oper) (i:Nat):Oper:=(l[i]?).getD ⟨none,.move (.const undef),0, "", #[],none⟩
def wts (l:List Oper) (i j:Nat):Bool:=(opW l i).after.toList.any fun e=>e.on == j&&Region.binds .any e
def rdyO (l:List Oper) (i:Nat) (o:Oper):Bool:=
 (match o.op with | .select _ _=>false | _=>true) &&
 (o.op.operands.all fun y=>match y with | .tmp s=>(match own l.toArray s with | some j=>wts l i j | none=>true) | _=>true) &&
 (match o.guard with | some (g,_)=>wts l i g | none=>true)
def others (ex:List Nat) (q:Nat):List Nat:=(List.range q).filter fun i => !ex.contains i
def chkW (l:List Oper) (kp:List Kw) (ex:List Nat) (q:Nat):Bool:=
 uniqG l.toArray&&((List.range q).all fun i=>rdyO l i (opW l i))&&kp.length == q&&(others ex q).all fun i=>(kW kp i).cst != 0
def wnt (l:List Oper) (i:Nat) (a:Act):Bool:=Region.wanted (opW l i) (yielded l.toArray a.tmps)
def RtW (k:Kw) (w:World) (e:Ending) (w':World):Prop:=∃ y,e=.returned (k.val y)∧k.ok y w'∧Gr w w'
def StW (P:Program) (k:Kw) (a:Act) (o:Oper) (v:World):Prop:=
 (∃ y w',(execOp a.eval o).run P v=.ok (.value (k.val y)) w'∧Gr v w'∧k.ok y w')∨∃ f args,(execOp a.eval o).run P v=.ok (.enter f args) v∧Calls P f args v (RtW k v)
def ObW (P:Program) (l:List Oper) (kp:List Kw) (a0:Act) (W:World) (i:Nat):Prop:=
 ∀ (x:Nat→Wt) (v:World),Gr W v→(∀ j,wts l i j=true→(kW kp j).ok (x j) v)→wnt l i (FW l kp a0 x)=true∧StW P (kW kp i) (FW l kp a0 x) (opW l i) v
def ObsW (P:Program) (l:List Oper) (kp:List Kw) (a0:Act) (W:World):List Nat→Prop
 | []=>True
 | i :: r=>ObW P l kp a0 W i∧ObsW P l kp a0 W r
theorem ObsW.nil {P:Program} {l:List Oper} {kp:List Kw} {a0:Act} {W:World}:ObsW P l kp a0 W []:=trivial
theorem ObsW.cons {P:Program} {l:List Oper} {kp:List Kw} {a0:Act} {W:World} {i:Nat} {r:List Nat} (h:ObW P l kp a0 W i) (t:ObsW P l kp a0 W r):ObsW P l kp a0 W (i :: r):=⟨h,t⟩
theorem ObsW.at {P:Program} {l:List Oper} {kp:List Kw} {a0:Act} {W:World}:∀ {ex:List Nat},ObsW P l kp a0 W ex→∀ i,i∈ex→ObW P l kp a0 W i
 | [],_,_,h=>by cases h
 | e :: r,ho,i,h=>by
  rcases List.mem_cons.1 h with rfl | h
  ·exact ho.1
  ·exact ObsW.at ho.2 i h
def resW (P:Program) (l:List Oper) (kp:List Kw) (a0:Act) (x:Nat→Wt) (v:World) (i:Nat):Option (Result Next):=
 cond (wnt l i (FW l kp a0 x)) (some ((execOp (FW l kp a0 x).eval (opW l i)).run P v)) none
def expW (kp:List Kw) (x:Nat→Wt) (v:World) (i:Nat):Option (Result Next):=cond ((kW kp i).cst == 2) none (some (.ok (.value (wvals kp x i)) v))
def pureL (P:Program) (l:List Oper) (kp:List Kw) (a0:Act) (ex:List Nat) (q:Nat) (x:Nat→Wt) (v:World):List (Option (Result Next)):=(others ex q).map (resW P l kp a0 x v)
def pureR (kp:List Kw) (ex:List Nat) (q:Nat) (x:Nat→Wt) (v:World):List (Option (Result Next)):=(others ex q).map (expW kp x v)
theorem opW_is {l:List Oper} {i:Nat} {o:Oper} (h:l.toArray[i]? = some o):opW l i=o:=by
 have:l[i]? = some o:=by simpa using h
 rw [opW,this]; rfl
theorem eval_F {l:List Oper} {a0 a:Act} {vals vals':Nat→Value} {listed:Array Bool} (hu:uniqG l.toArray=true) (hF:Frm l.toArray a0 vals listed a) (s:Nat)
 (hy:∀ j,own l.toArray s=some j→listed.getD j false=true∧vals j=vals' j):a.tmps[s]? = (putFrom vals' 0 l a0).tmps[s]?:=by
 have hE:=putFrom_frm (a0:=a0) (vals:=vals') hu l 0 a0 (fun j=>by simp) (Frm.start_up l a0 vals')
 by_cases hs:s<a0.tmps.size
 ·rw [hF.2.2 s hs,hE.2.2 s hs]
  cases ho:own l.toArray s with
  | none=>rfl
  | some j=>
   obtain ⟨h1,h2⟩:=hy j ho
   obtain ⟨o,h3, -⟩:=own_spec ho
   have hj:j<l.length:=by simpa using (Array.getElem?_eq_some_iff.1 h3).1
   simp only [h1,if_true,upTo_getD]
   rw [if_pos (by simpa using hj),h2]
 ·rw [Array.getElem?_eq_none (by rw [hF.2.1]; omega),Array.getElem?_eq_none (by rw [hE.2.1]; omega)]
theorem kz_W {kp:List Kw} {j:Nat} (hj:j<kp.length) (u:Value) (v:World):kz (kp.map Kw.kz) j u v↔∃ y,u=(kW kp j).val y∧(kW kp j).ok y v:=by
 have e:kp[j]? = some (kW kp j):=by rw [kW,List.getD_eq_getElem?_getD,List.getElem?_eq_getElem hj]; rfl
 unfold kz
 rw [List.getElem?_map,e]
 exact Iff.rfl
theorem atW {l:List Oper} {kp:List Kw} {ex:List Nat} {q:Nat} {a0:Act} {listed:Array Bool} {vals:Nat→Value} (hk:chkW l kp ex q=true) {a:Act} {v:World} {i:Nat} {o:Oper} (hK:∀ j,listed.getD j false=true→kz (kp.map Kw.kz) j (vals j) v) (hF:Frm l.toArray a0 vals listed a) (hi:l.toArray[i]? = some o) (hq:i<q)
 (hd:∀ e∈o.after,Region.binds .any e=true→listed.getD e.on false=true):
 ∃ x:Nat→Wt,(∀ j,wts l i j=true→listed.getD j false=true∧vals j=(kW kp j).val (x j)∧(kW kp j).ok (x j) v)∧execOp a.eval o=execOp (FW l kp a0 x).eval o∧Region.wanted o (yielded l.toArray a.tmps)=wnt l i (FW l kp a0 x):=by
 simp only [chkW,Bool.and_eq_true,beq_iff_eq] at hk
 obtain ⟨⟨⟨hu,hr⟩,hlen⟩,hcs⟩:=hk
 have hoi:=opW_is hi
 have hx0:∀ j,∃ y:Wt,wts l i j=true→vals j=(kW kp j).val y∧(kW kp j).ok y v:=fun j=>by
  by_cases h:wts l i j=true
  ·have hl:listed.getD j false=true:=on_of hd j (by rw [wts,hoi,Array.any_toList] at h; exact h)
   have hj:j<i:=by
    obtain ⟨e,he,hb⟩:=Array.any_eq_true.1 (show (o.after.any fun e=>e.on == j&&Region.binds .any e)=true by rw [wts,hoi,Array.any_toList] at h; exact h)
    simp only [Bool.and_eq_true,beq_iff_eq] at hb
    rw [← hb.1]
    exact (uniq_at hu hi).2 _ (Array.getElem_mem he) hb.2
   obtain ⟨y,h1,h2⟩:=(kz_W (by omega) _ _).1 (hK j hl)
   exact ⟨y,fun _=>⟨h1,h2⟩⟩
  ·exact ⟨fun _=>(none,0),fun h'=>absurd h' h⟩
 obtain ⟨x,hx⟩:=Classical.axiomOfChoice hx0
 have hro:=List.all_eq_true.1 hr i (by simpa using hq)
 rw [hoi] at hro
 simp only [rdyO,Bool.and_eq_true] at hro
 obtain ⟨⟨hsel,hops⟩,hgd⟩:=hro
 have hlt:∀ j,wts l i j=true→listed.getD j false=true:=fun j h=>on_of hd j (by rw [wts,hoi,Array.any_toList] at h; exact h)
 have hslot:∀ s,(match own l.toArray s with | some j=>wts l i j | none=>true)=true→a.tmps[s]? = (FW l kp a0 x).tmps[s]? := fun s hs=>by
  refine eval_F hu hF s fun j hj=>?_
  have hs':wts l i j=true:=by rw [hj] at hs; exact hs
  exact ⟨hlt j hs',(hx j hs').1⟩
 refine ⟨x,fun j hj=>⟨hlt j hj,hx j hj⟩,?_,?_⟩
 ·refine execOp_congr o (fun cs b h=>by rw [h] at hsel; cases hsel) fun y hy=>?_
  have hy':=Array.all_eq_true_iff_forall_mem.1 hops y hy
  cases y with
  | tmp s=>
   have:=hslot s hy'
   simp only [Act.eval,Array.getD_eq_getD_getElem?,this]
  | _=>rfl
 ·rw [wnt,hoi]
  unfold Region.wanted
  cases hg:o.guard with
  | none=>rfl
  | some gw=>
   obtain ⟨g,b⟩:=gw
   rw [hg] at hgd
   simp only
   have hy:yielded l.toArray a.tmps g=yielded l.toArray (FW l kp a0 x).tmps g:=by
    unfold yielded
    cases ht:(l.toArray[g]?).bind (·.dst) with
    | none=>rfl
    | some t=>
     have:own l.toArray t=some g:=by
      obtain ⟨og,h1,h2⟩:=Option.bind_eq_some_iff.1 ht
      exact (uniq_at hu h1).1 t h2
     simp only [Option.bind_some]
     rw [hslot t (by rw [this]; exact hgd)]
   rw [hy]
theorem stepW {P:Program} {l:List Oper} {kp:List Kw} {ex:List Nat} {q:Nat} {a0:Act} {W:World} {Q:Exit→Act→World→Prop} (hk:chkW l kp ex q=true) (hp:pureL P l kp a0 ex q=pureR kp ex q) (listed:Array Bool) (vals:Nat→Value) (a:Act) (v:World) (i:Nat) (o:Oper) (ho:i∈ex→ObW P l kp a0 W i) (hG:Gr W v) (hK:∀ j,listed.getD j false=true→kz (kp.map Kw.kz) j (vals j) v) (hF:Frm l.toArray a0 vals listed a) (hi:l.toArray[i]? = some o) (hq:i<q)
 (hd:∀ e∈o.after,Region.binds .any e=true→listed.getD e.on false=true):
 (Region.wanted o (yielded l.toArray a.tmps)=true∧o.wp P a v (fun a' w'=>∃ u,a'=a.put o.dst u∧Gr v w'∧kz (kp.map Kw.kz) i u w') Q)∨(Region.wanted o (yielded l.toArray a.tmps)=false∧kz (kp.map Kw.kz) i undef v):=by
 obtain ⟨x,hx,hev,hwn⟩:=atW hk hK hF hi hq hd
 simp only [chkW,Bool.and_eq_true,beq_iff_eq] at hk
 obtain ⟨⟨-,hlen⟩,hcs⟩:=hk
 have hkz:=fun (u:Value) (w:World)=>kz_W (kp:=kp) (j:=i) (by omega) u w
 have hoi:=opW_is hi
 rw [hwn]
 by_cases hm:i∈ex
 ·obtain ⟨h1,h2⟩:=ho hm x v hG fun j hj=>(hx j hj).2.2
  refine Or.inl ⟨h1,?_⟩
  rw [hoi] at h2
  obtain ⟨y,w',hrun,hg,hok⟩ | ⟨f,args,hrun,hc⟩:=h2
  ·exact wp_val _ (by rw [hev]; exact hrun) ⟨_,rfl,hg,(hkz _ _).2 ⟨y,rfl,hok⟩⟩
  ·refine wp_retz (k:=(kW kp i).kz) (by rw [hev]; exact hrun) (hc.mono fun e w' ⟨y,he,hok,hg⟩=>⟨_,he,⟨y,rfl,hok⟩,hg⟩) fun u w' hu' hg=>⟨u,rfl,hg,(hkz _ _).2 hu'⟩
 ·have hmem:i∈others ex q:=List.mem_filter.2 ⟨by simpa using hq,by simpa using hm⟩
  have hcst:=List.all_eq_true.1 hcs i hmem
  simp only [bne_iff_ne,ne_eq] at hcst
  have hpi:resW P l kp a0 x v i=expW kp x v i:=List.map_inj_left.1 (congrFun (congrFun hp x) v) i hmem
  simp only [resW,expW,hoi] at hpi
  cases hw:wnt l i (FW l kp a0 x) with
  | true=>
   rw [hw] at hpi
   refine Or.inl ⟨rfl,?_⟩
   cases h2:(kW kp i).cst == 2 with
   | true=>rw [h2] at hpi; cases hpi
   | false=>
    rw [h2] at hpi
    exact wp_val _ (by rw [hev]; exact Option.some.inj hpi) ⟨_,rfl,Gr.refl _,(hkz _ _).2 ⟨x i,rfl,(kW kp i).hc hcst _ _⟩⟩
  | false=>
   rw [hw] at hpi
   refine Or.inr ⟨rfl,?_⟩
   cases h2:(kW kp i).cst == 2 with
   | true=>exact (hkz _ _).2 ⟨x i,((kW kp i).hs (by simpa using h2) _).symm,(kW kp i).hc hcst _ _⟩
   | false=>rw [h2] at hpi; cases hpi
theorem finW {kp:List Kw} {q:Nat} {vals:Nat→Value} {v:World} (hlen:kp.length=q) (hK:∀ j,j<q→kz (kp.map Kw.kz) j (vals j) v):∃ x:Nat→Wt,(∀ j,j<q→vals j=wvals kp x j)∧∀ j,(kW kp j).ok (x j) v:=by
 have h0:∀ j,∃ y:Wt,(j<q→vals j=(kW kp j).val y)∧(kW kp j).ok y v:=fun j=>by
  by_cases hj:j<q
  ·have h:=hK j hj
   have e:kp[j]? = some (kW kp j):=by rw [kW,List.getD_eq_getElem?_getD,List.getElem?_eq_getElem (by omega)]; rfl
   unfold kz at h
   rw [List.getElem?_map,e] at h
   obtain ⟨y,h1,h2⟩:=h
   exact ⟨y,fun _=>h1,h2⟩
  ·refine ⟨fun _=>(none,0),fun h=>absurd h hj,?_⟩
   have e:kW kp j=.u:=by rw [kW,List.getD_eq_getElem?_getD,List.getElem?_eq_none (by omega)]; rfl
   rw [e]; trivial
 obtain ⟨x,hx⟩:=Classical.axiomOfChoice h0
 exact ⟨x,fun j hj=>(hx j).1 hj,fun j=>(hx j).2⟩
theorem chk_u {l:List Oper} {kp:List Kw} {ex:List Nat} {q:Nat} (hk:chkW l kp ex q=true):uniqG l.toArray=true∧kp.length=q:=by
 simp only [chkW,Bool.and_eq_true,beq_iff_eq] at hk
 exact ⟨hk.1.1.1,hk.1.2⟩
section
variable {P:Program} {id:Nat} {l:List Oper} {Q:Exit→Act→World→Prop} {a0:Act} {W:World}
theorem wp_r (d:Bool) (kp:List Kw) (ex:List Nat) (ho:ObsW P l kp a0 W ex)
 (hfin:∀ x v,Gr W v→(∀ j,(kW kp j).ok (x j) v)→Q .normal (FW l kp a0 x) v) (hm:d=true→P.follows .mixedOrders=true) (hk:chkW l kp ex l.length=true) (hp:pureL P l kp a0 ex l.length=pureR kp ex l.length):(Code.region id l.toArray d).wp P Q a0 W:=by
 obtain ⟨hu,hlen⟩:=chk_u hk
 refine wp_region_ord d hm hu (RZ W (kp.map Kw.kz)) (fun listed w' h0 hg=>⟨hg,fun j hj=>by rw [h0] at hj; cases hj⟩) (fun listed vals a v i o hz hR hF hi hl hd _=>?_) fun listed vals a v hall hR hF=>?_
 ·obtain ⟨h1,h2⟩ | ⟨h1,h2⟩:=stepW hk hp listed vals a v i o (fun h=>ho.at i h) hR.1 hR.2 hF hi (by simpa using (Array.getElem?_eq_some_iff.1 hi).1) hd
  ·refine Or.inl ⟨h1,Oper.wp_mono (fun a' w' h=>?_) h2⟩
   obtain ⟨u,rfl,hg,hv⟩:=h
   exact ⟨u,rfl,hR.next hg hv⟩
  ·exact Or.inr ⟨h1,hR.next (Gr.refl _) h2⟩
 ·obtain ⟨x,h1,h2⟩:=finW hlen (fun j hj=>hR.2 j (hall j (by simpa using hj)))
  rw [hF.final hu hall,putFrom_congr (vals':=wvals kp x) l 0 a0 fun j o hj _=>by rw [Nat.zero_add]; exact h1 j (List.getElem?_eq_some_iff.1 hj).1]
  exact hfin x v hR.1 h2
theorem wp_w (kp:List Kw) (ex:List Nat) (ho:ObsW P l kp a0 W ex)
 (hfin:∀ x v,Gr W v→(∀ j,(kW kp j).ok (x j) v)→Q .normal (FW l kp a0 x) v) (hm:P.follows .mixedOrders=true:=by kernel_rfl) (hk:chkW l kp ex l.length=true:=by kernel_rfl) (hp:pureL P l kp a0 ex l.length=pureR kp ex l.length:=by kernel_rfl):(Code.region id l.toArray true).wp P Q a0 W:=wp_r true kp ex ho hfin (fun _=>hm) hk hp
theorem wp_wS (kp:List Kw) (ex:List Nat) (ho:ObsW P l kp a0 W ex)
 (hfin:∀ x v,Gr W v→(∀ j,(kW kp j).ok (x j) v)→Q .normal (FW l kp a0 x) v) (hk:chkW l kp ex l.length=true:=by kernel_rfl) (hp:pureL P l kp a0 ex l.length=pureR kp ex l.length:=by kernel_rfl):(Code.region id l.toArray false).wp P Q a0 W:=wp_r false kp ex ho hfin (fun h=>by cases h) hk hp
theorem ObW.k {kp:List Kw} {i:Nat} {f:FuncId} (args:(Nat→Wt)→Array Value) (hc:∀ x v,Gr W v→(∀ j,wts l i j=true→(kW kp j).ok (x j) v)→Calls P f (args x) v (RtW (kW kp i) v))
 (hr:(fun x v=>resW P l kp a0 x v i)=fun x v=>some (.ok (.enter f (args x)) v):=by kernel_rfl):ObW P l kp a0 W i:=fun x v hg h=>by
 have:=congrFun (congrFun hr x) v
 simp only [resW] at this
 cases hw:wnt l i (FW l kp a0 x) with
 | false=>rw [hw] at this; cases this
 | true=>
  rw [hw] at this
  exact ⟨rfl,.inr ⟨f,args x,Option.some.inj this,hc x v hg h⟩⟩
theorem ObW.p {kp:List Kw} {i:Nat} (y:(Nat→Wt)→Wt) (hc:∀ x v,Gr W v→(∀ j,wts l i j=true→(kW kp j).ok (x j) v)→(kW kp i).ok (y x) v)
 (hr:(fun x v=>resW P l kp a0 x v i)=fun x v=>some (.ok (.value ((kW kp i).val (y x))) v):=by kernel_rfl):ObW P l kp a0 W i:=fun x v hg h=>by
 have:=congrFun (congrFun hr x) v
 simp only [resW] at this
 cases hw:wnt l i (FW l kp a0 x) with
 | false=>rw [hw] at this; cases this
 | true=>
  rw [hw] at this
  exact ⟨rfl,.inl ⟨y x,v,Option.some.inj this,Gr.refl _,hc x v hg h⟩⟩
theorem ObW.m {kp:List Kw} {i:Nat} (j:Nat) (hc:∀ y v,(kW kp j).ok y v→(kW kp i).ok y v:=by first | exact fun _ _ h=>h | exact fun _ _ _=>trivial) (hw:wts l i j=true:=by rfl)
 (hr:(fun x v=>resW P l kp a0 x v i)=fun x v=>some (.ok (.value ((kW kp i).val (x j))) v):=by kernel_rfl):ObW P l kp a0 W i:=ObW.p (fun x=>x j) (fun _ _ _ h=>hc _ _ (h j hw)) hr
theorem ObW.e {kp:List Kw} {i:Nat} (e:(Nat→Wt)→Sem Next) (hr:(fun x=>cond (wnt l i (FW l kp a0 x)) (some (execOp (FW l kp a0 x).eval (opW l i))) none)=fun x=>some (e x))
 (hc:∀ x v,Gr W v→(∀ j,wts l i j=true→(kW kp j).ok (x j) v)→∃ y w',(e x).run P v=.ok (.value ((kW kp i).val y)) w'∧Gr v w'∧(kW kp i).ok y w'):ObW P l kp a0 W i:=fun x v hg h=>by
 have:=congrFun hr x
 cases hw:wnt l i (FW l kp a0 x) with
 | false=>rw [hw] at this; cases this
 | true=>
  rw [hw] at this
  have e1:execOp (FW l kp a0 x).eval (opW l i)=e x:=Option.some.inj this
  exact ⟨rfl,.inl (by rw [e1]; exact hc x v hg h)⟩
def exI (op:Op):Sem Next:=execOp (Act.eval ⟨#[],[]⟩) ⟨none,op,0, "", #[],none⟩
def runW (l:List Oper) (kp:List Kw) (a0:Act) (i:Nat) (x:Nat→Wt):Option (Sem Next):=cond (wnt l i (FW l kp a0 x)) (some (execOp (FW l kp a0 x).eval (opW l i))) none
theorem ObW.s {kp:List Kw} {i:Nat} {u:Value} (op:Op) (hk:kW kp i=.c u) (hc:∀ v,Gr W v→(exI op).run P v=.ok (.value u) v) (hr:runW l kp a0 i=fun _=>some (exI op):=by kernel_rfl):ObW P l kp a0 W i:=
 ObW.e (fun _=>exI op) hr fun _ v hg _=>⟨fun _=>(none,0),v,by rw [hk]; exact hc v hg,Gr.refl _,by rw [hk]; trivial⟩
theorem ObW.g {kp:List Kw} {i b:Nat} {c:Array Value} {u:Value} (t:TypeId) (off:Nat) (hb:Vr W b c) (hk:kW kp i=.c u) (hc:∀ v:World,blk v b=c→(exI (.load t (.const (.pointer (some ⟨b,off,none⟩))))).run P v=.ok (.value u) v:=by intro vv H; simp [go_sem,exI,H])
 (hr:runW l kp a0 i=fun _=>some (exI (.load t (.const (.pointer (some ⟨b,off,none⟩))))):=by kernel_rfl):ObW P l kp a0 W i:=
 ObW.s _ hk (fun v hg=>hc v (hb.gr hg).h) hr
end
theorem RtW.of_n {P:Program} {f:FuncId} {args:Array Value} {w:World} {x:Nat} (h:Calls P f args w (Rt (.n x) w)):Calls P f args w (RtW (.n x) w):=h.mono fun _ _ ⟨_,e,⟨p,n,e2,s⟩,g⟩=>⟨fun _=>(p,n),by rw [e,e2]; rfl,s,g⟩
theorem RtW.of_c {P:Program} {f:FuncId} {args:Array Value} {w:World} {v:Value} (h:Calls P f args w (Rt (.c v) w)):Calls P f args w (RtW (.c v) w):=h.mono fun _ _ ⟨_,e,e2,g⟩=>⟨fun _=>(none,0),(show _=v from e2) ▸ e,trivial,g⟩
theorem lqA {α:Type} (l:List α) (i:Nat) (a:α):l.toArray.setIfInBounds i a=(l.set i a).toArray:=List.setIfInBounds_toArray l i a
theorem lqB {α:Type} {x:α} {xs:List α} {a:α}:(x :: xs).set 0 a=a :: xs:=rfl
theorem lqC {α:Type} {x:α} {xs:List α} {i:Nat} {a:α}:(x :: xs).set (i+1) a=x :: xs.set i a:=rfl
theorem lqD {α:Type} {x:α} {xs:List α} {d:α}:(x :: xs).getD 0 d=x:=rfl
theorem lqE {α:Type} {x:α} {xs:List α} {n:Nat} {d:α}:(x :: xs).getD (n+1) d=xs.getD n d:=rfl
end
section
def Kw.a:Kw:=⟨fun y=>.pointer (some ⟨(y 0).2,0,none⟩),fun _ _=>True,fun _ _ _ _ _=>trivial,0,fun _ _ _=>trivial,fun h=>absurd h (by decide)⟩
def Kw.r (n:Nat) (c:Array Value):Kw:=⟨fun y=>.slice (some ⟨(y 0).2,0,none⟩) n n,fun y w=>Vr w (y 0).2 c,fun _ _ _ h g=>h.gr g,0,fun h=>absurd rfl h,fun h=>absurd h (by decide)⟩
theorem ObW.r {P:Program} {l:List Oper} {a0:Act} {W:World} {kp:List Kw} {i n:Nat} {t:TypeId} {c:Array Value} (op:Op) (hk:kW kp i=.r n c)
 (hc:∀ v:World,(exI op).run P v=.ok (.value (.slice (some ⟨v.heap.size,0,none⟩) n n)) (v.alloc (.cells c t))) (hr:runW l kp a0 i=fun _=>some (exI op):=by kernel_rfl):ObW P l kp a0 W i:=
 ObW.e (fun _=>exI op) hr fun _ v hg _=>⟨fun _=>(none,v.heap.size),_,by rw [hk]; exact hc v,(Gr.refl _).alloc _,by rw [hk]; exact Vr.new _ _ _⟩
structure Ent where
 j:Nat
 i:Nat
 t:TypeId
 z:Array Value
 c:(Nat→Wt)→Array Value
def FarK (z:Array Value) (k:Kw):Prop:=∀ y w b d,blk w b=z→k.ok y w→k.ok y (setBlk w b d)
section
variable {z:Array Value}
theorem fkc {v:Value}:FarK z (.c v):=fun _ _ _ _ _ _=>trivial
theorem fku:FarK z .u:=fun _ _ _ _ _ _=>trivial
theorem fka:FarK z .a:=fun _ _ _ _ _ _=>trivial
theorem fkr {n:Nat} {c:Array Value} (h:c.size≠z.size):FarK z (.r n c):=fun _ _ _ _ e k=>k.other fun eb=>h (by rw [← e,eb,k.h])
end
def FarL (z:Array Value):List Kw→Prop
 | []=>True
 | k :: r=>FarK z k∧FarL z r
theorem FarL.at {z:Array Value}:∀ {kp:List Kw},FarL z kp→∀ i,FarK z (kW kp i)
 | [],_,_=>fku
 | _ :: _,h,0=>h.1
 | _ :: r,h,i+1=>FarL.at (kp:=r) h.2 i
def ExV (ex:List Nat) (st:List Ent):List Nat:=ex++st.map Ent.j++st.map Ent.i
structure ObV (P:Program) (l:List Oper) (kp:List Kw) (a0:Act) (e:Ent):Prop where
 hc:∀ x x',(∀ j,wts l e.i j=true→(kW kp j).val (x j)=(kW kp j).val (x' j))→e.c x=e.c x'
 hs:∀ x v b,blk v b=e.z→frz v b=(0,0)→(exI (.store e.t (.const (.pointer (some ⟨b,0,none⟩))) (.const (.agg (e.c x))))).run P v=.ok .skip (setBlk v b (e.c x))
 hz:0<e.z.size
 hf:FarL e.z kp
 hn:∀ v:World,(exI (.alloc e.t)).run P v=.ok (.value (.pointer (some ⟨v.heap.size,0,none⟩))) (v.alloc (.cells e.z e.t)):=by intro vv; simp [go_sem,exI]
 ka:kW kp e.j=.a:=by rfl
 ku:kW kp e.i=.u:=by rfl
 hw:wts l e.i e.j=true:=by rfl
 rj:runW l kp a0 e.j=fun _=>some (exI (.alloc e.t)):=by kernel_rfl
 ri:runW l kp a0 e.i=fun x=>some (exI (.store e.t (.const (.pointer (some ⟨(x e.j 0).2,0,none⟩))) (.const (.agg (e.c x))))):=by kernel_rfl
structure ObY (P:Program) (l:List Oper) (kp:List Kw) (a0:Act) (e:Ent):Prop where
 hc:∀ x x',(∀ j,wts l e.i j=true→(kW kp j).val (x j)=(kW kp j).val (x' j))→e.c x=e.c x'
 hs:∀ x v b,blk v b=e.z→frz v b=(0,0)→(exI (.store e.t (.const (.pointer (some ⟨b,0,none⟩))) (.const (.agg (e.c x))))).run P v=.ok .skip (setBlk v b (e.c x))
 hz:0<e.z.size
 hn:∀ v:World,(exI (.alloc e.t)).run P v=.ok (.value (.pointer (some ⟨v.heap.size,0,none⟩))) (v.alloc (.cells e.z e.t)):=by intro vv; simp [go_sem,exI]
 ka:kW kp e.j=.a:=by rfl
 ku:kW kp e.i=.u:=by rfl
 hw:wts l e.i e.j=true:=by rfl
 rj:runW l kp a0 e.j=fun _=>some (exI (.alloc e.t)):=by kernel_rfl
 ri:runW l kp a0 e.i=fun x=>some (exI (.store e.t (.const (.pointer (some ⟨(x e.j 0).2,0,none⟩))) (.const (.agg (e.c x))))):=by kernel_rfl
theorem ObV.y {P:Program} {l:List Oper} {kp:List Kw} {a0:Act} {e:Ent} (h:ObV P l kp a0 e):ObY P l kp a0 e:=⟨h.hc,h.hs,h.hz,h.hn,h.ka,h.ku,h.hw,h.rj,h.ri⟩
def ForY {α:Type} (p:α→Prop):List α→Prop
 | []=>True
 | e :: r=>p e∧ForY p r
theorem ForY.nil {α:Type} {p:α→Prop}:ForY p []:=trivial
theorem ForY.at {α:Type} {p:α→Prop}:∀ {st:List α},ForY p st→∀ e,e∈st→p e
 | [],_,_,h=>by cases h
 | e :: r,ho,e',h=>by
  rcases List.mem_cons.1 h with rfl | h
  ·exact ho.1
  ·exact ForY.at ho.2 e' h
def ObR (P:Program) (l:List Oper) (kp:List Kw) (a0:Act) (i:Nat):Prop:=
 ∃ n c t op,kW kp i=.r n c∧(∀ v:World,(exI op).run P v=.ok (.value (.slice (some ⟨v.heap.size,0,none⟩) n n)) (v.alloc (.cells c t)))∧runW l kp a0 i=fun _=>some (exI op)
def Sep (st:List Ent) (rw:List Nat) (listed:Array Bool) (vals:Nat→Value):Prop:=
 ∀ e,e∈st→listed.getD e.j false=true→∀ j,j∈rw→listed.getD j false=true→∀ b' b n c,vals e.j=.pointer (some ⟨b',0,none⟩)→vals j=.slice (some ⟨b,0,none⟩) n c→b'≠b
def ObsV (P:Program) (l:List Oper) (kp:List Kw) (a0:Act):List Ent→Prop
 | []=>True
 | e :: r=>ObV P l kp a0 e∧ObsV P l kp a0 r
theorem ObsV.nil {P:Program} {l:List Oper} {kp:List Kw} {a0:Act}:ObsV P l kp a0 []:=trivial
theorem ObsV.cons {P:Program} {l:List Oper} {kp:List Kw} {a0:Act} {e:Ent} {r:List Ent} (h:ObV P l kp a0 e) (t:ObsV P l kp a0 r):ObsV P l kp a0 (e :: r):=⟨h,t⟩
theorem ObsV.at {P:Program} {l:List Oper} {kp:List Kw} {a0:Act}:∀ {st:List Ent},ObsV P l kp a0 st→∀ e,e∈st→ObV P l kp a0 e
 | [],_,_,h=>by cases h
 | e :: r,ho,e',h=>by
  rcases List.mem_cons.1 h with rfl | h
  ·exact ho.1
  ·exact ObsV.at ho.2 e' h
theorem map_one {α:Type} (f:α→Nat):∀ {st:List α},(st.map f).Nodup→∀ e e',e∈st→e'∈st→f e=f e'→e=e'
 | [],_,_,_,h,_,_=>by cases h
 | a :: r,hn,e,e',h,h',he=>by
  rw [List.map_cons,List.nodup_cons] at hn
  rcases List.mem_cons.1 h with h1 | h1 <;> rcases List.mem_cons.1 h' with h2 | h2
  ·rw [h1,h2]
  ·rw [h1] at he; exact absurd (he ▸ List.mem_map_of_mem h2) hn.1
  ·rw [h2] at he; exact absurd (he ▸ List.mem_map_of_mem h1) hn.1
  ·exact map_one f hn.2 e e' h1 h2 he
def RV (W:World) (l:List Oper) (kp:List Kw) (st:List Ent) (listed:Array Bool) (vals:Nat→Value) (w:World):Prop:=
 RZ W (kp.map Kw.kz) listed vals w∧(∀ e,e∈st→listed.getD e.i false=true→∀ j,wts l e.i j=true→listed.getD j false=true) ∧
 ∃ B:Nat→Nat,(∀ e,e∈st→listed.getD e.j false=true→vals e.j=.pointer (some ⟨B e.j,0,none⟩)∧W.heap.size≤B e.j∧B e.j<w.heap.size∧frz w (B e.j)=(0,0) ∧
  (listed.getD e.i false=false→blk w (B e.j)=e.z)∧(listed.getD e.i false=true→∃ x:Nat→Wt,(∀ j,wts l e.i j=true→vals j=(kW kp j).val (x j))∧blk w (B e.j)=e.c x)) ∧
  (∀ e e',e∈st→e'∈st→listed.getD e.j false=true→listed.getD e'.j false=true→B e.j=B e'.j→e=e')
section
variable {P:Program} {l:List Oper} {Q:Exit→Act→World→Prop} {a0:Act} {W:World} {kp:List Kw} {ex rw:List Nat} {st:List Ent} {listed:Array Bool} {vals:Nat→Value} {w w':World}
theorem set_mono {i j:Nat} (h:listed.getD j false=true) (hi:i<listed.size):(listed.setIfInBounds i true).getD j false=true:=by
 by_cases e:j=i
 ·subst e; exact getD_set_same _ _ hi
 ·rw [getD_set_other _ _ _ (Ne.symm e)]; exact h
theorem ne_un {i j:Nat} (h:listed.getD j false=true) (hl:listed.getD i false=false):j≠i:=fun e=>by
 subst e; rw [h] at hl; cases hl
theorem RV.next (h:RV W l kp st listed vals w) {i:Nat} {v:Value} (hi:i<listed.size) (hl:listed.getD i false=false) (hA:∀ e,e∈st→e.j≠i∧e.i≠i) (hg:Gr w w') (hv:kz (kp.map Kw.kz) i v w'):
 RV W l kp st (listed.setIfInBounds i true) (upd vals i v) w':=by
 obtain ⟨h1,h2,B,h3,h4⟩:=h
 refine ⟨h1.next hg hv,fun e he hle j hj=>?_,B,fun e he hlj=>?_,fun e e' he he' h5 h6=>?_⟩
 ·rw [getD_set_other _ _ _ (Ne.symm (hA e he).2)] at hle
  exact set_mono (h2 e he hle j hj) hi
 ·rw [getD_set_other _ _ _ (Ne.symm (hA e he).1)] at hlj
  obtain ⟨a1,a2,a3,a4,a5,a6⟩:=h3 e he hlj
  refine ⟨by simp only [upd,(hA e he).1,if_false]; exact a1,a2,Nat.lt_of_lt_of_le a3 hg.below.size,by rw [hg.frz _ a3]; exact a4,fun h=>?_,fun h=>?_⟩
  ·rw [getD_set_other _ _ _ (Ne.symm (hA e he).2)] at h
   rw [hg.blk _ a3]; exact a5 h
  ·rw [getD_set_other _ _ _ (Ne.symm (hA e he).2)] at h
   obtain ⟨x,hx,hb⟩:=a6 h
   refine ⟨x,fun j hj=>?_,by rw [hg.blk _ a3]; exact hb⟩
   simp only [upd,ne_un (h2 e he h j hj) hl,if_false]
   exact hx j hj
 ·rw [getD_set_other _ _ _ (Ne.symm (hA e he).1)] at h5
  rw [getD_set_other _ _ _ (Ne.symm (hA e' he').1)] at h6
  exact h4 e e' he he' h5 h6
theorem RV.alloc (h:RV W l kp st listed vals w) (e:Ent) (he:e∈st) (hj1:(st.map Ent.j).Nodup) (hij:∀ e e',e∈st→e'∈st→e.i≠e'.j) (hw:wts l e.i e.j=true) (hi:e.j<listed.size) (hl:listed.getD e.j false=false) (hk:e.j<kp.length) (ka:kW kp e.j=.a):
 RV W l kp st (listed.setIfInBounds e.j true) (upd vals e.j (.pointer (some ⟨w.heap.size,0,none⟩))) (w.alloc (.cells e.z e.t)):=by
 obtain ⟨h1,h2,B,h3,h4⟩:=h
 have hg:Gr w (w.alloc (.cells e.z e.t)):=(Gr.refl w).alloc _
 have hei:listed.getD e.i false≠true:=fun h=>by rw [h2 e he h e.j hw] at hl; cases hl
 refine ⟨h1.next hg ((kz_W hk _ _).2 ⟨fun _=>(none,w.heap.size),by rw [ka]; rfl,by rw [ka]; trivial⟩),fun e' he' hle j hj=>?_,fun m=>if m=e.j then w.heap.size else B m,fun e' he' hlj=>?_,fun e1 e2 he1 he2 h5 h6 h7=>?_⟩
 ·rw [getD_set_other _ _ _ (Ne.symm (hij e' e he' he))] at hle
  exact set_mono (h2 e' he' hle j hj) hi
 ·by_cases ee:e'.j=e.j
  ·obtain rfl:=map_one Ent.j hj1 e' e he' he ee
   simp only [if_true,upd]
   refine ⟨trivial,h1.1.below.size,by simp,frz_alloc_at _ _ _ _ _ rfl,fun _=>blk_alloc_at _ _ _ _ _ rfl,fun h=>?_⟩
   rw [getD_set_other _ _ _ (Ne.symm (hij e' e' he' he'))] at h
   exact absurd h hei
  ·rw [getD_set_other _ _ _ (Ne.symm ee)] at hlj
   obtain ⟨a1,a2,a3,a4,a5,a6⟩:=h3 e' he' hlj
   simp only [ee,if_false,upd]
   refine ⟨a1,a2,Nat.lt_of_lt_of_le a3 hg.below.size,by rw [hg.frz _ a3]; exact a4,fun h=>?_,fun h=>?_⟩
   ·rw [getD_set_other _ _ _ (Ne.symm (hij e' e he' he))] at h
    rw [hg.blk _ a3]; exact a5 h
   ·rw [getD_set_other _ _ _ (Ne.symm (hij e' e he' he))] at h
    obtain ⟨x,hx,hb⟩:=a6 h
    refine ⟨x,fun j hj=>?_,by rw [hg.blk _ a3]; exact hb⟩
    simp only [ne_un (h2 e' he' h j hj) hl,if_false]
    exact hx j hj
 ·by_cases x1:e1.j=e.j <;> by_cases x2:e2.j=e.j
  ·exact map_one Ent.j hj1 e1 e2 he1 he2 (x1.trans x2.symm)
  ·rw [getD_set_other _ _ _ (Ne.symm x2)] at h6
   simp only [x1,x2,if_true,if_false] at h7
   have:=(h3 e2 he2 h6).2.2.1
   omega
  ·rw [getD_set_other _ _ _ (Ne.symm x1)] at h5
   simp only [x1,x2,if_true,if_false] at h7
   have:=(h3 e1 he1 h5).2.2.1
   omega
  ·rw [getD_set_other _ _ _ (Ne.symm x1)] at h5
   rw [getD_set_other _ _ _ (Ne.symm x2)] at h6
   simp only [x1,x2,if_false] at h7
   exact h4 e1 e2 he1 he2 h5 h6 h7
theorem RV.at (h:RV W l kp st listed vals w) {e:Ent} (hl:listed.getD e.j false=true) (he:e∈st) {b:Nat} (hv:vals e.j=.pointer (some ⟨b,0,none⟩)) (hi:listed.getD e.i false=false):blk w b=e.z:=by
 obtain ⟨-, -,B,h3, -⟩:=h
 obtain ⟨a1, -, -, -,a5, -⟩:=h3 e he hl
 rw [hv] at a1
 simp only [Value.pointer.injEq,Option.some.injEq,Addr.mk.injEq] at a1
 rw [a1.1]
 exact a5 hi
theorem RV.storeY (h:RV W l kp st listed vals w) (e:Ent) (he:e∈st) (hi1:(st.map Ent.i).Nodup) (hij:∀ e e',e∈st→e'∈st→e.i≠e'.j) (hlen:listed.size≤kp.length) (hi:e.i<listed.size) (hl:listed.getD e.i false=false) (ku:kW kp e.i=.u)
 (hz:0<e.z.size) (x:Nat→Wt) (hx:∀ j,wts l e.i j=true→listed.getD j false=true∧vals j=(kW kp j).val (x j)) (hw:wts l e.i e.j=true) (ka:kW kp e.j=.a)
 (hkeep:∀ j y,listed.getD j false=true→vals j=(kW kp j).val y→(kW kp j).ok y w→(kW kp j).ok y (setBlk w (x e.j 0).2 (e.c x))):
 blk w (x e.j 0).2=e.z∧frz w (x e.j 0).2=(0,0)∧RV W l kp st (listed.setIfInBounds e.i true) (upd vals e.i undef) (setBlk w (x e.j 0).2 (e.c x)):=by
 obtain ⟨h1,h2,B,h3,h4⟩:=h
 obtain ⟨hlj,hvj⟩:=hx e.j hw
 obtain ⟨a1,a2,a3,a4,a5,a6⟩:=h3 e he hlj
 have hB:(x e.j 0).2=B e.j:=by
  rw [hvj,ka] at a1
  simpa [Kw.a] using a1
 rw [hB] at hkeep ⊢
 have hb:=a5 hl
 refine ⟨hb,a4,⟨gr_setNew h1.1 a2,fun j hj=>?_⟩,fun e' he' hle j hj=>?_,B,fun e' he' hlj'=>?_,fun e1 e2 he1 he2 h5 h6 h7=>?_⟩
 ·by_cases ee:j=e.i
  ·subst ee
   refine (kz_W (by omega) _ _).2 ⟨fun _=>(none,0),?_,?_⟩
   ·rw [ku]; simp only [upd,if_true]; rfl
   ·rw [ku]; trivial
  ·rw [getD_set_other _ _ _ (Ne.symm ee)] at hj
   simp only [upd,ee,if_false]
   have hjl:j<kp.length:=by
    rcases Nat.lt_or_ge j listed.size with h | h
    ·omega
    ·simp [h] at hj
   obtain ⟨y,h5,h6⟩:=(kz_W hjl _ _).1 (h1.2 j hj)
   exact (kz_W hjl _ _).2 ⟨y,h5,hkeep j y hj h5 h6⟩
 ·by_cases ee:e'.i=e.i
  ·obtain rfl:=map_one Ent.i hi1 e' e he' he ee
   exact set_mono (hx j hj).1 hi
  ·rw [getD_set_other _ _ _ (Ne.symm ee)] at hle
   exact set_mono (h2 e' he' hle j hj) hi
 ·rw [getD_set_other _ _ _ (hij e e' he he')] at hlj'
  obtain ⟨b1,b2,b3,b4,b5,b6⟩:=h3 e' he' hlj'
  refine ⟨by simp only [upd,Ne.symm (hij e e' he he'),if_false]; exact b1,b2,by rw [size_setBlk]; exact b3,by rw [frz_setBlk]; exact b4,fun h=>?_,fun h=>?_⟩
  ·by_cases ee:e'.i=e.i
   ·rw [ee,getD_set_same _ _ hi] at h; cases h
   ·rw [getD_set_other _ _ _ (Ne.symm ee)] at h
    have hne:B e.j≠B e'.j:=fun eb=>ee (by rw [h4 e e' he he' hlj hlj' eb])
    rw [blk_other _ _ _ _ hne]; exact b5 h
  ·by_cases ee:e'.i=e.i
   ·obtain rfl:=map_one Ent.i hi1 e' e he' he ee
    refine ⟨x,fun j hj=>?_,blk_setBlk _ _ _ (by rw [hb]; exact hz)⟩
    simp only [upd,ne_un (hx j hj).1 hl,if_false]
    exact (hx j hj).2
   ·rw [getD_set_other _ _ _ (Ne.symm ee)] at h
    have hne:B e.j≠B e'.j:=fun eb=>ee (by rw [h4 e e' he he' hlj hlj' eb])
    obtain ⟨y,hy,hby⟩:=b6 h
    refine ⟨y,fun j hj=>?_,by rw [blk_other _ _ _ _ hne]; exact hby⟩
    simp only [upd,ne_un (h2 e' he' h j hj) hl,if_false]
    exact hy j hj
 ·rw [getD_set_other _ _ _ (hij e e1 he he1)] at h5
  rw [getD_set_other _ _ _ (hij e e2 he he2)] at h6
  exact h4 e1 e2 he1 he2 h5 h6 h7
theorem Sep.next (h:Sep st rw listed vals) {i:Nat} {v:Value} (hA:∀ e,e∈st→e.j≠i) (hr:i ∉ rw):Sep st rw (listed.setIfInBounds i true) (upd vals i v):=fun e he h1 j hj h2 b' b n c h3 h4=>by
 have hji:j≠i:=fun e=>hr (e ▸ hj)
 rw [getD_set_other _ _ _ (Ne.symm (hA e he))] at h1
 rw [getD_set_other _ _ _ (Ne.symm hji)] at h2
 simp only [upd,hA e he,if_false] at h3
 simp only [upd,hji,if_false] at h4
 exact h e he h1 j hj h2 b' b n c h3 h4
theorem row_at (hR:RZ W (kp.map Kw.kz) listed vals w) {j:Nat} (hj:listed.getD j false=true) (hl:j<kp.length) {n:Nat} {c:Array Value} (hk:kW kp j=.r n c) {b m q:Nat} (hv:vals j=.slice (some ⟨b,0,none⟩) m q):Vr w b c:=by
 obtain ⟨y,h1,h2⟩:=(kz_W hl _ _).1 (hR.2 j hj)
 rw [hk] at h1 h2
 rw [h1] at hv
 simp only [Kw.r,Value.slice.injEq,Option.some.injEq,Addr.mk.injEq] at hv
 rw [← hv.1.1]
 exact h2
theorem run_W {i:Nat} {x:Nat→Wt} {e:(Nat→Wt)→Sem Next} (h:runW l kp a0 i=fun x=>some (e x)):wnt l i (FW l kp a0 x)=true∧execOp (FW l kp a0 x).eval (opW l i)=e x:=by
 have:=congrFun h x
 unfold runW at this
 cases hw:wnt l i (FW l kp a0 x) with
 | false=>rw [hw] at this; cases this
 | true=>rw [hw] at this; exact ⟨rfl,Option.some.inj this⟩
theorem stepG (d:Bool) (hk:chkW l kp (ExV (ex++rw) st) l.length=true) (hp:pureL P l kp a0 (ExV (ex++rw) st) l.length=pureR kp (ExV (ex++rw) st) l.length) (ho:ObsW P l kp a0 W ex) (hrw:ForY (ObR P l kp a0) rw) (hv:∀ e,e∈st→ObY P l kp a0 e) (hfar:∀ e,e∈st→∀ j,j<l.length→j∈rw∨FarK e.z (kW kp j)) (hyj:∀ j,j∈rw→∀ e,e∈st→e.j≠j∧e.i≠j)
 (hnd:(st.map Ent.j).Nodup∧(st.map Ent.i).Nodup∧∀ a,a∈st.map Ent.i→∀ b,b∈st.map Ent.j→a≠b):StepR d P l Q a0 (fun listed vals w=>RV W l kp st listed vals w∧Sep st rw listed vals):=by
 intro listed vals a w i o hz hRS hF hi hl hd _
 obtain ⟨hR,hS⟩:=hRS
 have hil:i<l.length:=by simpa using (Array.getElem?_eq_some_iff.1 hi).1
 have his:i<listed.size:=by rw [hz]; simpa using hil
 have hlen:=(chk_u hk).2
 have hoi:=opW_is hi
 have hij:∀ e e',e∈st→e'∈st→e.i≠e'.j:=fun e e' he he'=>hnd.2.2 _ (List.mem_map_of_mem he) _ (List.mem_map_of_mem he')
 obtain ⟨x,hx,hev,hwn⟩:=atW hk hR.1.2 hF hi hil hd
 rw [hwn]
 have hkz:=fun (u:Value) (v:World)=>kz_W (kp:=kp) (j:=i) (by omega) u v
 have hlj:∀ j,listed.getD j false=true→j<kp.length:=fun j hj=>by
  rcases Nat.lt_or_ge j listed.size with h | h
  ·rw [hz] at h; simp at h; omega
  ·simp [h] at hj
 by_cases hA:∃ e,e∈st∧e.j=i
 ·obtain ⟨e,he,rfl⟩:=hA
  have ob:=hv e he
  obtain ⟨h1,h2⟩:=run_W (x:=x) ob.rj
  refine Or.inl ⟨h1,wp_val _ (by rw [hev,← hoi,h2]; exact ob.hn w) ⟨_,rfl,hR.alloc e he hnd.1 hij ob.hw his hl (by omega) ob.ka,fun e' he' h5 j hj h6 b' b n c h7 h8=>?_⟩⟩
  have hje:=(hyj j hj e he).1
  rw [getD_set_other _ _ _ hje] at h6
  simp only [upd,Ne.symm hje,if_false] at h8
  by_cases ee:e'.j=e.j
  ·simp only [upd,ee,if_true,Value.pointer.injEq,Option.some.injEq,Addr.mk.injEq] at h7
   obtain ⟨n',c',t',op',hk', -, -⟩:=hrw.at j hj
   have:b+1≤w.heap.size:=(row_at hR.1 h6 (hlj j h6) hk' h8).p
   omega
  ·rw [getD_set_other _ _ _ (Ne.symm ee)] at h5
   simp only [upd,ee,if_false] at h7
   exact hS e' he' h5 j hj h6 b' b n c h7 h8
 by_cases hB:∃ e,e∈st∧e.i=i
 ·obtain ⟨e,he,rfl⟩:=hB
  have ob:=hv e he
  obtain ⟨h1,h2⟩:=run_W (x:=x) ob.ri
  have hje:=hx e.j ob.hw
  obtain ⟨hb,hf,hR'⟩:=hR.storeY e he hnd.2.1 hij (by rw [hz]; simp [hlen]) his hl ob.ku ob.hz x (fun j hj=>⟨(hx j hj).1,(hx j hj).2.1⟩) ob.hw ob.ka (fun j y h5 h6 h7=>by
   rcases hfar e he j (by have:=hlj j h5; omega) with hjr | hfk
   ·obtain ⟨n',c',t',op',hk', -, -⟩:=hrw.at j hjr
    rw [hk'] at h6 h7 ⊢
    exact h7.other (hS e he hje.1 j hjr h5 _ _ _ _ (by rw [hje.2.1,ob.ka]; rfl) h6)
   ·exact hfk y w _ _ (hR.at hje.1 he (by rw [hje.2.1,ob.ka]; rfl) hl) h7)
  exact Or.inl ⟨h1,wp_skip (by rw [hev,← hoi,h2]; exact ob.hs x w _ hb hf) ⟨_,rfl,hR',hS.next (fun e' he'=>Ne.symm (hij e e' he he')) fun h=>(hyj _ h e he).2 rfl⟩⟩
 have hAB:∀ e,e∈st→e.j≠i∧e.i≠i:=fun e he=>⟨fun h=>hA ⟨e,he,h⟩,fun h=>hB ⟨e,he,h⟩⟩
 by_cases hmr:i∈rw
 ·obtain ⟨n,c,t,op,hki,hrun,hr⟩:=hrw.at i hmr
  obtain ⟨h1,h2⟩:=run_W (x:=x) hr
  refine Or.inl ⟨h1,wp_val _ (by rw [hev,← hoi,h2]; exact hrun w) ⟨_,rfl,hR.next his hl hAB ((Gr.refl w).alloc _) ((hkz _ _).2 ⟨fun _=>(none,w.heap.size),by rw [hki]; rfl,by rw [hki]; exact Vr.new _ _ _⟩),fun e' he' h5 j hj h6 b' b n c h7 h8=>?_⟩⟩
  rw [getD_set_other _ _ _ (Ne.symm (hAB e' he').1)] at h5
  simp only [upd,(hAB e' he').1,if_false] at h7
  by_cases ee:j=i
  ·subst ee
   simp only [upd,if_true,Value.slice.injEq,Option.some.injEq,Addr.mk.injEq] at h8
   obtain ⟨-, -,B,h3, -⟩:=hR
   obtain ⟨a1, -,a3, -⟩:=h3 e' he' h5
   rw [h7] at a1
   simp only [Value.pointer.injEq,Option.some.injEq,Addr.mk.injEq] at a1
   omega
  ·rw [getD_set_other _ _ _ (Ne.symm ee)] at h6
   simp only [upd,ee,if_false] at h8
   exact hS e' he' h5 j hj h6 b' b _ _ h7 h8
 have nx:∀ v w',Gr w w'→kz (kp.map Kw.kz) i v w'→RV W l kp st (listed.setIfInBounds i true) (upd vals i v) w'∧Sep st rw (listed.setIfInBounds i true) (upd vals i v):=fun v w' hg h=>⟨hR.next his hl hAB hg h,hS.next (fun e he=>(hAB e he).1) hmr⟩
 have hox:i∈ExV (ex++rw) st→ObW P l kp a0 W i:=fun h=>by
  unfold ExV at h
  rw [List.mem_append,List.mem_append,List.mem_append] at h
  rcases h with ((h | h) | h) | h
  ·exact ho.at i h
  ·exact absurd h hmr
  ·obtain ⟨e,he,h⟩:=List.mem_map.1 h; exact absurd ⟨e,he,h⟩ hA
  ·obtain ⟨e,he,h⟩:=List.mem_map.1 h; exact absurd ⟨e,he,h⟩ hB
 obtain ⟨h1,h2⟩ | ⟨h1,h2⟩:=stepW (Q:=Q) hk hp listed vals a w i o hox hR.1.1 hR.1.2 hF hi hil hd
 ·rw [hwn] at h1
  refine Or.inl ⟨h1,Oper.wp_mono (fun a' w' h=>?_) h2⟩
  obtain ⟨u,rfl,hg,hu⟩:=h
  exact ⟨u,rfl,nx u w' hg hu⟩
 ·rw [hwn] at h1
  exact Or.inr ⟨h1,nx _ _ (Gr.refl _) h2⟩
def NewV (W:World) (x:Nat→Wt) (v:World):List Ent→Prop
 | []=>True
 | e :: r=>(W.heap.size≤(x e.j 0).2∧Vr v (x e.j 0).2 (e.c x))∧NewV W x v r
theorem NewV.of {x:Nat→Wt} {v:World}:∀ {st:List Ent},(∀ e,e∈st→W.heap.size≤(x e.j 0).2∧Vr v (x e.j 0).2 (e.c x))→NewV W x v st
 | [],_=>trivial
 | e :: _,h=>⟨h e (List.mem_cons_self ..),NewV.of fun e' he'=>h e' (List.mem_cons_of_mem _ he')⟩
def chkV (st:List Ent):Bool:=decide (st.map Ent.j).Nodup&&decide (st.map Ent.i).Nodup&&((st.map Ent.i).all fun a=>(st.map Ent.j).all fun b=>a != b)
theorem wp_g (d:Bool) {id:Nat} (kp:List Kw) (ex rw:List Nat) (st:List Ent) (ho:ObsW P l kp a0 W ex) (hr:ForY (ObR P l kp a0) rw) (hv:∀ e,e∈st→ObY P l kp a0 e) (hfar:∀ e,e∈st→∀ j,j<l.length→j∈rw∨FarK e.z (kW kp j)) (hyj:∀ j,j∈rw→∀ e,e∈st→e.j≠j∧e.i≠j)
 (hfin:∀ x v,Gr W v→(∀ j,(kW kp j).ok (x j) v)→NewV W x v st→Q .normal (FW l kp a0 x) v) (hm:(!d || P.follows .mixedOrders)=true) (hk:(chkW l kp (ExV (ex++rw) st) l.length&&chkV st)=true) (hp:pureL P l kp a0 (ExV (ex++rw) st) l.length=pureR kp (ExV (ex++rw) st) l.length):(Code.region id l.toArray d).wp P Q a0 W:=by
 simp only [Bool.and_eq_true] at hk
 obtain ⟨hk,hk2⟩:=hk
 simp only [chkV,Bool.and_eq_true,decide_eq_true_eq,List.all_eq_true,bne_iff_ne,ne_eq] at hk2
 obtain ⟨⟨n1,n2⟩,n3⟩:=hk2
 obtain ⟨hu,hlen⟩:=chk_u hk
 refine wp_region_ord d (fun h=>by subst h; simpa using hm) hu _ (fun listed w' hn hg=>?_) (stepG d hk hp ho hr hv hfar hyj ⟨n1,n2,n3⟩) fun listed vals a v hall hRS hF=>?_
 ·have hx:∀ (i:Nat) (p:Prop),listed.getD i false=true→p:=fun i p h=>by rw [hn] at h; cases h
  exact ⟨⟨⟨hg,fun j hj=>hx j _ hj⟩,fun e _ h=>hx e.i _ h,fun _=>0,fun e _ h=>hx e.j _ h,fun e _ _ _ h=>hx e.j _ h⟩,fun e _ h=>hx e.j _ h⟩
 ·rw [hF.final hu hall]
  obtain ⟨⟨h1,h2,B,h3, -⟩, -⟩:=hRS
  obtain ⟨x,hx1,hx2⟩:=finW hlen fun j hj=>h1.2 j (hall j (by simpa using hj))
  rw [putFrom_congr (vals':=wvals kp x) l 0 a0 fun j o hj _=>by rw [Nat.zero_add]; exact hx1 j (List.getElem?_eq_some_iff.1 hj).1]
  refine hfin x v h1.1 hx2 (NewV.of fun e he=>?_)
  have ob:=hv e he
  have hw:∀ j,wts l e.i j=true→j<l.length∧e.i<l.length:=fun j hj=>by
   have hi:e.i<l.length:=by
    rcases Nat.lt_or_ge e.i l.length with h | h
    ·exact h
    ·rw [wts,opW,List.getElem?_eq_none (by omega)] at hj
     simp at hj
   have ho:l.toArray[e.i]? = some l[e.i]:=by simp [hi]
   rw [wts,opW_is ho,Array.any_toList] at hj
   obtain ⟨ed,hed,hb⟩:=Array.any_eq_true.1 hj
   simp only [Bool.and_eq_true,beq_iff_eq] at hb
   have:=(uniq_at hu ho).2 _ (Array.getElem_mem hed) hb.2
   omega
  have hjl:=hw e.j ob.hw
  obtain ⟨a1,a2,a3,a4, -,a6⟩:=h3 e he (hall e.j (by simpa using hjl.1))
  obtain ⟨y,hy,hb⟩:=a6 (hall e.i (by simpa using hjl.2))
  have hB:(x e.j 0).2=B e.j:=by
   rw [hx1 e.j hjl.1,wvals,ob.ka] at a1
   simpa [Kw.a] using a1
  rw [hB]
  exact ⟨a2,by rw [hb]; exact ob.hc y x fun j hj=>by rw [← hy j hj,hx1 j (hw j hj).1]; rfl,a4,a3⟩
theorem wp_v (d:Bool) {id:Nat} (kp:List Kw) (ex:List Nat) (st:List Ent) (ho:ObsW P l kp a0 W ex) (hv:ObsV P l kp a0 st)
 (hfin:∀ x v,Gr W v→(∀ j,(kW kp j).ok (x j) v)→NewV W x v st→Q .normal (FW l kp a0 x) v) (hm:(!d || P.follows .mixedOrders)=true:=by kernel_rfl) (hk:(chkW l kp (ExV ex st) l.length&&chkV st)=true:=by kernel_rfl) (hp:pureL P l kp a0 (ExV ex st) l.length=pureR kp (ExV ex st) l.length:=by kernel_rfl):(Code.region id l.toArray d).wp P Q a0 W:=
 wp_g d kp ex [] st ho .nil (fun e he=>(hv.at e he).y) (fun e he j _=>.inr ((hv.at e he).hf.at j)) (fun j h=>by cases h) hfin hm (by rw [List.append_nil]; exact hk) (by rw [List.append_nil]; exact hp)
end
theorem zNat:0<(nw 9 0).size:=by decide +kernel
end
end Go.Proofs.Ytgpfabihgjhefaa