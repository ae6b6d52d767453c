import Derived.Test.YtdomjicpdbblnaaXADD
import Derived.Test.YtdomjicpdbblnaaXARNat
import Derived.Test.YtdomjicpdbblnaaXAMixR
namespace Go.Proofs.Ytdomjicpdbblnaa
open Go.RowKit Go.Proofs.Try
set_option maxRecDepth 100000
set_option maxHeartbeats 8000000
section
theorem part_range(w:World)(b o n:Nat):w.rangeAt b o ((blk w b).extract o (o+n)).toList:=fun j v f=>by
 rw[cell_blk]
 have d:((blk w b).extract o (o+n))[j]? = some v:=by rw[Array.getElem?_toList]at f;exact f
 rw[Array.getElem?_extract]at d
 split at d
 ·exact d
 ·cases d
theorem loadPart(w:World)(b o:Nat)(h:o+9≤(blk w b).size):(loadS 25 (.pointer (some ⟨b,o,none⟩))).run prog w=.ok (.agg ((blk w b).extract o (o+9))) w:=by
 have:=run_loadVar_mid w b o 25 ((blk w b).extract o (o+9)).toList _ (part_range w b o 9) underlying25 rfl (by
  have d:(prog.info? 25).map (·.size)=some 9:=by kernel_rfl
  rw[d];simp
  omega)
 simp only[loadS,Instr.loadAt,Instr.sureAddr,Sem.run_bind,Sem.run_pure,Result.andThen_ok];rw[Array.toArray_toList]at this;exact this
end
section
section
variable (id:Int) (p a b n x y:Nat) (s z:Int) (l:Bool)
theorem all_app(c d:Array Value)(h1:c.all (·.oneCell')=true)(h2:d.all (·.oneCell')=true):(c++d).all (·.oneCell')=true:=by
 grind
end
theorem frz_at(w:World)(b i:Nat)(hf:frz w b=(0,0)):w.frozen? ⟨b,i,none⟩=false:=by
 unfold frz at hf;unfold World.frozen?
 split <;> simp_all
structure Vr(v:World)(b:Nat)(c:Array Value):Prop where
 h:blk v b=c
 f:frz v b=(0,0)
 p:Pre (b+1) v.heap.size
theorem Vr.gr{v v':World}{b:Nat}{c:Array Value}(h:Vr v b c)(k:Gr v v'):Vr v' b c:=
 ⟨by rw[k.blk _ h.p];exact h.h,by rw[k.frz _ h.p];exact h.f,Nat.le_trans h.p k.below.size⟩
theorem Vr.set{v:World}{b:Nat}{c:Array Value}(h:Vr v b c)(hc:0<c.size)(d:Array Value):Vr (setBlk v b d) b d:=
 ⟨blk_setBlk _ _ _ (by rw[h.h];exact hc),by rw[frz_setBlk];exact h.f,by rw[size_setBlk];exact h.p⟩
theorem Vr.other{v:World}{b k:Nat}{c d:Array Value}(h:Vr v b c)(n:k≠b):Vr (setBlk v k d) b c:=
 ⟨by rw[blk_other _ _ _ _ n];exact h.h,by rw[frz_setBlk];exact h.f,by rw[size_setBlk];exact h.p⟩
theorem Vr.cell{v:World}{b:Nat}{c:Array Value}(h:Vr v b c)(i:Nat):v.cell? ⟨b,i,none⟩=c[i]? := by rw[cell_blk,h.h]
theorem Vr.pp{v:World}{b:Nat}{c:Array Value}(h:Vr v b c):(∀k,Pre (b+1) (v.heap.size+k))∧(∀k l,Pre (b+1) (v.heap.size+k+l))∧(∀k l i,Pre (b+1) (v.heap.size+k+l+i))∧(∀k l i j,Pre (b+1) (v.heap.size+k+l+i+j))∧(∀k l i j m,Pre (b+1) (v.heap.size+k+l+i+j+m))∧(∀k l i j m n,Pre (b+1) (v.heap.size+k+l+i+j+m+n)):=by
 have:b+1≤v.heap.size:=h.p
 grind [Pre]
theorem Vr.new(w:World)(c:Array Value)(t:TypeId):Vr (w.alloc (.cells c t)) w.heap.size c:=
 ⟨blk_alloc_at _ _ _ _ _ rfl,frz_alloc_at _ _ _ _ _ rfl,by simp[Pre]⟩
theorem vrA{v:World}{b:Nat}{c:Array Value}(h1:blk v b=c:=by simp[go_sem])(h2:frz v b=(0,0):=by simp[go_sem])(h3:Pre (b+1) v.heap.size:=by simp[go_sem]):Vr v b c:=⟨h1,h2,h3⟩
theorem Vr.al{v:World}{b:Nat}{c:Array Value}(h:Vr v b c):blk v b=c∧frz v b=(0,0)∧Pre (b+1) v.heap.size∧(∀k,Pre (b+1) (v.heap.size+k))∧(∀k l,Pre (b+1) (v.heap.size+k+l))∧(∀k l i,Pre (b+1) (v.heap.size+k+l+i))∧(∀k l i j,Pre (b+1) (v.heap.size+k+l+i+j))∧(∀k l i j m,Pre (b+1) (v.heap.size+k+l+i+j+m))∧(∀k l i j m n,Pre (b+1) (v.heap.size+k+l+i+j+m+n)):=⟨h.h,h.f,h.p,h.pp⟩
end
section
theorem eqNatIn(d x y:Nat)(w:World):(Op.equalIn (d+3) 25 (.agg (nw 9 x)) (.agg (nw 9 y))).run prog w=.ok (eqN 9 x y) w:=by
 have b:prog.underlying 25=some (.struct (prog.fieldsOf 25)):=by kernel_rfl
 rw[run_equalIn_struct w (d+2) 25 _ _ b (by kernel_rfl)];simp[go_sem,Op.eqFields,Program.fieldsOf,part,nw_extract];rw[eqArr d]
 cases eqN 9 x y <;> simp[Result.andThen]
section
variable (x y:Nat) (f:Bool) (x' y':Nat) (f':Bool)
end
end
section
def sgA(r s:Nat):Array Value:=nw 9 r++nw 9 s
section
variable (r s:Nat)
theorem sgA_size:(sgA r s).size=18:=by kernel_rfl
theorem sgA_R:(sgA r s).extract 0 9=nw 9 r:=by kernel_rfl
theorem sgA_S:(sgA r s).extract 9 18=nw 9 s:=by kernel_rfl
theorem sgA_one:(sgA r s).all (·.oneCell')=true:=all_app _ _ (nw_one _ _) (nw_one _ _)
theorem sgA_setR(q:Nat):setL (sgA r s) 0 (nw 9 q).toList=sgA q s:=by kernel_rfl
theorem sgA_setS(q:Nat):setL (sgA r s) 9 (nw 9 q).toList=sgA r q:=by kernel_rfl
end
theorem loadSg_is:LdI 27:=fun _=>rfl
theorem storeSg_is:StI 27:=fun _ _=>rfl
theorem zvSg_is:zeroValue 27=zvS 27:=rfl
theorem zvSg(w:World):(zvS 27).run prog w=.ok (.agg (sgA 0 0)) w:=by kernel_rfl
theorem buildSg_is(p:Array (Nat×Value)):Instr.build 27 p=buildF 27 p:=rfl
theorem buildSg0(w:World):(buildF 27 #[]).run prog w=.ok (.agg (sgA 0 0)) w:=by kernel_rfl
theorem buildSg1(r:Nat)(w:World):(buildF 27 #[(0,.agg (nw 9 r))]).run prog w=.ok (.agg (sgA r 0)) w:=by kernel_rfl
theorem buildSg2(r s:Nat)(w:World):(buildF 27 #[(0,.agg (nw 9 r)),(1,.agg (nw 9 s))]).run prog w=.ok (.agg (sgA r s)) w:=by kernel_rfl
theorem loadSg:LdS 27 18:=ldS
theorem loadSR(w:World)(b:Nat)(hs:(blk w b).size=18):(loadS 25 (.pointer (some ⟨b,0,none⟩))).run prog w=.ok (.agg ((blk w b).extract 0 9)) w:=loadPart w b 0 (by omega)
theorem loadSS(w:World)(b:Nat)(hs:(blk w b).size=18):(loadS 25 (.pointer (some ⟨b,9,none⟩))).run prog w=.ok (.agg ((blk w b).extract 9 18)) w:=loadPart w b 9 (by omega)
theorem storeSg(r s:Nat):StS 27 18 (sgA r s):=stS (sgA_size r s) (sgA_one r s)
theorem storeSP(w:World)(b o q:Nat)(ho:o+9≤18)(hs:(blk w b).size=18)(hf:frz w b=(0,0)):(storeS 25 (.pointer (some ⟨b,o,none⟩)) (.agg (nw 9 q))).run prog w=.ok () (setBlk w b (setL (blk w b) o (nw 9 q).toList)):=by
 have d:w.there b o (nw 9 q).size:=fun j f=>by
  rw[nw_size]at f;exact⟨by rw[cell_blk,Array.getElem?_eq_getElem (by omega)];rfl,frz_at w b _ hf⟩
 simp only[storeS,Instr.storeAt,Instr.sureAddr,Sem.run_bind,Sem.run_pure,Result.andThen_ok];rw[run_storeVar_mid w b o 25 (nw 9 q) d (by kernel_rfl) (nw_one 9 q),setCells_setBlk _ _ _ _ (by omega)]
theorem storeSR(w:World)(b q:Nat)(hs:(blk w b).size=18)(hf:frz w b=(0,0)):(storeS 25 (.pointer (some ⟨b,0,none⟩)) (.agg (nw 9 q))).run prog w=.ok () (setBlk w b (setL (blk w b) 0 (nw 9 q).toList)):=storeSP w b 0 q (by decide) hs hf
theorem storeSS(w:World)(b q:Nat)(hs:(blk w b).size=18)(hf:frz w b=(0,0)):(storeS 25 (.pointer (some ⟨b,9,none⟩)) (.agg (nw 9 q))).run prog w=.ok () (setBlk w b (setL (blk w b) 9 (nw 9 q).toList)):=storeSP w b 9 q (by decide) hs hf
theorem rd_sg{r s:Nat}:RdC 27 (sgA r s):=rdC 18 (sgA_size r s)
theorem eqSg(r s r' s':Nat)(w:World):(binOp .eql 27 (.agg (sgA r s)) (.agg (sgA r' s'))).run prog w=.ok (.bool (eqN 9 r r'&&eqN 9 s s')) w:=by
 have b:prog.underlying 27=some (.struct (prog.fieldsOf 27)):=by kernel_rfl
 rw[run_eql_struct,show (10000:Nat)=9996+4 from rfl,run_equalIn_struct w (9996+3) 27 _ _ b (by kernel_rfl)];simp[go_sem,Op.eqFields,Program.fieldsOf,part,sgA_R,sgA_S,sgA_size,eqNatIn]
 cases eqN 9 r r' <;> cases eqN 9 s s' <;> simp
abbrev uz7:=And.intro @loadSg_is<|And.intro @storeSg_is<|And.intro @zvSg_is @buildSg_is
abbrev uz8:=And.intro @loadSg<|And.intro @storeSg<|And.intro @zvSg<|And.intro @sgA_size<|And.intro @buildSg0<|And.intro @buildSg1<|And.intro @buildSg2<|And.intro @loadSR<|And.intro @loadSS<|And.intro @sgA_R<|And.intro @sgA_S<|And.intro @storeSR<|And.intro @storeSS<|And.intro @sgA_setR<|And.intro @sgA_setS<|And.intro @frz_setBlk<|And.intro @blk_setBlk<|And.intro @setBlk_setBlk @blk_other
end
section
structure Kz where
 ok:Value→World→Prop
 gr:∀v w w',ok v w→Gr w w'→ok v w'
def Kz.c(v:Value):Kz:=⟨fun u _=>u=v,fun _ _ _ h _=>h⟩
def Kz.n(x:Nat):Kz:=⟨fun u w=>∃p n,u=.slice p (dl x) n∧Sl w p x,fun _ _ _ ⟨p,n,e,h⟩ g=>⟨p,n,e,h.gr g⟩⟩
def kz(kp:List Kz)(i:Nat)(v:Value)(w:World):Prop:=match kp[i]? with|some k=>k.ok v w|none=>True
theorem kz.gr{kp:List Kz}{i:Nat}{v:Value}{w w':World}(h:kz kp i v w)(g:Gr w w'):kz kp i v w':=by
 unfold kz at h ⊢
 cases e:kp[i]? with
 | none=>trivial
 | some k=>rw[e]at h;exact k.gr _ _ _ h g
def Rt(k:Kz)(w:World)(e:Ending)(w':World):Prop:=∃u,e=.returned u∧k.ok u w'∧Gr w w'
theorem Rt.c{P:Program}{f:FuncId}{args:Array Value}{w:World}{v:Value}(h:Calls P f args w fun e w'=>e=.returned v∧Gr w w'):Calls P f args w (Rt (.c v) w):=h.mono fun _ _ ⟨e,g⟩=>⟨_,e,rfl,g⟩
theorem Rt.n{P:Program}{f:FuncId}{args:Array Value}{w:World}{x:Nat}(h:Calls P f args w (Nm x w)):Calls P f args w (Rt (.n x) w):=h.mono fun _ _ ⟨p,n,e,s,g⟩=>⟨_,e,⟨p,n,rfl,s⟩,g⟩
theorem Rt.same{P:Program}{f:FuncId}{args:Array Value}{w:World}{v:Value}(h:Calls P f args w fun e w'=>e=.returned v∧w'=w):Calls P f args w (Rt (.c v) w):=h.mono fun _ _ ⟨e,g⟩=>⟨_,e,rfl,by rw[g];exact Gr.refl _⟩
theorem wp_retz{P:Program}{o:Oper}{a:Act}{w:World}{K:Act→World→Prop}{Q:Exit→Act→World→Prop}{f:FuncId}{args:Array Value}{k:Kz}(h:(execOp a.eval o).run P w=.ok (.enter f args) w)(hc:Calls P f args w (Rt k w))(hk:∀u w',k.ok u w'→Gr w w'→K (a.put o.dst u) w'):o.wp P a w K Q:=by
 unfold Oper.wp;rw[h]
 exact hc.mono fun e w' ⟨u,b,d,i⟩=>by subst b;exact hk u w' d i
def RZ(W:World)(kp:List Kz)(listed:Array Bool)(vals:Nat→Value)(w:World):Prop:=
 Gr W w∧∀j,listed.getD j false=true→kz kp j (vals j) w
theorem RZ.next{W w w':World}{kp:List Kz}{listed:Array Bool}{vals:Nat→Value}{i:Nat}{v:Value}(h:RZ W kp listed vals w)(hg:Gr w w')(hv:kz kp i v w'):RZ W kp (listed.setIfInBounds i true) (upd vals i v) w':=by
 refine⟨h.1.trans hg,fun j b=>?_⟩
 by_cases e:j=i
 ·subst e;simpa [upd]using hv
 ·rw[getD_set_other _ _ _ (Ne.symm e)]at b;simp only[upd,e,if_false];exact(h.2 j b).gr hg
theorem putFrom_congr{vals vals':Nat→Value}:∀(l:List Oper) (k:Nat) (a:Act),(∀j o,l[j]? = some o→o.dst.isSome=true→vals (k+j)=vals' (k+j))→putFrom vals k l a=putFrom vals' k l a
 | [],_,_,_=>rfl
 | o :: l,k,a,h=>by
  rw[putFrom,putFrom]
  have e:a.put o.dst (vals k)=a.put o.dst (vals' k):=by
   cases hd:o.dst with
   | none=>rfl
   | some d=>rw[show vals k=vals' k from h 0 o rfl (by rw[hd];rfl)]
  rw[e]
  exact putFrom_congr l (k+1) _ fun j o b hd=>by
   have:=h (j+1) o (by simpa using b) hd;rw[show k+1+j=k+(j+1) by omega];exact this
end
section
abbrev Wt:=Nat→Option Addr×Nat
structure Kw where
 val:Wt→Value
 ok:Wt→World→Prop
 gr:∀x w w',ok x w→Gr w w'→ok x w'
 cst:Nat
 hc:cst≠0→∀y w,ok y w
 hs:cst=2→∀y,val y=undef
def Kw.c(v:Value):Kw:=⟨fun _=>v,fun _ _=>True,fun _ _ _ _ _=>trivial,1,fun _ _ _=>trivial,fun h=>absurd h (by decide)⟩
def Kw.u:Kw:=⟨fun _=>undef,fun _ _=>True,fun _ _ _ _ _=>trivial,2,fun _ _ _=>trivial,fun _ _=>rfl⟩
def Kw.n(x:Nat):Kw:=⟨fun y=>.slice (y 0).1 (dl x) (y 0).2,fun y w=>Sl w (y 0).1 x,fun _ _ _ h g=>h.gr g,0,fun h=>absurd rfl h,fun h=>absurd h (by decide)⟩
abbrev pv(b o:Nat):Value:=.pointer (some ⟨b,o,none⟩)
def Kw.kz(k:Kw):Kz:=⟨fun u w=>∃y,u=k.val y∧k.ok y w,fun _ _ _ ⟨y,e,h⟩ g=>⟨y,e,k.gr _ _ _ h g⟩⟩
def kW(kp:List Kw)(i:Nat):Kw:=kp.getD i .u
def wvals(kp:List Kw)(x:Nat→Wt)(j:Nat):Value:=(kW kp j).val (x j)
def FW(l:List Oper)(kp:List Kw)(a0:Act)(x:Nat→Wt):Act:=putFrom (wvals kp x) 0 l a0
def opW(l:List Oper)(i:Nat):Oper:=(l[i]?).getD ⟨none,.move (.const undef),0, "", #[],none⟩
def wts(l:List Oper)(i j:Nat):Bool:=(opW l i).after.toList.any fun e=>e.on==j&&Region.binds .any e
def rdyO(l:List Oper)(i:Nat)(o:Oper):Bool:=
 (match o.op with | .select _ _=>false|_=>true) &&
 (o.op.operands.all fun y=>match y with | .tmp s=>(match own l.toArray s with|some j=>wts l i j|none=>true)|_=>true) &&
 (match o.guard with|some (g,_)=>wts l i g|none=>true)
def others(ex:List Nat)(q:Nat):List Nat:=(List.range q).filter fun i => !ex.contains i
def chkW(l:List Oper)(kp:List Kw)(ex:List Nat)(q:Nat):Bool:=
 uniqG l.toArray&&((List.range q).all fun i=>rdyO l i (opW l i))&&kp.length==q&&(others ex q).all fun i=>(kW kp i).cst != 0
def wnt(l:List Oper)(i:Nat)(a:Act):Bool:=Region.wanted (opW l i) (yielded l.toArray a.tmps)
def RtW(k:Kw)(w:World)(e:Ending)(w':World):Prop:=∃y,e=.returned (k.val y)∧k.ok y w'∧Gr w w'
def StW(P:Program)(k:Kw)(a:Act)(o:Oper)(v:World):Prop:=
 (∃y w',(execOp a.eval o).run P v=.ok (.value (k.val y)) w'∧Gr v w'∧k.ok y w')∨∃f args,(execOp a.eval o).run P v=.ok (.enter f args) v∧Calls P f args v (RtW k v)
def ObW(P:Program)(l:List Oper)(kp:List Kw)(a0:Act)(W:World)(i:Nat):Prop:=
 ∀(x:Nat→Wt) (v:World),Gr W v→(∀j,wts l i j=true→(kW kp j).ok (x j) v)→wnt l i (FW l kp a0 x)=true∧StW P (kW kp i) (FW l kp a0 x) (opW l i) v
def ObsW(P:Program)(l:List Oper)(kp:List Kw)(a0:Act)(W:World):List Nat→Prop
 | []=>True
 | i :: r=>ObW P l kp a0 W i∧ObsW P l kp a0 W r
theorem ObsW.nil{P:Program}{l:List Oper}{kp:List Kw}{a0:Act}{W:World}:ObsW P l kp a0 W []:=trivial
theorem ObsW.cons{P:Program}{l:List Oper}{kp:List Kw}{a0:Act}{W:World}{i:Nat}{r:List Nat}(h:ObW P l kp a0 W i)(t:ObsW P l kp a0 W r):ObsW P l kp a0 W (i :: r):=⟨h,t⟩
theorem ObsW.at{P:Program}{l:List Oper}{kp:List Kw}{a0:Act}{W:World}:∀{ex:List Nat},ObsW P l kp a0 W ex→∀i,i∈ex→ObW P l kp a0 W i
 | [],_,_,h=>by cases h
 | e :: r,ho,i,h=>by
  rcases List.mem_cons.1 h with rfl|h
  ·exact ho.1
  ·exact ObsW.at ho.2 i h
def resW(P:Program)(l:List Oper)(kp:List Kw)(a0:Act)(x:Nat→Wt)(v:World)(i:Nat):Option (Result Next):=
 cond (wnt l i (FW l kp a0 x)) (some ((execOp (FW l kp a0 x).eval (opW l i)).run P v)) none
def expW(kp:List Kw)(x:Nat→Wt)(v:World)(i:Nat):Option (Result Next):=cond ((kW kp i).cst==2) none (some (.ok (.value (wvals kp x i)) v))
def pureL(P:Program)(l:List Oper)(kp:List Kw)(a0:Act)(ex:List Nat)(q:Nat)(x:Nat→Wt)(v:World):List (Option (Result Next)):=(others ex q).map (resW P l kp a0 x v)
def pureR(kp:List Kw)(ex:List Nat)(q:Nat)(x:Nat→Wt)(v:World):List (Option (Result Next)):=(others ex q).map (expW kp x v)
theorem opW_is{l:List Oper}{i:Nat}{o:Oper}(h:l.toArray[i]? = some o):opW l i=o:=by
 grind [opW]
theorem eval_F{l:List Oper}{a0 a:Act}{vals vals':Nat→Value}{listed:Array Bool}(hu:uniqG l.toArray=true)(hF:Frm l.toArray a0 vals listed a)(s:Nat)(hy:∀j,own l.toArray s=some j→listed.getD j false=true∧vals j=vals' j):a.tmps[s]? = (putFrom vals' 0 l a0).tmps[s]?:=by
 have b:=putFrom_frm hu l 0 a0 (fun j=>by simp) (Frm.start_up l a0 vals')
 by_cases hs:s<a0.tmps.size
 ·rw[hF.2.2 s hs,b.2.2 s hs]
  cases ho:own l.toArray s with
  | none=>rfl
  | some j=>
   obtain⟨d,f⟩:=hy j ho;obtain⟨o,h,-⟩:=own_spec ho
   have i:j<l.length:=by simpa using (Array.getElem?_eq_some_iff.1 h).1
   simp only[d,if_true,upTo_getD];rw[if_pos (by simpa using i),f]
 ·rw[Array.getElem?_eq_none (by rw[hF.2.1];omega),Array.getElem?_eq_none (by rw[b.2.1];omega)]
theorem kz_W{kp:List Kw}{j:Nat}(hj:j<kp.length)(u:Value)(v:World):kz (kp.map Kw.kz) j u v↔∃y,u=(kW kp j).val y∧(kW kp j).ok y v:=by
 have e:kp[j]? = some (kW kp j):=by rw[kW,List.getD_eq_getElem?_getD,List.getElem?_eq_getElem hj];rfl
 unfold kz;rw[List.getElem?_map,e];exact Iff.rfl
theorem atW{l:List Oper}{kp:List Kw}{ex:List Nat}{q:Nat}{a0:Act}{listed:Array Bool}{vals:Nat→Value}(hk:chkW l kp ex q=true){a:Act}{v:World}{i:Nat}{o:Oper}(hK:∀j,listed.getD j false=true→kz (kp.map Kw.kz) j (vals j) v)(hF:Frm l.toArray a0 vals listed a)(hi:l.toArray[i]? = some o)(hq:i<q)(hd:∀e∈o.after,Region.binds .any e=true→listed.getD e.on false=true):
 ∃x:Nat→Wt,(∀j,wts l i j=true→listed.getD j false=true∧vals j=(kW kp j).val (x j)∧(kW kp j).ok (x j) v)∧execOp a.eval o=execOp (FW l kp a0 x).eval o∧Region.wanted o (yielded l.toArray a.tmps)=wnt l i (FW l kp a0 x):=by
 simp only[chkW,Bool.and_eq_true,beq_iff_eq]at hk;obtain⟨⟨⟨G,U⟩,Q⟩,V⟩:=hk;have d:=opW_is hi
 have H:∀j,∃y:Wt,wts l i j=true→vals j=(kW kp j).val y∧(kW kp j).ok y v:=fun j=>by
  by_cases h:wts l i j=true
  ·have W:=on_of hd j (by rw[wts,d,Array.any_toList]at h;exact h)
   have w:j<i:=by
    obtain⟨e,X,I⟩:=Array.any_eq_true.1 (show (o.after.any fun e=>e.on==j&&Region.binds .any e)=true by rw[wts,d,Array.any_toList]at h;exact h);simp only[Bool.and_eq_true,beq_iff_eq]at I;rw[←I.1];exact(uniq_at G hi).2 _ (Array.getElem_mem X) I.2
   obtain⟨y,J,K⟩:=(kz_W (by omega) _ _).1 (hK j W);exact⟨y,fun _=>⟨J,K⟩⟩
  ·exact⟨fun _=>(none,0),fun Y=>absurd Y h⟩
 obtain⟨x,R⟩:=Classical.axiomOfChoice H;have p:=List.all_eq_true.1 U i (by simpa using hq);rw[d]at p;simp only[rdyO,Bool.and_eq_true]at p;obtain⟨⟨m,A⟩,B⟩:=p;have C:∀j,wts l i j=true→listed.getD j false=true:=fun j h=>on_of hd j (by rw[wts,d,Array.any_toList]at h;exact h)
 have f:∀s,(match own l.toArray s with|some j=>wts l i j|none=>true)=true→a.tmps[s]? = (FW l kp a0 x).tmps[s]? := fun s S=>by
  refine eval_F G hF s fun j w=>?_
  have D:wts l i j=true:=by rw[w]at S;exact S
  exact⟨C j D,(R j D).1⟩
 refine⟨x,fun j w=>⟨C j w,R j w⟩,?_,?_⟩
 ·refine execOp_congr o (fun Z b h=>by rw[h]at m;cases m) fun y L=>?_;have P:=Array.all_eq_true_iff_forall_mem.1 A y L
  cases y with
  | tmp s=>
   have:=f s P;simp only[Act.eval,Array.getD_eq_getD_getElem?,this]
  | _=>rfl
 ·rw[wnt,d];unfold Region.wanted
  cases hg:o.guard with
  | none=>rfl
  | some gw=>
   obtain⟨g,b⟩:=gw;rw[hg]at B;simp only
   have L:yielded l.toArray a.tmps g=yielded l.toArray (FW l kp a0 x).tmps g:=by
    unfold yielded
    cases ht:(l.toArray[g]?).bind (·.dst) with
    | none=>rfl
    | some t=>
     have:own l.toArray t=some g:=by
      obtain⟨og,J,K⟩:=Option.bind_eq_some_iff.1 ht;exact(uniq_at G J).1 t K
     simp only[Option.bind_some];rw[f t (by rw[this];exact B)]
   rw[L]
theorem stepW{P:Program}{l:List Oper}{kp:List Kw}{ex:List Nat}{q:Nat}{a0:Act}{W:World}{Q:Exit→Act→World→Prop}(hk:chkW l kp ex q=true)(hp:pureL P l kp a0 ex q=pureR kp ex q)(listed:Array Bool)(vals:Nat→Value)(a:Act)(v:World)(i:Nat)(o:Oper)(ho:i∈ex→ObW P l kp a0 W i)(hG:Gr W v)(hK:∀j,listed.getD j false=true→kz (kp.map Kw.kz) j (vals j) v)(hF:Frm l.toArray a0 vals listed a)(hi:l.toArray[i]? = some o)(hq:i<q)(hd:∀e∈o.after,Region.binds .any e=true→listed.getD e.on false=true):
 (Region.wanted o (yielded l.toArray a.tmps)=true∧o.wp P a v (fun a' w'=>∃u,a'=a.put o.dst u∧Gr v w'∧kz (kp.map Kw.kz) i u w') Q)∨(Region.wanted o (yielded l.toArray a.tmps)=false∧kz (kp.map Kw.kz) i undef v):=by
 obtain⟨x,L,B,H⟩:=atW hk hK hF hi hq hd;simp only[chkW,Bool.and_eq_true,beq_iff_eq]at hk;obtain⟨⟨-,K⟩,I⟩:=hk;have m:=fun(u:Value) (w:World)=>kz_W (kp:=kp) (j:=i) (by omega) u w;have D:=opW_is hi;rw[H]
 by_cases hm:i∈ex
 ·obtain⟨R,p⟩:=ho hm x v hG fun j S=>(L j S).2.2;refine Or.inl ⟨R,?_⟩;rw[D]at p
  obtain⟨y,w',d,G,C⟩|⟨f,args,d,hc⟩:=p
  ·exact wp_val _ (by rw[B];exact d) ⟨_,rfl,G,(m _ _).2 ⟨y,rfl,C⟩⟩
  ·refine wp_retz (k:=(kW kp i).kz) (by rw[B];exact d) (hc.mono fun e w' ⟨y,U,C,G⟩=>⟨_,U,⟨y,rfl,C⟩,G⟩) fun u w' J G=>⟨u,rfl,G,(m _ _).2 J⟩
 ·have A:i∈others ex q:=List.mem_filter.2 ⟨by simpa using hq,by simpa using hm⟩;have h:=List.all_eq_true.1 I i A;simp only[bne_iff_ne,ne_eq]at h;have b:=List.map_inj_left.1 (congrFun (congrFun hp x) v) i A;simp only[resW,expW,D]at b
  cases hw:wnt l i (FW l kp a0 x) with
  | true=>
   rw[hw]at b;refine Or.inl ⟨rfl,?_⟩
   cases p:(kW kp i).cst==2 with
   | true=>rw[p]at b;cases b
   | false=>
    rw[p]at b;exact wp_val _ (by rw[B];exact Option.some.inj b) ⟨_,rfl,Gr.refl _,(m _ _).2 ⟨x i,rfl,(kW kp i).hc h _ _⟩⟩
  | false=>
   rw[hw]at b;refine Or.inr ⟨rfl,?_⟩
   cases p:(kW kp i).cst==2 with
   | true=>exact(m _ _).2 ⟨x i,((kW kp i).hs (by simpa using p) _).symm,(kW kp i).hc h _ _⟩
   | false=>rw[p]at b;cases b
theorem finW{kp:List Kw}{q:Nat}{vals:Nat→Value}{v:World}(hlen:kp.length=q)(hK:∀j,j<q→kz (kp.map Kw.kz) j (vals j) v):∃x:Nat→Wt,(∀j,j<q→vals j=wvals kp x j)∧∀j,(kW kp j).ok (x j) v:=by
 have d:∀j,∃y:Wt,(j<q→vals j=(kW kp j).val y)∧(kW kp j).ok y v:=fun j=>by
  by_cases hj:j<q
  ·have h:=hK j hj
   have e:kp[j]? = some (kW kp j):=by rw[kW,List.getD_eq_getElem?_getD,List.getElem?_eq_getElem (by omega)];rfl
   unfold kz at h;rw[List.getElem?_map,e]at h;obtain⟨y,f,i⟩:=h;exact⟨y,fun _=>f,i⟩
  ·refine⟨fun _=>(none,0),fun h=>absurd h hj,?_⟩
   have e:kW kp j=.u:=by rw[kW,List.getD_eq_getElem?_getD,List.getElem?_eq_none (by omega)];rfl
   rw[e];trivial
 obtain⟨x,b⟩:=Classical.axiomOfChoice d;exact⟨x,fun j hj=>(b j).1 hj,fun j=>(b j).2⟩
theorem chk_u{l:List Oper}{kp:List Kw}{ex:List Nat}{q:Nat}(hk:chkW l kp ex q=true):uniqG l.toArray=true∧kp.length=q:=by
 simp only[chkW,Bool.and_eq_true,beq_iff_eq]at hk;exact⟨hk.1.1.1,hk.1.2⟩
section
variable {P:Program} {id:Nat} {l:List Oper} {Q:Exit→Act→World→Prop} {a0:Act} {W:World}
theorem wp_r(d:Bool)(kp:List Kw)(ex:List Nat)(ho:ObsW P l kp a0 W ex)(hfin:∀x v,Gr W v→(∀j,(kW kp j).ok (x j) v)→Q .normal (FW l kp a0 x) v)(hm:d=true→P.follows .mixedOrders=true)(hk:chkW l kp ex l.length=true)(hp:pureL P l kp a0 ex l.length=pureR kp ex l.length):(Code.region id l.toArray d).wp P Q a0 W:=by
 obtain⟨D,w⟩:=chk_u hk
 refine wp_region_ord d hm D (RZ W (kp.map Kw.kz)) (fun b H I C=>⟨C,fun j q=>by rw[I]at q;cases q⟩) (fun b f a v i o L p hF G R J _=>?_) fun b f a v m p hF=>?_
 ·obtain⟨A,B⟩|⟨A,B⟩:=stepW hk hp b f a v i o (fun h=>ho.at i h) p.1 p.2 hF G (by simpa using (Array.getElem?_eq_some_iff.1 G).1) J
  ·refine Or.inl ⟨A,Oper.wp_mono (fun S H h=>?_) B⟩;obtain⟨u,rfl,C,K⟩:=h;exact⟨u,rfl,p.next C K⟩
  ·exact Or.inr ⟨A,p.next (Gr.refl _) B⟩
 ·obtain⟨x,A,B⟩:=finW w (fun j q=>p.2 j (m j (by simpa using q)));rw[hF.final D m,putFrom_congr (vals':=wvals kp x) l 0 a0 fun j o q _=>by rw[Nat.zero_add];exact A j (List.getElem?_eq_some_iff.1 q).1];exact hfin x v p.1 B
theorem wp_w(kp:List Kw)(ex:List Nat)(ho:ObsW P l kp a0 W ex)(hfin:∀x v,Gr W v→(∀j,(kW kp j).ok (x j) v)→Q .normal (FW l kp a0 x) v)(hm:P.follows .mixedOrders=true:=by kernel_rfl)(hk:chkW l kp ex l.length=true:=by kernel_rfl)(hp:pureL P l kp a0 ex l.length=pureR kp ex l.length:=by kernel_rfl):(Code.region id l.toArray true).wp P Q a0 W:=wp_r true kp ex ho hfin (fun _=>hm) hk hp
theorem wp_wS(kp:List Kw)(ex:List Nat)(ho:ObsW P l kp a0 W ex)(hfin:∀x v,Gr W v→(∀j,(kW kp j).ok (x j) v)→Q .normal (FW l kp a0 x) v)(hk:chkW l kp ex l.length=true:=by kernel_rfl)(hp:pureL P l kp a0 ex l.length=pureR kp ex l.length:=by kernel_rfl):(Code.region id l.toArray false).wp P Q a0 W:=wp_r false kp ex ho hfin (fun h=>by cases h) hk hp
theorem ObW.k{kp:List Kw}{i:Nat}{f:FuncId}(args:(Nat→Wt)→Array Value)(hc:∀x v,Gr W v→(∀j,wts l i j=true→(kW kp j).ok (x j) v)→Calls P f (args x) v (RtW (kW kp i) v))(hr:(fun x v=>resW P l kp a0 x v i)=fun x v=>some (.ok (.enter f (args x)) v):=by kernel_rfl):ObW P l kp a0 W i:=fun x v b h=>by
 have:=congrFun (congrFun hr x) v;simp only[resW]at this
 cases hw:wnt l i (FW l kp a0 x) with
 | false=>rw[hw]at this;cases this
 | true=>
  rw[hw]at this;exact⟨rfl,.inr ⟨f,args x,Option.some.inj this,hc x v b h⟩⟩
theorem ObW.e{kp:List Kw}{i:Nat}(e:(Nat→Wt)→Sem Next)(hr:(fun x=>cond (wnt l i (FW l kp a0 x)) (some (execOp (FW l kp a0 x).eval (opW l i))) none)=fun x=>some (e x))(hc:∀x v,Gr W v→(∀j,wts l i j=true→(kW kp j).ok (x j) v)→∃y w',(e x).run P v=.ok (.value ((kW kp i).val y)) w'∧Gr v w'∧(kW kp i).ok y w'):ObW P l kp a0 W i:=fun x v b h=>by
 have:=congrFun hr x
 cases hw:wnt l i (FW l kp a0 x) with
 | false=>rw[hw]at this;cases this
 | true=>
  rw[hw]at this;have d:=Option.some.inj this;exact⟨rfl,.inl (by rw[d];exact hc x v b h)⟩
def exI(op:Op):Sem Next:=execOp (Act.eval ⟨#[],[]⟩) ⟨none,op,0, "", #[],none⟩
def runW(l:List Oper)(kp:List Kw)(a0:Act)(i:Nat)(x:Nat→Wt):Option (Sem Next):=cond (wnt l i (FW l kp a0 x)) (some (execOp (FW l kp a0 x).eval (opW l i))) none
theorem ObW.s{kp:List Kw}{i:Nat}{u:Value}(op:Op)(hk:kW kp i=.c u)(hc:∀v,Gr W v→(exI op).run P v=.ok (.value u) v)(hr:runW l kp a0 i=fun _=>some (exI op):=by kernel_rfl):ObW P l kp a0 W i:=
 ObW.e (fun _=>exI op) hr fun _ v b _=>⟨fun _=>(none,0),v,by rw[hk];exact hc v b,Gr.refl _,by rw[hk];trivial⟩
theorem ObW.g{kp:List Kw}{i b:Nat}{c:Array Value}{u:Value}(t:TypeId)(off:Nat)(hb:Vr W b c)(hk:kW kp i=.c u)(hc:∀v:World,blk v b=c→(exI (.load t (.const (.pointer (some ⟨b,off,none⟩))))).run P v=.ok (.value u) v:=by intro vv H;simp[go_sem,exI,H])(hr:runW l kp a0 i=fun _=>some (exI (.load t (.const (.pointer (some ⟨b,off,none⟩))))):=by kernel_rfl):ObW P l kp a0 W i:=
 ObW.s _ hk (fun v d=>hc v (hb.gr d).h) hr
end
theorem RtW.of_n{P:Program}{f:FuncId}{args:Array Value}{w:World}{x:Nat}(h:Calls P f args w (Rt (.n x) w)):Calls P f args w (RtW (.n x) w):=h.mono fun _ _ ⟨_,e,⟨p,n,b,s⟩,g⟩=>⟨fun _=>(p,n),by rw[e,b];rfl,s,g⟩
theorem RtW.of_c{P:Program}{f:FuncId}{args:Array Value}{w:World}{v:Value}(h:Calls P f args w (Rt (.c v) w)):Calls P f args w (RtW (.c v) w):=h.mono fun _ _ ⟨_,e,b,g⟩=>⟨fun _=>(none,0),(show _=v from b)▸e,trivial,g⟩
abbrev Kw.E(v:Value):Kw:=.c (.tuple #[v,.int .i64 0])
abbrev Kw.N(x:Nat):Kw:=.c (.agg (nw 9 x))
abbrev Kw.T:Kw:=.c (.bool true)
abbrev Kw.F:Kw:=.c (.bool false)
abbrev Kw.O:Kw:=.c (.int .i64 0)
theorem fzw:(∀(l:List Oper) (kp:List Kw) (a:Act) (x:Nat→Wt),FW l kp a x=putFrom (wvals kp x) 0 l a)∧(∀(v:Nat→Value) (k:Nat) (a:Act),putFrom v k [] a=a)∧(∀(v:Nat→Value) (k:Nat) (o:Oper) (l:List Oper) (a:Act),putFrom v k (o :: l) a=putFrom v (k+1) l (a.put o.dst (v k)))∧(∀t f (d:Tmp) (v:Value),Act.put ⟨t,f⟩ (some d) v=⟨t.setIfInBounds d v,f⟩)∧(∀(a:Act) (v:Value),a.put none v=a)∧(∀(l:List Value) (i:Nat) (a:Value),l.toArray.setIfInBounds i a=(l.set i a).toArray)∧(∀(x a:Value) (l:List Value),(x :: l).set 0 a=a :: l)∧(∀(x a:Value) (l:List Value) (i:Nat),(x :: l).set (i+1) a=x :: l.set i a)∧(∀(kp:List Kw) (x:Nat→Wt) (j:Nat),wvals kp x j=(kW kp j).val (x j))∧(∀(kp:List Kw) (i:Nat),kW kp i=kp.getD i .u)∧(∀(x d:Kw) (l:List Kw),(x :: l).getD 0 d=x)∧(∀(x d:Kw) (l:List Kw) (i:Nat),(x :: l).getD (i+1) d=l.getD i d)∧(∀v y,(Kw.c v).val y=v)∧(∀y,Kw.u.val y=undef)∧(∀x y,(Kw.n x).val y=.slice (y 0).1 (dl x) (y 0).2)∧(∀x y,(Kw.N x).val y=.agg (nw 9 x))∧(∀y,Kw.T.val y=.bool true)∧(∀y,Kw.F.val y=.bool false)∧(∀y,Kw.O.val y=.int .i64 0)∧(∀v y,(Kw.E v).val y=.tuple #[v,.int .i64 0]):=by
 refine⟨?_,?_,?_,?_,?_,?_,?_,?_,?_,?_,?_,?_,?_,?_,?_,?_,?_,?_,?_,?_⟩
 all_goals intros;first|rfl|simp
theorem ObW.z{P:Program}{l:List Oper}{a0:Act}{W:World}{kp:List Kw}{i:Nat}{f:FuncId}{a:Array Value}{c:Value}(h:∀v,Calls P f a v fun e w'=>e=.returned c∧Gr v w')(hk:kW kp i=.c c:=by rfl)(hr:(fun x v=>resW P l kp a0 x v i)=fun _ v=>some (.ok (.enter f a) v):=by kernel_rfl):ObW P l kp a0 W i:=ObW.k (fun _=>a) (fun _ v _ _=>by rw[hk];exact RtW.of_c (Rt.c (h v))) hr
theorem ObW.y{P:Program}{l:List Oper}{a0:Act}{W:World}{kp:List Kw}{i:Nat}{f:FuncId}{a:Array Value}{c:Value}(h:∀v,Calls P f a v fun e w'=>e=.returned c∧w'=v)(hk:kW kp i=.c c:=by rfl)(hr:(fun x v=>resW P l kp a0 x v i)=fun _ v=>some (.ok (.enter f a) v):=by kernel_rfl):ObW P l kp a0 W i:=ObW.k (fun _=>a) (fun _ v _ _=>by rw[hk];exact RtW.of_c (Rt.same (h v))) hr
theorem lqA{α:Type}(l:List α)(i:Nat)(a:α):l.toArray.setIfInBounds i a=(l.set i a).toArray:=List.setIfInBounds_toArray l i a
theorem lqB{α:Type}{x:α}{xs:List α}{a:α}:(x :: xs).set 0 a=a :: xs:=rfl
theorem lqC{α:Type}{x:α}{xs:List α}{i:Nat}{a:α}:(x :: xs).set (i+1) a=x :: xs.set i a:=rfl
theorem lqD{α:Type}{x:α}{xs:List α}{d:α}:(x :: xs).getD 0 d=x:=rfl
theorem lqE{α:Type}{x:α}{xs:List α}{n:Nat}{d:α}:(x :: xs).getD (n+1) d=xs.getD n d:=rfl
end
section
def Kw.a:Kw:=⟨fun y=>.pointer (some ⟨(y 0).2,0,none⟩),fun _ _=>True,fun _ _ _ _ _=>trivial,0,fun _ _ _=>trivial,fun h=>absurd h (by decide)⟩
def Kw.r(n:Nat)(c:Array Value):Kw:=⟨fun y=>.slice (some ⟨(y 0).2,0,none⟩) n n,fun y w=>Vr w (y 0).2 c,fun _ _ _ h g=>h.gr g,0,fun h=>absurd rfl h,fun h=>absurd h (by decide)⟩
theorem ObW.r{P:Program}{l:List Oper}{a0:Act}{W:World}{kp:List Kw}{i n:Nat}{t:TypeId}{c:Array Value}(op:Op)(hk:kW kp i=.r n c)(hc:∀v:World,(exI op).run P v=.ok (.value (.slice (some ⟨v.heap.size,0,none⟩) n n)) (v.alloc (.cells c t)))(hr:runW l kp a0 i=fun _=>some (exI op):=by kernel_rfl):ObW P l kp a0 W i:=
 ObW.e (fun _=>exI op) hr fun _ v b _=>⟨fun _=>(none,v.heap.size),_,by rw[hk];exact hc v,(Gr.refl _).alloc _,by rw[hk];exact Vr.new _ _ _⟩
structure Ent where
 j:Nat
 i:Nat
 t:TypeId
 z:Array Value
 c:(Nat→Wt)→Array Value
def FarK(z:Array Value)(k:Kw):Prop:=∀y w b d,blk w b=z→k.ok y w→k.ok y (setBlk w b d)
section
variable {z:Array Value}
theorem fkc{v:Value}:FarK z (.c v):=fun _ _ _ _ _ _=>trivial
theorem fku:FarK z .u:=fun _ _ _ _ _ _=>trivial
theorem fka:FarK z .a:=fun _ _ _ _ _ _=>trivial
end
def FarL(z:Array Value):List Kw→Prop
 | []=>True
 | k :: r=>FarK z k∧FarL z r
theorem FarL.at{z:Array Value}:∀{kp:List Kw},FarL z kp→∀i,FarK z (kW kp i)
 | [],_,_=>fku
 | _ :: _,h,0=>h.1
 | _ :: r,h,i+1=>FarL.at (kp:=r) h.2 i
def ExV(ex:List Nat)(st:List Ent):List Nat:=ex++st.map Ent.j++st.map Ent.i
structure ObV(P:Program)(l:List Oper)(kp:List Kw)(a0:Act)(e:Ent):Prop where
 hc:∀x x',(∀j,wts l e.i j=true→(kW kp j).val (x j)=(kW kp j).val (x' j))→e.c x=e.c x'
 hs:∀x v b,blk v b=e.z→frz v b=(0,0)→(exI (.store e.t (.const (.pointer (some ⟨b,0,none⟩))) (.const (.agg (e.c x))))).run P v=.ok .skip (setBlk v b (e.c x))
 hz:0<e.z.size
 hf:FarL e.z kp
 hn:∀v:World,(exI (.alloc e.t)).run P v=.ok (.value (.pointer (some ⟨v.heap.size,0,none⟩))) (v.alloc (.cells e.z e.t)):=by intro vv;simp[go_sem,exI]
 ka:kW kp e.j=.a:=by rfl
 ku:kW kp e.i=.u:=by rfl
 hw:wts l e.i e.j=true:=by rfl
 rj:runW l kp a0 e.j=fun _=>some (exI (.alloc e.t)):=by kernel_rfl
 ri:runW l kp a0 e.i=fun x=>some (exI (.store e.t (.const (.pointer (some ⟨(x e.j 0).2,0,none⟩))) (.const (.agg (e.c x))))):=by kernel_rfl
structure ObY(P:Program)(l:List Oper)(kp:List Kw)(a0:Act)(e:Ent):Prop where
 hc:∀x x',(∀j,wts l e.i j=true→(kW kp j).val (x j)=(kW kp j).val (x' j))→e.c x=e.c x'
 hs:∀x v b,blk v b=e.z→frz v b=(0,0)→(exI (.store e.t (.const (.pointer (some ⟨b,0,none⟩))) (.const (.agg (e.c x))))).run P v=.ok .skip (setBlk v b (e.c x))
 hz:0<e.z.size
 hn:∀v:World,(exI (.alloc e.t)).run P v=.ok (.value (.pointer (some ⟨v.heap.size,0,none⟩))) (v.alloc (.cells e.z e.t)):=by intro vv;simp[go_sem,exI]
 ka:kW kp e.j=.a:=by rfl
 ku:kW kp e.i=.u:=by rfl
 hw:wts l e.i e.j=true:=by rfl
 rj:runW l kp a0 e.j=fun _=>some (exI (.alloc e.t)):=by kernel_rfl
 ri:runW l kp a0 e.i=fun x=>some (exI (.store e.t (.const (.pointer (some ⟨(x e.j 0).2,0,none⟩))) (.const (.agg (e.c x))))):=by kernel_rfl
theorem ObV.y{P:Program}{l:List Oper}{kp:List Kw}{a0:Act}{e:Ent}(h:ObV P l kp a0 e):ObY P l kp a0 e:=⟨h.hc,h.hs,h.hz,h.hn,h.ka,h.ku,h.hw,h.rj,h.ri⟩
def ForY{α:Type}(p:α→Prop):List α→Prop
 | []=>True
 | e :: r=>p e∧ForY p r
theorem ForY.nil{α:Type}{p:α→Prop}:ForY p []:=trivial
theorem ForY.at{α:Type}{p:α→Prop}:∀{st:List α},ForY p st→∀e,e∈st→p e
 | [],_,_,h=>by cases h
 | e :: r,ho,e',h=>by
  rcases List.mem_cons.1 h with rfl|h
  ·exact ho.1
  ·exact ForY.at ho.2 e' h
def ObR(P:Program)(l:List Oper)(kp:List Kw)(a0:Act)(i:Nat):Prop:=
 ∃n c t op,kW kp i=.r n c∧(∀v:World,(exI op).run P v=.ok (.value (.slice (some ⟨v.heap.size,0,none⟩) n n)) (v.alloc (.cells c t)))∧runW l kp a0 i=fun _=>some (exI op)
def Sep(st:List Ent)(rw:List Nat)(listed:Array Bool)(vals:Nat→Value):Prop:=
 ∀e,e∈st→listed.getD e.j false=true→∀j,j∈rw→listed.getD j false=true→∀b' b n c,vals e.j=.pointer (some ⟨b',0,none⟩)→vals j=.slice (some ⟨b,0,none⟩) n c→b'≠b
def ObsV(P:Program)(l:List Oper)(kp:List Kw)(a0:Act):List Ent→Prop
 | []=>True
 | e :: r=>ObV P l kp a0 e∧ObsV P l kp a0 r
theorem ObsV.nil{P:Program}{l:List Oper}{kp:List Kw}{a0:Act}:ObsV P l kp a0 []:=trivial
theorem ObsV.cons{P:Program}{l:List Oper}{kp:List Kw}{a0:Act}{e:Ent}{r:List Ent}(h:ObV P l kp a0 e)(t:ObsV P l kp a0 r):ObsV P l kp a0 (e :: r):=⟨h,t⟩
theorem ObsV.at{P:Program}{l:List Oper}{kp:List Kw}{a0:Act}:∀{st:List Ent},ObsV P l kp a0 st→∀e,e∈st→ObV P l kp a0 e
 | [],_,_,h=>by cases h
 | e :: r,ho,e',h=>by
  rcases List.mem_cons.1 h with rfl|h
  ·exact ho.1
  ·exact ObsV.at ho.2 e' h
theorem map_one{α:Type}(f:α→Nat):∀{st:List α},(st.map f).Nodup→∀e e',e∈st→e'∈st→f e=f e'→e=e'
 | [],_,_,_,h,_,_=>by cases h
 | a :: r,hn,e,e',h,h',he=>by
  rw[List.map_cons,List.nodup_cons]at hn
  rcases List.mem_cons.1 h with h1|h1 <;> rcases List.mem_cons.1 h' with h2|h2
  ·rw[h1,h2]
  ·rw[h1]at he;exact absurd (he▸List.mem_map_of_mem h2) hn.1
  ·rw[h2]at he;exact absurd (he▸List.mem_map_of_mem h1) hn.1
  ·exact map_one f hn.2 e e' h1 h2 he
def RV(W:World)(l:List Oper)(kp:List Kw)(st:List Ent)(listed:Array Bool)(vals:Nat→Value)(w:World):Prop:=
 RZ W (kp.map Kw.kz) listed vals w∧(∀e,e∈st→listed.getD e.i false=true→∀j,wts l e.i j=true→listed.getD j false=true) ∧
 ∃B:Nat→Nat,(∀e,e∈st→listed.getD e.j false=true→vals e.j=.pointer (some ⟨B e.j,0,none⟩)∧W.heap.size≤B e.j∧B e.j<w.heap.size∧frz w (B e.j)=(0,0) ∧
  (listed.getD e.i false=false→blk w (B e.j)=e.z)∧(listed.getD e.i false=true→∃x:Nat→Wt,(∀j,wts l e.i j=true→vals j=(kW kp j).val (x j))∧blk w (B e.j)=e.c x)) ∧
  (∀e e',e∈st→e'∈st→listed.getD e.j false=true→listed.getD e'.j false=true→B e.j=B e'.j→e=e')
section
variable {P:Program} {l:List Oper} {Q:Exit→Act→World→Prop} {a0:Act} {W:World} {kp:List Kw} {ex rw:List Nat} {st:List Ent} {listed:Array Bool} {vals:Nat→Value} {w w':World}
theorem set_mono{i j:Nat}(h:listed.getD j false=true)(hi:i<listed.size):(listed.setIfInBounds i true).getD j false=true:=by
 grind [getD_set_same,getD_set_other]
theorem ne_un{i j:Nat}(h:listed.getD j false=true)(hl:listed.getD i false=false):j≠i:=fun e=>by
 subst e;rw[h]at hl;cases hl
theorem RV.next(h:RV W l kp st listed vals w){i:Nat}{v:Value}(hi:i<listed.size)(hl:listed.getD i false=false)(hA:∀e,e∈st→e.j≠i∧e.i≠i)(hg:Gr w w')(hv:kz (kp.map Kw.kz) i v w'):
 RV W l kp st (listed.setIfInBounds i true) (upd vals i v) w':=by
 obtain⟨G,q,B,H,I⟩:=h
 refine⟨G.next hg hv,fun e b d j o=>?_,B,fun e b f=>?_,fun e A b m C D=>?_⟩
 ·rw[getD_set_other _ _ _ (Ne.symm (hA e b).2)]at d;exact set_mono (q e b d j o) hi
 ·rw[getD_set_other _ _ _ (Ne.symm (hA e b).1)]at f;obtain⟨J,K,p,L,P,Q⟩:=H e b f
  refine⟨by simp only[upd,(hA e b).1,if_false];exact J,K,Nat.lt_of_lt_of_le p hg.below.size,by rw[hg.frz _ p];exact L,fun h=>?_,fun h=>?_⟩
  ·rw[getD_set_other _ _ _ (Ne.symm (hA e b).2)]at h;rw[hg.blk _ p];exact P h
  ·rw[getD_set_other _ _ _ (Ne.symm (hA e b).2)]at h;obtain⟨x,R,S⟩:=Q h;refine⟨x,fun j o=>?_,by rw[hg.blk _ p];exact S⟩;simp only[upd,ne_un (q e b h j o) hl,if_false];exact R j o
 ·rw[getD_set_other _ _ _ (Ne.symm (hA e b).1)]at C;rw[getD_set_other _ _ _ (Ne.symm (hA A m).1)]at D;exact I e A b m C D
theorem RV.alloc(h:RV W l kp st listed vals w)(e:Ent)(he:e∈st)(hj1:(st.map Ent.j).Nodup)(hij:∀e e',e∈st→e'∈st→e.i≠e'.j)(hw:wts l e.i e.j=true)(hi:e.j<listed.size)(hl:listed.getD e.j false=false)(hk:e.j<kp.length)(ka:kW kp e.j=.a):
 RV W l kp st (listed.setIfInBounds e.j true) (upd vals e.j (.pointer (some ⟨w.heap.size,0,none⟩))) (w.alloc (.cells e.z e.t)):=by
 obtain⟨P,J,B,K,Q⟩:=h;have o:Gr w (w.alloc (.cells e.z e.t)):=(Gr.refl w).alloc _
 have L:listed.getD e.i false≠true:=fun h=>by rw[J e he h e.j hw]at hl;cases hl
 refine⟨P.next o ((kz_W hk _ _).2 ⟨fun _=>(none,w.heap.size),by rw[ka];rfl,by rw[ka];trivial⟩),fun e' b p j v=>?_,fun m=>if m=e.j then w.heap.size else B m,fun e' b q=>?_,fun A C d f D G H=>?_⟩
 ·rw[getD_set_other _ _ _ (Ne.symm (hij e' e b he))]at p;exact set_mono (J e' b p j v) hi
 ·by_cases ee:e'.j=e.j
  ·obtain rfl:=map_one Ent.j hj1 e' e b he ee;simp only[if_true,upd];refine⟨trivial,P.1.below.size,by simp,frz_alloc_at _ _ _ _ _ rfl,fun _=>blk_alloc_at _ _ _ _ _ rfl,fun h=>?_⟩;rw[getD_set_other _ _ _ (Ne.symm (hij e' e' b b))]at h;exact absurd h L
  ·rw[getD_set_other _ _ _ (Ne.symm ee)]at q;obtain⟨R,S,I,U,V,X⟩:=K e' b q;simp only[ee,if_false,upd]
   refine⟨R,S,Nat.lt_of_lt_of_le I o.below.size,by rw[o.frz _ I];exact U,fun h=>?_,fun h=>?_⟩
   ·rw[getD_set_other _ _ _ (Ne.symm (hij e' e b he))]at h;rw[o.blk _ I];exact V h
   ·rw[getD_set_other _ _ _ (Ne.symm (hij e' e b he))]at h;obtain⟨x,Y,Z⟩:=X h;refine⟨x,fun j v=>?_,by rw[o.blk _ I];exact Z⟩;simp only[ne_un (J e' b h j v) hl,if_false];exact Y j v
 ·by_cases x1:A.j=e.j <;> by_cases x2:C.j=e.j
  ·exact map_one Ent.j hj1 A C d f (x1.trans x2.symm)
  ·rw[getD_set_other _ _ _ (Ne.symm x2)]at G;simp only[x1,x2,if_true,if_false]at H;have:=(K C f G).2.2.1
   omega
  ·rw[getD_set_other _ _ _ (Ne.symm x1)]at D;simp only[x1,x2,if_true,if_false]at H;have:=(K A d D).2.2.1
   omega
  ·rw[getD_set_other _ _ _ (Ne.symm x1)]at D;rw[getD_set_other _ _ _ (Ne.symm x2)]at G;simp only[x1,x2,if_false]at H;exact Q A C d f D G H
theorem RV.at(h:RV W l kp st listed vals w){e:Ent}(hl:listed.getD e.j false=true)(he:e∈st){b:Nat}(hv:vals e.j=.pointer (some ⟨b,0,none⟩))(hi:listed.getD e.i false=false):blk w b=e.z:=by
 obtain⟨-,-,B,f,-⟩:=h;obtain⟨d,-,-,-,m,-⟩:=f e he hl;rw[hv]at d;simp only[Value.pointer.injEq,Option.some.injEq,Addr.mk.injEq]at d;rw[d.1];exact m hi
theorem RV.storeY(h:RV W l kp st listed vals w)(e:Ent)(he:e∈st)(hi1:(st.map Ent.i).Nodup)(hij:∀e e',e∈st→e'∈st→e.i≠e'.j)(hlen:listed.size≤kp.length)(hi:e.i<listed.size)(hl:listed.getD e.i false=false)(ku:kW kp e.i=.u)(hz:0<e.z.size)(x:Nat→Wt)(hx:∀j,wts l e.i j=true→listed.getD j false=true∧vals j=(kW kp j).val (x j))(hw:wts l e.i e.j=true)(ka:kW kp e.j=.a)(hkeep:∀j y,listed.getD j false=true→vals j=(kW kp j).val y→(kW kp j).ok y w→(kW kp j).ok y (setBlk w (x e.j 0).2 (e.c x))):
 blk w (x e.j 0).2=e.z∧frz w (x e.j 0).2=(0,0)∧RV W l kp st (listed.setIfInBounds e.i true) (upd vals e.i undef) (setBlk w (x e.j 0).2 (e.c x)):=by
 obtain⟨K,L,B,P,G⟩:=h;obtain⟨m,H⟩:=hx e.j hw;obtain⟨Q,V,a3,X,Y,a6⟩:=P e he m
 have Z:(x e.j 0).2=B e.j:=by
  rw[H,ka]at Q
  simpa [Kw.a]using Q
 rw[Z]at hkeep ⊢;have R:=Y hl
 refine⟨R,X,⟨gr_setNew K.1 V,fun j f=>?_⟩,fun e' b p j f=>?_,B,fun e' b d=>?_,fun S U q v A D h7=>?_⟩
 ·by_cases ee:j=e.i
  ·subst ee
   refine(kz_W (by omega) _ _).2 ⟨fun _=>(none,0),?_,?_⟩
   ·rw[ku];simp only[upd,if_true];rfl
   ·rw[ku];trivial
  ·rw[getD_set_other _ _ _ (Ne.symm ee)]at f;simp only[upd,ee,if_false]
   have C:j<kp.length:=by
    rcases Nat.lt_or_ge j listed.size with h|h
    ·omega
    ·simp[h]at f
   obtain⟨y,A,D⟩:=(kz_W C _ _).1 (K.2 j f);exact(kz_W C _ _).2 ⟨y,A,hkeep j y f A D⟩
 ·by_cases ee:e'.i=e.i
  ·obtain rfl:=map_one Ent.i hi1 e' e b he ee;exact set_mono (hx j f).1 hi
  ·rw[getD_set_other _ _ _ (Ne.symm ee)]at p;exact set_mono (L e' b p j f) hi
 ·rw[getD_set_other _ _ _ (hij e e' he b)]at d;obtain⟨b1,b2,b3,b4,b5,b6⟩:=P e' b d
  refine⟨by simp only[upd,Ne.symm (hij e e' he b),if_false];exact b1,b2,by rw[size_setBlk];exact b3,by rw[frz_setBlk];exact b4,fun h=>?_,fun h=>?_⟩
  ·by_cases ee:e'.i=e.i
   ·rw[ee,getD_set_same _ _ hi]at h;cases h
   ·rw[getD_set_other _ _ _ (Ne.symm ee)]at h;have o:B e.j≠B e'.j:=fun I=>ee (by rw[G e e' he b m d I]);rw[blk_other _ _ _ _ o];exact b5 h
  ·by_cases ee:e'.i=e.i
   ·obtain rfl:=map_one Ent.i hi1 e' e b he ee;refine⟨x,fun j f=>?_,blk_setBlk _ _ _ (by rw[R];exact hz)⟩;simp only[upd,ne_un (hx j f).1 hl,if_false];exact(hx j f).2
   ·rw[getD_set_other _ _ _ (Ne.symm ee)]at h;have o:B e.j≠B e'.j:=fun I=>ee (by rw[G e e' he b m d I]);obtain⟨y,hy,J⟩:=b6 h;refine⟨y,fun j f=>?_,by rw[blk_other _ _ _ _ o];exact J⟩;simp only[upd,ne_un (L e' b h j f) hl,if_false];exact hy j f
 ·rw[getD_set_other _ _ _ (hij e S he q)]at A;rw[getD_set_other _ _ _ (hij e U he v)]at D;exact G S U q v A D h7
theorem Sep.next(h:Sep st rw listed vals){i:Nat}{v:Value}(hA:∀e,e∈st→e.j≠i)(hr:i ∉ rw):Sep st rw (listed.setIfInBounds i true) (upd vals i v):=fun e f l j m o w b n c p q=>by
 have d:j≠i:=fun e=>hr (e▸m);rw[getD_set_other _ _ _ (Ne.symm (hA e f))]at l;rw[getD_set_other _ _ _ (Ne.symm d)]at o;simp only[upd,hA e f,if_false]at p;simp only[upd,d,if_false]at q;exact h e f l j m o w b n c p q
theorem row_at(hR:RZ W (kp.map Kw.kz) listed vals w){j:Nat}(hj:listed.getD j false=true)(hl:j<kp.length){n:Nat}{c:Array Value}(hk:kW kp j=.r n c){b m q:Nat}(hv:vals j=.slice (some ⟨b,0,none⟩) m q):Vr w b c:=by
 obtain⟨y,d,f⟩:=(kz_W hl _ _).1 (hR.2 j hj)
 grind [Kw.r]
theorem run_W{i:Nat}{x:Nat→Wt}{e:(Nat→Wt)→Sem Next}(h:runW l kp a0 i=fun x=>some (e x)):wnt l i (FW l kp a0 x)=true∧execOp (FW l kp a0 x).eval (opW l i)=e x:=by
 have:=congrFun h x
 grind [runW]
theorem stepG(d:Bool)(hk:chkW l kp (ExV (ex++rw) st) l.length=true)(hp:pureL P l kp a0 (ExV (ex++rw) st) l.length=pureR kp (ExV (ex++rw) st) l.length)(ho:ObsW P l kp a0 W ex)(hrw:ForY (ObR P l kp a0) rw)(hv:∀e,e∈st→ObY P l kp a0 e)(hfar:∀e,e∈st→∀j,j<l.length→j∈rw∨FarK e.z (kW kp j))(hyj:∀j,j∈rw→∀e,e∈st→e.j≠j∧e.i≠j)(hnd:(st.map Ent.j).Nodup∧(st.map Ent.i).Nodup∧∀a,a∈st.map Ent.i→∀b,b∈st.map Ent.j→a≠b):StepR d P l Q a0 (fun listed vals w=>RV W l kp st listed vals w∧Sep st rw listed vals):=by
 intro listed vals a w i o hz af hF hi hl hd _;obtain⟨H,hS⟩:=af
 have S:i<l.length:=by simpa using (Array.getElem?_eq_some_iff.1 hi).1
 have K:i<listed.size:=by rw[hz];simpa using S
 have ab:=(chk_u hk).2;have U:=opW_is hi;have V:∀e e',e∈st→e'∈st→e.i≠e'.j:=fun e e' f m=>hnd.2.2 _ (List.mem_map_of_mem f) _ (List.mem_map_of_mem m);obtain⟨x,hx,X,Y⟩:=atW hk H.1.2 hF hi S hd;rw[Y];have ag:=fun(u:Value) (v:World)=>kz_W (kp:=kp) (j:=i) (by omega) u v
 have ac:∀j,listed.getD j false=true→j<kp.length:=fun j I=>by
  rcases Nat.lt_or_ge j listed.size with h|h
  ·rw[hz]at h;simp at h;omega
  ·simp[h]at I
 by_cases hA:∃e,e∈st∧e.j=i
 ·obtain⟨e,f,rfl⟩:=hA;have A:=hv e f;obtain⟨C,L⟩:=run_W A.rj;refine Or.inl ⟨C,wp_val _ (by rw[X,←U,L];exact A.hn w) ⟨_,rfl,H.alloc e f hnd.1 V A.hw K hl (by omega) A.ka,fun e' m R j I J b' b n c D Z=>?_⟩⟩;have q:=(hyj j I e f).1;rw[getD_set_other _ _ _ q]at J;simp only[upd,Ne.symm q,if_false]at Z
  by_cases ee:e'.j=e.j
  ·simp only[upd,ee,if_true,Value.pointer.injEq,Option.some.injEq,Addr.mk.injEq]at D;obtain⟨n',c',t',ah,aa,-,-⟩:=hrw.at j I;have:b+1≤w.heap.size:=(row_at H.1 J (ac j J) aa Z).p
   omega
  ·rw[getD_set_other _ _ _ (Ne.symm ee)]at R;simp only[upd,ee,if_false]at D;exact hS e' m R j I J b' b n c D Z
 by_cases hB:∃e,e∈st∧e.i=i
 ·obtain⟨e,f,rfl⟩:=hB;have A:=hv e f;obtain⟨C,L⟩:=run_W A.ri;have q:=hx e.j A.hw
  obtain⟨hb,hf,ai⟩:=H.storeY e f hnd.2.1 V (by rw[hz];simp[ab]) K hl A.ku A.hz x (fun j I=>⟨(hx j I).1,(hx j I).2.1⟩) A.hw A.ka (fun j y R J D=>by
   rcases hfar e f j (by have:=ac j R;omega) with hjr|hfk
   ·obtain⟨n',c',t',ah,aa,-,-⟩:=hrw.at j hjr;rw[aa]at J D ⊢;exact D.other (hS e f q.1 j hjr R _ _ _ _ (by rw[q.2.1,A.ka];rfl) J)
   ·exact hfk y w _ _ (H.at q.1 f (by rw[q.2.1,A.ka];rfl) hl) D)
  exact Or.inl ⟨C,wp_skip (by rw[X,←U,L];exact A.hs x w _ hb hf) ⟨_,rfl,ai,hS.next (fun e' m=>Ne.symm (V e e' f m)) fun h=>(hyj _ h e f).2 rfl⟩⟩
 have G:∀e,e∈st→e.j≠i∧e.i≠i:=fun e f=>⟨fun h=>hA ⟨e,f,h⟩,fun h=>hB ⟨e,f,h⟩⟩
 by_cases hmr:i∈rw
 ·obtain⟨n,c,t,op,ad,ae,hr⟩:=hrw.at i hmr;obtain⟨C,L⟩:=run_W hr;refine Or.inl ⟨C,wp_val _ (by rw[X,←U,L];exact ae w) ⟨_,rfl,H.next K hl G ((Gr.refl w).alloc _) ((ag _ _).2 ⟨fun _=>(none,w.heap.size),by rw[ad];rfl,by rw[ad];exact Vr.new _ _ _⟩),fun e' m R j I J b' b n c D Z=>?_⟩⟩;rw[getD_set_other _ _ _ (Ne.symm (G e' m).1)]at R;simp only[upd,(G e' m).1,if_false]at D
  by_cases ee:j=i
  ·subst ee;simp only[upd,if_true,Value.slice.injEq,Option.some.injEq,Addr.mk.injEq]at Z;obtain⟨-,-,B,h3,-⟩:=H;obtain⟨a1,-,a3,-⟩:=h3 e' m R;rw[D]at a1;simp only[Value.pointer.injEq,Option.some.injEq,Addr.mk.injEq]at a1
   omega
  ·rw[getD_set_other _ _ _ (Ne.symm ee)]at J;simp only[upd,ee,if_false]at Z;exact hS e' m R j I J b' b _ _ D Z
 have nx:∀v w',Gr w w'→kz (kp.map Kw.kz) i v w'→RV W l kp st (listed.setIfInBounds i true) (upd vals i v) w'∧Sep st rw (listed.setIfInBounds i true) (upd vals i v):=fun v w' hg h=>⟨H.next K hl G hg h,hS.next (fun e f=>(G e f).1) hmr⟩
 have aj:i∈ExV (ex++rw) st→ObW P l kp a0 W i:=fun h=>by
  unfold ExV at h;rw[List.mem_append,List.mem_append,List.mem_append]at h
  rcases h with ((h|h)|h)|h
  ·exact ho.at i h
  ·exact absurd h hmr
  ·obtain⟨e,f,h⟩:=List.mem_map.1 h;exact absurd ⟨e,f,h⟩ hA
  ·obtain⟨e,f,h⟩:=List.mem_map.1 h;exact absurd ⟨e,f,h⟩ hB
 obtain⟨C,L⟩|⟨C,L⟩:=stepW hk hp listed vals a w i o aj H.1.1 H.1.2 hF hi S hd
 ·rw[Y]at C;refine Or.inl ⟨C,Oper.wp_mono (fun a' w' h=>?_) L⟩;obtain⟨u,rfl,hg,hu⟩:=h;exact⟨u,rfl,nx u w' hg hu⟩
 ·rw[Y]at C;exact Or.inr ⟨C,nx _ _ (Gr.refl _) L⟩
def NewV(W:World)(x:Nat→Wt)(v:World):List Ent→Prop
 | []=>True
 | e :: r=>(W.heap.size≤(x e.j 0).2∧Vr v (x e.j 0).2 (e.c x))∧NewV W x v r
theorem NewV.of{x:Nat→Wt}{v:World}:∀{st:List Ent},(∀e,e∈st→W.heap.size≤(x e.j 0).2∧Vr v (x e.j 0).2 (e.c x))→NewV W x v st
 | [],_=>trivial
 | e :: _,h=>⟨h e (List.mem_cons_self ..),NewV.of fun e' he'=>h e' (List.mem_cons_of_mem _ he')⟩
def chkV(st:List Ent):Bool:=decide (st.map Ent.j).Nodup&&decide (st.map Ent.i).Nodup&&((st.map Ent.i).all fun a=>(st.map Ent.j).all fun b=>a != b)
theorem wp_g(d:Bool){id:Nat}(kp:List Kw)(ex rw:List Nat)(st:List Ent)(ho:ObsW P l kp a0 W ex)(hr:ForY (ObR P l kp a0) rw)(hv:∀e,e∈st→ObY P l kp a0 e)(hfar:∀e,e∈st→∀j,j<l.length→j∈rw∨FarK e.z (kW kp j))(hyj:∀j,j∈rw→∀e,e∈st→e.j≠j∧e.i≠j)(hfin:∀x v,Gr W v→(∀j,(kW kp j).ok (x j) v)→NewV W x v st→Q .normal (FW l kp a0 x) v)(hm:(!d || P.follows .mixedOrders)=true)(hk:(chkW l kp (ExV (ex++rw) st) l.length&&chkV st)=true)(hp:pureL P l kp a0 (ExV (ex++rw) st) l.length=pureR kp (ExV (ex++rw) st) l.length):(Code.region id l.toArray d).wp P Q a0 W:=by
 simp only[Bool.and_eq_true]at hk;obtain⟨hk,A⟩:=hk;simp only[chkV,Bool.and_eq_true,decide_eq_true_eq,List.all_eq_true,bne_iff_ne,ne_eq]at A;obtain⟨⟨Y,Z⟩,n3⟩:=A;obtain⟨H,C⟩:=chk_u hk
 refine wp_region_ord d (fun h=>by subst h;simpa using hm) H _ (fun b w' hn hg=>?_) (stepG d hk hp ho hr hv hfar hyj ⟨Y,Z,n3⟩) fun b R a v f I hF=>?_
 ·have D:∀(i:Nat) (p:Prop),b.getD i false=true→p:=fun i p h=>by rw[hn]at h;cases h
  exact⟨⟨⟨hg,fun j m=>D j _ m⟩,fun e _ h=>D e.i _ h,fun _=>0,fun e _ h=>D e.j _ h,fun e _ _ _ h=>D e.j _ h⟩,fun e _ h=>D e.j _ h⟩
 ·rw[hF.final H f];obtain⟨⟨S,h2,B,h3,-⟩,-⟩:=I;obtain⟨x,q,J⟩:=finW C fun j m=>S.2 j (f j (by simpa using m));rw[putFrom_congr (vals':=wvals kp x) l 0 a0 fun j o m _=>by rw[Nat.zero_add];exact q j (List.getElem?_eq_some_iff.1 m).1];refine hfin x v S.1 J (NewV.of fun e U=>?_);have K:=hv e U
  have V:∀j,wts l e.i j=true→j<l.length∧e.i<l.length:=fun j m=>by
   have hi:e.i<l.length:=by
    rcases Nat.lt_or_ge e.i l.length with h|h
    ·exact h
    ·rw[wts,opW,List.getElem?_eq_none (by omega)]at m;simp at m
   have ho:l.toArray[e.i]? = some l[e.i]:=by simp[hi]
   rw[wts,opW_is ho,Array.any_toList]at m;obtain⟨ed,L,G⟩:=Array.any_eq_true.1 m;simp only[Bool.and_eq_true,beq_iff_eq]at G;have:=(uniq_at H ho).2 _ (Array.getElem_mem L) G.2
   omega
  have w:=V e.j K.hw;obtain⟨X,a2,a3,a4,-,a6⟩:=h3 e U (f e.j (by simpa using w.1));obtain⟨y,hy,G⟩:=a6 (f e.i (by simpa using w.2))
  have hB:(x e.j 0).2=B e.j:=by
   rw[q e.j w.1,wvals,K.ka]at X
   simpa [Kw.a]using X
  rw[hB];exact⟨a2,by rw[G];exact K.hc y x fun j m=>by rw[←hy j m,q j (V j m).1];rfl,a4,a3⟩
theorem wp_v(d:Bool){id:Nat}(kp:List Kw)(ex:List Nat)(st:List Ent)(ho:ObsW P l kp a0 W ex)(hv:ObsV P l kp a0 st)(hfin:∀x v,Gr W v→(∀j,(kW kp j).ok (x j) v)→NewV W x v st→Q .normal (FW l kp a0 x) v)(hm:(!d || P.follows .mixedOrders)=true:=by kernel_rfl)(hk:(chkW l kp (ExV ex st) l.length&&chkV st)=true:=by kernel_rfl)(hp:pureL P l kp a0 (ExV ex st) l.length=pureR kp (ExV ex st) l.length:=by kernel_rfl):(Code.region id l.toArray d).wp P Q a0 W:=
 wp_g d kp ex [] st ho .nil (fun e b=>(hv.at e b).y) (fun e b j _=>.inr ((hv.at e b).hf.at j)) (fun j h=>by cases h) hfin hm (by rw[List.append_nil];exact hk) (by rw[List.append_nil];exact hp)
end
theorem FarL.t{z:Array Value}:∀{kp:List Kw},kp.map Kw.ok=kp.map (fun _ _ _=>True)→FarL z kp
 | [],_=>trivial
 | k :: r,h=>⟨fun y w b d _ _=>by have e:k.ok=fun _ _=>True:=(List.cons.inj h).1;rw[e];trivial,FarL.t (List.cons.inj h).2⟩
theorem ObV.k{P:Program}{l:List Oper}{kp:List Kw}{a0:Act}{e:Ent}(hz:0<e.z.size)(hf:FarL e.z kp)(hc:∀x x',(∀j,wts l e.i j=true→(kW kp j).val (x j)=(kW kp j).val (x' j))→e.c x=e.c x':=by intros;rfl)(hs:∀x v b,blk v b=e.z→frz v b=(0,0)→(exI (.store e.t (.const (.pointer (some ⟨b,0,none⟩))) (.const (.agg (e.c x))))).run P v=.ok .skip (setBlk v b (e.c x)):=by intro _ v b H F;dsimp only at H ⊢;simp[go_sem,exI,H,F])(hn:∀v:World,(exI (.alloc e.t)).run P v=.ok (.value (.pointer (some ⟨v.heap.size,0,none⟩))) (v.alloc (.cells e.z e.t)):=by intro vv;simp[go_sem,exI])(ka:kW kp e.j=.a:=by rfl)(ku:kW kp e.i=.u:=by rfl)(hw:wts l e.i e.j=true:=by rfl)(rj:runW l kp a0 e.j=fun _=>some (exI (.alloc e.t)):=by kernel_rfl)(ri:runW l kp a0 e.i=fun x=>some (exI (.store e.t (.const (.pointer (some ⟨(x e.j 0).2,0,none⟩))) (.const (.agg (e.c x))))):=by kernel_rfl):ObV P l kp a0 e:=⟨hc,hs,hz,hf,hn,ka,ku,hw,rj,ri⟩
theorem ObY.k{P:Program}{l:List Oper}{kp:List Kw}{a0:Act}{e:Ent}(hz:0<e.z.size)(hc:∀x x',(∀j,wts l e.i j=true→(kW kp j).val (x j)=(kW kp j).val (x' j))→e.c x=e.c x':=by intros;rfl)(hs:∀x v b,blk v b=e.z→frz v b=(0,0)→(exI (.store e.t (.const (.pointer (some ⟨b,0,none⟩))) (.const (.agg (e.c x))))).run P v=.ok .skip (setBlk v b (e.c x)):=by intro _ v b H F;dsimp only at H ⊢;simp[go_sem,exI,H,F])(hn:∀v:World,(exI (.alloc e.t)).run P v=.ok (.value (.pointer (some ⟨v.heap.size,0,none⟩))) (v.alloc (.cells e.z e.t)):=by intro vv;simp[go_sem,exI])(ka:kW kp e.j=.a:=by rfl)(ku:kW kp e.i=.u:=by rfl)(hw:wts l e.i e.j=true:=by rfl)(rj:runW l kp a0 e.j=fun _=>some (exI (.alloc e.t)):=by kernel_rfl)(ri:runW l kp a0 e.i=fun x=>some (exI (.store e.t (.const (.pointer (some ⟨(x e.j 0).2,0,none⟩))) (.const (.agg (e.c x))))):=by kernel_rfl):ObY P l kp a0 e:=⟨hc,hs,hz,hn,ka,ku,hw,rj,ri⟩
end
section
theorem zSg:0<(sgA 0 0).size:=by decide +kernel
end
end Go.Proofs.Ytdomjicpdbblnaa