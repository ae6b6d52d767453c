import Derived.Test.YtonbpnbhjghfbaaXADD
import Derived.Test.YtonbpnbhjghfbaaXAMixQ
import Derived.Test.YtonbpnbhjghfbaaXAQt
import Derived.Test.YtonbpnbhjghfbaaXARShr0
namespace Go.Proofs.Ytonbpnbhjghfbaa
open Go.RowKit Go.Proofs.Try
set_option maxRecDepth 100000
set_option maxHeartbeats 8000000
section
theorem part_range(w:World)(b o n:Nat):w.rangeAt b o ((blk w b).extract o (o+n)).toList:=fun j v f=>by
 rw[cell_blk]
 have d:((blk w b).extract o (o+n))[j]? = some v:=by rw[Array.getElem?_toList]at f;exact f
 rw[Array.getElem?_extract]at d
 split at d
 ·exact d
 ·cases d
theorem loadPart(w:World)(b o:Nat)(h:o+9≤(blk w b).size):(loadS 25 (.pointer (some ⟨b,o,none⟩))).run prog w=.ok (.agg ((blk w b).extract o (o+9))) w:=by
 have:=run_loadVar_mid w b o 25 ((blk w b).extract o (o+9)).toList _ (part_range w b o 9) underlying25 rfl (by
  have d:(prog.info? 25).map (·.size)=some 9:=by kernel_rfl
  rw[d];simp
  omega)
 simp only[loadS,Instr.loadAt,Instr.sureAddr,Sem.run_bind,Sem.run_pure,Result.andThen_ok];rw[Array.toArray_toList]at this;exact this
end
section
def pnt(x y:Nat)(f:Bool):Array Value:=nw 9 x++nw 9 y ++ #[.bool f]
def cu(id:Int)(p a b n x y:Nat)(s z:Int)(l:Bool):Array Value :=#[.int .i64 id]++nw 9 p++nw 9 a++nw 9 b++nw 9 n++pnt x y false ++ #[.int .i64 s,.int .i64 z,.bool l]
section
variable (id:Int) (p a b n x y:Nat) (s z:Int) (l:Bool)
theorem pnt_size(f:Bool):(pnt x y f).size=19:=by kernel_rfl
theorem cu_size:(cu id p a b n x y s z l).size=59:=by kernel_rfl
theorem pnt_X(f:Bool):(pnt x y f).extract 0 9=nw 9 x:=by kernel_rfl
theorem pnt_Y(f:Bool):(pnt x y f).extract 9 18=nw 9 y:=by kernel_rfl
theorem cu_P:(cu id p a b n x y s z l).extract 1 10=nw 9 p:=by kernel_rfl
theorem cu_A:(cu id p a b n x y s z l).extract 10 19=nw 9 a:=by kernel_rfl
theorem cu_B:(cu id p a b n x y s z l).extract 19 28=nw 9 b:=by kernel_rfl
theorem cu_N:(cu id p a b n x y s z l).extract 28 37=nw 9 n:=by kernel_rfl
theorem cu_0:(cu id p a b n x y s z l)[0]? = some (.int .i64 id):=by kernel_rfl
theorem cu_56:(cu id p a b n x y s z l)[56]? = some (.int .i64 s):=by kernel_rfl
theorem cu_57:(cu id p a b n x y s z l)[57]? = some (.int .i64 z):=by kernel_rfl
theorem cu_58:(cu id p a b n x y s z l)[58]? = some (.bool l):=by kernel_rfl
theorem cu_set0(v:Int):(cu id p a b n x y s z l).setIfInBounds 0 (.int .i64 v)=cu v p a b n x y s z l:=by kernel_rfl
theorem cu_set56(v:Int):(cu id p a b n x y s z l).setIfInBounds 56 (.int .i64 v)=cu id p a b n x y v z l:=by kernel_rfl
theorem cu_set57(v:Int):(cu id p a b n x y s z l).setIfInBounds 57 (.int .i64 v)=cu id p a b n x y s v l:=by kernel_rfl
theorem cu_set58(v:Bool):(cu id p a b n x y s z l).setIfInBounds 58 (.bool v)=cu id p a b n x y s z v:=by kernel_rfl
theorem cu_setP(q:Nat):setL (cu id p a b n x y s z l) 1 (nw 9 q).toList=cu id q a b n x y s z l:=by kernel_rfl
theorem all_app(c d:Array Value)(h1:c.all (·.oneCell')=true)(h2:d.all (·.oneCell')=true):(c++d).all (·.oneCell')=true:=by
 grind
theorem pnt_one(f:Bool):(pnt x y f).all (·.oneCell')=true:=all_app _ _ (all_app _ _ (nw_one _ _) (nw_one _ _)) (by simp[Value.oneCell'])
theorem cu_one:(cu id p a b n x y s z l).all (·.oneCell')=true:=
 all_app _ _ (all_app _ _ (all_app _ _ (all_app _ _ (all_app _ _ (all_app _ _ (by simp[Value.oneCell']) (nw_one _ _)) (nw_one _ _)) (nw_one _ _)) (nw_one _ _)) (pnt_one x y false)) (by simp[Value.oneCell'])
end
theorem loadCu_is:LdI 65:=fun _=>rfl
theorem storeCu_is:StI 65:=fun _ _=>rfl
theorem loadEq_is:LdI 81:=fun _=>rfl
theorem storeEq_is:StI 81:=fun _ _=>rfl
theorem loadPn_is:LdI 63:=fun _=>rfl
theorem zvCu_is:zeroValue 65=zvS 65:=rfl
theorem zvEq_is:zeroValue 81=zvS 81:=rfl
theorem zvCu(w:World):(zvS 65).run prog w=.ok (.agg (cu 0 0 0 0 0 0 0 0 0 false)) w:=by kernel_rfl
theorem zvEq(w:World):(zvS 81).run prog w=.ok (.agg (cu 0 0 0 0 0 0 0 0 0 false)) w:=by kernel_rfl
theorem buildCu_is(p:Array (Nat×Value)):Instr.build 65 p=buildF 65 p:=rfl
theorem buildEq_is(p:Array (Nat×Value)):Instr.build 81 p=buildF 81 p:=rfl
theorem buildPn_is(p:Array (Nat×Value)):Instr.build 63 p=buildF 63 p:=rfl
theorem buildCu0(w:World):(buildF 65 #[]).run prog w=.ok (.agg (cu 0 0 0 0 0 0 0 0 0 false)) w:=by kernel_rfl
theorem buildEq0(w:World):(buildF 81 #[]).run prog w=.ok (.agg (cu 0 0 0 0 0 0 0 0 0 false)) w:=by kernel_rfl
theorem buildCu4(a b n x y:Nat)(w:World):(buildF 65 #[(2,.agg (nw 9 a)),(3,.agg (nw 9 b)),(4,.agg (nw 9 n)),(5,.agg (pnt x y false))]).run prog w=.ok (.agg (cu 0 0 a b n x y 0 0 false)) w:=by kernel_rfl
theorem buildEq1(id:Int)(p a b n x y:Nat)(s z:Int)(l:Bool)(w:World):(buildF 81 #[(0,.agg (cu id p a b n x y s z l))]).run prog w=.ok (.agg (cu id p a b n x y s z l)) w:=by kernel_rfl
theorem buildPn2(x y:Nat)(w:World):(buildF 63 #[(0,.agg (nw 9 x)),(1,.agg (nw 9 y))]).run prog w=.ok (.agg (pnt x y false)) w:=by kernel_rfl
theorem buildPnI(f:Bool)(w:World):(buildF 63 #[(2,.bool f)]).run prog w=.ok (.agg (pnt 0 0 f)) w:=by kernel_rfl
theorem loadCu:LdS 65 59:=ldS
theorem loadEq:LdS 81 59:=ldS
theorem loadPn:LdS 63 19:=ldS
theorem loadCP(w:World)(b:Nat)(hs:(blk w b).size=59):(loadS 25 (.pointer (some ⟨b,1,none⟩))).run prog w=.ok (.agg ((blk w b).extract 1 10)) w:=loadPart w b 1 (by omega)
theorem loadCA(w:World)(b:Nat)(hs:(blk w b).size=59):(loadS 25 (.pointer (some ⟨b,10,none⟩))).run prog w=.ok (.agg ((blk w b).extract 10 19)) w:=loadPart w b 10 (by omega)
theorem loadCB(w:World)(b:Nat)(hs:(blk w b).size=59):(loadS 25 (.pointer (some ⟨b,19,none⟩))).run prog w=.ok (.agg ((blk w b).extract 19 28)) w:=loadPart w b 19 (by omega)
theorem loadCN(w:World)(b:Nat)(hs:(blk w b).size=59):(loadS 25 (.pointer (some ⟨b,28,none⟩))).run prog w=.ok (.agg ((blk w b).extract 28 37)) w:=loadPart w b 28 (by omega)
theorem loadPX(w:World)(b:Nat)(hs:(blk w b).size=19):(loadS 25 (.pointer (some ⟨b,0,none⟩))).run prog w=.ok (.agg ((blk w b).extract 0 9)) w:=loadPart w b 0 (by omega)
theorem loadPY(w:World)(b:Nat)(hs:(blk w b).size=19):(loadS 25 (.pointer (some ⟨b,9,none⟩))).run prog w=.ok (.agg ((blk w b).extract 9 18)) w:=loadPart w b 9 (by omega)
theorem storeCu(id:Int)(p a bb n x y:Nat)(s z:Int)(l:Bool):StS 65 59 (cu id p a bb n x y s z l):=stS (cu_size id p a bb n x y s z l) (cu_one id p a bb n x y s z l)
theorem storeEq(id:Int)(p a bb n x y:Nat)(s z:Int)(l:Bool):StS 81 59 (cu id p a bb n x y s z l):=stS (cu_size id p a bb n x y s z l) (cu_one id p a bb n x y s z l)
theorem frz_at(w:World)(b i:Nat)(hf:frz w b=(0,0)):w.frozen? ⟨b,i,none⟩=false:=by
 unfold frz at hf;unfold World.frozen?
 split <;> simp_all
theorem storeCP(w:World)(b q:Nat)(hs:(blk w b).size=59)(hf:frz w b=(0,0)):(storeS 25 (.pointer (some ⟨b,1,none⟩)) (.agg (nw 9 q))).run prog w=.ok () (setBlk w b (setL (blk w b) 1 (nw 9 q).toList)):=by
 have d:w.there b 1 (nw 9 q).size:=fun j f=>by
  rw[nw_size]at f;exact⟨by rw[cell_blk,Array.getElem?_eq_getElem (by omega)];rfl,frz_at w b _ hf⟩
 simp only[storeS,Instr.storeAt,Instr.sureAddr,Sem.run_bind,Sem.run_pure,Result.andThen_ok];rw[run_storeVar_mid w b 1 25 (nw 9 q) d (by kernel_rfl) (nw_one 9 q),setCells_setBlk _ _ _ _ (by omega)]
theorem rd_cu{id:Int}{p a bb n x y:Nat}{s z:Int}{l:Bool}:RdC 65 (cu id p a bb n x y s z l):=rdC 59 (cu_size id p a bb n x y s z l)
theorem rd_eq{id:Int}{p a bb n x y:Nat}{s z:Int}{l:Bool}:RdC 81 (cu id p a bb n x y s z l):=rdC 59 (cu_size id p a bb n x y s z l)
structure Vr(v:World)(b:Nat)(c:Array Value):Prop where
 h:blk v b=c
 f:frz v b=(0,0)
 p:Pre (b+1) v.heap.size
theorem Vr.gr{v v':World}{b:Nat}{c:Array Value}(h:Vr v b c)(k:Gr v v'):Vr v' b c:=
 ⟨by rw[k.blk _ h.p];exact h.h,by rw[k.frz _ h.p];exact h.f,Nat.le_trans h.p k.below.size⟩
theorem Vr.set{v:World}{b:Nat}{c:Array Value}(h:Vr v b c)(hc:0<c.size)(d:Array Value):Vr (setBlk v b d) b d:=
 ⟨blk_setBlk _ _ _ (by rw[h.h];exact hc),by rw[frz_setBlk];exact h.f,by rw[size_setBlk];exact h.p⟩
theorem Vr.other{v:World}{b k:Nat}{c d:Array Value}(h:Vr v b c)(n:k≠b):Vr (setBlk v k d) b c:=
 ⟨by rw[blk_other _ _ _ _ n];exact h.h,by rw[frz_setBlk];exact h.f,by rw[size_setBlk];exact h.p⟩
theorem Vr.cell{v:World}{b:Nat}{c:Array Value}(h:Vr v b c)(i:Nat):v.cell? ⟨b,i,none⟩=c[i]? := by rw[cell_blk,h.h]
theorem Vr.new(w:World)(c:Array Value)(t:TypeId):Vr (w.alloc (.cells c t)) w.heap.size c:=
 ⟨blk_alloc_at _ _ _ _ _ rfl,frz_alloc_at _ _ _ _ _ rfl,by simp[Pre]⟩
theorem vrA{v:World}{b:Nat}{c:Array Value}(h1:blk v b=c:=by simp[go_sem])(h2:frz v b=(0,0):=by simp[go_sem])(h3:Pre (b+1) v.heap.size:=by simp[go_sem]):Vr v b c:=⟨h1,h2,h3⟩
end
section
theorem eqNatIn(d x y:Nat)(w:World):(Op.equalIn (d+3) 25 (.agg (nw 9 x)) (.agg (nw 9 y))).run prog w=.ok (eqN 9 x y) w:=by
 have f:prog.underlying 25=some (.struct (prog.fieldsOf 25)):=by kernel_rfl
 rw[run_equalIn_struct w (d+2) 25 _ _ f (by kernel_rfl)];simp[go_sem,Op.eqFields,Program.fieldsOf,part,nw_extract];rw[eqArr d]
 cases eqN 9 x y <;> simp[Result.andThen]
section
variable (x y:Nat) (f:Bool) (x' y':Nat) (f':Bool)
end
end
section
def sgA(r s:Nat):Array Value:=nw 9 r++nw 9 s
section
variable (r s:Nat)
theorem sgA_size:(sgA r s).size=18:=by kernel_rfl
theorem sgA_R:(sgA r s).extract 0 9=nw 9 r:=by kernel_rfl
theorem sgA_S:(sgA r s).extract 9 18=nw 9 s:=by kernel_rfl
theorem sgA_one:(sgA r s).all (·.oneCell')=true:=all_app _ _ (nw_one _ _) (nw_one _ _)
end
theorem loadSg_is:LdI 27:=fun _=>rfl
theorem storeSg_is:StI 27:=fun _ _=>rfl
theorem zvSg_is:zeroValue 27=zvS 27:=rfl
theorem zvSg(w:World):(zvS 27).run prog w=.ok (.agg (sgA 0 0)) w:=by kernel_rfl
theorem buildSg_is(p:Array (Nat×Value)):Instr.build 27 p=buildF 27 p:=rfl
theorem buildSg0(w:World):(buildF 27 #[]).run prog w=.ok (.agg (sgA 0 0)) w:=by kernel_rfl
theorem buildSg1(r:Nat)(w:World):(buildF 27 #[(0,.agg (nw 9 r))]).run prog w=.ok (.agg (sgA r 0)) w:=by kernel_rfl
theorem buildSg2(r s:Nat)(w:World):(buildF 27 #[(0,.agg (nw 9 r)),(1,.agg (nw 9 s))]).run prog w=.ok (.agg (sgA r s)) w:=by kernel_rfl
theorem loadSg:LdS 27 18:=ldS
theorem loadSR(w:World)(b:Nat)(hs:(blk w b).size=18):(loadS 25 (.pointer (some ⟨b,0,none⟩))).run prog w=.ok (.agg ((blk w b).extract 0 9)) w:=loadPart w b 0 (by omega)
theorem loadSS(w:World)(b:Nat)(hs:(blk w b).size=18):(loadS 25 (.pointer (some ⟨b,9,none⟩))).run prog w=.ok (.agg ((blk w b).extract 9 18)) w:=loadPart w b 9 (by omega)
theorem storeSg(r s:Nat):StS 27 18 (sgA r s):=stS (sgA_size r s) (sgA_one r s)
theorem rd_sg{r s:Nat}:RdC 27 (sgA r s):=rdC 18 (sgA_size r s)
theorem eqSg(r s r' s':Nat)(w:World):(binOp .eql 27 (.agg (sgA r s)) (.agg (sgA r' s'))).run prog w=.ok (.bool (eqN 9 r r'&&eqN 9 s s')) w:=by
 have d:prog.underlying 27=some (.struct (prog.fieldsOf 27)):=by kernel_rfl
 rw[run_eql_struct,show (10000:Nat)=9996+4 from rfl,run_equalIn_struct w (9996+3) 27 _ _ d (by kernel_rfl)];simp[go_sem,Op.eqFields,Program.fieldsOf,part,sgA_R,sgA_S,sgA_size,eqNatIn]
 cases eqN 9 r r' <;> cases eqN 9 s s' <;> simp
abbrev uz5:=And.intro @loadSg_is<|And.intro @storeSg_is<|And.intro @zvSg_is<|And.intro @buildSg_is<|And.intro @loadCu_is<|And.intro @storeCu_is @zvCu_is
abbrev uz6:=And.intro @loadSg<|And.intro @storeSg<|And.intro @zvSg<|And.intro @sgA_size<|And.intro @buildSg0<|And.intro @buildSg1<|And.intro @buildSg2<|And.intro @loadSR<|And.intro @loadSS<|And.intro @sgA_R<|And.intro @sgA_S<|And.intro @loadCu<|And.intro @storeCu<|And.intro @zvCu<|And.intro @cu_size<|And.intro @loadCN<|And.intro @cu_N<|And.intro @frz_setBlk<|And.intro @blk_setBlk<|And.intro @setBlk_setBlk @blk_other
end
section
structure Kz where
 ok:Value→World→Prop
 gr:∀v w w',ok v w→Gr w w'→ok v w'
def Kz.c(v:Value):Kz:=⟨fun u _=>u=v,fun _ _ _ h _=>h⟩
def Kz.n(x:Nat):Kz:=⟨fun u w=>∃p n,u=.slice p (dl x) n∧Sl w p x,fun _ _ _ ⟨p,n,e,h⟩ g=>⟨p,n,e,h.gr g⟩⟩
def kz(kp:List Kz)(i:Nat)(v:Value)(w:World):Prop:=match kp[i]? with|some k=>k.ok v w|none=>True
theorem kz.gr{kp:List Kz}{i:Nat}{v:Value}{w w':World}(h:kz kp i v w)(g:Gr w w'):kz kp i v w':=by
 unfold kz at h ⊢
 cases e:kp[i]? with
 | none=>trivial
 | some k=>rw[e]at h;exact k.gr _ _ _ h g
def Rt(k:Kz)(w:World)(e:Ending)(w':World):Prop:=∃u,e=.returned u∧k.ok u w'∧Gr w w'
theorem Rt.c{P:Program}{f:FuncId}{args:Array Value}{w:World}{v:Value}(h:Calls P f args w fun e w'=>e=.returned v∧Gr w w'):Calls P f args w (Rt (.c v) w):=h.mono fun _ _ ⟨e,g⟩=>⟨_,e,rfl,g⟩
theorem Rt.n{P:Program}{f:FuncId}{args:Array Value}{w:World}{x:Nat}(h:Calls P f args w (Nm x w)):Calls P f args w (Rt (.n x) w):=h.mono fun _ _ ⟨p,n,e,s,g⟩=>⟨_,e,⟨p,n,rfl,s⟩,g⟩
theorem Rt.same{P:Program}{f:FuncId}{args:Array Value}{w:World}{v:Value}(h:Calls P f args w fun e w'=>e=.returned v∧w'=w):Calls P f args w (Rt (.c v) w):=h.mono fun _ _ ⟨e,g⟩=>⟨_,e,rfl,by rw[g];exact Gr.refl _⟩
theorem wp_retz{P:Program}{o:Oper}{a:Act}{w:World}{K:Act→World→Prop}{Q:Exit→Act→World→Prop}{f:FuncId}{args:Array Value}{k:Kz}(h:(execOp a.eval o).run P w=.ok (.enter f args) w)(hc:Calls P f args w (Rt k w))(hk:∀u w',k.ok u w'→Gr w w'→K (a.put o.dst u) w'):o.wp P a w K Q:=by
 unfold Oper.wp;rw[h]
 exact hc.mono fun e w' ⟨u,d,i,j⟩=>by subst d;exact hk u w' i j
def RZ(W:World)(kp:List Kz)(listed:Array Bool)(vals:Nat→Value)(w:World):Prop:=
 Gr W w∧∀j,listed.getD j false=true→kz kp j (vals j) w
theorem RZ.next{W w w':World}{kp:List Kz}{listed:Array Bool}{vals:Nat→Value}{i:Nat}{v:Value}(h:RZ W kp listed vals w)(hg:Gr w w')(hv:kz kp i v w'):RZ W kp (listed.setIfInBounds i true) (upd vals i v) w':=by
 refine⟨h.1.trans hg,fun j d=>?_⟩
 by_cases e:j=i
 ·subst e;simpa [upd]using hv
 ·rw[getD_set_other _ _ _ (Ne.symm e)]at d;simp only[upd,e,if_false];exact(h.2 j d).gr hg
def sinkZ(d:Bool)(l:List Oper)(n:Nat):Bool:=decide (l.length=n+1)&&(((l[n]?).map fun o=>o.dst.isNone&&o.guard.isNone).getD false) &&
 (!d || (List.range n).all fun i=>(List.range (n+1)).any fun j=>decide (i<j)&&((l[j]?).map fun o=>o.after.any fun e=>e.on==i&&Region.binds .any e).getD false)
def Cld(l:List Oper)(listed:Array Bool):Prop:=∀j o,l[j]? = some o→listed.getD j false=true→∀e∈o.after,Region.binds .any e=true→listed.getD e.on false=true
theorem sink_all{l:List Oper}{n:Nat}(hs:sinkZ true l n=true){listed:Array Bool}(hc:Cld l listed){o:Oper}(ho:l[n]? = some o)(hd:∀e∈o.after,Region.binds .any e=true→listed.getD e.on false=true):
 ∀k i,i<n→n≤i+k→listed.getD i false=true
 | 0,i,h1,h2=>by omega
 | k+1,i,h1,h2=>by
  simp only[sinkZ,Bool.and_eq_true,decide_eq_true_eq,Bool.not_true,Bool.false_or]at hs;have h:=List.all_eq_true.1 hs.2 i (by simpa using h1);obtain⟨j,v,f⟩:=List.any_eq_true.1 h;simp only[Bool.and_eq_true,decide_eq_true_eq,List.mem_range]at v f
  cases hw:l[j]? with
  | none=>rw[hw]at f;simp at f
  | some oj=>
   rw[hw]at f;simp only[Option.map_some,Option.getD_some]at f;obtain⟨m,q,d⟩:=Array.any_eq_true.1 f.2;simp only[Bool.and_eq_true,beq_iff_eq]at d
   by_cases e:j=n
   ·subst e;rw[ho]at hw;cases hw;rw[←d.1];exact hd _ (Array.getElem_mem q) d.2
   ·have:=sink_all (by simp only[sinkZ,Bool.and_eq_true,decide_eq_true_eq,Bool.not_true,Bool.false_or];exact hs) hc ho hd k j (by omega) (by omega);rw[←d.1];exact hc j oj hw this _ (Array.getElem_mem q) d.2
theorem putFrom_congr{vals vals':Nat→Value}:∀(l:List Oper) (k:Nat) (a:Act),(∀j o,l[j]? = some o→o.dst.isSome=true→vals (k+j)=vals' (k+j))→putFrom vals k l a=putFrom vals' k l a
 | [],_,_,_=>rfl
 | o :: l,k,a,h=>by
  rw[putFrom,putFrom]
  have e:a.put o.dst (vals k)=a.put o.dst (vals' k):=by
   cases hd:o.dst with
   | none=>rfl
   | some d=>rw[show vals k=vals' k from h 0 o rfl (by rw[hd];rfl)]
  rw[e]
  exact putFrom_congr l (k+1) _ fun j o f hd=>by
   have:=h (j+1) o (by simpa using f) hd;rw[show k+1+j=k+(j+1) by omega];exact this
theorem wp_region_T(d:Bool){P:Program}{id:Nat}{l:List Oper}{Q:Exit→Act→World→Prop}{a0:Act}{W:World}(hm:d=true→P.follows .mixedOrders=true)(hu:uniqG l.toArray=true)(n:Nat)(hs:sinkZ d l n=true)(kp:List Kz)(hstep:∀(listed:Array Bool) (vals:Nat→Value) (a:Act) (v:World) (i:Nat) (o:Oper),Gr W v→(∀j,listed.getD j false=true→kz kp j (vals j) v)→Frm l.toArray a0 vals listed a→l.toArray[i]? = some o→i<n →
     (∀e∈o.after,Region.binds .any e=true→listed.getD e.on false=true) →
     (Region.wanted o (yielded l.toArray a.tmps)=true∧o.wp P a v (fun a' w'=>∃u,a'=a.put o.dst u∧Gr v w'∧kz kp i u w') Q)∨(Region.wanted o (yielded l.toArray a.tmps)=false∧kz kp i undef v))(hlast:∀(listed:Array Bool) (vals:Nat→Value) (a:Act) (v:World) (o:Oper),Gr W v→(∀j,j<n→kz kp j (vals j) v)→Frm l.toArray a0 vals listed a→(∀j,j<n→listed.getD j false=true)→l.toArray[n]? = some o →
     o.wp P a v (fun a' w'=>a'=a.put o.dst undef∧Q .normal (putFrom vals 0 l a0) w') Q):
 (Code.region id l.toArray d).wp P Q a0 W:=by
 have H:=hs;simp only[sinkZ,Bool.and_eq_true,decide_eq_true_eq]at H;obtain⟨⟨x,A⟩,-⟩:=H
 refine wp_region_ord d hm hu (fun listed vals w=>Cld l listed∧((listed.getD n false=false∧RZ W kp listed vals w)∨(listed.getD n false=true∧(∀i,i<n→listed.getD i false=true)∧∃vals0,(∀j,j≠n→vals j=vals0 j)∧Q .normal (putFrom vals0 0 l a0) w)))
  (fun listed w' L I=>⟨fun j o _ q=>(by rw[L]at q;cases q),Or.inl ⟨L _,⟨I,fun j q=>(by rw[L]at q;cases q)⟩⟩⟩) (fun listed vals a w i o hz B hF R hl G S=>?_) (fun listed vals a w f B hF=>?_)
 ·have C:l[i]? = some o:=by simpa using R
  have hi:i<n+1:=by rw[←x];exact(List.getElem?_eq_some_iff.1 C).1
  have J:i<listed.size:=by rw[hz];simpa [x]using hi
  have U:Cld l (listed.setIfInBounds i true):=fun j oj q K e he hb=>by
   by_cases e1:e.on=i
   ·rw[e1];exact getD_set_same _ _ J
   ·rw[getD_set_other _ _ _ (Ne.symm e1)]
    by_cases e2:j=i
    ·subst e2;rw[C]at q;cases q;exact G e he hb
    ·rw[getD_set_other _ _ _ (Ne.symm e2)]at K;exact B.1 j oj q K e he hb
  obtain⟨V,⟨D,B⟩|⟨D,f,-⟩⟩:=B
  ·by_cases e:i=n
   ·subst e
    have f:∀j,j<i→listed.getD j false=true:=by
     cases d with
     | true=>exact fun j q=>sink_all hs V C G i j q (Nat.le_add_left _ _)
     | false=>exact S rfl
    have I:o.dst=none∧o.guard=none:=by rw[C]at A;simpa using A
    refine Or.inl ⟨wanted_no I.2,Oper.wp_mono (fun a' w' h=>?_) (hlast listed vals a w o B.1 (fun j q=>B.2 j (f j q)) hF f R)⟩;obtain⟨rfl,X⟩:=h;refine⟨undef,rfl,U,Or.inr ⟨getD_set_same _ _ J,fun j q=>?_,vals,fun j q=>by simp[upd,q],X⟩⟩;rw[getD_set_other _ _ _ (by omega)];exact f j q
   ·obtain⟨Y,Z⟩|⟨Y,Z⟩:=hstep listed vals a w i o B.1 B.2 hF R (by omega) G
    ·refine Or.inl ⟨Y,Oper.wp_mono (fun a' w' h=>?_) Z⟩;obtain⟨v,rfl,I,hv⟩:=h;exact⟨v,rfl,U,Or.inl ⟨by rw[getD_set_other _ _ _ e];exact D,RZ.next B I hv⟩⟩
    ·exact Or.inr ⟨Y,U,Or.inl ⟨by rw[getD_set_other _ _ _ e];exact D,RZ.next B (Gr.refl _) Z⟩⟩
  ·exfalso
   by_cases e:i=n
   ·subst e;rw[hl]at D;cases D
   ·have:=f i (by omega);rw[hl]at this;cases this
 ·obtain⟨-,⟨D,-⟩|⟨-,-,vals0,hv,X⟩⟩:=B
  ·rw[f n (by simp[x])]at D;cases D
  ·rw[hF.final hu f,putFrom_congr l 0 a0 (fun j o q G=>?_)]
   ·exact X
   ·rw[Nat.zero_add];refine hv j fun e=>?_;subst e;rw[q]at A;simp only[Option.map_some,Option.getD_some,Bool.and_eq_true,Option.isNone_iff_eq_none]at A;rw[A.1]at G;cases G
end
section
abbrev Wt:=Nat→Option Addr×Nat
structure Kw where
 val:Wt→Value
 ok:Wt→World→Prop
 gr:∀x w w',ok x w→Gr w w'→ok x w'
 cst:Nat
 hc:cst≠0→∀y w,ok y w
 hs:cst=2→∀y,val y=undef
def Kw.c(v:Value):Kw:=⟨fun _=>v,fun _ _=>True,fun _ _ _ _ _=>trivial,1,fun _ _ _=>trivial,fun h=>absurd h (by decide)⟩
def Kw.u:Kw:=⟨fun _=>undef,fun _ _=>True,fun _ _ _ _ _=>trivial,2,fun _ _ _=>trivial,fun _ _=>rfl⟩
def Kw.n(x:Nat):Kw:=⟨fun y=>.slice (y 0).1 (dl x) (y 0).2,fun y w=>Sl w (y 0).1 x,fun _ _ _ h g=>h.gr g,0,fun h=>absurd rfl h,fun h=>absurd h (by decide)⟩
abbrev pv(b o:Nat):Value:=.pointer (some ⟨b,o,none⟩)
def Kw.kz(k:Kw):Kz:=⟨fun u w=>∃y,u=k.val y∧k.ok y w,fun _ _ _ ⟨y,e,h⟩ g=>⟨y,e,k.gr _ _ _ h g⟩⟩
def kW(kp:List Kw)(i:Nat):Kw:=kp.getD i .u
def wvals(kp:List Kw)(x:Nat→Wt)(j:Nat):Value:=(kW kp j).val (x j)
def FW(l:List Oper)(kp:List Kw)(a0:Act)(x:Nat→Wt):Act:=putFrom (wvals kp x) 0 l a0
def opW(l:List Oper)(i:Nat):Oper:=(l[i]?).getD ⟨none,.move (.const undef),0, "", #[],none⟩
def wts(l:List Oper)(i j:Nat):Bool:=(opW l i).after.toList.any fun e=>e.on==j&&Region.binds .any e
def rdyO(l:List Oper)(i:Nat)(o:Oper):Bool:=
 (match o.op with | .select _ _=>false|_=>true) &&
 (o.op.operands.all fun y=>match y with | .tmp s=>(match own l.toArray s with|some j=>wts l i j|none=>true)|_=>true) &&
 (match o.guard with|some (g,_)=>wts l i g|none=>true)
def others(ex:List Nat)(q:Nat):List Nat:=(List.range q).filter fun i => !ex.contains i
def chkW(l:List Oper)(kp:List Kw)(ex:List Nat)(q:Nat):Bool:=
 uniqG l.toArray&&((List.range q).all fun i=>rdyO l i (opW l i))&&kp.length==q&&(others ex q).all fun i=>(kW kp i).cst != 0
def wnt(l:List Oper)(i:Nat)(a:Act):Bool:=Region.wanted (opW l i) (yielded l.toArray a.tmps)
def RtW(k:Kw)(w:World)(e:Ending)(w':World):Prop:=∃y,e=.returned (k.val y)∧k.ok y w'∧Gr w w'
def StW(P:Program)(k:Kw)(a:Act)(o:Oper)(v:World):Prop:=
 (∃y w',(execOp a.eval o).run P v=.ok (.value (k.val y)) w'∧Gr v w'∧k.ok y w')∨∃f args,(execOp a.eval o).run P v=.ok (.enter f args) v∧Calls P f args v (RtW k v)
def ObW(P:Program)(l:List Oper)(kp:List Kw)(a0:Act)(W:World)(i:Nat):Prop:=
 ∀(x:Nat→Wt) (v:World),Gr W v→(∀j,wts l i j=true→(kW kp j).ok (x j) v)→wnt l i (FW l kp a0 x)=true∧StW P (kW kp i) (FW l kp a0 x) (opW l i) v
def ObsW(P:Program)(l:List Oper)(kp:List Kw)(a0:Act)(W:World):List Nat→Prop
 | []=>True
 | i :: r=>ObW P l kp a0 W i∧ObsW P l kp a0 W r
theorem ObsW.nil{P:Program}{l:List Oper}{kp:List Kw}{a0:Act}{W:World}:ObsW P l kp a0 W []:=trivial
theorem ObsW.cons{P:Program}{l:List Oper}{kp:List Kw}{a0:Act}{W:World}{i:Nat}{r:List Nat}(h:ObW P l kp a0 W i)(t:ObsW P l kp a0 W r):ObsW P l kp a0 W (i :: r):=⟨h,t⟩
theorem ObsW.at{P:Program}{l:List Oper}{kp:List Kw}{a0:Act}{W:World}:∀{ex:List Nat},ObsW P l kp a0 W ex→∀i,i∈ex→ObW P l kp a0 W i
 | [],_,_,h=>by cases h
 | e :: r,ho,i,h=>by
  rcases List.mem_cons.1 h with rfl|h
  ·exact ho.1
  ·exact ObsW.at ho.2 i h
def resW(P:Program)(l:List Oper)(kp:List Kw)(a0:Act)(x:Nat→Wt)(v:World)(i:Nat):Option (Result Next):=
 cond (wnt l i (FW l kp a0 x)) (some ((execOp (FW l kp a0 x).eval (opW l i)).run P v)) none
def expW(kp:List Kw)(x:Nat→Wt)(v:World)(i:Nat):Option (Result Next):=cond ((kW kp i).cst==2) none (some (.ok (.value (wvals kp x i)) v))
def pureL(P:Program)(l:List Oper)(kp:List Kw)(a0:Act)(ex:List Nat)(q:Nat)(x:Nat→Wt)(v:World):List (Option (Result Next)):=(others ex q).map (resW P l kp a0 x v)
def pureR(kp:List Kw)(ex:List Nat)(q:Nat)(x:Nat→Wt)(v:World):List (Option (Result Next)):=(others ex q).map (expW kp x v)
theorem opW_is{l:List Oper}{i:Nat}{o:Oper}(h:l.toArray[i]? = some o):opW l i=o:=by
 grind [opW]
theorem eval_F{l:List Oper}{a0 a:Act}{vals vals':Nat→Value}{listed:Array Bool}(hu:uniqG l.toArray=true)(hF:Frm l.toArray a0 vals listed a)(s:Nat)(hy:∀j,own l.toArray s=some j→listed.getD j false=true∧vals j=vals' j):a.tmps[s]? = (putFrom vals' 0 l a0).tmps[s]?:=by
 have d:=putFrom_frm hu l 0 a0 (fun j=>by simp) (Frm.start_up l a0 vals')
 by_cases hs:s<a0.tmps.size
 ·rw[hF.2.2 s hs,d.2.2 s hs]
  cases ho:own l.toArray s with
  | none=>rfl
  | some j=>
   obtain⟨f,h⟩:=hy j ho;obtain⟨o,i,-⟩:=own_spec ho
   have q:j<l.length:=by simpa using (Array.getElem?_eq_some_iff.1 i).1
   simp only[f,if_true,upTo_getD];rw[if_pos (by simpa using q),h]
 ·rw[Array.getElem?_eq_none (by rw[hF.2.1];omega),Array.getElem?_eq_none (by rw[d.2.1];omega)]
theorem kz_W{kp:List Kw}{j:Nat}(hj:j<kp.length)(u:Value)(v:World):kz (kp.map Kw.kz) j u v↔∃y,u=(kW kp j).val y∧(kW kp j).ok y v:=by
 have e:kp[j]? = some (kW kp j):=by rw[kW,List.getD_eq_getElem?_getD,List.getElem?_eq_getElem hj];rfl
 unfold kz;rw[List.getElem?_map,e];exact Iff.rfl
theorem atW{l:List Oper}{kp:List Kw}{ex:List Nat}{q:Nat}{a0:Act}{listed:Array Bool}{vals:Nat→Value}(hk:chkW l kp ex q=true){a:Act}{v:World}{i:Nat}{o:Oper}(hK:∀j,listed.getD j false=true→kz (kp.map Kw.kz) j (vals j) v)(hF:Frm l.toArray a0 vals listed a)(hi:l.toArray[i]? = some o)(hq:i<q)(hd:∀e∈o.after,Region.binds .any e=true→listed.getD e.on false=true):
 ∃x:Nat→Wt,(∀j,wts l i j=true→listed.getD j false=true∧vals j=(kW kp j).val (x j)∧(kW kp j).ok (x j) v)∧execOp a.eval o=execOp (FW l kp a0 x).eval o∧Region.wanted o (yielded l.toArray a.tmps)=wnt l i (FW l kp a0 x):=by
 simp only[chkW,Bool.and_eq_true,beq_iff_eq]at hk;obtain⟨⟨⟨J,X⟩,U⟩,Y⟩:=hk;have d:=opW_is hi
 have K:∀j,∃y:Wt,wts l i j=true→vals j=(kW kp j).val y∧(kW kp j).ok y v:=fun j=>by
  by_cases h:wts l i j=true
  ·have Z:=on_of hd j (by rw[wts,d,Array.any_toList]at h;exact h)
   have C:j<i:=by
    obtain⟨e,he,L⟩:=Array.any_eq_true.1 (show (o.after.any fun e=>e.on==j&&Region.binds .any e)=true by rw[wts,d,Array.any_toList]at h;exact h);simp only[Bool.and_eq_true,beq_iff_eq]at L;rw[←L.1];exact(uniq_at J hi).2 _ (Array.getElem_mem he) L.2
   obtain⟨y,P,Q⟩:=(kz_W (by omega) _ _).1 (hK j Z);exact⟨y,fun _=>⟨P,Q⟩⟩
  ·exact⟨fun _=>(none,0),fun h'=>absurd h' h⟩
 obtain⟨x,V⟩:=Classical.axiomOfChoice K;have B:=List.all_eq_true.1 X i (by simpa using hq);rw[d]at B;simp only[rdyO,Bool.and_eq_true]at B;obtain⟨⟨A,D⟩,G⟩:=B;have H:∀j,wts l i j=true→listed.getD j false=true:=fun j h=>on_of hd j (by rw[wts,d,Array.any_toList]at h;exact h)
 have f:∀s,(match own l.toArray s with|some j=>wts l i j|none=>true)=true→a.tmps[s]? = (FW l kp a0 x).tmps[s]? := fun s W=>by
  refine eval_F J hF s fun j C=>?_
  have I:wts l i j=true:=by rw[C]at W;exact W
  exact⟨H j I,(V j I).1⟩
 refine⟨x,fun j C=>⟨H j C,V j C⟩,?_,?_⟩
 ·refine execOp_congr o (fun cs b h=>by rw[h]at A;cases A) fun y R=>?_;have S:=Array.all_eq_true_iff_forall_mem.1 D y R
  cases y with
  | tmp s=>
   have:=f s S;simp only[Act.eval,Array.getD_eq_getD_getElem?,this]
  | _=>rfl
 ·rw[wnt,d];unfold Region.wanted
  cases hg:o.guard with
  | none=>rfl
  | some gw=>
   obtain⟨g,b⟩:=gw;rw[hg]at G;simp only
   have R:yielded l.toArray a.tmps g=yielded l.toArray (FW l kp a0 x).tmps g:=by
    unfold yielded
    cases ht:(l.toArray[g]?).bind (·.dst) with
    | none=>rfl
    | some t=>
     have:own l.toArray t=some g:=by
      obtain⟨og,P,Q⟩:=Option.bind_eq_some_iff.1 ht;exact(uniq_at J P).1 t Q
     simp only[Option.bind_some];rw[f t (by rw[this];exact G)]
   rw[R]
theorem stepW{P:Program}{l:List Oper}{kp:List Kw}{ex:List Nat}{q:Nat}{a0:Act}{W:World}{Q:Exit→Act→World→Prop}(hk:chkW l kp ex q=true)(hp:pureL P l kp a0 ex q=pureR kp ex q)(listed:Array Bool)(vals:Nat→Value)(a:Act)(v:World)(i:Nat)(o:Oper)(ho:i∈ex→ObW P l kp a0 W i)(hG:Gr W v)(hK:∀j,listed.getD j false=true→kz (kp.map Kw.kz) j (vals j) v)(hF:Frm l.toArray a0 vals listed a)(hi:l.toArray[i]? = some o)(hq:i<q)(hd:∀e∈o.after,Region.binds .any e=true→listed.getD e.on false=true):
 (Region.wanted o (yielded l.toArray a.tmps)=true∧o.wp P a v (fun a' w'=>∃u,a'=a.put o.dst u∧Gr v w'∧kz (kp.map Kw.kz) i u w') Q)∨(Region.wanted o (yielded l.toArray a.tmps)=false∧kz (kp.map Kw.kz) i undef v):=by
 obtain⟨x,U,G,K⟩:=atW hk hK hF hi hq hd;simp only[chkW,Bool.and_eq_true,beq_iff_eq]at hk;obtain⟨⟨-,S⟩,L⟩:=hk;have B:=fun(u:Value) (w:World)=>kz_W (kp:=kp) (j:=i) (by omega) u w;have I:=opW_is hi;rw[K]
 by_cases hm:i∈ex
 ·obtain⟨V,C⟩:=ho hm x v hG fun j X=>(U j X).2.2;refine Or.inl ⟨V,?_⟩;rw[I]at C
  obtain⟨y,w',h,J,H⟩|⟨f,args,h,hc⟩:=C
  ·exact wp_val _ (by rw[G];exact h) ⟨_,rfl,J,(B _ _).2 ⟨y,rfl,H⟩⟩
  ·refine wp_retz (k:=(kW kp i).kz) (by rw[G];exact h) (hc.mono fun e w' ⟨y,Y,H,J⟩=>⟨_,Y,⟨y,rfl,H⟩,J⟩) fun u w' R J=>⟨u,rfl,J,(B _ _).2 R⟩
 ·have D:i∈others ex q:=List.mem_filter.2 ⟨by simpa using hq,by simpa using hm⟩;have A:=List.all_eq_true.1 L i D;simp only[bne_iff_ne,ne_eq]at A;have d:=List.map_inj_left.1 (congrFun (congrFun hp x) v) i D;simp only[resW,expW,I]at d
  cases hw:wnt l i (FW l kp a0 x) with
  | true=>
   rw[hw]at d;refine Or.inl ⟨rfl,?_⟩
   cases C:(kW kp i).cst==2 with
   | true=>rw[C]at d;cases d
   | false=>
    rw[C]at d;exact wp_val _ (by rw[G];exact Option.some.inj d) ⟨_,rfl,Gr.refl _,(B _ _).2 ⟨x i,rfl,(kW kp i).hc A _ _⟩⟩
  | false=>
   rw[hw]at d;refine Or.inr ⟨rfl,?_⟩
   cases C:(kW kp i).cst==2 with
   | true=>exact(B _ _).2 ⟨x i,((kW kp i).hs (by simpa using C) _).symm,(kW kp i).hc A _ _⟩
   | false=>rw[C]at d;cases d
theorem finW{kp:List Kw}{q:Nat}{vals:Nat→Value}{v:World}(hlen:kp.length=q)(hK:∀j,j<q→kz (kp.map Kw.kz) j (vals j) v):∃x:Nat→Wt,(∀j,j<q→vals j=wvals kp x j)∧∀j,(kW kp j).ok (x j) v:=by
 have f:∀j,∃y:Wt,(j<q→vals j=(kW kp j).val y)∧(kW kp j).ok y v:=fun j=>by
  by_cases hj:j<q
  ·have h:=hK j hj
   have e:kp[j]? = some (kW kp j):=by rw[kW,List.getD_eq_getElem?_getD,List.getElem?_eq_getElem (by omega)];rfl
   unfold kz at h;rw[List.getElem?_map,e]at h;obtain⟨y,i,l⟩:=h;exact⟨y,fun _=>i,l⟩
  ·refine⟨fun _=>(none,0),fun h=>absurd h hj,?_⟩
   have e:kW kp j=.u:=by rw[kW,List.getD_eq_getElem?_getD,List.getElem?_eq_none (by omega)];rfl
   rw[e];trivial
 obtain⟨x,d⟩:=Classical.axiomOfChoice f;exact⟨x,fun j hj=>(d j).1 hj,fun j=>(d j).2⟩
theorem chk_u{l:List Oper}{kp:List Kw}{ex:List Nat}{q:Nat}(hk:chkW l kp ex q=true):uniqG l.toArray=true∧kp.length=q:=by
 simp only[chkW,Bool.and_eq_true,beq_iff_eq]at hk;exact⟨hk.1.1.1,hk.1.2⟩
section
variable {P:Program} {id:Nat} {l:List Oper} {Q:Exit→Act→World→Prop} {a0:Act} {W:World}
theorem wp_r(d:Bool)(kp:List Kw)(ex:List Nat)(ho:ObsW P l kp a0 W ex)(hfin:∀x v,Gr W v→(∀j,(kW kp j).ok (x j) v)→Q .normal (FW l kp a0 x) v)(hm:d=true→P.follows .mixedOrders=true)(hk:chkW l kp ex l.length=true)(hp:pureL P l kp a0 ex l.length=pureR kp ex l.length):(Code.region id l.toArray d).wp P Q a0 W:=by
 obtain⟨J,D⟩:=chk_u hk
 refine wp_region_ord d hm J (RZ W (kp.map Kw.kz)) (fun f L R I=>⟨I,fun j C=>by rw[R]at C;cases C⟩) (fun f q a v i o V B hF K X S _=>?_) fun f q a v A B hF=>?_
 ·obtain⟨G,H⟩|⟨G,H⟩:=stepW hk hp f q a v i o (fun h=>ho.at i h) B.1 B.2 hF K (by simpa using (Array.getElem?_eq_some_iff.1 K).1) S
  ·refine Or.inl ⟨G,Oper.wp_mono (fun Y L h=>?_) H⟩;obtain⟨u,rfl,I,U⟩:=h;exact⟨u,rfl,B.next I U⟩
  ·exact Or.inr ⟨G,B.next (Gr.refl _) H⟩
 ·obtain⟨x,G,H⟩:=finW D (fun j C=>B.2 j (A j (by simpa using C)));rw[hF.final J A,putFrom_congr (vals':=wvals kp x) l 0 a0 fun j o C _=>by rw[Nat.zero_add];exact G j (List.getElem?_eq_some_iff.1 C).1];exact hfin x v B.1 H
theorem wp_w(kp:List Kw)(ex:List Nat)(ho:ObsW P l kp a0 W ex)(hfin:∀x v,Gr W v→(∀j,(kW kp j).ok (x j) v)→Q .normal (FW l kp a0 x) v)(hm:P.follows .mixedOrders=true:=by kernel_rfl)(hk:chkW l kp ex l.length=true:=by kernel_rfl)(hp:pureL P l kp a0 ex l.length=pureR kp ex l.length:=by kernel_rfl):(Code.region id l.toArray true).wp P Q a0 W:=wp_r true kp ex ho hfin (fun _=>hm) hk hp
theorem wp_wS(kp:List Kw)(ex:List Nat)(ho:ObsW P l kp a0 W ex)(hfin:∀x v,Gr W v→(∀j,(kW kp j).ok (x j) v)→Q .normal (FW l kp a0 x) v)(hk:chkW l kp ex l.length=true:=by kernel_rfl)(hp:pureL P l kp a0 ex l.length=pureR kp ex l.length:=by kernel_rfl):(Code.region id l.toArray false).wp P Q a0 W:=wp_r false kp ex ho hfin (fun h=>by cases h) hk hp
def TlW(P:Program)(l:List Oper)(kp:List Kw)(a0:Act)(W:World)(Q:Exit→Act→World→Prop)(n:Nat):Prop:=
 ∀x v,Gr W v→(∀j,(kW kp j).ok (x j) v)→∃w',(execOp (FW l kp a0 x).eval (opW l n)).run P v=.ok .skip w'∧Q .normal (FW l kp a0 x) w'
theorem lastW{kp:List Kw}{ex:List Nat}{n:Nat}(hk:chkW l kp ex n=true)(hsd:(((l[n]?).map fun o=>o.dst.isNone&&o.guard.isNone).getD false)=true)(hl:l.length=n+1)(hr:rdyO l n (opW l n)=true)(ht:TlW P l kp a0 W Q n)(listed:Array Bool)(vals:Nat→Value)(a:Act)(v:World)(o:Oper)(hG:Gr W v)(hK:∀j,j<n→kz (kp.map Kw.kz) j (vals j) v)(hF:Frm l.toArray a0 vals listed a)(hd:∀j,j<n→listed.getD j false=true)(hi:l.toArray[n]? = some o):
 o.wp P a v (fun a' w'=>a'=a.put o.dst undef∧Q .normal (putFrom vals 0 l a0) w') Q:=by
 obtain⟨R,A⟩:=chk_u hk;obtain⟨x,K,S⟩:=finW A hK;have B:=opW_is hi;rw[B]at hr;simp only[rdyO,Bool.and_eq_true]at hr;obtain⟨⟨f,L⟩,-⟩:=hr
 have C:l[n]? = some o:=by simpa using hi
 have D:o.dst=none:=by
  rw[C]at hsd;simp only[Option.map_some,Option.getD_some,Bool.and_eq_true,Option.isNone_iff_eq_none]at hsd;exact hsd.1
 have I:execOp a.eval o=execOp (FW l kp a0 x).eval o:=by
  refine execOp_congr o (fun X b h=>by rw[h]at f;cases f) fun y Y=>?_
  cases y with
  | tmp s=>
   have:a.tmps[s]? = (FW l kp a0 x).tmps[s]?:=by
    refine eval_F R hF s fun j G=>?_;obtain⟨U,q,d⟩:=own_spec G
    have J:j<l.length:=by simpa using (Array.getElem?_eq_some_iff.1 q).1
    have H:j<n:=by
     rcases Nat.lt_or_ge j n with h|h
     ·exact h
     ·exfalso
      obtain rfl:j=n:=by omega
      rw[hi]at q;cases q;rw[D]at d;cases d
    exact⟨hd j H,K j H⟩
   simp only[Act.eval,Array.getD_eq_getD_getElem?,this]
  | _=>rfl
 obtain⟨w',i,V⟩:=ht x v hG S;rw[B]at i;refine wp_skip (by rw[I];exact i) ⟨rfl,?_⟩
 rw[putFrom_congr l 0 a0 fun j U G d=>?_]
 ·exact V
 ·rw[Nat.zero_add];have J:=(List.getElem?_eq_some_iff.1 G).1;refine K j ?_
  rcases Nat.lt_or_ge j n with h|h
  ·exact h
  ·exfalso
   obtain rfl:j=n:=by omega
   rw[C]at G;cases G;rw[D]at d;cases d
theorem wp_t(d:Bool)(n:Nat)(kp:List Kw)(ex:List Nat)(ho:ObsW P l kp a0 W ex)(ht:TlW P l kp a0 W Q n)(hm:d=true→P.follows .mixedOrders=true)(hs:sinkZ d l n=true)(hk:(chkW l kp ex n&&rdyO l n (opW l n))=true)(hp:pureL P l kp a0 ex n=pureR kp ex n):
 (Code.region id l.toArray d).wp P Q a0 W:=by
 simp only[Bool.and_eq_true]at hk;obtain⟨hk,x⟩:=hk;have j:=hs;simp only[sinkZ,Bool.and_eq_true,decide_eq_true_eq]at j;exact wp_region_T d hm (chk_u hk).1 n hs (kp.map Kw.kz) (fun f q a v i o A B C D G H=>stepW hk hp f q a v i o (fun h=>ho.at i h) A B C D G H) (lastW hk j.1.2 j.1.1 x ht)
theorem wp_wT(n:Nat)(kp:List Kw)(ex:List Nat)(ho:ObsW P l kp a0 W ex)(ht:TlW P l kp a0 W Q n)(hm:P.follows .mixedOrders=true:=by kernel_rfl)(hs:sinkZ true l n=true:=by kernel_rfl)(hk:(chkW l kp ex n&&rdyO l n (opW l n))=true:=by kernel_rfl)(hp:pureL P l kp a0 ex n=pureR kp ex n:=by kernel_rfl):
 (Code.region id l.toArray true).wp P Q a0 W:=wp_t true n kp ex ho ht (fun _=>hm) hs hk hp
theorem wp_wTS(n:Nat)(kp:List Kw)(ex:List Nat)(ho:ObsW P l kp a0 W ex)(ht:TlW P l kp a0 W Q n)(hs:sinkZ false l n=true:=by kernel_rfl)(hk:(chkW l kp ex n&&rdyO l n (opW l n))=true:=by kernel_rfl)(hp:pureL P l kp a0 ex n=pureR kp ex n:=by kernel_rfl):
 (Code.region id l.toArray false).wp P Q a0 W:=wp_t false n kp ex ho ht (fun h=>by cases h) hs hk hp
theorem ObW.k{kp:List Kw}{i:Nat}{f:FuncId}(args:(Nat→Wt)→Array Value)(hc:∀x v,Gr W v→(∀j,wts l i j=true→(kW kp j).ok (x j) v)→Calls P f (args x) v (RtW (kW kp i) v))(hr:(fun x v=>resW P l kp a0 x v i)=fun x v=>some (.ok (.enter f (args x)) v):=by kernel_rfl):ObW P l kp a0 W i:=fun x v d h=>by
 have:=congrFun (congrFun hr x) v;simp only[resW]at this
 cases hw:wnt l i (FW l kp a0 x) with
 | false=>rw[hw]at this;cases this
 | true=>
  rw[hw]at this;exact⟨rfl,.inr ⟨f,args x,Option.some.inj this,hc x v d h⟩⟩
theorem ObW.p{kp:List Kw}{i:Nat}(y:(Nat→Wt)→Wt)(hc:∀x v,Gr W v→(∀j,wts l i j=true→(kW kp j).ok (x j) v)→(kW kp i).ok (y x) v)(hr:(fun x v=>resW P l kp a0 x v i)=fun x v=>some (.ok (.value ((kW kp i).val (y x))) v):=by kernel_rfl):ObW P l kp a0 W i:=fun x v d h=>by
 have:=congrFun (congrFun hr x) v;simp only[resW]at this
 cases hw:wnt l i (FW l kp a0 x) with
 | false=>rw[hw]at this;cases this
 | true=>
  rw[hw]at this;exact⟨rfl,.inl ⟨y x,v,Option.some.inj this,Gr.refl _,hc x v d h⟩⟩
theorem ObW.m{kp:List Kw}{i:Nat}(j:Nat)(hc:∀y v,(kW kp j).ok y v→(kW kp i).ok y v:=by first|exact fun _ _ h=>h|exact fun _ _ _=>trivial)(hw:wts l i j=true:=by rfl)(hr:(fun x v=>resW P l kp a0 x v i)=fun x v=>some (.ok (.value ((kW kp i).val (x j))) v):=by kernel_rfl):ObW P l kp a0 W i:=ObW.p (fun x=>x j) (fun _ _ _ h=>hc _ _ (h j hw)) hr
theorem ObW.e{kp:List Kw}{i:Nat}(e:(Nat→Wt)→Sem Next)(hr:(fun x=>cond (wnt l i (FW l kp a0 x)) (some (execOp (FW l kp a0 x).eval (opW l i))) none)=fun x=>some (e x))(hc:∀x v,Gr W v→(∀j,wts l i j=true→(kW kp j).ok (x j) v)→∃y w',(e x).run P v=.ok (.value ((kW kp i).val y)) w'∧Gr v w'∧(kW kp i).ok y w'):ObW P l kp a0 W i:=fun x v d h=>by
 have:=congrFun hr x
 cases hw:wnt l i (FW l kp a0 x) with
 | false=>rw[hw]at this;cases this
 | true=>
  rw[hw]at this;have f:=Option.some.inj this;exact⟨rfl,.inl (by rw[f];exact hc x v d h)⟩
def exI(op:Op):Sem Next:=execOp (Act.eval ⟨#[],[]⟩) ⟨none,op,0, "", #[],none⟩
def runW(l:List Oper)(kp:List Kw)(a0:Act)(i:Nat)(x:Nat→Wt):Option (Sem Next):=cond (wnt l i (FW l kp a0 x)) (some (execOp (FW l kp a0 x).eval (opW l i))) none
theorem ObW.s{kp:List Kw}{i:Nat}{u:Value}(op:Op)(hk:kW kp i=.c u)(hc:∀v,Gr W v→(exI op).run P v=.ok (.value u) v)(hr:runW l kp a0 i=fun _=>some (exI op):=by kernel_rfl):ObW P l kp a0 W i:=
 ObW.e (fun _=>exI op) hr fun _ v d _=>⟨fun _=>(none,0),v,by rw[hk];exact hc v d,Gr.refl _,by rw[hk];trivial⟩
theorem ObW.o{kp:List Kw}{i b:Nat}{c:Array Value}{u:Value}(t:TypeId)(off:Nat)(hb:Vr W b c)(hk:kW kp i=.c u)(hu:c[off]? = some u)(hc:∀v:World,v.cell? ⟨b,off,none⟩=some u→(exI (.load t (.const (.pointer (some ⟨b,off,none⟩))))).run P v=.ok (.value u) v:=by intro vv K;simp[go_sem,exI,K])(hr:runW l kp a0 i=fun _=>some (exI (.load t (.const (.pointer (some ⟨b,off,none⟩))))):=by kernel_rfl):ObW P l kp a0 W i:=
 ObW.s _ hk (fun v d=>hc v (by rw[cell_blk,(hb.gr d).h];exact hu)) hr
theorem ObW.g{kp:List Kw}{i b:Nat}{c:Array Value}{u:Value}(t:TypeId)(off:Nat)(hb:Vr W b c)(hk:kW kp i=.c u)(hc:∀v:World,blk v b=c→(exI (.load t (.const (.pointer (some ⟨b,off,none⟩))))).run P v=.ok (.value u) v:=by intro vv H;simp[go_sem,exI,H])(hr:runW l kp a0 i=fun _=>some (exI (.load t (.const (.pointer (some ⟨b,off,none⟩))))):=by kernel_rfl):ObW P l kp a0 W i:=
 ObW.s _ hk (fun v d=>hc v (hb.gr d).h) hr
theorem ObW.b{kp:List Kw}{i c n:Nat}{t:TypeId}{z:Array Value}(op:Op)(hk:kW kp i=.n c)(hn:dl c=n)(hc:∀v:World,(exI op).run P v=.ok (.value (.slice (some ⟨v.heap.size,0,none⟩) n n)) (v.alloc (.cells z t)))(hs:∀v:World,Sl (v.alloc (.cells z t)) (some ⟨v.heap.size,0,none⟩) c)(hr:runW l kp a0 i=fun _=>some (exI op):=by kernel_rfl):ObW P l kp a0 W i:=
 ObW.e (fun _=>exI op) hr fun _ v d _=>⟨fun _=>(some ⟨v.heap.size,0,none⟩,n),_,by rw[hk];subst hn;exact hc v,(Gr.refl _).alloc _,by rw[hk];exact hs v⟩
theorem TlW.s{kp:List Kw}{n:Nat}(t:TypeId)(p u:(Nat→Wt)→Value)(hf:∀x v,Gr W v→(∀j,(kW kp j).ok (x j) v)→∃w',(exI (.store t (.const (p x)) (.const (u x)))).run P v=.ok .skip w'∧Q .normal (FW l kp a0 x) w')(hr:(fun x=>execOp (FW l kp a0 x).eval (opW l n))=fun x=>exI (.store t (.const (p x)) (.const (u x))):=by kernel_rfl):TlW P l kp a0 W Q n:=fun x v d h=>by
 obtain⟨w',f,i⟩:=hf x v d h;exact⟨w',by rw[show execOp (FW l kp a0 x).eval (opW l n)=_ from congrFun hr x];exact f,i⟩
end
theorem RtW.of_n{P:Program}{f:FuncId}{args:Array Value}{w:World}{x:Nat}(h:Calls P f args w (Rt (.n x) w)):Calls P f args w (RtW (.n x) w):=h.mono fun _ _ ⟨_,e,⟨p,n,d,s⟩,g⟩=>⟨fun _=>(p,n),by rw[e,d];rfl,s,g⟩
theorem RtW.of_c{P:Program}{f:FuncId}{args:Array Value}{w:World}{v:Value}(h:Calls P f args w (Rt (.c v) w)):Calls P f args w (RtW (.c v) w):=h.mono fun _ _ ⟨_,e,d,g⟩=>⟨fun _=>(none,0),(show _=v from d)▸e,trivial,g⟩
abbrev Kw.E(v:Value):Kw:=.c (.tuple #[v,.int .i64 0])
abbrev Kw.N(x:Nat):Kw:=.c (.agg (nw 9 x))
abbrev Kw.T:Kw:=.c (.bool true)
abbrev Kw.F:Kw:=.c (.bool false)
abbrev Kw.O:Kw:=.c (.int .i64 0)
theorem fzw:(∀(l:List Oper) (kp:List Kw) (a:Act) (x:Nat→Wt),FW l kp a x=putFrom (wvals kp x) 0 l a)∧(∀(v:Nat→Value) (k:Nat) (a:Act),putFrom v k [] a=a)∧(∀(v:Nat→Value) (k:Nat) (o:Oper) (l:List Oper) (a:Act),putFrom v k (o :: l) a=putFrom v (k+1) l (a.put o.dst (v k)))∧(∀t f (d:Tmp) (v:Value),Act.put ⟨t,f⟩ (some d) v=⟨t.setIfInBounds d v,f⟩)∧(∀(a:Act) (v:Value),a.put none v=a)∧(∀(l:List Value) (i:Nat) (a:Value),l.toArray.setIfInBounds i a=(l.set i a).toArray)∧(∀(x a:Value) (l:List Value),(x :: l).set 0 a=a :: l)∧(∀(x a:Value) (l:List Value) (i:Nat),(x :: l).set (i+1) a=x :: l.set i a)∧(∀(kp:List Kw) (x:Nat→Wt) (j:Nat),wvals kp x j=(kW kp j).val (x j))∧(∀(kp:List Kw) (i:Nat),kW kp i=kp.getD i .u)∧(∀(x d:Kw) (l:List Kw),(x :: l).getD 0 d=x)∧(∀(x d:Kw) (l:List Kw) (i:Nat),(x :: l).getD (i+1) d=l.getD i d)∧(∀v y,(Kw.c v).val y=v)∧(∀y,Kw.u.val y=undef)∧(∀x y,(Kw.n x).val y=.slice (y 0).1 (dl x) (y 0).2)∧(∀x y,(Kw.N x).val y=.agg (nw 9 x))∧(∀y,Kw.T.val y=.bool true)∧(∀y,Kw.F.val y=.bool false)∧(∀y,Kw.O.val y=.int .i64 0)∧(∀v y,(Kw.E v).val y=.tuple #[v,.int .i64 0]):=by
 refine⟨?_,?_,?_,?_,?_,?_,?_,?_,?_,?_,?_,?_,?_,?_,?_,?_,?_,?_,?_,?_⟩
 all_goals intros;first|rfl|simp
theorem ObW.z{P:Program}{l:List Oper}{a0:Act}{W:World}{kp:List Kw}{i:Nat}{f:FuncId}{a:Array Value}{c:Value}(h:∀v,Calls P f a v fun e w'=>e=.returned c∧Gr v w')(hk:kW kp i=.c c:=by rfl)(hr:(fun x v=>resW P l kp a0 x v i)=fun _ v=>some (.ok (.enter f a) v):=by kernel_rfl):ObW P l kp a0 W i:=ObW.k (fun _=>a) (fun _ v _ _=>by rw[hk];exact RtW.of_c (Rt.c (h v))) hr
theorem ObW.y{P:Program}{l:List Oper}{a0:Act}{W:World}{kp:List Kw}{i:Nat}{f:FuncId}{a:Array Value}{c:Value}(h:∀v,Calls P f a v fun e w'=>e=.returned c∧w'=v)(hk:kW kp i=.c c:=by rfl)(hr:(fun x v=>resW P l kp a0 x v i)=fun _ v=>some (.ok (.enter f a) v):=by kernel_rfl):ObW P l kp a0 W i:=ObW.k (fun _=>a) (fun _ v _ _=>by rw[hk];exact RtW.of_c (Rt.same (h v))) hr
end
section
def Kw.a:Kw:=⟨fun y=>.pointer (some ⟨(y 0).2,0,none⟩),fun _ _=>True,fun _ _ _ _ _=>trivial,0,fun _ _ _=>trivial,fun h=>absurd h (by decide)⟩
def Kw.r(n:Nat)(c:Array Value):Kw:=⟨fun y=>.slice (some ⟨(y 0).2,0,none⟩) n n,fun y w=>Vr w (y 0).2 c,fun _ _ _ h g=>h.gr g,0,fun h=>absurd rfl h,fun h=>absurd h (by decide)⟩
structure Ent where
 j:Nat
 i:Nat
 t:TypeId
 z:Array Value
 c:(Nat→Wt)→Array Value
def Blank(c:Array Value):Prop:=∀(i:Nat) (n:Int),c[i]? ≠ some (Value.int .u32 n)
def FarK(z:Array Value)(k:Kw):Prop:=∀y w b d,blk w b=z→k.ok y w→k.ok y (setBlk w b d)
section
variable {z:Array Value}
theorem fkc{v:Value}:FarK z (.c v):=fun _ _ _ _ _ _=>trivial
theorem fku:FarK z .u:=fun _ _ _ _ _ _=>trivial
theorem fka:FarK z .a:=fun _ _ _ _ _ _=>trivial
theorem fkn{x:Nat}(h:Blank z):FarK z (.n x):=fun _ _ _ _ e k=>Sl.set k (e▸h)
end
def FarL(z:Array Value):List Kw→Prop
 | []=>True
 | k :: r=>FarK z k∧FarL z r
theorem FarL.at{z:Array Value}:∀{kp:List Kw},FarL z kp→∀i,FarK z (kW kp i)
 | [],_,_=>fku
 | _ :: _,h,0=>h.1
 | _ :: r,h,i+1=>FarL.at (kp:=r) h.2 i
def ExV(ex:List Nat)(st:List Ent):List Nat:=ex++st.map Ent.j++st.map Ent.i
structure ObV(P:Program)(l:List Oper)(kp:List Kw)(a0:Act)(e:Ent):Prop where
 hc:∀x x',(∀j,wts l e.i j=true→(kW kp j).val (x j)=(kW kp j).val (x' j))→e.c x=e.c x'
 hs:∀x v b,blk v b=e.z→frz v b=(0,0)→(exI (.store e.t (.const (.pointer (some ⟨b,0,none⟩))) (.const (.agg (e.c x))))).run P v=.ok .skip (setBlk v b (e.c x))
 hz:0<e.z.size
 hf:FarL e.z kp
 hn:∀v:World,(exI (.alloc e.t)).run P v=.ok (.value (.pointer (some ⟨v.heap.size,0,none⟩))) (v.alloc (.cells e.z e.t)):=by intro vv;simp[go_sem,exI]
 ka:kW kp e.j=.a:=by rfl
 ku:kW kp e.i=.u:=by rfl
 hw:wts l e.i e.j=true:=by rfl
 rj:runW l kp a0 e.j=fun _=>some (exI (.alloc e.t)):=by kernel_rfl
 ri:runW l kp a0 e.i=fun x=>some (exI (.store e.t (.const (.pointer (some ⟨(x e.j 0).2,0,none⟩))) (.const (.agg (e.c x))))):=by kernel_rfl
structure ObY(P:Program)(l:List Oper)(kp:List Kw)(a0:Act)(e:Ent):Prop where
 hc:∀x x',(∀j,wts l e.i j=true→(kW kp j).val (x j)=(kW kp j).val (x' j))→e.c x=e.c x'
 hs:∀x v b,blk v b=e.z→frz v b=(0,0)→(exI (.store e.t (.const (.pointer (some ⟨b,0,none⟩))) (.const (.agg (e.c x))))).run P v=.ok .skip (setBlk v b (e.c x))
 hz:0<e.z.size
 hn:∀v:World,(exI (.alloc e.t)).run P v=.ok (.value (.pointer (some ⟨v.heap.size,0,none⟩))) (v.alloc (.cells e.z e.t)):=by intro vv;simp[go_sem,exI]
 ka:kW kp e.j=.a:=by rfl
 ku:kW kp e.i=.u:=by rfl
 hw:wts l e.i e.j=true:=by rfl
 rj:runW l kp a0 e.j=fun _=>some (exI (.alloc e.t)):=by kernel_rfl
 ri:runW l kp a0 e.i=fun x=>some (exI (.store e.t (.const (.pointer (some ⟨(x e.j 0).2,0,none⟩))) (.const (.agg (e.c x))))):=by kernel_rfl
theorem ObV.y{P:Program}{l:List Oper}{kp:List Kw}{a0:Act}{e:Ent}(h:ObV P l kp a0 e):ObY P l kp a0 e:=⟨h.hc,h.hs,h.hz,h.hn,h.ka,h.ku,h.hw,h.rj,h.ri⟩
def ForY{α:Type}(p:α→Prop):List α→Prop
 | []=>True
 | e :: r=>p e∧ForY p r
theorem ForY.nil{α:Type}{p:α→Prop}:ForY p []:=trivial
theorem ForY.cons{α:Type}{p:α→Prop}{e:α}{r:List α}(h:p e)(t:ForY p r):ForY p (e :: r):=⟨h,t⟩
theorem ForY.at{α:Type}{p:α→Prop}:∀{st:List α},ForY p st→∀e,e∈st→p e
 | [],_,_,h=>by cases h
 | e :: r,ho,e',h=>by
  rcases List.mem_cons.1 h with rfl|h
  ·exact ho.1
  ·exact ForY.at ho.2 e' h
def ObR(P:Program)(l:List Oper)(kp:List Kw)(a0:Act)(i:Nat):Prop:=
 ∃n c t op,kW kp i=.r n c∧(∀v:World,(exI op).run P v=.ok (.value (.slice (some ⟨v.heap.size,0,none⟩) n n)) (v.alloc (.cells c t)))∧runW l kp a0 i=fun _=>some (exI op)
theorem ObR.r{P:Program}{l:List Oper}{a0:Act}{kp:List Kw}{i n:Nat}{t:TypeId}{c:Array Value}(op:Op)(hk:kW kp i=.r n c)(hc:∀v:World,(exI op).run P v=.ok (.value (.slice (some ⟨v.heap.size,0,none⟩) n n)) (v.alloc (.cells c t)))(hr:runW l kp a0 i=fun _=>some (exI op):=by kernel_rfl):ObR P l kp a0 i:=⟨n,c,t,op,hk,hc,hr⟩
def Sep(st:List Ent)(rw:List Nat)(listed:Array Bool)(vals:Nat→Value):Prop:=
 ∀e,e∈st→listed.getD e.j false=true→∀j,j∈rw→listed.getD j false=true→∀b' b n c,vals e.j=.pointer (some ⟨b',0,none⟩)→vals j=.slice (some ⟨b,0,none⟩) n c→b'≠b
def ObsV(P:Program)(l:List Oper)(kp:List Kw)(a0:Act):List Ent→Prop
 | []=>True
 | e :: r=>ObV P l kp a0 e∧ObsV P l kp a0 r
theorem ObsV.nil{P:Program}{l:List Oper}{kp:List Kw}{a0:Act}:ObsV P l kp a0 []:=trivial
theorem ObsV.cons{P:Program}{l:List Oper}{kp:List Kw}{a0:Act}{e:Ent}{r:List Ent}(h:ObV P l kp a0 e)(t:ObsV P l kp a0 r):ObsV P l kp a0 (e :: r):=⟨h,t⟩
theorem ObsV.at{P:Program}{l:List Oper}{kp:List Kw}{a0:Act}:∀{st:List Ent},ObsV P l kp a0 st→∀e,e∈st→ObV P l kp a0 e
 | [],_,_,h=>by cases h
 | e :: r,ho,e',h=>by
  rcases List.mem_cons.1 h with rfl|h
  ·exact ho.1
  ·exact ObsV.at ho.2 e' h
theorem map_one{α:Type}(f:α→Nat):∀{st:List α},(st.map f).Nodup→∀e e',e∈st→e'∈st→f e=f e'→e=e'
 | [],_,_,_,h,_,_=>by cases h
 | a :: r,hn,e,e',h,h',he=>by
  rw[List.map_cons,List.nodup_cons]at hn
  rcases List.mem_cons.1 h with h1|h1 <;> rcases List.mem_cons.1 h' with h2|h2
  ·rw[h1,h2]
  ·rw[h1]at he;exact absurd (he▸List.mem_map_of_mem h2) hn.1
  ·rw[h2]at he;exact absurd (he▸List.mem_map_of_mem h1) hn.1
  ·exact map_one f hn.2 e e' h1 h2 he
def RV(W:World)(l:List Oper)(kp:List Kw)(st:List Ent)(listed:Array Bool)(vals:Nat→Value)(w:World):Prop:=
 RZ W (kp.map Kw.kz) listed vals w∧(∀e,e∈st→listed.getD e.i false=true→∀j,wts l e.i j=true→listed.getD j false=true) ∧
 ∃B:Nat→Nat,(∀e,e∈st→listed.getD e.j false=true→vals e.j=.pointer (some ⟨B e.j,0,none⟩)∧W.heap.size≤B e.j∧B e.j<w.heap.size∧frz w (B e.j)=(0,0) ∧
  (listed.getD e.i false=false→blk w (B e.j)=e.z)∧(listed.getD e.i false=true→∃x:Nat→Wt,(∀j,wts l e.i j=true→vals j=(kW kp j).val (x j))∧blk w (B e.j)=e.c x)) ∧
  (∀e e',e∈st→e'∈st→listed.getD e.j false=true→listed.getD e'.j false=true→B e.j=B e'.j→e=e')
section
variable {P:Program} {l:List Oper} {Q:Exit→Act→World→Prop} {a0:Act} {W:World} {kp:List Kw} {ex rw:List Nat} {st:List Ent} {listed:Array Bool} {vals:Nat→Value} {w w':World}
theorem set_mono{i j:Nat}(h:listed.getD j false=true)(hi:i<listed.size):(listed.setIfInBounds i true).getD j false=true:=by
 grind [getD_set_same,getD_set_other]
theorem ne_un{i j:Nat}(h:listed.getD j false=true)(hl:listed.getD i false=false):j≠i:=fun e=>by
 subst e;rw[h]at hl;cases hl
theorem RV.next(h:RV W l kp st listed vals w){i:Nat}{v:Value}(hi:i<listed.size)(hl:listed.getD i false=false)(hA:∀e,e∈st→e.j≠i∧e.i≠i)(hg:Gr w w')(hv:kz (kp.map Kw.kz) i v w'):
 RV W l kp st (listed.setIfInBounds i true) (upd vals i v) w':=by
 obtain⟨K,G,B,L,P⟩:=h
 refine⟨K.next hg hv,fun e d f j C=>?_,B,fun e d q=>?_,fun e H d A I J=>?_⟩
 ·rw[getD_set_other _ _ _ (Ne.symm (hA e d).2)]at f;exact set_mono (G e d f j C) hi
 ·rw[getD_set_other _ _ _ (Ne.symm (hA e d).1)]at q;obtain⟨Q,R,D,S,U,V⟩:=L e d q
  refine⟨by simp only[upd,(hA e d).1,if_false];exact Q,R,Nat.lt_of_lt_of_le D hg.below.size,by rw[hg.frz _ D];exact S,fun h=>?_,fun h=>?_⟩
  ·rw[getD_set_other _ _ _ (Ne.symm (hA e d).2)]at h;rw[hg.blk _ D];exact U h
  ·rw[getD_set_other _ _ _ (Ne.symm (hA e d).2)]at h;obtain⟨x,X,Y⟩:=V h;refine⟨x,fun j C=>?_,by rw[hg.blk _ D];exact Y⟩;simp only[upd,ne_un (G e d h j C) hl,if_false];exact X j C
 ·rw[getD_set_other _ _ _ (Ne.symm (hA e d).1)]at I;rw[getD_set_other _ _ _ (Ne.symm (hA H A).1)]at J;exact P e H d A I J
theorem RV.alloc(h:RV W l kp st listed vals w)(e:Ent)(he:e∈st)(hj1:(st.map Ent.j).Nodup)(hij:∀e e',e∈st→e'∈st→e.i≠e'.j)(hw:wts l e.i e.j=true)(hi:e.j<listed.size)(hl:listed.getD e.j false=false)(hk:e.j<kp.length)(ka:kW kp e.j=.a):
 RV W l kp st (listed.setIfInBounds e.j true) (upd vals e.j (.pointer (some ⟨w.heap.size,0,none⟩))) (w.alloc (.cells e.z e.t)):=by
 obtain⟨S,P,B,Q,U⟩:=h;have v:Gr w (w.alloc (.cells e.z e.t)):=(Gr.refl w).alloc _
 have R:listed.getD e.i false≠true:=fun h=>by rw[P e he h e.j hw]at hl;cases hl
 refine⟨S.next v ((kz_W hk _ _).2 ⟨fun _=>(none,w.heap.size),by rw[ka];rfl,by rw[ka];trivial⟩),fun e' d A j D=>?_,fun m=>if m=e.j then w.heap.size else B m,fun e' d C=>?_,fun G H f q I J K=>?_⟩
 ·rw[getD_set_other _ _ _ (Ne.symm (hij e' e d he))]at A;exact set_mono (P e' d A j D) hi
 ·by_cases ee:e'.j=e.j
  ·obtain rfl:=map_one Ent.j hj1 e' e d he ee;simp only[if_true,upd];refine⟨trivial,S.1.below.size,by simp,frz_alloc_at _ _ _ _ _ rfl,fun _=>blk_alloc_at _ _ _ _ _ rfl,fun h=>?_⟩;rw[getD_set_other _ _ _ (Ne.symm (hij e' e' d d))]at h;exact absurd h R
  ·rw[getD_set_other _ _ _ (Ne.symm ee)]at C;obtain⟨V,X,L,Y,Z,a6⟩:=Q e' d C;simp only[ee,if_false,upd]
   refine⟨V,X,Nat.lt_of_lt_of_le L v.below.size,by rw[v.frz _ L];exact Y,fun h=>?_,fun h=>?_⟩
   ·rw[getD_set_other _ _ _ (Ne.symm (hij e' e d he))]at h;rw[v.blk _ L];exact Z h
   ·rw[getD_set_other _ _ _ (Ne.symm (hij e' e d he))]at h;obtain⟨x,hx,hb⟩:=a6 h;refine⟨x,fun j D=>?_,by rw[v.blk _ L];exact hb⟩;simp only[ne_un (P e' d h j D) hl,if_false];exact hx j D
 ·by_cases x1:G.j=e.j <;> by_cases x2:H.j=e.j
  ·exact map_one Ent.j hj1 G H f q (x1.trans x2.symm)
  ·rw[getD_set_other _ _ _ (Ne.symm x2)]at J;simp only[x1,x2,if_true,if_false]at K;have:=(Q H q J).2.2.1
   omega
  ·rw[getD_set_other _ _ _ (Ne.symm x1)]at I;simp only[x1,x2,if_true,if_false]at K;have:=(Q G f I).2.2.1
   omega
  ·rw[getD_set_other _ _ _ (Ne.symm x1)]at I;rw[getD_set_other _ _ _ (Ne.symm x2)]at J;simp only[x1,x2,if_false]at K;exact U G H f q I J K
theorem RV.at(h:RV W l kp st listed vals w){e:Ent}(hl:listed.getD e.j false=true)(he:e∈st){b:Nat}(hv:vals e.j=.pointer (some ⟨b,0,none⟩))(hi:listed.getD e.i false=false):blk w b=e.z:=by
 obtain⟨-,-,B,f,-⟩:=h;obtain⟨d,-,-,-,q,-⟩:=f e he hl;rw[hv]at d;simp only[Value.pointer.injEq,Option.some.injEq,Addr.mk.injEq]at d;rw[d.1];exact q hi
theorem RV.storeY(h:RV W l kp st listed vals w)(e:Ent)(he:e∈st)(hi1:(st.map Ent.i).Nodup)(hij:∀e e',e∈st→e'∈st→e.i≠e'.j)(hlen:listed.size≤kp.length)(hi:e.i<listed.size)(hl:listed.getD e.i false=false)(ku:kW kp e.i=.u)(hz:0<e.z.size)(x:Nat→Wt)(hx:∀j,wts l e.i j=true→listed.getD j false=true∧vals j=(kW kp j).val (x j))(hw:wts l e.i e.j=true)(ka:kW kp e.j=.a)(hkeep:∀j y,listed.getD j false=true→vals j=(kW kp j).val y→(kW kp j).ok y w→(kW kp j).ok y (setBlk w (x e.j 0).2 (e.c x))):
 blk w (x e.j 0).2=e.z∧frz w (x e.j 0).2=(0,0)∧RV W l kp st (listed.setIfInBounds e.i true) (upd vals e.i undef) (setBlk w (x e.j 0).2 (e.c x)):=by
 obtain⟨R,S,B,U,K⟩:=h;obtain⟨v,L⟩:=hx e.j hw;obtain⟨V,a2,a3,a4,a5,a6⟩:=U e he v
 have hB:(x e.j 0).2=B e.j:=by
  rw[L,ka]at V
  simpa [Kw.a]using V
 rw[hB]at hkeep ⊢;have X:=a5 hl
 refine⟨X,a4,⟨gr_setNew R.1 a2,fun j q=>?_⟩,fun e' d C j q=>?_,B,fun e' d f=>?_,fun Y Z D G H J h7=>?_⟩
 ·by_cases ee:j=e.i
  ·subst ee
   refine(kz_W (by omega) _ _).2 ⟨fun _=>(none,0),?_,?_⟩
   ·rw[ku];simp only[upd,if_true];rfl
   ·rw[ku];trivial
  ·rw[getD_set_other _ _ _ (Ne.symm ee)]at q;simp only[upd,ee,if_false]
   have I:j<kp.length:=by
    rcases Nat.lt_or_ge j listed.size with h|h
    ·omega
    ·simp[h]at q
   obtain⟨y,H,J⟩:=(kz_W I _ _).1 (R.2 j q);exact(kz_W I _ _).2 ⟨y,H,hkeep j y q H J⟩
 ·by_cases ee:e'.i=e.i
  ·obtain rfl:=map_one Ent.i hi1 e' e d he ee;exact set_mono (hx j q).1 hi
  ·rw[getD_set_other _ _ _ (Ne.symm ee)]at C;exact set_mono (S e' d C j q) hi
 ·rw[getD_set_other _ _ _ (hij e e' he d)]at f;obtain⟨b1,b2,b3,b4,b5,b6⟩:=U e' d f
  refine⟨by simp only[upd,Ne.symm (hij e e' he d),if_false];exact b1,b2,by rw[size_setBlk];exact b3,by rw[frz_setBlk];exact b4,fun h=>?_,fun h=>?_⟩
  ·by_cases ee:e'.i=e.i
   ·rw[ee,getD_set_same _ _ hi]at h;cases h
   ·rw[getD_set_other _ _ _ (Ne.symm ee)]at h;have A:B e.j≠B e'.j:=fun P=>ee (by rw[K e e' he d v f P]);rw[blk_other _ _ _ _ A];exact b5 h
  ·by_cases ee:e'.i=e.i
   ·obtain rfl:=map_one Ent.i hi1 e' e d he ee;refine⟨x,fun j q=>?_,blk_setBlk _ _ _ (by rw[X];exact hz)⟩;simp only[upd,ne_un (hx j q).1 hl,if_false];exact(hx j q).2
   ·rw[getD_set_other _ _ _ (Ne.symm ee)]at h;have A:B e.j≠B e'.j:=fun P=>ee (by rw[K e e' he d v f P]);obtain⟨y,hy,Q⟩:=b6 h;refine⟨y,fun j q=>?_,by rw[blk_other _ _ _ _ A];exact Q⟩;simp only[upd,ne_un (S e' d h j q) hl,if_false];exact hy j q
 ·rw[getD_set_other _ _ _ (hij e Y he D)]at H;rw[getD_set_other _ _ _ (hij e Z he G)]at J;exact K Y Z D G H J h7
theorem Sep.next(h:Sep st rw listed vals){i:Nat}{v:Value}(hA:∀e,e∈st→e.j≠i)(hr:i ∉ rw):Sep st rw (listed.setIfInBounds i true) (upd vals i v):=fun e f l j q x C b n c A B=>by
 have d:j≠i:=fun e=>hr (e▸q);rw[getD_set_other _ _ _ (Ne.symm (hA e f))]at l;rw[getD_set_other _ _ _ (Ne.symm d)]at x;simp only[upd,hA e f,if_false]at A;simp only[upd,d,if_false]at B;exact h e f l j q x C b n c A B
theorem row_at(hR:RZ W (kp.map Kw.kz) listed vals w){j:Nat}(hj:listed.getD j false=true)(hl:j<kp.length){n:Nat}{c:Array Value}(hk:kW kp j=.r n c){b m q:Nat}(hv:vals j=.slice (some ⟨b,0,none⟩) m q):Vr w b c:=by
 obtain⟨y,d,f⟩:=(kz_W hl _ _).1 (hR.2 j hj)
 grind [Kw.r]
theorem run_W{i:Nat}{x:Nat→Wt}{e:(Nat→Wt)→Sem Next}(h:runW l kp a0 i=fun x=>some (e x)):wnt l i (FW l kp a0 x)=true∧execOp (FW l kp a0 x).eval (opW l i)=e x:=by
 have:=congrFun h x
 grind [runW]
theorem stepG(d:Bool)(hk:chkW l kp (ExV (ex++rw) st) l.length=true)(hp:pureL P l kp a0 (ExV (ex++rw) st) l.length=pureR kp (ExV (ex++rw) st) l.length)(ho:ObsW P l kp a0 W ex)(hrw:ForY (ObR P l kp a0) rw)(hv:∀e,e∈st→ObY P l kp a0 e)(hfar:∀e,e∈st→∀j,j<l.length→j∈rw∨FarK e.z (kW kp j))(hyj:∀j,j∈rw→∀e,e∈st→e.j≠j∧e.i≠j)(hnd:(st.map Ent.j).Nodup∧(st.map Ent.i).Nodup∧∀a,a∈st.map Ent.i→∀b,b∈st.map Ent.j→a≠b):StepR d P l Q a0 (fun listed vals w=>RV W l kp st listed vals w∧Sep st rw listed vals):=by
 intro listed vals a w i o hz af hF hi hl hd _;obtain⟨I,hS⟩:=af
 have U:i<l.length:=by simpa using (Array.getElem?_eq_some_iff.1 hi).1
 have L:i<listed.size:=by rw[hz];simpa using U
 have ab:=(chk_u hk).2;have V:=opW_is hi;have X:∀e e',e∈st→e'∈st→e.i≠e'.j:=fun e e' f q=>hnd.2.2 _ (List.mem_map_of_mem f) _ (List.mem_map_of_mem q);obtain⟨x,hx,Y,Z⟩:=atW hk I.1.2 hF hi U hd;rw[Z];have ag:=fun(u:Value) (v:World)=>kz_W (kp:=kp) (j:=i) (by omega) u v
 have ac:∀j,listed.getD j false=true→j<kp.length:=fun j J=>by
  rcases Nat.lt_or_ge j listed.size with h|h
  ·rw[hz]at h;simp at h;omega
  ·simp[h]at J
 by_cases hA:∃e,e∈st∧e.j=i
 ·obtain⟨e,f,rfl⟩:=hA;have C:=hv e f;obtain⟨D,R⟩:=run_W C.rj;refine Or.inl ⟨D,wp_val _ (by rw[Y,←V,R];exact C.hn w) ⟨_,rfl,I.alloc e f hnd.1 X C.hw L hl (by omega) C.ka,fun e' q S j J K b' b n c G h8=>?_⟩⟩;have A:=(hyj j J e f).1;rw[getD_set_other _ _ _ A]at K;simp only[upd,Ne.symm A,if_false]at h8
  by_cases ee:e'.j=e.j
  ·simp only[upd,ee,if_true,Value.pointer.injEq,Option.some.injEq,Addr.mk.injEq]at G;obtain⟨n',c',t',ah,aa,-,-⟩:=hrw.at j J;have:b+1≤w.heap.size:=(row_at I.1 K (ac j K) aa h8).p
   omega
  ·rw[getD_set_other _ _ _ (Ne.symm ee)]at S;simp only[upd,ee,if_false]at G;exact hS e' q S j J K b' b n c G h8
 by_cases hB:∃e,e∈st∧e.i=i
 ·obtain⟨e,f,rfl⟩:=hB;have C:=hv e f;obtain⟨D,R⟩:=run_W C.ri;have A:=hx e.j C.hw
  obtain⟨hb,hf,ai⟩:=I.storeY e f hnd.2.1 X (by rw[hz];simp[ab]) L hl C.ku C.hz x (fun j J=>⟨(hx j J).1,(hx j J).2.1⟩) C.hw C.ka (fun j y S K G=>by
   rcases hfar e f j (by have:=ac j S;omega) with hjr|hfk
   ·obtain⟨n',c',t',ah,aa,-,-⟩:=hrw.at j hjr;rw[aa]at K G ⊢;exact G.other (hS e f A.1 j hjr S _ _ _ _ (by rw[A.2.1,C.ka];rfl) K)
   ·exact hfk y w _ _ (I.at A.1 f (by rw[A.2.1,C.ka];rfl) hl) G)
  exact Or.inl ⟨D,wp_skip (by rw[Y,←V,R];exact C.hs x w _ hb hf) ⟨_,rfl,ai,hS.next (fun e' q=>Ne.symm (X e e' f q)) fun h=>(hyj _ h e f).2 rfl⟩⟩
 have H:∀e,e∈st→e.j≠i∧e.i≠i:=fun e f=>⟨fun h=>hA ⟨e,f,h⟩,fun h=>hB ⟨e,f,h⟩⟩
 by_cases hmr:i∈rw
 ·obtain⟨n,c,t,op,ad,ae,hr⟩:=hrw.at i hmr;obtain⟨D,R⟩:=run_W hr;refine Or.inl ⟨D,wp_val _ (by rw[Y,←V,R];exact ae w) ⟨_,rfl,I.next L hl H ((Gr.refl w).alloc _) ((ag _ _).2 ⟨fun _=>(none,w.heap.size),by rw[ad];rfl,by rw[ad];exact Vr.new _ _ _⟩),fun e' q S j J K b' b n c G h8=>?_⟩⟩;rw[getD_set_other _ _ _ (Ne.symm (H e' q).1)]at S;simp only[upd,(H e' q).1,if_false]at G
  by_cases ee:j=i
  ·subst ee;simp only[upd,if_true,Value.slice.injEq,Option.some.injEq,Addr.mk.injEq]at h8;obtain⟨-,-,B,h3,-⟩:=I;obtain⟨a1,-,a3,-⟩:=h3 e' q S;rw[G]at a1;simp only[Value.pointer.injEq,Option.some.injEq,Addr.mk.injEq]at a1
   omega
  ·rw[getD_set_other _ _ _ (Ne.symm ee)]at K;simp only[upd,ee,if_false]at h8;exact hS e' q S j J K b' b _ _ G h8
 have nx:∀v w',Gr w w'→kz (kp.map Kw.kz) i v w'→RV W l kp st (listed.setIfInBounds i true) (upd vals i v) w'∧Sep st rw (listed.setIfInBounds i true) (upd vals i v):=fun v w' hg h=>⟨I.next L hl H hg h,hS.next (fun e f=>(H e f).1) hmr⟩
 have aj:i∈ExV (ex++rw) st→ObW P l kp a0 W i:=fun h=>by
  unfold ExV at h;rw[List.mem_append,List.mem_append,List.mem_append]at h
  rcases h with ((h|h)|h)|h
  ·exact ho.at i h
  ·exact absurd h hmr
  ·obtain⟨e,f,h⟩:=List.mem_map.1 h;exact absurd ⟨e,f,h⟩ hA
  ·obtain⟨e,f,h⟩:=List.mem_map.1 h;exact absurd ⟨e,f,h⟩ hB
 obtain⟨D,R⟩|⟨D,R⟩:=stepW hk hp listed vals a w i o aj I.1.1 I.1.2 hF hi U hd
 ·rw[Z]at D;refine Or.inl ⟨D,Oper.wp_mono (fun a' w' h=>?_) R⟩;obtain⟨u,rfl,hg,hu⟩:=h;exact⟨u,rfl,nx u w' hg hu⟩
 ·rw[Z]at D;exact Or.inr ⟨D,nx _ _ (Gr.refl _) R⟩
def NewV(W:World)(x:Nat→Wt)(v:World):List Ent→Prop
 | []=>True
 | e :: r=>(W.heap.size≤(x e.j 0).2∧Vr v (x e.j 0).2 (e.c x))∧NewV W x v r
theorem NewV.of{x:Nat→Wt}{v:World}:∀{st:List Ent},(∀e,e∈st→W.heap.size≤(x e.j 0).2∧Vr v (x e.j 0).2 (e.c x))→NewV W x v st
 | [],_=>trivial
 | e :: _,h=>⟨h e (List.mem_cons_self ..),NewV.of fun e' he'=>h e' (List.mem_cons_of_mem _ he')⟩
def chkV(st:List Ent):Bool:=decide (st.map Ent.j).Nodup&&decide (st.map Ent.i).Nodup&&((st.map Ent.i).all fun a=>(st.map Ent.j).all fun b=>a != b)
theorem wp_g(d:Bool){id:Nat}(kp:List Kw)(ex rw:List Nat)(st:List Ent)(ho:ObsW P l kp a0 W ex)(hr:ForY (ObR P l kp a0) rw)(hv:∀e,e∈st→ObY P l kp a0 e)(hfar:∀e,e∈st→∀j,j<l.length→j∈rw∨FarK e.z (kW kp j))(hyj:∀j,j∈rw→∀e,e∈st→e.j≠j∧e.i≠j)(hfin:∀x v,Gr W v→(∀j,(kW kp j).ok (x j) v)→NewV W x v st→Q .normal (FW l kp a0 x) v)(hm:(!d || P.follows .mixedOrders)=true)(hk:(chkW l kp (ExV (ex++rw) st) l.length&&chkV st)=true)(hp:pureL P l kp a0 (ExV (ex++rw) st) l.length=pureR kp (ExV (ex++rw) st) l.length):(Code.region id l.toArray d).wp P Q a0 W:=by
 simp only[Bool.and_eq_true]at hk;obtain⟨hk,G⟩:=hk;simp only[chkV,Bool.and_eq_true,decide_eq_true_eq,List.all_eq_true,bne_iff_ne,ne_eq]at G;obtain⟨⟨n1,n2⟩,n3⟩:=G;obtain⟨K,H⟩:=chk_u hk
 refine wp_region_ord d (fun h=>by subst h;simpa using hm) K _ (fun f w' hn hg=>?_) (stepG d hk hp ho hr hv hfar hyj ⟨n1,n2,n3⟩) fun f V a v q L hF=>?_
 ·have I:∀(i:Nat) (p:Prop),f.getD i false=true→p:=fun i p h=>by rw[hn]at h;cases h
  exact⟨⟨⟨hg,fun j A=>I j _ A⟩,fun e _ h=>I e.i _ h,fun _=>0,fun e _ h=>I e.j _ h,fun e _ _ _ h=>I e.j _ h⟩,fun e _ h=>I e.j _ h⟩
 ·rw[hF.final K q];obtain⟨⟨X,h2,B,h3,-⟩,-⟩:=L;obtain⟨x,C,R⟩:=finW H fun j A=>X.2 j (q j (by simpa using A));rw[putFrom_congr (vals':=wvals kp x) l 0 a0 fun j o A _=>by rw[Nat.zero_add];exact C j (List.getElem?_eq_some_iff.1 A).1];refine hfin x v X.1 R (NewV.of fun e Y=>?_);have S:=hv e Y
  have Z:∀j,wts l e.i j=true→j<l.length∧e.i<l.length:=fun j A=>by
   have hi:e.i<l.length:=by
    rcases Nat.lt_or_ge e.i l.length with h|h
    ·exact h
    ·rw[wts,opW,List.getElem?_eq_none (by omega)]at A;simp at A
   have ho:l.toArray[e.i]? = some l[e.i]:=by simp[hi]
   rw[wts,opW_is ho,Array.any_toList]at A;obtain⟨ed,U,J⟩:=Array.any_eq_true.1 A;simp only[Bool.and_eq_true,beq_iff_eq]at J;have:=(uniq_at K ho).2 _ (Array.getElem_mem U) J.2
   omega
  have D:=Z e.j S.hw;obtain⟨a1,a2,a3,a4,-,a6⟩:=h3 e Y (q e.j (by simpa using D.1));obtain⟨y,hy,J⟩:=a6 (q e.i (by simpa using D.2))
  have hB:(x e.j 0).2=B e.j:=by
   rw[C e.j D.1,wvals,S.ka]at a1
   simpa [Kw.a]using a1
  rw[hB];exact⟨a2,by rw[J];exact S.hc y x fun j A=>by rw[←hy j A,C j (Z j A).1];rfl,a4,a3⟩
theorem wp_v(d:Bool){id:Nat}(kp:List Kw)(ex:List Nat)(st:List Ent)(ho:ObsW P l kp a0 W ex)(hv:ObsV P l kp a0 st)(hfin:∀x v,Gr W v→(∀j,(kW kp j).ok (x j) v)→NewV W x v st→Q .normal (FW l kp a0 x) v)(hm:(!d || P.follows .mixedOrders)=true:=by kernel_rfl)(hk:(chkW l kp (ExV ex st) l.length&&chkV st)=true:=by kernel_rfl)(hp:pureL P l kp a0 (ExV ex st) l.length=pureR kp (ExV ex st) l.length:=by kernel_rfl):(Code.region id l.toArray d).wp P Q a0 W:=
 wp_g d kp ex [] st ho .nil (fun e f=>(hv.at e f).y) (fun e f j _=>.inr ((hv.at e f).hf.at j)) (fun j h=>by cases h) hfin hm (by rw[List.append_nil];exact hk) (by rw[List.append_nil];exact hp)
end
theorem gen_v{P:Program}{c:Code}{Q:Exit→Act→World→Prop}{a:Act}{W:World}(R:World→Prop)(h:R W)(k:∀v,R v→c.wp P Q a v):c.wp P Q a W:=k W h
theorem bNat:Blank (nw 9 0):=fun i x=>by
 by_cases h:i<9
 ·rw[nw_get 9 0 i h];intro e
  cases e
 ·rw[Array.getElem?_eq_none (by rw[nw_size];omega)];intro e
  cases e
theorem blank_of{c:Array Value}(h:c.all (fun v=>match v with | .int .u32 _=>false|_=>true)=true):Blank c:=fun i n e=>by
 obtain⟨d,f⟩:=Array.getElem?_eq_some_iff.1 e;have:=Array.all_eq_true.1 h i d;rw[f]at this
 cases this
theorem zNat:0<(nw 9 0).size:=by decide +kernel
theorem FarL.t{z:Array Value}:∀{kp:List Kw},kp.map Kw.ok=kp.map (fun _ _ _=>True)→FarL z kp
 | [],_=>trivial
 | k :: r,h=>⟨fun y w b d _ _=>by have e:k.ok=fun _ _=>True:=(List.cons.inj h).1;rw[e];trivial,FarL.t (List.cons.inj h).2⟩
theorem ObV.k{P:Program}{l:List Oper}{kp:List Kw}{a0:Act}{e:Ent}(hz:0<e.z.size)(hf:FarL e.z kp)(hc:∀x x',(∀j,wts l e.i j=true→(kW kp j).val (x j)=(kW kp j).val (x' j))→e.c x=e.c x':=by intros;rfl)(hs:∀x v b,blk v b=e.z→frz v b=(0,0)→(exI (.store e.t (.const (.pointer (some ⟨b,0,none⟩))) (.const (.agg (e.c x))))).run P v=.ok .skip (setBlk v b (e.c x)):=by intro _ v b H F;dsimp only at H ⊢;simp[go_sem,exI,H,F])(hn:∀v:World,(exI (.alloc e.t)).run P v=.ok (.value (.pointer (some ⟨v.heap.size,0,none⟩))) (v.alloc (.cells e.z e.t)):=by intro vv;simp[go_sem,exI])(ka:kW kp e.j=.a:=by rfl)(ku:kW kp e.i=.u:=by rfl)(hw:wts l e.i e.j=true:=by rfl)(rj:runW l kp a0 e.j=fun _=>some (exI (.alloc e.t)):=by kernel_rfl)(ri:runW l kp a0 e.i=fun x=>some (exI (.store e.t (.const (.pointer (some ⟨(x e.j 0).2,0,none⟩))) (.const (.agg (e.c x))))):=by kernel_rfl):ObV P l kp a0 e:=⟨hc,hs,hz,hf,hn,ka,ku,hw,rj,ri⟩
theorem ObY.k{P:Program}{l:List Oper}{kp:List Kw}{a0:Act}{e:Ent}(hz:0<e.z.size)(hc:∀x x',(∀j,wts l e.i j=true→(kW kp j).val (x j)=(kW kp j).val (x' j))→e.c x=e.c x':=by intros;rfl)(hs:∀x v b,blk v b=e.z→frz v b=(0,0)→(exI (.store e.t (.const (.pointer (some ⟨b,0,none⟩))) (.const (.agg (e.c x))))).run P v=.ok .skip (setBlk v b (e.c x)):=by intro _ v b H F;dsimp only at H ⊢;simp[go_sem,exI,H,F])(hn:∀v:World,(exI (.alloc e.t)).run P v=.ok (.value (.pointer (some ⟨v.heap.size,0,none⟩))) (v.alloc (.cells e.z e.t)):=by intro vv;simp[go_sem,exI])(ka:kW kp e.j=.a:=by rfl)(ku:kW kp e.i=.u:=by rfl)(hw:wts l e.i e.j=true:=by rfl)(rj:runW l kp a0 e.j=fun _=>some (exI (.alloc e.t)):=by kernel_rfl)(ri:runW l kp a0 e.i=fun x=>some (exI (.store e.t (.const (.pointer (some ⟨(x e.j 0).2,0,none⟩))) (.const (.agg (e.c x))))):=by kernel_rfl):ObY P l kp a0 e:=⟨hc,hs,hz,hn,ka,ku,hw,rj,ri⟩
end
section
section
variable {P:Program} {l:List Oper} {Q:Exit→Act→World→Prop} {a0:Act} {kp:List Kw} {ex:List Nat} {m s:Nat} {N:World→World→Prop} {I:Bool→World→Prop} {I2:(Nat→Wt)→World→Prop} {f:FuncId} {args:(Nat→Wt)→Array Value} {t:TypeId} {p u:(Nat→Wt)→Value}
end
theorem ObW.kf{P:Program}{l:List Oper}{a0:Act}{W:World}{kp:List Kw}{i:Nat}{f:FuncId}(args:(Nat→Wt)→Array Value)(hcf:∀x v,(callFunc f (args x)).run P v=.ok (.enter f (args x)) v)(hc:∀x v,Gr W v→(∀j,wts l i j=true→(kW kp j).ok (x j) v)→Calls P f (args x) v (RtW (kW kp i) v))(hr:(fun x v=>resW P l kp a0 x v i)=fun x v=>some ((callFunc f (args x)).run P v):=by kernel_rfl):ObW P l kp a0 W i:=
 ObW.k args hc (by rw[hr];funext x v;rw[hcf x v])
end
section
theorem bSg:Blank (sgA 0 0):=blank_of (by decide +kernel)
theorem zSg:0<(sgA 0 0).size:=by decide +kernel
end
section
theorem zCu:0<(cu 0 0 0 0 0 0 0 0 0 false).size:=by decide +kernel
end
section
attribute [local go_sem ↓] uz1
attribute [local go_sem] uz2
section
def fnT(n:Nat):Value:=.func (.func n) #[] #[]
attribute [local go_sem ↓] copy_is
attribute [local go_sem] uz3 ones_nw
end
section
attribute [local go_sem] ppre_1 ppre_2 ppre_3
def ws(l:List Nat):Array Value:=(l.map fun x:Nat=>Value.int .u64 x).toArray
def numW(l:List Nat):Nat:=l.foldl (fun a x=>a*18446744073709551616+x) 0
theorem ws_get(l:List Nat)(j x:Nat)(h:l[j]? = some x):(ws l)[j]? = some (.int .u64 x):=by simp[ws,h]
theorem numW_take(l:List Nat)(j x:Nat)(h:l[j]? = some x):numW (l.take (j+1))=numW (l.take j)*18446744073709551616+x:=by
 grind [numW,List.take_add_one]
theorem put_word(N x q:Nat):N*pw (q+1)%pw q+x*pw q+N*pw (q+1)/pw (q+1)*pw (q+1)=(N*18446744073709551616+x)*pw q:=by
 grind [pow_succ64,Nat.mul_comm,Nat.mul_assoc,Nat.mul_mod_left,Nat.mul_div_cancel,pw_pos,Nat.add_mul,Nat.add_comm]
theorem number_any(l:List Nat)(k b:Nat)(hk:l.length=k)(h9:k≤9)(hw:∀x∈l,x<18446744073709551616)(w:World)(hb:blk w b=ws l)(hp:Pre (b+1) w.heap.size):
 Cg 63 #[.slice (some ⟨b,0,none⟩) k k] w (.agg (nw 9 (numW l))):=by
 have D:Hid (∀(j x:Nat),l[j]? = some x→w.cell? ⟨b,j,none⟩=some (.int .u64 x)):=fun j x h=>by rw[cell_blk,hb];exact ws_get l j x h
 have G:Hid (∀(j x:Nat),l[j]? = some x→x<18446744073709551616):=fun j x h=>hw x (List.mem_of_getElem? h);have B:Hu (_):=fun _=>hk
 have P:(0:Int)≤k:=by omega
 have Q:(k:Int)≤9:=by omega
 have H:Hu (_):=fun _=>h9;clear hb hw hk h9
 go_enter func63,ntmps63
 go_wp2
 go_loopw [8] (fun i wr=>∃j V:Nat,i=.int .i64 j∧Hu (j≤k∧numW (l.take j)*pw (k-j)=V)∧wr=(w.alloc (.cells (nw 9 0) 25)).alloc (.cells (nw 9 V) 25)) (fun i _=>k-(intOf i).toNat)
 case atStart=>exact⟨0,0,rfl,fun _=>⟨Nat.zero_le _,by simp[numW]⟩,rfl⟩
 case round=>
  obtain⟨j,V,rfl,C,rfl⟩:=hrel
  by_cases hlt:j<k
  ·obtain⟨q,R⟩:=exl (k-1-j)
   have I:j<l.length:=by rw[B.out ()];exact hlt
   obtain⟨x,v⟩:∃x,l[j]? = some x:=⟨l[j],List.getElem?_eq_getElem I⟩;have S:=D.out j x v;have J:=G.out j x v
   have U:(0:Int)≤j:=by omega
   have K:q<9:=by have:=H.out ();omega
   obtain⟨d,f⟩:∃d,numW (l.take (j+1))*pw q=d:=⟨_,rfl⟩
   have W:(nw 9 V).setIfInBounds q (Value.int .u64 x)=nw 9 d:=by
    rw[nw_set 9 V q x J,←f,←(C.out ()).2,numW_take l j x v,show k-j=q+1 by omega,put_word]
   have A:Hu (j+1≤k∧numW (l.take (j+1))*pw (k-(j+1))=d):=fun _=>⟨hlt,by rw[←f,show k-(j+1)=q by omega]⟩
   go_wp2
   go_roundw
   case rel=>exact⟨j+1,d,by go_num,A,rfl⟩
   case measure=>simp[intOf];omega
  ·have L:Hu (V=numW l):=fun _=>by
    have:=C.out ();rw[←this.2,show k-j=0 by omega,pw_zero,Nat.mul_one,List.take_of_length_le (by rw[B.out ()];omega)]
   go_wp2
   refine bo1 results63 (rd_nat (x:=V) (by rfl) ?_) ⟨by rw[L.out ()],grA⟩;simp[go_sem]
end
section
theorem lessThree_any(p:Nat)(h3:3≤p)(hp:p<M)(w:World):
 Cg 62 #[.agg (nw 9 p)] w (.agg (nw 9 (p-3))):=by
 obtain⟨d,j⟩:∃d,p-3=d:=⟨_,rfl⟩
 have D:Hid _:=fun w=>by
  have:=sub_any p 3 hp (by omega) w;rw[decide_eq_false (by omega),show p+M-3=d+M by omega,Nat.add_mod_right,Nat.mod_eq_of_lt (show d<M by omega)]at this;exact this
 rw[j];clear j h3 hp
 go_enter func62,ntmps62
 go_upto_region 1 with fail
 refine gen_v (fun v=>Gr w v∧Vr v w.heap.size (nw 9 p)∧Vr v (w.heap.size+1) (nw 9 0)) ⟨grA,vrA,vrA⟩ ?_;rintro Q ⟨G,x,q⟩;refine wp_v true [.N p,.N 3,.c (.tuple #[.agg (nw 9 d),.bool false]),.c (.tuple #[.agg (nw 9 d),.bool false]),.N d,.F,.a,.u,.F] [0,1,2] [⟨6,7,25,nw 9 0,fun _=>nw 9 d⟩] ⟨.g 25 0 x rfl,.z (small_any 3 (by decide)),.z D.out,⟨⟩⟩ ⟨.k zNat (.t rfl),⟨⟩⟩ fun H R i I A=>?_;simp only[fzw,Kw.a];obtain⟨⟨B,l⟩,-⟩:=A;clear I;replace G:=G.trans i;replace x:=x.gr i;replace q:=q.gr i
 go_upto_region 2 with fail
 refine wp_wTS 1 [.N d] [0] ⟨.g 25 0 l rfl,⟨⟩⟩ (.s 25 (fun J=>pv (w.heap.size+1) 0) (fun J=>.agg (nw 9 d)) fun K L i S=>?_);have C:=(q.gr i).h;have P:=(q.gr i).f;refine⟨setBlk L (w.heap.size+1) (nw 9 d),by simp[go_sem,exI,C,P],?_⟩;simp only[fzw];replace G:=G.trans i
 go_wp2_with fail
 exact bo1 results62 (rd_nat (by rfl) (blk_setBlk _ _ _ (by rw[C];decide +kernel))) ⟨rfl,gr_setNew G (by omega)⟩
end
section
attribute [local go_sem] ppre_1 ppre_2 ppre_3
attribute [local go_sem ↓] zvCu_is storeCu_is buildCu_is buildPn_is
attribute [local go_sem] zvCu storeCu buildCu4 buildPn2 cu_size frz_setBlk blk_setBlk setBlk_setBlk
def wl(k X:Nat):List Nat:=(List.range k).map fun i=>wd X (k-1-i)
def Kw.w(k X:Nat):Kw:=⟨fun y=>.slice (some ⟨(y 0).2,0,none⟩) k k,fun y w=>blk w (y 0).2=ws (wl k X)∧Pre ((y 0).2+1) w.heap.size,fun _ _ _ h g=>⟨(g.blk _ h.2).trans h.1,Nat.le_trans h.2 g.below.size⟩,0,fun h=>absurd rfl h,fun h=>absurd h (by decide)⟩
def bsO(k X:Nat):Op:=.buildSlice 102 k ((List.range k).map fun i=>(i,.const (.int .u64 ((wd X (k-1-i):Nat):Int)))).toArray
theorem bsO_run(k X:Nat)(h:k<10)(v:World):(exI (bsO k X)).run prog v=.ok (.value (.slice (some ⟨v.heap.size,0,none⟩) k k)) (v.alloc (.cells (ws (wl k X)) 22)):=by
 obtain rfl|rfl|rfl|rfl|rfl|rfl|rfl|rfl|rfl|rfl:k=0∨k=1∨k=2∨k=3∨k=4∨k=5∨k=6∨k=7∨k=8∨k=9:=by omega
 all_goals kernel_rfl
theorem ObW.w{l:List Oper}{a0:Act}{W:World}{kp:List Kw}{i:Nat}(k X:Nat)(hk:kW kp i=.w k X)(h:k<10)(hr:runW l kp a0 i=fun _=>some (exI (bsO k X)):=by kernel_rfl):ObW prog l kp a0 W i:=
 ObW.e (fun _=>exI (bsO k X)) hr fun _ v d _=>⟨fun _=>(none,v.heap.size),_,by rw[hk];exact bsO_run k X h v,(Gr.refl _).alloc _,by rw[hk];exact⟨blk_alloc_at _ _ _ _ _ rfl,by simp[Pre]⟩⟩
theorem numN{k X b:Nat}{w:World}(h:(decide (k≤9)&&decide (numW (wl k X)=X))=true)(hb:blk w b=ws (wl k X)∧Pre (b+1) w.heap.size):
 Calls prog 63 #[.slice (some ⟨b,0,none⟩) k k] w (Rt (.c (.agg (nw 9 X))) w):=by
 simp only[Bool.and_eq_true,decide_eq_true_eq]at h
 have:=number_any (wl k X) k b (by simp[wl]) h.1 (fun x d=>by
  obtain⟨i,-,rfl⟩:=List.mem_map.1 d
  exact wd_lt _ _) w hb.1 hb.2
 rw[h.2]at this;exact Rt.c this
theorem lessN(i:Nat)(h:(decide (3≤pN i)&&decide (pN i<M)&&decide (pN i-3=aN i))=true)(w:World):Calls prog 62 #[.agg (nw 9 (pN i))] w (Rt (.c (.agg (nw 9 (aN i)))) w):=by
 simp only[Bool.and_eq_true,decide_eq_true_eq]at h;have:=lessThree_any (pN i) h.1.1 h.1.2 w;rw[h.2]at this;exact Rt.c this
theorem smlN(c:Int)(X:Nat)(h:c.toNat=X)(hc:c≤9223372036854775807)(w:World):Calls prog 64 #[.int .i64 c] w (Rt (.c (.agg (nw 9 X))) w):=h▸Rt.c (small_any c hc w)
theorem ObsW.wn{l:List Oper}{a0:Act}{W:World}{kp:List Kw}{i:Nat}{r:List Nat}(k X:Nat)(t:ObsW prog l kp a0 W r)(hk:kW kp i=.w k X:=by rfl)(h2:kW kp (i+1)=.c (.agg (nw 9 X)):=by rfl)(h:(decide (k≤9)&&decide (numW (wl k X)=X))=true:=by decide +kernel)(hw:wts l (i+1) i=true:=by rfl)(hr:runW l kp a0 i=fun _=>some (exI (bsO k X)):=by kernel_rfl)(hc:(fun x v=>resW prog l kp a0 x v (i+1))=fun x v=>some (.ok (.enter 63 #[.slice (some ⟨(x i 0).2,0,none⟩) k k]) v):=by kernel_rfl):ObsW prog l kp a0 W (i :: (i+1) :: r):=by
 have j:=h;simp only[Bool.and_eq_true,decide_eq_true_eq]at j;refine .cons (.w k X hk (by omega) hr) (.cons (.k (fun d =>#[.slice (some ⟨(d i 0).2,0,none⟩) k k]) (fun d A B q=>?_) hc) t);have f:=q i hw;rw[hk]at f;rw[h2];exact RtW.of_c (numN h f)
theorem TlW.sc{l:List Oper}{a0:Act}{W:World}{kp:List Kw}{Q:Exit→Act→World→Prop}{n:Nat}(i b:Nat)(c2:Vr W b (cu 0 0 0 0 0 0 0 0 0 false))(hf:∀x v,Gr W v→blk v b=cu 0 0 0 0 0 0 0 0 0 false→Q .normal (FW l kp a0 x) (setBlk v b (cu 0 0 (aN i) (bN i) (oN i) (xN i) (yN i) 0 0 false)))(hr:(fun x=>execOp (FW l kp a0 x).eval (opW l n))=fun _=>exI (.store 65 (.const (.pointer (some ⟨b,0,none⟩))) (.const (.agg (cu 0 0 (aN i) (bN i) (oN i) (xN i) (yN i) 0 0 false)))):=by kernel_rfl):TlW prog l kp a0 W Q n:=
 .s 65 (fun _=>.pointer (some ⟨b,0,none⟩)) (fun _=>.agg (cu 0 0 (aN i) (bN i) (oN i) (xN i) (yN i) 0 0 false)) (fun x v d _=>by
  have j:=(c2.gr d).h;have q:=(c2.gr d).f
  exact⟨_,by simp[go_sem,exI,j,q],hf x v d j⟩) hr
def mkE(i n:Nat):List Kw:=[.w n (bN i),.c (.agg (nw 9 (bN i))),.w n (oN i),.c (.agg (nw 9 (oN i))),.w n (xN i),.c (.agg (nw 9 (xN i))),.w n (yN i),.c (.agg (nw 9 (yN i))),.c (.agg (pnt (xN i) (yN i) false)),.c (.agg (cu 0 0 (aN i) (bN i) (oN i) (xN i) (yN i) 0 0 false))]
def mkA(i n:Nat):List Kw:=.c (.agg (nw 9 (pN i))) :: .c (.agg (nw 9 (aN i))) :: mkE i n
def mkC(i n:Nat):List Kw:=.w n (aN i) :: .c (.agg (nw 9 (aN i))) :: mkE i n
theorem gen_mk{P:Program}{c:Code}{Q:Exit→Act→World→Prop}{a:Act}{W:World}(i:Nat)(w:World)(h:Gr w W∧Vr W w.heap.size (nw 9 (pN i))∧Vr W (w.heap.size+1) (cu 0 0 0 0 0 0 0 0 0 false))(k:∀v,Gr w v→Vr v w.heap.size (nw 9 (pN i))→Vr v (w.heap.size+1) (cu 0 0 0 0 0 0 0 0 0 false)→c.wp P Q a v):c.wp P Q a W:=k W h.1 h.2.1 h.2.2
theorem mk_1(w:World):
 Cg 46 #[.agg (nw 9 (pN 1))] w (.agg (cu 0 0 (aN 1) (bN 1) (oN 1) (xN 1) (yN 1) 0 0 false)):=by
 go_enter func46,ntmps46
 go_upto_region 1 with fail
 refine gen_mk 1 w ⟨grA,⟨by simp[go_sem],by simp[go_sem],by simp[go_sem]⟩,⟨by simp[go_sem],by simp[go_sem],by simp[go_sem]⟩⟩ fun l G f h=>?_;refine wp_wTS 12 (mkA 1 3) [0,1,2,3,4,5,6,7,8,9] ?hs1 ?hf1
 case hs1=>
  refine .cons (.g 25 0 f rfl) ?_;refine .cons (.k _ fun q v d x=>RtW.of_c (lessN 1 (by decide +kernel) _)) ?_;refine .wn 3 _ ?_;refine .wn 3 _ ?_;refine .wn 3 _ ?_;refine .wn 3 _ .nil
 refine .sc 1 (w.heap.size+1) h fun i A d j=>?_;simp only[mkA,mkE];simp only[fzw,Kw.w]
 go_wp2_with fail
 exact bo1 results46 (rd_cu (by rfl) (blk_setBlk _ _ _ (by rw[j,cu_size];decide))) ⟨rfl,gr_setNew (G.trans d) (by omega)⟩
theorem mk_2(w:World):
 Cg 47 #[.agg (nw 9 (pN 2))] w (.agg (cu 0 0 (aN 2) (bN 2) (oN 2) (xN 2) (yN 2) 0 0 false)):=by
 go_enter func47,ntmps47
 go_upto_region 1 with fail
 refine gen_mk 2 w ⟨grA,⟨by simp[go_sem],by simp[go_sem],by simp[go_sem]⟩,⟨by simp[go_sem],by simp[go_sem],by simp[go_sem]⟩⟩ fun l G f h=>?_;refine wp_wTS 12 (mkA 2 4) [0,1,2,3,4,5,6,7,8,9] ?hs2 ?hf2
 case hs2=>
  refine .cons (.g 25 0 f rfl) ?_;refine .cons (.k _ fun q v d x=>RtW.of_c (lessN 2 (by decide +kernel) _)) ?_;refine .wn 4 _ ?_;refine .wn 4 _ ?_;refine .wn 4 _ ?_;refine .wn 4 _ .nil
 refine .sc 2 (w.heap.size+1) h fun i A d j=>?_;simp only[mkA,mkE];simp only[fzw,Kw.w]
 go_wp2_with fail
 exact bo1 results47 (rd_cu (by rfl) (blk_setBlk _ _ _ (by rw[j,cu_size];decide))) ⟨rfl,gr_setNew (G.trans d) (by omega)⟩
theorem mk_3(w:World):
 Cg 48 #[.agg (nw 9 (pN 3))] w (.agg (cu 0 0 (aN 3) (bN 3) (oN 3) (xN 3) (yN 3) 0 0 false)):=by
 go_enter func48,ntmps48
 go_upto_region 1 with fail
 refine gen_mk 3 w ⟨grA,⟨by simp[go_sem],by simp[go_sem],by simp[go_sem]⟩,⟨by simp[go_sem],by simp[go_sem],by simp[go_sem]⟩⟩ fun l G f h=>?_;refine wp_wTS 12 (mkA 3 4) [0,1,2,3,4,5,6,7,8,9] ?hs3 ?hf3
 case hs3=>
  refine .cons (.g 25 0 f rfl) ?_;refine .cons (.k _ fun q v d x=>RtW.of_c (lessN 3 (by decide +kernel) _)) ?_;refine .wn 4 _ ?_;refine .wn 4 _ ?_;refine .wn 4 _ ?_;refine .wn 4 _ .nil
 refine .sc 3 (w.heap.size+1) h fun i A d j=>?_;simp only[mkA,mkE];simp only[fzw,Kw.w]
 go_wp2_with fail
 exact bo1 results48 (rd_cu (by rfl) (blk_setBlk _ _ _ (by rw[j,cu_size];decide))) ⟨rfl,gr_setNew (G.trans d) (by omega)⟩
theorem mk_4(w:World):
 Cg 49 #[.agg (nw 9 (pN 4))] w (.agg (cu 0 0 (aN 4) (bN 4) (oN 4) (xN 4) (yN 4) 0 0 false)):=by
 go_enter func49,ntmps49
 go_upto_region 1 with fail
 refine gen_mk 4 w ⟨grA,⟨by simp[go_sem],by simp[go_sem],by simp[go_sem]⟩,⟨by simp[go_sem],by simp[go_sem],by simp[go_sem]⟩⟩ fun l G f h=>?_;refine wp_wTS 12 (mkA 4 6) [0,1,2,3,4,5,6,7,8,9] ?hs4 ?hf4
 case hs4=>
  refine .cons (.g 25 0 f rfl) ?_;refine .cons (.k _ fun q v d x=>RtW.of_c (lessN 4 (by decide +kernel) _)) ?_;refine .wn 6 _ ?_;refine .wn 6 _ ?_;refine .wn 6 _ ?_;refine .wn 6 _ .nil
 refine .sc 4 (w.heap.size+1) h fun i A d j=>?_;simp only[mkA,mkE];simp only[fzw,Kw.w]
 go_wp2_with fail
 exact bo1 results49 (rd_cu (by rfl) (blk_setBlk _ _ _ (by rw[j,cu_size];decide))) ⟨rfl,gr_setNew (G.trans d) (by omega)⟩
theorem mk_5(w:World):
 Cg 50 #[.agg (nw 9 (pN 5))] w (.agg (cu 0 0 (aN 5) (bN 5) (oN 5) (xN 5) (yN 5) 0 0 false)):=by
 go_enter func50,ntmps50
 go_upto_region 1 with fail
 refine gen_mk 5 w ⟨grA,⟨by simp[go_sem],by simp[go_sem],by simp[go_sem]⟩,⟨by simp[go_sem],by simp[go_sem],by simp[go_sem]⟩⟩ fun l G f h=>?_;refine wp_wTS 12 (mkA 5 9) [0,1,2,3,4,5,6,7,8,9] ?hs5 ?hf5
 case hs5=>
  refine .cons (.g 25 0 f rfl) ?_;refine .cons (.k _ fun q v d x=>RtW.of_c (lessN 5 (by decide +kernel) _)) ?_;refine .wn 9 _ ?_;refine .wn 9 _ ?_;refine .wn 9 _ ?_;refine .wn 9 _ .nil
 refine .sc 5 (w.heap.size+1) h fun i A d j=>?_;simp only[mkA,mkE];simp only[fzw,Kw.w]
 go_wp2_with fail
 exact bo1 results50 (rd_cu (by rfl) (blk_setBlk _ _ _ (by rw[j,cu_size];decide))) ⟨rfl,gr_setNew (G.trans d) (by omega)⟩
theorem mk_6(w:World):
 Cg 51 #[.agg (nw 9 (pN 6))] w (.agg (cu 0 0 (aN 6) (bN 6) (oN 6) (xN 6) (yN 6) 0 0 false)):=by
 go_enter func51,ntmps51
 go_upto_region 1 with fail
 refine gen_mk 6 w ⟨grA,⟨by simp[go_sem],by simp[go_sem],by simp[go_sem]⟩,⟨by simp[go_sem],by simp[go_sem],by simp[go_sem]⟩⟩ fun v G x f=>?_;refine wp_wTS 10 [.N (aN 6),.N (bN 6),.w 4 (oN 6),.N (oN 6),.w 4 (xN 6),.N (xN 6),.w 4 (yN 6),.N (yN 6),.c (.agg (pnt (xN 6) (yN 6) false)),.c (.agg (cu 0 0 (aN 6) (bN 6) (oN 6) (xN 6) (yN 6) 0 0 false))] [0,1,2,3,4,5,6,7] ?hs6 ?hf6
 case hs6=>
  refine .cons (.k _ fun h i d j=>RtW.of_c (smlN 0 _ (by decide +kernel) (by decide) _)) ?_;refine .cons (.k _ fun h i d j=>RtW.of_c (smlN 7 _ (by decide +kernel) (by decide) _)) ?_;refine .wn 4 _ ?_;refine .wn 4 _ ?_;refine .wn 4 _ .nil
 refine .sc 6 (w.heap.size+1) f fun l A d q=>?_;simp only[fzw,Kw.w]
 go_wp2_with fail
 exact bo1 results51 (rd_cu (by rfl) (blk_setBlk _ _ _ (by rw[q,cu_size];decide))) ⟨rfl,gr_setNew (G.trans d) (by omega)⟩
theorem mk_7(w:World):
 Cg 52 #[.agg (nw 9 (pN 7))] w (.agg (cu 0 0 (aN 7) (bN 7) (oN 7) (xN 7) (yN 7) 0 0 false)):=by
 go_enter func52,ntmps52
 go_upto_region 1 with fail
 refine gen_mk 7 w ⟨grA,⟨by simp[go_sem],by simp[go_sem],by simp[go_sem]⟩,⟨by simp[go_sem],by simp[go_sem],by simp[go_sem]⟩⟩ fun j G l d=>?_;refine wp_wTS 12 (mkC 7 3) [0,1,2,3,4,5,6,7,8,9] ?hs7 ?hf7
 case hs7=>
  refine .wn 3 _ ?_;refine .wn 3 _ ?_;refine .wn 3 _ ?_;refine .wn 3 _ ?_;refine .wn 3 _ .nil
 refine .sc 7 (w.heap.size+1) d fun f q h i=>?_;simp only[mkC,mkE];simp only[fzw,Kw.w]
 go_wp2_with fail
 exact bo1 results52 (rd_cu (by rfl) (blk_setBlk _ _ _ (by rw[i,cu_size];decide))) ⟨rfl,gr_setNew (G.trans h) (by omega)⟩
theorem mk_8(w:World):
 Cg 53 #[.agg (nw 9 (pN 8))] w (.agg (cu 0 0 (aN 8) (bN 8) (oN 8) (xN 8) (yN 8) 0 0 false)):=by
 go_enter func53,ntmps53
 go_upto_region 1 with fail
 refine gen_mk 8 w ⟨grA,⟨by simp[go_sem],by simp[go_sem],by simp[go_sem]⟩,⟨by simp[go_sem],by simp[go_sem],by simp[go_sem]⟩⟩ fun j G l d=>?_;refine wp_wTS 12 (mkC 8 4) [0,1,2,3,4,5,6,7,8,9] ?hs8 ?hf8
 case hs8=>
  refine .wn 4 _ ?_;refine .wn 4 _ ?_;refine .wn 4 _ ?_;refine .wn 4 _ ?_;refine .wn 4 _ .nil
 refine .sc 8 (w.heap.size+1) d fun f q h i=>?_;simp only[mkC,mkE];simp only[fzw,Kw.w]
 go_wp2_with fail
 exact bo1 results53 (rd_cu (by rfl) (blk_setBlk _ _ _ (by rw[i,cu_size];decide))) ⟨rfl,gr_setNew (G.trans h) (by omega)⟩
theorem mk_9(w:World):
 Cg 54 #[.agg (nw 9 (pN 9))] w (.agg (cu 0 0 (aN 9) (bN 9) (oN 9) (xN 9) (yN 9) 0 0 false)):=by
 go_enter func54,ntmps54
 go_upto_region 1 with fail
 refine gen_mk 9 w ⟨grA,⟨by simp[go_sem],by simp[go_sem],by simp[go_sem]⟩,⟨by simp[go_sem],by simp[go_sem],by simp[go_sem]⟩⟩ fun j G l d=>?_;refine wp_wTS 12 (mkC 9 4) [0,1,2,3,4,5,6,7,8,9] ?hs9 ?hf9
 case hs9=>
  refine .wn 4 _ ?_;refine .wn 4 _ ?_;refine .wn 4 _ ?_;refine .wn 4 _ ?_;refine .wn 4 _ .nil
 refine .sc 9 (w.heap.size+1) d fun f q h i=>?_;simp only[mkC,mkE];simp only[fzw,Kw.w]
 go_wp2_with fail
 exact bo1 results54 (rd_cu (by rfl) (blk_setBlk _ _ _ (by rw[i,cu_size];decide))) ⟨rfl,gr_setNew (G.trans h) (by omega)⟩
theorem mk_10(w:World):
 Cg 55 #[.agg (nw 9 (pN 10))] w (.agg (cu 0 0 (aN 10) (bN 10) (oN 10) (xN 10) (yN 10) 0 0 false)):=by
 go_enter func55,ntmps55
 go_upto_region 1 with fail
 refine gen_mk 10 w ⟨grA,⟨by simp[go_sem],by simp[go_sem],by simp[go_sem]⟩,⟨by simp[go_sem],by simp[go_sem],by simp[go_sem]⟩⟩ fun j G l d=>?_;refine wp_wTS 12 (mkC 10 5) [0,1,2,3,4,5,6,7,8,9] ?hs10 ?hf10
 case hs10=>
  refine .wn 5 _ ?_;refine .wn 5 _ ?_;refine .wn 5 _ ?_;refine .wn 5 _ ?_;refine .wn 5 _ .nil
 refine .sc 10 (w.heap.size+1) d fun f q h i=>?_;simp only[mkC,mkE];simp only[fzw,Kw.w]
 go_wp2_with fail
 exact bo1 results55 (rd_cu (by rfl) (blk_setBlk _ _ _ (by rw[i,cu_size];decide))) ⟨rfl,gr_setNew (G.trans h) (by omega)⟩
theorem mk_11(w:World):
 Cg 56 #[.agg (nw 9 (pN 11))] w (.agg (cu 0 0 (aN 11) (bN 11) (oN 11) (xN 11) (yN 11) 0 0 false)):=by
 go_enter func56,ntmps56
 go_upto_region 1 with fail
 refine gen_mk 11 w ⟨grA,⟨by simp[go_sem],by simp[go_sem],by simp[go_sem]⟩,⟨by simp[go_sem],by simp[go_sem],by simp[go_sem]⟩⟩ fun j G l d=>?_;refine wp_wTS 12 (mkC 11 6) [0,1,2,3,4,5,6,7,8,9] ?hs11 ?hf11
 case hs11=>
  refine .wn 6 _ ?_;refine .wn 6 _ ?_;refine .wn 6 _ ?_;refine .wn 6 _ ?_;refine .wn 6 _ .nil
 refine .sc 11 (w.heap.size+1) d fun f q h i=>?_;simp only[mkC,mkE];simp only[fzw,Kw.w]
 go_wp2_with fail
 exact bo1 results56 (rd_cu (by rfl) (blk_setBlk _ _ _ (by rw[i,cu_size];decide))) ⟨rfl,gr_setNew (G.trans h) (by omega)⟩
theorem mk_12(w:World):
 Cg 57 #[.agg (nw 9 (pN 12))] w (.agg (cu 0 0 (aN 12) (bN 12) (oN 12) (xN 12) (yN 12) 0 0 false)):=by
 go_enter func57,ntmps57
 go_upto_region 1 with fail
 refine gen_mk 12 w ⟨grA,⟨by simp[go_sem],by simp[go_sem],by simp[go_sem]⟩,⟨by simp[go_sem],by simp[go_sem],by simp[go_sem]⟩⟩ fun j G l d=>?_;refine wp_wTS 12 (mkC 12 8) [0,1,2,3,4,5,6,7,8,9] ?hs12 ?hf12
 case hs12=>
  refine .wn 8 _ ?_;refine .wn 8 _ ?_;refine .wn 8 _ ?_;refine .wn 8 _ ?_;refine .wn 8 _ .nil
 refine .sc 12 (w.heap.size+1) d fun f q h i=>?_;simp only[mkC,mkE];simp only[fzw,Kw.w]
 go_wp2_with fail
 exact bo1 results57 (rd_cu (by rfl) (blk_setBlk _ _ _ (by rw[i,cu_size];decide))) ⟨rfl,gr_setNew (G.trans h) (by omega)⟩
theorem mk_13(w:World):
 Cg 58 #[.agg (nw 9 (pN 13))] w (.agg (cu 0 0 (aN 13) (bN 13) (oN 13) (xN 13) (yN 13) 0 0 false)):=by
 go_enter func58,ntmps58
 go_upto_region 1 with fail
 refine gen_mk 13 w ⟨grA,⟨by simp[go_sem],by simp[go_sem],by simp[go_sem]⟩,⟨by simp[go_sem],by simp[go_sem],by simp[go_sem]⟩⟩ fun x G j l=>?_;refine wp_wTS 8 [.N (pN 13),.N (aN 13),.N (bN 13),.N (oN 13),.N (xN 13),.N (yN 13),.c (.agg (pnt (xN 13) (yN 13) false)),.c (.agg (cu 0 0 (aN 13) (bN 13) (oN 13) (xN 13) (yN 13) 0 0 false))] [0,1,2,3,4,5] ?hs13 ?hf13
 case hs13=>
  exact⟨.g 25 0 j rfl,.k _ fun f h d i=>RtW.of_c (lessN 13 (by decide +kernel) _),.k _ fun f h d i=>RtW.of_c (smlN 26 _ (by decide +kernel) (by decide) _),.k _ fun f h d i=>RtW.of_c (smlN 223 _ (by decide +kernel) (by decide) _),.k _ fun f h d i=>RtW.of_c (smlN 2 _ (by decide +kernel) (by decide) _),.k _ fun f h d i=>RtW.of_c (smlN 84 _ (by decide +kernel) (by decide) _),⟨⟩⟩
 refine .sc 13 (w.heap.size+1) l fun q A d v=>?_;simp only[fzw]
 go_wp2_with fail
 exact bo1 results58 (rd_cu (by rfl) (blk_setBlk _ _ _ (by rw[v,cu_size];decide))) ⟨rfl,gr_setNew (G.trans d) (by omega)⟩
theorem mk_14(w:World):
 Cg 59 #[.agg (nw 9 (pN 14))] w (.agg (cu 0 0 (aN 14) (bN 14) (oN 14) (xN 14) (yN 14) 0 0 false)):=by
 go_enter func59,ntmps59
 go_upto_region 1 with fail
 refine gen_mk 14 w ⟨grA,⟨by simp[go_sem],by simp[go_sem],by simp[go_sem]⟩,⟨by simp[go_sem],by simp[go_sem],by simp[go_sem]⟩⟩ fun v G x j=>?_;refine wp_wTS 7 [.N (aN 14),.N (bN 14),.N (oN 14),.N (xN 14),.N (yN 14),.c (.agg (pnt (xN 14) (yN 14) false)),.c (.agg (cu 0 0 (aN 14) (bN 14) (oN 14) (xN 14) (yN 14) 0 0 false))] [0,1,2,3,4] ?hs14 ?hf14
 case hs14=>
  exact⟨.k _ fun f h d i=>RtW.of_c (smlN 0 _ (by decide +kernel) (by decide) _),.k _ fun f h d i=>RtW.of_c (smlN 13 _ (by decide +kernel) (by decide) _),.k _ fun f h d i=>RtW.of_c (smlN 211 _ (by decide +kernel) (by decide) _),.k _ fun f h d i=>RtW.of_c (smlN 3 _ (by decide +kernel) (by decide) _),.k _ fun f h d i=>RtW.of_c (smlN 47 _ (by decide +kernel) (by decide) _),⟨⟩⟩
 refine .sc 14 (w.heap.size+1) j fun l A d q=>?_;simp only[fzw]
 go_wp2_with fail
 exact bo1 results59 (rd_cu (by rfl) (blk_setBlk _ _ _ (by rw[q,cu_size];decide))) ⟨rfl,gr_setNew (G.trans d) (by omega)⟩
theorem mk_15(w:World):
 Cg 60 #[.agg (nw 9 (pN 15))] w (.agg (cu 0 0 (aN 15) (bN 15) (oN 15) (xN 15) (yN 15) 0 0 false)):=by
 go_enter func60,ntmps60
 go_upto_region 1 with fail
 refine gen_mk 15 w ⟨grA,⟨by simp[go_sem],by simp[go_sem],by simp[go_sem]⟩,⟨by simp[go_sem],by simp[go_sem],by simp[go_sem]⟩⟩ fun v G x j=>?_;refine wp_wTS 7 [.N (aN 15),.N (bN 15),.N (oN 15),.N (xN 15),.N (yN 15),.c (.agg (pnt (xN 15) (yN 15) false)),.c (.agg (cu 0 0 (aN 15) (bN 15) (oN 15) (xN 15) (yN 15) 0 0 false))] [0,1,2,3,4] ?hs15 ?hf15
 case hs15=>
  exact⟨.k _ fun f h d i=>RtW.of_c (smlN 117 _ (by decide +kernel) (by decide) _),.k _ fun f h d i=>RtW.of_c (smlN 8 _ (by decide +kernel) (by decide) _),.k _ fun f h d i=>RtW.of_c (smlN 229 _ (by decide +kernel) (by decide) _),.k _ fun f h d i=>RtW.of_c (smlN 0 _ (by decide +kernel) (by decide) _),.k _ fun f h d i=>RtW.of_c (smlN 41 _ (by decide +kernel) (by decide) _),⟨⟩⟩
 refine .sc 15 (w.heap.size+1) j fun l A d q=>?_;simp only[fzw]
 go_wp2_with fail
 exact bo1 results60 (rd_cu (by rfl) (blk_setBlk _ _ _ (by rw[q,cu_size];decide))) ⟨rfl,gr_setNew (G.trans d) (by omega)⟩
end
section
def tabM:Array Value :=#[.nilFunc,fnT 46,fnT 47,fnT 48,fnT 49,fnT 50,fnT 51,fnT 52,fnT 53,fnT 54,fnT 55,fnT 56,fnT 57,fnT 58,fnT 59,fnT 60]
theorem tabM_size:tabM.size=16:=rfl
theorem storeTm_is:StI 92:=fun _ _=>rfl
theorem buildTm_is(p:Array (Nat×Value)):Instr.build 92 p=buildF 92 p:=rfl
theorem buildTm(w:World):(buildF 92 #[(1,.func (.func 46) #[] #[]),(2,.func (.func 47) #[] #[]),(3,.func (.func 48) #[] #[]),(4,.func (.func 49) #[] #[]),(5,.func (.func 50) #[] #[]),(6,.func (.func 51) #[] #[]),(7,.func (.func 52) #[] #[]),(8,.func (.func 53) #[] #[]),(9,.func (.func 54) #[] #[]),(10,.func (.func 55) #[] #[]),(11,.func (.func 56) #[] #[]),(12,.func (.func 57) #[] #[]),(13,.func (.func 58) #[] #[]),(14,.func (.func 59) #[] #[]),(15,.func (.func 60) #[] #[])]).run prog w=.ok (.agg tabM) w:=by kernel_rfl
theorem storeTm(w:World)(b:Nat)(hs:(blk w b).size=16)(hf:frz w b=(0,0)):(storeS 92 (.pointer (some ⟨b,0,none⟩)) (.agg tabM)).run prog w=.ok () (setBlk w b tabM):=
 storeS_run 16 (by decide) (by kernel_rfl) w b tabM rfl (by simp[tabM,fnT,Value.oneCell']) hs hf
theorem eqFn(n:Nat)(w:World):(binOp .eql 91 (.func (.func n) #[] #[]) .nilFunc).run prog w=.ok (.bool false) w:=by kernel_rfl
theorem eqFn0(w:World):(binOp .eql 91 .nilFunc .nilFunc).run prog w=.ok (.bool true) w:=by kernel_rfl
attribute [local go_sem] uz4
attribute [local go_sem ↓] storeTm_is buildTm_is zvCu_is zvEq_is storeCu_is storeEq_is loadCu_is loadEq_is buildCu_is buildEq_is buildPn_is Go.wp_at_zero Go.wp_at_succ
attribute [local go_sem] buildTm storeTm tabM_size eqFn eqFn0 zvCu zvEq storeCu storeEq loadCu loadEq loadCN storeCP buildCu0 buildEq0 buildEq1 cu_size cu_N cu_setP cu_set0 cu_set56 cu_set57 cu_set58 frz_setBlk blk_setBlk setBlk_setBlk blk_other setCell_setBlk
theorem table_any(w:World):Cg 43 #[] w (.agg tabM):=by
 go_enter func43,ntmps43
 go_wp2
 refine bo1 results43 (rd_cell 16 underlying92 rfl (by kernel_rfl) (by rfl) ?_ rfl) ⟨rfl,grA⟩;simp[go_sem]
theorem find_no(x:Int)(h:x<1∨15<x)(w:World):Cg 36 #[.int .i64 x] w (.tuple #[.agg (cu 0 0 0 0 0 0 0 0 0 false),.bool false]):=by
 have d:Hid _:=table_any;have f:tabM[0]? = some .nilFunc:=rfl
 by_cases x0:x<0
 ·clear h
  go_enter func36,ntmps36
  go_wp2_with (go_at_call 43;refine hkA d fun g=>?_)
  refine bo2 results36 (rd_eq (by rfl) ?_) ⟨rfl,grA⟩;simp[go_sem]
 ·by_cases x1:x=0
  ·subst x1
   go_enter func36,ntmps36
   go_wp2_with (go_at_call 43;refine hkA d fun g=>?_)
   refine bo2 results36 (rd_eq (by rfl) ?_) ⟨rfl,grA⟩;simp[go_sem]
  ·have i:16≤x:=by omega
   go_enter func36,ntmps36
   go_wp2_with (go_at_call 43;refine hkA d fun g=>?_)
   refine bo2 results36 (rd_eq (by rfl) ?_) ⟨rfl,grA⟩;simp[go_sem]
attribute [local go_sem] cell_blk frz_at cu_0 cu_56 cu_57 cu_58
theorem find_of(i f P A B N X Y s t:Nat)(z:Int)(b1 b7:Bool)(h1:1≤i)(h2:i≤15)(hb1:((i:Int)==1)=b1)(hb7:((i:Int)==7)=b7)(ht:tabM[i]? = some (.func (.func f) #[] #[]))(hz:((t:Int)+7)/8=z)(hs:s≤576)(ht6:t≤576)(hcf:∀w,(callFunc f #[.agg (nw 9 P)]).run prog w=.ok (.enter f #[.agg (nw 9 P)]) w)(HO':∀w,Cg 44 #[.int .i64 i] w (.tuple #[.agg (nw 9 P),.bool true]))(HM':∀w,Calls prog f #[.agg (nw 9 P)] w fun e w'=>e=.returned (.agg (cu 0 0 A B N X Y 0 0 false))∧Gr w w')(HN':∀w,Cg 45 #[.agg (nw 9 N)] w (.int .i64 s))(HP':∀w,Cg 45 #[.agg (nw 9 P)] w (.int .i64 t))(w:World):
 Cg 36 #[.int .i64 i] w (.tuple #[.agg (cu i P A B N X Y s z (b1 || b7)),.bool true]):=by
 have Z:Hid _:=table_any;have HO:Hid _:=HO';have HM:Hid _:=HM';have HN:Hid _:=HN';have HP:Hid _:=HP'
 have i0:(0:Int)≤i:=by omega
 have i1:(i:Int)<16:=by omega
 have U:Hu (((t:Int)+7)/8=z∧s≤576∧t≤576):=fun _=>⟨hz,hs,ht6⟩;have HB:Hu (((i:Int)==1)=b1∧((i:Int)==7)=b7):=fun _=>⟨hb1,hb7⟩;clear HO' HM' HN' HP' h1 h2 hz hs ht6 hb1 hb7
 go_enter func36,ntmps36
 go_upto_region 5 with (first
  | (go_at_call 43;refine hkA Z fun g1=>?_)
  | (go_at_call 44;refine hkA HO fun g2=>?_))
 obtain⟨D,I⟩:=exl (w.heap.size+1+g1.os.length);simp only[I];obtain⟨x,J⟩:=exl (D+1+g2.os.length);simp only[J]
 refine gen_w (fun v=>Hid (Gr w v∧Vr v w.heap.size (cu 0 0 0 0 0 0 0 0 0 false)∧Vr v D tabM∧Vr v x (nw 9 P))) ?_ ?_
 ·subst J I;exact⟨grA,⟨by simp[go_sem],by simp[go_sem],by simp[go_sem]⟩,⟨by simp[go_sem],by simp[go_sem],by simp[go_sem]⟩,⟨by simp[go_sem],by simp[go_sem],by simp[go_sem]⟩⟩
 intro K HV;obtain⟨G,L,c4,Q⟩:=HV.out
 have n5:w.heap.size≤x:=by omega
 have n2:¬x=w.heap.size:=by omega
 refine wp_v true [.c (.int .i64 i),.c (pv D i),.c (.func (.func f) #[] #[]),.N P,.c (.agg (cu 0 0 A B N X Y 0 0 false)),.a,.u] [1,2,3,4] [⟨5,6,65,cu 0 0 0 0 0 0 0 0 0 false,fun _=>cu 0 0 A B N X Y 0 0 false⟩] ?hs ?hv ?hf
 case hs=>
  exact⟨.s (.indexAddr 92 (.const (pv D 0)) (.const (.int .i64 i))) rfl fun V C=>by simp[go_sem,exI,i0,i1],.s (.load 91 (.const (pv D i))) rfl fun V C=>by have H4:=(c4.gr C).h;simp[go_sem,exI,H4,ht],.g 25 0 Q rfl,.kf (fun _ =>#[.agg (nw 9 P)]) (fun _=>hcf) fun yy V C hh=>RtW.of_c (Rt.c (HM.out _)),⟨⟩⟩
 case hv=>exact .cons (.mk (fun _ _ _=>rfl) (fun _ v b H F=>by dsimp only at H ⊢;simp[go_sem,exI,H,F]) (show 0<(cu 0 0 0 0 0 0 0 0 0 false).size by decide +kernel) ⟨fkc,fkc,fkc,fkc,fkc,fka,fku,trivial⟩) .nil
 intro R v C W S;simp only[fzw,Kw.a];obtain⟨⟨d,q⟩,-⟩:=S;clear W;obtain⟨G1,d2,d5⟩:Gr w v∧Vr v w.heap.size (cu 0 0 0 0 0 0 0 0 0 false)∧Vr v x (nw 9 P):=⟨G.trans C,L.gr C,Q.gr C⟩
 go_upto_region 6 with fail
 simp only[Nat.zero_add,Nat.reduceAdd];obtain⟨j,l⟩:=exl ((R 5 0).2);rw[l]at d q;rw[l]
 have m2:j≠w.heap.size:=by have:w.heap.size+1≤K.heap.size:=L.p;have:=d;omega
 have m5:j≠x:=by have:x+1≤K.heap.size:=Q.p;have:=d;omega
 have m1:w.heap.size≤j:=by have:w.heap.size+1≤K.heap.size:=L.p;have:=d;omega
 refine gen_w (fun u=>Hid (Gr w u∧Vr u w.heap.size (cu 0 0 0 0 0 0 0 0 0 false)∧Vr u x (nw 9 P)∧Vr u j (cu 0 0 A B N X Y 0 0 false))) ⟨G1,d2,d5,q⟩ ?_;intro u0 HU;obtain⟨G,⟨h2,f2,p2⟩,⟨W,f5,p5⟩,⟨h7,f7,p7⟩⟩:=HU.out;have z0:=(U.out ()).1
 have z2:(t:Int)≤576:=by have:=U.out ();omega
 obtain⟨hb1,hb7⟩:=HB.out ()
 cases b1 <;> cases b7
 all_goals
  go_wp2_with (first
   | (go_at_call_of 45 (Value.agg (nw 9 N));refine hkA HN fun g3=>?_)
   | (go_at_call_of 45 (Value.agg (nw 9 P));refine hkA HP fun g4=>?_))
  refine bo2 results36 (rd_eq (by rfl) ?_) ⟨rfl,?_⟩
  ·simp[go_sem, *]
  ·exact grB
end
section
theorem bl_576(a:Nat)(h:a<M):bl a≤576:=by exact bl_pwk a 9 h
def szN(i:Nat):Nat:=(bl (pN i)+7)/8
def lgN(i:Nat):Bool:=((i:Int)==1) || ((i:Int)==7)
abbrev cuK(k:Nat):Array Value:=cu (k:Int) (pN k) (aN k) (bN k) (oN k) (xN k) (yN k) (bl (oN k)) (szN k) (lgN k)
def cuN(i:Nat):Array Value:=cu i (pN i) (aN i) (bN i) (oN i) (xN i) (yN i) (bl (oN i)) (szN i) (lgN i)
theorem oN_bd(i:Nat):oN i<M:=by
 unfold oN
 split <;> decide +kernel
theorem pN_M(i:Nat):pN i<M:=by
 unfold pN
 split <;> decide +kernel
theorem mk_yes(i:Nat)(h1:1≤i)(h2:i≤15):∃f,tabM[i]? = some (.func (.func f) #[] #[])∧(∀w,(callFunc f #[.agg (nw 9 (pN i))]).run prog w=.ok (.enter f #[.agg (nw 9 (pN i))]) w)∧∀w,Calls prog f #[.agg (nw 9 (pN i))] w fun e w'=>e=.returned (.agg (cu 0 0 (aN i) (bN i) (oN i) (xN i) (yN i) 0 0 false))∧Gr w w':=by
 obtain rfl|rfl|rfl|rfl|rfl|rfl|rfl|rfl|rfl|rfl|rfl|rfl|rfl|rfl|rfl:i=1∨i=2∨i=3∨i=4∨i=5∨i=6∨i=7∨i=8∨i=9∨i=10∨i=11∨i=12∨i=13∨i=14∨i=15:=by omega
 all_goals refine⟨_,rfl,fun _=>by kernel_rfl,?_⟩
 ·exact mk_1
 ·exact mk_2
 ·exact mk_3
 ·exact mk_4
 ·exact mk_5
 ·exact mk_6
 ·exact mk_7
 ·exact mk_8
 ·exact mk_9
 ·exact mk_10
 ·exact mk_11
 ·exact mk_12
 ·exact mk_13
 ·exact mk_14
 ·exact mk_15
theorem find_yes(i:Nat)(h1:1≤i)(h2:i≤15)(w:World):Cg 36 #[.int .i64 i] w (.tuple #[.agg (cuN i),.bool true]):=by
 obtain⟨f,d,h,j⟩:=mk_yes i h1 h2;exact find_of i f (pN i) (aN i) (bN i) (oN i) (xN i) (yN i) (bl (oN i)) (bl (pN i)) (szN i) ((i:Int)==1) ((i:Int)==7) h1 h2 rfl rfl d (by simp[szN]) (bl_576 _ (oN_bd _)) (bl_576 _ (pN_M _)) h (of_yes i h1 h2) j (fun w=>bits_any _ (oN_bd _) w) (fun w=>bits_any _ (pN_M _) w) w
attribute [local go_sem] uz4
attribute [local go_sem ↓] zvCu_is zvEq_is storeCu_is storeEq_is loadCu_is loadEq_is loadPn_is buildCu_is buildEq_is buildPn_is Go.wp_at_zero Go.wp_at_succ
attribute [local go_sem] zvCu zvEq storeCu storeEq loadCu loadEq loadPn loadCP loadCA loadCB loadPX loadPY buildCu0 buildEq0 buildPnI cu_size cu_P cu_A cu_B pnt_size pnt_X pnt_Y frz_setBlk blk_setBlk setBlk_setBlk blk_other
theorem get13_no(x:Int)(h:x<1∨15<x)(w:World):Cg 23 #[.int .i64 x] w (.tuple #[.agg (cu 0 0 0 0 0 0 0 0 0 false),.int .i64 1300]):=by
 have d:Hid _:=find_no x h
 go_enter func23,ntmps23
 go_wp2_with (go_at_call 36;refine hkA d fun g=>?_)
 refine bo2 results23 (rd_cu (by rfl) ?_) ⟨rfl,grA⟩;simp[go_sem]
theorem get13_of(x:Int)(id:Int)(P A B N X Y:Nat)(s z:Int)(l:Bool)(HF':∀w,Cg 36 #[.int .i64 x] w (.tuple #[.agg (cu id P A B N X Y s z l),.bool true]))(w:World):
 Cg 23 #[.int .i64 x] w (.tuple #[.agg (cu id P A B N X Y s z l),.int .i64 0]):=by
 have d:Hid _:=HF'
 go_enter func23,ntmps23
 go_wp2_with (go_at_call 36;refine hkA d fun g=>?_)
 refine bo2 results23 (rd_cu (by rfl) ?_) ⟨rfl,grA⟩;simp[go_sem]
theorem get13_yes(i:Nat)(h1:1≤i)(h2:i≤15)(w:World):Cg 23 #[.int .i64 i] w (.tuple #[.agg (cuN i),.int .i64 0]):=
 get13_of i _ _ _ _ _ _ _ _ _ _ (find_yes i h1 h2) w
end
section
def hexN(l:List UInt8):Nat:=l.foldl (fun a c=>a*16+hexD c.toNat) 0
theorem hexN_snoc(l:List UInt8)(c:UInt8):hexN (l++[c])=hexN l*16+hexD c.toNat:=by
 unfold hexN;simp
theorem hexN_lt:∀(n:Nat) (l:List UInt8),l.length=n→(∀c∈l,hexOk c.toNat=true)→hexN l<2^(4*n)
 | 0,l,h,_=>by rw[List.length_eq_zero_iff.1 h];exact Nat.one_pos
 | n+1,l,h,hc=>by
  have hne:l≠[]:=fun e=>by rw[e]at h;cases h
  have e:=List.dropLast_concat_getLast hne
  have d:l.dropLast.length=n:=by rw[List.length_dropLast];omega
  have j:=hexN_lt n l.dropLast d (fun c f=>hc c (List.dropLast_subset l f));have q:=hexD_lt _ (hc (l.getLast hne) (List.getLast_mem hne));rw[←e,hexN_snoc,show 4*(n+1)=4*n+4 by omega,Nat.pow_add];have i:(2:Nat)^4=16:=rfl;rw[i]
  omega
theorem hpow32(k:Nat)(hk:k≤32):2^(32-k)*2^k=4294967296:=by
 rw[←Nat.pow_add,show 32-k+k=32 by omega]
theorem hex_step(X P d:Nat):(X*16+d)*2^(4*P)=X*2^(4*(P+1))+d*2^(4*P):=by
 grind
theorem hex_place(b q r:Nat):b*2^(4*(8*q+r))=b*2^(4*r)*pq q:=by
 unfold pq
 grind
theorem hex_dg(X q r:Nat)(hr:r<8):dg (X*2^(4*(8*q+r+1))) q=(X%2^(32-4*(r+1)))*2^(4*(r+1)):=by
 unfold dg pq;rw[show 4*(8*q+r+1)=4*(r+1)+32*q from by omega,Nat.pow_add,←Nat.mul_assoc,Nat.mul_div_cancel _ (Nat.two_pow_pos _),←hpow32 (4*(r+1)) (by omega),Nat.mul_mod_mul_right]
theorem hexd_lt(b r:Nat)(hb:b<16):b*2^(4*r)<2^(4*(r+1)):=by
 rw[show 4*(r+1)=4+4*r from by omega,Nat.pow_add];exact Nat.mul_lt_mul_of_pos_right hb (Nat.two_pow_pos _)
theorem hex_lt(X q r b:Nat)(hr:r<8)(hb:b<16):dg (X*2^(4*(8*q+r+1))) q+b*2^(4*r)<4294967296:=by
 have h:=hexd_lt b r hb;rw[hex_dg X q r hr,←hpow32 (4*(r+1)) (by omega)];have d:=Nat.mod_lt X (Nat.two_pow_pos (32-4*(r+1)));have f:(X%2^(32-4*(r+1))+1)*2^(4*(r+1))≤2^(32-4*(r+1))*2^(4*(r+1)):=Nat.mul_le_mul_right _ d;rw[Nat.add_mul]at f
 omega
theorem hex_set(N X q r b:Nat)(hr:r<8)(hb:b<16):
 (nd N (X*2^(4*(8*q+r+1)))).setIfInBounds q (Value.int .u32 ((dg (X*2^(4*(8*q+r+1))) q+b*2^(4*r):Nat):Int))=nd N ((X*16+b)*2^(4*(8*q+r))):=by
 rw[nd_dset N _ q _ (hex_lt X q r b hr hb),hex_step,hex_place];have d:=dparts (X*2^(4*(8*q+r+1))) q;generalize X*2^(4*(8*q+r+1))=V at *;refine congrArg (nd N) ?_;unfold dset;rw[Nat.add_mul];generalize V/pq (q+1)*pq (q+1)=z at *;generalize b*2^(4*r)*pq q=y at *;generalize dg V q*pq q=t at *
 omega
theorem hex_round(N X q r d t V:Nat)(hr:r<8)(hb:d<16)(ht:t=4*r)(hV:V=X*2^(4*(8*q+r+1))):
 ∃y o:Nat,IntKind.u32.wrap ((d:Int)*2^t)=(y:Int)∧bits BinOp.or IntKind.u32 ((dg V q:Nat):Int) (y:Int)=o ∧
  (nd N V).setIfInBounds q (Value.int .u32 o)=nd N ((X*16+d)*2^(4*(8*q+r))):=by
 subst ht hV;have f:=hexd_lt d r hb
 have h:2^(4*(r+1))≤4294967296:=by
  rw[←hpow32 (4*(r+1)) (by omega)];exact Nat.le_mul_of_pos_left _ (Nat.two_pow_pos _)
 refine⟨d*2^(4*r),dg (X*2^(4*(8*q+r+1))) q+d*2^(4*r),?_,?_,hex_set N X q r d hr hb⟩
 ·rw[IntKind.wrap_u32,int_pow,←Int.natCast_mul];generalize d*2^(4*r)=y at *
  omega
 ·rw[bits_or32 _ _ (dg_lt _ _) (by omega),hex_dg X q r hr,or_add _ _ _ f]
theorem rhex_any(s:ByteArray)(hs:s.size≤1000)(hc:∀c∈s.data.toList,hexOk c.toNat=true)(w:World):Calls prog 21 #[.string s] w (Nm (hexN s.data.toList) w):=by
 have h:(s.size:Int)≤1000:=by omega
 obtain⟨m,hm⟩:=exl (s.size/8);obtain⟨N,hN⟩:=exl (m+1)
 have HB:Hu (hexN s.data.toList<pq N):=fun _=>by
  have hl:s.data.toList.length=s.size:=by simp
  refine Nat.lt_of_lt_of_le (hexN_lt _ _ hl hc) ?_;unfold pq;exact Nat.pow_le_pow_right (by decide) (by omega)
 have Y:Hu (∀k (h:k<s.size),hexOk s[k].toNat=true):=fun _ k h=>hc _ (by
  have:s[k]=s.data.toList[k]'(by simpa using h):=rfl;rw[this]
  exact List.getElem_mem _)
 have m1:(s.size:Int)/8=(m:Int):=by omega
 have m2:(m:Int)+1=N:=by omega
 have HM:Hu (s.size<8*N):=fun _=>by omega
 have n0:(0:Int)≤(s.size:Int):=by omega
 have mb:(m:Int)≤200:=by omega
 have Z:Hu (0<N∧N≤50000):=fun _=>by omega
 have R:∀w,(Instr.makeSlice 29 (.int .i64 N) (.int .i64 N)).run prog w=.ok (.slice (some ⟨w.heap.size,0,none⟩) N N) (w.alloc (.cells (nd N 0) 56)):=fun w=>make_digits N (by omega) w;clear hm hN hc
 go_enter func21,ntmps21
 go_wp2
 clear R
 go_loopw [4,5] (fun i _ wr=>∃k X:Nat,k≤s.size∧i=.int .i64 k∧Hu (hexN (s.data.toList.take k)=X)∧Hid (Gr w wr∧blk wr w.heap.size=nd N (X*2^(4*(s.size-k)))∧frz wr w.heap.size=(0,0)∧Pre (w.heap.size+1) wr.heap.size)) (fun i _ _=>s.size-(intOf i).toNat)
 case atStart=>exact⟨0,0,by omega,rfl,fun _=>rfl,grA,by simp[go_sem],by simp[go_sem],by simp[go_sem]⟩
 case round=>
  obtain⟨k,X,hk,rfl,HX,L⟩:=hrel
  by_cases hlt:k<s.size
  ·obtain⟨P,hP⟩:∃P,s.size=k+(P+1):=⟨s.size-k-1,by omega⟩;obtain⟨q,r,hq,hr⟩:∃q r,P=8*q+r∧r<8:=⟨P/8,P%8,by omega,by omega⟩;obtain⟨t,ht⟩:∃t,t=4*r:=⟨_,rfl⟩
   have e1:(s.size:Int)-1-(k:Int)=P:=by omega
   have e2:(P:Int)/8=q:=by omega
   have e3:(P:Int)%8=r:=by omega
   have e4:(r:Int)*4=t:=by omega
   have d2:(P:Int).tdiv 8=(q:Int):=by rw[Int.tdiv_eq_ediv_of_nonneg (by omega)];exact e2
   have d3:(P:Int).tmod 8=(r:Int):=by rw[Int.tmod_eq_emod_of_nonneg (by omega)];exact e3
   have w2:IntKind.i64.wrap (q:Int)=q:=wiA;have w3:IntKind.i64.wrap (r:Int)=r:=wiA;have w4:IntKind.i64.wrap (t:Int)=t:=wiA
   have t0:(0:Int)≤t:=by omega
   have t1:(t:Int)<32:=by omega
   have q0:(0:Int)≤q:=by omega
   have qN:q<N:=by have:=HM.out ();omega
   have q1:(q:Int)<N:=by omega
   have p0:(0:Int)≤P:=by omega
   have k0:(0:Int)≤k:=by omega
   have k1:(k:Int)<(s.size:Int):=by omega
   obtain⟨V,A⟩:∃V,V=X*2^(4*(s.size-k)):=⟨_,rfl⟩;rw[←A]at L;have gV:=nd_get N V q qN
   have H:V=X*2^(4*(8*q+r+1)):=by rw[A,show s.size-k=8*q+r+1 by omega]
   obtain⟨d,l⟩:=exl (hexD s[k].toNat)
   have v:d<16:=by rw[←l];exact hexD_lt _ (Y.out () k hlt)
   have HD:Hid _:=l▸hexd_any s[k].toNat (Y.out () k hlt);obtain⟨y,o,f2,f3,f4⟩:=hex_round N X q r d t V hr v ht H;obtain⟨Q,I⟩:=exl ((X*16+d)*2^(4*(s.size-(k+1))))
   have HS:Hu ((nd N V).setIfInBounds q (Value.int .u32 o)=nd N Q):=fun _=>by
    rw[f4,←I,show s.size-(k+1)=8*q+r by omega]
   have S:Hu (hexN (s.data.toList.take (k+1))=X*16+d):=fun _=>by rw[take_snoc s k hlt,hexN_snoc,HX.out (),l]
   obtain⟨G,B,J,C⟩:=L.out;have aa:s.data.size=s.size:=rfl;clear A H ht hq hr hs hk hP f4 l v
   go_wp2
   have D:Vr wr w.heap.size (nd N V):=⟨B,J,C⟩;have U:=HS.out ();refine wp_wT 18 [.c (.slice (some ⟨w.heap.size,0,none⟩) N N),.c (.int .i64 P),.c (.int .i64 q),.c (.slice (some ⟨w.heap.size,0,none⟩) N N),.c (.int .i64 P),.c (.int .i64 q),.c (pv (w.heap.size) q),.c (.int .u32 ((dg V q:Nat):Int)),.c (.string s),.c (.int .i64 k),.c (.int .u8 ((s[k].toNat:Nat):Int)),.c (.int .u32 d),.c (.int .i64 P),.c (.int .i64 r),.c (.int .i64 t),.c (.int .u32 y),.c (.int .u32 o),.c (pv (w.heap.size) q)] [2,5,6,7,10,11,13,14,15,16,17] ⟨.s (.binOp .quo 3 (.const (.int .i64 P)) (.const (.int .i64 8)) 3) rfl fun x j=>by simp[go_sem,exI, *],.s (.binOp .quo 3 (.const (.int .i64 P)) (.const (.int .i64 8)) 3) rfl fun x j=>by simp[go_sem,exI, *],.s (.indexAddr 29 (.const (.slice (some ⟨w.heap.size,0,none⟩) N N)) (.const (.int .i64 q))) rfl fun x j=>by simp[go_sem,exI, *],.o 56 q D rfl (by exact gV),.s (.index 9 (.const (.string s)) (.const (.int .i64 k))) rfl fun x j=>by simp[go_sem,exI, *],.y HD.out,.s (.binOp .rem 3 (.const (.int .i64 P)) (.const (.int .i64 8)) 3) rfl fun x j=>by simp[go_sem,exI, *],.s (.binOp .mul 3 (.const (.int .i64 r)) (.const (.int .i64 4)) 3) rfl fun x j=>by simp[go_sem,exI, *],.s (.binOp .shl 56 (.const (.int .u32 d)) (.const (.int .i64 t)) 3) rfl fun x j=>by simp[go_sem,exI, *],.s (.binOp .or 56 (.const (.int .u32 ((dg V q:Nat):Int))) (.const (.int .u32 y)) 56) rfl fun x j=>by simp[go_sem,exI, *],.s (.indexAddr 29 (.const (.slice (some ⟨w.heap.size,0,none⟩) N N)) (.const (.int .i64 q))) rfl fun x j=>by simp[go_sem,exI, *],⟨⟩⟩ (.s 56 (fun yy=>pv (w.heap.size) q) (fun yy=>.int .u32 o) fun ab v1 j h6=>?_);have HT:=(D.gr j).h;have FT:=(D.gr j).f;refine⟨setBlk v1 (w.heap.size) (nd N Q),by simp[go_sem,exI,HT,cell_blk,gV,frz_at _ _ _ FT,setCell_setBlk,U],?_⟩;simp only[fzw];clear h6;replace G:=G.trans j;replace D:=D.gr j;clear j;have W:=D.set (by rw[nd_size];omega) (nd N Q);have G2:=gr_setNew (d:=nd N Q) G (Nat.le_refl _)
   go_wp2
   go_roundw
   case rel=>exact⟨k+1,X*16+d,by omega,by go_num,S,G2,by rw[I];exact W.h,W.f,W.p⟩
   case measure=>simp[intOf];omega
  ·have K:Hu (k=s.size):=fun _=>by omega
   obtain⟨V,A⟩:∃V,V=X*2^(4*(s.size-k)):=⟨_,rfl⟩;rw[←A]at L
   have HF:Hu (V=hexN s.data.toList):=fun _=>by
    rw[A,K.out (),Nat.sub_self,Nat.mul_zero,Nat.pow_zero,Nat.mul_one,←HX.out (),K.out (),List.take_of_length_le (by simp)]
   have HV:Hu (V<pq N):=fun _=>by rw[HF.out ()];exact HB.out ()
   have ac:¬(k:Int)<(s.size:Int):=by omega
   obtain⟨G,B,J,C⟩:=L.out;have HR:Hu (_):=fun _=>rshr0_nd V N w.heap.size wr B C (HV.out ()) (Z.out ()).1 (Z.out ()).2;clear A hlt hk hs
   go_wp2_with (go_at_call 35;refine(HR.out ()).mono ?_;rintro e w' ⟨p1,n1,rfl,S1,G1⟩)
   go_ret
   rw[←HF.out ()];exact⟨p1,n1,rfl,S1,G.trans G1⟩
end
section
def bslQ(t:TypeId)(n:Nat)(p:Array (Nat×Value)):Sem Value:=Instr.buildSlice t n p
theorem bslQ_is(n:Nat)(p:Array (Nat×Value)):Instr.buildSlice 59 n p=bslQ 59 n p:=rfl
theorem bslQ6(a b c d e f:ByteArray)(w:World):(bslQ 59 6 #[(0,.string a),(1,.string b),(2,.string c),(3,.string d),(4,.string e),(5,.string f)]).run prog w=.ok (.slice (some ⟨w.heap.size,0,none⟩) 6 6) (w.alloc (.cells #[.string a,.string b,.string c,.string d,.string e,.string f] 9)):=by kernel_rfl
attribute [local go_sem ↓] bslQ_is
attribute [local go_sem] bslQ6
def hxB(X n:Nat):ByteArray:=⟨((List.range n).map fun i=>UInt8.ofNat (let d:=X/16^(n-1-i)%16;if d<10 then 48+d else 87+d)).toArray⟩
def rsL:List (List Nat):=[[],[48,0,48,48,48,48],[56,0,56,56,56,56],[64,0,64,64,64,64],[96,0,96,96,96,96],[132,0,132,132,132,132],[64,1,1,64,64,64],[40,40,40,40,40,40],[56,56,56,56,56,56],[64,64,64,64,64,64],[80,80,80,80,80,80],[96,96,96,96,96,96],[128,128,128,128,128,128],[2,0,2,2,1,2],[2,1,1,2,1,2],[2,2,1,2,1,2]]
def rsN(i j:Nat):ByteArray:=match (rsL.getD i []).getD j 0 with|0=>⟨#[45]⟩|n=>hxB ([pN i,aN i,bN i,oN i,xN i,yN i].getD j 0) n
def rowA(i:Nat):Array Value :=#[.string (rsN i 0),.string (rsN i 1),.string (rsN i 2),.string (rsN i 3),.string (rsN i 4),.string (rsN i 5)]
theorem row_yes(i:Nat)(h1:1≤i)(h2:i≤15)(w:World):Calls prog 20 #[.int .i64 i] w fun e w'=>∃b,e=.returned (.slice (some ⟨b,0,none⟩) 6 6)∧blk w' b=rowA i∧Pre (b+1) w'.heap.size∧Gr w w':=by
 obtain rfl|rfl|rfl|rfl|rfl|rfl|rfl|rfl|rfl|rfl|rfl|rfl|rfl|rfl|rfl:i=1∨i=2∨i=3∨i=4∨i=5∨i=6∨i=7∨i=8∨i=9∨i=10∨i=11∨i=12∨i=13∨i=14∨i=15:=by omega
 all_goals
  go_enter func20,ntmps20
  go_wp2
  go_ret
  exact⟨w.heap.size,rfl,by rw[blk_alloc_at _ _ _ _ _ rfl];kernel_rfl,by simp[go_sem],grA⟩
theorem row_no(x:Int)(h:x<1∨15<x)(w:World):Cg 20 #[.int .i64 x] w (.slice none 0 0):=by
 go_enter func20,ntmps20
 go_wp2
 go_ret
 exact⟨rfl,grA⟩
end
end
section
theorem loadC_is:LdI 31:=fun _=>rfl
theorem storeC_is:StI 31:=fun _ _=>rfl
theorem loadC:LdS 31 7:=ldS
def crA(id:Int)(x:Nat→Nat)(q:Nat→Option Addr×Nat):Array Value :=#[.int .i64 id,.slice (q 0).1 (dl (x 0)) (q 0).2,.slice (q 1).1 (dl (x 1)) (q 1).2,.slice (q 2).1 (dl (x 2)) (q 2).2,.slice (q 3).1 (dl (x 3)) (q 3).2,.slice (q 4).1 (dl (x 4)) (q 4).2,.slice (q 5).1 (dl (x 5)) (q 5).2]
def six{α:Type}(a b c d e f:α):Nat→α
 | 0=>a
 | 1=>b
 | 2=>c
 | 3=>d
 | 4=>e
 | _=>f
theorem storeC0(w:World)(b:Nat)(hs:(blk w b).size=7)(hf:frz w b=(0,0)):
 (storeS 31 (.pointer (some ⟨b,0,none⟩)) (.agg #[.int .i64 0,.slice none 0 0,.slice none 0 0,.slice none 0 0,.slice none 0 0,.slice none 0 0,.slice none 0 0])).run prog w=.ok () (setBlk w b #[.int .i64 0,.slice none 0 0,.slice none 0 0,.slice none 0 0,.slice none 0 0,.slice none 0 0,.slice none 0 0]):=
 storeS_run 7 (by decide) (by kernel_rfl) w b _ rfl (by simp[Value.oneCell']) hs hf
def buildG(t:TypeId)(p:Array (Nat×Value)):Sem Value:=Instr.build t p
theorem buildC_is(p:Array (Nat×Value)):Instr.build 31 p=buildG 31 p:=rfl
theorem buildC0(w:World):(buildG 31 #[]).run prog w=.ok (.agg #[.int .i64 0,.slice none 0 0,.slice none 0 0,.slice none 0 0,.slice none 0 0,.slice none 0 0,.slice none 0 0]) w:=by kernel_rfl
theorem eqSl(b:Nat)(w:World):(binOp .eql 59 (.slice (some ⟨b,0,none⟩) 6 6) (.slice none 0 0)).run prog w=.ok (.bool false) w:=by kernel_rfl
theorem eqSl0(w:World):(binOp .eql 59 (.slice none 0 0) (.slice none 0 0)).run prog w=.ok (.bool true) w:=by kernel_rfl
theorem crA_one(id:Int)(x:Nat→Nat)(q:Nat→Option Addr×Nat):(crA id x q).all (·.oneCell')=true:=by simp[crA,Value.oneCell']
theorem storeCr(w:World)(b:Nat)(id:Int)(x:Nat→Nat)(q:Nat→Option Addr×Nat)(hs:(blk w b).size=7)(hf:frz w b=(0,0)):
 (storeS 31 (.pointer (some ⟨b,0,none⟩)) (.agg (crA id x q))).run prog w=.ok () (setBlk w b (crA id x q)):=
 storeS_run 7 (by decide) (by kernel_rfl) w b _ rfl (crA_one id x q) hs hf
theorem crA_size(id:Int)(x:Nat→Nat)(q:Nat→Option Addr×Nat):(crA id x q).size=7:=rfl
end
section
attribute [local go_sem ↓] uz1
attribute [local go_sem] uz2
section
def Kw.cb(id:Int)(x:Nat→Nat):Kw:=⟨fun y=>.agg (crA id x y),fun y w=>∀j,Sl w (y j).1 (x j),fun _ _ _ h g j=>(h j).gr g,0,fun h=>absurd rfl h,fun h=>absurd h (by decide)⟩
theorem fkcb{z:Array Value}{id:Int}{x:Nat→Nat}(h:Blank z):FarK z (.cb id x):=fun _ _ _ _ e k j=>Sl.set (k j) (e▸h)
theorem bCr(id:Int)(x:Nat→Nat)(q:Nat→Option Addr×Nat):Blank (crA id x q):=by
 intro i n h
 match i,h with
 | 0,h=>simp[crA]at h
 | 1,h=>simp[crA]at h
 | 2,h=>simp[crA]at h
 | 3,h=>simp[crA]at h
 | 4,h=>simp[crA]at h
 | 5,h=>simp[crA]at h
 | 6,h=>simp[crA]at h
 | k+7,h=>simp[crA]at h
theorem bZ7:Blank #[.int .i64 0,.slice none 0 0,.slice none 0 0,.slice none 0 0,.slice none 0 0,.slice none 0 0,.slice none 0 0]:=bCr 0 (fun _=>0) (fun _=>(none,0))
theorem sl_lit(c:Nat)(hc:c<pq 1)(w:World):Sl (w.alloc (.cells (nd 1 c) 56)) (some ⟨w.heap.size,0,none⟩) c:=Sl.of_blk (n:=1) (by simp[Pre]) (blk_alloc_at _ _ _ _ _ rfl) hc
theorem crA_1(id:Int)(x:Nat→Nat)(q:Nat→Option Addr×Nat):(crA id x q)[2]? = some (.slice (q 1).1 (dl (x 1)) (q 1).2):=rfl
theorem crA_set(id:Int)(x0 y x1 x2 x3 x4 x5:Nat)(q:Nat→Option Addr×Nat)(p:Option Addr)(n:Nat):(crA id (six x0 y x2 x3 x4 x5) q).setIfInBounds 2 (.slice p (dl x1) n)=crA id (six x0 x1 x2 x3 x4 x5) (fun j=>match j with|1=>(p,n)|j=>q j):=rfl
attribute [local go_sem ↓] loadC_is storeC_is buildC_is bsl_is Go.wp_at_zero Go.wp_at_succ
attribute [local go_sem] eqSl eqSl0 loadC storeC0 storeCr buildC0 crA_size frz_setBlk blk_setBlk setBlk_setBlk blk_other
theorem get_of(id:Int)(s0 s1 s2 s3 s4 s5:ByteArray)(x0 x1 x2 x3 x4 x5:Nat)(HR:∀w,Calls prog 20 #[.int .i64 id] w fun e w'=>∃b,e=.returned (.slice (some ⟨b,0,none⟩) 6 6)∧blk w' b =#[.string s0,.string s1,.string s2,.string s3,.string s4,.string s5]∧Pre (b+1) w'.heap.size∧Gr w w')(H0:∀w,Calls prog 21 #[.string s0] w (Nm x0 w))(H2:∀w,Calls prog 21 #[.string s2] w (Nm x2 w))(H3:∀w,Calls prog 21 #[.string s3] w (Nm x3 w))(H4:∀w,Calls prog 21 #[.string s4] w (Nm x4 w))(H5:∀w,Calls prog 21 #[.string s5] w (Nm x5 w))(h1:(s1=⟨#[45]⟩∧3≤x0∧dl x0≤50000∧x0-3=x1)∨((s1.toList == [45])=false∧∀w,Calls prog 21 #[.string s1] w (Nm x1 w)))(w:World):
 Calls prog 7 #[.int .i64 id] w fun e w'=>∃q,e=.returned (.tuple #[.agg (crA id (six x0 x1 x2 x3 x4 x5) q),.bool true])∧(∀k,Sl w' (q k).1 (six x0 x1 x2 x3 x4 x5 k))∧Gr w w':=by
 have R:Hid _:=HR;have aa:Hid _:=H0;have ab:Hid _:=H2;have ac:Hid _:=H3;have ad:Hid _:=H4;have ae:Hid _:=H5;clear HR H0 H2 H3 H4 H5
 go_enter func7,ntmps7
 go_upto_region 4 with (go_at_call 20;refine(R.out _).mono ?_;rintro e W1 ⟨x,rfl,J,K,G1⟩)
 refine gen_w (fun v=>Hid (Gr w v∧Vr v w.heap.size #[.int .i64 0,.slice none 0 0,.slice none 0 0,.slice none 0 0,.slice none 0 0,.slice none 0 0,.slice none 0 0]∧blk v x =#[.string s0,.string s1,.string s2,.string s3,.string s4,.string s5]∧Pre (x+1) v.heap.size)) ⟨((Gr.refl _).alloc _).trans G1,(Vr.new w _ _).gr G1,J,K⟩ ?_;clear J K G1 R;intro v0 HV;obtain⟨G,D,J,K⟩:=HV.out
 have Q:∀(j:Nat) (s:Value),(#[.string s0,.string s1,.string s2,.string s3,.string s4,.string s5])[j]? = some s→∀vv,Gr v0 vv→vv.cell? ⟨x,j,none⟩=some s:=fun j s h vv g=>by rw[cell_blk,g.blk _ K,J];exact h
 clear HV;refine wp_v true [.c (.int .i64 id),.c (.slice (some ⟨x,0,none⟩) 6 6),.c (pv x 0),.c (.string s0),.n x0,.c (.slice (some ⟨x,0,none⟩) 6 6),.c (pv x 2),.c (.string s2),.n x2,.c (.slice (some ⟨x,0,none⟩) 6 6),.c (pv x 3),.c (.string s3),.n x3,.c (.slice (some ⟨x,0,none⟩) 6 6),.c (pv x 4),.c (.string s4),.n x4,.c (.slice (some ⟨x,0,none⟩) 6 6),.c (pv x 5),.c (.string s5),.n x5,.cb id (six x0 0 x2 x3 x4 x5),.a,.u] [3,4,7,8,11,12,15,16,19,20,21] [⟨22,23,31, #[.int .i64 0,.slice none 0 0,.slice none 0 0,.slice none 0 0,.slice none 0 0,.slice none 0 0,.slice none 0 0],fun l=>crA id (six x0 0 x2 x3 x4 x5) (l 21)⟩] ?hs ?hv ?hf
 case hs=>
  exact⟨.s (.load 9 (.const (pv x 0))) rfl fun vv i=>by simp[go_sem,exI,Q 0 _ rfl vv i],.k _ fun l vv i I=>RtW.of_n (Rt.n (aa.out _)),.s (.load 9 (.const (pv x 2))) rfl fun vv i=>by simp[go_sem,exI,Q 2 _ rfl vv i],.k _ fun l vv i I=>RtW.of_n (Rt.n (ab.out _)),.s (.load 9 (.const (pv x 3))) rfl fun vv i=>by simp[go_sem,exI,Q 3 _ rfl vv i],.k _ fun l vv i I=>RtW.of_n (Rt.n (ac.out _)),.s (.load 9 (.const (pv x 4))) rfl fun vv i=>by simp[go_sem,exI,Q 4 _ rfl vv i],.k _ fun l vv i I=>RtW.of_n (Rt.n (ad.out _)),.s (.load 9 (.const (pv x 5))) rfl fun vv i=>by simp[go_sem,exI,Q 5 _ rfl vv i],.k _ fun l vv i I=>RtW.of_n (Rt.n (ae.out _)),.p (fun l j=>match j with|0=>l 4 0|1=>(none,0)|2=>l 8 0|3=>l 12 0|4=>l 16 0|_=>l 20 0) fun l vv i I j=>match j with|0=>I 4 rfl|1=>Sl.zero _ _|2=>I 8 rfl|3=>I 12 rfl|4=>I 16 rfl|_+5=>I 20 rfl,⟨⟩⟩
 case hv=>
  refine .cons (.mk (fun _ _ h=>Value.agg.inj (h 21 rfl)) (fun _ v b H F=>by dsimp only at H ⊢;simp[go_sem,exI,H,F]) (by show 0<7;decide) ⟨fkc,fkc,fkc,fkc,fkn bZ7,fkc,fkc,fkc,fkn bZ7,fkc,fkc,fkc,fkn bZ7,fkc,fkc,fkc,fkn bZ7,fkc,fkc,fkc,fkn bZ7,fkcb bZ7,fka,fku,trivial⟩) .nil
 intro d v1 Y h4 af;simp only[fzw,Kw.a,Kw.cb];have A:=h4 21;obtain⟨⟨N5,B⟩,-⟩:(v0.heap.size≤(d 22 0).2∧Vr v1 (d 22 0).2 (crA id (six x0 0 x2 x3 x4 x5) (d 21)))∧True:=af
 have ai:w.heap.size<(d 22 0).2:=by have:w.heap.size+1≤v0.heap.size:=D.p;omega
 clear h4 N5;replace G:=G.trans Y;replace D:=D.gr Y;have ah:=Q 1 _ rfl v1 Y
 rcases h1 with ⟨rfl,h3,hd,hx1⟩|⟨hs1,H1⟩
 ·have S:∀w,(bslS 29 1 #[(0,.int .u32 3)]).run prog w=.ok (.slice (some ⟨w.heap.size,0,none⟩) 1 1) (w.alloc (.cells (nd 1 3) 56)):=fun w=>build1 3 (by decide) w
  go_upto_region 6 with fail
  refine wp_wTS 5 [.c (pv ((d 22 0).2) 1),.c (.slice (d 21 0).1 (dl (x0)) (d 21 0).2),.n (3),.n (x1),.c (pv ((d 22 0).2) 2)] [1,2,3] ⟨.o 29 1 B rfl rfl,.b (.buildSlice 29 1 #[(0,.const (.int .u32 3))]) rfl rfl (fun vv=>by simp[go_sem,exI,S];rfl) (sl_lit 3 (by decide)),.k (fun l =>#[.slice (d 21 0).1 (dl (x0)) (d 21 0).2,.slice (l 2 0).1 (dl (3)) (l 2 0).2]) fun l vv i I=>RtW.of_n (Rt.n (hx1▸rsub_any x0 3 _ _ _ _ _ ((A 0).gr i) (I 2 rfl) (by omega) (by omega))),⟨⟩⟩ (.s 29 (fun l=>pv ((d 22 0).2) 2) (fun l=>.slice (l 3 0).1 (dl (x1)) (l 3 0).2) fun L U i h6=>?_);have C:=(B.gr i).h;have Z:=(B.gr i).f;refine⟨setBlk U ((d 22 0).2) (crA id (six x0 x1 x2 x3 x4 x5) (fun j=>match j with|1=>L 3 0|j=>d 21 j)),by simp[go_sem,exI,C,cell_blk,frz_at _ _ _ Z,setCell_setBlk,crA_1,crA_set],?_⟩;simp only[fzw];have V:Sl U (L 3 0).1 (x1):=h6 3;clear h6;replace G:=G.trans i;replace B:=B.gr i;replace D:=D.gr i;replace A:=fun k=>(A k).gr i;clear i
  go_upto_region 8 with fail
  refine gen_w (fun u=>Gr w u∧Vr u w.heap.size #[.int .i64 0,.slice none 0 0,.slice none 0 0,.slice none 0 0,.slice none 0 0,.slice none 0 0,.slice none 0 0]∧Vr u (d 22 0).2 (crA id (six x0 x1 x2 x3 x4 x5) (fun j=>match j with|1=>L 3 0|j=>d 21 j))∧∀j,Sl u ((fun j=>match j with|1=>L 3 0|j=>d 21 j) j).1 (six x0 x1 x2 x3 x4 x5 j)) ⟨gr_setNew G (by omega),D.other (by omega),B.set (by rw[crA_size];decide) _,fun j=>match j with|0=>Sl.set (A 0) (by rw[C];exact bCr _ _ _)|1=>Sl.set V (by rw[C];exact bCr _ _ _)|2=>Sl.set (A 2) (by rw[C];exact bCr _ _ _)|3=>Sl.set (A 3) (by rw[C];exact bCr _ _ _)|4=>Sl.set (A 4) (by rw[C];exact bCr _ _ _)|j+5=>Sl.set (A (j+5)) (by rw[C];exact bCr _ _ _)⟩ ?_;clear G D B A C Z;rintro u ⟨G,D,B,A⟩;have⟨W,f2,p2⟩:=D;have⟨h5,f5,p5⟩:=B
  have aj:¬w.heap.size=(d 22 0).2:=by omega
  go_wp2_with fail
  refine bo2 results7 (rd_cell 7 underlying31 rfl (by kernel_rfl) (by rfl) ?_ rfl) ⟨_,rfl,fun j=>Sl.set (A j) (by rw[W];exact bZ7),gr_setNew G (Nat.le_refl _)⟩;simp[go_sem,W]
 ·have ag:Hid _:=H1;clear H1
  go_upto_region 7 with fail
  refine wp_wTS 5 [.c (.slice (some ⟨x,0,none⟩) 6 6),.c (pv x 1),.c (.string s1),.n (x1),.c (pv ((d 22 0).2) 2)] [2,3] ⟨.s (.load 9 (.const (pv x 1))) rfl fun vv i=>by simp[go_sem,exI,Q 1 _ rfl vv (Y.trans i)],.k _ fun l vv i I=>RtW.of_n (Rt.n (ag.out _)),⟨⟩⟩ (.s 29 (fun l=>pv ((d 22 0).2) 2) (fun l=>.slice (l 3 0).1 (dl (x1)) (l 3 0).2) fun P U i h7=>?_);have C:=(B.gr i).h;have Z:=(B.gr i).f;refine⟨setBlk U ((d 22 0).2) (crA id (six x0 x1 x2 x3 x4 x5) (fun j=>match j with|1=>P 3 0|j=>d 21 j)),by simp[go_sem,exI,C,cell_blk,frz_at _ _ _ Z,setCell_setBlk,crA_1,crA_set],?_⟩;simp only[fzw];have X:Sl U (P 3 0).1 (x1):=h7 3;clear h7;replace G:=G.trans i;replace B:=B.gr i;replace D:=D.gr i;replace A:=fun k=>(A k).gr i
  go_upto_region 8 with fail
  refine gen_w (fun u=>Gr w u∧Vr u w.heap.size #[.int .i64 0,.slice none 0 0,.slice none 0 0,.slice none 0 0,.slice none 0 0,.slice none 0 0,.slice none 0 0]∧Vr u (d 22 0).2 (crA id (six x0 x1 x2 x3 x4 x5) (fun j=>match j with|1=>P 3 0|j=>d 21 j))∧∀j,Sl u ((fun j=>match j with|1=>P 3 0|j=>d 21 j) j).1 (six x0 x1 x2 x3 x4 x5 j)) ⟨gr_setNew G (by omega),D.other (by omega),B.set (by rw[crA_size];decide) _,fun j=>match j with|0=>Sl.set (A 0) (by rw[C];exact bCr _ _ _)|1=>Sl.set X (by rw[C];exact bCr _ _ _)|2=>Sl.set (A 2) (by rw[C];exact bCr _ _ _)|3=>Sl.set (A 3) (by rw[C];exact bCr _ _ _)|4=>Sl.set (A 4) (by rw[C];exact bCr _ _ _)|j+5=>Sl.set (A (j+5)) (by rw[C];exact bCr _ _ _)⟩ ?_;rintro u ⟨G,D,B,A⟩;have⟨W,f2,p2⟩:=D;have⟨h5,f5,p5⟩:=B
  go_wp2_with fail
  refine bo2 results7 (rd_cell 7 underlying31 rfl (by kernel_rfl) (by rfl) ?_ rfl) ⟨_,rfl,fun j=>Sl.set (A j) (by rw[W];exact bZ7),gr_setNew G (Nat.le_refl _)⟩;simp[go_sem,W]
end
section
theorem hex_of(s:ByteArray)(x:Nat)(h:(Nat.ble s.size 1000&&s.data.toList.all fun c=>hexOk c.toNat)=true)(e:hexN s.data.toList=x)(w:World):Calls prog 21 #[.string s] w (Nm x w):=by
 rw[Bool.and_eq_true]at h;have:=rhex_any s (Nat.le_of_ble_eq_true h.1) (fun c d=>List.all_eq_true.1 h.2 c d) w;rw[e]at this;exact this
def nN(i:Nat):Nat→Nat:=six (pN i) (aN i) (bN i) (oN i) (xN i) (yN i)
def GetQ(i:Nat)(w:World)(e:Ending)(w':World):Prop:=∃q,e=.returned (.tuple #[.agg (crA (i:Int) (nN i) q),.bool true])∧(∀k,Sl w' (q k).1 (nN i k))∧Gr w w'
theorem getq_yes(i:Nat)(h1:1≤i)(h2:i≤15)(w:World):Calls prog 7 #[.int .i64 i] w (GetQ i w):=by
 obtain rfl|rfl|rfl|rfl|rfl|rfl|rfl|rfl|rfl|rfl|rfl|rfl|rfl|rfl|rfl:i=1∨i=2∨i=3∨i=4∨i=5∨i=6∨i=7∨i=8∨i=9∨i=10∨i=11∨i=12∨i=13∨i=14∨i=15:=by omega
 all_goals exact get_of _ (rsN _ 0) (rsN _ 1) (rsN _ 2) (rsN _ 3) (rsN _ 4) (rsN _ 5) (pN _) (aN _) (bN _) (oN _) (xN _) (yN _) (row_yes _ h1 h2) (hex_of _ _ (by decide +kernel) (by decide +kernel)) (hex_of _ _ (by decide +kernel) (by decide +kernel)) (hex_of _ _ (by decide +kernel) (by decide +kernel)) (hex_of _ _ (by decide +kernel) (by decide +kernel)) (hex_of _ _ (by decide +kernel) (by decide +kernel)) (by first|exact .inl ⟨rfl,by decide +kernel,by decide +kernel,by decide +kernel⟩|exact .inr ⟨by decide +kernel,(hex_of _ _ (by decide +kernel) (by decide +kernel))⟩) w
attribute [local go_sem ↓] loadC_is storeC_is buildC_is
attribute [local go_sem] eqSl0 loadC storeC0 buildC0 frz_setBlk blk_setBlk setBlk_setBlk
theorem get_no(x:Int)(h:x<1∨15<x)(w:World):Cg 7 #[.int .i64 x] w (.tuple #[.agg #[.int .i64 0,.slice none 0 0,.slice none 0 0,.slice none 0 0,.slice none 0 0,.slice none 0 0,.slice none 0 0],.bool false]):=by
 have d:Hid _:=row_no x h
 go_enter func7,ntmps7
 go_wp2_with (go_at_call 20;refine hkA d fun g=>?_)
 refine bo2 results7 (rd_cell 7 underlying31 rfl (by kernel_rfl) (by rfl) ?_ rfl) ⟨rfl,grA⟩;simp[go_sem]
end
end
section
def chkY(l:List Oper)(kp:List Kw)(rw:List Nat)(st:List Ent):Bool:=
 ((List.range l.length).all fun j=>rw.contains j || (st.map Ent.j).contains j || (kW kp j).cst != 0)&&(rw.all fun j => !(st.map Ent.j).contains j && !(st.map Ent.i).contains j)
theorem wp_y{P:Program}{l:List Oper}{Q:Exit→Act→World→Prop}{a0:Act}{W:World}(d:Bool){id:Nat}(kp:List Kw)(ex rw:List Nat)(st:List Ent)(ho:ObsW P l kp a0 W ex)(hr:ForY (ObR P l kp a0) rw)(hv:ForY (ObY P l kp a0) st)(hfin:∀x v,Gr W v→(∀j,(kW kp j).ok (x j) v)→NewV W x v st→Q .normal (FW l kp a0 x) v)(hm:(!d || P.follows .mixedOrders)=true:=by kernel_rfl)(hk:(chkW l kp (ExV (ex++rw) st) l.length&&chkV st&&chkY l kp rw st)=true:=by kernel_rfl)(hp:pureL P l kp a0 (ExV (ex++rw) st) l.length=pureR kp (ExV (ex++rw) st) l.length:=by kernel_rfl):(Code.region id l.toArray d).wp P Q a0 W:=by
 rw[Bool.and_eq_true]at hk;obtain⟨hk,D⟩:=hk;simp only[chkY,Bool.and_eq_true,List.all_eq_true,Bool.not_eq_true',List.mem_range]at D;obtain⟨q,A⟩:=D
 refine wp_g d kp ex rw st ho hr (fun e i=>hv.at e i) (fun e i j B=>?_) (fun j B e i=>?_) hfin hm hk hp
 ·have f:=q j B;simp only[Bool.or_eq_true,bne_iff_ne,ne_eq]at f
  rcases f with (f|f)|f
  ·exact .inl (List.contains_iff_mem.1 f)
  ·obtain⟨I,C,rfl⟩:=List.mem_map.1 (List.contains_iff_mem.1 f);rw[(hv.at I C).ka];exact .inr fka
  ·exact .inr fun y w b d _ _=>(kW kp j).hc f _ _
 ·obtain⟨G,H⟩:=A j B
  refine⟨fun h=>?_,fun h=>?_⟩
  ·rw[List.contains_iff_mem.2 (h▸List.mem_map_of_mem i)]at G
   cases G
  ·rw[List.contains_iff_mem.2 (h▸List.mem_map_of_mem i)]at H
   cases H
end
section
theorem dl_M(a:Nat)(ha:a<M):dl a≤18:=(dl_le _ 18).2 (by rw[pq_M];exact ha)
def idx(id:Int):Nat:=(IntKind.u64.wrap id).toNat%15+1
theorem idx_bd(id:Int):1≤idx id∧idx id≤15:=by unfold idx;omega
theorem idx_conv(id:Int):∃u:Nat,IntKind.u64.wrap id=(u:Int)∧(u:Int)<18446744073709551616∧(u:Int)%15+1=(idx id:Int):=by
 have h:0≤IntKind.u64.wrap id∧IntKind.u64.wrap id<18446744073709551616:=by rw[IntKind.wrap_u64];omega
 refine⟨(IntKind.u64.wrap id).toNat,?_,?_,?_⟩
 ·omega
 ·omega
 ·unfold idx;omega
end
end Go.Proofs.Ytonbpnbhjghfbaa