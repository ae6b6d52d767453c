import Derived.Test.YtiigakdbabijhaaGreatXAFB
import Derived.Test.YtiigakdbabijhaaGreatXARSub
import Derived.Test.YtiigakdbabijhaaGreatXAMixQ
import Derived.Test.YtiigakdbabijhaaGreatXAQt
namespace Go.Proofs.YtiigakdbabijhaaGreat
open Go.RowKit Go.Proofs.Tryz
set_option maxRecDepth 100000
set_option maxHeartbeats 8000000
section
def mvN(a f:Nat):Nat:=a+f*M
theorem mv_lo(a f:Nat)(ha:a<M):nw 9 (mvN a f)=nw 9 a:=by
 grind [nw_mod,mvN,nw,M,Nat.add_mul_mod_self_right,Nat.mod_eq_of_lt]
theorem mv_hi(a f:Nat)(ha:a<M):nw 9 (mvN a f/pw 9)=nw 9 f:=by
 refine congrArg (nw 9) ?_
 show (a+f*M)/M=f
 rw[Nat.add_mul_div_right _ _ M_pos,Nat.div_eq_of_lt ha,Nat.zero_add]
theorem ext_lo(X:Nat):(nw 18 X).extract 0 9=nw 9 X:=by
 apply Array.ext_getElem?
 intro j
 by_cases hj:j<9
 ·rw[nw_get 9 X j hj,Array.getElem?_extract,if_pos (by rw[nw_size];omega),Nat.zero_add,nw_get 18 X j (by omega)]
 ·rw[Array.getElem?_eq_none (by simp[nw_size];omega),Array.getElem?_eq_none (by rw[nw_size];omega)]
theorem wd_div(X k j:Nat):wd (X/pw k) j=wd X (k+j):=by
 unfold wd;rw[Nat.div_div_eq_div_mul,pw_add]
theorem ext_hi(X:Nat):(nw 18 X).extract 9 18=nw 9 (X/pw 9):=by
 apply Array.ext_getElem?
 intro j
 by_cases hj:j<9
 ·rw[nw_get 9 _ j hj,Array.getElem?_extract,if_pos (by rw[nw_size];omega),nw_get 18 X (9+j) (by omega),wd_div]
 ·rw[Array.getElem?_eq_none (by simp[nw_size];omega),Array.getElem?_eq_none (by rw[nw_size];omega)]
theorem app_mv(a f:Nat)(ha:a<M):nw 9 a++nw 9 f=nw 18 (mvN a f):=by
 have h:=mv_lo a f ha;have d:=mv_hi a f ha;rw[←ext_lo]at h;rw[←ext_hi]at d;rw[←h,←d];have i:(nw 18 (mvN a f)).size=18:=nw_size 18 _;rw[Array.extract_append_extract];have e:(nw 18 (mvN a f)).extract 0 (nw 18 (mvN a f)).size=nw 18 (mvN a f):=Array.extract_size;rw[i]at e
 simpa using e
theorem loadMv_is:LdI 163:=fun _=>rfl
theorem storeMv_is:StI 163:=fun _ _=>rfl
theorem loadMv:LdS 163 18:=ldS
theorem storeMv(s:Nat):StS 163 18 (nw 18 s):=stS (nw_size 18 s) (nw_one 18 s)
theorem part_range(w:World)(b o n:Nat):w.rangeAt b o ((blk w b).extract o (o+n)).toList:=fun j v f=>by
 rw[cell_blk]
 have d:((blk w b).extract o (o+n))[j]? = some v:=by rw[Array.getElem?_toList]at f;exact f
 rw[Array.getElem?_extract]at d
 split at d
 ·exact d
 ·cases d
theorem loadPart(w:World)(b o:Nat)(h:o+9≤(blk w b).size):(loadS 25 (.pointer (some ⟨b,o,none⟩))).run prog w=.ok (.agg ((blk w b).extract o (o+9))) w:=by
 have:=run_loadVar_mid w b o 25 ((blk w b).extract o (o+9)).toList _ (part_range w b o 9) underlying25 rfl (by
  have d:(prog.info? 25).map (·.size)=some 9:=by kernel_rfl
  rw[d];simp
  omega)
 simp only[loadS,Instr.loadAt,Instr.sureAddr,Sem.run_bind,Sem.run_pure,Result.andThen_ok];rw[Array.toArray_toList]at this;exact this
theorem loadLo(w:World)(b:Nat)(hs:(blk w b).size=18):(loadS 25 (.pointer (some ⟨b,0,none⟩))).run prog w=.ok (.agg ((blk w b).extract 0 9)) w:=loadPart w b 0 (by omega)
theorem loadHi(w:World)(b:Nat)(hs:(blk w b).size=18):(loadS 25 (.pointer (some ⟨b,9,none⟩))).run prog w=.ok (.agg ((blk w b).extract 9 18)) w:=loadPart w b 9 (by omega)
theorem buildMv_is(p:Array (Nat×Value)):Instr.build 163 p=buildS 163 p:=rfl
theorem buildMv2(a f:Nat)(w:World):(buildS 163 #[(0,.agg (nw 9 a)),(1,.agg (nw 9 f))]).run prog w=.ok (.agg (nw 9 a++nw 9 f)) w:=by
 kernel_rfl
theorem buildMv1(a:Nat)(w:World):(buildS 163 #[(0,.agg (nw 9 a))]).run prog w=.ok (.agg (nw 9 a++nw 9 0)) w:=by
 kernel_rfl
end
section
def pnt(x y:Nat)(f:Bool):Array Value:=nw 9 x++nw 9 y ++ #[.bool f]
def cu(id:Int)(p a b n x y:Nat)(s z:Int)(l:Bool):Array Value :=#[.int .i64 id]++nw 9 p++nw 9 a++nw 9 b++nw 9 n++pnt x y false ++ #[.int .i64 s,.int .i64 z,.bool l]
section
variable (id:Int) (p a b n x y:Nat) (s z:Int) (l:Bool)
theorem pnt_size(f:Bool):(pnt x y f).size=19:=by kernel_rfl
theorem cu_size:(cu id p a b n x y s z l).size=59:=by kernel_rfl
theorem pnt_X(f:Bool):(pnt x y f).extract 0 9=nw 9 x:=by kernel_rfl
theorem pnt_Y(f:Bool):(pnt x y f).extract 9 18=nw 9 y:=by kernel_rfl
theorem pnt_18(f:Bool):(pnt x y f)[18]? = some (.bool f):=by kernel_rfl
theorem cu_P:(cu id p a b n x y s z l).extract 1 10=nw 9 p:=by kernel_rfl
theorem cu_A:(cu id p a b n x y s z l).extract 10 19=nw 9 a:=by kernel_rfl
theorem cu_B:(cu id p a b n x y s z l).extract 19 28=nw 9 b:=by kernel_rfl
theorem cu_N:(cu id p a b n x y s z l).extract 28 37=nw 9 n:=by kernel_rfl
theorem cu_G:(cu id p a b n x y s z l).extract 37 56=pnt x y false:=by kernel_rfl
theorem cu_X:(cu id p a b n x y s z l).extract 37 46=nw 9 x:=by kernel_rfl
theorem cu_Y:(cu id p a b n x y s z l).extract 46 55=nw 9 y:=by kernel_rfl
theorem cu_0:(cu id p a b n x y s z l)[0]? = some (.int .i64 id):=by kernel_rfl
theorem cu_56:(cu id p a b n x y s z l)[56]? = some (.int .i64 s):=by kernel_rfl
theorem cu_57:(cu id p a b n x y s z l)[57]? = some (.int .i64 z):=by kernel_rfl
theorem cu_58:(cu id p a b n x y s z l)[58]? = some (.bool l):=by kernel_rfl
theorem cu_set0(v:Int):(cu id p a b n x y s z l).setIfInBounds 0 (.int .i64 v)=cu v p a b n x y s z l:=by kernel_rfl
theorem cu_set56(v:Int):(cu id p a b n x y s z l).setIfInBounds 56 (.int .i64 v)=cu id p a b n x y v z l:=by kernel_rfl
theorem cu_set57(v:Int):(cu id p a b n x y s z l).setIfInBounds 57 (.int .i64 v)=cu id p a b n x y s v l:=by kernel_rfl
theorem cu_set58(v:Bool):(cu id p a b n x y s z l).setIfInBounds 58 (.bool v)=cu id p a b n x y s z v:=by kernel_rfl
theorem cu_setP(q:Nat):setL (cu id p a b n x y s z l) 1 (nw 9 q).toList=cu id q a b n x y s z l:=by kernel_rfl
theorem all_app(c d:Array Value)(h1:c.all (·.oneCell')=true)(h2:d.all (·.oneCell')=true):(c++d).all (·.oneCell')=true:=by
 grind
theorem pnt_one(f:Bool):(pnt x y f).all (·.oneCell')=true:=all_app _ _ (all_app _ _ (nw_one _ _) (nw_one _ _)) (by simp[Value.oneCell'])
theorem cu_one:(cu id p a b n x y s z l).all (·.oneCell')=true:=
 all_app _ _ (all_app _ _ (all_app _ _ (all_app _ _ (all_app _ _ (all_app _ _ (by simp[Value.oneCell']) (nw_one _ _)) (nw_one _ _)) (nw_one _ _)) (nw_one _ _)) (pnt_one x y false)) (by simp[Value.oneCell'])
end
theorem loadCu_is:LdI 74:=fun _=>rfl
theorem storeCu_is:StI 74:=fun _ _=>rfl
theorem loadEq_is:LdI 93:=fun _=>rfl
theorem storeEq_is:StI 93:=fun _ _=>rfl
theorem loadPn_is:LdI 27:=fun _=>rfl
theorem storePn_is:StI 27:=fun _ _=>rfl
theorem zvCu_is:zeroValue 74=zvS 74:=rfl
theorem zvEq_is:zeroValue 93=zvS 93:=rfl
theorem zvPn_is:zeroValue 27=zvS 27:=rfl
theorem zvCu(w:World):(zvS 74).run prog w=.ok (.agg (cu 0 0 0 0 0 0 0 0 0 false)) w:=by kernel_rfl
theorem zvEq(w:World):(zvS 93).run prog w=.ok (.agg (cu 0 0 0 0 0 0 0 0 0 false)) w:=by kernel_rfl
theorem zvPn(w:World):(zvS 27).run prog w=.ok (.agg (pnt 0 0 false)) w:=by kernel_rfl
theorem buildCu_is(p:Array (Nat×Value)):Instr.build 74 p=buildF 74 p:=rfl
theorem buildEq_is(p:Array (Nat×Value)):Instr.build 93 p=buildF 93 p:=rfl
theorem buildPn_is(p:Array (Nat×Value)):Instr.build 27 p=buildF 27 p:=rfl
theorem buildCu0(w:World):(buildF 74 #[]).run prog w=.ok (.agg (cu 0 0 0 0 0 0 0 0 0 false)) w:=by kernel_rfl
theorem buildEq0(w:World):(buildF 93 #[]).run prog w=.ok (.agg (cu 0 0 0 0 0 0 0 0 0 false)) w:=by kernel_rfl
theorem buildCu4(a b n x y:Nat)(w:World):(buildF 74 #[(2,.agg (nw 9 a)),(3,.agg (nw 9 b)),(4,.agg (nw 9 n)),(5,.agg (pnt x y false))]).run prog w=.ok (.agg (cu 0 0 a b n x y 0 0 false)) w:=by kernel_rfl
theorem buildCu9(id:Int)(p a b n x y:Nat)(s z:Int)(l:Bool)(w:World):(buildF 74 #[(0,.int .i64 id),(1,.agg (nw 9 p)),(2,.agg (nw 9 a)),(3,.agg (nw 9 b)),(4,.agg (nw 9 n)),(5,.agg (pnt x y false)),(6,.int .i64 s),(7,.int .i64 z),(8,.bool l)]).run prog w=.ok (.agg (cu id p a b n x y s z l)) w:=by kernel_rfl
theorem buildEq1(id:Int)(p a b n x y:Nat)(s z:Int)(l:Bool)(w:World):(buildF 93 #[(0,.agg (cu id p a b n x y s z l))]).run prog w=.ok (.agg (cu id p a b n x y s z l)) w:=by kernel_rfl
theorem buildPn2(x y:Nat)(w:World):(buildF 27 #[(0,.agg (nw 9 x)),(1,.agg (nw 9 y))]).run prog w=.ok (.agg (pnt x y false)) w:=by kernel_rfl
theorem buildPn3(x y:Nat)(f:Bool)(w:World):(buildF 27 #[(0,.agg (nw 9 x)),(1,.agg (nw 9 y)),(2,.bool f)]).run prog w=.ok (.agg (pnt x y f)) w:=by kernel_rfl
theorem buildPnI(f:Bool)(w:World):(buildF 27 #[(2,.bool f)]).run prog w=.ok (.agg (pnt 0 0 f)) w:=by kernel_rfl
theorem loadCu:LdS 74 59:=ldS
theorem loadEq:LdS 93 59:=ldS
theorem loadPn:LdS 27 19:=ldS
theorem loadPartP(w:World)(b o:Nat)(h:o+19≤(blk w b).size):(loadS 27 (.pointer (some ⟨b,o,none⟩))).run prog w=.ok (.agg ((blk w b).extract o (o+19))) w:=by
 have:=run_loadVar_mid w b o 27 ((blk w b).extract o (o+19)).toList _ (part_range w b o 19) underlying27 rfl (by
  have d:(prog.info? 27).map (·.size)=some 19:=by kernel_rfl
  rw[d];simp
  omega)
 simp only[loadS,Instr.loadAt,Instr.sureAddr,Sem.run_bind,Sem.run_pure,Result.andThen_ok];rw[Array.toArray_toList]at this;exact this
theorem loadCP(w:World)(b:Nat)(hs:(blk w b).size=59):(loadS 25 (.pointer (some ⟨b,1,none⟩))).run prog w=.ok (.agg ((blk w b).extract 1 10)) w:=loadPart w b 1 (by omega)
theorem loadCA(w:World)(b:Nat)(hs:(blk w b).size=59):(loadS 25 (.pointer (some ⟨b,10,none⟩))).run prog w=.ok (.agg ((blk w b).extract 10 19)) w:=loadPart w b 10 (by omega)
theorem loadCB(w:World)(b:Nat)(hs:(blk w b).size=59):(loadS 25 (.pointer (some ⟨b,19,none⟩))).run prog w=.ok (.agg ((blk w b).extract 19 28)) w:=loadPart w b 19 (by omega)
theorem loadCN(w:World)(b:Nat)(hs:(blk w b).size=59):(loadS 25 (.pointer (some ⟨b,28,none⟩))).run prog w=.ok (.agg ((blk w b).extract 28 37)) w:=loadPart w b 28 (by omega)
theorem loadCX(w:World)(b:Nat)(hs:(blk w b).size=59):(loadS 25 (.pointer (some ⟨b,37,none⟩))).run prog w=.ok (.agg ((blk w b).extract 37 46)) w:=loadPart w b 37 (by omega)
theorem loadCY(w:World)(b:Nat)(hs:(blk w b).size=59):(loadS 25 (.pointer (some ⟨b,46,none⟩))).run prog w=.ok (.agg ((blk w b).extract 46 55)) w:=loadPart w b 46 (by omega)
theorem loadCG(w:World)(b:Nat)(hs:(blk w b).size=59):(loadS 27 (.pointer (some ⟨b,37,none⟩))).run prog w=.ok (.agg ((blk w b).extract 37 56)) w:=loadPartP w b 37 (by omega)
theorem loadPX(w:World)(b:Nat)(hs:(blk w b).size=19):(loadS 25 (.pointer (some ⟨b,0,none⟩))).run prog w=.ok (.agg ((blk w b).extract 0 9)) w:=loadPart w b 0 (by omega)
theorem loadPY(w:World)(b:Nat)(hs:(blk w b).size=19):(loadS 25 (.pointer (some ⟨b,9,none⟩))).run prog w=.ok (.agg ((blk w b).extract 9 18)) w:=loadPart w b 9 (by omega)
theorem storeCu(id:Int)(p a bb n x y:Nat)(s z:Int)(l:Bool):StS 74 59 (cu id p a bb n x y s z l):=stS (cu_size id p a bb n x y s z l) (cu_one id p a bb n x y s z l)
theorem storeEq(id:Int)(p a bb n x y:Nat)(s z:Int)(l:Bool):StS 93 59 (cu id p a bb n x y s z l):=stS (cu_size id p a bb n x y s z l) (cu_one id p a bb n x y s z l)
theorem storePn(x y:Nat)(f:Bool):StS 27 19 (pnt x y f):=stS (pnt_size x y f) (pnt_one x y f)
theorem frz_at(w:World)(b i:Nat)(hf:frz w b=(0,0)):w.frozen? ⟨b,i,none⟩=false:=by
 unfold frz at hf;unfold World.frozen?
 split <;> simp_all
theorem storeCP(w:World)(b q:Nat)(hs:(blk w b).size=59)(hf:frz w b=(0,0)):(storeS 25 (.pointer (some ⟨b,1,none⟩)) (.agg (nw 9 q))).run prog w=.ok () (setBlk w b (setL (blk w b) 1 (nw 9 q).toList)):=by
 have d:w.there b 1 (nw 9 q).size:=fun j f=>by
  rw[nw_size]at f;exact⟨by rw[cell_blk,Array.getElem?_eq_getElem (by omega)];rfl,frz_at w b _ hf⟩
 simp only[storeS,Instr.storeAt,Instr.sureAddr,Sem.run_bind,Sem.run_pure,Result.andThen_ok];rw[run_storeVar_mid w b 1 25 (nw 9 q) d (by kernel_rfl) (nw_one 9 q),setCells_setBlk _ _ _ _ (by omega)]
theorem rd_cu{id:Int}{p a bb n x y:Nat}{s z:Int}{l:Bool}:RdC 74 (cu id p a bb n x y s z l):=rdC 59 (cu_size id p a bb n x y s z l)
theorem rd_eq{id:Int}{p a bb n x y:Nat}{s z:Int}{l:Bool}:RdC 93 (cu id p a bb n x y s z l):=rdC 59 (cu_size id p a bb n x y s z l)
theorem rd_pn{x y:Nat}{f:Bool}:RdC 27 (pnt x y f):=rdC 19 (pnt_size x y f)
structure Vr(v:World)(b:Nat)(c:Array Value):Prop where
 h:blk v b=c
 f:frz v b=(0,0)
 p:Pre (b+1) v.heap.size
theorem Vr.gr{v v':World}{b:Nat}{c:Array Value}(h:Vr v b c)(k:Gr v v'):Vr v' b c:=
 ⟨by rw[k.blk _ h.p];exact h.h,by rw[k.frz _ h.p];exact h.f,Nat.le_trans h.p k.below.size⟩
theorem Vr.set{v:World}{b:Nat}{c:Array Value}(h:Vr v b c)(hc:0<c.size)(d:Array Value):Vr (setBlk v b d) b d:=
 ⟨blk_setBlk _ _ _ (by rw[h.h];exact hc),by rw[frz_setBlk];exact h.f,by rw[size_setBlk];exact h.p⟩
theorem Vr.other{v:World}{b k:Nat}{c d:Array Value}(h:Vr v b c)(n:k≠b):Vr (setBlk v k d) b c:=
 ⟨by rw[blk_other _ _ _ _ n];exact h.h,by rw[frz_setBlk];exact h.f,by rw[size_setBlk];exact h.p⟩
theorem Vr.cell{v:World}{b:Nat}{c:Array Value}(h:Vr v b c)(i:Nat):v.cell? ⟨b,i,none⟩=c[i]? := by rw[cell_blk,h.h]
theorem Vr.pp{v:World}{b:Nat}{c:Array Value}(h:Vr v b c):(∀k,Pre (b+1) (v.heap.size+k))∧(∀k l,Pre (b+1) (v.heap.size+k+l))∧(∀k l i,Pre (b+1) (v.heap.size+k+l+i))∧(∀k l i j,Pre (b+1) (v.heap.size+k+l+i+j))∧(∀k l i j m,Pre (b+1) (v.heap.size+k+l+i+j+m))∧(∀k l i j m n,Pre (b+1) (v.heap.size+k+l+i+j+m+n)):=by
 have:b+1≤v.heap.size:=h.p
 grind [Pre]
theorem Vr.new(w:World)(c:Array Value)(t:TypeId):Vr (w.alloc (.cells c t)) w.heap.size c:=
 ⟨blk_alloc_at _ _ _ _ _ rfl,frz_alloc_at _ _ _ _ _ rfl,by simp[Pre]⟩
abbrev uz6:=And.intro @loadMd<|And.intro @storeMd<|And.intro @buildMd0<|And.intro @buildMd1<|And.intro @blk_other<|And.intro @nw_ext9<|And.intro @nw_ext18<|And.intro @eqArr9 @eqArr18
abbrev uz11:=And.intro @zvCu_is<|And.intro @storeCu_is<|And.intro @loadCu_is<|And.intro @loadPn_is<|And.intro @storePn_is<|And.intro @zvPn_is<|And.intro @buildCu_is @buildPn_is
theorem vrA{v:World}{b:Nat}{c:Array Value}(h1:blk v b=c:=by simp[go_sem])(h2:frz v b=(0,0):=by simp[go_sem])(h3:Pre (b+1) v.heap.size:=by simp[go_sem]):Vr v b c:=⟨h1,h2,h3⟩
theorem Vr.al{v:World}{b:Nat}{c:Array Value}(h:Vr v b c):blk v b=c∧frz v b=(0,0)∧Pre (b+1) v.heap.size∧(∀k,Pre (b+1) (v.heap.size+k))∧(∀k l,Pre (b+1) (v.heap.size+k+l))∧(∀k l i,Pre (b+1) (v.heap.size+k+l+i))∧(∀k l i j,Pre (b+1) (v.heap.size+k+l+i+j))∧(∀k l i j m,Pre (b+1) (v.heap.size+k+l+i+j+m))∧(∀k l i j m n,Pre (b+1) (v.heap.size+k+l+i+j+m+n)):=⟨h.h,h.f,h.p,h.pp⟩
end
section
structure Kz where
 ok:Value→World→Prop
 gr:∀v w w',ok v w→Gr w w'→ok v w'
def Kz.c(v:Value):Kz:=⟨fun u _=>u=v,fun _ _ _ h _=>h⟩
def Kz.n(x:Nat):Kz:=⟨fun u w=>∃p n,u=.slice p (dl x) n∧Sl w p x,fun _ _ _ ⟨p,n,e,h⟩ g=>⟨p,n,e,h.gr g⟩⟩
def Kz.nb(x:Nat)(f:Bool):Kz:=⟨fun u w=>∃p n,u=.tuple #[.slice p (dl x) n,.bool f]∧Sl w p x,fun _ _ _ ⟨p,n,e,h⟩ g=>⟨p,n,e,h.gr g⟩⟩
def ptA(p:Option Addr)(x n:Nat)(q:Option Addr)(y m:Nat)(f:Bool):Array Value :=#[.slice p (dl x) n,.slice q (dl y) m,.bool f]
def Kz.pt(x y:Nat)(f:Bool):Kz:=⟨fun u w=>∃p n q m,u=.agg (ptA p x n q y m f)∧Sl w p x∧Sl w q y,fun _ _ _ ⟨p,n,q,m,e,h,k⟩ g=>⟨p,n,q,m,e,h.gr g,k.gr g⟩⟩
def kz(kp:List Kz)(i:Nat)(v:Value)(w:World):Prop:=match kp[i]? with|some k=>k.ok v w|none=>True
theorem kz.gr{kp:List Kz}{i:Nat}{v:Value}{w w':World}(h:kz kp i v w)(g:Gr w w'):kz kp i v w':=by
 unfold kz at h ⊢
 cases e:kp[i]? with
 | none=>trivial
 | some k=>rw[e]at h;exact k.gr _ _ _ h g
def Rt(k:Kz)(w:World)(e:Ending)(w':World):Prop:=∃u,e=.returned u∧k.ok u w'∧Gr w w'
theorem Rt.c{P:Program}{f:FuncId}{args:Array Value}{w:World}{v:Value}(h:Calls P f args w fun e w'=>e=.returned v∧Gr w w'):Calls P f args w (Rt (.c v) w):=h.mono fun _ _ ⟨e,g⟩=>⟨_,e,rfl,g⟩
theorem Rt.n{P:Program}{f:FuncId}{args:Array Value}{w:World}{x:Nat}(h:Calls P f args w (Nm x w)):Calls P f args w (Rt (.n x) w):=h.mono fun _ _ ⟨p,n,e,s,g⟩=>⟨_,e,⟨p,n,rfl,s⟩,g⟩
theorem Rt.same{P:Program}{f:FuncId}{args:Array Value}{w:World}{v:Value}(h:Calls P f args w fun e w'=>e=.returned v∧w'=w):Calls P f args w (Rt (.c v) w):=h.mono fun _ _ ⟨e,g⟩=>⟨_,e,rfl,by rw[g];exact Gr.refl _⟩
theorem wp_retz{P:Program}{o:Oper}{a:Act}{w:World}{K:Act→World→Prop}{Q:Exit→Act→World→Prop}{f:FuncId}{args:Array Value}{k:Kz}(h:(execOp a.eval o).run P w=.ok (.enter f args) w)(hc:Calls P f args w (Rt k w))(hk:∀u w',k.ok u w'→Gr w w'→K (a.put o.dst u) w'):o.wp P a w K Q:=by
 unfold Oper.wp;rw[h]
 exact hc.mono fun e w' ⟨u,d,i,j⟩=>by subst d;exact hk u w' i j
def RZ(W:World)(kp:List Kz)(listed:Array Bool)(vals:Nat→Value)(w:World):Prop:=
 Gr W w∧∀j,listed.getD j false=true→kz kp j (vals j) w
theorem RZ.next{W w w':World}{kp:List Kz}{listed:Array Bool}{vals:Nat→Value}{i:Nat}{v:Value}(h:RZ W kp listed vals w)(hg:Gr w w')(hv:kz kp i v w'):RZ W kp (listed.setIfInBounds i true) (upd vals i v) w':=by
 refine⟨h.1.trans hg,fun j d=>?_⟩
 by_cases e:j=i
 ·subst e;simpa [upd]using hv
 ·rw[getD_set_other _ _ _ (Ne.symm e)]at d;simp only[upd,e,if_false];exact(h.2 j d).gr hg
def sinkZ(d:Bool)(l:List Oper)(n:Nat):Bool:=decide (l.length=n+1)&&(((l[n]?).map fun o=>o.dst.isNone&&o.guard.isNone).getD false) &&
 (!d || (List.range n).all fun i=>(List.range (n+1)).any fun j=>decide (i<j)&&((l[j]?).map fun o=>o.after.any fun e=>e.on==i&&Region.binds .any e).getD false)
def Cld(l:List Oper)(listed:Array Bool):Prop:=∀j o,l[j]? = some o→listed.getD j false=true→∀e∈o.after,Region.binds .any e=true→listed.getD e.on false=true
theorem sink_all{l:List Oper}{n:Nat}(hs:sinkZ true l n=true){listed:Array Bool}(hc:Cld l listed){o:Oper}(ho:l[n]? = some o)(hd:∀e∈o.after,Region.binds .any e=true→listed.getD e.on false=true):
 ∀k i,i<n→n≤i+k→listed.getD i false=true
 | 0,i,h1,h2=>by omega
 | k+1,i,h1,h2=>by
  simp only[sinkZ,Bool.and_eq_true,decide_eq_true_eq,Bool.not_true,Bool.false_or]at hs;have h:=List.all_eq_true.1 hs.2 i (by simpa using h1);obtain⟨j,v,f⟩:=List.any_eq_true.1 h;simp only[Bool.and_eq_true,decide_eq_true_eq,List.mem_range]at v f
  cases hw:l[j]? with
  | none=>rw[hw]at f;simp at f
  | some oj=>
   rw[hw]at f;simp only[Option.map_some,Option.getD_some]at f;obtain⟨m,q,d⟩:=Array.any_eq_true.1 f.2;simp only[Bool.and_eq_true,beq_iff_eq]at d
   by_cases e:j=n
   ·subst e;rw[ho]at hw;cases hw;rw[←d.1];exact hd _ (Array.getElem_mem q) d.2
   ·have:=sink_all (by simp only[sinkZ,Bool.and_eq_true,decide_eq_true_eq,Bool.not_true,Bool.false_or];exact hs) hc ho hd k j (by omega) (by omega);rw[←d.1];exact hc j oj hw this _ (Array.getElem_mem q) d.2
theorem putFrom_congr{vals vals':Nat→Value}:∀(l:List Oper) (k:Nat) (a:Act),(∀j o,l[j]? = some o→o.dst.isSome=true→vals (k+j)=vals' (k+j))→putFrom vals k l a=putFrom vals' k l a
 | [],_,_,_=>rfl
 | o :: l,k,a,h=>by
  rw[putFrom,putFrom]
  have e:a.put o.dst (vals k)=a.put o.dst (vals' k):=by
   cases hd:o.dst with
   | none=>rfl
   | some d=>rw[show vals k=vals' k from h 0 o rfl (by rw[hd];rfl)]
  rw[e]
  exact putFrom_congr l (k+1) _ fun j o f hd=>by
   have:=h (j+1) o (by simpa using f) hd;rw[show k+1+j=k+(j+1) by omega];exact this
theorem wp_region_T(d:Bool){P:Program}{id:Nat}{l:List Oper}{Q:Exit→Act→World→Prop}{a0:Act}{W:World}(hm:d=true→P.follows .mixedOrders=true)(hu:uniqG l.toArray=true)(n:Nat)(hs:sinkZ d l n=true)(kp:List Kz)(hstep:∀(listed:Array Bool) (vals:Nat→Value) (a:Act) (v:World) (i:Nat) (o:Oper),Gr W v→(∀j,listed.getD j false=true→kz kp j (vals j) v)→Frm l.toArray a0 vals listed a→l.toArray[i]? = some o→i<n →
     (∀e∈o.after,Region.binds .any e=true→listed.getD e.on false=true) →
     (Region.wanted o (yielded l.toArray a.tmps)=true∧o.wp P a v (fun a' w'=>∃u,a'=a.put o.dst u∧Gr v w'∧kz kp i u w') Q)∨(Region.wanted o (yielded l.toArray a.tmps)=false∧kz kp i undef v))(hlast:∀(listed:Array Bool) (vals:Nat→Value) (a:Act) (v:World) (o:Oper),Gr W v→(∀j,j<n→kz kp j (vals j) v)→Frm l.toArray a0 vals listed a→(∀j,j<n→listed.getD j false=true)→l.toArray[n]? = some o →
     o.wp P a v (fun a' w'=>a'=a.put o.dst undef∧Q .normal (putFrom vals 0 l a0) w') Q):
 (Code.region id l.toArray d).wp P Q a0 W:=by
 have H:=hs;simp only[sinkZ,Bool.and_eq_true,decide_eq_true_eq]at H;obtain⟨⟨x,A⟩,-⟩:=H
 refine wp_region_ord d hm hu (fun listed vals w=>Cld l listed∧((listed.getD n false=false∧RZ W kp listed vals w)∨(listed.getD n false=true∧(∀i,i<n→listed.getD i false=true)∧∃vals0,(∀j,j≠n→vals j=vals0 j)∧Q .normal (putFrom vals0 0 l a0) w)))
  (fun listed w' L I=>⟨fun j o _ q=>(by rw[L]at q;cases q),Or.inl ⟨L _,⟨I,fun j q=>(by rw[L]at q;cases q)⟩⟩⟩) (fun listed vals a w i o hz B hF R hl G S=>?_) (fun listed vals a w f B hF=>?_)
 ·have C:l[i]? = some o:=by simpa using R
  have hi:i<n+1:=by rw[←x];exact(List.getElem?_eq_some_iff.1 C).1
  have J:i<listed.size:=by rw[hz];simpa [x]using hi
  have U:Cld l (listed.setIfInBounds i true):=fun j oj q K e he hb=>by
   by_cases e1:e.on=i
   ·rw[e1];exact getD_set_same _ _ J
   ·rw[getD_set_other _ _ _ (Ne.symm e1)]
    by_cases e2:j=i
    ·subst e2;rw[C]at q;cases q;exact G e he hb
    ·rw[getD_set_other _ _ _ (Ne.symm e2)]at K;exact B.1 j oj q K e he hb
  obtain⟨V,⟨D,B⟩|⟨D,f,-⟩⟩:=B
  ·by_cases e:i=n
   ·subst e
    have f:∀j,j<i→listed.getD j false=true:=by
     cases d with
     | true=>exact fun j q=>sink_all hs V C G i j q (Nat.le_add_left _ _)
     | false=>exact S rfl
    have I:o.dst=none∧o.guard=none:=by rw[C]at A;simpa using A
    refine Or.inl ⟨wanted_no I.2,Oper.wp_mono (fun a' w' h=>?_) (hlast listed vals a w o B.1 (fun j q=>B.2 j (f j q)) hF f R)⟩;obtain⟨rfl,X⟩:=h;refine⟨undef,rfl,U,Or.inr ⟨getD_set_same _ _ J,fun j q=>?_,vals,fun j q=>by simp[upd,q],X⟩⟩;rw[getD_set_other _ _ _ (by omega)];exact f j q
   ·obtain⟨Y,Z⟩|⟨Y,Z⟩:=hstep listed vals a w i o B.1 B.2 hF R (by omega) G
    ·refine Or.inl ⟨Y,Oper.wp_mono (fun a' w' h=>?_) Z⟩;obtain⟨v,rfl,I,hv⟩:=h;exact⟨v,rfl,U,Or.inl ⟨by rw[getD_set_other _ _ _ e];exact D,RZ.next B I hv⟩⟩
    ·exact Or.inr ⟨Y,U,Or.inl ⟨by rw[getD_set_other _ _ _ e];exact D,RZ.next B (Gr.refl _) Z⟩⟩
  ·exfalso
   by_cases e:i=n
   ·subst e;rw[hl]at D;cases D
   ·have:=f i (by omega);rw[hl]at this;cases this
 ·obtain⟨-,⟨D,-⟩|⟨-,-,vals0,hv,X⟩⟩:=B
  ·rw[f n (by simp[x])]at D;cases D
  ·rw[hF.final hu f,putFrom_congr l 0 a0 (fun j o q G=>?_)]
   ·exact X
   ·rw[Nat.zero_add];refine hv j fun e=>?_;subst e;rw[q]at A;simp only[Option.map_some,Option.getD_some,Bool.and_eq_true,Option.isNone_iff_eq_none]at A;rw[A.1]at G;cases G
end
section
abbrev Wt:=Nat→Option Addr×Nat
structure Kw where
 val:Wt→Value
 ok:Wt→World→Prop
 gr:∀x w w',ok x w→Gr w w'→ok x w'
 cst:Nat
 hc:cst≠0→∀y w,ok y w
 hs:cst=2→∀y,val y=undef
def Kw.c(v:Value):Kw:=⟨fun _=>v,fun _ _=>True,fun _ _ _ _ _=>trivial,1,fun _ _ _=>trivial,fun h=>absurd h (by decide)⟩
def Kw.u:Kw:=⟨fun _=>undef,fun _ _=>True,fun _ _ _ _ _=>trivial,2,fun _ _ _=>trivial,fun _ _=>rfl⟩
def Kw.n(x:Nat):Kw:=⟨fun y=>.slice (y 0).1 (dl x) (y 0).2,fun y w=>Sl w (y 0).1 x,fun _ _ _ h g=>h.gr g,0,fun h=>absurd rfl h,fun h=>absurd h (by decide)⟩
def Kw.nb(x:Nat)(f:Bool):Kw:=⟨fun y=>.tuple #[.slice (y 0).1 (dl x) (y 0).2,.bool f],fun y w=>Sl w (y 0).1 x,fun _ _ _ h g=>h.gr g,0,fun h=>absurd rfl h,fun h=>absurd h (by decide)⟩
def Kw.pt(x z:Nat)(f:Bool):Kw:=⟨fun y=>.agg (ptA (y 0).1 x (y 0).2 (y 1).1 z (y 1).2 f),fun y w=>Sl w (y 0).1 x∧Sl w (y 1).1 z,fun _ _ _ h g=>⟨h.1.gr g,h.2.gr g⟩,0,fun h=>absurd rfl h,fun h=>absurd h (by decide)⟩
abbrev pv(b o:Nat):Value:=.pointer (some ⟨b,o,none⟩)
def Kw.kz(k:Kw):Kz:=⟨fun u w=>∃y,u=k.val y∧k.ok y w,fun _ _ _ ⟨y,e,h⟩ g=>⟨y,e,k.gr _ _ _ h g⟩⟩
def kW(kp:List Kw)(i:Nat):Kw:=kp.getD i .u
def wvals(kp:List Kw)(x:Nat→Wt)(j:Nat):Value:=(kW kp j).val (x j)
def FW(l:List Oper)(kp:List Kw)(a0:Act)(x:Nat→Wt):Act:=putFrom (wvals kp x) 0 l a0
def opW(l:List Oper)(i:Nat):Oper:=(l[i]?).getD ⟨none,.move (.const undef),0, "", #[],none⟩
def wts(l:List Oper)(i j:Nat):Bool:=(opW l i).after.toList.any fun e=>e.on==j&&Region.binds .any e
def rdyO(l:List Oper)(i:Nat)(o:Oper):Bool:=
 (match o.op with | .select _ _=>false|_=>true) &&
 (o.op.operands.all fun y=>match y with | .tmp s=>(match own l.toArray s with|some j=>wts l i j|none=>true)|_=>true) &&
 (match o.guard with|some (g,_)=>wts l i g|none=>true)
def others(ex:List Nat)(q:Nat):List Nat:=(List.range q).filter fun i => !ex.contains i
def chkW(l:List Oper)(kp:List Kw)(ex:List Nat)(q:Nat):Bool:=
 uniqG l.toArray&&((List.range q).all fun i=>rdyO l i (opW l i))&&kp.length==q&&(others ex q).all fun i=>(kW kp i).cst != 0
def wnt(l:List Oper)(i:Nat)(a:Act):Bool:=Region.wanted (opW l i) (yielded l.toArray a.tmps)
def RtW(k:Kw)(w:World)(e:Ending)(w':World):Prop:=∃y,e=.returned (k.val y)∧k.ok y w'∧Gr w w'
def StW(P:Program)(k:Kw)(a:Act)(o:Oper)(v:World):Prop:=
 (∃y w',(execOp a.eval o).run P v=.ok (.value (k.val y)) w'∧Gr v w'∧k.ok y w')∨∃f args,(execOp a.eval o).run P v=.ok (.enter f args) v∧Calls P f args v (RtW k v)
def ObW(P:Program)(l:List Oper)(kp:List Kw)(a0:Act)(W:World)(i:Nat):Prop:=
 ∀(x:Nat→Wt) (v:World),Gr W v→(∀j,wts l i j=true→(kW kp j).ok (x j) v)→wnt l i (FW l kp a0 x)=true∧StW P (kW kp i) (FW l kp a0 x) (opW l i) v
def ObsW(P:Program)(l:List Oper)(kp:List Kw)(a0:Act)(W:World):List Nat→Prop
 | []=>True
 | i :: r=>ObW P l kp a0 W i∧ObsW P l kp a0 W r
theorem ObsW.nil{P:Program}{l:List Oper}{kp:List Kw}{a0:Act}{W:World}:ObsW P l kp a0 W []:=trivial
theorem ObsW.cons{P:Program}{l:List Oper}{kp:List Kw}{a0:Act}{W:World}{i:Nat}{r:List Nat}(h:ObW P l kp a0 W i)(t:ObsW P l kp a0 W r):ObsW P l kp a0 W (i :: r):=⟨h,t⟩
theorem ObsW.at{P:Program}{l:List Oper}{kp:List Kw}{a0:Act}{W:World}:∀{ex:List Nat},ObsW P l kp a0 W ex→∀i,i∈ex→ObW P l kp a0 W i
 | [],_,_,h=>by cases h
 | e :: r,ho,i,h=>by
  rcases List.mem_cons.1 h with rfl|h
  ·exact ho.1
  ·exact ObsW.at ho.2 i h
def resW(P:Program)(l:List Oper)(kp:List Kw)(a0:Act)(x:Nat→Wt)(v:World)(i:Nat):Option (Result Next):=
 cond (wnt l i (FW l kp a0 x)) (some ((execOp (FW l kp a0 x).eval (opW l i)).run P v)) none
def expW(kp:List Kw)(x:Nat→Wt)(v:World)(i:Nat):Option (Result Next):=cond ((kW kp i).cst==2) none (some (.ok (.value (wvals kp x i)) v))
def pureL(P:Program)(l:List Oper)(kp:List Kw)(a0:Act)(ex:List Nat)(q:Nat)(x:Nat→Wt)(v:World):List (Option (Result Next)):=(others ex q).map (resW P l kp a0 x v)
def pureR(kp:List Kw)(ex:List Nat)(q:Nat)(x:Nat→Wt)(v:World):List (Option (Result Next)):=(others ex q).map (expW kp x v)
theorem opW_is{l:List Oper}{i:Nat}{o:Oper}(h:l.toArray[i]? = some o):opW l i=o:=by
 grind [opW]
theorem eval_F{l:List Oper}{a0 a:Act}{vals vals':Nat→Value}{listed:Array Bool}(hu:uniqG l.toArray=true)(hF:Frm l.toArray a0 vals listed a)(s:Nat)(hy:∀j,own l.toArray s=some j→listed.getD j false=true∧vals j=vals' j):a.tmps[s]? = (putFrom vals' 0 l a0).tmps[s]?:=by
 have d:=putFrom_frm hu l 0 a0 (fun j=>by simp) (Frm.start_up l a0 vals')
 by_cases hs:s<a0.tmps.size
 ·rw[hF.2.2 s hs,d.2.2 s hs]
  cases ho:own l.toArray s with
  | none=>rfl
  | some j=>
   obtain⟨f,h⟩:=hy j ho;obtain⟨o,i,-⟩:=own_spec ho
   have q:j<l.length:=by simpa using (Array.getElem?_eq_some_iff.1 i).1
   simp only[f,if_true,upTo_getD];rw[if_pos (by simpa using q),h]
 ·rw[Array.getElem?_eq_none (by rw[hF.2.1];omega),Array.getElem?_eq_none (by rw[d.2.1];omega)]
theorem kz_W{kp:List Kw}{j:Nat}(hj:j<kp.length)(u:Value)(v:World):kz (kp.map Kw.kz) j u v↔∃y,u=(kW kp j).val y∧(kW kp j).ok y v:=by
 have e:kp[j]? = some (kW kp j):=by rw[kW,List.getD_eq_getElem?_getD,List.getElem?_eq_getElem hj];rfl
 unfold kz;rw[List.getElem?_map,e];exact Iff.rfl
theorem atW{l:List Oper}{kp:List Kw}{ex:List Nat}{q:Nat}{a0:Act}{listed:Array Bool}{vals:Nat→Value}(hk:chkW l kp ex q=true){a:Act}{v:World}{i:Nat}{o:Oper}(hK:∀j,listed.getD j false=true→kz (kp.map Kw.kz) j (vals j) v)(hF:Frm l.toArray a0 vals listed a)(hi:l.toArray[i]? = some o)(hq:i<q)(hd:∀e∈o.after,Region.binds .any e=true→listed.getD e.on false=true):
 ∃x:Nat→Wt,(∀j,wts l i j=true→listed.getD j false=true∧vals j=(kW kp j).val (x j)∧(kW kp j).ok (x j) v)∧execOp a.eval o=execOp (FW l kp a0 x).eval o∧Region.wanted o (yielded l.toArray a.tmps)=wnt l i (FW l kp a0 x):=by
 simp only[chkW,Bool.and_eq_true,beq_iff_eq]at hk;obtain⟨⟨⟨J,X⟩,U⟩,Y⟩:=hk;have d:=opW_is hi
 have K:∀j,∃y:Wt,wts l i j=true→vals j=(kW kp j).val y∧(kW kp j).ok y v:=fun j=>by
  by_cases h:wts l i j=true
  ·have Z:=on_of hd j (by rw[wts,d,Array.any_toList]at h;exact h)
   have C:j<i:=by
    obtain⟨e,he,L⟩:=Array.any_eq_true.1 (show (o.after.any fun e=>e.on==j&&Region.binds .any e)=true by rw[wts,d,Array.any_toList]at h;exact h);simp only[Bool.and_eq_true,beq_iff_eq]at L;rw[←L.1];exact(uniq_at J hi).2 _ (Array.getElem_mem he) L.2
   obtain⟨y,P,Q⟩:=(kz_W (by omega) _ _).1 (hK j Z);exact⟨y,fun _=>⟨P,Q⟩⟩
  ·exact⟨fun _=>(none,0),fun h'=>absurd h' h⟩
 obtain⟨x,V⟩:=Classical.axiomOfChoice K;have B:=List.all_eq_true.1 X i (by simpa using hq);rw[d]at B;simp only[rdyO,Bool.and_eq_true]at B;obtain⟨⟨A,D⟩,G⟩:=B;have H:∀j,wts l i j=true→listed.getD j false=true:=fun j h=>on_of hd j (by rw[wts,d,Array.any_toList]at h;exact h)
 have f:∀s,(match own l.toArray s with|some j=>wts l i j|none=>true)=true→a.tmps[s]? = (FW l kp a0 x).tmps[s]? := fun s W=>by
  refine eval_F J hF s fun j C=>?_
  have I:wts l i j=true:=by rw[C]at W;exact W
  exact⟨H j I,(V j I).1⟩
 refine⟨x,fun j C=>⟨H j C,V j C⟩,?_,?_⟩
 ·refine execOp_congr o (fun cs b h=>by rw[h]at A;cases A) fun y R=>?_;have S:=Array.all_eq_true_iff_forall_mem.1 D y R
  cases y with
  | tmp s=>
   have:=f s S;simp only[Act.eval,Array.getD_eq_getD_getElem?,this]
  | _=>rfl
 ·rw[wnt,d];unfold Region.wanted
  cases hg:o.guard with
  | none=>rfl
  | some gw=>
   obtain⟨g,b⟩:=gw;rw[hg]at G;simp only
   have R:yielded l.toArray a.tmps g=yielded l.toArray (FW l kp a0 x).tmps g:=by
    unfold yielded
    cases ht:(l.toArray[g]?).bind (·.dst) with
    | none=>rfl
    | some t=>
     have:own l.toArray t=some g:=by
      obtain⟨og,P,Q⟩:=Option.bind_eq_some_iff.1 ht;exact(uniq_at J P).1 t Q
     simp only[Option.bind_some];rw[f t (by rw[this];exact G)]
   rw[R]
theorem stepW{P:Program}{l:List Oper}{kp:List Kw}{ex:List Nat}{q:Nat}{a0:Act}{W:World}{Q:Exit→Act→World→Prop}(hk:chkW l kp ex q=true)(hp:pureL P l kp a0 ex q=pureR kp ex q)(listed:Array Bool)(vals:Nat→Value)(a:Act)(v:World)(i:Nat)(o:Oper)(ho:i∈ex→ObW P l kp a0 W i)(hG:Gr W v)(hK:∀j,listed.getD j false=true→kz (kp.map Kw.kz) j (vals j) v)(hF:Frm l.toArray a0 vals listed a)(hi:l.toArray[i]? = some o)(hq:i<q)(hd:∀e∈o.after,Region.binds .any e=true→listed.getD e.on false=true):
 (Region.wanted o (yielded l.toArray a.tmps)=true∧o.wp P a v (fun a' w'=>∃u,a'=a.put o.dst u∧Gr v w'∧kz (kp.map Kw.kz) i u w') Q)∨(Region.wanted o (yielded l.toArray a.tmps)=false∧kz (kp.map Kw.kz) i undef v):=by
 obtain⟨x,U,G,K⟩:=atW hk hK hF hi hq hd;simp only[chkW,Bool.and_eq_true,beq_iff_eq]at hk;obtain⟨⟨-,S⟩,L⟩:=hk;have B:=fun(u:Value) (w:World)=>kz_W (kp:=kp) (j:=i) (by omega) u w;have I:=opW_is hi;rw[K]
 by_cases hm:i∈ex
 ·obtain⟨V,C⟩:=ho hm x v hG fun j X=>(U j X).2.2;refine Or.inl ⟨V,?_⟩;rw[I]at C
  obtain⟨y,w',h,J,H⟩|⟨f,args,h,hc⟩:=C
  ·exact wp_val _ (by rw[G];exact h) ⟨_,rfl,J,(B _ _).2 ⟨y,rfl,H⟩⟩
  ·refine wp_retz (k:=(kW kp i).kz) (by rw[G];exact h) (hc.mono fun e w' ⟨y,Y,H,J⟩=>⟨_,Y,⟨y,rfl,H⟩,J⟩) fun u w' R J=>⟨u,rfl,J,(B _ _).2 R⟩
 ·have D:i∈others ex q:=List.mem_filter.2 ⟨by simpa using hq,by simpa using hm⟩;have A:=List.all_eq_true.1 L i D;simp only[bne_iff_ne,ne_eq]at A;have d:=List.map_inj_left.1 (congrFun (congrFun hp x) v) i D;simp only[resW,expW,I]at d
  cases hw:wnt l i (FW l kp a0 x) with
  | true=>
   rw[hw]at d;refine Or.inl ⟨rfl,?_⟩
   cases C:(kW kp i).cst==2 with
   | true=>rw[C]at d;cases d
   | false=>
    rw[C]at d;exact wp_val _ (by rw[G];exact Option.some.inj d) ⟨_,rfl,Gr.refl _,(B _ _).2 ⟨x i,rfl,(kW kp i).hc A _ _⟩⟩
  | false=>
   rw[hw]at d;refine Or.inr ⟨rfl,?_⟩
   cases C:(kW kp i).cst==2 with
   | true=>exact(B _ _).2 ⟨x i,((kW kp i).hs (by simpa using C) _).symm,(kW kp i).hc A _ _⟩
   | false=>rw[C]at d;cases d
theorem finW{kp:List Kw}{q:Nat}{vals:Nat→Value}{v:World}(hlen:kp.length=q)(hK:∀j,j<q→kz (kp.map Kw.kz) j (vals j) v):∃x:Nat→Wt,(∀j,j<q→vals j=wvals kp x j)∧∀j,(kW kp j).ok (x j) v:=by
 have f:∀j,∃y:Wt,(j<q→vals j=(kW kp j).val y)∧(kW kp j).ok y v:=fun j=>by
  by_cases hj:j<q
  ·have h:=hK j hj
   have e:kp[j]? = some (kW kp j):=by rw[kW,List.getD_eq_getElem?_getD,List.getElem?_eq_getElem (by omega)];rfl
   unfold kz at h;rw[List.getElem?_map,e]at h;obtain⟨y,i,l⟩:=h;exact⟨y,fun _=>i,l⟩
  ·refine⟨fun _=>(none,0),fun h=>absurd h hj,?_⟩
   have e:kW kp j=.u:=by rw[kW,List.getD_eq_getElem?_getD,List.getElem?_eq_none (by omega)];rfl
   rw[e];trivial
 obtain⟨x,d⟩:=Classical.axiomOfChoice f;exact⟨x,fun j hj=>(d j).1 hj,fun j=>(d j).2⟩
theorem chk_u{l:List Oper}{kp:List Kw}{ex:List Nat}{q:Nat}(hk:chkW l kp ex q=true):uniqG l.toArray=true∧kp.length=q:=by
 simp only[chkW,Bool.and_eq_true,beq_iff_eq]at hk;exact⟨hk.1.1.1,hk.1.2⟩
section
variable {P:Program} {id:Nat} {l:List Oper} {Q:Exit→Act→World→Prop} {a0:Act} {W:World}
theorem wp_r(d:Bool)(kp:List Kw)(ex:List Nat)(ho:ObsW P l kp a0 W ex)(hfin:∀x v,Gr W v→(∀j,(kW kp j).ok (x j) v)→Q .normal (FW l kp a0 x) v)(hm:d=true→P.follows .mixedOrders=true)(hk:chkW l kp ex l.length=true)(hp:pureL P l kp a0 ex l.length=pureR kp ex l.length):(Code.region id l.toArray d).wp P Q a0 W:=by
 obtain⟨J,D⟩:=chk_u hk
 refine wp_region_ord d hm J (RZ W (kp.map Kw.kz)) (fun f L R I=>⟨I,fun j C=>by rw[R]at C;cases C⟩) (fun f q a v i o V B hF K X S _=>?_) fun f q a v A B hF=>?_
 ·obtain⟨G,H⟩|⟨G,H⟩:=stepW hk hp f q a v i o (fun h=>ho.at i h) B.1 B.2 hF K (by simpa using (Array.getElem?_eq_some_iff.1 K).1) S
  ·refine Or.inl ⟨G,Oper.wp_mono (fun Y L h=>?_) H⟩;obtain⟨u,rfl,I,U⟩:=h;exact⟨u,rfl,B.next I U⟩
  ·exact Or.inr ⟨G,B.next (Gr.refl _) H⟩
 ·obtain⟨x,G,H⟩:=finW D (fun j C=>B.2 j (A j (by simpa using C)));rw[hF.final J A,putFrom_congr (vals':=wvals kp x) l 0 a0 fun j o C _=>by rw[Nat.zero_add];exact G j (List.getElem?_eq_some_iff.1 C).1];exact hfin x v B.1 H
theorem wp_w(kp:List Kw)(ex:List Nat)(ho:ObsW P l kp a0 W ex)(hfin:∀x v,Gr W v→(∀j,(kW kp j).ok (x j) v)→Q .normal (FW l kp a0 x) v)(hm:P.follows .mixedOrders=true:=by kernel_rfl)(hk:chkW l kp ex l.length=true:=by kernel_rfl)(hp:pureL P l kp a0 ex l.length=pureR kp ex l.length:=by kernel_rfl):(Code.region id l.toArray true).wp P Q a0 W:=wp_r true kp ex ho hfin (fun _=>hm) hk hp
theorem wp_wS(kp:List Kw)(ex:List Nat)(ho:ObsW P l kp a0 W ex)(hfin:∀x v,Gr W v→(∀j,(kW kp j).ok (x j) v)→Q .normal (FW l kp a0 x) v)(hk:chkW l kp ex l.length=true:=by kernel_rfl)(hp:pureL P l kp a0 ex l.length=pureR kp ex l.length:=by kernel_rfl):(Code.region id l.toArray false).wp P Q a0 W:=wp_r false kp ex ho hfin (fun h=>by cases h) hk hp
def TlW(P:Program)(l:List Oper)(kp:List Kw)(a0:Act)(W:World)(Q:Exit→Act→World→Prop)(n:Nat):Prop:=
 ∀x v,Gr W v→(∀j,(kW kp j).ok (x j) v)→∃w',(execOp (FW l kp a0 x).eval (opW l n)).run P v=.ok .skip w'∧Q .normal (FW l kp a0 x) w'
theorem lastW{kp:List Kw}{ex:List Nat}{n:Nat}(hk:chkW l kp ex n=true)(hsd:(((l[n]?).map fun o=>o.dst.isNone&&o.guard.isNone).getD false)=true)(hl:l.length=n+1)(hr:rdyO l n (opW l n)=true)(ht:TlW P l kp a0 W Q n)(listed:Array Bool)(vals:Nat→Value)(a:Act)(v:World)(o:Oper)(hG:Gr W v)(hK:∀j,j<n→kz (kp.map Kw.kz) j (vals j) v)(hF:Frm l.toArray a0 vals listed a)(hd:∀j,j<n→listed.getD j false=true)(hi:l.toArray[n]? = some o):
 o.wp P a v (fun a' w'=>a'=a.put o.dst undef∧Q .normal (putFrom vals 0 l a0) w') Q:=by
 obtain⟨R,A⟩:=chk_u hk;obtain⟨x,K,S⟩:=finW A hK;have B:=opW_is hi;rw[B]at hr;simp only[rdyO,Bool.and_eq_true]at hr;obtain⟨⟨f,L⟩,-⟩:=hr
 have C:l[n]? = some o:=by simpa using hi
 have D:o.dst=none:=by
  rw[C]at hsd;simp only[Option.map_some,Option.getD_some,Bool.and_eq_true,Option.isNone_iff_eq_none]at hsd;exact hsd.1
 have I:execOp a.eval o=execOp (FW l kp a0 x).eval o:=by
  refine execOp_congr o (fun X b h=>by rw[h]at f;cases f) fun y Y=>?_
  cases y with
  | tmp s=>
   have:a.tmps[s]? = (FW l kp a0 x).tmps[s]?:=by
    refine eval_F R hF s fun j G=>?_;obtain⟨U,q,d⟩:=own_spec G
    have J:j<l.length:=by simpa using (Array.getElem?_eq_some_iff.1 q).1
    have H:j<n:=by
     rcases Nat.lt_or_ge j n with h|h
     ·exact h
     ·exfalso
      obtain rfl:j=n:=by omega
      rw[hi]at q;cases q;rw[D]at d;cases d
    exact⟨hd j H,K j H⟩
   simp only[Act.eval,Array.getD_eq_getD_getElem?,this]
  | _=>rfl
 obtain⟨w',i,V⟩:=ht x v hG S;rw[B]at i;refine wp_skip (by rw[I];exact i) ⟨rfl,?_⟩
 rw[putFrom_congr l 0 a0 fun j U G d=>?_]
 ·exact V
 ·rw[Nat.zero_add];have J:=(List.getElem?_eq_some_iff.1 G).1;refine K j ?_
  rcases Nat.lt_or_ge j n with h|h
  ·exact h
  ·exfalso
   obtain rfl:j=n:=by omega
   rw[C]at G;cases G;rw[D]at d;cases d
theorem wp_t(d:Bool)(n:Nat)(kp:List Kw)(ex:List Nat)(ho:ObsW P l kp a0 W ex)(ht:TlW P l kp a0 W Q n)(hm:d=true→P.follows .mixedOrders=true)(hs:sinkZ d l n=true)(hk:(chkW l kp ex n&&rdyO l n (opW l n))=true)(hp:pureL P l kp a0 ex n=pureR kp ex n):
 (Code.region id l.toArray d).wp P Q a0 W:=by
 simp only[Bool.and_eq_true]at hk;obtain⟨hk,x⟩:=hk;have j:=hs;simp only[sinkZ,Bool.and_eq_true,decide_eq_true_eq]at j;exact wp_region_T d hm (chk_u hk).1 n hs (kp.map Kw.kz) (fun f q a v i o A B C D G H=>stepW hk hp f q a v i o (fun h=>ho.at i h) A B C D G H) (lastW hk j.1.2 j.1.1 x ht)
theorem wp_wT(n:Nat)(kp:List Kw)(ex:List Nat)(ho:ObsW P l kp a0 W ex)(ht:TlW P l kp a0 W Q n)(hm:P.follows .mixedOrders=true:=by kernel_rfl)(hs:sinkZ true l n=true:=by kernel_rfl)(hk:(chkW l kp ex n&&rdyO l n (opW l n))=true:=by kernel_rfl)(hp:pureL P l kp a0 ex n=pureR kp ex n:=by kernel_rfl):
 (Code.region id l.toArray true).wp P Q a0 W:=wp_t true n kp ex ho ht (fun _=>hm) hs hk hp
theorem wp_wTS(n:Nat)(kp:List Kw)(ex:List Nat)(ho:ObsW P l kp a0 W ex)(ht:TlW P l kp a0 W Q n)(hs:sinkZ false l n=true:=by kernel_rfl)(hk:(chkW l kp ex n&&rdyO l n (opW l n))=true:=by kernel_rfl)(hp:pureL P l kp a0 ex n=pureR kp ex n:=by kernel_rfl):
 (Code.region id l.toArray false).wp P Q a0 W:=wp_t false n kp ex ho ht (fun h=>by cases h) hs hk hp
theorem ObW.k{kp:List Kw}{i:Nat}{f:FuncId}(args:(Nat→Wt)→Array Value)(hc:∀x v,Gr W v→(∀j,wts l i j=true→(kW kp j).ok (x j) v)→Calls P f (args x) v (RtW (kW kp i) v))(hr:(fun x v=>resW P l kp a0 x v i)=fun x v=>some (.ok (.enter f (args x)) v):=by kernel_rfl):ObW P l kp a0 W i:=fun x v d h=>by
 have:=congrFun (congrFun hr x) v;simp only[resW]at this
 cases hw:wnt l i (FW l kp a0 x) with
 | false=>rw[hw]at this;cases this
 | true=>
  rw[hw]at this;exact⟨rfl,.inr ⟨f,args x,Option.some.inj this,hc x v d h⟩⟩
theorem ObW.p{kp:List Kw}{i:Nat}(y:(Nat→Wt)→Wt)(hc:∀x v,Gr W v→(∀j,wts l i j=true→(kW kp j).ok (x j) v)→(kW kp i).ok (y x) v)(hr:(fun x v=>resW P l kp a0 x v i)=fun x v=>some (.ok (.value ((kW kp i).val (y x))) v):=by kernel_rfl):ObW P l kp a0 W i:=fun x v d h=>by
 have:=congrFun (congrFun hr x) v;simp only[resW]at this
 cases hw:wnt l i (FW l kp a0 x) with
 | false=>rw[hw]at this;cases this
 | true=>
  rw[hw]at this;exact⟨rfl,.inl ⟨y x,v,Option.some.inj this,Gr.refl _,hc x v d h⟩⟩
theorem ObW.m{kp:List Kw}{i:Nat}(j:Nat)(hc:∀y v,(kW kp j).ok y v→(kW kp i).ok y v:=by first|exact fun _ _ h=>h|exact fun _ _ _=>trivial)(hw:wts l i j=true:=by rfl)(hr:(fun x v=>resW P l kp a0 x v i)=fun x v=>some (.ok (.value ((kW kp i).val (x j))) v):=by kernel_rfl):ObW P l kp a0 W i:=ObW.p (fun x=>x j) (fun _ _ _ h=>hc _ _ (h j hw)) hr
theorem ObW.e{kp:List Kw}{i:Nat}(e:(Nat→Wt)→Sem Next)(hr:(fun x=>cond (wnt l i (FW l kp a0 x)) (some (execOp (FW l kp a0 x).eval (opW l i))) none)=fun x=>some (e x))(hc:∀x v,Gr W v→(∀j,wts l i j=true→(kW kp j).ok (x j) v)→∃y w',(e x).run P v=.ok (.value ((kW kp i).val y)) w'∧Gr v w'∧(kW kp i).ok y w'):ObW P l kp a0 W i:=fun x v d h=>by
 have:=congrFun hr x
 cases hw:wnt l i (FW l kp a0 x) with
 | false=>rw[hw]at this;cases this
 | true=>
  rw[hw]at this;have f:=Option.some.inj this;exact⟨rfl,.inl (by rw[f];exact hc x v d h)⟩
def exI(op:Op):Sem Next:=execOp (Act.eval ⟨#[],[]⟩) ⟨none,op,0, "", #[],none⟩
def runW(l:List Oper)(kp:List Kw)(a0:Act)(i:Nat)(x:Nat→Wt):Option (Sem Next):=cond (wnt l i (FW l kp a0 x)) (some (execOp (FW l kp a0 x).eval (opW l i))) none
theorem ObW.s{kp:List Kw}{i:Nat}{u:Value}(op:Op)(hk:kW kp i=.c u)(hc:∀v,Gr W v→(exI op).run P v=.ok (.value u) v)(hr:runW l kp a0 i=fun _=>some (exI op):=by kernel_rfl):ObW P l kp a0 W i:=
 ObW.e (fun _=>exI op) hr fun _ v d _=>⟨fun _=>(none,0),v,by rw[hk];exact hc v d,Gr.refl _,by rw[hk];trivial⟩
theorem ObW.o{kp:List Kw}{i b:Nat}{c:Array Value}{u:Value}(t:TypeId)(off:Nat)(hb:Vr W b c)(hk:kW kp i=.c u)(hu:c[off]? = some u)(hc:∀v:World,v.cell? ⟨b,off,none⟩=some u→(exI (.load t (.const (.pointer (some ⟨b,off,none⟩))))).run P v=.ok (.value u) v:=by intro vv K;simp[go_sem,exI,K])(hr:runW l kp a0 i=fun _=>some (exI (.load t (.const (.pointer (some ⟨b,off,none⟩))))):=by kernel_rfl):ObW P l kp a0 W i:=
 ObW.s _ hk (fun v d=>hc v (by rw[cell_blk,(hb.gr d).h];exact hu)) hr
theorem ObW.g{kp:List Kw}{i b:Nat}{c:Array Value}{u:Value}(t:TypeId)(off:Nat)(hb:Vr W b c)(hk:kW kp i=.c u)(hc:∀v:World,blk v b=c→(exI (.load t (.const (.pointer (some ⟨b,off,none⟩))))).run P v=.ok (.value u) v:=by intro vv H;simp[go_sem,exI,H])(hr:runW l kp a0 i=fun _=>some (exI (.load t (.const (.pointer (some ⟨b,off,none⟩))))):=by kernel_rfl):ObW P l kp a0 W i:=
 ObW.s _ hk (fun v d=>hc v (hb.gr d).h) hr
theorem ObW.b{kp:List Kw}{i c n:Nat}{t:TypeId}{z:Array Value}(op:Op)(hk:kW kp i=.n c)(hn:dl c=n)(hc:∀v:World,(exI op).run P v=.ok (.value (.slice (some ⟨v.heap.size,0,none⟩) n n)) (v.alloc (.cells z t)))(hs:∀v:World,Sl (v.alloc (.cells z t)) (some ⟨v.heap.size,0,none⟩) c)(hr:runW l kp a0 i=fun _=>some (exI op):=by kernel_rfl):ObW P l kp a0 W i:=
 ObW.e (fun _=>exI op) hr fun _ v d _=>⟨fun _=>(some ⟨v.heap.size,0,none⟩,n),_,by rw[hk];subst hn;exact hc v,(Gr.refl _).alloc _,by rw[hk];exact hs v⟩
theorem TlW.s{kp:List Kw}{n:Nat}(t:TypeId)(p u:(Nat→Wt)→Value)(hf:∀x v,Gr W v→(∀j,(kW kp j).ok (x j) v)→∃w',(exI (.store t (.const (p x)) (.const (u x)))).run P v=.ok .skip w'∧Q .normal (FW l kp a0 x) w')(hr:(fun x=>execOp (FW l kp a0 x).eval (opW l n))=fun x=>exI (.store t (.const (p x)) (.const (u x))):=by kernel_rfl):TlW P l kp a0 W Q n:=fun x v d h=>by
 obtain⟨w',f,i⟩:=hf x v d h;exact⟨w',by rw[show execOp (FW l kp a0 x).eval (opW l n)=_ from congrFun hr x];exact f,i⟩
end
theorem RtW.of_n{P:Program}{f:FuncId}{args:Array Value}{w:World}{x:Nat}(h:Calls P f args w (Rt (.n x) w)):Calls P f args w (RtW (.n x) w):=h.mono fun _ _ ⟨_,e,⟨p,n,d,s⟩,g⟩=>⟨fun _=>(p,n),by rw[e,d];rfl,s,g⟩
theorem RtW.of_c{P:Program}{f:FuncId}{args:Array Value}{w:World}{v:Value}(h:Calls P f args w (Rt (.c v) w)):Calls P f args w (RtW (.c v) w):=h.mono fun _ _ ⟨_,e,d,g⟩=>⟨fun _=>(none,0),(show _=v from d)▸e,trivial,g⟩
theorem RtW.of_nb{P:Program}{f:FuncId}{args:Array Value}{w:World}{x:Nat}{b:Bool}(h:Calls P f args w (Rt (.nb x b) w)):Calls P f args w (RtW (.nb x b) w):=h.mono fun _ _ ⟨_,e,⟨p,n,d,s⟩,g⟩=>⟨fun _=>(p,n),by rw[e,d];rfl,s,g⟩
theorem RtW.of_pt{P:Program}{f:FuncId}{args:Array Value}{w:World}{x z:Nat}{b:Bool}(h:Calls P f args w (Rt (.pt x z b) w)):Calls P f args w (RtW (.pt x z b) w):=h.mono fun _ _ ⟨_,e,⟨p,n,q,m,d,s,t⟩,g⟩=>⟨fun i=>if i=0 then(p,n) else(q,m),by rw[e,d];rfl,⟨s,t⟩,g⟩
abbrev Kw.E(v:Value):Kw:=.c (.tuple #[v,.int .i64 0])
abbrev Kw.N(x:Nat):Kw:=.c (.agg (nw 9 x))
abbrev Kw.T:Kw:=.c (.bool true)
abbrev Kw.F:Kw:=.c (.bool false)
abbrev Kw.O:Kw:=.c (.int .i64 0)
theorem fzw:(∀(l:List Oper) (kp:List Kw) (a:Act) (x:Nat→Wt),FW l kp a x=putFrom (wvals kp x) 0 l a)∧(∀(v:Nat→Value) (k:Nat) (a:Act),putFrom v k [] a=a)∧(∀(v:Nat→Value) (k:Nat) (o:Oper) (l:List Oper) (a:Act),putFrom v k (o :: l) a=putFrom v (k+1) l (a.put o.dst (v k)))∧(∀t f (d:Tmp) (v:Value),Act.put ⟨t,f⟩ (some d) v=⟨t.setIfInBounds d v,f⟩)∧(∀(a:Act) (v:Value),a.put none v=a)∧(∀(l:List Value) (i:Nat) (a:Value),l.toArray.setIfInBounds i a=(l.set i a).toArray)∧(∀(x a:Value) (l:List Value),(x :: l).set 0 a=a :: l)∧(∀(x a:Value) (l:List Value) (i:Nat),(x :: l).set (i+1) a=x :: l.set i a)∧(∀(kp:List Kw) (x:Nat→Wt) (j:Nat),wvals kp x j=(kW kp j).val (x j))∧(∀(kp:List Kw) (i:Nat),kW kp i=kp.getD i .u)∧(∀(x d:Kw) (l:List Kw),(x :: l).getD 0 d=x)∧(∀(x d:Kw) (l:List Kw) (i:Nat),(x :: l).getD (i+1) d=l.getD i d)∧(∀v y,(Kw.c v).val y=v)∧(∀y,Kw.u.val y=undef)∧(∀x y,(Kw.n x).val y=.slice (y 0).1 (dl x) (y 0).2)∧(∀x f y,(Kw.nb x f).val y=.tuple #[.slice (y 0).1 (dl x) (y 0).2,.bool f])∧(∀x z f y,(Kw.pt x z f).val y=.agg (ptA (y 0).1 x (y 0).2 (y 1).1 z (y 1).2 f))∧(∀x y,(Kw.N x).val y=.agg (nw 9 x))∧(∀y,Kw.T.val y=.bool true)∧(∀y,Kw.F.val y=.bool false)∧(∀y,Kw.O.val y=.int .i64 0)∧(∀v y,(Kw.E v).val y=.tuple #[v,.int .i64 0]):=by
 refine⟨?_,?_,?_,?_,?_,?_,?_,?_,?_,?_,?_,?_,?_,?_,?_,?_,?_,?_,?_,?_,?_,?_⟩
 all_goals intros;first|rfl|simp
theorem ObW.z{P:Program}{l:List Oper}{a0:Act}{W:World}{kp:List Kw}{i:Nat}{f:FuncId}{a:Array Value}{c:Value}(h:∀v,Calls P f a v fun e w'=>e=.returned c∧Gr v w')(hk:kW kp i=.c c:=by rfl)(hr:(fun x v=>resW P l kp a0 x v i)=fun _ v=>some (.ok (.enter f a) v):=by kernel_rfl):ObW P l kp a0 W i:=ObW.k (fun _=>a) (fun _ v _ _=>by rw[hk];exact RtW.of_c (Rt.c (h v))) hr
theorem ObW.y{P:Program}{l:List Oper}{a0:Act}{W:World}{kp:List Kw}{i:Nat}{f:FuncId}{a:Array Value}{c:Value}(h:∀v,Calls P f a v fun e w'=>e=.returned c∧w'=v)(hk:kW kp i=.c c:=by rfl)(hr:(fun x v=>resW P l kp a0 x v i)=fun _ v=>some (.ok (.enter f a) v):=by kernel_rfl):ObW P l kp a0 W i:=ObW.k (fun _=>a) (fun _ v _ _=>by rw[hk];exact RtW.of_c (Rt.same (h v))) hr
theorem lqA{α:Type}(l:List α)(i:Nat)(a:α):l.toArray.setIfInBounds i a=(l.set i a).toArray:=List.setIfInBounds_toArray l i a
theorem lqB{α:Type}{x:α}{xs:List α}{a:α}:(x :: xs).set 0 a=a :: xs:=rfl
theorem lqC{α:Type}{x:α}{xs:List α}{i:Nat}{a:α}:(x :: xs).set (i+1) a=x :: xs.set i a:=rfl
theorem lqD{α:Type}{x:α}{xs:List α}{d:α}:(x :: xs).getD 0 d=x:=rfl
theorem lqE{α:Type}{x:α}{xs:List α}{n:Nat}{d:α}:(x :: xs).getD (n+1) d=xs.getD n d:=rfl
end
section
def Kw.a:Kw:=⟨fun y=>.pointer (some ⟨(y 0).2,0,none⟩),fun _ _=>True,fun _ _ _ _ _=>trivial,0,fun _ _ _=>trivial,fun h=>absurd h (by decide)⟩
def Kw.r(n:Nat)(c:Array Value):Kw:=⟨fun y=>.slice (some ⟨(y 0).2,0,none⟩) n n,fun y w=>Vr w (y 0).2 c,fun _ _ _ h g=>h.gr g,0,fun h=>absurd rfl h,fun h=>absurd h (by decide)⟩
structure Ent where
 j:Nat
 i:Nat
 t:TypeId
 z:Array Value
 c:(Nat→Wt)→Array Value
def Blank(c:Array Value):Prop:=∀(i:Nat) (n:Int),c[i]? ≠ some (Value.int .u32 n)
def FarK(z:Array Value)(k:Kw):Prop:=∀y w b d,blk w b=z→k.ok y w→k.ok y (setBlk w b d)
section
variable {z:Array Value}
theorem fkc{v:Value}:FarK z (.c v):=fun _ _ _ _ _ _=>trivial
theorem fku:FarK z .u:=fun _ _ _ _ _ _=>trivial
theorem fka:FarK z .a:=fun _ _ _ _ _ _=>trivial
theorem fkn{x:Nat}(h:Blank z):FarK z (.n x):=fun _ _ _ _ e k=>Sl.set k (e▸h)
theorem fkp{x y:Nat}{f:Bool}(h:Blank z):FarK z (.pt x y f):=fun _ _ _ _ e k=>⟨Sl.set k.1 (e▸h),Sl.set k.2 (e▸h)⟩
end
def FarL(z:Array Value):List Kw→Prop
 | []=>True
 | k :: r=>FarK z k∧FarL z r
theorem FarL.at{z:Array Value}:∀{kp:List Kw},FarL z kp→∀i,FarK z (kW kp i)
 | [],_,_=>fku
 | _ :: _,h,0=>h.1
 | _ :: r,h,i+1=>FarL.at (kp:=r) h.2 i
def ExV(ex:List Nat)(st:List Ent):List Nat:=ex++st.map Ent.j++st.map Ent.i
structure ObV(P:Program)(l:List Oper)(kp:List Kw)(a0:Act)(e:Ent):Prop where
 hc:∀x x',(∀j,wts l e.i j=true→(kW kp j).val (x j)=(kW kp j).val (x' j))→e.c x=e.c x'
 hs:∀x v b,blk v b=e.z→frz v b=(0,0)→(exI (.store e.t (.const (.pointer (some ⟨b,0,none⟩))) (.const (.agg (e.c x))))).run P v=.ok .skip (setBlk v b (e.c x))
 hz:0<e.z.size
 hf:FarL e.z kp
 hn:∀v:World,(exI (.alloc e.t)).run P v=.ok (.value (.pointer (some ⟨v.heap.size,0,none⟩))) (v.alloc (.cells e.z e.t)):=by intro vv;simp[go_sem,exI]
 ka:kW kp e.j=.a:=by rfl
 ku:kW kp e.i=.u:=by rfl
 hw:wts l e.i e.j=true:=by rfl
 rj:runW l kp a0 e.j=fun _=>some (exI (.alloc e.t)):=by kernel_rfl
 ri:runW l kp a0 e.i=fun x=>some (exI (.store e.t (.const (.pointer (some ⟨(x e.j 0).2,0,none⟩))) (.const (.agg (e.c x))))):=by kernel_rfl
structure ObY(P:Program)(l:List Oper)(kp:List Kw)(a0:Act)(e:Ent):Prop where
 hc:∀x x',(∀j,wts l e.i j=true→(kW kp j).val (x j)=(kW kp j).val (x' j))→e.c x=e.c x'
 hs:∀x v b,blk v b=e.z→frz v b=(0,0)→(exI (.store e.t (.const (.pointer (some ⟨b,0,none⟩))) (.const (.agg (e.c x))))).run P v=.ok .skip (setBlk v b (e.c x))
 hz:0<e.z.size
 hn:∀v:World,(exI (.alloc e.t)).run P v=.ok (.value (.pointer (some ⟨v.heap.size,0,none⟩))) (v.alloc (.cells e.z e.t)):=by intro vv;simp[go_sem,exI]
 ka:kW kp e.j=.a:=by rfl
 ku:kW kp e.i=.u:=by rfl
 hw:wts l e.i e.j=true:=by rfl
 rj:runW l kp a0 e.j=fun _=>some (exI (.alloc e.t)):=by kernel_rfl
 ri:runW l kp a0 e.i=fun x=>some (exI (.store e.t (.const (.pointer (some ⟨(x e.j 0).2,0,none⟩))) (.const (.agg (e.c x))))):=by kernel_rfl
theorem ObV.y{P:Program}{l:List Oper}{kp:List Kw}{a0:Act}{e:Ent}(h:ObV P l kp a0 e):ObY P l kp a0 e:=⟨h.hc,h.hs,h.hz,h.hn,h.ka,h.ku,h.hw,h.rj,h.ri⟩
def ForY{α:Type}(p:α→Prop):List α→Prop
 | []=>True
 | e :: r=>p e∧ForY p r
theorem ForY.nil{α:Type}{p:α→Prop}:ForY p []:=trivial
theorem ForY.at{α:Type}{p:α→Prop}:∀{st:List α},ForY p st→∀e,e∈st→p e
 | [],_,_,h=>by cases h
 | e :: r,ho,e',h=>by
  rcases List.mem_cons.1 h with rfl|h
  ·exact ho.1
  ·exact ForY.at ho.2 e' h
def ObR(P:Program)(l:List Oper)(kp:List Kw)(a0:Act)(i:Nat):Prop:=
 ∃n c t op,kW kp i=.r n c∧(∀v:World,(exI op).run P v=.ok (.value (.slice (some ⟨v.heap.size,0,none⟩) n n)) (v.alloc (.cells c t)))∧runW l kp a0 i=fun _=>some (exI op)
def Sep(st:List Ent)(rw:List Nat)(listed:Array Bool)(vals:Nat→Value):Prop:=
 ∀e,e∈st→listed.getD e.j false=true→∀j,j∈rw→listed.getD j false=true→∀b' b n c,vals e.j=.pointer (some ⟨b',0,none⟩)→vals j=.slice (some ⟨b,0,none⟩) n c→b'≠b
def ObsV(P:Program)(l:List Oper)(kp:List Kw)(a0:Act):List Ent→Prop
 | []=>True
 | e :: r=>ObV P l kp a0 e∧ObsV P l kp a0 r
theorem ObsV.nil{P:Program}{l:List Oper}{kp:List Kw}{a0:Act}:ObsV P l kp a0 []:=trivial
theorem ObsV.cons{P:Program}{l:List Oper}{kp:List Kw}{a0:Act}{e:Ent}{r:List Ent}(h:ObV P l kp a0 e)(t:ObsV P l kp a0 r):ObsV P l kp a0 (e :: r):=⟨h,t⟩
theorem ObsV.at{P:Program}{l:List Oper}{kp:List Kw}{a0:Act}:∀{st:List Ent},ObsV P l kp a0 st→∀e,e∈st→ObV P l kp a0 e
 | [],_,_,h=>by cases h
 | e :: r,ho,e',h=>by
  rcases List.mem_cons.1 h with rfl|h
  ·exact ho.1
  ·exact ObsV.at ho.2 e' h
theorem map_one{α:Type}(f:α→Nat):∀{st:List α},(st.map f).Nodup→∀e e',e∈st→e'∈st→f e=f e'→e=e'
 | [],_,_,_,h,_,_=>by cases h
 | a :: r,hn,e,e',h,h',he=>by
  rw[List.map_cons,List.nodup_cons]at hn
  rcases List.mem_cons.1 h with h1|h1 <;> rcases List.mem_cons.1 h' with h2|h2
  ·rw[h1,h2]
  ·rw[h1]at he;exact absurd (he▸List.mem_map_of_mem h2) hn.1
  ·rw[h2]at he;exact absurd (he▸List.mem_map_of_mem h1) hn.1
  ·exact map_one f hn.2 e e' h1 h2 he
def RV(W:World)(l:List Oper)(kp:List Kw)(st:List Ent)(listed:Array Bool)(vals:Nat→Value)(w:World):Prop:=
 RZ W (kp.map Kw.kz) listed vals w∧(∀e,e∈st→listed.getD e.i false=true→∀j,wts l e.i j=true→listed.getD j false=true) ∧
 ∃B:Nat→Nat,(∀e,e∈st→listed.getD e.j false=true→vals e.j=.pointer (some ⟨B e.j,0,none⟩)∧W.heap.size≤B e.j∧B e.j<w.heap.size∧frz w (B e.j)=(0,0) ∧
  (listed.getD e.i false=false→blk w (B e.j)=e.z)∧(listed.getD e.i false=true→∃x:Nat→Wt,(∀j,wts l e.i j=true→vals j=(kW kp j).val (x j))∧blk w (B e.j)=e.c x)) ∧
  (∀e e',e∈st→e'∈st→listed.getD e.j false=true→listed.getD e'.j false=true→B e.j=B e'.j→e=e')
section
variable {P:Program} {l:List Oper} {Q:Exit→Act→World→Prop} {a0:Act} {W:World} {kp:List Kw} {ex rw:List Nat} {st:List Ent} {listed:Array Bool} {vals:Nat→Value} {w w':World}
theorem set_mono{i j:Nat}(h:listed.getD j false=true)(hi:i<listed.size):(listed.setIfInBounds i true).getD j false=true:=by
 grind [getD_set_same,getD_set_other]
theorem ne_un{i j:Nat}(h:listed.getD j false=true)(hl:listed.getD i false=false):j≠i:=fun e=>by
 subst e;rw[h]at hl;cases hl
theorem RV.next(h:RV W l kp st listed vals w){i:Nat}{v:Value}(hi:i<listed.size)(hl:listed.getD i false=false)(hA:∀e,e∈st→e.j≠i∧e.i≠i)(hg:Gr w w')(hv:kz (kp.map Kw.kz) i v w'):
 RV W l kp st (listed.setIfInBounds i true) (upd vals i v) w':=by
 obtain⟨K,G,B,L,P⟩:=h
 refine⟨K.next hg hv,fun e d f j C=>?_,B,fun e d q=>?_,fun e H d A I J=>?_⟩
 ·rw[getD_set_other _ _ _ (Ne.symm (hA e d).2)]at f;exact set_mono (G e d f j C) hi
 ·rw[getD_set_other _ _ _ (Ne.symm (hA e d).1)]at q;obtain⟨Q,R,D,S,U,V⟩:=L e d q
  refine⟨by simp only[upd,(hA e d).1,if_false];exact Q,R,Nat.lt_of_lt_of_le D hg.below.size,by rw[hg.frz _ D];exact S,fun h=>?_,fun h=>?_⟩
  ·rw[getD_set_other _ _ _ (Ne.symm (hA e d).2)]at h;rw[hg.blk _ D];exact U h
  ·rw[getD_set_other _ _ _ (Ne.symm (hA e d).2)]at h;obtain⟨x,X,Y⟩:=V h;refine⟨x,fun j C=>?_,by rw[hg.blk _ D];exact Y⟩;simp only[upd,ne_un (G e d h j C) hl,if_false];exact X j C
 ·rw[getD_set_other _ _ _ (Ne.symm (hA e d).1)]at I;rw[getD_set_other _ _ _ (Ne.symm (hA H A).1)]at J;exact P e H d A I J
theorem RV.alloc(h:RV W l kp st listed vals w)(e:Ent)(he:e∈st)(hj1:(st.map Ent.j).Nodup)(hij:∀e e',e∈st→e'∈st→e.i≠e'.j)(hw:wts l e.i e.j=true)(hi:e.j<listed.size)(hl:listed.getD e.j false=false)(hk:e.j<kp.length)(ka:kW kp e.j=.a):
 RV W l kp st (listed.setIfInBounds e.j true) (upd vals e.j (.pointer (some ⟨w.heap.size,0,none⟩))) (w.alloc (.cells e.z e.t)):=by
 obtain⟨S,P,B,Q,U⟩:=h;have v:Gr w (w.alloc (.cells e.z e.t)):=(Gr.refl w).alloc _
 have R:listed.getD e.i false≠true:=fun h=>by rw[P e he h e.j hw]at hl;cases hl
 refine⟨S.next v ((kz_W hk _ _).2 ⟨fun _=>(none,w.heap.size),by rw[ka];rfl,by rw[ka];trivial⟩),fun e' d A j D=>?_,fun m=>if m=e.j then w.heap.size else B m,fun e' d C=>?_,fun G H f q I J K=>?_⟩
 ·rw[getD_set_other _ _ _ (Ne.symm (hij e' e d he))]at A;exact set_mono (P e' d A j D) hi
 ·by_cases ee:e'.j=e.j
  ·obtain rfl:=map_one Ent.j hj1 e' e d he ee;simp only[if_true,upd];refine⟨trivial,S.1.below.size,by simp,frz_alloc_at _ _ _ _ _ rfl,fun _=>blk_alloc_at _ _ _ _ _ rfl,fun h=>?_⟩;rw[getD_set_other _ _ _ (Ne.symm (hij e' e' d d))]at h;exact absurd h R
  ·rw[getD_set_other _ _ _ (Ne.symm ee)]at C;obtain⟨V,X,L,Y,Z,a6⟩:=Q e' d C;simp only[ee,if_false,upd]
   refine⟨V,X,Nat.lt_of_lt_of_le L v.below.size,by rw[v.frz _ L];exact Y,fun h=>?_,fun h=>?_⟩
   ·rw[getD_set_other _ _ _ (Ne.symm (hij e' e d he))]at h;rw[v.blk _ L];exact Z h
   ·rw[getD_set_other _ _ _ (Ne.symm (hij e' e d he))]at h;obtain⟨x,hx,hb⟩:=a6 h;refine⟨x,fun j D=>?_,by rw[v.blk _ L];exact hb⟩;simp only[ne_un (P e' d h j D) hl,if_false];exact hx j D
 ·by_cases x1:G.j=e.j <;> by_cases x2:H.j=e.j
  ·exact map_one Ent.j hj1 G H f q (x1.trans x2.symm)
  ·rw[getD_set_other _ _ _ (Ne.symm x2)]at J;simp only[x1,x2,if_true,if_false]at K;have:=(Q H q J).2.2.1
   omega
  ·rw[getD_set_other _ _ _ (Ne.symm x1)]at I;simp only[x1,x2,if_true,if_false]at K;have:=(Q G f I).2.2.1
   omega
  ·rw[getD_set_other _ _ _ (Ne.symm x1)]at I;rw[getD_set_other _ _ _ (Ne.symm x2)]at J;simp only[x1,x2,if_false]at K;exact U G H f q I J K
theorem RV.at(h:RV W l kp st listed vals w){e:Ent}(hl:listed.getD e.j false=true)(he:e∈st){b:Nat}(hv:vals e.j=.pointer (some ⟨b,0,none⟩))(hi:listed.getD e.i false=false):blk w b=e.z:=by
 obtain⟨-,-,B,f,-⟩:=h;obtain⟨d,-,-,-,q,-⟩:=f e he hl;rw[hv]at d;simp only[Value.pointer.injEq,Option.some.injEq,Addr.mk.injEq]at d;rw[d.1];exact q hi
theorem RV.storeY(h:RV W l kp st listed vals w)(e:Ent)(he:e∈st)(hi1:(st.map Ent.i).Nodup)(hij:∀e e',e∈st→e'∈st→e.i≠e'.j)(hlen:listed.size≤kp.length)(hi:e.i<listed.size)(hl:listed.getD e.i false=false)(ku:kW kp e.i=.u)(hz:0<e.z.size)(x:Nat→Wt)(hx:∀j,wts l e.i j=true→listed.getD j false=true∧vals j=(kW kp j).val (x j))(hw:wts l e.i e.j=true)(ka:kW kp e.j=.a)(hkeep:∀j y,listed.getD j false=true→vals j=(kW kp j).val y→(kW kp j).ok y w→(kW kp j).ok y (setBlk w (x e.j 0).2 (e.c x))):
 blk w (x e.j 0).2=e.z∧frz w (x e.j 0).2=(0,0)∧RV W l kp st (listed.setIfInBounds e.i true) (upd vals e.i undef) (setBlk w (x e.j 0).2 (e.c x)):=by
 obtain⟨R,S,B,U,K⟩:=h;obtain⟨v,L⟩:=hx e.j hw;obtain⟨V,a2,a3,a4,a5,a6⟩:=U e he v
 have hB:(x e.j 0).2=B e.j:=by
  rw[L,ka]at V
  simpa [Kw.a]using V
 rw[hB]at hkeep ⊢;have X:=a5 hl
 refine⟨X,a4,⟨gr_setNew R.1 a2,fun j q=>?_⟩,fun e' d C j q=>?_,B,fun e' d f=>?_,fun Y Z D G H J h7=>?_⟩
 ·by_cases ee:j=e.i
  ·subst ee
   refine(kz_W (by omega) _ _).2 ⟨fun _=>(none,0),?_,?_⟩
   ·rw[ku];simp only[upd,if_true];rfl
   ·rw[ku];trivial
  ·rw[getD_set_other _ _ _ (Ne.symm ee)]at q;simp only[upd,ee,if_false]
   have I:j<kp.length:=by
    rcases Nat.lt_or_ge j listed.size with h|h
    ·omega
    ·simp[h]at q
   obtain⟨y,H,J⟩:=(kz_W I _ _).1 (R.2 j q);exact(kz_W I _ _).2 ⟨y,H,hkeep j y q H J⟩
 ·by_cases ee:e'.i=e.i
  ·obtain rfl:=map_one Ent.i hi1 e' e d he ee;exact set_mono (hx j q).1 hi
  ·rw[getD_set_other _ _ _ (Ne.symm ee)]at C;exact set_mono (S e' d C j q) hi
 ·rw[getD_set_other _ _ _ (hij e e' he d)]at f;obtain⟨b1,b2,b3,b4,b5,b6⟩:=U e' d f
  refine⟨by simp only[upd,Ne.symm (hij e e' he d),if_false];exact b1,b2,by rw[size_setBlk];exact b3,by rw[frz_setBlk];exact b4,fun h=>?_,fun h=>?_⟩
  ·by_cases ee:e'.i=e.i
   ·rw[ee,getD_set_same _ _ hi]at h;cases h
   ·rw[getD_set_other _ _ _ (Ne.symm ee)]at h;have A:B e.j≠B e'.j:=fun P=>ee (by rw[K e e' he d v f P]);rw[blk_other _ _ _ _ A];exact b5 h
  ·by_cases ee:e'.i=e.i
   ·obtain rfl:=map_one Ent.i hi1 e' e d he ee;refine⟨x,fun j q=>?_,blk_setBlk _ _ _ (by rw[X];exact hz)⟩;simp only[upd,ne_un (hx j q).1 hl,if_false];exact(hx j q).2
   ·rw[getD_set_other _ _ _ (Ne.symm ee)]at h;have A:B e.j≠B e'.j:=fun P=>ee (by rw[K e e' he d v f P]);obtain⟨y,hy,Q⟩:=b6 h;refine⟨y,fun j q=>?_,by rw[blk_other _ _ _ _ A];exact Q⟩;simp only[upd,ne_un (S e' d h j q) hl,if_false];exact hy j q
 ·rw[getD_set_other _ _ _ (hij e Y he D)]at H;rw[getD_set_other _ _ _ (hij e Z he G)]at J;exact K Y Z D G H J h7
theorem Sep.next(h:Sep st rw listed vals){i:Nat}{v:Value}(hA:∀e,e∈st→e.j≠i)(hr:i ∉ rw):Sep st rw (listed.setIfInBounds i true) (upd vals i v):=fun e f l j q x C b n c A B=>by
 have d:j≠i:=fun e=>hr (e▸q);rw[getD_set_other _ _ _ (Ne.symm (hA e f))]at l;rw[getD_set_other _ _ _ (Ne.symm d)]at x;simp only[upd,hA e f,if_false]at A;simp only[upd,d,if_false]at B;exact h e f l j q x C b n c A B
theorem row_at(hR:RZ W (kp.map Kw.kz) listed vals w){j:Nat}(hj:listed.getD j false=true)(hl:j<kp.length){n:Nat}{c:Array Value}(hk:kW kp j=.r n c){b m q:Nat}(hv:vals j=.slice (some ⟨b,0,none⟩) m q):Vr w b c:=by
 obtain⟨y,d,f⟩:=(kz_W hl _ _).1 (hR.2 j hj)
 grind [Kw.r]
theorem run_W{i:Nat}{x:Nat→Wt}{e:(Nat→Wt)→Sem Next}(h:runW l kp a0 i=fun x=>some (e x)):wnt l i (FW l kp a0 x)=true∧execOp (FW l kp a0 x).eval (opW l i)=e x:=by
 have:=congrFun h x
 grind [runW]
theorem stepG(d:Bool)(hk:chkW l kp (ExV (ex++rw) st) l.length=true)(hp:pureL P l kp a0 (ExV (ex++rw) st) l.length=pureR kp (ExV (ex++rw) st) l.length)(ho:ObsW P l kp a0 W ex)(hrw:ForY (ObR P l kp a0) rw)(hv:∀e,e∈st→ObY P l kp a0 e)(hfar:∀e,e∈st→∀j,j<l.length→j∈rw∨FarK e.z (kW kp j))(hyj:∀j,j∈rw→∀e,e∈st→e.j≠j∧e.i≠j)(hnd:(st.map Ent.j).Nodup∧(st.map Ent.i).Nodup∧∀a,a∈st.map Ent.i→∀b,b∈st.map Ent.j→a≠b):StepR d P l Q a0 (fun listed vals w=>RV W l kp st listed vals w∧Sep st rw listed vals):=by
 intro listed vals a w i o hz ag hF hi hl hd _;obtain⟨I,hS⟩:=ag
 have U:i<l.length:=by simpa using (Array.getElem?_eq_some_iff.1 hi).1
 have L:i<listed.size:=by rw[hz];simpa using U
 have ab:=(chk_u hk).2;have V:=opW_is hi;have X:∀e e',e∈st→e'∈st→e.i≠e'.j:=fun e e' f q=>hnd.2.2 _ (List.mem_map_of_mem f) _ (List.mem_map_of_mem q);obtain⟨x,hx,Y,Z⟩:=atW hk I.1.2 hF hi U hd;rw[Z];have ah:=fun(u:Value) (v:World)=>kz_W (kp:=kp) (j:=i) (by omega) u v
 have ac:∀j,listed.getD j false=true→j<kp.length:=fun j J=>by
  rcases Nat.lt_or_ge j listed.size with h|h
  ·rw[hz]at h;simp at h;omega
  ·simp[h]at J
 by_cases hA:∃e,e∈st∧e.j=i
 ·obtain⟨e,f,rfl⟩:=hA;have C:=hv e f;obtain⟨D,R⟩:=run_W C.rj;refine Or.inl ⟨D,wp_val _ (by rw[Y,←V,R];exact C.hn w) ⟨_,rfl,I.alloc e f hnd.1 X C.hw L hl (by omega) C.ka,fun e' q S j J K b' b n c G h8=>?_⟩⟩;have A:=(hyj j J e f).1;rw[getD_set_other _ _ _ A]at K;simp only[upd,Ne.symm A,if_false]at h8
  by_cases ee:e'.j=e.j
  ·simp only[upd,ee,if_true,Value.pointer.injEq,Option.some.injEq,Addr.mk.injEq]at G;obtain⟨n',c',t',ai,aa,-,-⟩:=hrw.at j J;have:b+1≤w.heap.size:=(row_at I.1 K (ac j K) aa h8).p
   omega
  ·rw[getD_set_other _ _ _ (Ne.symm ee)]at S;simp only[upd,ee,if_false]at G;exact hS e' q S j J K b' b n c G h8
 by_cases hB:∃e,e∈st∧e.i=i
 ·obtain⟨e,f,rfl⟩:=hB;have C:=hv e f;obtain⟨D,R⟩:=run_W C.ri;have A:=hx e.j C.hw
  obtain⟨hb,hf,aj⟩:=I.storeY e f hnd.2.1 X (by rw[hz];simp[ab]) L hl C.ku C.hz x (fun j J=>⟨(hx j J).1,(hx j J).2.1⟩) C.hw C.ka (fun j y S K G=>by
   rcases hfar e f j (by have:=ac j S;omega) with hjr|hfk
   ·obtain⟨n',c',t',ai,aa,-,-⟩:=hrw.at j hjr;rw[aa]at K G ⊢;exact G.other (hS e f A.1 j hjr S _ _ _ _ (by rw[A.2.1,C.ka];rfl) K)
   ·exact hfk y w _ _ (I.at A.1 f (by rw[A.2.1,C.ka];rfl) hl) G)
  exact Or.inl ⟨D,wp_skip (by rw[Y,←V,R];exact C.hs x w _ hb hf) ⟨_,rfl,aj,hS.next (fun e' q=>Ne.symm (X e e' f q)) fun h=>(hyj _ h e f).2 rfl⟩⟩
 have H:∀e,e∈st→e.j≠i∧e.i≠i:=fun e f=>⟨fun h=>hA ⟨e,f,h⟩,fun h=>hB ⟨e,f,h⟩⟩
 by_cases hmr:i∈rw
 ·obtain⟨n,c,t,op,ae,af,hr⟩:=hrw.at i hmr;obtain⟨D,R⟩:=run_W hr;refine Or.inl ⟨D,wp_val _ (by rw[Y,←V,R];exact af w) ⟨_,rfl,I.next L hl H ((Gr.refl w).alloc _) ((ah _ _).2 ⟨fun _=>(none,w.heap.size),by rw[ae];rfl,by rw[ae];exact Vr.new _ _ _⟩),fun e' q S j J K b' b n c G h8=>?_⟩⟩;rw[getD_set_other _ _ _ (Ne.symm (H e' q).1)]at S;simp only[upd,(H e' q).1,if_false]at G
  by_cases ee:j=i
  ·subst ee;simp only[upd,if_true,Value.slice.injEq,Option.some.injEq,Addr.mk.injEq]at h8;obtain⟨-,-,B,h3,-⟩:=I;obtain⟨a1,-,a3,-⟩:=h3 e' q S;rw[G]at a1;simp only[Value.pointer.injEq,Option.some.injEq,Addr.mk.injEq]at a1
   omega
  ·rw[getD_set_other _ _ _ (Ne.symm ee)]at K;simp only[upd,ee,if_false]at h8;exact hS e' q S j J K b' b _ _ G h8
 have nx:∀v w',Gr w w'→kz (kp.map Kw.kz) i v w'→RV W l kp st (listed.setIfInBounds i true) (upd vals i v) w'∧Sep st rw (listed.setIfInBounds i true) (upd vals i v):=fun v w' hg h=>⟨I.next L hl H hg h,hS.next (fun e f=>(H e f).1) hmr⟩
 have ak:i∈ExV (ex++rw) st→ObW P l kp a0 W i:=fun h=>by
  unfold ExV at h;rw[List.mem_append,List.mem_append,List.mem_append]at h
  rcases h with ((h|h)|h)|h
  ·exact ho.at i h
  ·exact absurd h hmr
  ·obtain⟨e,f,h⟩:=List.mem_map.1 h;exact absurd ⟨e,f,h⟩ hA
  ·obtain⟨e,f,h⟩:=List.mem_map.1 h;exact absurd ⟨e,f,h⟩ hB
 obtain⟨D,R⟩|⟨D,R⟩:=stepW hk hp listed vals a w i o ak I.1.1 I.1.2 hF hi U hd
 ·rw[Z]at D;refine Or.inl ⟨D,Oper.wp_mono (fun a' w' h=>?_) R⟩;obtain⟨u,rfl,hg,hu⟩:=h;exact⟨u,rfl,nx u w' hg hu⟩
 ·rw[Z]at D;exact Or.inr ⟨D,nx _ _ (Gr.refl _) R⟩
def NewV(W:World)(x:Nat→Wt)(v:World):List Ent→Prop
 | []=>True
 | e :: r=>(W.heap.size≤(x e.j 0).2∧Vr v (x e.j 0).2 (e.c x))∧NewV W x v r
theorem NewV.of{x:Nat→Wt}{v:World}:∀{st:List Ent},(∀e,e∈st→W.heap.size≤(x e.j 0).2∧Vr v (x e.j 0).2 (e.c x))→NewV W x v st
 | [],_=>trivial
 | e :: _,h=>⟨h e (List.mem_cons_self ..),NewV.of fun e' he'=>h e' (List.mem_cons_of_mem _ he')⟩
def chkV(st:List Ent):Bool:=decide (st.map Ent.j).Nodup&&decide (st.map Ent.i).Nodup&&((st.map Ent.i).all fun a=>(st.map Ent.j).all fun b=>a != b)
theorem wp_g(d:Bool){id:Nat}(kp:List Kw)(ex rw:List Nat)(st:List Ent)(ho:ObsW P l kp a0 W ex)(hr:ForY (ObR P l kp a0) rw)(hv:∀e,e∈st→ObY P l kp a0 e)(hfar:∀e,e∈st→∀j,j<l.length→j∈rw∨FarK e.z (kW kp j))(hyj:∀j,j∈rw→∀e,e∈st→e.j≠j∧e.i≠j)(hfin:∀x v,Gr W v→(∀j,(kW kp j).ok (x j) v)→NewV W x v st→Q .normal (FW l kp a0 x) v)(hm:(!d || P.follows .mixedOrders)=true)(hk:(chkW l kp (ExV (ex++rw) st) l.length&&chkV st)=true)(hp:pureL P l kp a0 (ExV (ex++rw) st) l.length=pureR kp (ExV (ex++rw) st) l.length):(Code.region id l.toArray d).wp P Q a0 W:=by
 simp only[Bool.and_eq_true]at hk;obtain⟨hk,G⟩:=hk;simp only[chkV,Bool.and_eq_true,decide_eq_true_eq,List.all_eq_true,bne_iff_ne,ne_eq]at G;obtain⟨⟨n1,n2⟩,n3⟩:=G;obtain⟨K,H⟩:=chk_u hk
 refine wp_region_ord d (fun h=>by subst h;simpa using hm) K _ (fun f w' hn hg=>?_) (stepG d hk hp ho hr hv hfar hyj ⟨n1,n2,n3⟩) fun f V a v q L hF=>?_
 ·have I:∀(i:Nat) (p:Prop),f.getD i false=true→p:=fun i p h=>by rw[hn]at h;cases h
  exact⟨⟨⟨hg,fun j A=>I j _ A⟩,fun e _ h=>I e.i _ h,fun _=>0,fun e _ h=>I e.j _ h,fun e _ _ _ h=>I e.j _ h⟩,fun e _ h=>I e.j _ h⟩
 ·rw[hF.final K q];obtain⟨⟨X,h2,B,h3,-⟩,-⟩:=L;obtain⟨x,C,R⟩:=finW H fun j A=>X.2 j (q j (by simpa using A));rw[putFrom_congr (vals':=wvals kp x) l 0 a0 fun j o A _=>by rw[Nat.zero_add];exact C j (List.getElem?_eq_some_iff.1 A).1];refine hfin x v X.1 R (NewV.of fun e Y=>?_);have S:=hv e Y
  have Z:∀j,wts l e.i j=true→j<l.length∧e.i<l.length:=fun j A=>by
   have hi:e.i<l.length:=by
    rcases Nat.lt_or_ge e.i l.length with h|h
    ·exact h
    ·rw[wts,opW,List.getElem?_eq_none (by omega)]at A;simp at A
   have ho:l.toArray[e.i]? = some l[e.i]:=by simp[hi]
   rw[wts,opW_is ho,Array.any_toList]at A;obtain⟨ed,U,J⟩:=Array.any_eq_true.1 A;simp only[Bool.and_eq_true,beq_iff_eq]at J;have:=(uniq_at K ho).2 _ (Array.getElem_mem U) J.2
   omega
  have D:=Z e.j S.hw;obtain⟨a1,a2,a3,a4,-,a6⟩:=h3 e Y (q e.j (by simpa using D.1));obtain⟨y,hy,J⟩:=a6 (q e.i (by simpa using D.2))
  have hB:(x e.j 0).2=B e.j:=by
   rw[C e.j D.1,wvals,S.ka]at a1
   simpa [Kw.a]using a1
  rw[hB];exact⟨a2,by rw[J];exact S.hc y x fun j A=>by rw[←hy j A,C j (Z j A).1];rfl,a4,a3⟩
theorem wp_v(d:Bool){id:Nat}(kp:List Kw)(ex:List Nat)(st:List Ent)(ho:ObsW P l kp a0 W ex)(hv:ObsV P l kp a0 st)(hfin:∀x v,Gr W v→(∀j,(kW kp j).ok (x j) v)→NewV W x v st→Q .normal (FW l kp a0 x) v)(hm:(!d || P.follows .mixedOrders)=true:=by kernel_rfl)(hk:(chkW l kp (ExV ex st) l.length&&chkV st)=true:=by kernel_rfl)(hp:pureL P l kp a0 (ExV ex st) l.length=pureR kp (ExV ex st) l.length:=by kernel_rfl):(Code.region id l.toArray d).wp P Q a0 W:=
 wp_g d kp ex [] st ho .nil (fun e f=>(hv.at e f).y) (fun e f j _=>.inr ((hv.at e f).hf.at j)) (fun j h=>by cases h) hfin hm (by rw[List.append_nil];exact hk) (by rw[List.append_nil];exact hp)
end
theorem gen_v{P:Program}{c:Code}{Q:Exit→Act→World→Prop}{a:Act}{W:World}(R:World→Prop)(h:R W)(k:∀v,R v→c.wp P Q a v):c.wp P Q a W:=k W h
theorem blank_of{c:Array Value}(h:c.all (fun v=>match v with | .int .u32 _=>false|_=>true)=true):Blank c:=fun i n e=>by
 obtain⟨d,f⟩:=Array.getElem?_eq_some_iff.1 e;have:=Array.all_eq_true.1 h i d;rw[f]at this
 cases this
theorem zNat:0<(nw 9 0).size:=by decide +kernel
theorem FarL.t{z:Array Value}:∀{kp:List Kw},kp.map Kw.ok=kp.map (fun _ _ _=>True)→FarL z kp
 | [],_=>trivial
 | k :: r,h=>⟨fun y w b d _ _=>by have e:k.ok=fun _ _=>True:=(List.cons.inj h).1;rw[e];trivial,FarL.t (List.cons.inj h).2⟩
theorem ObV.k{P:Program}{l:List Oper}{kp:List Kw}{a0:Act}{e:Ent}(hz:0<e.z.size)(hf:FarL e.z kp)(hc:∀x x',(∀j,wts l e.i j=true→(kW kp j).val (x j)=(kW kp j).val (x' j))→e.c x=e.c x':=by intros;rfl)(hs:∀x v b,blk v b=e.z→frz v b=(0,0)→(exI (.store e.t (.const (.pointer (some ⟨b,0,none⟩))) (.const (.agg (e.c x))))).run P v=.ok .skip (setBlk v b (e.c x)):=by intro _ v b H F;dsimp only at H ⊢;simp[go_sem,exI,H,F])(hn:∀v:World,(exI (.alloc e.t)).run P v=.ok (.value (.pointer (some ⟨v.heap.size,0,none⟩))) (v.alloc (.cells e.z e.t)):=by intro vv;simp[go_sem,exI])(ka:kW kp e.j=.a:=by rfl)(ku:kW kp e.i=.u:=by rfl)(hw:wts l e.i e.j=true:=by rfl)(rj:runW l kp a0 e.j=fun _=>some (exI (.alloc e.t)):=by kernel_rfl)(ri:runW l kp a0 e.i=fun x=>some (exI (.store e.t (.const (.pointer (some ⟨(x e.j 0).2,0,none⟩))) (.const (.agg (e.c x))))):=by kernel_rfl):ObV P l kp a0 e:=⟨hc,hs,hz,hf,hn,ka,ku,hw,rj,ri⟩
theorem ObY.k{P:Program}{l:List Oper}{kp:List Kw}{a0:Act}{e:Ent}(hz:0<e.z.size)(hc:∀x x',(∀j,wts l e.i j=true→(kW kp j).val (x j)=(kW kp j).val (x' j))→e.c x=e.c x':=by intros;rfl)(hs:∀x v b,blk v b=e.z→frz v b=(0,0)→(exI (.store e.t (.const (.pointer (some ⟨b,0,none⟩))) (.const (.agg (e.c x))))).run P v=.ok .skip (setBlk v b (e.c x)):=by intro _ v b H F;dsimp only at H ⊢;simp[go_sem,exI,H,F])(hn:∀v:World,(exI (.alloc e.t)).run P v=.ok (.value (.pointer (some ⟨v.heap.size,0,none⟩))) (v.alloc (.cells e.z e.t)):=by intro vv;simp[go_sem,exI])(ka:kW kp e.j=.a:=by rfl)(ku:kW kp e.i=.u:=by rfl)(hw:wts l e.i e.j=true:=by rfl)(rj:runW l kp a0 e.j=fun _=>some (exI (.alloc e.t)):=by kernel_rfl)(ri:runW l kp a0 e.i=fun x=>some (exI (.store e.t (.const (.pointer (some ⟨(x e.j 0).2,0,none⟩))) (.const (.agg (e.c x))))):=by kernel_rfl):ObY P l kp a0 e:=⟨hc,hs,hz,hn,ka,ku,hw,rj,ri⟩
end
section
attribute [local go_sem ↓] uz1
attribute [local go_sem] uz2
section
attribute [local go_sem ↓] uz3
attribute [local go_sem] uz4 ones_nw
attribute [local go_sem ↓] loadMv_is storeMv_is buildMv_is
attribute [local go_sem] loadMv storeMv loadLo loadHi ext_lo ext_hi buildMv2 buildMv1
attribute [local go_sem ↓] Go.wp_at_zero Go.wp_at_succ
attribute [local go_sem] blk_other
def vB(c:Array Value):Nat→Nat
 | 0=>0
 | n+1=>vB c n+(intOf (c.getD n undef)).toNat*pw n
theorem vB_nw(N X:Nat):∀n,n≤N→vB (nw N X) n=X%pw n
 | 0,_=>by rw[vB,pw_zero,Nat.mod_one]
 | n+1,h=>by
  rw[vB,vB_nw N X n (by omega),mod_succ]
  have e:(nw N X).getD n undef=.int .u64 ((wd X n:Nat):Int):=by
   have:=nw_get N X n (by omega);rw[Array.getD_eq_getD_getElem?,this]
   rfl
  rw[e];simp[intOf]
def mB(w:World)(b:Nat):Nat:=vB (blk w b) 9
end
section
attribute [local go_sem ↓] uz3
attribute [local go_sem] uz4 ones_nw
attribute [local go_sem ↓] uz5 Go.wp_at_zero Go.wp_at_succ
attribute [local go_sem] uz6
theorem mB_cl{w:World}{b x:Nat}(h:Cl w b x)(hx:x<M):mB w b=x:=by
 unfold mB;rw[h.h,vB_nw 9 _ 9 (by decide)];exact Nat.mod_eq_of_lt hx
theorem eqN_yes(x:Nat):eqN 9 x x=true:=eqN_self 9 x
theorem eqN_no(x y:Nat)(hx:x<M)(hy:y<M)(h:x≠y):eqN 9 x y=false:=by
 rw[eqN9 x y hx hy];exact decide_eq_false h
theorem fnon_any(m z:Nat)(hm:m+m≤M)(hz:2≤z)(hzm:z<m)(hy:z^((m-1)/2)%m=m-1)(hn:∀x,2≤x→x<z→x^((m-1)/2)%m≠m-1)(w:World):
 Cg 121 #[.agg (nw 9 m)] w (.agg (nw 9 z)):=by
 have i:m<M:=by omega
 have U:Hid _:=small_any 1 (by decide);have V:Hid _:=small_any 2 (by decide);obtain⟨L,W⟩:=exl (m-1);rw[W]at hy hn;obtain⟨h,I⟩:=exl (L/2);rw[I]at hy hn
 have X:Hid _:=fun w=>by
  have:=fsub_any m 0 1 (by omega) (by omega) hm w;rw[show 0+m-1=L by omega,Nat.mod_eq_of_lt (show L<m by omega)]at this;exact this
 have Y:Hid _:=fun w=>by
  have:=shr_any L 1 (by omega) (by decide) w;rw[Nat.pow_one,I]at this;exact this
 have HP:Hid (∀x,x<m→∀w,Cg 120 #[.agg (nw 9 m),.agg (nw 9 x),.agg (nw 9 h)] w (.agg (nw 9 (x^h%m)))):=fun x B w=>fpow_any m x h (by omega) i (by omega) (by omega) w
 have HA:Hid (∀x,x+1<m→∀w,Cg 103 #[.agg (nw 9 m),.agg (nw 9 x),.agg (nw 9 1)] w (.agg (nw 9 (x+1)))):=fun x B w=>by
  have:=fadd_any m x 1 (by omega) (by omega) hm w;rw[Nat.mod_eq_of_lt B]at this;exact this
 have f:Hu (2≤z∧z<m∧m<M∧L<M∧z^h%m=L∧∀x,2≤x→x<z→x^h%m≠L):=fun _=>⟨hz,hzm,i,by omega,hy,hn⟩;clear hm hz hzm hy hn i W I
 go_enter func121,ntmps121
 go_wp2_with (first
  | (go_at_call_of 100 ((#[.int .i64 1]:Array Value));refine hkA U fun g=>?_)
  | (go_at_call_of 100 ((#[.int .i64 2]:Array Value));refine hkA V fun g2=>?_)
  | (go_at_call 104;refine hkA X fun g3=>?_)
  | (go_at_call 119;refine hkA Y fun g4=>?_))
 obtain⟨J,j⟩:=exl (w.heap.size+1+1+g.os.length);rw[j];obtain⟨K,l⟩:=exl (J+1+g3.os.length);rw[l];obtain⟨P,q⟩:=exl (K+1+g4.os.length);rw[q];obtain⟨d,A⟩:=exl (P+1+g2.os.length);rw[A]
 go_loopw [24] (fun _ wr=>∃x:Nat,Hu (2≤x∧x≤z)∧Hid (Gr w wr∧Cl wr w.heap.size m∧Cl wr (w.heap.size+1) 0∧Cl wr J 1∧Cl wr K L∧Cl wr P h∧Cl wr d x)) (fun _ wr=>z-mB wr d)
 case atStart=>
  refine⟨2,fun _=>⟨Nat.le_refl _,(f.out ()).1⟩,?_⟩;subst A q l j;refine⟨grA,⟨by simp[go_sem],by simp[go_sem],by simp[go_sem]⟩,⟨by simp[go_sem],by simp[go_sem],by simp[go_sem]⟩,⟨by simp[go_sem],by simp[go_sem],by simp[go_sem]⟩,⟨by simp[go_sem],by simp[go_sem],by simp[go_sem]⟩,⟨by simp[go_sem],by simp[go_sem],by simp[go_sem]⟩,⟨by simp[go_sem],by simp[go_sem],by simp[go_sem]⟩⟩
 case round=>
  have n1:¬d=w.heap.size:=by omega
  have n2:¬d=w.heap.size+1:=by omega
  have n3:¬d=J:=by omega
  have n4:¬d=K:=by omega
  have n5:¬d=P:=by omega
  have n6:w.heap.size≤d:=by omega
  clear j l q A U V X Y;obtain⟨x,H,C⟩:=hrel;obtain⟨-,⟨h1,f1,p1⟩,⟨h2,f2,p2⟩,⟨h3,f3,p3⟩,⟨h4,f4,p4⟩,⟨h5,f5,p5⟩,⟨h7,f7,p7⟩⟩:=C.out;obtain⟨y,hy⟩:=exl (x^h%m)
  have Q:x<m:=by have:=(H.out ()).2;have:=(f.out ()).2.1;omega
  have Z:Hid _:=hy▸HP.out x Q
  have R:y<M:=by
   have:=(f.out ()).2.1;have:=(f.out ()).2.2.1;have:=Nat.mod_lt (x^h) (show 0<m by omega)
   omega
  by_cases B:x<z
  ·have e1:=eqN_no y L R (f.out ()).2.2.2.1 (by rw[←hy];exact(f.out ()).2.2.2.2.2 x (H.out ()).1 B);have C2:Hid _:=HA.out x (by have:=(f.out ()).2.1;omega);have D:Hu (2≤x+1∧x+1≤z):=fun _=>⟨by have:=(H.out ()).1;omega,B⟩;obtain⟨u,hu⟩:=exl (x+1);rw[hu]at C2 D
   have HM:Hu (∀v,Cl v d u→z-mB v d<z-mB wr d):=fun _ v hv=>by
    have e3:=(f.out ()).2.2.1;rw[mB_cl hv (by omega),mB_cl C.out.2.2.2.2.2.2 (by omega)]
    omega
   go_upto_region 5 with fail
   go_region_with (go_at_call 120;refine hkA Z fun g8=>?_)
   all_goals
    go_wp2_with (go_at_call 103;refine hkA C2 fun g9=>?_)
    go_roundw
    case rel=>
     refine⟨u,D,?_⟩;obtain⟨G,c1,c2,c3,c4,c5,c7⟩:=C.out;refine⟨?_,(c1.other n1).gr ⟨_,rfl⟩,(c2.other n2).gr ⟨_,rfl⟩,(c3.other n3).gr ⟨_,rfl⟩,(c4.other n4).gr ⟨_,rfl⟩,(c5.other n5).gr ⟨_,rfl⟩,(c7.set u).gr ⟨_,rfl⟩⟩;exact grB
    case measure=>exact HM.out () _ ((C.out.2.2.2.2.2.2.set u).gr ⟨_,rfl⟩)
  ·have S:x=z:=by have:=(H.out ()).2;omega
   subst S
   have e1:eqN 9 y L=true:=by rw[←hy,(f.out ()).2.2.2.2.1];exact eqN_yes L
   go_upto_region 5 with fail
   go_region_with (go_at_call 120;refine hkA Z fun g8=>?_)
   all_goals
    go_wp2_with fail
    refine bo1 results121 (rd_nat (by rfl) ?_) ⟨rfl,?_⟩
    ·simp[go_sem, *]
    ·have hg:=C.out.1;exact grB
end
section
attribute [local go_sem ↓] uz3
attribute [local go_sem] uz4 ones_nw
attribute [local go_sem ↓] uz5 Go.wp_at_zero Go.wp_at_succ
attribute [local go_sem] loadMd storeMd buildMd0 buildMd1 blk_other loadLo loadHi ext_lo ext_hi
theorem pre_up{b n:Nat}(h:Pre b n):(∀k,Pre b (n+k))∧(∀k l,Pre b (n+k+l))∧(∀k l j,Pre b (n+k+l+j)):=by
 unfold Pre at *;exact⟨fun k=>by omega,fun k l=>by omega,fun k l j=>by omega⟩
theorem mfor_yes(i m n:Nat)(h1:1≤i)(h2:i≤15)(hm:pN i=m)(hmM:m<M)(hn:n≤2)(F:Nat→Nat)(hF:∀j,j<n→F j<m)(b:Nat)(w:World)(hl:∀j,j<n→∀v,Gr w v→(loadS 25 (.pointer (some ⟨b,j*9,none⟩))).run prog v=.ok (.agg (nw 9 (F j))) v):
 Cg 92 #[.int .i64 i,.slice (some ⟨b,0,none⟩) n n] w (.tuple #[.agg (nw 9 m),.int .i64 0]):=by
 have A:Hid _:=hm▸of_yes i h1 h2;have B:Hu (_):=fun _=>hn;have C:Hid _:=hF;have q:Hu (_):=fun _=>hmM;have D:Hid _:=hl;clear h1 h2 hm hmM hn hF hl
 go_enter func92,ntmps92
 go_wp2_with (go_at_call 65;refine hkA A fun g=>?_)
 obtain⟨H,d⟩:=exl (w.heap.size+1+g.os.length);rw[d]
 go_loopw [20] (fun ia wr=>∃j:Nat,ia=.int .i64 j∧Hu (j≤n)∧Hid (Gr w wr∧Cl wr w.heap.size 0∧Cl wr H m)) (fun ia _=>((n:Int)-intOf ia).toNat)
 case atStart=>
  subst d;exact⟨0,rfl,fun _=>Nat.zero_le _,grA,⟨by simp[go_sem],by simp[go_sem],by simp[go_sem]⟩,⟨by simp[go_sem],by simp[go_sem],by simp[go_sem]⟩⟩
 case round=>
  obtain⟨j,rfl,R,f⟩:=hrel;obtain⟨G,⟨h1,S,I⟩,⟨h2,U,J⟩⟩:=f.out
  have V:(0:Int)≤j:=by omega
  have W:(n:Int)≤2:=by have:=B.out ();omega
  obtain⟨X,Y,Z⟩:=pre_up I;obtain⟨Q1,Q2,Q3⟩:=pre_up J
  by_cases hlt:j<n
  ·have l:j<n:=by exact hlt
   have K:=D.out j l wr G
   have L:Hid _:=fun w=>by
    have x:=C.out j hlt;have h:=cmp_any (F j) m (Nat.lt_trans x (q.out ())) (q.out ()) w;rw[show cmpZ (F j) m = -1 by unfold cmpZ;rw[if_pos x]]at h;exact h
   go_wp2_with (go_at_call 55;refine hkA L fun g2=>?_)
   go_roundw
   case rel=>
    refine⟨j+1,by go_num,fun _=>hlt,?_⟩;obtain⟨G,P,Q⟩:=f.out;refine⟨?_,P.gr grA,Q.gr grA⟩;exact grB
   case measure=>simp[intOf];omega
  ·skip
   go_wp2_with fail
   refine bo2 results92 (rd_md (by rfl) ?_) ⟨rfl,?_⟩
   ·simp[go_sem, *]
   ·have hg:=f.out.1;exact grB
theorem mfor_off(i m n:Nat)(h1:1≤i)(h2:i≤15)(hm:pN i=m)(hmM:m<M)(hn:n≤2)(F:Nat→Nat)(r:Nat)(hr:r<n)(hoff:m≤F r)(hfM:F r<M)(hF:∀j,j<r→F j<m)(b:Nat)(w:World)(hl:∀j,j<n→∀v,Gr w v→(loadS 25 (.pointer (some ⟨b,j*9,none⟩))).run prog v=.ok (.agg (nw 9 (F j))) v):
 Cg 92 #[.int .i64 i,.slice (some ⟨b,0,none⟩) n n] w (.tuple #[.agg (nw 9 0),.int .i64 501]):=by
 have P:Hid _:=hm▸of_yes i h1 h2;have Q:Hu (_):=fun _=>hn;have R:Hid _:=hF;have A:Hu (_):=fun _=>hmM;have J:Hid _:=hl;have K:Hu (r<n∧m≤F r∧F r<M):=fun _=>⟨hr,hoff,hfM⟩;clear h1 h2 hm hmM hn hF hl hr hoff hfM
 go_enter func92,ntmps92
 go_wp2_with (go_at_call 65;refine hkA P fun g=>?_)
 obtain⟨S,l⟩:=exl (w.heap.size+1+g.os.length);rw[l]
 go_loopw [20] (fun ia wr=>∃j:Nat,ia=.int .i64 j∧Hu (j≤r)∧Hid (Gr w wr∧Cl wr w.heap.size 0∧Cl wr S m)) (fun ia _=>((n:Int)-intOf ia).toNat)
 case atStart=>
  subst l;exact⟨0,rfl,fun _=>Nat.zero_le _,grA,⟨by simp[go_sem],by simp[go_sem],by simp[go_sem]⟩,⟨by simp[go_sem],by simp[go_sem],by simp[go_sem]⟩⟩
 case round=>
  obtain⟨j,rfl,U,B⟩:=hrel;obtain⟨G,⟨h1,f1,V⟩,⟨h2,f2,W⟩⟩:=B.out
  have j0:(0:Int)≤j:=by omega
  have n4:(n:Int)≤2:=by have:=Q.out ();omega
  obtain⟨P1,P2,P3⟩:=pre_up V;obtain⟨Q1,Q2,Q3⟩:=pre_up W
  by_cases hlt:j<r
  ·have d:j<n:=by have:=(K.out ()).1;omega
   have X:(j:Int)<n:=by omega
   have C:=J.out j d wr G
   have D:Hid _:=fun w=>by
    have L:=R.out j hlt;have h:=cmp_any (F j) m (Nat.lt_trans L (A.out ())) (A.out ()) w;rw[show cmpZ (F j) m = -1 by unfold cmpZ;rw[if_pos L]]at h;exact h
   clear G d
   go_wp2_with (go_at_call 55;refine hkA D fun Y=>?_)
   go_roundw
   case rel=>
    refine⟨j+1,by go_num,fun _=>hlt,?_⟩;obtain⟨G,Z,c2⟩:=B.out;refine⟨?_,Z.gr grA,c2.gr grA⟩;exact grB
   case measure=>simp[intOf];omega
  ·skip
   have f:j=r:=by have:=U.out ();omega
   obtain⟨H,q,x⟩:=K.out ()
   have d:j<n:=by omega
   obtain⟨z,I⟩:=exl (cmpZ (F j) m)
   have aa:(0:Int)≤z:=by rw[←I,f];unfold cmpZ;rw[if_neg (Nat.not_lt.2 q)];split <;> omega
   have D:Hid _:=I▸cmp_any _ _ (f▸x) (A.out ())
   have X:(j:Int)<n:=by omega
   have C:=J.out j d wr G;clear G hlt d f H q x I
   go_wp2_with (go_at_call 55;refine hkA D fun Y=>?_)
   refine bo2 results92 (rd_md (by rfl) ?_) ⟨rfl,?_⟩
   ·simp[go_sem, *]
   ·have hg:=B.out.1;exact grB
theorem mfor_one(i m a b:Nat)(h1:1≤i)(h2:i≤15)(hm:pN i=m)(hmM:m<M)(ha:a<M)(w:World)(hb:blk w b=nw 9 a)(hp:Pre (b+1) w.heap.size):
 Cg 92 #[.int .i64 i,.slice (some ⟨b,0,none⟩) 1 1] w (.tuple #[.agg (nw 9 (if a<m then m else 0)),.int .i64 (if a<m then 0 else 501)]):=by
 have d:∀j,j<1→∀v,Gr w v→(loadS 25 (.pointer (some ⟨b,j*9,none⟩))).run prog v=.ok (.agg (nw 9 a)) v:=fun j l v g=>by
  obtain rfl:j=0:=by omega
  have f:blk v b=nw 9 a:=by rw[g.blk _ hp];exact hb
  rw[show 0*9=0 from rfl,loadNat v b (by rw[f,nw_size]),f]
 by_cases hr:a<m
 ·rw[if_pos hr,if_pos hr];exact mfor_yes i m 1 h1 h2 hm hmM (by decide) (fun _=>a) (fun _ _=>hr) b w d
 ·rw[if_neg hr,if_neg hr];exact mfor_off i m 1 h1 h2 hm hmM (by decide) (fun _=>a) 0 (by decide) (Nat.le_of_not_lt hr) ha (fun j h=>absurd h (Nat.not_lt_zero j)) b w d
theorem mfor_two(i m a c b X:Nat)(h1:1≤i)(h2:i≤15)(hm:pN i=m)(hmM:m<M)(ha:a<M)(hc:c<M)(hX:X=mvN a c)(w:World)(hb:blk w b=nw 18 X)(hp:Pre (b+1) w.heap.size):
 Cg 92 #[.int .i64 i,.slice (some ⟨b,0,none⟩) 2 2] w (.tuple #[.agg (nw 9 (if a<m∧c<m then m else 0)),.int .i64 (if a<m∧c<m then 0 else 501)]):=by
 have f:∀j,j<2→∀v,Gr w v→(loadS 25 (.pointer (some ⟨b,j*9,none⟩))).run prog v=.ok (.agg (nw 9 ((fun j=>match j with|0=>a|_=>c:Nat→Nat) j))) v:=fun j x v g=>by
  have d:blk v b=nw 18 X:=by rw[g.blk _ hp];exact hb
  have l:nw 9 X=nw 9 a:=by rw[hX];exact mv_lo a c ha
  have q:nw 9 (X/pw 9)=nw 9 c:=by rw[hX];exact mv_hi a c ha
  obtain rfl|rfl:j=0∨j=1:=by omega
  ·show (loadS 25 (.pointer (some ⟨b,0,none⟩))).run prog v=.ok (.agg (nw 9 a)) v
   rw[loadLo v b (by rw[d,nw_size]),d,ext_lo,l]
  ·show (loadS 25 (.pointer (some ⟨b,9,none⟩))).run prog v=.ok (.agg (nw 9 c)) v
   rw[loadHi v b (by rw[d,nw_size]),d,ext_hi,q]
 by_cases hr:a<m∧c<m
 ·rw[if_pos hr,if_pos hr];exact mfor_yes i m 2 h1 h2 hm hmM (by decide) (fun j=>match j with|0=>a|_=>c) (fun j _=>match j with|0=>hr.1|_+1=>hr.2) b w f
 ·rw[if_neg hr,if_neg hr]
  by_cases hx:a<m
  ·exact mfor_off i m 2 h1 h2 hm hmM (by decide) (fun j=>match j with|0=>a|_=>c) 1 (by decide) (Nat.le_of_not_lt fun h=>hr ⟨hx,h⟩) hc (fun j h=>by
    obtain rfl:j=0:=by omega
    exact hx) b w f
  ·exact mfor_off i m 2 h1 h2 hm hmM (by decide) (fun j=>match j with|0=>a|_=>c) 0 (by decide) (Nat.le_of_not_lt hx) ha (fun j h=>absurd h (Nat.not_lt_zero j)) b w f
end
section
def fnT(n:Nat):Value:=.func (.func n) #[] #[]
def tab2:Array Value :=#[fnT 103,fnT 104,fnT 105]
def tab1:Array Value :=#[fnT 101,fnT 102]
theorem tab2_is : #[Value.func (.func 103) #[] #[],Value.func (.func 104) #[] #[],Value.func (.func 105) #[] #[]]=tab2:=rfl
theorem tab1_is : #[Value.func (.func 101) #[] #[],Value.func (.func 102) #[] #[]]=tab1:=rfl
theorem storeT2_is:StI 130:=fun _ _=>rfl
theorem storeT1_is:StI 127:=fun _ _=>rfl
theorem storeT2(w:World)(b:Nat)(hs:(blk w b).size=3)(hf:frz w b=(0,0)):(storeS 130 (.pointer (some ⟨b,0,none⟩)) (.agg tab2)).run prog w=.ok () (setBlk w b tab2):=
 storeS_run 3 (by decide) (by kernel_rfl) w b tab2 rfl (by simp[tab2,fnT,Value.oneCell']) hs hf
theorem storeT1(w:World)(b:Nat)(hs:(blk w b).size=2)(hf:frz w b=(0,0)):(storeS 127 (.pointer (some ⟨b,0,none⟩)) (.agg tab1)).run prog w=.ok () (setBlk w b tab1):=
 storeS_run 2 (by decide) (by kernel_rfl) w b tab1 rfl (by simp[tab1,fnT,Value.oneCell']) hs hf
theorem idx2_0(w:World):(Instr.index 130 (.agg tab2) (.int .i64 0)).run prog w=.ok (.func (.func 103) #[] #[]) w:=by kernel_rfl
theorem idx2_1(w:World):(Instr.index 130 (.agg tab2) (.int .i64 1)).run prog w=.ok (.func (.func 104) #[] #[]) w:=by kernel_rfl
theorem idx2_2(w:World):(Instr.index 130 (.agg tab2) (.int .i64 2)).run prog w=.ok (.func (.func 105) #[] #[]) w:=by kernel_rfl
theorem idx1_0(w:World):(Instr.index 127 (.agg tab1) (.int .i64 0)).run prog w=.ok (.func (.func 101) #[] #[]) w:=by kernel_rfl
theorem idx1_1(w:World):(Instr.index 127 (.agg tab1) (.int .i64 1)).run prog w=.ok (.func (.func 102) #[] #[]) w:=by kernel_rfl
attribute [local go_sem ↓] uz3
attribute [local go_sem] uz4 ones_nw
attribute [local go_sem ↓] storeT2_is storeT1_is
attribute [local go_sem] storeT2 storeT1 tab2_is tab1_is
theorem ofTwo_any(w:World):
 Cg 94 #[] w (.agg tab2):=by
 go_enter func94,ntmps94
 go_wp2
 refine bo1 results94 (rd_cell 3 underlying130 rfl (by kernel_rfl) (by rfl) ?_ rfl) ⟨rfl,grA⟩;simp[go_sem]
theorem ofOne_any(w:World):
 Cg 93 #[] w (.agg tab1):=by
 go_enter func93,ntmps93
 go_wp2
 refine bo1 results93 (rd_cell 2 underlying127 rfl (by kernel_rfl) (by rfl) ?_ rfl) ⟨rfl,grA⟩;simp[go_sem]
end
section
attribute [local go_sem ↓] uz3
attribute [local go_sem] uz4 ones_nw
attribute [local go_sem ↓] uz5 Go.wp_at_zero Go.wp_at_succ
attribute [local go_sem] uz6
theorem fsqrt_of(m a c:Nat)(ha:a<m)(hc:c<m)(hm:m+m≤M)(h1:1<m)(HC:∀w,Cg 108 #[.agg (nw 9 m),.agg (nw 9 a)] w (.agg (nw 9 c)))(w:World):
 Cg 102 #[.agg (nw 9 m),.agg (nw 9 a)] w (.tuple #[.agg (nw 9 (if c*c%m=a then(if c%2=1 then m-c else c) else 0)),.int .i64 (if c*c%m=a then 0 else 503)]):=by
 have v:m<M:=by omega
 have j:Hid _:=HC;obtain⟨d,q⟩:=exl (c*c%m);have l:Hid (∀w,Cg 105 #[.agg (nw 9 m),.agg (nw 9 c),.agg (nw 9 c)] w (.agg (nw 9 d))):=fun w=>q▸fmul_any m c c (by omega) v (by omega) (by omega) w
 have i:d<M:=by
  have:=Nat.mod_lt (c*c) (show 0<m by omega)
  omega
 rw[q]
 by_cases hda:d=a
 ·subst hda;rw[if_pos rfl,if_pos rfl];have G:=eqN_yes d
  have h:∀w,Cg 52 #[.agg (nw 9 c),.int .i64 0] w (.int .i64 ((c%2:Nat):Int)):=fun w=>by
   have:=bit_any c 0 (by decide) w;unfold bitN at this;rw[Nat.pow_zero,Nat.div_one]at this;exact this
  by_cases hc2:c%2=1
  ·rw[if_pos hc2];rw[hc2]at h;have A:Hid _:=h;obtain⟨f,B⟩:=exl (m-c)
   have H:Hid (∀w,Cg 104 #[.agg (nw 9 m),.agg (nw 9 0),.agg (nw 9 c)] w (.agg (nw 9 f))):=fun w=>by
    have:=fsub_any m 0 c (by omega) hc hm w;rw[show 0+m-c=f by omega,Nat.mod_eq_of_lt (show f<m by omega)]at this;exact this
   rw[B];clear h hc2 B i q v HC h1 hm hc ha
   go_enter func102,ntmps102
   go_upto_region 2 with (go_at_call 108;refine hkA j fun C=>?_)
   go_region_with (go_at_call 105;refine hkA l fun D=>?_)
   all_goals
    go_wp2_with (first
     | (go_at_call 52;refine hkA A fun I=>?_)
     | (go_at_call 104;refine hkA H fun J=>?_))
    refine bo2 results102 (rd_nat (x:=f) (by rfl) ?_) ⟨rfl,grA⟩;simp[go_sem]
  ·rw[if_neg hc2];rw[show c%2=0 by omega]at h;have A:Hid _:=h;clear h hc2 i q v HC h1 hm hc ha
   go_enter func102,ntmps102
   go_upto_region 2 with (go_at_call 108;refine hkA j fun C=>?_)
   go_region_with (go_at_call 105;refine hkA l fun D=>?_)
   all_goals
    go_wp2_with (go_at_call 52;refine hkA A fun I=>?_)
    refine bo2 results102 (rd_nat (x:=c) (by rfl) ?_) ⟨rfl,grA⟩;simp[go_sem]
 ·rw[if_neg hda,if_neg hda];have G:eqN 9 d a=false:=eqN_no d a i (by omega) hda;clear hda i q v HC h1 hm hc ha
  go_enter func102,ntmps102
  go_upto_region 2 with (go_at_call 108;refine hkA j fun C=>?_)
  go_region_with (go_at_call 105;refine hkA l fun D=>?_)
  all_goals
   go_wp2_with fail
   refine bo2 results102 (rd_nat (x:=0) (by rfl) ?_) ⟨rfl,grA⟩;simp[go_sem]
end
section
attribute [local go_sem ↓] uz3
attribute [local go_sem] uz4 ones_nw
attribute [local go_sem] uz7
attribute [local go_sem ↓] uz5 Go.wp_at_zero Go.wp_at_succ
attribute [local go_sem] uz6
theorem loadMd2(w:World)(b:Nat):(loadS 123 (.pointer (some ⟨b,0,none⟩))).run prog w=loadK 9 (blk w b) (failL prog 123 b w) w:=by
 unfold loadK
 split
 ·rename_i h;exact loadMd w b h
 ·rfl
attribute [local go_sem] loadMd2
theorem Cl.pp{v:World}{b x:Nat}(h:Cl v b x):(∀k,Pre (b+1) (v.heap.size+k))∧(∀k l,Pre (b+1) (v.heap.size+k+l))∧(∀k l j,Pre (b+1) (v.heap.size+k+l+j)):=by
 have:=h.p;unfold Pre at *;exact⟨fun k=>by omega,fun k l=>by omega,fun k l j=>by omega⟩
def ts(m:Nat):Nat→Nat→Nat→Nat→Nat
 | 0,r,_,_=>r
 | o+1,r,x,c=>if x^(2^o)%m=1 then ts m o r x (c*c%m) else ts m o (r*c%m) (x*(c*c%m)%m) (c*c%m)
theorem fcand_one(m a q s:Nat)(ha:a<m)(hM:m<M)(hq:q%2=1)(hqs:m=q*2^s+1)(hs1:s=1)(w:World):
 Cg 108 #[.agg (nw 9 m),.agg (nw 9 a)] w (.agg (nw 9 (a^(q/2)%m*a%m))):=by
 subst hs1
 have S:1<576:=by decide
 have f:0<m:=by omega
 have B:Hid _:=fsplit_any m q 1 hq hqs S hM;obtain⟨h,C⟩:=exl (q/2)
 have D:q≤m:=by
  have:=Nat.le_mul_of_pos_right q (Nat.two_pow_pos 1)
  omega
 have G:Hid (∀w,Cg 119 #[.agg (nw 9 q),.int .i64 1] w (.tuple #[.agg (nw 9 h),.int .i64 0])):=fun w=>by
  have:=shr_any q 1 (by omega) (by decide) w;rw[Nat.pow_one,C]at this;exact this
 rw[C];obtain⟨d,i⟩:=exl (a^h%m)
 have H:d<m:=by rw[←i];exact Nat.mod_lt _ f
 rw[i];obtain⟨A,l⟩:=exl (d*d%m)
 have I:A<m:=by rw[←l];exact Nat.mod_lt _ f
 obtain⟨J,j⟩:=exl (d*a%m)
 have K:J<m:=by rw[←j];exact Nat.mod_lt _ f
 rw[j];obtain⟨U,v⟩:=exl (A*a%m)
 have L:U<m:=by rw[←v];exact Nat.mod_lt _ f
 have V:Hid (∀w,Cg 120 #[.agg (nw 9 m),.agg (nw 9 a),.agg (nw 9 h)] w (.agg (nw 9 d))):=fun w=>i▸fpow_any m a h f hM (by omega) (by omega) w;have P:Hid (∀w,Cg 105 #[.agg (nw 9 m),.agg (nw 9 d),.agg (nw 9 d)] w (.agg (nw 9 A))):=fun w=>l▸fmul_any m d d f hM (by omega) (by omega) w;have Q:Hid (∀w,Cg 105 #[.agg (nw 9 m),.agg (nw 9 d),.agg (nw 9 a)] w (.agg (nw 9 J))):=fun w=>j▸fmul_any m d a f hM (by omega) (by omega) w;have R:Hid (∀w,Cg 105 #[.agg (nw 9 m),.agg (nw 9 A),.agg (nw 9 a)] w (.agg (nw 9 U))):=fun w=>v▸fmul_any m A a f hM (by omega) (by omega) w;clear ha hM hq hqs S f C D i H l I j K v L
 go_enter func108,ntmps108
 go_wp2_with (first
  | (go_at_call 118;refine hkA B fun W=>?_)
  | (go_at_call 119;refine hkA G fun X=>?_)
  | (go_at_call 120;refine hkA V fun Y=>?_)
  | (go_at_call_of 105 ((#[.agg (nw 9 m),.agg (nw 9 d),.agg (nw 9 d)]:Array Value));refine hkA P fun Z=>?_)
  | (go_at_call_of 105 ((#[.agg (nw 9 m),.agg (nw 9 d),.agg (nw 9 a)]:Array Value));refine hkA Q fun g5=>?_)
  | (go_at_call_of 105 ((#[.agg (nw 9 m),.agg (nw 9 A),.agg (nw 9 a)]:Array Value));refine hkA R fun g6=>?_))
 refine bo1 results108 (rd_nat (x:=J) (by rfl) ?_) ⟨rfl,grA⟩;simp[go_sem]
theorem fcand_more(m a q s z:Nat)(ha:a<m)(hm:m+m≤M)(hq:q%2=1)(hqs:m=q*2^(s+1)+1)(hs1:1≤s)(hs:s+1<576)(hz:2≤z)(hzm:z<m)(hy:z^((m-1)/2)%m=m-1)(hn:∀x,2≤x→x<z→x^((m-1)/2)%m≠m-1)(w:World):
 Cg 108 #[.agg (nw 9 m),.agg (nw 9 a)] w (.agg (nw 9 (ts m s (a^(q/2)%m*a%m) (a^(q/2)%m*(a^(q/2)%m)%m*a%m) (z^q%m)))):=by
 have J:m<M:=by omega
 have HZ:Hid _:=fnon_any m z hm hz hzm hy hn
 have l:0<m:=by omega
 have ah:Hid _:=fsplit_any m q (s+1) hq hqs hs J;obtain⟨h,hh⟩:=exl (q/2)
 have aB:q≤m:=by
  have:=Nat.le_mul_of_pos_right q (Nat.two_pow_pos (s+1))
  omega
 have ai:Hid (∀w,Cg 119 #[.agg (nw 9 q),.int .i64 1] w (.tuple #[.agg (nw 9 h),.int .i64 0])):=fun w=>by
  have:=shr_any q 1 (by omega) (by decide) w;rw[Nat.pow_one,hh]at this;exact this
 rw[hh];obtain⟨j,K⟩:=exl (a^h%m)
 have aC:j<m:=by rw[←K];exact Nat.mod_lt _ l
 rw[K];obtain⟨e0,L⟩:=exl (j*j%m)
 have aD:e0<m:=by rw[←L];exact Nat.mod_lt _ l
 rw[L];obtain⟨V,P⟩:=exl (j*a%m)
 have aj:V<m:=by rw[←P];exact Nat.mod_lt _ l
 rw[P];obtain⟨W,Q⟩:=exl (e0*a%m)
 have ak:W<m:=by rw[←Q];exact Nat.mod_lt _ l
 rw[Q];have HP:Hid (∀w,Cg 120 #[.agg (nw 9 m),.agg (nw 9 a),.agg (nw 9 h)] w (.agg (nw 9 j))):=fun w=>K▸fpow_any m a h l J (by omega) (by omega) w;have ao:Hid (∀w,Cg 105 #[.agg (nw 9 m),.agg (nw 9 j),.agg (nw 9 j)] w (.agg (nw 9 e0))):=fun w=>L▸fmul_any m j j l J (by omega) (by omega) w;have ap:Hid (∀w,Cg 105 #[.agg (nw 9 m),.agg (nw 9 j),.agg (nw 9 a)] w (.agg (nw 9 V))):=fun w=>P▸fmul_any m j a l J (by omega) (by omega) w;have aq:Hid (∀w,Cg 105 #[.agg (nw 9 m),.agg (nw 9 e0),.agg (nw 9 a)] w (.agg (nw 9 W))):=fun w=>Q▸fmul_any m e0 a l J (by omega) (by omega) w;obtain⟨X,S⟩:=exl (z^q%m)
 have ar:X<m:=by rw[←S];exact Nat.mod_lt _ l
 rw[S];have au:Hid (∀w,Cg 120 #[.agg (nw 9 m),.agg (nw 9 z),.agg (nw 9 q)] w (.agg (nw 9 X))):=fun w=>S▸fpow_any m z q l J (by omega) (by omega) w;obtain⟨R,hR⟩:=exl (ts m s V W X);rw[hR];have HU:Hid (∀x y,x<m→y<m→∀w,Cg 105 #[.agg (nw 9 m),.agg (nw 9 x),.agg (nw 9 y)] w (.agg (nw 9 (x*y%m)))):=fun x y hx hy w=>fmul_any m x y l J (by omega) (by omega) w;have HQ:Hid (∀x (k:Nat),x<m→k<1000→∀w,Cg 122 #[.agg (nw 9 m),.agg (nw 9 x),.int .i64 k] w (.agg (nw 9 (x^(2^k)%m)))):=fun x k hx hk w=>fsquared_any m x k hx J hk w;have HO:Hid (∀w,Cg 100 #[.int .i64 1] w (.agg (nw 9 1))):=fun w=>small_any 1 (by decide) w;have av:Hu (V<m∧W<m∧X<m∧s<576∧ts m s V W X=R∧0<m∧m<M∧1<m):=fun _=>⟨aj,ak,ar,by omega,hR,l,J,by omega⟩
 have s1:(1:Int)≤s:=by omega
 have s2:(s:Int)<576:=by omega
 have s3:¬(s:Int)+1=1:=by omega
 have s4:(s:Int)+1-1=s:=by omega
 have s5:((s:Int)+1==1)=false:=by rw[beq_eq_false_iff_ne];exact s3
 clear ha hm hq hqs hs1 hs hz hzm hy hn J l hh aB K aC L aD P aj Q ak S ar hR
 go_enter func108,ntmps108
 go_upto_region 9 with (first
  | (go_at_call 118;refine hkA ah fun g1=>?_)
  | (go_at_call 119;refine hkA ai fun g2=>?_)
  | (go_at_call 120;refine hkA HP fun g3=>?_)
  | (go_at_call_of 105 ((#[.agg (nw 9 m),.agg (nw 9 j),.agg (nw 9 j)]:Array Value));refine hkA ao fun g4=>?_)
  | (go_at_call_of 105 ((#[.agg (nw 9 m),.agg (nw 9 j),.agg (nw 9 a)]:Array Value));refine hkA ap fun g5=>?_)
  | (go_at_call_of 105 ((#[.agg (nw 9 m),.agg (nw 9 e0),.agg (nw 9 a)]:Array Value));refine hkA aq fun g6=>?_))
 obtain⟨b5,Y⟩:=exl (w.heap.size+1+1+1+g1.os.length);rw[Y];obtain⟨b7,Z⟩:=exl (b5+1+g2.os.length);rw[Z];obtain⟨A,aa⟩:=exl (b7+1+g3.os.length);rw[aa];obtain⟨d,C⟩:=exl (A+1+g4.os.length);rw[C]
 refine gen_w (fun v=>Hid (Gr w v∧Cl v w.heap.size m∧Cl v (w.heap.size+1+1) 0∧Cl v b5 q∧Cl v A V∧Cl v d W)) ?_ ?_
 ·subst C aa Z Y;exact⟨grA,⟨by simp[go_sem],by simp[go_sem],by simp[go_sem]⟩,⟨by simp[go_sem],by simp[go_sem],by simp[go_sem]⟩,⟨by simp[go_sem],by simp[go_sem],by simp[go_sem]⟩,⟨by simp[go_sem],by simp[go_sem],by simp[go_sem]⟩,⟨by simp[go_sem],by simp[go_sem],by simp[go_sem]⟩⟩
 intro v0 HV;obtain⟨-,⟨h1,f1,p1⟩,⟨h2,f2,p2⟩,⟨h3,f3,p3⟩,⟨h4,f4,p4⟩,⟨h5,f5,p5⟩⟩:=HV.out;clear ah ai HP ao ap aq
 go_cut [11] from 43 to 47 (fun a11 wx=>∃b11,a11=.pointer (some ⟨b11,0,none⟩)∧Hid (Gr w wx∧d<b11∧Cl wx w.heap.size m∧Cl wx (w.heap.size+1+1) 0∧Cl wx A V∧Cl wx d W∧Cl wx b11 X))
 case first=>
  go_region_with (first
   | (go_at_call 121;refine hkA HZ fun g7=>?_)
   | (go_at_call 120;refine hkA au fun g8=>?_))
  all_goals
   go_wp2_with fail
   go_meet
   obtain⟨G,c1,c2,c3,c4,c5⟩:=HV.out;have p5:d+1≤v0.heap.size:=p5;refine⟨_,rfl,?_,by omega,c1.gr grA,c2.gr grA,c4.gr grA,c5.gr grA,⟨by simp[go_sem],by simp[go_sem],by simp[go_sem]⟩⟩;exact grB
 case rest=>
  obtain⟨b11,rfl,B⟩:=hcut;have hb:=B.out.2.1
  have n1:¬A=w.heap.size:=by omega
  have n2:¬A=w.heap.size+1+1:=by omega
  have n3:¬A=d:=by omega
  have n4:¬A=b11:=by omega
  have n5:¬d=w.heap.size:=by omega
  have n6:¬d=w.heap.size+1+1:=by omega
  have n7:¬d=A:=by omega
  have n8:¬d=b11:=by omega
  have n9:¬b11=w.heap.size:=by omega
  have aw:¬b11=w.heap.size+1+1:=by omega
  have ax:¬b11=A:=by omega
  have ay:¬b11=d:=by omega
  have aE:w.heap.size≤A:=by omega
  have aG:w.heap.size≤d:=by omega
  have az:w.heap.size≤b11:=by omega
  clear hb Y Z aa C HZ au h1 f1 p1 h2 f2 p2 h3 f3 p3 h4 f4 p4 h5 f5 p5 HV
  go_wp2_with fail
  go_loopw [12] (fun i wr=>∃(o r x c:Nat),i=.int .i64 o∧Hu (r<m∧x<m∧c<m∧o<576∧ts m o r x c=R)∧Hid (Gr w wr∧Cl wr w.heap.size m∧Cl wr (w.heap.size+1+1) 0∧Cl wr A r∧Cl wr d x∧Cl wr b11 c)) (fun i _=>(intOf i).toNat)
  case atStart=>
   obtain⟨G,-,c1,c2,c3,c4,c5⟩:=B.out;obtain⟨i1,i2,i3,i4,i5,-⟩:=av.out ();exact⟨s,V,W,X,by go_num,fun _=>⟨i1,i2,i3,i4,i5⟩,G,c1,c2,c3,c4,c5⟩
  case round=>
   clear B;obtain⟨o,r,x,c,rfl,HI,B⟩:=hrel;obtain⟨-,⟨h1,f1,p1⟩,⟨h2,f2,p2⟩,⟨h3,f3,p3⟩,⟨h4,f4,p4⟩,⟨h5,f5,p5⟩⟩:=B.out;obtain⟨-,-,-,-,-,f,ab,ac⟩:=av.out ();obtain⟨k1,k2,k3,k4,U⟩:=HI.out ();obtain⟨aI,aJ,aK⟩:=B.out.2.1.pp;obtain⟨aL,aM,aO⟩:=B.out.2.2.1.pp;obtain⟨aP,aQ,aR⟩:=B.out.2.2.2.1.pp;obtain⟨aS,aT,aU⟩:=B.out.2.2.2.2.1.pp;obtain⟨aV,aW,aX⟩:=B.out.2.2.2.2.2.pp
   cases o with
   | zero=>
    have aH:r=R:=U;subst aH;clear k1 k2 k3 k4 U f ab ac
    go_wp2_with fail
    refine bo1 results108 (rd_nat (x:=r) (by rfl) ?_) ⟨rfl,?_⟩
    ·simp[go_sem, *]
    ·have hg:=B.out.1;exact grB
   | succ o=>
    obtain⟨n,hn⟩:=exl (c*c%m)
    have D:n<m:=by rw[←hn];exact Nat.mod_lt _ f
    obtain⟨y,hy⟩:=exl (x^(2^o)%m)
    have aA:y<m:=by rw[←hy];exact Nat.mod_lt _ f
    obtain⟨r',H⟩:∃y,r*c%m=y:=⟨_,rfl⟩
    have ae:r'<m:=by rw[←H];exact Nat.mod_lt _ f
    obtain⟨x',I⟩:∃y,x*n%m=y:=⟨_,rfl⟩
    have af:x'<m:=by rw[←I];exact Nat.mod_lt _ f
    have C1:Hid (∀w,Cg 105 #[.agg (nw 9 m),.agg (nw 9 c),.agg (nw 9 c)] w (.agg (nw 9 n))):=fun w=>hn▸HU.out c c k3 k3 w;have C2:Hid (∀w,Cg 122 #[.agg (nw 9 m),.agg (nw 9 x),.int .i64 o] w (.agg (nw 9 y))):=fun w=>hy▸HQ.out x o k2 (by omega) w;have C3:Hid (∀w,Cg 105 #[.agg (nw 9 m),.agg (nw 9 r),.agg (nw 9 c)] w (.agg (nw 9 r'))):=fun w=>H▸HU.out r c k1 k3 w;have C4:Hid (∀w,Cg 105 #[.agg (nw 9 m),.agg (nw 9 x),.agg (nw 9 n)] w (.agg (nw 9 x'))):=fun w=>I▸HU.out x n k2 D w;rw[ts,hn,hy,H,I]at U
    have e1:(((o+1:Nat):Int))=(o:Int)+1:=by omega
    have e2:(o:Int)+1-1=o:=by omega
    have o0:(0:Int)≤o:=by omega
    have o1:(o:Int)<576:=by omega
    have aY:¬wr.heap.size=A:=by have:A+1≤wr.heap.size:=p3;omega
    have aZ:¬wr.heap.size=d:=by have:d+1≤wr.heap.size:=p4;omega
    rw[e1]
    by_cases hy1:y=1
    ·rw[if_pos hy1]at U
     have q1:eqN 9 y 1=true:=by rw[hy1];exact eqN_yes 1
     have ag:Hu (r<m∧x<m∧n<m∧o<576∧ts m o r x n=R):=fun _=>⟨k1,k2,D,by omega,U⟩;clear k1 k2 k3 k4 U f ab ac hn D hy aA H ae I af hy1 e1
     go_wp2_with (first
      | (go_at_call_of 105 ((#[.agg (nw 9 m),.agg (nw 9 c),.agg (nw 9 c)]:Array Value));refine hkA C1 fun g1=>?_)
      | (go_at_call 122;refine hkA C2 fun g2=>?_)
      | (go_at_call 100;refine hkA HO fun g3=>?_))
     go_roundw
     case rel=>
      refine⟨o,r,x,n,by go_num,ag,?_⟩;obtain⟨G,c1,c2,c3,c4,c5⟩:=B.out;exact⟨(((gr_setNew G az).gro _).alloc _).gro _,(c1.other n9).gr ((((Gr.refl _).gro _).alloc _).gro _),(c2.other aw).gr ((((Gr.refl _).gro _).alloc _).gro _),(c3.other ax).gr ((((Gr.refl _).gro _).alloc _).gro _),(c4.other ay).gr ((((Gr.refl _).gro _).alloc _).gro _),(c5.set n).gr ((((Gr.refl _).gro _).alloc _).gro _)⟩
     case measure=>simp[intOf]
    ·rw[if_neg hy1]at U;have q1:eqN 9 y 1=false:=eqN_no y 1 (by omega) (lt_M 1 (by decide)) hy1;have ag:Hu (r'<m∧x'<m∧n<m∧o<576∧ts m o r' x' n=R):=fun _=>⟨ae,af,D,by omega,U⟩;clear k1 k2 k3 k4 U f ab ac hn D hy aA H ae I af hy1 e1
     go_wp2_with (first
      | (go_at_call_of 105 ((#[.agg (nw 9 m),.agg (nw 9 c),.agg (nw 9 c)]:Array Value));refine hkA C1 fun g1=>?_)
      | (go_at_call 122;refine hkA C2 fun g2=>?_)
      | (go_at_call 100;refine hkA HO fun g3=>?_)
      | (go_at_call_of 105 ((#[.agg (nw 9 m),.agg (nw 9 r),.agg (nw 9 c)]:Array Value));refine hkA C3 fun g4=>?_)
      | (go_at_call_of 105 ((#[.agg (nw 9 m),.agg (nw 9 x),.agg (nw 9 n)]:Array Value));refine hkA C4 fun g5=>?_))
     go_roundw
     case rel=>
      refine⟨o,r',x',n,by go_num,ag,?_⟩;obtain⟨G,c1,c2,c3,c4,c5⟩:=B.out;exact⟨(((gr_setNew (gr_setNew (gr_setNew G aE) aG) az).gro _).alloc _).gro _,(((c1.other n1).other n5).other n9).gr ((((Gr.refl _).gro _).alloc _).gro _),(((c2.other n2).other n6).other aw).gr ((((Gr.refl _).gro _).alloc _).gro _),(((c3.set r').other n7).other ax).gr ((((Gr.refl _).gro _).alloc _).gro _),(((c4.other n3).set x').other ay).gr ((((Gr.refl _).gro _).alloc _).gro _),(((c5.other n4).other n8).set n).gr ((((Gr.refl _).gro _).alloc _).gro _)⟩
     case measure=>simp[intOf]
end
end
section
def FarN(K:World→World→Prop)(k:Kw):Prop:=∀y v w,K v w→k.ok y v→k.ok y w
theorem fnc{N:World→World→Prop}{v:Value}:FarN N (.c v):=fun _ _ _ _ _=>trivial
theorem fnu{N:World→World→Prop}:FarN N .u:=fun _ _ _ _ _=>trivial
def FarNs(N:World→World→Prop):List Kw→Prop
 | []=>True
 | k :: r=>FarN N k∧FarNs N r
theorem FarNs.at{N:World→World→Prop}:∀{kp:List Kw},FarNs N kp→∀i,FarN N (kW kp i)
 | [],_,_=>fnu
 | _ :: _,h,0=>h.1
 | _ :: r,h,i+1=>FarNs.at (kp:=r) h.2 i
def upX(l:List Oper)(s:Nat):Nat→Nat→Bool
 | 0,i=>i==s
 | n+1,i=>i==s || (List.range l.length).any fun k=>wts l k i&&upX l s n k
theorem up_listed{l:List Oper}{s:Nat}{listed:Array Bool}(hc:Cld l listed)(hs:listed.getD s false=true):∀n i,upX l s n i=true→listed.getD i false=true
 | 0,i,h=>by rw[upX,beq_iff_eq]at h;rw[h];exact hs
 | n+1,i,h=>by
  rw[upX,Bool.or_eq_true,beq_iff_eq]at h
  rcases h with h|h
  ·rw[h];exact hs
  ·obtain⟨k,hk,h⟩:=List.any_eq_true.1 h;rw[Bool.and_eq_true]at h;have d:k<l.length:=List.mem_range.1 hk
   have j:l[k]? = some l[k]:=by simp[d]
   have q:=h.1;rw[wts,opW,j,Option.getD_some,Array.any_toList]at q;obtain⟨e,v,f⟩:=Array.any_eq_true.1 q;simp only[Bool.and_eq_true,beq_iff_eq]at f;rw[←f.1];exact hc k _ j (up_listed hc hs n k h.2) _ (Array.getElem_mem v) f.2
theorem atX{l:List Oper}{kp:List Kw}{ex:List Nat}{q:Nat}{a0:Act}{listed:Array Bool}{vals:Nat→Value}(hk:chkW l kp ex q=true){a:Act}{i:Nat}{o:Oper}{x:Nat→Wt}(hF:Frm l.toArray a0 vals listed a)(hi:l.toArray[i]? = some o)(hq:i<q)(hx:∀j,wts l i j=true→listed.getD j false=true∧vals j=(kW kp j).val (x j)):
 execOp a.eval o=execOp (FW l kp a0 x).eval o∧Region.wanted o (yielded l.toArray a.tmps)=wnt l i (FW l kp a0 x):=by
 simp only[chkW,Bool.and_eq_true,beq_iff_eq]at hk;obtain⟨⟨⟨I,L⟩,J⟩,P⟩:=hk;have A:=opW_is hi;have v:=List.all_eq_true.1 L i (by simpa using hq);rw[A]at v;simp only[rdyO,Bool.and_eq_true]at v;obtain⟨⟨f,B⟩,C⟩:=v
 have d:∀s,(match own l.toArray s with|some j=>wts l i j|none=>true)=true→a.tmps[s]? = (FW l kp a0 x).tmps[s]? := fun s K=>by
  refine eval_F I hF s fun j Q=>?_
  have D:wts l i j=true:=by rw[Q]at K;exact K
  exact hx j D
 refine⟨?_,?_⟩
 ·refine execOp_congr o (fun U b h=>by rw[h]at f;cases f) fun y G=>?_;have H:=Array.all_eq_true_iff_forall_mem.1 B y G
  cases y with
  | tmp s=>
   have:=d s H;simp only[Act.eval,Array.getD_eq_getD_getElem?,this]
  | _=>rfl
 ·rw[wnt,A];unfold Region.wanted
  cases hg:o.guard with
  | none=>rfl
  | some gw=>
   obtain⟨g,b⟩:=gw;rw[hg]at C;simp only
   have G:yielded l.toArray a.tmps g=yielded l.toArray (FW l kp a0 x).tmps g:=by
    unfold yielded
    cases ht:(l.toArray[g]?).bind (·.dst) with
    | none=>rfl
    | some t=>
     have:own l.toArray t=some g:=by
      obtain⟨V,R,S⟩:=Option.bind_eq_some_iff.1 ht;exact(uniq_at I R).1 t S
     simp only[Option.bind_some];rw[d t (by rw[this];exact C)]
   rw[G]
section
variable {P:Program} {l:List Oper} {Q:Exit→Act→World→Prop} {a0:Act} {kp:List Kw} {ex:List Nat} {m s:Nat} {N:World→World→Prop} {I:Bool→World→Prop} {I2:(Nat→Wt)→World→Prop} {f:FuncId} {args:(Nat→Wt)→Array Value} {t:TypeId} {p u:(Nat→Wt)→Value}
def RX(l:List Oper)(kp:List Kw)(m s:Nat)(I:Bool→World→Prop)(I2:(Nat→Wt)→World→Prop)(listed:Array Bool)(vals:Nat→Value)(w:World):Prop:=
 Cld l listed∧∃x:Nat→Wt,(∀j,listed.getD j false=true→vals j=(kW kp j).val (x j)) ∧
  (listed.getD s false=false→(∀j,listed.getD j false=true→(kW kp j).ok (x j) w)∧I (listed.getD m false) w)∧(listed.getD s false=true→I2 x w)
def ObM(P:Program)(l:List Oper)(kp:List Kw)(m:Nat)(N:World→World→Prop)(I:Bool→World→Prop)(f:FuncId)(args:(Nat→Wt)→Array Value):Prop:=
 ∀x v,I false v→(∀j,wts l m j=true→(kW kp j).ok (x j) v)→Calls P f (args x) v fun e w'=>∃y,e=.returned ((kW kp m).val y)∧(kW kp m).ok y w'∧I true w'∧N v w'
def ObT(P:Program)(l:List Oper)(kp:List Kw)(s:Nat)(I:Bool→World→Prop)(I2:(Nat→Wt)→World→Prop)(t:TypeId)(p u:(Nat→Wt)→Value):Prop:=
 ∀x v,I true v→(∀j,wts l s j=true→(kW kp j).ok (x j) v)→∃w',(exI (.store t (.const (p x)) (.const (u x)))).run P v=.ok .skip w'∧I2 x w'
theorem stepX(d:Bool)(hk:chkW l kp (m :: s :: ex) l.length=true)(hp:pureL P l kp a0 (m :: s :: ex) l.length=pureR kp (m :: s :: ex) l.length)(hup:∀i,i∈m :: ex→upX l s l.length i=true)(hms:m≠s)(hI:∀b v v',I b v→Gr v v'→I b v')(ho:∀b v,I b v→ObsW P l kp a0 v ex)(hf:FarNs N kp)(hM:ObM P l kp m N I f args)(rM:(fun x v=>resW P l kp a0 x v m)=fun x v=>some (.ok (.enter f (args x)) v))(hS:ObT P l kp s I I2 t p u)(ku:kW kp s=.u)(rS:runW l kp a0 s=fun x=>some (exI (.store t (.const (p x)) (.const (u x))))):StepR d P l Q a0 (RX l kp m s I I2):=by
 intro q G a w i o hz hR hF hi hl hd _;obtain⟨hC,x,hx,h1,h2⟩:=hR
 have ac:l[i]? = some o:=by simpa using hi
 have ab:=(List.getElem?_eq_some_iff.1 ac).1
 have U:i<q.size:=by rw[hz];simpa using ab
 have D:=opW_is hi;have H:∀j,wts l i j=true→q.getD j false=true:=fun j h=>on_of hd j (by rw[wts,D,Array.any_toList]at h;exact h);obtain⟨J,ah⟩:=atX hk hF hi ab fun j A=>⟨H j A,hx j (H j A)⟩;rw[ah]
 have ae:Cld l (q.setIfInBounds i true):=fun j oj A af e he Y=>by
  by_cases e1:e.on=i
  ·rw[e1];exact getD_set_same _ _ U
  ·rw[getD_set_other _ _ _ (Ne.symm e1)]
   by_cases e2:j=i
   ·subst e2;rw[ac]at A;cases A;exact hd e he Y
   ·rw[getD_set_other _ _ _ (Ne.symm e2)]at af;exact hC j oj A af e he Y
 have nx:∀(r:Value) (y:Wt) (w':World),r=(kW kp i).val y →
  ((q.setIfInBounds i true).getD s false=false→(∀j,q.getD j false=true→(kW kp j).ok (x j) w')∧(kW kp i).ok y w'∧I ((q.setIfInBounds i true).getD m false) w') →
  ((q.setIfInBounds i true).getD s false=true→I2 (fun j=>if j=i then y else x j) w')→RX l kp m s I I2 (q.setIfInBounds i true) (upd G i r) w':=fun r y w' V g1 g2=>by
  refine⟨ae,fun j=>if j=i then y else x j,fun j A=>?_,fun W=>?_,g2⟩
  ·by_cases e:j=i
   ·subst e;simp only[upd,if_true];exact V
   ·rw[getD_set_other _ _ _ (Ne.symm e)]at A;simp only[upd,e,if_false];exact hx j A
  ·obtain⟨X,S,a3⟩:=g1 W;refine⟨fun j A=>?_,a3⟩
   by_cases e:j=i
   ·subst e;simp only[if_true];exact S
   ·rw[getD_set_other _ _ _ (Ne.symm e)]at A;simp only[e,if_false];exact X j A
 have same:(fun j=>if j=i then x i else x j)=x:=by
  funext j
  by_cases e:j=i
  ·subst e;simp
  ·simp[e]
 have K:i∈m :: ex→q.getD s false=false:=fun hm=>by
  cases W:q.getD s false with
  | false=>rfl
  | true=>rw[up_listed hC W _ i (hup i hm)]at hl;cases hl
 by_cases es:i=s
 ·subst es;obtain⟨X,S⟩:=h1 hl
  have hm:q.getD m false=true:=by
   have:=up_listed ae (getD_set_same _ _ U) _ m (hup m (List.mem_cons_self ..))
   rwa [getD_set_other _ _ _ (Ne.symm hms)]at this
  rw[hm]at S;obtain⟨g1,g2⟩:=run_W rS;obtain⟨w',r1,r2⟩:=hS x w S fun j A=>X j (H j A);refine Or.inl ⟨g1,wp_skip (by rw[J,←D,g2];exact r1) ⟨_,rfl,nx _ (x i) w' (by rw[ku];rfl) (fun h=>?_) fun _=>by rw[same];exact r2⟩⟩;rw[getD_set_same _ _ U]at h
  cases h
 by_cases em:i=m
 ·subst em;have W:=K (List.mem_cons_self ..);obtain⟨X,S⟩:=h1 W;rw[hl]at S;have V:=congrFun (congrFun rM x) w;have hc:=hM x w S fun j A=>X j (H j A);unfold resW at V
  cases hw:wnt l i (FW l kp a0 x) with
  | false=>rw[hw]at V;cases V
  | true=>
   rw[hw]at V;refine Or.inl ⟨rfl,?_⟩;unfold Oper.wp;rw[J,←D,show (execOp (FW l kp a0 x).eval (opW l i)).run P w=_ from Option.some.inj V];refine hc.mono fun e w' ⟨y,he,B,ai,aj⟩=>?_;subst he
   refine⟨_,by rw[D],nx _ y w' rfl (fun _=>⟨fun j A=>hf.at j _ _ _ aj (X j A),B,?_⟩) fun h=>?_⟩
   ·rw[getD_set_same _ _ U];exact ai
   ·rw[getD_set_other _ _ _ es,W]at h;cases h
 by_cases hm:i∈ex
 ·have W:=K (List.mem_cons_of_mem _ hm);obtain⟨X,S⟩:=h1 W;obtain⟨g1,g2⟩:=(ho _ w S).at i hm x w (Gr.refl _) fun j A=>X j (H j A)
  have L:∀y w',Gr w w'→(kW kp i).ok y w'→RX l kp m s I I2 (q.setIfInBounds i true) (upd G i ((kW kp i).val y)) w':=fun y w' Z B=>nx _ y w' rfl (fun _=>⟨fun j A=>(kW kp j).gr _ _ _ (X j A) Z,B,by rw[getD_set_other _ _ _ em];exact hI _ _ _ S Z⟩) fun h=>by
   rw[getD_set_other _ _ _ es,W]at h;cases h
  refine Or.inl ⟨g1,?_⟩;rw[D]at g2
  obtain⟨y,w',R,Z,B⟩|⟨f,args,R,hc⟩:=g2
  ·exact wp_val _ (by rw[J];exact R) ⟨_,rfl,L y w' Z B⟩
  ·exact wp_retz (k:=(kW kp i).kz) (by rw[J];exact R) (hc.mono fun e w' ⟨y,he,B,Z⟩=>⟨_,he,⟨y,rfl,B⟩,Z⟩) fun r w' ⟨y,hy,B⟩ Z=>⟨r,rfl,by rw[hy];exact L y w' Z B⟩
 ·have aa:i∈others (m :: s :: ex) l.length:=by
   refine List.mem_filter.2 ⟨by simpa using ab,?_⟩
   have:i ∉ m :: s :: ex:=fun h=>by
    rcases List.mem_cons.1 h with h|h
    ·exact em h
    ·rcases List.mem_cons.1 h with h|h
     ·exact es h
     ·exact hm h
   simpa using this
  have ak:(kW kp i).cst≠0:=by
   have ag:=hk;simp only[chkW,Bool.and_eq_true]at ag
   simpa using List.all_eq_true.1 ag.2 i aa
  have C:=List.map_inj_left.1 (congrFun (congrFun hp x) w) i aa;simp only[resW,expW,D]at C
  have L:∀r,r=(kW kp i).val (x i)→RX l kp m s I I2 (q.setIfInBounds i true) (upd G i r) w:=fun r V=>nx r (x i) w V (fun h=>by
   rw[getD_set_other _ _ _ es]at h;rw[getD_set_other _ _ _ em]
   exact⟨(h1 h).1,(kW kp i).hc ak _ _,(h1 h).2⟩) fun h=>by
   rw[getD_set_other _ _ _ es]at h;rw[same];exact h2 h
  cases hw:wnt l i (FW l kp a0 x) with
  | true=>
   rw[hw]at C;refine Or.inl ⟨rfl,?_⟩
   cases Y:(kW kp i).cst==2 with
   | true=>rw[Y]at C;cases C
   | false=>
    rw[Y]at C;exact wp_val _ (by rw[J];exact Option.some.inj C) ⟨_,rfl,L _ rfl⟩
  | false=>
   rw[hw]at C;refine Or.inr ⟨rfl,?_⟩
   cases Y:(kW kp i).cst==2 with
   | true=>exact L _ ((kW kp i).hs (by simpa using Y) _).symm
   | false=>rw[Y]at C;cases C
theorem wp_x(d:Bool){id:Nat}{W:World}(kp:List Kw)(ex:List Nat)(m s:Nat)(N:World→World→Prop)(I:Bool→World→Prop)(I2:(Nat→Wt)→World→Prop)(f:FuncId)(args:(Nat→Wt)→Array Value)(t:TypeId)(p u:(Nat→Wt)→Value)(h0:I false W)(hI:∀b v v',I b v→Gr v v'→I b v')(ho:∀b v,I b v→ObsW P l kp a0 v ex)(hM:ObM P l kp m N I f args)(hS:ObT P l kp s I I2 t p u)(hf:FarNs N kp)(hfin:∀x v,I2 x v→Q .normal (FW l kp a0 x) v)(ku:kW kp s=.u:=by rfl)(rM:(fun x v=>resW P l kp a0 x v m)=fun x v=>some (.ok (.enter f (args x)) v):=by kernel_rfl)(rS:runW l kp a0 s=fun x=>some (exI (.store t (.const (p x)) (.const (u x)))):=by kernel_rfl)(hm:(!d || P.follows .mixedOrders)=true:=by kernel_rfl)(hk:(chkW l kp (m :: s :: ex) l.length&&(m :: ex).all (fun i=>upX l s l.length i)&&decide (m≠s)&&decide (s<l.length))=true:=by kernel_rfl)(hp:pureL P l kp a0 (m :: s :: ex) l.length=pureR kp (m :: s :: ex) l.length:=by kernel_rfl):(Code.region id l.toArray d).wp P Q a0 W:=by
 simp only[Bool.and_eq_true,decide_eq_true_eq,List.all_eq_true]at hk;obtain⟨⟨⟨hk,D⟩,G⟩,H⟩:=hk;obtain⟨J,K⟩:=chk_u hk
 refine wp_region_ord d (fun h=>by subst h;simpa using hm) J (RX l kp m s I I2) (fun q Y L S=>?_) (stepX d hk hp D G hI ho hf hM rM hS ku rS) fun q R a v A U hF=>?_
 ·have C:∀(i:Nat) (p:Prop),q.getD i false=true→p:=fun i p h=>by rw[L]at h;cases h
  exact⟨fun j o _ B=>C j _ B,fun _ _=>(none,0),fun j B=>C j _ B,fun _=>⟨fun j B=>C j _ B,by rw[L];exact hI _ _ _ h0 S⟩,fun h=>C s _ h⟩
 ·rw[hF.final J A];obtain⟨-,x,V,-,X⟩:=U;rw[putFrom_congr (vals':=wvals kp x) l 0 a0 fun j o B _=>by rw[Nat.zero_add];exact V j (A j (by simpa using (List.getElem?_eq_some_iff.1 B).1))];exact hfin x v (X (A s (by simpa using H)))
end
theorem ObW.kf{P:Program}{l:List Oper}{a0:Act}{W:World}{kp:List Kw}{i:Nat}{f:FuncId}(args:(Nat→Wt)→Array Value)(hcf:∀x v,(callFunc f (args x)).run P v=.ok (.enter f (args x)) v)(hc:∀x v,Gr W v→(∀j,wts l i j=true→(kW kp j).ok (x j) v)→Calls P f (args x) v (RtW (kW kp i) v))(hr:(fun x v=>resW P l kp a0 x v i)=fun x v=>some ((callFunc f (args x)).run P v):=by kernel_rfl):ObW P l kp a0 W i:=
 ObW.k args hc (by rw[hr];funext x v;rw[hcf x v])
end
section
attribute [local go_sem ↓] uz1
attribute [local go_sem] uz2
section
def bslF(t:TypeId)(n:Nat)(p:Array (Nat×Value)):Sem Value:=Instr.buildSlice t n p
theorem bslN_is(n:Nat)(p:Array (Nat×Value)):Instr.buildSlice 136 n p=bslF 136 n p:=rfl
theorem bsl2(a b:Nat)(w:World):(bslF 136 2 #[(0,.agg (nw 9 a)),(1,.agg (nw 9 b))]).run prog w=.ok (.slice (some ⟨w.heap.size,0,none⟩) 2 2) (w.alloc (.cells (nw 9 a++nw 9 b) 25)):=by kernel_rfl
theorem bsl1(a:Nat)(w:World):(bslF 136 1 #[(0,.agg (nw 9 a))]).run prog w=.ok (.slice (some ⟨w.heap.size,0,none⟩) 1 1) (w.alloc (.cells (nw 9 a) 25)):=by kernel_rfl
attribute [local go_sem ↓] uz3
attribute [local go_sem] uz4 ones_nw
attribute [local go_sem] uz7
attribute [local go_sem ↓] loadMd_is storeMd_is buildMd_is bslN_is Go.wp_at_zero Go.wp_at_succ
attribute [local go_sem] loadMd loadMd2 storeMd buildMd0 buildMd1 blk_other idx2_0 idx2_1 idx2_2 idx1_0 idx1_1 bsl2 bsl1
theorem onTwo_no(k x:Int)(a b E:Nat)(hE:E≠0)(HM:∀w p,blk w p=nw 9 a++nw 9 b→Pre (p+1) w.heap.size→Cg 92 #[.int .i64 x,.slice (some ⟨p,0,none⟩) 2 2] w (.tuple #[.agg (nw 9 0),.int .i64 E]))(w:World):
 Cg 72 #[.int .i64 k,.int .i64 x,.agg (nw 9 a),.agg (nw 9 b)] w (.tuple #[.agg (nw 9 0),.int .i64 E]):=by
 have d:Hid _:=HM
 go_enter func72,ntmps72
 go_wp2_with (go_at_call 92;refine(d.out _ _ ?_ ?_).mono ?_;· simp[go_sem]
              ·simp[go_sem]
              rintro e f ⟨rfl,g,rfl⟩)
 refine bo2 results72 (rd_nat (by rfl) ?_) ⟨rfl,grA⟩;simp[go_sem]
theorem onTwo_of(k:Int)(f:Nat)(x:Int)(m a b R:Nat)(hid:∀w,(Instr.index 130 (.agg tab2) (.int .i64 k)).run prog w=.ok (.func (.func f) #[] #[]) w)(hcf:∀w,(callFunc f #[.agg (nw 9 m),.agg (nw 9 a),.agg (nw 9 b)]).run prog w=.ok (.enter f #[.agg (nw 9 m),.agg (nw 9 a),.agg (nw 9 b)]) w)(HM:∀w p,blk w p=nw 9 a++nw 9 b→Pre (p+1) w.heap.size→Cg 92 #[.int .i64 x,.slice (some ⟨p,0,none⟩) 2 2] w (.tuple #[.agg (nw 9 m),.int .i64 0]))(HF:∀w,Calls prog f #[.agg (nw 9 m),.agg (nw 9 a),.agg (nw 9 b)] w fun e w'=>e=.returned (.agg (nw 9 R))∧Gr w w')(w:World):
 Cg 72 #[.int .i64 k,.int .i64 x,.agg (nw 9 a),.agg (nw 9 b)] w (.tuple #[.agg (nw 9 R),.int .i64 0]):=by
 have B:Hid _:=HM;have C:Hid _:=HF;have H:Hid _:=ofTwo_any
 go_enter func72,ntmps72
 go_upto_region 4 with (go_at_call 92;refine(B.out _ _ ?_ ?_).mono ?_;· simp[go_sem]
                        ·simp[go_sem]
                        rintro e w' ⟨rfl,g,rfl⟩)
 obtain⟨A,d⟩:=exl (w.heap.size+1+1+1+1+g.os.length);rw[d]
 refine gen_w (fun v=>Hid (Gr w v∧Vr v w.heap.size (nw 9 a)∧Vr v (w.heap.size+1) (nw 9 b)∧Vr v (w.heap.size+1+1) (nw 9 0)∧Vr v A (nw 9 m))) ?_ ?_
 ·subst d;exact⟨grA,⟨by simp[go_sem],by simp[go_sem],by simp[go_sem]⟩,⟨by simp[go_sem],by simp[go_sem],by simp[go_sem]⟩,⟨by simp[go_sem],by simp[go_sem],by simp[go_sem]⟩,⟨by simp[go_sem],by simp[go_sem],by simp[go_sem]⟩⟩
 intro Q I
 refine wp_x true [.c (.agg tab2),.c (.int .i64 k),.c (.func (.func f) #[] #[]),.c (.agg (nw 9 m)),.c (.agg (nw 9 a)),.c (.agg (nw 9 b)),.c (.agg (nw 9 R)),.u,.c (.int .i64 0)] [2,3,4,5,6] 0 7 (fun _ _=>True)
  (fun _ v=>Gr w v∧Vr v (w.heap.size) (nw 9 a)∧Vr v (w.heap.size+1) (nw 9 b)∧Vr v (w.heap.size+1+1) (nw 9 0)∧Vr v A (nw 9 m)) (fun _ v=>Gr w v∧Vr v (w.heap.size+1+1) (nw 9 R))
  94 (fun _ =>#[]) 25 (fun _=>pv (w.heap.size+1+1) 0) (fun _=>.agg (nw 9 R)) I.out ?x1 ?x2 ?x3 ?x4 ⟨fnc,fnc,fnc,fnc,fnc,fnc,fnc,fnu,fnc,trivial⟩ ?x5
 case x1=>exact fun _ _ _ ⟨G,j,l,i,q⟩ g=>⟨G.trans g,j.gr g,l.gr g,i.gr g,q.gr g⟩
 case x2=>
  rintro _ D ⟨G,j,l,i,q⟩;exact⟨.s (.index 130 (.const (.agg tab2)) (.const (.int .i64 k))) rfl fun D J=>by simp[go_sem,exI,hid],.g 123 0 q rfl,.g 25 0 j rfl,.g 25 0 l rfl,.kf (fun _ =>#[.agg (nw 9 m),.agg (nw 9 a),.agg (nw 9 b)]) (fun _=>hcf) fun S D J U=>RtW.of_c (Rt.c (C.out _)),⟨⟩⟩
 case x3=>
  rintro _ v ⟨G,j,l,i,q⟩ _;refine(H.out _).mono ?_;rintro e w' ⟨rfl,g⟩;exact⟨fun _=>(none,0),rfl,trivial,⟨G.trans g,j.gr g,l.gr g,i.gr g,q.gr g⟩,trivial⟩
 case x4=>
  rintro _ v ⟨G,j,l,i,q⟩ _;exact⟨setBlk v (w.heap.size+1+1) (nw 9 R),by simp[go_sem,exI,i.h,i.f],gr_setNew G (by omega),i.set (by rw[nw_size];decide) _⟩
 rintro _ V ⟨K,L⟩;have P:=L.h;simp only[fzw]
 go_wp2_with fail
 exact bo2 results72 (rd_nat (by rfl) P) ⟨rfl,K⟩
theorem onOne_of(k:Int)(f:Nat)(x:Int)(m a R:Nat)(E:Int)(hid:∀w,(Instr.index 127 (.agg tab1) (.int .i64 k)).run prog w=.ok (.func (.func f) #[] #[]) w)(hcf:∀w,(callFunc f #[.agg (nw 9 m),.agg (nw 9 a)]).run prog w=.ok (.enter f #[.agg (nw 9 m),.agg (nw 9 a)]) w)(HM:∀w p,blk w p=nw 9 a→Pre (p+1) w.heap.size→Cg 92 #[.int .i64 x,.slice (some ⟨p,0,none⟩) 1 1] w (.tuple #[.agg (nw 9 m),.int .i64 0]))(HF:∀w,Calls prog f #[.agg (nw 9 m),.agg (nw 9 a)] w fun e w'=>e=.returned (.tuple #[.agg (nw 9 R),.int .i64 E])∧Gr w w')(w:World):
 Cg 69 #[.int .i64 k,.int .i64 x,.agg (nw 9 a)] w (.tuple #[.agg (nw 9 R),.int .i64 E]):=by
 have A:Hid _:=HM;have B:Hid _:=HF;have D:Hid _:=ofOne_any
 go_enter func69,ntmps69
 go_upto_region 4 with (go_at_call 92;refine(A.out _ _ ?_ ?_).mono ?_;· simp[go_sem]
                        ·simp[go_sem]
                        rintro e w' ⟨rfl,g,rfl⟩)
 obtain⟨q,d⟩:=exl (w.heap.size+1+1+1+g.os.length);rw[d]
 refine gen_w (fun v=>Hid (Gr w v∧Vr v w.heap.size (nw 9 a)∧Vr v (w.heap.size+1) (nw 9 0)∧Vr v q (nw 9 m))) ?_ ?_
 ·subst d;exact⟨grA,⟨by simp[go_sem],by simp[go_sem],by simp[go_sem]⟩,⟨by simp[go_sem],by simp[go_sem],by simp[go_sem]⟩,⟨by simp[go_sem],by simp[go_sem],by simp[go_sem]⟩⟩
 intro P H
 refine wp_x true [.c (.agg tab1),.c (.int .i64 k),.c (.func (.func f) #[] #[]),.c (.agg (nw 9 m)),.c (.agg (nw 9 a)),.c (.tuple #[.agg (nw 9 R),.int .i64 E]),.c (.agg (nw 9 R)),.c (.int .i64 E),.u,.c (.int .i64 E)] [2,3,4,5] 0 8 (fun _ _=>True)
  (fun _ v=>Gr w v∧Vr v (w.heap.size) (nw 9 a)∧Vr v (w.heap.size+1) (nw 9 0)∧Vr v q (nw 9 m)) (fun _ v=>Gr w v∧Vr v (w.heap.size+1) (nw 9 R))
  93 (fun _ =>#[]) 25 (fun _=>pv (w.heap.size+1) 0) (fun _=>.agg (nw 9 R)) H.out ?x1 ?x2 ?x3 ?x4 ⟨fnc,fnc,fnc,fnc,fnc,fnc,fnc,fnc,fnu,fnc,trivial⟩ ?x5
 case x1=>exact fun _ _ _ ⟨G,j,i,l⟩ g=>⟨G.trans g,j.gr g,i.gr g,l.gr g⟩
 case x2=>
  rintro _ C ⟨G,j,i,l⟩;exact⟨.s (.index 127 (.const (.agg tab1)) (.const (.int .i64 k))) rfl fun C I=>by simp[go_sem,exI,hid],.g 123 0 l rfl,.g 25 0 j rfl,.kf (fun _ =>#[.agg (nw 9 m),.agg (nw 9 a)]) (fun _=>hcf) fun Q C I S=>RtW.of_c (Rt.c (B.out _)),⟨⟩⟩
 case x3=>
  rintro _ v ⟨G,j,i,l⟩ _;refine(D.out _).mono ?_;rintro e w' ⟨rfl,g⟩;exact⟨fun _=>(none,0),rfl,trivial,⟨G.trans g,j.gr g,i.gr g,l.gr g⟩,trivial⟩
 case x4=>
  rintro _ v ⟨G,j,i,l⟩ _;exact⟨setBlk v (w.heap.size+1) (nw 9 R),by simp[go_sem,exI,i.h,i.f],gr_setNew G (by omega),i.set (by rw[nw_size];decide) _⟩
 rintro _ U ⟨J,K⟩;have L:=K.h;simp only[fzw]
 go_wp2_with fail
 exact bo2 results69 (rd_nat (by rfl) L) ⟨rfl,J⟩
end
end
section
theorem pN_bd(i:Nat)(h1:1≤i)(h2:i≤15):1<pN i∧pN i+pN i≤M∧pN i%2=1:=by
 obtain rfl|rfl|rfl|rfl|rfl|rfl|rfl|rfl|rfl|rfl|rfl|rfl|rfl|rfl|rfl:i=1∨i=2∨i=3∨i=4∨i=5∨i=6∨i=7∨i=8∨i=9∨i=10∨i=11∨i=12∨i=13∨i=14∨i=15:=by omega
 all_goals exact⟨by decide +kernel,by decide +kernel,by decide +kernel⟩
theorem ts_lt(m:Nat)(hm:0<m):∀o r x c,r<m→ts m o r x c<m
 | 0,r,x,c,h=>h
 | o+1,r,x,c,h=>by
  rw[ts]
  split
  ·exact ts_lt m hm o _ _ _ h
  ·exact ts_lt m hm o _ _ _ (Nat.mod_lt _ hm)
def qP2:Nat:=340282366920938463463374607431768211455
def cN(i a:Nat):Nat:=
 if i=2 then ts (pN 2) 95 (a^(qP2/2)%pN 2*a%pN 2) (a^(qP2/2)%pN 2*(a^(qP2/2)%pN 2)%pN 2*a%pN 2) (11^qP2%pN 2)
 else if i=14 then ts (pN 14) 3 (a^(15/2)%pN 14*a%pN 14) (a^(15/2)%pN 14*(a^(15/2)%pN 14)%pN 14*a%pN 14) (7^15%pN 14)
 else a^((pN i-1)/2/2)%pN i*a%pN i
theorem cN_lt(i a:Nat)(h1:1≤i)(h2:i≤15):cN i a<pN i:=by
 have d:=pN_bd i h1 h2;unfold cN
 split
 ·rename_i h;subst h
  exact ts_lt _ (by omega) _ _ _ _ (Nat.mod_lt _ (by omega))
 ·split
  ·rename_i h;subst h
   exact ts_lt _ (by omega) _ _ _ _ (Nat.mod_lt _ (by omega))
  ·exact Nat.mod_lt _ (by omega)
def noWit(f m e L:Nat):Nat→Bool
 | 0=>true
 | k+1 => !Nat.beq (pmF f (k+2) e m) L&&noWit f m e L k
theorem noWit_is(f m e L:Nat)(he:e<2^f):∀k,noWit f m e L k=true→∀x,2≤x→x<k+2→x^e%m≠L
 | 0,_,x,h2,hl=>by omega
 | k+1,h,x,h2,hl=>by
  rw[noWit]at h;simp only[Bool.and_eq_true,Bool.not_eq_true']at h
  by_cases e1:x=k+2
  ·subst e1;intro hc;rw[pmF_is f _ e m he,hc]at h;rw[Nat.beq_refl]at h;exact absurd h.1 (by decide)
  ·exact noWit_is f m e L he k h.2 x h2 (by omega)
theorem wit_of{f m e L z:Nat}(he:e<2^f)(h:Nat.beq (pmF f z e m) L=true):z^e%m=L:=by
 rw[←pmF_is f z e m he];exact Nat.eq_of_beq_eq_true h
theorem not2_14(i:Nat)(h1:1≤i)(h2:i≤15)(n2:i≠2)(n14:i≠14):(pN i-1)/2%2=1∧pN i=(pN i-1)/2*2^1+1:=by
 obtain rfl|rfl|rfl|rfl|rfl|rfl|rfl|rfl|rfl|rfl|rfl|rfl|rfl|rfl|rfl:i=1∨i=2∨i=3∨i=4∨i=5∨i=6∨i=7∨i=8∨i=9∨i=10∨i=11∨i=12∨i=13∨i=14∨i=15:=by omega
 all_goals first
  | exact absurd rfl n2
  | exact absurd rfl n14
  | exact⟨by decide +kernel,by decide +kernel⟩
theorem cand_any(i a:Nat)(h1:1≤i)(h2:i≤15)(ha:a<pN i)(w:World):
 Cg 108 #[.agg (nw 9 (pN i)),.agg (nw 9 a)] w (.agg (nw 9 (cN i a))):=by
 have d:=pN_bd i h1 h2;unfold cN
 split
 ·rename_i h;subst h
  exact fcand_more (pN 2) a qP2 95 11 ha d.2.1 (by decide +kernel) (by decide +kernel) (by decide) (by decide) (by decide) (by decide +kernel)
   (wit_of (f:=224) (by decide +kernel) (by decide +kernel)) (noWit_is 224 _ _ _ (by decide +kernel) 9 (by decide +kernel)) w
 ·split
  ·rename_i h;subst h
   exact fcand_more (pN 14) a 15 3 7 ha d.2.1 (by decide) (by decide) (by decide) (by decide) (by decide) (by decide)
    (wit_of (f:=8) (by decide) (by decide +kernel)) (noWit_is 8 _ _ _ (by decide) 5 (by decide +kernel)) w
  ·rename_i n2 n14
   have:=not2_14 i h1 h2 n2 n14;exact fcand_one (pN i) a ((pN i-1)/2) 1 ha (by omega) this.1 this.2 rfl w
def sqR(i a:Nat):Nat:=if cN i a*cN i a%pN i=a then(if cN i a%2=1 then pN i-cN i a else cN i a) else 0
def sqE(i a:Nat):Int:=if cN i a*cN i a%pN i=a then 0 else 503
theorem sqrt_any(i a:Nat)(h1:1≤i)(h2:i≤15)(ha:a<pN i)(w:World):
 Cg 102 #[.agg (nw 9 (pN i)),.agg (nw 9 a)] w (.tuple #[.agg (nw 9 (sqR i a)),.int .i64 (sqE i a)]):=by
 have d:=pN_bd i h1 h2;exact fsqrt_of (pN i) a (cN i a) ha (cN_lt i a h1 h2) d.2.1 d.1 (fun w=>cand_any i a h1 h2 ha w) w
end
section
attribute [local go_sem ↓] uz1
attribute [local go_sem] uz2
section
attribute [local go_sem ↓] uz3
attribute [local go_sem] uz4 ones_nw
attribute [local go_sem ↓] loadMd_is storeMd_is buildMd_is
attribute [local go_sem] loadMd storeMd buildMd0 buildMd1
theorem fAdd_of(x:Int)(a b R:Nat)(E:Int)(HF:∀w,Cg 72 #[.int .i64 0,.int .i64 x,.agg (nw 9 a),.agg (nw 9 b)] w (.tuple #[.agg (nw 9 R),.int .i64 E]))(w:World):
 Cg 71 #[.int .i64 x,.agg (nw 9 a),.agg (nw 9 b)] w (.tuple #[.agg (nw 9 R),.int .i64 E]):=by
 have d:Hid _:=HF
 go_enter func71,ntmps71
 go_wp2_with (go_at_call 72;refine hkA d fun g=>?_)
 refine bo2 results71 (rd_nat (by rfl) ?_) ⟨rfl,grA⟩;simp[go_sem]
theorem fAdd_range(i a b:Nat)(h1:1≤i)(h2:i≤15)(ha:a<M)(hb:b<M)(h:¬(a<pN i∧b<pN i))(w:World):
 Cg 71 #[.int .i64 i,.agg (nw 9 a),.agg (nw 9 b)] w (.tuple #[.agg (nw 9 0),.int .i64 501]):=
 fAdd_of i a b 0 501 (fun w=>onTwo_no 0 i a b 501 (by decide) (fun w p d f=>by
  have j:=pN_bd i h1 h2;have:=mfor_two i (pN i) a b p (mvN a b) h1 h2 rfl (by omega) ha hb rfl w (by rw[d];exact app_mv a b ha) f;rw[if_neg h,if_neg h]at this
  exact this) w) w
theorem fAdd_ok(i a b:Nat)(h1:1≤i)(h2:i≤15)(ha:a<pN i)(hb:b<pN i)(w:World):
 Cg 71 #[.int .i64 i,.agg (nw 9 a),.agg (nw 9 b)] w (.tuple #[.agg (nw 9 ((a+b)%pN i)),.int .i64 0]):=by
 have d:=pN_bd i h1 h2;refine fAdd_of i a b _ 0 (fun w=>onTwo_of 0 103 i (pN i) a b _ idx2_0 (fun w=>by kernel_rfl) (fun w p f h=>?_) (fun w=>fadd_any (pN i) a b ha hb d.2.1 w) w) w;have:=mfor_two i (pN i) a b p (mvN a b) h1 h2 rfl (by omega) (by omega) (by omega) rfl w (by rw[f];exact app_mv a b (by omega)) h;rw[if_pos ⟨ha,hb⟩,if_pos ⟨ha,hb⟩]at this;exact this
theorem fSub_of(x:Int)(a b R:Nat)(E:Int)(HF:∀w,Cg 72 #[.int .i64 1,.int .i64 x,.agg (nw 9 a),.agg (nw 9 b)] w (.tuple #[.agg (nw 9 R),.int .i64 E]))(w:World):
 Cg 58 #[.int .i64 x,.agg (nw 9 a),.agg (nw 9 b)] w (.tuple #[.agg (nw 9 R),.int .i64 E]):=by
 have d:Hid _:=HF
 go_enter func58,ntmps58
 go_wp2_with (go_at_call 72;refine hkA d fun g=>?_)
 refine bo2 results58 (rd_nat (by rfl) ?_) ⟨rfl,grA⟩;simp[go_sem]
theorem fSub_ok(i a b:Nat)(h1:1≤i)(h2:i≤15)(ha:a<pN i)(hb:b<pN i)(w:World):
 Cg 58 #[.int .i64 i,.agg (nw 9 a),.agg (nw 9 b)] w (.tuple #[.agg (nw 9 ((a+pN i-b)%pN i)),.int .i64 0]):=by
 have d:=pN_bd i h1 h2;refine fSub_of i a b _ 0 (fun w=>onTwo_of 1 104 i (pN i) a b _ idx2_1 (fun w=>by kernel_rfl) (fun w p f h=>?_) (fun w=>fsub_any (pN i) a b ha hb d.2.1 w) w) w;have:=mfor_two i (pN i) a b p (mvN a b) h1 h2 rfl (by omega) (by omega) (by omega) rfl w (by rw[f];exact app_mv a b (by omega)) h;rw[if_pos ⟨ha,hb⟩,if_pos ⟨ha,hb⟩]at this;exact this
theorem fMul_of(x:Int)(a b R:Nat)(E:Int)(HF:∀w,Cg 72 #[.int .i64 2,.int .i64 x,.agg (nw 9 a),.agg (nw 9 b)] w (.tuple #[.agg (nw 9 R),.int .i64 E]))(w:World):
 Cg 70 #[.int .i64 x,.agg (nw 9 a),.agg (nw 9 b)] w (.tuple #[.agg (nw 9 R),.int .i64 E]):=by
 have d:Hid _:=HF
 go_enter func70,ntmps70
 go_wp2_with (go_at_call 72;refine hkA d fun g=>?_)
 refine bo2 results70 (rd_nat (by rfl) ?_) ⟨rfl,grA⟩;simp[go_sem]
theorem fMul_ok(i a b:Nat)(h1:1≤i)(h2:i≤15)(ha:a<pN i)(hb:b<pN i)(w:World):
 Cg 70 #[.int .i64 i,.agg (nw 9 a),.agg (nw 9 b)] w (.tuple #[.agg (nw 9 (a*b%pN i)),.int .i64 0]):=by
 have h:=pN_bd i h1 h2;refine fMul_of i a b _ 0 (fun w=>onTwo_of 2 105 i (pN i) a b _ idx2_2 (fun w=>by kernel_rfl) (fun w p d f=>?_) (fun w=>fmul_any (pN i) a b (by omega) (by omega) (by omega) (by omega) w) w) w;have:=mfor_two i (pN i) a b p (mvN a b) h1 h2 rfl (by omega) (by omega) (by omega) rfl w (by rw[d];exact app_mv a b (by omega)) f;rw[if_pos ⟨ha,hb⟩,if_pos ⟨ha,hb⟩]at this;exact this
theorem mfor_ok10(i a:Nat)(h1:1≤i)(h2:i≤15)(ha:a<pN i)(w:World)(p:Nat)(hp:blk w p=nw 9 a)(hq:Pre (p+1) w.heap.size):
 Cg 92 #[.int .i64 i,.slice (some ⟨p,0,none⟩) 1 1] w (.tuple #[.agg (nw 9 (pN i)),.int .i64 0]):=by
 have d:=pN_bd i h1 h2;have:=mfor_one i (pN i) a p h1 h2 rfl (by omega) (by omega) w hp hq;rw[if_pos ha,if_pos ha]at this;exact this
theorem fSqrt_of(x:Int)(a R:Nat)(E:Int)(HF:∀w,Cg 69 #[.int .i64 1,.int .i64 x,.agg (nw 9 a)] w (.tuple #[.agg (nw 9 R),.int .i64 E]))(w:World):
 Cg 56 #[.int .i64 x,.agg (nw 9 a)] w (.tuple #[.agg (nw 9 R),.int .i64 E]):=by
 have d:Hid _:=HF;clear HF
 go_enter func56,ntmps56
 go_wp2_with (go_at_call 69;refine hkA d fun g=>?_)
 refine bo2 results56 (rd_nat (x:=R) (by rfl) ?_) ⟨rfl,grA⟩;simp[go_sem]
theorem mfor_ok11(i a:Nat)(h1:1≤i)(h2:i≤15)(ha:a<pN i)(w:World)(p:Nat)(hp:blk w p=nw 9 a)(hq:Pre (p+1) w.heap.size):
 Cg 92 #[.int .i64 i,.slice (some ⟨p,0,none⟩) 1 1] w (.tuple #[.agg (nw 9 (pN i)),.int .i64 0]):=by
 have d:=pN_bd i h1 h2;have:=mfor_one i (pN i) a p h1 h2 rfl (by omega) (by omega) w hp hq;rw[if_pos ha,if_pos ha]at this;exact this
theorem fSqrt_ok(i a:Nat)(h1:1≤i)(h2:i≤15)(ha:a<pN i)(w:World):
 Cg 56 #[.int .i64 i,.agg (nw 9 a)] w (.tuple #[.agg (nw 9 (sqR i a)),.int .i64 (sqE i a)]):=
 fSqrt_of i a _ _ (fun w=>onOne_of 1 102 i (pN i) a _ _ idx1_1 (fun w=>by kernel_rfl) (fun w p d f=>mfor_ok11 i a h1 h2 ha w p d f) (fun w=>sqrt_any i a h1 h2 ha w) w) w
end
section
attribute [local go_sem] ppre_1 ppre_2 ppre_3
def ws(l:List Nat):Array Value:=(l.map fun x:Nat=>Value.int .u64 x).toArray
def numW(l:List Nat):Nat:=l.foldl (fun a x=>a*18446744073709551616+x) 0
theorem ws_get(l:List Nat)(j x:Nat)(h:l[j]? = some x):(ws l)[j]? = some (.int .u64 x):=by simp[ws,h]
theorem numW_take(l:List Nat)(j x:Nat)(h:l[j]? = some x):numW (l.take (j+1))=numW (l.take j)*18446744073709551616+x:=by
 grind [numW,List.take_add_one]
theorem put_word(N x q:Nat):N*pw (q+1)%pw q+x*pw q+N*pw (q+1)/pw (q+1)*pw (q+1)=(N*18446744073709551616+x)*pw q:=by
 grind [pow_succ64,Nat.mul_comm,Nat.mul_assoc,Nat.mul_mod_left,Nat.mul_div_cancel,pw_pos,Nat.add_mul,Nat.add_comm]
theorem number_any(l:List Nat)(k b:Nat)(hk:l.length=k)(h9:k≤9)(hw:∀x∈l,x<18446744073709551616)(w:World)(hb:blk w b=ws l)(hp:Pre (b+1) w.heap.size):
 Cg 99 #[.slice (some ⟨b,0,none⟩) k k] w (.agg (nw 9 (numW l))):=by
 have D:Hid (∀(j x:Nat),l[j]? = some x→w.cell? ⟨b,j,none⟩=some (.int .u64 x)):=fun j x h=>by rw[cell_blk,hb];exact ws_get l j x h
 have G:Hid (∀(j x:Nat),l[j]? = some x→x<18446744073709551616):=fun j x h=>hw x (List.mem_of_getElem? h);have B:Hu (_):=fun _=>hk
 have P:(0:Int)≤k:=by omega
 have Q:(k:Int)≤9:=by omega
 have H:Hu (_):=fun _=>h9;clear hb hw hk h9
 go_enter func99,ntmps99
 go_wp2
 go_loopw [8] (fun i wr=>∃j V:Nat,i=.int .i64 j∧Hu (j≤k∧numW (l.take j)*pw (k-j)=V)∧wr=(w.alloc (.cells (nw 9 0) 25)).alloc (.cells (nw 9 V) 25)) (fun i _=>k-(intOf i).toNat)
 case atStart=>exact⟨0,0,rfl,fun _=>⟨Nat.zero_le _,by simp[numW]⟩,rfl⟩
 case round=>
  obtain⟨j,V,rfl,C,rfl⟩:=hrel
  by_cases hlt:j<k
  ·obtain⟨q,R⟩:=exl (k-1-j)
   have I:j<l.length:=by rw[B.out ()];exact hlt
   obtain⟨x,v⟩:∃x,l[j]? = some x:=⟨l[j],List.getElem?_eq_getElem I⟩;have S:=D.out j x v;have J:=G.out j x v
   have U:(0:Int)≤j:=by omega
   have K:q<9:=by have:=H.out ();omega
   obtain⟨d,f⟩:∃d,numW (l.take (j+1))*pw q=d:=⟨_,rfl⟩
   have W:(nw 9 V).setIfInBounds q (Value.int .u64 x)=nw 9 d:=by
    rw[nw_set 9 V q x J,←f,←(C.out ()).2,numW_take l j x v,show k-j=q+1 by omega,put_word]
   have A:Hu (j+1≤k∧numW (l.take (j+1))*pw (k-(j+1))=d):=fun _=>⟨hlt,by rw[←f,show k-(j+1)=q by omega]⟩
   go_wp2
   go_roundw
   case rel=>exact⟨j+1,d,by go_num,A,rfl⟩
   case measure=>simp[intOf];omega
  ·have L:Hu (V=numW l):=fun _=>by
    have:=C.out ();rw[←this.2,show k-j=0 by omega,pw_zero,Nat.mul_one,List.take_of_length_le (by rw[B.out ()];omega)]
   go_wp2
   refine bo1 results99 (rd_nat (x:=V) (by rfl) ?_) ⟨by rw[L.out ()],grA⟩;simp[go_sem]
end
section
theorem lessThree_any(p:Nat)(h3:3≤p)(hp:p<M)(w:World):
 Cg 98 #[.agg (nw 9 p)] w (.agg (nw 9 (p-3))):=by
 obtain⟨d,j⟩:∃d,p-3=d:=⟨_,rfl⟩
 have D:Hid _:=fun w=>by
  have:=sub_any p 3 hp (by omega) w;rw[decide_eq_false (by omega),show p+M-3=d+M by omega,Nat.add_mod_right,Nat.mod_eq_of_lt (show d<M by omega)]at this;exact this
 rw[j];clear j h3 hp
 go_enter func98,ntmps98
 go_upto_region 1 with fail
 refine gen_v (fun v=>Gr w v∧Vr v w.heap.size (nw 9 p)∧Vr v (w.heap.size+1) (nw 9 0)) ⟨grA,vrA,vrA⟩ ?_;rintro Q ⟨G,x,q⟩;refine wp_v true [.N p,.N 3,.c (.tuple #[.agg (nw 9 d),.bool false]),.c (.tuple #[.agg (nw 9 d),.bool false]),.N d,.F,.a,.u,.F] [0,1,2] [⟨6,7,25,nw 9 0,fun _=>nw 9 d⟩] ⟨.g 25 0 x rfl,.z (small_any 3 (by decide)),.z D.out,⟨⟩⟩ ⟨.k zNat (.t rfl),⟨⟩⟩ fun H R i I A=>?_;simp only[fzw,Kw.a];obtain⟨⟨B,l⟩,-⟩:=A;clear I;replace G:=G.trans i;replace x:=x.gr i;replace q:=q.gr i
 go_upto_region 2 with fail
 refine wp_wTS 1 [.N d] [0] ⟨.g 25 0 l rfl,⟨⟩⟩ (.s 25 (fun J=>pv (w.heap.size+1) 0) (fun J=>.agg (nw 9 d)) fun K L i S=>?_);have C:=(q.gr i).h;have P:=(q.gr i).f;refine⟨setBlk L (w.heap.size+1) (nw 9 d),by simp[go_sem,exI,C,P],?_⟩;simp only[fzw];replace G:=G.trans i
 go_wp2_with fail
 exact bo1 results98 (rd_nat (by rfl) (blk_setBlk _ _ _ (by rw[C];decide +kernel))) ⟨rfl,gr_setNew G (by omega)⟩
end
end
end Go.Proofs.YtiigakdbabijhaaGreat