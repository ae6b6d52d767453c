import Derived.Test.YtghidgcekieljaaGreatXAFB
import Derived.Test.YtghidgcekieljaaGreatXARSub
import Derived.Test.YtghidgcekieljaaGreatXAMixQ
import Derived.Test.YtghidgcekieljaaGreatXAQt
namespace Go.Proofs.YtghidgcekieljaaGreat
open Go.RowKit Go.Proofs.Tryz
set_option maxRecDepth 100000
set_option maxHeartbeats 8000000
section
def mvN(a f:Nat):Nat:=a+f*M
theorem mv_lo(a f:Nat)(ha:a<M):nw 9 (mvN a f)=nw 9 a:=by
 rw[←nw_mod (mvN a f) 9];refine congrArg (nw 9) ?_
 show (a+f*M)%M=a
 rw[Nat.add_mul_mod_self_right,Nat.mod_eq_of_lt ha]
theorem mv_hi(a f:Nat)(ha:a<M):nw 9 (mvN a f/pw 9)=nw 9 f:=by
 refine congrArg (nw 9) ?_
 show (a+f*M)/M=f
 rw[Nat.add_mul_div_right _ _ M_pos,Nat.div_eq_of_lt ha,Nat.zero_add]
theorem ext_lo(X:Nat):(nw 18 X).extract 0 9=nw 9 X:=by
 apply Array.ext_getElem?
 intro j
 by_cases hj:j<9
 ·rw[nw_get 9 X j hj,Array.getElem?_extract,if_pos (by rw[nw_size];omega),Nat.zero_add,nw_get 18 X j (by omega)]
 ·rw[Array.getElem?_eq_none (by simp[nw_size];omega),Array.getElem?_eq_none (by rw[nw_size];omega)]
theorem wd_div(X k j:Nat):wd (X/pw k) j=wd X (k+j):=by
 unfold wd;rw[Nat.div_div_eq_div_mul,pw_add]
theorem ext_hi(X:Nat):(nw 18 X).extract 9 18=nw 9 (X/pw 9):=by
 apply Array.ext_getElem?
 intro j
 by_cases hj:j<9
 ·rw[nw_get 9 _ j hj,Array.getElem?_extract,if_pos (by rw[nw_size];omega),nw_get 18 X (9+j) (by omega),wd_div]
 ·rw[Array.getElem?_eq_none (by simp[nw_size];omega),Array.getElem?_eq_none (by rw[nw_size];omega)]
theorem app_mv(a f:Nat)(ha:a<M):nw 9 a++nw 9 f=nw 18 (mvN a f):=by
 have h:=mv_lo a f ha;have h2:=mv_hi a f ha;rw[←ext_lo]at h;rw[←ext_hi]at h2;rw[←h,←h2];have hs:(nw 18 (mvN a f)).size=18:=nw_size 18 _;rw[Array.extract_append_extract];have e:(nw 18 (mvN a f)).extract 0 (nw 18 (mvN a f)).size=nw 18 (mvN a f):=Array.extract_size;rw[hs]at e
 simpa using e
theorem loadMv_is:LdI 225:=fun _=>rfl
theorem storeMv_is:StI 225:=fun _ _=>rfl
theorem loadMv:LdS 225 18:=ldS
theorem storeMv(s:Nat):StS 225 18 (nw 18 s):=stS (nw_size 18 s) (nw_one 18 s)
theorem part_range(w:World)(b o n:Nat):w.rangeAt b o ((blk w b).extract o (o+n)).toList:=fun j v hv=>by
 rw[cell_blk]
 have h1:((blk w b).extract o (o+n))[j]? = some v:=by rw[Array.getElem?_toList]at hv;exact hv
 rw[Array.getElem?_extract]at h1
 split at h1
 ·exact h1
 ·cases h1
theorem loadPart(w:World)(b o:Nat)(h:o+9≤(blk w b).size):(loadS 25 (.pointer (some ⟨b,o,none⟩))).run prog w=.ok (.agg ((blk w b).extract o (o+9))) w:=by
 have:=run_loadVar_mid w b o 25 ((blk w b).extract o (o+9)).toList _ (part_range w b o 9) underlying25 rfl (by
  have hi:(prog.info? 25).map (·.size)=some 9:=by kernel_rfl
  rw[hi];simp
  omega)
 simp only[loadS,Instr.loadAt,Instr.sureAddr,Sem.run_bind,Sem.run_pure,Result.andThen_ok];rw[Array.toArray_toList]at this;exact this
theorem loadLo(w:World)(b:Nat)(hs:(blk w b).size=18):(loadS 25 (.pointer (some ⟨b,0,none⟩))).run prog w=.ok (.agg ((blk w b).extract 0 9)) w:=loadPart w b 0 (by omega)
theorem loadHi(w:World)(b:Nat)(hs:(blk w b).size=18):(loadS 25 (.pointer (some ⟨b,9,none⟩))).run prog w=.ok (.agg ((blk w b).extract 9 18)) w:=loadPart w b 9 (by omega)
theorem buildMv_is(p:Array (Nat×Value)):Instr.build 225 p=buildS 225 p:=rfl
theorem buildMv2(a f:Nat)(w:World):(buildS 225 #[(0,.agg (nw 9 a)),(1,.agg (nw 9 f))]).run prog w=.ok (.agg (nw 9 a++nw 9 f)) w:=by
 kernel_rfl
theorem buildMv1(a:Nat)(w:World):(buildS 225 #[(0,.agg (nw 9 a))]).run prog w=.ok (.agg (nw 9 a++nw 9 0)) w:=by
 kernel_rfl
theorem rd_mv{x:Nat}:RdC 225 (nw 18 x):=rdC 18 (nw_size 18 x)
end
section
def pnt(x y:Nat)(f:Bool):Array Value:=nw 9 x++nw 9 y ++ #[.bool f]
def cu(id:Int)(p a b n x y:Nat)(s z:Int)(l:Bool):Array Value :=#[.int .i64 id]++nw 9 p++nw 9 a++nw 9 b++nw 9 n++pnt x y false ++ #[.int .i64 s,.int .i64 z,.bool l]
section
variable (id:Int) (p a b n x y:Nat) (s z:Int) (l:Bool)
theorem pnt_size(f:Bool):(pnt x y f).size=19:=by kernel_rfl
theorem cu_size:(cu id p a b n x y s z l).size=59:=by kernel_rfl
theorem pnt_X(f:Bool):(pnt x y f).extract 0 9=nw 9 x:=by kernel_rfl
theorem pnt_Y(f:Bool):(pnt x y f).extract 9 18=nw 9 y:=by kernel_rfl
theorem pnt_18(f:Bool):(pnt x y f)[18]? = some (.bool f):=by kernel_rfl
theorem cu_P:(cu id p a b n x y s z l).extract 1 10=nw 9 p:=by kernel_rfl
theorem cu_A:(cu id p a b n x y s z l).extract 10 19=nw 9 a:=by kernel_rfl
theorem cu_B:(cu id p a b n x y s z l).extract 19 28=nw 9 b:=by kernel_rfl
theorem cu_N:(cu id p a b n x y s z l).extract 28 37=nw 9 n:=by kernel_rfl
theorem cu_G:(cu id p a b n x y s z l).extract 37 56=pnt x y false:=by kernel_rfl
theorem cu_X:(cu id p a b n x y s z l).extract 37 46=nw 9 x:=by kernel_rfl
theorem cu_Y:(cu id p a b n x y s z l).extract 46 55=nw 9 y:=by kernel_rfl
theorem cu_0:(cu id p a b n x y s z l)[0]? = some (.int .i64 id):=by kernel_rfl
theorem cu_56:(cu id p a b n x y s z l)[56]? = some (.int .i64 s):=by kernel_rfl
theorem cu_57:(cu id p a b n x y s z l)[57]? = some (.int .i64 z):=by kernel_rfl
theorem cu_58:(cu id p a b n x y s z l)[58]? = some (.bool l):=by kernel_rfl
theorem cu_set0(v:Int):(cu id p a b n x y s z l).setIfInBounds 0 (.int .i64 v)=cu v p a b n x y s z l:=by kernel_rfl
theorem cu_set56(v:Int):(cu id p a b n x y s z l).setIfInBounds 56 (.int .i64 v)=cu id p a b n x y v z l:=by kernel_rfl
theorem cu_set57(v:Int):(cu id p a b n x y s z l).setIfInBounds 57 (.int .i64 v)=cu id p a b n x y s v l:=by kernel_rfl
theorem cu_set58(v:Bool):(cu id p a b n x y s z l).setIfInBounds 58 (.bool v)=cu id p a b n x y s z v:=by kernel_rfl
theorem cu_setP(q:Nat):setL (cu id p a b n x y s z l) 1 (nw 9 q).toList=cu id q a b n x y s z l:=by kernel_rfl
theorem all_app(c d:Array Value)(h1:c.all (·.oneCell')=true)(h2:d.all (·.oneCell')=true):(c++d).all (·.oneCell')=true:=by
 rw[Array.all_append,h1,h2];rfl
theorem pnt_one(f:Bool):(pnt x y f).all (·.oneCell')=true:=all_app _ _ (all_app _ _ (nw_one _ _) (nw_one _ _)) (by simp[Value.oneCell'])
theorem cu_one:(cu id p a b n x y s z l).all (·.oneCell')=true:=
 all_app _ _ (all_app _ _ (all_app _ _ (all_app _ _ (all_app _ _ (all_app _ _ (by simp[Value.oneCell']) (nw_one _ _)) (nw_one _ _)) (nw_one _ _)) (nw_one _ _)) (pnt_one x y false)) (by simp[Value.oneCell'])
end
theorem loadCu_is:LdI 67:=fun _=>rfl
theorem storeCu_is:StI 67:=fun _ _=>rfl
theorem loadEq_is:LdI 100:=fun _=>rfl
theorem storeEq_is:StI 100:=fun _ _=>rfl
theorem loadPn_is:LdI 27:=fun _=>rfl
theorem storePn_is:StI 27:=fun _ _=>rfl
theorem zvCu_is:zeroValue 67=zvS 67:=rfl
theorem zvEq_is:zeroValue 100=zvS 100:=rfl
theorem zvPn_is:zeroValue 27=zvS 27:=rfl
theorem zvCu(w:World):(zvS 67).run prog w=.ok (.agg (cu 0 0 0 0 0 0 0 0 0 false)) w:=by kernel_rfl
theorem zvEq(w:World):(zvS 100).run prog w=.ok (.agg (cu 0 0 0 0 0 0 0 0 0 false)) w:=by kernel_rfl
theorem zvPn(w:World):(zvS 27).run prog w=.ok (.agg (pnt 0 0 false)) w:=by kernel_rfl
theorem buildCu_is(p:Array (Nat×Value)):Instr.build 67 p=buildF 67 p:=rfl
theorem buildEq_is(p:Array (Nat×Value)):Instr.build 100 p=buildF 100 p:=rfl
theorem buildPn_is(p:Array (Nat×Value)):Instr.build 27 p=buildF 27 p:=rfl
theorem buildCu0(w:World):(buildF 67 #[]).run prog w=.ok (.agg (cu 0 0 0 0 0 0 0 0 0 false)) w:=by kernel_rfl
theorem buildEq0(w:World):(buildF 100 #[]).run prog w=.ok (.agg (cu 0 0 0 0 0 0 0 0 0 false)) w:=by kernel_rfl
theorem buildCu4(a b n x y:Nat)(w:World):(buildF 67 #[(2,.agg (nw 9 a)),(3,.agg (nw 9 b)),(4,.agg (nw 9 n)),(5,.agg (pnt x y false))]).run prog w=.ok (.agg (cu 0 0 a b n x y 0 0 false)) w:=by kernel_rfl
theorem buildCu9(id:Int)(p a b n x y:Nat)(s z:Int)(l:Bool)(w:World):(buildF 67 #[(0,.int .i64 id),(1,.agg (nw 9 p)),(2,.agg (nw 9 a)),(3,.agg (nw 9 b)),(4,.agg (nw 9 n)),(5,.agg (pnt x y false)),(6,.int .i64 s),(7,.int .i64 z),(8,.bool l)]).run prog w=.ok (.agg (cu id p a b n x y s z l)) w:=by kernel_rfl
theorem buildEq1(id:Int)(p a b n x y:Nat)(s z:Int)(l:Bool)(w:World):(buildF 100 #[(0,.agg (cu id p a b n x y s z l))]).run prog w=.ok (.agg (cu id p a b n x y s z l)) w:=by kernel_rfl
theorem buildPn2(x y:Nat)(w:World):(buildF 27 #[(0,.agg (nw 9 x)),(1,.agg (nw 9 y))]).run prog w=.ok (.agg (pnt x y false)) w:=by kernel_rfl
theorem buildPn3(x y:Nat)(f:Bool)(w:World):(buildF 27 #[(0,.agg (nw 9 x)),(1,.agg (nw 9 y)),(2,.bool f)]).run prog w=.ok (.agg (pnt x y f)) w:=by kernel_rfl
theorem buildPnI(f:Bool)(w:World):(buildF 27 #[(2,.bool f)]).run prog w=.ok (.agg (pnt 0 0 f)) w:=by kernel_rfl
theorem loadCu:LdS 67 59:=ldS
theorem loadEq:LdS 100 59:=ldS
theorem loadPn:LdS 27 19:=ldS
theorem loadPartP(w:World)(b o:Nat)(h:o+19≤(blk w b).size):(loadS 27 (.pointer (some ⟨b,o,none⟩))).run prog w=.ok (.agg ((blk w b).extract o (o+19))) w:=by
 have:=run_loadVar_mid w b o 27 ((blk w b).extract o (o+19)).toList _ (part_range w b o 19) underlying27 rfl (by
  have hi:(prog.info? 27).map (·.size)=some 19:=by kernel_rfl
  rw[hi];simp
  omega)
 simp only[loadS,Instr.loadAt,Instr.sureAddr,Sem.run_bind,Sem.run_pure,Result.andThen_ok];rw[Array.toArray_toList]at this;exact this
theorem loadCP(w:World)(b:Nat)(hs:(blk w b).size=59):(loadS 25 (.pointer (some ⟨b,1,none⟩))).run prog w=.ok (.agg ((blk w b).extract 1 10)) w:=loadPart w b 1 (by omega)
theorem loadCA(w:World)(b:Nat)(hs:(blk w b).size=59):(loadS 25 (.pointer (some ⟨b,10,none⟩))).run prog w=.ok (.agg ((blk w b).extract 10 19)) w:=loadPart w b 10 (by omega)
theorem loadCB(w:World)(b:Nat)(hs:(blk w b).size=59):(loadS 25 (.pointer (some ⟨b,19,none⟩))).run prog w=.ok (.agg ((blk w b).extract 19 28)) w:=loadPart w b 19 (by omega)
theorem loadCN(w:World)(b:Nat)(hs:(blk w b).size=59):(loadS 25 (.pointer (some ⟨b,28,none⟩))).run prog w=.ok (.agg ((blk w b).extract 28 37)) w:=loadPart w b 28 (by omega)
theorem loadCX(w:World)(b:Nat)(hs:(blk w b).size=59):(loadS 25 (.pointer (some ⟨b,37,none⟩))).run prog w=.ok (.agg ((blk w b).extract 37 46)) w:=loadPart w b 37 (by omega)
theorem loadCY(w:World)(b:Nat)(hs:(blk w b).size=59):(loadS 25 (.pointer (some ⟨b,46,none⟩))).run prog w=.ok (.agg ((blk w b).extract 46 55)) w:=loadPart w b 46 (by omega)
theorem loadCG(w:World)(b:Nat)(hs:(blk w b).size=59):(loadS 27 (.pointer (some ⟨b,37,none⟩))).run prog w=.ok (.agg ((blk w b).extract 37 56)) w:=loadPartP w b 37 (by omega)
theorem loadPX(w:World)(b:Nat)(hs:(blk w b).size=19):(loadS 25 (.pointer (some ⟨b,0,none⟩))).run prog w=.ok (.agg ((blk w b).extract 0 9)) w:=loadPart w b 0 (by omega)
theorem loadPY(w:World)(b:Nat)(hs:(blk w b).size=19):(loadS 25 (.pointer (some ⟨b,9,none⟩))).run prog w=.ok (.agg ((blk w b).extract 9 18)) w:=loadPart w b 9 (by omega)
theorem storeCu(id:Int)(p a bb n x y:Nat)(s z:Int)(l:Bool):StS 67 59 (cu id p a bb n x y s z l):=stS (cu_size id p a bb n x y s z l) (cu_one id p a bb n x y s z l)
theorem storeEq(id:Int)(p a bb n x y:Nat)(s z:Int)(l:Bool):StS 100 59 (cu id p a bb n x y s z l):=stS (cu_size id p a bb n x y s z l) (cu_one id p a bb n x y s z l)
theorem storePn(x y:Nat)(f:Bool):StS 27 19 (pnt x y f):=stS (pnt_size x y f) (pnt_one x y f)
theorem frz_at(w:World)(b i:Nat)(hf:frz w b=(0,0)):w.frozen? ⟨b,i,none⟩=false:=by
 unfold frz at hf;unfold World.frozen?
 split <;> simp_all
theorem storeCP(w:World)(b q:Nat)(hs:(blk w b).size=59)(hf:frz w b=(0,0)):(storeS 25 (.pointer (some ⟨b,1,none⟩)) (.agg (nw 9 q))).run prog w=.ok () (setBlk w b (setL (blk w b) 1 (nw 9 q).toList)):=by
 have ht:w.there b 1 (nw 9 q).size:=fun j hj=>by
  rw[nw_size]at hj;exact⟨by rw[cell_blk,Array.getElem?_eq_getElem (by omega)];rfl,frz_at w b _ hf⟩
 simp only[storeS,Instr.storeAt,Instr.sureAddr,Sem.run_bind,Sem.run_pure,Result.andThen_ok];rw[run_storeVar_mid w b 1 25 (nw 9 q) ht (by kernel_rfl) (nw_one 9 q),setCells_setBlk _ _ _ _ (by omega)]
theorem rd_cu{id:Int}{p a bb n x y:Nat}{s z:Int}{l:Bool}:RdC 67 (cu id p a bb n x y s z l):=rdC 59 (cu_size id p a bb n x y s z l)
theorem rd_eq{id:Int}{p a bb n x y:Nat}{s z:Int}{l:Bool}:RdC 100 (cu id p a bb n x y s z l):=rdC 59 (cu_size id p a bb n x y s z l)
theorem rd_pn{x y:Nat}{f:Bool}:RdC 27 (pnt x y f):=rdC 19 (pnt_size x y f)
structure Vr(v:World)(b:Nat)(c:Array Value):Prop where
 h:blk v b=c
 f:frz v b=(0,0)
 p:Pre (b+1) v.heap.size
theorem Vr.gr{v v':World}{b:Nat}{c:Array Value}(h:Vr v b c)(k:Gr v v'):Vr v' b c:=
 ⟨by rw[k.blk _ h.p];exact h.h,by rw[k.frz _ h.p];exact h.f,Nat.le_trans h.p k.below.size⟩
theorem Vr.set{v:World}{b:Nat}{c:Array Value}(h:Vr v b c)(hc:0<c.size)(d:Array Value):Vr (setBlk v b d) b d:=
 ⟨blk_setBlk _ _ _ (by rw[h.h];exact hc),by rw[frz_setBlk];exact h.f,by rw[size_setBlk];exact h.p⟩
theorem Vr.other{v:World}{b k:Nat}{c d:Array Value}(h:Vr v b c)(n:k≠b):Vr (setBlk v k d) b c:=
 ⟨by rw[blk_other _ _ _ _ n];exact h.h,by rw[frz_setBlk];exact h.f,by rw[size_setBlk];exact h.p⟩
theorem Vr.cell{v:World}{b:Nat}{c:Array Value}(h:Vr v b c)(i:Nat):v.cell? ⟨b,i,none⟩=c[i]? := by rw[cell_blk,h.h]
theorem Vr.pp{v:World}{b:Nat}{c:Array Value}(h:Vr v b c):(∀k,Pre (b+1) (v.heap.size+k))∧(∀k l,Pre (b+1) (v.heap.size+k+l))∧(∀k l i,Pre (b+1) (v.heap.size+k+l+i))∧(∀k l i j,Pre (b+1) (v.heap.size+k+l+i+j))∧(∀k l i j m,Pre (b+1) (v.heap.size+k+l+i+j+m))∧(∀k l i j m n,Pre (b+1) (v.heap.size+k+l+i+j+m+n)):=by
 have:b+1≤v.heap.size:=h.p;simp only[Pre];refine⟨?_,?_,?_,?_,?_,?_⟩ <;> intros <;> omega
theorem Vr.new(w:World)(c:Array Value)(t:TypeId):Vr (w.alloc (.cells c t)) w.heap.size c:=
 ⟨blk_alloc_at _ _ _ _ _ rfl,frz_alloc_at _ _ _ _ _ rfl,by simp[Pre]⟩
abbrev uz7:=And.intro @loadMd<|And.intro @storeMd<|And.intro @buildMd0<|And.intro @buildMd1<|And.intro @blk_other<|And.intro @nw_ext9<|And.intro @nw_ext18<|And.intro @eqArr9 @eqArr18
abbrev uz19:=And.intro @loadCu_is<|And.intro @storeCu_is<|And.intro @zvCu_is<|And.intro @buildCu_is<|And.intro @loadPn_is<|And.intro @storePn_is<|And.intro @zvPn_is @buildPn_is
theorem vrA{v:World}{b:Nat}{c:Array Value}(h1:blk v b=c:=by simp[go_sem])(h2:frz v b=(0,0):=by simp[go_sem])(h3:Pre (b+1) v.heap.size:=by simp[go_sem]):Vr v b c:=⟨h1,h2,h3⟩
theorem Vr.al{v:World}{b:Nat}{c:Array Value}(h:Vr v b c):blk v b=c∧frz v b=(0,0)∧Pre (b+1) v.heap.size∧(∀k,Pre (b+1) (v.heap.size+k))∧(∀k l,Pre (b+1) (v.heap.size+k+l))∧(∀k l i,Pre (b+1) (v.heap.size+k+l+i))∧(∀k l i j,Pre (b+1) (v.heap.size+k+l+i+j))∧(∀k l i j m,Pre (b+1) (v.heap.size+k+l+i+j+m))∧(∀k l i j m n,Pre (b+1) (v.heap.size+k+l+i+j+m+n)):=⟨h.h,h.f,h.p,h.pp⟩
end
section
structure Kz where
 ok:Value→World→Prop
 gr:∀v w w',ok v w→Gr w w'→ok v w'
def Kz.c(v:Value):Kz:=⟨fun u _=>u=v,fun _ _ _ h _=>h⟩
def Kz.n(x:Nat):Kz:=⟨fun u w=>∃p n,u=.slice p (dl x) n∧Sl w p x,fun _ _ _ ⟨p,n,e,h⟩ g=>⟨p,n,e,h.gr g⟩⟩
def Kz.nb(x:Nat)(f:Bool):Kz:=⟨fun u w=>∃p n,u=.tuple #[.slice p (dl x) n,.bool f]∧Sl w p x,fun _ _ _ ⟨p,n,e,h⟩ g=>⟨p,n,e,h.gr g⟩⟩
def ptA(p:Option Addr)(x n:Nat)(q:Option Addr)(y m:Nat)(f:Bool):Array Value :=#[.slice p (dl x) n,.slice q (dl y) m,.bool f]
def Kz.pt(x y:Nat)(f:Bool):Kz:=⟨fun u w=>∃p n q m,u=.agg (ptA p x n q y m f)∧Sl w p x∧Sl w q y,fun _ _ _ ⟨p,n,q,m,e,h,k⟩ g=>⟨p,n,q,m,e,h.gr g,k.gr g⟩⟩
def kz(kp:List Kz)(i:Nat)(v:Value)(w:World):Prop:=match kp[i]? with|some k=>k.ok v w|none=>True
theorem kz.gr{kp:List Kz}{i:Nat}{v:Value}{w w':World}(h:kz kp i v w)(g:Gr w w'):kz kp i v w':=by
 unfold kz at h ⊢
 cases e:kp[i]? with
 | none=>trivial
 | some k=>rw[e]at h;exact k.gr _ _ _ h g
def Rt(k:Kz)(w:World)(e:Ending)(w':World):Prop:=∃u,e=.returned u∧k.ok u w'∧Gr w w'
theorem Rt.c{P:Program}{f:FuncId}{args:Array Value}{w:World}{v:Value}(h:Calls P f args w fun e w'=>e=.returned v∧Gr w w'):Calls P f args w (Rt (.c v) w):=h.mono fun _ _ ⟨e,g⟩=>⟨_,e,rfl,g⟩
theorem Rt.n{P:Program}{f:FuncId}{args:Array Value}{w:World}{x:Nat}(h:Calls P f args w (Nm x w)):Calls P f args w (Rt (.n x) w):=h.mono fun _ _ ⟨p,n,e,s,g⟩=>⟨_,e,⟨p,n,rfl,s⟩,g⟩
theorem Rt.same{P:Program}{f:FuncId}{args:Array Value}{w:World}{v:Value}(h:Calls P f args w fun e w'=>e=.returned v∧w'=w):Calls P f args w (Rt (.c v) w):=h.mono fun _ _ ⟨e,g⟩=>⟨_,e,rfl,by rw[g];exact Gr.refl _⟩
theorem wp_retz{P:Program}{o:Oper}{a:Act}{w:World}{K:Act→World→Prop}{Q:Exit→Act→World→Prop}{f:FuncId}{args:Array Value}{k:Kz}(h:(execOp a.eval o).run P w=.ok (.enter f args) w)(hc:Calls P f args w (Rt k w))(hk:∀u w',k.ok u w'→Gr w w'→K (a.put o.dst u) w'):o.wp P a w K Q:=by
 unfold Oper.wp;rw[h]
 exact hc.mono fun e w' ⟨u,he,hu,hg⟩=>by subst he;exact hk u w' hu hg
def RZ(W:World)(kp:List Kz)(listed:Array Bool)(vals:Nat→Value)(w:World):Prop:=
 Gr W w∧∀j,listed.getD j false=true→kz kp j (vals j) w
theorem RZ.next{W w w':World}{kp:List Kz}{listed:Array Bool}{vals:Nat→Value}{i:Nat}{v:Value}(h:RZ W kp listed vals w)(hg:Gr w w')(hv:kz kp i v w'):RZ W kp (listed.setIfInBounds i true) (upd vals i v) w':=by
 refine⟨h.1.trans hg,fun j hj=>?_⟩
 by_cases e:j=i
 ·subst e;simpa [upd]using hv
 ·rw[getD_set_other _ _ _ (Ne.symm e)]at hj;simp only[upd,e,if_false];exact(h.2 j hj).gr hg
def sinkZ(d:Bool)(l:List Oper)(n:Nat):Bool:=decide (l.length=n+1)&&(((l[n]?).map fun o=>o.dst.isNone&&o.guard.isNone).getD false) &&
 (!d || (List.range n).all fun i=>(List.range (n+1)).any fun j=>decide (i<j)&&((l[j]?).map fun o=>o.after.any fun e=>e.on==i&&Region.binds .any e).getD false)
def Cld(l:List Oper)(listed:Array Bool):Prop:=∀j o,l[j]? = some o→listed.getD j false=true→∀e∈o.after,Region.binds .any e=true→listed.getD e.on false=true
theorem sink_all{l:List Oper}{n:Nat}(hs:sinkZ true l n=true){listed:Array Bool}(hc:Cld l listed){o:Oper}(ho:l[n]? = some o)(hd:∀e∈o.after,Region.binds .any e=true→listed.getD e.on false=true):
 ∀k i,i<n→n≤i+k→listed.getD i false=true
 | 0,i,h1,h2=>by omega
 | k+1,i,h1,h2=>by
  simp only[sinkZ,Bool.and_eq_true,decide_eq_true_eq,Bool.not_true,Bool.false_or]at hs;have h:=List.all_eq_true.1 hs.2 i (by simpa using h1);obtain⟨j,hj,hb⟩:=List.any_eq_true.1 h;simp only[Bool.and_eq_true,decide_eq_true_eq,List.mem_range]at hj hb
  cases hw:l[j]? with
  | none=>rw[hw]at hb;simp at hb
  | some oj=>
   rw[hw]at hb;simp only[Option.map_some,Option.getD_some]at hb;obtain⟨m,hm,hm2⟩:=Array.any_eq_true.1 hb.2;simp only[Bool.and_eq_true,beq_iff_eq]at hm2
   by_cases e:j=n
   ·subst e;rw[ho]at hw;cases hw;rw[←hm2.1];exact hd _ (Array.getElem_mem hm) hm2.2
   ·have:=sink_all (by simp only[sinkZ,Bool.and_eq_true,decide_eq_true_eq,Bool.not_true,Bool.false_or];exact hs) hc ho hd k j (by omega) (by omega);rw[←hm2.1];exact hc j oj hw this _ (Array.getElem_mem hm) hm2.2
theorem putFrom_congr{vals vals':Nat→Value}:∀(l:List Oper) (k:Nat) (a:Act),(∀j o,l[j]? = some o→o.dst.isSome=true→vals (k+j)=vals' (k+j))→putFrom vals k l a=putFrom vals' k l a
 | [],_,_,_=>rfl
 | o :: l,k,a,h=>by
  rw[putFrom,putFrom]
  have e:a.put o.dst (vals k)=a.put o.dst (vals' k):=by
   cases hd:o.dst with
   | none=>rfl
   | some d=>rw[show vals k=vals' k from h 0 o rfl (by rw[hd];rfl)]
  rw[e]
  exact putFrom_congr l (k+1) _ fun j o hj hd=>by
   have:=h (j+1) o (by simpa using hj) hd;rw[show k+1+j=k+(j+1) by omega];exact this
theorem wp_region_T(d:Bool){P:Program}{id:Nat}{l:List Oper}{Q:Exit→Act→World→Prop}{a0:Act}{W:World}(hm:d=true→P.follows .mixedOrders=true)(hu:uniqG l.toArray=true)(n:Nat)(hs:sinkZ d l n=true)(kp:List Kz)(hstep:∀(listed:Array Bool) (vals:Nat→Value) (a:Act) (v:World) (i:Nat) (o:Oper),Gr W v→(∀j,listed.getD j false=true→kz kp j (vals j) v)→Frm l.toArray a0 vals listed a→l.toArray[i]? = some o→i<n →
     (∀e∈o.after,Region.binds .any e=true→listed.getD e.on false=true) →
     (Region.wanted o (yielded l.toArray a.tmps)=true∧o.wp P a v (fun a' w'=>∃u,a'=a.put o.dst u∧Gr v w'∧kz kp i u w') Q)∨(Region.wanted o (yielded l.toArray a.tmps)=false∧kz kp i undef v))(hlast:∀(listed:Array Bool) (vals:Nat→Value) (a:Act) (v:World) (o:Oper),Gr W v→(∀j,j<n→kz kp j (vals j) v)→Frm l.toArray a0 vals listed a→(∀j,j<n→listed.getD j false=true)→l.toArray[n]? = some o →
     o.wp P a v (fun a' w'=>a'=a.put o.dst undef∧Q .normal (putFrom vals 0 l a0) w') Q):
 (Code.region id l.toArray d).wp P Q a0 W:=by
 have hs':=hs;simp only[sinkZ,Bool.and_eq_true,decide_eq_true_eq]at hs';obtain⟨⟨hlen,hlo⟩,-⟩:=hs'
 refine wp_region_ord d hm hu (fun listed vals w=>Cld l listed∧((listed.getD n false=false∧RZ W kp listed vals w)∨(listed.getD n false=true∧(∀i,i<n→listed.getD i false=true)∧∃vals0,(∀j,j≠n→vals j=vals0 j)∧Q .normal (putFrom vals0 0 l a0) w)))
  (fun listed w' h0 hg=>⟨fun j o _ hj=>(by rw[h0]at hj;cases hj),Or.inl ⟨h0 _,⟨hg,fun j hj=>(by rw[h0]at hj;cases hj)⟩⟩⟩) (fun listed vals a w i o hz hR hF ho hl hd hsq=>?_) (fun listed vals a w hall hR hF=>?_)
 ·have ho':l[i]? = some o:=by simpa using ho
  have hi:i<n+1:=by rw[←hlen];exact(List.getElem?_eq_some_iff.1 ho').1
  have hil:i<listed.size:=by rw[hz];simpa [hlen]using hi
  have hC:Cld l (listed.setIfInBounds i true):=fun j oj hj hlj e he hb=>by
   by_cases e1:e.on=i
   ·rw[e1];exact getD_set_same _ _ hil
   ·rw[getD_set_other _ _ _ (Ne.symm e1)]
    by_cases e2:j=i
    ·subst e2;rw[ho']at hj;cases hj;exact hd e he hb
    ·rw[getD_set_other _ _ _ (Ne.symm e2)]at hlj;exact hR.1 j oj hj hlj e he hb
  obtain⟨hRC,⟨hn,hR⟩|⟨hn,hall,-⟩⟩:=hR
  ·by_cases e:i=n
   ·subst e
    have hall:∀j,j<i→listed.getD j false=true:=by
     cases d with
     | true=>exact fun j hj=>sink_all hs hRC ho' hd i j hj (Nat.le_add_left _ _)
     | false=>exact hsq rfl
    have hg:o.dst=none∧o.guard=none:=by rw[ho']at hlo;simpa using hlo
    refine Or.inl ⟨wanted_no hg.2,Oper.wp_mono (fun a' w' h=>?_) (hlast listed vals a w o hR.1 (fun j hj=>hR.2 j (hall j hj)) hF hall ho)⟩;obtain⟨rfl,hq⟩:=h;refine⟨undef,rfl,hC,Or.inr ⟨getD_set_same _ _ hil,fun j hj=>?_,vals,fun j hj=>by simp[upd,hj],hq⟩⟩;rw[getD_set_other _ _ _ (by omega)];exact hall j hj
   ·obtain⟨h1,h2⟩|⟨h1,h2⟩:=hstep listed vals a w i o hR.1 hR.2 hF ho (by omega) hd
    ·refine Or.inl ⟨h1,Oper.wp_mono (fun a' w' h=>?_) h2⟩;obtain⟨v,rfl,hg,hv⟩:=h;exact⟨v,rfl,hC,Or.inl ⟨by rw[getD_set_other _ _ _ e];exact hn,RZ.next hR hg hv⟩⟩
    ·exact Or.inr ⟨h1,hC,Or.inl ⟨by rw[getD_set_other _ _ _ e];exact hn,RZ.next hR (Gr.refl _) h2⟩⟩
  ·exfalso
   by_cases e:i=n
   ·subst e;rw[hl]at hn;cases hn
   ·have:=hall i (by omega);rw[hl]at this;cases this
 ·obtain⟨-,⟨hn,-⟩|⟨-,-,vals0,hv,hq⟩⟩:=hR
  ·rw[hall n (by simp[hlen])]at hn;cases hn
  ·rw[hF.final hu hall,putFrom_congr l 0 a0 (fun j o hj hd=>?_)]
   ·exact hq
   ·rw[Nat.zero_add];refine hv j fun e=>?_;subst e;rw[hj]at hlo;simp only[Option.map_some,Option.getD_some,Bool.and_eq_true,Option.isNone_iff_eq_none]at hlo;rw[hlo.1]at hd;cases hd
end
section
abbrev Wt:=Nat→Option Addr×Nat
structure Kw where
 val:Wt→Value
 ok:Wt→World→Prop
 gr:∀x w w',ok x w→Gr w w'→ok x w'
 cst:Nat
 hc:cst≠0→∀y w,ok y w
 hs:cst=2→∀y,val y=undef
def Kw.c(v:Value):Kw:=⟨fun _=>v,fun _ _=>True,fun _ _ _ _ _=>trivial,1,fun _ _ _=>trivial,fun h=>absurd h (by decide)⟩
def Kw.u:Kw:=⟨fun _=>undef,fun _ _=>True,fun _ _ _ _ _=>trivial,2,fun _ _ _=>trivial,fun _ _=>rfl⟩
def Kw.n(x:Nat):Kw:=⟨fun y=>.slice (y 0).1 (dl x) (y 0).2,fun y w=>Sl w (y 0).1 x,fun _ _ _ h g=>h.gr g,0,fun h=>absurd rfl h,fun h=>absurd h (by decide)⟩
def Kw.nb(x:Nat)(f:Bool):Kw:=⟨fun y=>.tuple #[.slice (y 0).1 (dl x) (y 0).2,.bool f],fun y w=>Sl w (y 0).1 x,fun _ _ _ h g=>h.gr g,0,fun h=>absurd rfl h,fun h=>absurd h (by decide)⟩
def Kw.pt(x z:Nat)(f:Bool):Kw:=⟨fun y=>.agg (ptA (y 0).1 x (y 0).2 (y 1).1 z (y 1).2 f),fun y w=>Sl w (y 0).1 x∧Sl w (y 1).1 z,fun _ _ _ h g=>⟨h.1.gr g,h.2.gr g⟩,0,fun h=>absurd rfl h,fun h=>absurd h (by decide)⟩
abbrev pv(b o:Nat):Value:=.pointer (some ⟨b,o,none⟩)
def Kw.kz(k:Kw):Kz:=⟨fun u w=>∃y,u=k.val y∧k.ok y w,fun _ _ _ ⟨y,e,h⟩ g=>⟨y,e,k.gr _ _ _ h g⟩⟩
def kW(kp:List Kw)(i:Nat):Kw:=kp.getD i .u
def wvals(kp:List Kw)(x:Nat→Wt)(j:Nat):Value:=(kW kp j).val (x j)
def FW(l:List Oper)(kp:List Kw)(a0:Act)(x:Nat→Wt):Act:=putFrom (wvals kp x) 0 l a0
def opW(l:List Oper)(i:Nat):Oper:=(l[i]?).getD ⟨none,.move (.const undef),0, "", #[],none⟩
def wts(l:List Oper)(i j:Nat):Bool:=(opW l i).after.toList.any fun e=>e.on==j&&Region.binds .any e
def rdyO(l:List Oper)(i:Nat)(o:Oper):Bool:=
 (match o.op with | .select _ _=>false|_=>true) &&
 (o.op.operands.all fun y=>match y with | .tmp s=>(match own l.toArray s with|some j=>wts l i j|none=>true)|_=>true) &&
 (match o.guard with|some (g,_)=>wts l i g|none=>true)
def others(ex:List Nat)(q:Nat):List Nat:=(List.range q).filter fun i => !ex.contains i
def chkW(l:List Oper)(kp:List Kw)(ex:List Nat)(q:Nat):Bool:=
 uniqG l.toArray&&((List.range q).all fun i=>rdyO l i (opW l i))&&kp.length==q&&(others ex q).all fun i=>(kW kp i).cst != 0
def wnt(l:List Oper)(i:Nat)(a:Act):Bool:=Region.wanted (opW l i) (yielded l.toArray a.tmps)
def RtW(k:Kw)(w:World)(e:Ending)(w':World):Prop:=∃y,e=.returned (k.val y)∧k.ok y w'∧Gr w w'
def StW(P:Program)(k:Kw)(a:Act)(o:Oper)(v:World):Prop:=
 (∃y w',(execOp a.eval o).run P v=.ok (.value (k.val y)) w'∧Gr v w'∧k.ok y w')∨∃f args,(execOp a.eval o).run P v=.ok (.enter f args) v∧Calls P f args v (RtW k v)
def ObW(P:Program)(l:List Oper)(kp:List Kw)(a0:Act)(W:World)(i:Nat):Prop:=
 ∀(x:Nat→Wt) (v:World),Gr W v→(∀j,wts l i j=true→(kW kp j).ok (x j) v)→wnt l i (FW l kp a0 x)=true∧StW P (kW kp i) (FW l kp a0 x) (opW l i) v
def ObsW(P:Program)(l:List Oper)(kp:List Kw)(a0:Act)(W:World):List Nat→Prop
 | []=>True
 | i :: r=>ObW P l kp a0 W i∧ObsW P l kp a0 W r
theorem ObsW.nil{P:Program}{l:List Oper}{kp:List Kw}{a0:Act}{W:World}:ObsW P l kp a0 W []:=trivial
theorem ObsW.cons{P:Program}{l:List Oper}{kp:List Kw}{a0:Act}{W:World}{i:Nat}{r:List Nat}(h:ObW P l kp a0 W i)(t:ObsW P l kp a0 W r):ObsW P l kp a0 W (i :: r):=⟨h,t⟩
theorem ObsW.at{P:Program}{l:List Oper}{kp:List Kw}{a0:Act}{W:World}:∀{ex:List Nat},ObsW P l kp a0 W ex→∀i,i∈ex→ObW P l kp a0 W i
 | [],_,_,h=>by cases h
 | e :: r,ho,i,h=>by
  rcases List.mem_cons.1 h with rfl|h
  ·exact ho.1
  ·exact ObsW.at ho.2 i h
def resW(P:Program)(l:List Oper)(kp:List Kw)(a0:Act)(x:Nat→Wt)(v:World)(i:Nat):Option (Result Next):=
 cond (wnt l i (FW l kp a0 x)) (some ((execOp (FW l kp a0 x).eval (opW l i)).run P v)) none
def expW(kp:List Kw)(x:Nat→Wt)(v:World)(i:Nat):Option (Result Next):=cond ((kW kp i).cst==2) none (some (.ok (.value (wvals kp x i)) v))
def pureL(P:Program)(l:List Oper)(kp:List Kw)(a0:Act)(ex:List Nat)(q:Nat)(x:Nat→Wt)(v:World):List (Option (Result Next)):=(others ex q).map (resW P l kp a0 x v)
def pureR(kp:List Kw)(ex:List Nat)(q:Nat)(x:Nat→Wt)(v:World):List (Option (Result Next)):=(others ex q).map (expW kp x v)
theorem opW_is{l:List Oper}{i:Nat}{o:Oper}(h:l.toArray[i]? = some o):opW l i=o:=by
 have:l[i]? = some o:=by simpa using h
 rw[opW,this];rfl
theorem eval_F{l:List Oper}{a0 a:Act}{vals vals':Nat→Value}{listed:Array Bool}(hu:uniqG l.toArray=true)(hF:Frm l.toArray a0 vals listed a)(s:Nat)(hy:∀j,own l.toArray s=some j→listed.getD j false=true∧vals j=vals' j):a.tmps[s]? = (putFrom vals' 0 l a0).tmps[s]?:=by
 have hE:=putFrom_frm hu l 0 a0 (fun j=>by simp) (Frm.start_up l a0 vals')
 by_cases hs:s<a0.tmps.size
 ·rw[hF.2.2 s hs,hE.2.2 s hs]
  cases ho:own l.toArray s with
  | none=>rfl
  | some j=>
   obtain⟨h1,h2⟩:=hy j ho;obtain⟨o,h3,-⟩:=own_spec ho
   have hj:j<l.length:=by simpa using (Array.getElem?_eq_some_iff.1 h3).1
   simp only[h1,if_true,upTo_getD];rw[if_pos (by simpa using hj),h2]
 ·rw[Array.getElem?_eq_none (by rw[hF.2.1];omega),Array.getElem?_eq_none (by rw[hE.2.1];omega)]
theorem kz_W{kp:List Kw}{j:Nat}(hj:j<kp.length)(u:Value)(v:World):kz (kp.map Kw.kz) j u v↔∃y,u=(kW kp j).val y∧(kW kp j).ok y v:=by
 have e:kp[j]? = some (kW kp j):=by rw[kW,List.getD_eq_getElem?_getD,List.getElem?_eq_getElem hj];rfl
 unfold kz;rw[List.getElem?_map,e];exact Iff.rfl
theorem atW{l:List Oper}{kp:List Kw}{ex:List Nat}{q:Nat}{a0:Act}{listed:Array Bool}{vals:Nat→Value}(hk:chkW l kp ex q=true){a:Act}{v:World}{i:Nat}{o:Oper}(hK:∀j,listed.getD j false=true→kz (kp.map Kw.kz) j (vals j) v)(hF:Frm l.toArray a0 vals listed a)(hi:l.toArray[i]? = some o)(hq:i<q)(hd:∀e∈o.after,Region.binds .any e=true→listed.getD e.on false=true):
 ∃x:Nat→Wt,(∀j,wts l i j=true→listed.getD j false=true∧vals j=(kW kp j).val (x j)∧(kW kp j).ok (x j) v)∧execOp a.eval o=execOp (FW l kp a0 x).eval o∧Region.wanted o (yielded l.toArray a.tmps)=wnt l i (FW l kp a0 x):=by
 simp only[chkW,Bool.and_eq_true,beq_iff_eq]at hk;obtain⟨⟨⟨hu,hr⟩,hlen⟩,hcs⟩:=hk;have hoi:=opW_is hi
 have hx0:∀j,∃y:Wt,wts l i j=true→vals j=(kW kp j).val y∧(kW kp j).ok y v:=fun j=>by
  by_cases h:wts l i j=true
  ·have hl:=on_of hd j (by rw[wts,hoi,Array.any_toList]at h;exact h)
   have hj:j<i:=by
    obtain⟨e,he,hb⟩:=Array.any_eq_true.1 (show (o.after.any fun e=>e.on==j&&Region.binds .any e)=true by rw[wts,hoi,Array.any_toList]at h;exact h);simp only[Bool.and_eq_true,beq_iff_eq]at hb;rw[←hb.1];exact(uniq_at hu hi).2 _ (Array.getElem_mem he) hb.2
   obtain⟨y,h1,h2⟩:=(kz_W (by omega) _ _).1 (hK j hl);exact⟨y,fun _=>⟨h1,h2⟩⟩
  ·exact⟨fun _=>(none,0),fun h'=>absurd h' h⟩
 obtain⟨x,hx⟩:=Classical.axiomOfChoice hx0;have hro:=List.all_eq_true.1 hr i (by simpa using hq);rw[hoi]at hro;simp only[rdyO,Bool.and_eq_true]at hro;obtain⟨⟨hsel,hops⟩,hgd⟩:=hro;have hlt:∀j,wts l i j=true→listed.getD j false=true:=fun j h=>on_of hd j (by rw[wts,hoi,Array.any_toList]at h;exact h)
 have hslot:∀s,(match own l.toArray s with|some j=>wts l i j|none=>true)=true→a.tmps[s]? = (FW l kp a0 x).tmps[s]? := fun s hs=>by
  refine eval_F hu hF s fun j hj=>?_
  have hs':wts l i j=true:=by rw[hj]at hs;exact hs
  exact⟨hlt j hs',(hx j hs').1⟩
 refine⟨x,fun j hj=>⟨hlt j hj,hx j hj⟩,?_,?_⟩
 ·refine execOp_congr o (fun cs b h=>by rw[h]at hsel;cases hsel) fun y hy=>?_;have hy':=Array.all_eq_true_iff_forall_mem.1 hops y hy
  cases y with
  | tmp s=>
   have:=hslot s hy';simp only[Act.eval,Array.getD_eq_getD_getElem?,this]
  | _=>rfl
 ·rw[wnt,hoi];unfold Region.wanted
  cases hg:o.guard with
  | none=>rfl
  | some gw=>
   obtain⟨g,b⟩:=gw;rw[hg]at hgd;simp only
   have hy:yielded l.toArray a.tmps g=yielded l.toArray (FW l kp a0 x).tmps g:=by
    unfold yielded
    cases ht:(l.toArray[g]?).bind (·.dst) with
    | none=>rfl
    | some t=>
     have:own l.toArray t=some g:=by
      obtain⟨og,h1,h2⟩:=Option.bind_eq_some_iff.1 ht;exact(uniq_at hu h1).1 t h2
     simp only[Option.bind_some];rw[hslot t (by rw[this];exact hgd)]
   rw[hy]
theorem stepW{P:Program}{l:List Oper}{kp:List Kw}{ex:List Nat}{q:Nat}{a0:Act}{W:World}{Q:Exit→Act→World→Prop}(hk:chkW l kp ex q=true)(hp:pureL P l kp a0 ex q=pureR kp ex q)(listed:Array Bool)(vals:Nat→Value)(a:Act)(v:World)(i:Nat)(o:Oper)(ho:i∈ex→ObW P l kp a0 W i)(hG:Gr W v)(hK:∀j,listed.getD j false=true→kz (kp.map Kw.kz) j (vals j) v)(hF:Frm l.toArray a0 vals listed a)(hi:l.toArray[i]? = some o)(hq:i<q)(hd:∀e∈o.after,Region.binds .any e=true→listed.getD e.on false=true):
 (Region.wanted o (yielded l.toArray a.tmps)=true∧o.wp P a v (fun a' w'=>∃u,a'=a.put o.dst u∧Gr v w'∧kz (kp.map Kw.kz) i u w') Q)∨(Region.wanted o (yielded l.toArray a.tmps)=false∧kz (kp.map Kw.kz) i undef v):=by
 obtain⟨x,hx,hev,hwn⟩:=atW hk hK hF hi hq hd;simp only[chkW,Bool.and_eq_true,beq_iff_eq]at hk;obtain⟨⟨-,hlen⟩,hcs⟩:=hk;have hkz:=fun(u:Value) (w:World)=>kz_W (kp:=kp) (j:=i) (by omega) u w;have hoi:=opW_is hi;rw[hwn]
 by_cases hm:i∈ex
 ·obtain⟨h1,h2⟩:=ho hm x v hG fun j hj=>(hx j hj).2.2;refine Or.inl ⟨h1,?_⟩;rw[hoi]at h2
  obtain⟨y,w',hrun,hg,hok⟩|⟨f,args,hrun,hc⟩:=h2
  ·exact wp_val _ (by rw[hev];exact hrun) ⟨_,rfl,hg,(hkz _ _).2 ⟨y,rfl,hok⟩⟩
  ·refine wp_retz (k:=(kW kp i).kz) (by rw[hev];exact hrun) (hc.mono fun e w' ⟨y,he,hok,hg⟩=>⟨_,he,⟨y,rfl,hok⟩,hg⟩) fun u w' hu' hg=>⟨u,rfl,hg,(hkz _ _).2 hu'⟩
 ·have hmem:i∈others ex q:=List.mem_filter.2 ⟨by simpa using hq,by simpa using hm⟩;have hcst:=List.all_eq_true.1 hcs i hmem;simp only[bne_iff_ne,ne_eq]at hcst;have hpi:=List.map_inj_left.1 (congrFun (congrFun hp x) v) i hmem;simp only[resW,expW,hoi]at hpi
  cases hw:wnt l i (FW l kp a0 x) with
  | true=>
   rw[hw]at hpi;refine Or.inl ⟨rfl,?_⟩
   cases h2:(kW kp i).cst==2 with
   | true=>rw[h2]at hpi;cases hpi
   | false=>
    rw[h2]at hpi;exact wp_val _ (by rw[hev];exact Option.some.inj hpi) ⟨_,rfl,Gr.refl _,(hkz _ _).2 ⟨x i,rfl,(kW kp i).hc hcst _ _⟩⟩
  | false=>
   rw[hw]at hpi;refine Or.inr ⟨rfl,?_⟩
   cases h2:(kW kp i).cst==2 with
   | true=>exact(hkz _ _).2 ⟨x i,((kW kp i).hs (by simpa using h2) _).symm,(kW kp i).hc hcst _ _⟩
   | false=>rw[h2]at hpi;cases hpi
theorem finW{kp:List Kw}{q:Nat}{vals:Nat→Value}{v:World}(hlen:kp.length=q)(hK:∀j,j<q→kz (kp.map Kw.kz) j (vals j) v):∃x:Nat→Wt,(∀j,j<q→vals j=wvals kp x j)∧∀j,(kW kp j).ok (x j) v:=by
 have h0:∀j,∃y:Wt,(j<q→vals j=(kW kp j).val y)∧(kW kp j).ok y v:=fun j=>by
  by_cases hj:j<q
  ·have h:=hK j hj
   have e:kp[j]? = some (kW kp j):=by rw[kW,List.getD_eq_getElem?_getD,List.getElem?_eq_getElem (by omega)];rfl
   unfold kz at h;rw[List.getElem?_map,e]at h;obtain⟨y,h1,h2⟩:=h;exact⟨y,fun _=>h1,h2⟩
  ·refine⟨fun _=>(none,0),fun h=>absurd h hj,?_⟩
   have e:kW kp j=.u:=by rw[kW,List.getD_eq_getElem?_getD,List.getElem?_eq_none (by omega)];rfl
   rw[e];trivial
 obtain⟨x,hx⟩:=Classical.axiomOfChoice h0;exact⟨x,fun j hj=>(hx j).1 hj,fun j=>(hx j).2⟩
theorem chk_u{l:List Oper}{kp:List Kw}{ex:List Nat}{q:Nat}(hk:chkW l kp ex q=true):uniqG l.toArray=true∧kp.length=q:=by
 simp only[chkW,Bool.and_eq_true,beq_iff_eq]at hk;exact⟨hk.1.1.1,hk.1.2⟩
section
variable {P:Program} {id:Nat} {l:List Oper} {Q:Exit→Act→World→Prop} {a0:Act} {W:World}
theorem wp_r(d:Bool)(kp:List Kw)(ex:List Nat)(ho:ObsW P l kp a0 W ex)(hfin:∀x v,Gr W v→(∀j,(kW kp j).ok (x j) v)→Q .normal (FW l kp a0 x) v)(hm:d=true→P.follows .mixedOrders=true)(hk:chkW l kp ex l.length=true)(hp:pureL P l kp a0 ex l.length=pureR kp ex l.length):(Code.region id l.toArray d).wp P Q a0 W:=by
 obtain⟨hu,hlen⟩:=chk_u hk
 refine wp_region_ord d hm hu (RZ W (kp.map Kw.kz)) (fun listed w' h0 hg=>⟨hg,fun j hj=>by rw[h0]at hj;cases hj⟩) (fun listed vals a v i o hz hR hF hi hl hd _=>?_) fun listed vals a v hall hR hF=>?_
 ·obtain⟨h1,h2⟩|⟨h1,h2⟩:=stepW hk hp listed vals a v i o (fun h=>ho.at i h) hR.1 hR.2 hF hi (by simpa using (Array.getElem?_eq_some_iff.1 hi).1) hd
  ·refine Or.inl ⟨h1,Oper.wp_mono (fun a' w' h=>?_) h2⟩;obtain⟨u,rfl,hg,hv⟩:=h;exact⟨u,rfl,hR.next hg hv⟩
  ·exact Or.inr ⟨h1,hR.next (Gr.refl _) h2⟩
 ·obtain⟨x,h1,h2⟩:=finW hlen (fun j hj=>hR.2 j (hall j (by simpa using hj)));rw[hF.final hu hall,putFrom_congr (vals':=wvals kp x) l 0 a0 fun j o hj _=>by rw[Nat.zero_add];exact h1 j (List.getElem?_eq_some_iff.1 hj).1];exact hfin x v hR.1 h2
theorem wp_w(kp:List Kw)(ex:List Nat)(ho:ObsW P l kp a0 W ex)(hfin:∀x v,Gr W v→(∀j,(kW kp j).ok (x j) v)→Q .normal (FW l kp a0 x) v)(hm:P.follows .mixedOrders=true:=by kernel_rfl)(hk:chkW l kp ex l.length=true:=by kernel_rfl)(hp:pureL P l kp a0 ex l.length=pureR kp ex l.length:=by kernel_rfl):(Code.region id l.toArray true).wp P Q a0 W:=wp_r true kp ex ho hfin (fun _=>hm) hk hp
theorem wp_wS(kp:List Kw)(ex:List Nat)(ho:ObsW P l kp a0 W ex)(hfin:∀x v,Gr W v→(∀j,(kW kp j).ok (x j) v)→Q .normal (FW l kp a0 x) v)(hk:chkW l kp ex l.length=true:=by kernel_rfl)(hp:pureL P l kp a0 ex l.length=pureR kp ex l.length:=by kernel_rfl):(Code.region id l.toArray false).wp P Q a0 W:=wp_r false kp ex ho hfin (fun h=>by cases h) hk hp
def TlW(P:Program)(l:List Oper)(kp:List Kw)(a0:Act)(W:World)(Q:Exit→Act→World→Prop)(n:Nat):Prop:=
 ∀x v,Gr W v→(∀j,(kW kp j).ok (x j) v)→∃w',(execOp (FW l kp a0 x).eval (opW l n)).run P v=.ok .skip w'∧Q .normal (FW l kp a0 x) w'
theorem lastW{kp:List Kw}{ex:List Nat}{n:Nat}(hk:chkW l kp ex n=true)(hsd:(((l[n]?).map fun o=>o.dst.isNone&&o.guard.isNone).getD false)=true)(hl:l.length=n+1)(hr:rdyO l n (opW l n)=true)(ht:TlW P l kp a0 W Q n)(listed:Array Bool)(vals:Nat→Value)(a:Act)(v:World)(o:Oper)(hG:Gr W v)(hK:∀j,j<n→kz (kp.map Kw.kz) j (vals j) v)(hF:Frm l.toArray a0 vals listed a)(hd:∀j,j<n→listed.getD j false=true)(hi:l.toArray[n]? = some o):
 o.wp P a v (fun a' w'=>a'=a.put o.dst undef∧Q .normal (putFrom vals 0 l a0) w') Q:=by
 obtain⟨hu,hlen⟩:=chk_u hk;obtain⟨x,h1,h2⟩:=finW hlen hK;have hoi:=opW_is hi;rw[hoi]at hr;simp only[rdyO,Bool.and_eq_true]at hr;obtain⟨⟨hsel,hops⟩,-⟩:=hr
 have hi':l[n]? = some o:=by simpa using hi
 have hdn:o.dst=none:=by
  rw[hi']at hsd;simp only[Option.map_some,Option.getD_some,Bool.and_eq_true,Option.isNone_iff_eq_none]at hsd;exact hsd.1
 have hev:execOp a.eval o=execOp (FW l kp a0 x).eval o:=by
  refine execOp_congr o (fun cs b h=>by rw[h]at hsel;cases hsel) fun y hy=>?_
  cases y with
  | tmp s=>
   have:a.tmps[s]? = (FW l kp a0 x).tmps[s]?:=by
    refine eval_F hu hF s fun j hj=>?_;obtain⟨oj,hoj,hdj⟩:=own_spec hj
    have hjl:j<l.length:=by simpa using (Array.getElem?_eq_some_iff.1 hoj).1
    have hjn:j<n:=by
     rcases Nat.lt_or_ge j n with h|h
     ·exact h
     ·exfalso
      obtain rfl:j=n:=by omega
      rw[hi]at hoj;cases hoj;rw[hdn]at hdj;cases hdj
    exact⟨hd j hjn,h1 j hjn⟩
   simp only[Act.eval,Array.getD_eq_getD_getElem?,this]
  | _=>rfl
 obtain⟨w',hrun,hQ⟩:=ht x v hG h2;rw[hoi]at hrun;refine wp_skip (by rw[hev];exact hrun) ⟨rfl,?_⟩
 rw[putFrom_congr l 0 a0 fun j oj hj hdj=>?_]
 ·exact hQ
 ·rw[Nat.zero_add];have hjl:=(List.getElem?_eq_some_iff.1 hj).1;refine h1 j ?_
  rcases Nat.lt_or_ge j n with h|h
  ·exact h
  ·exfalso
   obtain rfl:j=n:=by omega
   rw[hi']at hj;cases hj;rw[hdn]at hdj;cases hdj
theorem wp_t(d:Bool)(n:Nat)(kp:List Kw)(ex:List Nat)(ho:ObsW P l kp a0 W ex)(ht:TlW P l kp a0 W Q n)(hm:d=true→P.follows .mixedOrders=true)(hs:sinkZ d l n=true)(hk:(chkW l kp ex n&&rdyO l n (opW l n))=true)(hp:pureL P l kp a0 ex n=pureR kp ex n):
 (Code.region id l.toArray d).wp P Q a0 W:=by
 simp only[Bool.and_eq_true]at hk;obtain⟨hk,hr⟩:=hk;have hs':=hs;simp only[sinkZ,Bool.and_eq_true,decide_eq_true_eq]at hs';exact wp_region_T d hm (chk_u hk).1 n hs (kp.map Kw.kz) (fun listed vals a v i o h1 h2 h3 h4 h5 h6=>stepW hk hp listed vals a v i o (fun h=>ho.at i h) h1 h2 h3 h4 h5 h6) (lastW hk hs'.1.2 hs'.1.1 hr ht)
theorem wp_wT(n:Nat)(kp:List Kw)(ex:List Nat)(ho:ObsW P l kp a0 W ex)(ht:TlW P l kp a0 W Q n)(hm:P.follows .mixedOrders=true:=by kernel_rfl)(hs:sinkZ true l n=true:=by kernel_rfl)(hk:(chkW l kp ex n&&rdyO l n (opW l n))=true:=by kernel_rfl)(hp:pureL P l kp a0 ex n=pureR kp ex n:=by kernel_rfl):
 (Code.region id l.toArray true).wp P Q a0 W:=wp_t true n kp ex ho ht (fun _=>hm) hs hk hp
theorem wp_wTS(n:Nat)(kp:List Kw)(ex:List Nat)(ho:ObsW P l kp a0 W ex)(ht:TlW P l kp a0 W Q n)(hs:sinkZ false l n=true:=by kernel_rfl)(hk:(chkW l kp ex n&&rdyO l n (opW l n))=true:=by kernel_rfl)(hp:pureL P l kp a0 ex n=pureR kp ex n:=by kernel_rfl):
 (Code.region id l.toArray false).wp P Q a0 W:=wp_t false n kp ex ho ht (fun h=>by cases h) hs hk hp
theorem ObW.k{kp:List Kw}{i:Nat}{f:FuncId}(args:(Nat→Wt)→Array Value)(hc:∀x v,Gr W v→(∀j,wts l i j=true→(kW kp j).ok (x j) v)→Calls P f (args x) v (RtW (kW kp i) v))(hr:(fun x v=>resW P l kp a0 x v i)=fun x v=>some (.ok (.enter f (args x)) v):=by kernel_rfl):ObW P l kp a0 W i:=fun x v hg h=>by
 have:=congrFun (congrFun hr x) v;simp only[resW]at this
 cases hw:wnt l i (FW l kp a0 x) with
 | false=>rw[hw]at this;cases this
 | true=>
  rw[hw]at this;exact⟨rfl,.inr ⟨f,args x,Option.some.inj this,hc x v hg h⟩⟩
theorem ObW.p{kp:List Kw}{i:Nat}(y:(Nat→Wt)→Wt)(hc:∀x v,Gr W v→(∀j,wts l i j=true→(kW kp j).ok (x j) v)→(kW kp i).ok (y x) v)(hr:(fun x v=>resW P l kp a0 x v i)=fun x v=>some (.ok (.value ((kW kp i).val (y x))) v):=by kernel_rfl):ObW P l kp a0 W i:=fun x v hg h=>by
 have:=congrFun (congrFun hr x) v;simp only[resW]at this
 cases hw:wnt l i (FW l kp a0 x) with
 | false=>rw[hw]at this;cases this
 | true=>
  rw[hw]at this;exact⟨rfl,.inl ⟨y x,v,Option.some.inj this,Gr.refl _,hc x v hg h⟩⟩
theorem ObW.m{kp:List Kw}{i:Nat}(j:Nat)(hc:∀y v,(kW kp j).ok y v→(kW kp i).ok y v:=by first|exact fun _ _ h=>h|exact fun _ _ _=>trivial)(hw:wts l i j=true:=by rfl)(hr:(fun x v=>resW P l kp a0 x v i)=fun x v=>some (.ok (.value ((kW kp i).val (x j))) v):=by kernel_rfl):ObW P l kp a0 W i:=ObW.p (fun x=>x j) (fun _ _ _ h=>hc _ _ (h j hw)) hr
theorem ObW.e{kp:List Kw}{i:Nat}(e:(Nat→Wt)→Sem Next)(hr:(fun x=>cond (wnt l i (FW l kp a0 x)) (some (execOp (FW l kp a0 x).eval (opW l i))) none)=fun x=>some (e x))(hc:∀x v,Gr W v→(∀j,wts l i j=true→(kW kp j).ok (x j) v)→∃y w',(e x).run P v=.ok (.value ((kW kp i).val y)) w'∧Gr v w'∧(kW kp i).ok y w'):ObW P l kp a0 W i:=fun x v hg h=>by
 have:=congrFun hr x
 cases hw:wnt l i (FW l kp a0 x) with
 | false=>rw[hw]at this;cases this
 | true=>
  rw[hw]at this;have e1:=Option.some.inj this;exact⟨rfl,.inl (by rw[e1];exact hc x v hg h)⟩
def exI(op:Op):Sem Next:=execOp (Act.eval ⟨#[],[]⟩) ⟨none,op,0, "", #[],none⟩
def runW(l:List Oper)(kp:List Kw)(a0:Act)(i:Nat)(x:Nat→Wt):Option (Sem Next):=cond (wnt l i (FW l kp a0 x)) (some (execOp (FW l kp a0 x).eval (opW l i))) none
theorem ObW.s{kp:List Kw}{i:Nat}{u:Value}(op:Op)(hk:kW kp i=.c u)(hc:∀v,Gr W v→(exI op).run P v=.ok (.value u) v)(hr:runW l kp a0 i=fun _=>some (exI op):=by kernel_rfl):ObW P l kp a0 W i:=
 ObW.e (fun _=>exI op) hr fun _ v hg _=>⟨fun _=>(none,0),v,by rw[hk];exact hc v hg,Gr.refl _,by rw[hk];trivial⟩
theorem ObW.o{kp:List Kw}{i b:Nat}{c:Array Value}{u:Value}(t:TypeId)(off:Nat)(hb:Vr W b c)(hk:kW kp i=.c u)(hu:c[off]? = some u)(hc:∀v:World,v.cell? ⟨b,off,none⟩=some u→(exI (.load t (.const (.pointer (some ⟨b,off,none⟩))))).run P v=.ok (.value u) v:=by intro vv K;simp[go_sem,exI,K])(hr:runW l kp a0 i=fun _=>some (exI (.load t (.const (.pointer (some ⟨b,off,none⟩))))):=by kernel_rfl):ObW P l kp a0 W i:=
 ObW.s _ hk (fun v hg=>hc v (by rw[cell_blk,(hb.gr hg).h];exact hu)) hr
theorem ObW.g{kp:List Kw}{i b:Nat}{c:Array Value}{u:Value}(t:TypeId)(off:Nat)(hb:Vr W b c)(hk:kW kp i=.c u)(hc:∀v:World,blk v b=c→(exI (.load t (.const (.pointer (some ⟨b,off,none⟩))))).run P v=.ok (.value u) v:=by intro vv H;simp[go_sem,exI,H])(hr:runW l kp a0 i=fun _=>some (exI (.load t (.const (.pointer (some ⟨b,off,none⟩))))):=by kernel_rfl):ObW P l kp a0 W i:=
 ObW.s _ hk (fun v hg=>hc v (hb.gr hg).h) hr
theorem ObW.b{kp:List Kw}{i c n:Nat}{t:TypeId}{z:Array Value}(op:Op)(hk:kW kp i=.n c)(hn:dl c=n)(hc:∀v:World,(exI op).run P v=.ok (.value (.slice (some ⟨v.heap.size,0,none⟩) n n)) (v.alloc (.cells z t)))(hs:∀v:World,Sl (v.alloc (.cells z t)) (some ⟨v.heap.size,0,none⟩) c)(hr:runW l kp a0 i=fun _=>some (exI op):=by kernel_rfl):ObW P l kp a0 W i:=
 ObW.e (fun _=>exI op) hr fun _ v hg _=>⟨fun _=>(some ⟨v.heap.size,0,none⟩,n),_,by rw[hk];subst hn;exact hc v,(Gr.refl _).alloc _,by rw[hk];exact hs v⟩
theorem TlW.s{kp:List Kw}{n:Nat}(t:TypeId)(p u:(Nat→Wt)→Value)(hf:∀x v,Gr W v→(∀j,(kW kp j).ok (x j) v)→∃w',(exI (.store t (.const (p x)) (.const (u x)))).run P v=.ok .skip w'∧Q .normal (FW l kp a0 x) w')(hr:(fun x=>execOp (FW l kp a0 x).eval (opW l n))=fun x=>exI (.store t (.const (p x)) (.const (u x))):=by kernel_rfl):TlW P l kp a0 W Q n:=fun x v hg h=>by
 obtain⟨w',h1,h2⟩:=hf x v hg h;exact⟨w',by rw[show execOp (FW l kp a0 x).eval (opW l n)=_ from congrFun hr x];exact h1,h2⟩
end
theorem RtW.of_n{P:Program}{f:FuncId}{args:Array Value}{w:World}{x:Nat}(h:Calls P f args w (Rt (.n x) w)):Calls P f args w (RtW (.n x) w):=h.mono fun _ _ ⟨_,e,⟨p,n,e2,s⟩,g⟩=>⟨fun _=>(p,n),by rw[e,e2];rfl,s,g⟩
theorem RtW.of_c{P:Program}{f:FuncId}{args:Array Value}{w:World}{v:Value}(h:Calls P f args w (Rt (.c v) w)):Calls P f args w (RtW (.c v) w):=h.mono fun _ _ ⟨_,e,e2,g⟩=>⟨fun _=>(none,0),(show _=v from e2)▸e,trivial,g⟩
theorem RtW.of_nb{P:Program}{f:FuncId}{args:Array Value}{w:World}{x:Nat}{b:Bool}(h:Calls P f args w (Rt (.nb x b) w)):Calls P f args w (RtW (.nb x b) w):=h.mono fun _ _ ⟨_,e,⟨p,n,e2,s⟩,g⟩=>⟨fun _=>(p,n),by rw[e,e2];rfl,s,g⟩
theorem RtW.of_pt{P:Program}{f:FuncId}{args:Array Value}{w:World}{x z:Nat}{b:Bool}(h:Calls P f args w (Rt (.pt x z b) w)):Calls P f args w (RtW (.pt x z b) w):=h.mono fun _ _ ⟨_,e,⟨p,n,q,m,e2,s,t⟩,g⟩=>⟨fun i=>if i=0 then(p,n) else(q,m),by rw[e,e2];rfl,⟨s,t⟩,g⟩
abbrev Kw.N(x:Nat):Kw:=.c (.agg (nw 9 x))
abbrev Kw.T:Kw:=.c (.bool true)
abbrev Kw.F:Kw:=.c (.bool false)
abbrev Kw.O:Kw:=.c (.int .i64 0)
theorem fzw:(∀(l:List Oper) (kp:List Kw) (a:Act) (x:Nat→Wt),FW l kp a x=putFrom (wvals kp x) 0 l a)∧(∀(v:Nat→Value) (k:Nat) (a:Act),putFrom v k [] a=a)∧(∀(v:Nat→Value) (k:Nat) (o:Oper) (l:List Oper) (a:Act),putFrom v k (o :: l) a=putFrom v (k+1) l (a.put o.dst (v k)))∧(∀t f (d:Tmp) (v:Value),Act.put ⟨t,f⟩ (some d) v=⟨t.setIfInBounds d v,f⟩)∧(∀(a:Act) (v:Value),a.put none v=a)∧(∀(l:List Value) (i:Nat) (a:Value),l.toArray.setIfInBounds i a=(l.set i a).toArray)∧(∀(x a:Value) (l:List Value),(x :: l).set 0 a=a :: l)∧(∀(x a:Value) (l:List Value) (i:Nat),(x :: l).set (i+1) a=x :: l.set i a)∧(∀(kp:List Kw) (x:Nat→Wt) (j:Nat),wvals kp x j=(kW kp j).val (x j))∧(∀(kp:List Kw) (i:Nat),kW kp i=kp.getD i .u)∧(∀(x d:Kw) (l:List Kw),(x :: l).getD 0 d=x)∧(∀(x d:Kw) (l:List Kw) (i:Nat),(x :: l).getD (i+1) d=l.getD i d)∧(∀v y,(Kw.c v).val y=v)∧(∀y,Kw.u.val y=undef)∧(∀x y,(Kw.n x).val y=.slice (y 0).1 (dl x) (y 0).2)∧(∀x f y,(Kw.nb x f).val y=.tuple #[.slice (y 0).1 (dl x) (y 0).2,.bool f])∧(∀x z f y,(Kw.pt x z f).val y=.agg (ptA (y 0).1 x (y 0).2 (y 1).1 z (y 1).2 f))∧(∀x y,(Kw.N x).val y=.agg (nw 9 x))∧(∀y,Kw.T.val y=.bool true)∧(∀y,Kw.F.val y=.bool false)∧(∀y,Kw.O.val y=.int .i64 0):=by
 refine⟨?_,?_,?_,?_,?_,?_,?_,?_,?_,?_,?_,?_,?_,?_,?_,?_,?_,?_,?_,?_,?_⟩
 all_goals intros;first|rfl|simp
theorem ObW.z{P:Program}{l:List Oper}{a0:Act}{W:World}{kp:List Kw}{i:Nat}{f:FuncId}{a:Array Value}{c:Value}(h:∀v,Calls P f a v fun e w'=>e=.returned c∧Gr v w')(hk:kW kp i=.c c:=by rfl)(hr:(fun x v=>resW P l kp a0 x v i)=fun _ v=>some (.ok (.enter f a) v):=by kernel_rfl):ObW P l kp a0 W i:=ObW.k (fun _=>a) (fun _ v _ _=>by rw[hk];exact RtW.of_c (Rt.c (h v))) hr
theorem ObW.y{P:Program}{l:List Oper}{a0:Act}{W:World}{kp:List Kw}{i:Nat}{f:FuncId}{a:Array Value}{c:Value}(h:∀v,Calls P f a v fun e w'=>e=.returned c∧w'=v)(hk:kW kp i=.c c:=by rfl)(hr:(fun x v=>resW P l kp a0 x v i)=fun _ v=>some (.ok (.enter f a) v):=by kernel_rfl):ObW P l kp a0 W i:=ObW.k (fun _=>a) (fun _ v _ _=>by rw[hk];exact RtW.of_c (Rt.same (h v))) hr
end
section
def Kw.a:Kw:=⟨fun y=>.pointer (some ⟨(y 0).2,0,none⟩),fun _ _=>True,fun _ _ _ _ _=>trivial,0,fun _ _ _=>trivial,fun h=>absurd h (by decide)⟩
def Kw.r(n:Nat)(c:Array Value):Kw:=⟨fun y=>.slice (some ⟨(y 0).2,0,none⟩) n n,fun y w=>Vr w (y 0).2 c,fun _ _ _ h g=>h.gr g,0,fun h=>absurd rfl h,fun h=>absurd h (by decide)⟩
theorem ObW.r{P:Program}{l:List Oper}{a0:Act}{W:World}{kp:List Kw}{i n:Nat}{t:TypeId}{c:Array Value}(op:Op)(hk:kW kp i=.r n c)(hc:∀v:World,(exI op).run P v=.ok (.value (.slice (some ⟨v.heap.size,0,none⟩) n n)) (v.alloc (.cells c t)))(hr:runW l kp a0 i=fun _=>some (exI op):=by kernel_rfl):ObW P l kp a0 W i:=
 ObW.e (fun _=>exI op) hr fun _ v hg _=>⟨fun _=>(none,v.heap.size),_,by rw[hk];exact hc v,(Gr.refl _).alloc _,by rw[hk];exact Vr.new _ _ _⟩
structure Ent where
 j:Nat
 i:Nat
 t:TypeId
 z:Array Value
 c:(Nat→Wt)→Array Value
def Blank(c:Array Value):Prop:=∀(i:Nat) (n:Int),c[i]? ≠ some (Value.int .u32 n)
def FarK(z:Array Value)(k:Kw):Prop:=∀y w b d,blk w b=z→k.ok y w→k.ok y (setBlk w b d)
section
variable {z:Array Value}
theorem fkc{v:Value}:FarK z (.c v):=fun _ _ _ _ _ _=>trivial
theorem fku:FarK z .u:=fun _ _ _ _ _ _=>trivial
theorem fka:FarK z .a:=fun _ _ _ _ _ _=>trivial
theorem fkn{x:Nat}(h:Blank z):FarK z (.n x):=fun _ _ _ _ e k=>Sl.set k (e▸h)
theorem fkp{x y:Nat}{f:Bool}(h:Blank z):FarK z (.pt x y f):=fun _ _ _ _ e k=>⟨Sl.set k.1 (e▸h),Sl.set k.2 (e▸h)⟩
theorem fkr{n:Nat}{c:Array Value}(h:c.size≠z.size):FarK z (.r n c):=fun _ _ _ _ e k=>k.other fun eb=>h (by rw[←e,eb,k.h])
end
def FarL(z:Array Value):List Kw→Prop
 | []=>True
 | k :: r=>FarK z k∧FarL z r
theorem FarL.at{z:Array Value}:∀{kp:List Kw},FarL z kp→∀i,FarK z (kW kp i)
 | [],_,_=>fku
 | _ :: _,h,0=>h.1
 | _ :: r,h,i+1=>FarL.at (kp:=r) h.2 i
def ExV(ex:List Nat)(st:List Ent):List Nat:=ex++st.map Ent.j++st.map Ent.i
structure ObV(P:Program)(l:List Oper)(kp:List Kw)(a0:Act)(e:Ent):Prop where
 hc:∀x x',(∀j,wts l e.i j=true→(kW kp j).val (x j)=(kW kp j).val (x' j))→e.c x=e.c x'
 hs:∀x v b,blk v b=e.z→frz v b=(0,0)→(exI (.store e.t (.const (.pointer (some ⟨b,0,none⟩))) (.const (.agg (e.c x))))).run P v=.ok .skip (setBlk v b (e.c x))
 hz:0<e.z.size
 hf:FarL e.z kp
 hn:∀v:World,(exI (.alloc e.t)).run P v=.ok (.value (.pointer (some ⟨v.heap.size,0,none⟩))) (v.alloc (.cells e.z e.t)):=by intro vv;simp[go_sem,exI]
 ka:kW kp e.j=.a:=by rfl
 ku:kW kp e.i=.u:=by rfl
 hw:wts l e.i e.j=true:=by rfl
 rj:runW l kp a0 e.j=fun _=>some (exI (.alloc e.t)):=by kernel_rfl
 ri:runW l kp a0 e.i=fun x=>some (exI (.store e.t (.const (.pointer (some ⟨(x e.j 0).2,0,none⟩))) (.const (.agg (e.c x))))):=by kernel_rfl
structure ObY(P:Program)(l:List Oper)(kp:List Kw)(a0:Act)(e:Ent):Prop where
 hc:∀x x',(∀j,wts l e.i j=true→(kW kp j).val (x j)=(kW kp j).val (x' j))→e.c x=e.c x'
 hs:∀x v b,blk v b=e.z→frz v b=(0,0)→(exI (.store e.t (.const (.pointer (some ⟨b,0,none⟩))) (.const (.agg (e.c x))))).run P v=.ok .skip (setBlk v b (e.c x))
 hz:0<e.z.size
 hn:∀v:World,(exI (.alloc e.t)).run P v=.ok (.value (.pointer (some ⟨v.heap.size,0,none⟩))) (v.alloc (.cells e.z e.t)):=by intro vv;simp[go_sem,exI]
 ka:kW kp e.j=.a:=by rfl
 ku:kW kp e.i=.u:=by rfl
 hw:wts l e.i e.j=true:=by rfl
 rj:runW l kp a0 e.j=fun _=>some (exI (.alloc e.t)):=by kernel_rfl
 ri:runW l kp a0 e.i=fun x=>some (exI (.store e.t (.const (.pointer (some ⟨(x e.j 0).2,0,none⟩))) (.const (.agg (e.c x))))):=by kernel_rfl
theorem ObV.y{P:Program}{l:List Oper}{kp:List Kw}{a0:Act}{e:Ent}(h:ObV P l kp a0 e):ObY P l kp a0 e:=⟨h.hc,h.hs,h.hz,h.hn,h.ka,h.ku,h.hw,h.rj,h.ri⟩
def ForY{α:Type}(p:α→Prop):List α→Prop
 | []=>True
 | e :: r=>p e∧ForY p r
theorem ForY.nil{α:Type}{p:α→Prop}:ForY p []:=trivial
theorem ForY.cons{α:Type}{p:α→Prop}{e:α}{r:List α}(h:p e)(t:ForY p r):ForY p (e :: r):=⟨h,t⟩
theorem ForY.at{α:Type}{p:α→Prop}:∀{st:List α},ForY p st→∀e,e∈st→p e
 | [],_,_,h=>by cases h
 | e :: r,ho,e',h=>by
  rcases List.mem_cons.1 h with rfl|h
  ·exact ho.1
  ·exact ForY.at ho.2 e' h
def ObR(P:Program)(l:List Oper)(kp:List Kw)(a0:Act)(i:Nat):Prop:=
 ∃n c t op,kW kp i=.r n c∧(∀v:World,(exI op).run P v=.ok (.value (.slice (some ⟨v.heap.size,0,none⟩) n n)) (v.alloc (.cells c t)))∧runW l kp a0 i=fun _=>some (exI op)
theorem ObR.r{P:Program}{l:List Oper}{a0:Act}{kp:List Kw}{i n:Nat}{t:TypeId}{c:Array Value}(op:Op)(hk:kW kp i=.r n c)(hc:∀v:World,(exI op).run P v=.ok (.value (.slice (some ⟨v.heap.size,0,none⟩) n n)) (v.alloc (.cells c t)))(hr:runW l kp a0 i=fun _=>some (exI op):=by kernel_rfl):ObR P l kp a0 i:=⟨n,c,t,op,hk,hc,hr⟩
def Sep(st:List Ent)(rw:List Nat)(listed:Array Bool)(vals:Nat→Value):Prop:=
 ∀e,e∈st→listed.getD e.j false=true→∀j,j∈rw→listed.getD j false=true→∀b' b n c,vals e.j=.pointer (some ⟨b',0,none⟩)→vals j=.slice (some ⟨b,0,none⟩) n c→b'≠b
def ObsV(P:Program)(l:List Oper)(kp:List Kw)(a0:Act):List Ent→Prop
 | []=>True
 | e :: r=>ObV P l kp a0 e∧ObsV P l kp a0 r
theorem ObsV.nil{P:Program}{l:List Oper}{kp:List Kw}{a0:Act}:ObsV P l kp a0 []:=trivial
theorem ObsV.cons{P:Program}{l:List Oper}{kp:List Kw}{a0:Act}{e:Ent}{r:List Ent}(h:ObV P l kp a0 e)(t:ObsV P l kp a0 r):ObsV P l kp a0 (e :: r):=⟨h,t⟩
theorem ObsV.at{P:Program}{l:List Oper}{kp:List Kw}{a0:Act}:∀{st:List Ent},ObsV P l kp a0 st→∀e,e∈st→ObV P l kp a0 e
 | [],_,_,h=>by cases h
 | e :: r,ho,e',h=>by
  rcases List.mem_cons.1 h with rfl|h
  ·exact ho.1
  ·exact ObsV.at ho.2 e' h
theorem map_one{α:Type}(f:α→Nat):∀{st:List α},(st.map f).Nodup→∀e e',e∈st→e'∈st→f e=f e'→e=e'
 | [],_,_,_,h,_,_=>by cases h
 | a :: r,hn,e,e',h,h',he=>by
  rw[List.map_cons,List.nodup_cons]at hn
  rcases List.mem_cons.1 h with h1|h1 <;> rcases List.mem_cons.1 h' with h2|h2
  ·rw[h1,h2]
  ·rw[h1]at he;exact absurd (he▸List.mem_map_of_mem h2) hn.1
  ·rw[h2]at he;exact absurd (he▸List.mem_map_of_mem h1) hn.1
  ·exact map_one f hn.2 e e' h1 h2 he
def RV(W:World)(l:List Oper)(kp:List Kw)(st:List Ent)(listed:Array Bool)(vals:Nat→Value)(w:World):Prop:=
 RZ W (kp.map Kw.kz) listed vals w∧(∀e,e∈st→listed.getD e.i false=true→∀j,wts l e.i j=true→listed.getD j false=true) ∧
 ∃B:Nat→Nat,(∀e,e∈st→listed.getD e.j false=true→vals e.j=.pointer (some ⟨B e.j,0,none⟩)∧W.heap.size≤B e.j∧B e.j<w.heap.size∧frz w (B e.j)=(0,0) ∧
  (listed.getD e.i false=false→blk w (B e.j)=e.z)∧(listed.getD e.i false=true→∃x:Nat→Wt,(∀j,wts l e.i j=true→vals j=(kW kp j).val (x j))∧blk w (B e.j)=e.c x)) ∧
  (∀e e',e∈st→e'∈st→listed.getD e.j false=true→listed.getD e'.j false=true→B e.j=B e'.j→e=e')
section
variable {P:Program} {l:List Oper} {Q:Exit→Act→World→Prop} {a0:Act} {W:World} {kp:List Kw} {ex rw:List Nat} {st:List Ent} {listed:Array Bool} {vals:Nat→Value} {w w':World}
theorem set_mono{i j:Nat}(h:listed.getD j false=true)(hi:i<listed.size):(listed.setIfInBounds i true).getD j false=true:=by
 by_cases e:j=i
 ·subst e;exact getD_set_same _ _ hi
 ·rw[getD_set_other _ _ _ (Ne.symm e)];exact h
theorem ne_un{i j:Nat}(h:listed.getD j false=true)(hl:listed.getD i false=false):j≠i:=fun e=>by
 subst e;rw[h]at hl;cases hl
theorem RV.next(h:RV W l kp st listed vals w){i:Nat}{v:Value}(hi:i<listed.size)(hl:listed.getD i false=false)(hA:∀e,e∈st→e.j≠i∧e.i≠i)(hg:Gr w w')(hv:kz (kp.map Kw.kz) i v w'):
 RV W l kp st (listed.setIfInBounds i true) (upd vals i v) w':=by
 obtain⟨h1,h2,B,h3,h4⟩:=h
 refine⟨h1.next hg hv,fun e he hle j hj=>?_,B,fun e he hlj=>?_,fun e e' he he' h5 h6=>?_⟩
 ·rw[getD_set_other _ _ _ (Ne.symm (hA e he).2)]at hle;exact set_mono (h2 e he hle j hj) hi
 ·rw[getD_set_other _ _ _ (Ne.symm (hA e he).1)]at hlj;obtain⟨a1,a2,a3,a4,a5,a6⟩:=h3 e he hlj
  refine⟨by simp only[upd,(hA e he).1,if_false];exact a1,a2,Nat.lt_of_lt_of_le a3 hg.below.size,by rw[hg.frz _ a3];exact a4,fun h=>?_,fun h=>?_⟩
  ·rw[getD_set_other _ _ _ (Ne.symm (hA e he).2)]at h;rw[hg.blk _ a3];exact a5 h
  ·rw[getD_set_other _ _ _ (Ne.symm (hA e he).2)]at h;obtain⟨x,hx,hb⟩:=a6 h;refine⟨x,fun j hj=>?_,by rw[hg.blk _ a3];exact hb⟩;simp only[upd,ne_un (h2 e he h j hj) hl,if_false];exact hx j hj
 ·rw[getD_set_other _ _ _ (Ne.symm (hA e he).1)]at h5;rw[getD_set_other _ _ _ (Ne.symm (hA e' he').1)]at h6;exact h4 e e' he he' h5 h6
theorem RV.alloc(h:RV W l kp st listed vals w)(e:Ent)(he:e∈st)(hj1:(st.map Ent.j).Nodup)(hij:∀e e',e∈st→e'∈st→e.i≠e'.j)(hw:wts l e.i e.j=true)(hi:e.j<listed.size)(hl:listed.getD e.j false=false)(hk:e.j<kp.length)(ka:kW kp e.j=.a):
 RV W l kp st (listed.setIfInBounds e.j true) (upd vals e.j (.pointer (some ⟨w.heap.size,0,none⟩))) (w.alloc (.cells e.z e.t)):=by
 obtain⟨h1,h2,B,h3,h4⟩:=h;have hg:Gr w (w.alloc (.cells e.z e.t)):=(Gr.refl w).alloc _
 have hei:listed.getD e.i false≠true:=fun h=>by rw[h2 e he h e.j hw]at hl;cases hl
 refine⟨h1.next hg ((kz_W hk _ _).2 ⟨fun _=>(none,w.heap.size),by rw[ka];rfl,by rw[ka];trivial⟩),fun e' he' hle j hj=>?_,fun m=>if m=e.j then w.heap.size else B m,fun e' he' hlj=>?_,fun e1 e2 he1 he2 h5 h6 h7=>?_⟩
 ·rw[getD_set_other _ _ _ (Ne.symm (hij e' e he' he))]at hle;exact set_mono (h2 e' he' hle j hj) hi
 ·by_cases ee:e'.j=e.j
  ·obtain rfl:=map_one Ent.j hj1 e' e he' he ee;simp only[if_true,upd];refine⟨trivial,h1.1.below.size,by simp,frz_alloc_at _ _ _ _ _ rfl,fun _=>blk_alloc_at _ _ _ _ _ rfl,fun h=>?_⟩;rw[getD_set_other _ _ _ (Ne.symm (hij e' e' he' he'))]at h;exact absurd h hei
  ·rw[getD_set_other _ _ _ (Ne.symm ee)]at hlj;obtain⟨a1,a2,a3,a4,a5,a6⟩:=h3 e' he' hlj;simp only[ee,if_false,upd]
   refine⟨a1,a2,Nat.lt_of_lt_of_le a3 hg.below.size,by rw[hg.frz _ a3];exact a4,fun h=>?_,fun h=>?_⟩
   ·rw[getD_set_other _ _ _ (Ne.symm (hij e' e he' he))]at h;rw[hg.blk _ a3];exact a5 h
   ·rw[getD_set_other _ _ _ (Ne.symm (hij e' e he' he))]at h;obtain⟨x,hx,hb⟩:=a6 h;refine⟨x,fun j hj=>?_,by rw[hg.blk _ a3];exact hb⟩;simp only[ne_un (h2 e' he' h j hj) hl,if_false];exact hx j hj
 ·by_cases x1:e1.j=e.j <;> by_cases x2:e2.j=e.j
  ·exact map_one Ent.j hj1 e1 e2 he1 he2 (x1.trans x2.symm)
  ·rw[getD_set_other _ _ _ (Ne.symm x2)]at h6;simp only[x1,x2,if_true,if_false]at h7;have:=(h3 e2 he2 h6).2.2.1
   omega
  ·rw[getD_set_other _ _ _ (Ne.symm x1)]at h5;simp only[x1,x2,if_true,if_false]at h7;have:=(h3 e1 he1 h5).2.2.1
   omega
  ·rw[getD_set_other _ _ _ (Ne.symm x1)]at h5;rw[getD_set_other _ _ _ (Ne.symm x2)]at h6;simp only[x1,x2,if_false]at h7;exact h4 e1 e2 he1 he2 h5 h6 h7
theorem RV.at(h:RV W l kp st listed vals w){e:Ent}(hl:listed.getD e.j false=true)(he:e∈st){b:Nat}(hv:vals e.j=.pointer (some ⟨b,0,none⟩))(hi:listed.getD e.i false=false):blk w b=e.z:=by
 obtain⟨-,-,B,h3,-⟩:=h;obtain⟨a1,-,-,-,a5,-⟩:=h3 e he hl;rw[hv]at a1;simp only[Value.pointer.injEq,Option.some.injEq,Addr.mk.injEq]at a1;rw[a1.1];exact a5 hi
theorem RV.storeY(h:RV W l kp st listed vals w)(e:Ent)(he:e∈st)(hi1:(st.map Ent.i).Nodup)(hij:∀e e',e∈st→e'∈st→e.i≠e'.j)(hlen:listed.size≤kp.length)(hi:e.i<listed.size)(hl:listed.getD e.i false=false)(ku:kW kp e.i=.u)(hz:0<e.z.size)(x:Nat→Wt)(hx:∀j,wts l e.i j=true→listed.getD j false=true∧vals j=(kW kp j).val (x j))(hw:wts l e.i e.j=true)(ka:kW kp e.j=.a)(hkeep:∀j y,listed.getD j false=true→vals j=(kW kp j).val y→(kW kp j).ok y w→(kW kp j).ok y (setBlk w (x e.j 0).2 (e.c x))):
 blk w (x e.j 0).2=e.z∧frz w (x e.j 0).2=(0,0)∧RV W l kp st (listed.setIfInBounds e.i true) (upd vals e.i undef) (setBlk w (x e.j 0).2 (e.c x)):=by
 obtain⟨h1,h2,B,h3,h4⟩:=h;obtain⟨hlj,hvj⟩:=hx e.j hw;obtain⟨a1,a2,a3,a4,a5,a6⟩:=h3 e he hlj
 have hB:(x e.j 0).2=B e.j:=by
  rw[hvj,ka]at a1
  simpa [Kw.a]using a1
 rw[hB]at hkeep ⊢;have hb:=a5 hl
 refine⟨hb,a4,⟨gr_setNew h1.1 a2,fun j hj=>?_⟩,fun e' he' hle j hj=>?_,B,fun e' he' hlj'=>?_,fun e1 e2 he1 he2 h5 h6 h7=>?_⟩
 ·by_cases ee:j=e.i
  ·subst ee
   refine(kz_W (by omega) _ _).2 ⟨fun _=>(none,0),?_,?_⟩
   ·rw[ku];simp only[upd,if_true];rfl
   ·rw[ku];trivial
  ·rw[getD_set_other _ _ _ (Ne.symm ee)]at hj;simp only[upd,ee,if_false]
   have hjl:j<kp.length:=by
    rcases Nat.lt_or_ge j listed.size with h|h
    ·omega
    ·simp[h]at hj
   obtain⟨y,h5,h6⟩:=(kz_W hjl _ _).1 (h1.2 j hj);exact(kz_W hjl _ _).2 ⟨y,h5,hkeep j y hj h5 h6⟩
 ·by_cases ee:e'.i=e.i
  ·obtain rfl:=map_one Ent.i hi1 e' e he' he ee;exact set_mono (hx j hj).1 hi
  ·rw[getD_set_other _ _ _ (Ne.symm ee)]at hle;exact set_mono (h2 e' he' hle j hj) hi
 ·rw[getD_set_other _ _ _ (hij e e' he he')]at hlj';obtain⟨b1,b2,b3,b4,b5,b6⟩:=h3 e' he' hlj'
  refine⟨by simp only[upd,Ne.symm (hij e e' he he'),if_false];exact b1,b2,by rw[size_setBlk];exact b3,by rw[frz_setBlk];exact b4,fun h=>?_,fun h=>?_⟩
  ·by_cases ee:e'.i=e.i
   ·rw[ee,getD_set_same _ _ hi]at h;cases h
   ·rw[getD_set_other _ _ _ (Ne.symm ee)]at h;have hne:B e.j≠B e'.j:=fun eb=>ee (by rw[h4 e e' he he' hlj hlj' eb]);rw[blk_other _ _ _ _ hne];exact b5 h
  ·by_cases ee:e'.i=e.i
   ·obtain rfl:=map_one Ent.i hi1 e' e he' he ee;refine⟨x,fun j hj=>?_,blk_setBlk _ _ _ (by rw[hb];exact hz)⟩;simp only[upd,ne_un (hx j hj).1 hl,if_false];exact(hx j hj).2
   ·rw[getD_set_other _ _ _ (Ne.symm ee)]at h;have hne:B e.j≠B e'.j:=fun eb=>ee (by rw[h4 e e' he he' hlj hlj' eb]);obtain⟨y,hy,hby⟩:=b6 h;refine⟨y,fun j hj=>?_,by rw[blk_other _ _ _ _ hne];exact hby⟩;simp only[upd,ne_un (h2 e' he' h j hj) hl,if_false];exact hy j hj
 ·rw[getD_set_other _ _ _ (hij e e1 he he1)]at h5;rw[getD_set_other _ _ _ (hij e e2 he he2)]at h6;exact h4 e1 e2 he1 he2 h5 h6 h7
theorem Sep.next(h:Sep st rw listed vals){i:Nat}{v:Value}(hA:∀e,e∈st→e.j≠i)(hr:i ∉ rw):Sep st rw (listed.setIfInBounds i true) (upd vals i v):=fun e he h1 j hj h2 b' b n c h3 h4=>by
 have hji:j≠i:=fun e=>hr (e▸hj);rw[getD_set_other _ _ _ (Ne.symm (hA e he))]at h1;rw[getD_set_other _ _ _ (Ne.symm hji)]at h2;simp only[upd,hA e he,if_false]at h3;simp only[upd,hji,if_false]at h4;exact h e he h1 j hj h2 b' b n c h3 h4
theorem row_at(hR:RZ W (kp.map Kw.kz) listed vals w){j:Nat}(hj:listed.getD j false=true)(hl:j<kp.length){n:Nat}{c:Array Value}(hk:kW kp j=.r n c){b m q:Nat}(hv:vals j=.slice (some ⟨b,0,none⟩) m q):Vr w b c:=by
 obtain⟨y,h1,h2⟩:=(kz_W hl _ _).1 (hR.2 j hj);rw[hk]at h1 h2;rw[h1]at hv;simp only[Kw.r,Value.slice.injEq,Option.some.injEq,Addr.mk.injEq]at hv;rw[←hv.1.1];exact h2
theorem run_W{i:Nat}{x:Nat→Wt}{e:(Nat→Wt)→Sem Next}(h:runW l kp a0 i=fun x=>some (e x)):wnt l i (FW l kp a0 x)=true∧execOp (FW l kp a0 x).eval (opW l i)=e x:=by
 have:=congrFun h x;unfold runW at this
 cases hw:wnt l i (FW l kp a0 x) with
 | false=>rw[hw]at this;cases this
 | true=>rw[hw]at this;exact⟨rfl,Option.some.inj this⟩
theorem stepG(d:Bool)(hk:chkW l kp (ExV (ex++rw) st) l.length=true)(hp:pureL P l kp a0 (ExV (ex++rw) st) l.length=pureR kp (ExV (ex++rw) st) l.length)(ho:ObsW P l kp a0 W ex)(hrw:ForY (ObR P l kp a0) rw)(hv:∀e,e∈st→ObY P l kp a0 e)(hfar:∀e,e∈st→∀j,j<l.length→j∈rw∨FarK e.z (kW kp j))(hyj:∀j,j∈rw→∀e,e∈st→e.j≠j∧e.i≠j)(hnd:(st.map Ent.j).Nodup∧(st.map Ent.i).Nodup∧∀a,a∈st.map Ent.i→∀b,b∈st.map Ent.j→a≠b):StepR d P l Q a0 (fun listed vals w=>RV W l kp st listed vals w∧Sep st rw listed vals):=by
 intro listed vals a w i o hz hRS hF hi hl hd _;obtain⟨hR,hS⟩:=hRS
 have hil:i<l.length:=by simpa using (Array.getElem?_eq_some_iff.1 hi).1
 have his:i<listed.size:=by rw[hz];simpa using hil
 have hlen:=(chk_u hk).2;have hoi:=opW_is hi;have hij:∀e e',e∈st→e'∈st→e.i≠e'.j:=fun e e' he he'=>hnd.2.2 _ (List.mem_map_of_mem he) _ (List.mem_map_of_mem he');obtain⟨x,hx,hev,hwn⟩:=atW hk hR.1.2 hF hi hil hd;rw[hwn];have hkz:=fun(u:Value) (v:World)=>kz_W (kp:=kp) (j:=i) (by omega) u v
 have hlj:∀j,listed.getD j false=true→j<kp.length:=fun j hj=>by
  rcases Nat.lt_or_ge j listed.size with h|h
  ·rw[hz]at h;simp at h;omega
  ·simp[h]at hj
 by_cases hA:∃e,e∈st∧e.j=i
 ·obtain⟨e,he,rfl⟩:=hA;have ob:=hv e he;obtain⟨h1,h2⟩:=run_W ob.rj;refine Or.inl ⟨h1,wp_val _ (by rw[hev,←hoi,h2];exact ob.hn w) ⟨_,rfl,hR.alloc e he hnd.1 hij ob.hw his hl (by omega) ob.ka,fun e' he' h5 j hj h6 b' b n c h7 h8=>?_⟩⟩;have hje:=(hyj j hj e he).1;rw[getD_set_other _ _ _ hje]at h6;simp only[upd,Ne.symm hje,if_false]at h8
  by_cases ee:e'.j=e.j
  ·simp only[upd,ee,if_true,Value.pointer.injEq,Option.some.injEq,Addr.mk.injEq]at h7;obtain⟨n',c',t',op',hk',-,-⟩:=hrw.at j hj;have:b+1≤w.heap.size:=(row_at hR.1 h6 (hlj j h6) hk' h8).p
   omega
  ·rw[getD_set_other _ _ _ (Ne.symm ee)]at h5;simp only[upd,ee,if_false]at h7;exact hS e' he' h5 j hj h6 b' b n c h7 h8
 by_cases hB:∃e,e∈st∧e.i=i
 ·obtain⟨e,he,rfl⟩:=hB;have ob:=hv e he;obtain⟨h1,h2⟩:=run_W ob.ri;have hje:=hx e.j ob.hw
  obtain⟨hb,hf,hR'⟩:=hR.storeY e he hnd.2.1 hij (by rw[hz];simp[hlen]) his hl ob.ku ob.hz x (fun j hj=>⟨(hx j hj).1,(hx j hj).2.1⟩) ob.hw ob.ka (fun j y h5 h6 h7=>by
   rcases hfar e he j (by have:=hlj j h5;omega) with hjr|hfk
   ·obtain⟨n',c',t',op',hk',-,-⟩:=hrw.at j hjr;rw[hk']at h6 h7 ⊢;exact h7.other (hS e he hje.1 j hjr h5 _ _ _ _ (by rw[hje.2.1,ob.ka];rfl) h6)
   ·exact hfk y w _ _ (hR.at hje.1 he (by rw[hje.2.1,ob.ka];rfl) hl) h7)
  exact Or.inl ⟨h1,wp_skip (by rw[hev,←hoi,h2];exact ob.hs x w _ hb hf) ⟨_,rfl,hR',hS.next (fun e' he'=>Ne.symm (hij e e' he he')) fun h=>(hyj _ h e he).2 rfl⟩⟩
 have hAB:∀e,e∈st→e.j≠i∧e.i≠i:=fun e he=>⟨fun h=>hA ⟨e,he,h⟩,fun h=>hB ⟨e,he,h⟩⟩
 by_cases hmr:i∈rw
 ·obtain⟨n,c,t,op,hki,hrun,hr⟩:=hrw.at i hmr;obtain⟨h1,h2⟩:=run_W hr;refine Or.inl ⟨h1,wp_val _ (by rw[hev,←hoi,h2];exact hrun w) ⟨_,rfl,hR.next his hl hAB ((Gr.refl w).alloc _) ((hkz _ _).2 ⟨fun _=>(none,w.heap.size),by rw[hki];rfl,by rw[hki];exact Vr.new _ _ _⟩),fun e' he' h5 j hj h6 b' b n c h7 h8=>?_⟩⟩;rw[getD_set_other _ _ _ (Ne.symm (hAB e' he').1)]at h5;simp only[upd,(hAB e' he').1,if_false]at h7
  by_cases ee:j=i
  ·subst ee;simp only[upd,if_true,Value.slice.injEq,Option.some.injEq,Addr.mk.injEq]at h8;obtain⟨-,-,B,h3,-⟩:=hR;obtain⟨a1,-,a3,-⟩:=h3 e' he' h5;rw[h7]at a1;simp only[Value.pointer.injEq,Option.some.injEq,Addr.mk.injEq]at a1
   omega
  ·rw[getD_set_other _ _ _ (Ne.symm ee)]at h6;simp only[upd,ee,if_false]at h8;exact hS e' he' h5 j hj h6 b' b _ _ h7 h8
 have nx:∀v w',Gr w w'→kz (kp.map Kw.kz) i v w'→RV W l kp st (listed.setIfInBounds i true) (upd vals i v) w'∧Sep st rw (listed.setIfInBounds i true) (upd vals i v):=fun v w' hg h=>⟨hR.next his hl hAB hg h,hS.next (fun e he=>(hAB e he).1) hmr⟩
 have hox:i∈ExV (ex++rw) st→ObW P l kp a0 W i:=fun h=>by
  unfold ExV at h;rw[List.mem_append,List.mem_append,List.mem_append]at h
  rcases h with ((h|h)|h)|h
  ·exact ho.at i h
  ·exact absurd h hmr
  ·obtain⟨e,he,h⟩:=List.mem_map.1 h;exact absurd ⟨e,he,h⟩ hA
  ·obtain⟨e,he,h⟩:=List.mem_map.1 h;exact absurd ⟨e,he,h⟩ hB
 obtain⟨h1,h2⟩|⟨h1,h2⟩:=stepW hk hp listed vals a w i o hox hR.1.1 hR.1.2 hF hi hil hd
 ·rw[hwn]at h1;refine Or.inl ⟨h1,Oper.wp_mono (fun a' w' h=>?_) h2⟩;obtain⟨u,rfl,hg,hu⟩:=h;exact⟨u,rfl,nx u w' hg hu⟩
 ·rw[hwn]at h1;exact Or.inr ⟨h1,nx _ _ (Gr.refl _) h2⟩
def NewV(W:World)(x:Nat→Wt)(v:World):List Ent→Prop
 | []=>True
 | e :: r=>(W.heap.size≤(x e.j 0).2∧Vr v (x e.j 0).2 (e.c x))∧NewV W x v r
theorem NewV.of{x:Nat→Wt}{v:World}:∀{st:List Ent},(∀e,e∈st→W.heap.size≤(x e.j 0).2∧Vr v (x e.j 0).2 (e.c x))→NewV W x v st
 | [],_=>trivial
 | e :: _,h=>⟨h e (List.mem_cons_self ..),NewV.of fun e' he'=>h e' (List.mem_cons_of_mem _ he')⟩
def chkV(st:List Ent):Bool:=decide (st.map Ent.j).Nodup&&decide (st.map Ent.i).Nodup&&((st.map Ent.i).all fun a=>(st.map Ent.j).all fun b=>a != b)
theorem wp_g(d:Bool){id:Nat}(kp:List Kw)(ex rw:List Nat)(st:List Ent)(ho:ObsW P l kp a0 W ex)(hr:ForY (ObR P l kp a0) rw)(hv:∀e,e∈st→ObY P l kp a0 e)(hfar:∀e,e∈st→∀j,j<l.length→j∈rw∨FarK e.z (kW kp j))(hyj:∀j,j∈rw→∀e,e∈st→e.j≠j∧e.i≠j)(hfin:∀x v,Gr W v→(∀j,(kW kp j).ok (x j) v)→NewV W x v st→Q .normal (FW l kp a0 x) v)(hm:(!d || P.follows .mixedOrders)=true)(hk:(chkW l kp (ExV (ex++rw) st) l.length&&chkV st)=true)(hp:pureL P l kp a0 (ExV (ex++rw) st) l.length=pureR kp (ExV (ex++rw) st) l.length):(Code.region id l.toArray d).wp P Q a0 W:=by
 simp only[Bool.and_eq_true]at hk;obtain⟨hk,hk2⟩:=hk;simp only[chkV,Bool.and_eq_true,decide_eq_true_eq,List.all_eq_true,bne_iff_ne,ne_eq]at hk2;obtain⟨⟨n1,n2⟩,n3⟩:=hk2;obtain⟨hu,hlen⟩:=chk_u hk
 refine wp_region_ord d (fun h=>by subst h;simpa using hm) hu _ (fun listed w' hn hg=>?_) (stepG d hk hp ho hr hv hfar hyj ⟨n1,n2,n3⟩) fun listed vals a v hall hRS hF=>?_
 ·have hx:∀(i:Nat) (p:Prop),listed.getD i false=true→p:=fun i p h=>by rw[hn]at h;cases h
  exact⟨⟨⟨hg,fun j hj=>hx j _ hj⟩,fun e _ h=>hx e.i _ h,fun _=>0,fun e _ h=>hx e.j _ h,fun e _ _ _ h=>hx e.j _ h⟩,fun e _ h=>hx e.j _ h⟩
 ·rw[hF.final hu hall];obtain⟨⟨h1,h2,B,h3,-⟩,-⟩:=hRS;obtain⟨x,hx1,hx2⟩:=finW hlen fun j hj=>h1.2 j (hall j (by simpa using hj));rw[putFrom_congr (vals':=wvals kp x) l 0 a0 fun j o hj _=>by rw[Nat.zero_add];exact hx1 j (List.getElem?_eq_some_iff.1 hj).1];refine hfin x v h1.1 hx2 (NewV.of fun e he=>?_);have ob:=hv e he
  have hw:∀j,wts l e.i j=true→j<l.length∧e.i<l.length:=fun j hj=>by
   have hi:e.i<l.length:=by
    rcases Nat.lt_or_ge e.i l.length with h|h
    ·exact h
    ·rw[wts,opW,List.getElem?_eq_none (by omega)]at hj;simp at hj
   have ho:l.toArray[e.i]? = some l[e.i]:=by simp[hi]
   rw[wts,opW_is ho,Array.any_toList]at hj;obtain⟨ed,hed,hb⟩:=Array.any_eq_true.1 hj;simp only[Bool.and_eq_true,beq_iff_eq]at hb;have:=(uniq_at hu ho).2 _ (Array.getElem_mem hed) hb.2
   omega
  have hjl:=hw e.j ob.hw;obtain⟨a1,a2,a3,a4,-,a6⟩:=h3 e he (hall e.j (by simpa using hjl.1));obtain⟨y,hy,hb⟩:=a6 (hall e.i (by simpa using hjl.2))
  have hB:(x e.j 0).2=B e.j:=by
   rw[hx1 e.j hjl.1,wvals,ob.ka]at a1
   simpa [Kw.a]using a1
  rw[hB];exact⟨a2,by rw[hb];exact ob.hc y x fun j hj=>by rw[←hy j hj,hx1 j (hw j hj).1];rfl,a4,a3⟩
theorem wp_v(d:Bool){id:Nat}(kp:List Kw)(ex:List Nat)(st:List Ent)(ho:ObsW P l kp a0 W ex)(hv:ObsV P l kp a0 st)(hfin:∀x v,Gr W v→(∀j,(kW kp j).ok (x j) v)→NewV W x v st→Q .normal (FW l kp a0 x) v)(hm:(!d || P.follows .mixedOrders)=true:=by kernel_rfl)(hk:(chkW l kp (ExV ex st) l.length&&chkV st)=true:=by kernel_rfl)(hp:pureL P l kp a0 (ExV ex st) l.length=pureR kp (ExV ex st) l.length:=by kernel_rfl):(Code.region id l.toArray d).wp P Q a0 W:=
 wp_g d kp ex [] st ho .nil (fun e he=>(hv.at e he).y) (fun e he j _=>.inr ((hv.at e he).hf.at j)) (fun j h=>by cases h) hfin hm (by rw[List.append_nil];exact hk) (by rw[List.append_nil];exact hp)
end
theorem gen_v{P:Program}{c:Code}{Q:Exit→Act→World→Prop}{a:Act}{W:World}(R:World→Prop)(h:R W)(k:∀v,R v→c.wp P Q a v):c.wp P Q a W:=k W h
theorem bNat:Blank (nw 9 0):=fun i x=>by
 by_cases h:i<9
 ·rw[nw_get 9 0 i h];intro e
  cases e
 ·rw[Array.getElem?_eq_none (by rw[nw_size];omega)];intro e
  cases e
theorem blank_of{c:Array Value}(h:c.all (fun v=>match v with | .int .u32 _=>false|_=>true)=true):Blank c:=fun i n e=>by
 obtain⟨hi,hv⟩:=Array.getElem?_eq_some_iff.1 e;have:=Array.all_eq_true.1 h i hi;rw[hv]at this
 cases this
theorem zNat:0<(nw 9 0).size:=by decide +kernel
theorem zWide:0<(nw 18 0).size:=by decide +kernel
theorem FarL.t{z:Array Value}:∀{kp:List Kw},kp.map Kw.ok=kp.map (fun _ _ _=>True)→FarL z kp
 | [],_=>trivial
 | k :: r,h=>⟨fun y w b d _ _=>by have e:k.ok=fun _ _=>True:=(List.cons.inj h).1;rw[e];trivial,FarL.t (List.cons.inj h).2⟩
theorem ObV.k{P:Program}{l:List Oper}{kp:List Kw}{a0:Act}{e:Ent}(hz:0<e.z.size)(hf:FarL e.z kp)(hc:∀x x',(∀j,wts l e.i j=true→(kW kp j).val (x j)=(kW kp j).val (x' j))→e.c x=e.c x':=by intros;rfl)(hs:∀x v b,blk v b=e.z→frz v b=(0,0)→(exI (.store e.t (.const (.pointer (some ⟨b,0,none⟩))) (.const (.agg (e.c x))))).run P v=.ok .skip (setBlk v b (e.c x)):=by intro _ v b H F;dsimp only at H ⊢;simp[go_sem,exI,H,F])(hn:∀v:World,(exI (.alloc e.t)).run P v=.ok (.value (.pointer (some ⟨v.heap.size,0,none⟩))) (v.alloc (.cells e.z e.t)):=by intro vv;simp[go_sem,exI])(ka:kW kp e.j=.a:=by rfl)(ku:kW kp e.i=.u:=by rfl)(hw:wts l e.i e.j=true:=by rfl)(rj:runW l kp a0 e.j=fun _=>some (exI (.alloc e.t)):=by kernel_rfl)(ri:runW l kp a0 e.i=fun x=>some (exI (.store e.t (.const (.pointer (some ⟨(x e.j 0).2,0,none⟩))) (.const (.agg (e.c x))))):=by kernel_rfl):ObV P l kp a0 e:=⟨hc,hs,hz,hf,hn,ka,ku,hw,rj,ri⟩
theorem ObY.k{P:Program}{l:List Oper}{kp:List Kw}{a0:Act}{e:Ent}(hz:0<e.z.size)(hc:∀x x',(∀j,wts l e.i j=true→(kW kp j).val (x j)=(kW kp j).val (x' j))→e.c x=e.c x':=by intros;rfl)(hs:∀x v b,blk v b=e.z→frz v b=(0,0)→(exI (.store e.t (.const (.pointer (some ⟨b,0,none⟩))) (.const (.agg (e.c x))))).run P v=.ok .skip (setBlk v b (e.c x)):=by intro _ v b H F;dsimp only at H ⊢;simp[go_sem,exI,H,F])(hn:∀v:World,(exI (.alloc e.t)).run P v=.ok (.value (.pointer (some ⟨v.heap.size,0,none⟩))) (v.alloc (.cells e.z e.t)):=by intro vv;simp[go_sem,exI])(ka:kW kp e.j=.a:=by rfl)(ku:kW kp e.i=.u:=by rfl)(hw:wts l e.i e.j=true:=by rfl)(rj:runW l kp a0 e.j=fun _=>some (exI (.alloc e.t)):=by kernel_rfl)(ri:runW l kp a0 e.i=fun x=>some (exI (.store e.t (.const (.pointer (some ⟨(x e.j 0).2,0,none⟩))) (.const (.agg (e.c x))))):=by kernel_rfl):ObY P l kp a0 e:=⟨hc,hs,hz,hn,ka,ku,hw,rj,ri⟩
end
section
attribute [local go_sem ↓] uz1
attribute [local go_sem] uz2
section
def mv2(a f:Nat):Array Value:=nw 9 a++nw 9 f
theorem mv2_lo(a f:Nat):(mv2 a f).extract 0 9=nw 9 a:=by kernel_rfl
theorem mv2_hi(a f:Nat):(mv2 a f).extract 9 18=nw 9 f:=by kernel_rfl
theorem mv2_size(a f:Nat):(mv2 a f).size=18:=by kernel_rfl
attribute [local go_sem ↓] uz3
attribute [local go_sem] uz4 ones_nw
attribute [local go_sem ↓] loadMv_is storeMv_is buildMv_is
attribute [local go_sem] loadMv storeMv loadLo loadHi ext_lo ext_hi buildMv2 buildMv1
attribute [local go_sem] mv2_lo mv2_hi mv2_size
theorem less_any(xv xf ov tf:Nat)(hx:xv<M)(hxf:xf<M)(h0:0<ov)(ho:ov<M)(htf:tf<M)(hF:xf+xv/ov*tf<M)(w:World):
 Cg 176 #[.agg (nw 18 (mvN xv xf)),.agg (nw 18 (mvN ov tf))] w (.agg (nw 18 (mvN (xv%ov) (xf+xv/ov*tf)))):=by
 obtain⟨D,n,u,hd,hD⟩:=divisorOf_any ov h0 ho;have HD:Hid _:=hD;have HW:Hid _:=widen_any xv hx;have hs:=fun w=>splitD xv ov D n u hd (lt18 xv hx) w;have hl:=fun w=>lowHalf_any (xv/ov) w;have hqM:=div_lt xv ov hx;rw[Nat.mod_eq_of_lt hqM]at hl;have hrM:xv%ov<M:=Nat.lt_trans (Nat.mod_lt _ h0) ho;have hm:=fun w=>mul_any (xv/ov) tf hqM htf w
 have hTM:xv/ov*tf<M:=by omega
 have hl2:=fun w=>lowHalf_any (xv/ov*tf) w;rw[Nat.mod_eq_of_lt hTM]at hl2;have ha:=fun w=>add_any xf (xv/ov*tf) hxf hTM w;rw[Nat.mod_eq_of_lt hF,decide_eq_false (by omega)]at ha;obtain⟨q,hq⟩:=exl (xv/ov);obtain⟨rr,hr⟩:=exl (xv%ov);rw[hq,hr]at hs ⊢;rw[hr]at hrM;rw[hq]at hl hm hl2 ha;obtain⟨T,hT⟩:=exl (q*tf);rw[hT]at hm hl2 ha ⊢;obtain⟨F,hF'⟩:∃F,xf+T=F:=⟨_,rfl⟩;rw[hF']at ha ⊢;have HS:Hid _:=hs;have HL:Hid _:=hl;have HM:Hid _:=hm;have HL2:Hid _:=hl2;have HA:Hid _:=ha;have hap:=app_mv rr F hrM;obtain⟨Z,hZ⟩:=exl (mvN rr F);have x1:=app_mv xv xf hx;have o1:=app_mv ov tf ho;obtain⟨X,hX⟩:=exl (mvN xv xf);obtain⟨O,hO⟩:=exl (mvN ov tf);rw[hX]at x1 ⊢;rw[hO]at o1 ⊢;rw[hZ]at hap ⊢;have HX:Hu (mv2 xv xf=nw 18 X):=fun _=>x1;have HO:Hu (mv2 ov tf=nw 18 O):=fun _=>o1;clear hx hxf h0 ho htf hF hd hD hs hl hqM hrM hm hTM hl2 ha hq hr hT hF' hX hO x1 o1 hZ
 go_enter func176,ntmps176
 go_upto_region 1 with fail
 refine gen_v (fun v=>Hid (Gr w v∧Vr v (w.heap.size) (nw 18 X)∧Vr v (w.heap.size+1) (nw 18 O)∧Vr v (w.heap.size+1+1) (nw 18 0))) ⟨grA,vrA,vrA,vrA⟩ ?_;intro v0 HV;obtain⟨G,c0,c1,c2⟩:=HV.out;rw[←HX.out ()]at c0;rw[←HO.out ()]at c1;clear HV HX HO;refine wp_v true [.c (pv (w.heap.size+1) 0),.N ov,.c (.agg (dv D (n+1) u)),.c (pv (w.heap.size) 0),.N xv,.c (.agg (nw 18 xv)),.c (.tuple #[.agg (nw 18 q),.agg (nw 9 rr)]),.c (.tuple #[.agg (nw 18 q),.agg (nw 9 rr)]),.c (.agg (nw 18 q)),.N rr,.a,.a,.u,.u] [1,2,4,5,6] [⟨10,12,208,nw 18 0,fun _=>nw 18 q⟩,⟨11,13,25,nw 9 0,fun _=>nw 9 rr⟩] ⟨.g 25 0 c1 rfl,.z HD.out,.g 25 0 c0 rfl,.z HW.out,.z HS.out,⟨⟩⟩ ⟨.k zWide (.t rfl),.k zNat (.t rfl),⟨⟩⟩ fun yw1 v1 hg h1 hV1=>?_;simp only[fzw,Kw.a];obtain⟨⟨N1_10,V1_10⟩,⟨N1_11,V1_11⟩,-⟩:=hV1;clear h1;replace G:=G.trans hg;replace c0:=c0.gr hg;replace c1:=c1.gr hg;replace c2:=c2.gr hg;clear hg
 go_upto_region 2 with fail
 refine wp_v true [.c (.agg (nw 18 q)),.N q,.c (pv (w.heap.size+1) 9),.N tf,.c (.agg (nw 18 T)),.a,.u] [0,1,3,4] [⟨5,6,208,nw 18 0,fun _=>nw 18 T⟩] ⟨.g 208 0 V1_10 rfl,.z HL.out,.g 25 9 c1 rfl,.z HM.out,⟨⟩⟩ ⟨.k zWide (.t rfl),⟨⟩⟩ fun yw2 v2 hg h2 hV2=>?_;simp only[fzw,Kw.a];obtain⟨⟨N2_5,V2_5⟩,-⟩:=hV2;clear h2;replace G:=G.trans hg;replace c0:=c0.gr hg;replace c1:=c1.gr hg;replace c2:=c2.gr hg;replace V1_10:=V1_10.gr hg;replace V1_11:=V1_11.gr hg;clear hg
 go_upto_region 3 with fail
 refine wp_v true [.c (pv (w.heap.size) 9),.N xf,.c (.agg (nw 18 T)),.N T,.c (.tuple #[.agg (nw 9 F),.bool false]),.c (.tuple #[.agg (nw 9 F),.bool false]),.N F,.F,.a,.u,.F] [1,2,3,4] [⟨8,9,25,nw 9 0,fun _=>nw 9 F⟩] ⟨.g 25 9 c0 rfl,.g 208 0 V2_5 rfl,.z HL2.out,.z HA.out,⟨⟩⟩ ⟨.k zNat (.t rfl),⟨⟩⟩ fun yw3 v3 hg h3 hV3=>?_;simp only[fzw,Kw.a];obtain⟨⟨N3_8,V3_8⟩,-⟩:=hV3;clear h3;replace G:=G.trans hg;replace c0:=c0.gr hg;replace c1:=c1.gr hg;replace c2:=c2.gr hg;replace V1_10:=V1_10.gr hg;replace V1_11:=V1_11.gr hg
 go_upto_region 4 with fail
 refine wp_wTS 3 [.N rr,.N F,.c (.agg (nw 18 Z))] [0,1,2] ⟨.g 25 0 V1_11 rfl,.g 25 0 V3_8 rfl,.s (.build 225 #[(0,(.const (.agg (nw 9 rr)))),(1,(.const (.agg (nw 9 F))))]) rfl fun vv hg=>by simp[go_sem,exI,hap],⟨⟩⟩ (.s 225 (fun yy=>.pointer (some ⟨w.heap.size+1+1,0,none⟩)) (fun yy=>.agg (nw 18 Z)) fun yw4 v4 hg h4=>?_);have HT:=(c2.gr hg).h;have FT:=(c2.gr hg).f;refine⟨setBlk v4 (w.heap.size+1+1) (nw 18 Z),by simp[go_sem,exI,HT,FT],?_⟩;simp only[fzw];replace G:=G.trans hg
 go_wp2_with fail
 exact bodyPost_ret (res_one results176 (rd_mv (by rfl) (blk_setBlk _ _ _ (by rw[HT];decide +kernel)))) rfl ⟨rfl,gr_setNew G (by omega)⟩
end
section
attribute [local go_sem ↓] uz3
attribute [local go_sem] uz4 ones_nw
attribute [local go_sem ↓] loadMv_is storeMv_is buildMv_is
attribute [local go_sem] loadMv storeMv loadLo loadHi ext_lo ext_hi buildMv2 buildMv1
attribute [local go_sem ↓] Go.wp_at_zero Go.wp_at_succ
attribute [local go_sem] blk_other
def vB(c:Array Value):Nat→Nat
 | 0=>0
 | n+1=>vB c n+(intOf (c.getD n undef)).toNat*pw n
theorem vB_nw(N X:Nat):∀n,n≤N→vB (nw N X) n=X%pw n
 | 0,_=>by rw[vB,pw_zero,Nat.mod_one]
 | n+1,h=>by
  rw[vB,vB_nw N X n (by omega),mod_succ]
  have e:(nw N X).getD n undef=.int .u64 ((wd X n:Nat):Int):=by
   have:=nw_get N X n (by omega);rw[Array.getD_eq_getD_getElem?,this]
   rfl
  rw[e];simp[intOf]
def mB(w:World)(b:Nat):Nat:=vB (blk w b) 9
theorem mB_mv(w:World)(b a f:Nat)(ha:a<M)(h:blk w b=nw 18 (mvN a f)):mB w b=a:=by
 unfold mB;rw[h,vB_nw 18 _ 9 (by decide)]
 show (a+f*M)%M=a
 rw[Nat.add_mul_mod_self_right,Nat.mod_eq_of_lt ha]
structure EW(w v:World)(L T b:Nat):Prop where
 g:Gr w v
 h2:blk v (w.heap.size+1+1)=nw 9 0
 f2:frz v (w.heap.size+1+1)=(0,0)
 p2:Pre (w.heap.size+1+1+1) v.heap.size
 h3:blk v (w.heap.size+1+1+1)=nw 9 0
 f3:frz v (w.heap.size+1+1+1)=(0,0)
 p3:Pre (w.heap.size+1+1+1+1) v.heap.size
 h4:blk v (w.heap.size+1+1+1+1)=nw 18 L
 f4:frz v (w.heap.size+1+1+1+1)=(0,0)
 p4:Pre (w.heap.size+1+1+1+1+1) v.heap.size
 h8:blk v b=nw 18 T
 f8:frz v b=(0,0)
 p8:Pre (b+1) v.heap.size
 q8:w.heap.size+1+1+1+1+1≤b
theorem EW.gr{w v v':World}{L T b:Nat}(h:EW w v L T b)(k:Gr v v'):EW w v' L T b:=by
 have hs:=k.below.size;have pr:∀{x},Pre x v.heap.size→Pre x v'.heap.size:=fun h=>Nat.le_trans h hs
 exact⟨h.g.trans k,by rw[k.blk _ h.p2];exact h.h2,by rw[k.frz _ h.p2];exact h.f2,pr h.p2,by rw[k.blk _ h.p3];exact h.h3,by rw[k.frz _ h.p3];exact h.f3,pr h.p3,
  by rw[k.blk _ h.p4];exact h.h4,by rw[k.frz _ h.p4];exact h.f4,pr h.p4,by rw[k.blk _ h.p8];exact h.h8,by rw[k.frz _ h.p8];exact h.f8,pr h.p8,h.q8⟩
theorem EW.set4{w v:World}{L T b:Nat}(h:EW w v L T b)(X:Nat):EW w (setBlk v (w.heap.size+1+1+1+1) (nw 18 X)) X T b:=by
 have q:=h.q8
 have pr:∀{x},Pre x v.heap.size→Pre x (setBlk v (w.heap.size+1+1+1+1) (nw 18 X)).heap.size:=fun h=>by rw[size_setBlk];exact h
 exact⟨gr_setNew h.g (by omega),by rw[blk_other _ _ _ _ (by omega)];exact h.h2,by rw[frz_setBlk];exact h.f2,pr h.p2,by rw[blk_other _ _ _ _ (by omega)];exact h.h3,by rw[frz_setBlk];exact h.f3,pr h.p3,
  blk_setBlk _ _ _ (by rw[h.h4,nw_size];decide),by rw[frz_setBlk];exact h.f4,pr h.p4,by rw[blk_other _ _ _ _ (by omega)];exact h.h8,by rw[frz_setBlk];exact h.f8,pr h.p8,h.q8⟩
theorem EW.set8{w v:World}{L T b:Nat}(h:EW w v L T b)(X:Nat):EW w (setBlk v b (nw 18 X)) L X b:=by
 have q:=h.q8
 have pr:∀{x},Pre x v.heap.size→Pre x (setBlk v b (nw 18 X)).heap.size:=fun h=>by rw[size_setBlk];exact h
 exact⟨gr_setNew h.g (by omega),by rw[blk_other _ _ _ _ (by omega)];exact h.h2,by rw[frz_setBlk];exact h.f2,pr h.p2,by rw[blk_other _ _ _ _ (by omega)];exact h.h3,by rw[frz_setBlk];exact h.f3,pr h.p3,
  by rw[blk_other _ _ _ _ (by omega)];exact h.h4,by rw[frz_setBlk];exact h.f4,pr h.p4,blk_setBlk _ _ _ (by rw[h.h8,nw_size];decide),by rw[frz_setBlk];exact h.f8,pr h.p8,h.q8⟩
theorem euclid_any(a m:Nat)(hm:m<M)(ham:a<m)(w:World):
 Cg 167 #[.agg (nw 9 a),.agg (nw 9 m)] w (.tuple #[.agg (nw 9 (eu m 0 a 1 true).1),.agg (nw 9 (eu m 0 a 1 true).2.1),.bool (eu m 0 a 1 true).2.2]):=by
 have HO:Hid (∀w,Cg 96 #[.int .i64 1] w (.agg (nw 9 1))):=fun w=>small_any 1 (by decide) w;have haM:a<M:=Nat.lt_trans ham hm;have ap0:=app_mv m 0 hm;have ap1:=app_mv a 1 haM;obtain⟨M0,hM0⟩:=exl (mvN m 0);obtain⟨A1,hA1⟩:=exl (mvN a 1);rw[hM0]at ap0;rw[hA1]at ap1;have HA1:Hu (_):=fun _=>ap1;have HE0:Hu (M0=mvN m 0∧A1=mvN a 1):=fun _=>⟨hM0.symm,hA1.symm⟩;have HI0:Hid _:=EI.start a m ham;have HmM:Hu (_):=fun _=>hm;obtain⟨E,hE⟩:=exl (eu m 0 a 1 true);rw[hE];have HE:Hu (_):=fun _=>hE;clear ap1 hM0 hA1 haM hm ham hE
 go_enter func167,ntmps167
 go_upto_region 2 with fail
 refine gen_v (fun v=>Hid (Gr w v∧Vr v (w.heap.size) (nw 9 a)∧Vr v (w.heap.size+1+1) (nw 9 0)∧Vr v (w.heap.size+1+1+1) (nw 9 0)∧Vr v (w.heap.size+1+1+1+1) (nw 18 M0))) ⟨grA,vrA,vrA,vrA,vrA⟩ ?_;intro v0 HV;obtain⟨G,c0,c2,c3,c4⟩:=HV.out;have p4:w.heap.size+1+1+1+1+1≤v0.heap.size:=c4.p;clear HV;refine wp_v true [.N a,.N 1,.c (.agg (nw 18 A1)),.a,.u] [0,1,2] [⟨3,4,225,nw 18 0,fun _=>nw 18 A1⟩] ⟨.g 25 0 c0 rfl,.z HO.out,.s (.build 225 #[(0,(.const (.agg (nw 9 a)))),(1,(.const (.agg (nw 9 1))))]) rfl fun vv hg=>by simp[go_sem,exI,HA1.out ()],⟨⟩⟩ ⟨.k zWide (.t rfl),⟨⟩⟩ fun yw2 v1 hg h2 hV2=>?_;simp only[fzw,Kw.a];obtain⟨⟨N2_3,V2_3⟩,-⟩:(v0.heap.size≤(yw2 3 0).2∧Vr v1 (yw2 3 0).2 (nw 18 A1))∧True:=hV2;clear h2;replace G:=G.trans hg;replace c0:=c0.gr hg;replace c2:=c2.gr hg;replace c3:=c3.gr hg;replace c4:=c4.gr hg;clear hg;have hw:EW w v1 M0 A1 (yw2 3 0).2:=⟨G,c2.h,c2.f,c2.p,c3.h,c3.f,c3.p,c4.h,c4.f,c4.p,V2_3.h,V2_3.f,V2_3.p,by omega⟩;generalize (yw2 3 0).2=b3 at *;clear p4 N2_3 V2_3 c0 c2 c3 c4 G;have HW0:Hid _:=hw;clear hw ap0 HA1 HO
 go_wp2_with fail
 go_loopw [9] (fun β wr=>∃(lv lf tv tf:Nat) (δ:Bool),β=.bool δ∧Hid (EI a m lv lf tv tf δ∧lv≤m∧eu lv lf tv tf δ=E)∧Hid (EW w wr (mvN lv lf) (mvN tv tf) b3)) (fun _ wr=>mB wr b3)
 case atStart=>
  have h:=HW0.out;rw[(HE0.out ()).1,(HE0.out ()).2]at h;exact⟨m,0,a,1,true,rfl,⟨HI0.out,Nat.le_refl _,HE.out ()⟩,h⟩
 case round=>
  obtain⟨lv,lf,tv,tf,δ,rfl,HI,HW⟩:=hrel;clear HW0;have hmM:=HmM.out ();have hlM:=Nat.lt_of_le_of_lt HI.out.2.1 hmM;have htM:=Nat.lt_trans HI.out.1.lt hlM;have hfM:=Nat.lt_of_le_of_lt HI.out.1.fac hmM;have hgM:=Nat.lt_of_le_of_lt HI.out.1.le hmM;have e1:=mv_lo tv tf htM;have e2:=mv_lo lv lf hlM;have e3:=mv_hi lv lf hlM;have hz:=fun w=>isZero_any tv htM w;have hms:=mB_mv wr b3 tv tf htM HW.out.h8;obtain⟨L,hL⟩:=exl (mvN lv lf);obtain⟨T,hT⟩:=exl (mvN tv tf);rw[hT]at e1;rw[hL]at e2 e3
  have HWL:Hid (EW w wr L T b3):=by show EW w wr L T b3;rw[←hL,←hT];exact HW.out
  obtain⟨hg,h1,h2,h3,h4,h5,h6,h7,h8,h9,h10,h11,h12,h13⟩:=HWL.out;have HMS:Hu (_):=fun _=>hms;clear hg hms
  by_cases ht:tv=0
  ·have HZ:Hid _:=fun w=>by
    have:=hz w;rw[decide_eq_true ht]at this;exact this
   have HF:Hu (E=(lv,lf,δ)):=fun _=>by
    have:=HI.out.2.2;rw[ht,eu_zero]at this;exact this.symm
   clear hz ht hL hT hlM htM hfM hgM hmM
   go_wp2_with (go_at_call 166;refine(HZ.out _).mono ?_;rintro e w' ⟨rfl,g,rfl⟩)
   go_big_region
   all_goals
    go_wp2_with fail
    refine bodyPost_ret (res_three results167 (rd_nat (by rfl) ?_) (rd_nat (by rfl) ?_) (rd_tmp (by rfl))) rfl ⟨by rw[HF.out ()];rfl,?_⟩
    ·simp[go_sem, *]
    ·simp[go_sem, *]
    ·have hg:=HWL.out.g;exact grB
  ·have ht0:0<tv:=by omega
   have HZ:Hid _:=fun w=>by
    have:=hz w;rw[decide_eq_false ht]at this;exact this
   have hst:=HI.out.1.step ht0;have hfi:=HI.out.1.fits ht0;have hes:=eu_step lv lf tv tf δ ht0;have hle:=fun w=>less_any lv lf tv tf hlM hgM ht0 htM hfM (Nat.lt_of_le_of_lt hfi hmM) w;rw[HI.out.2.2]at hes;have hmod:lv%tv<tv:=Nat.mod_lt _ ht0;obtain⟨r,hr⟩:=exl (lv%tv);obtain⟨F,hF⟩:=exl (lf+lv/tv*tf);rw[hr,hF]at hst hes hle;rw[hr]at hmod;rw[hL,hT]at hle;obtain⟨N,hN⟩:=exl (mvN r F);rw[hN]at hle;have HL:Hid _:=hle;have HNX:Hu (EI a m tv tf r F (!δ)∧tv≤m∧eu tv tf r F (!δ)=E∧mvN tv tf=T∧mvN r F=N∧r<tv∧tv<M):=fun _=>⟨hst,by have:=HI.out.1.lt;have:=HI.out.2.1;omega,hes.symm,hT,hN,hmod,htM⟩
   have hne:¬(w.heap.size+1+1+1+1)=b3:=by omega
   go_upto_region 5 with (go_at_call 166;refine(HZ.out _).mono ?_;rintro e w' ⟨rfl,g,rfl⟩)
   go_cut [9] from 19 to 22 (fun β wx=>β=.bool δ∧Hid (EW w wx T N b3))
   case first=>
    go_region_with (go_at_call 176;refine(HL.out _).mono ?_;rintro e w' ⟨rfl,g5,rfl⟩)
    all_goals
     go_wp2_with fail
     go_meet
     exact⟨rfl,((HWL.out.set4 T).set8 N).gr ⟨_,rfl⟩⟩
   case rest=>
    obtain⟨rfl,HW2⟩:=hcut
    go_wp2_with fail
    go_roundw
    case rel=>
     obtain⟨k1,k2,k3,k4,k5,k6,k7⟩:=HNX.out ();refine⟨tv,tf,r,F, !δ,rfl,⟨k1,k2,k3⟩,?_⟩;rw[k4,k5];exact HW2.out
    case measure=>
     obtain⟨k1,k2,k3,k4,k5,k6,k7⟩:=HNX.out ();rw[HMS.out (),mB_mv _ b3 r F (by omega) (by rw[k5];exact HW2.out.h8)];exact k6
end
section
attribute [local go_sem ↓] uz3
attribute [local go_sem] uz4 ones_nw
attribute [local go_sem ↓] loadMv_is storeMv_is buildMv_is
attribute [local go_sem] loadMv storeMv loadLo loadHi ext_lo ext_hi buildMv2 buildMv1
attribute [local go_sem ↓] Go.wp_at_zero Go.wp_at_succ
attribute [local go_sem] blk_other nw_ext9 nw_ext18 eqArr9 eqArr18
theorem gcd_mod(m a:Nat):Nat.gcd m (a%m)=Nat.gcd m a:=by
 rw[Nat.gcd_comm,←Nat.gcd_rec m a]
theorem eu_inv(a m:Nat)(hm:1<m):∃g f δ,eu m 0 (a%m) 1 true=(g,f,δ)∧g=Nat.gcd m a∧f≤m∧(g=1→(if δ then m-f else f)<m∧a*(if δ then m-f else f)%m=1):=by
 obtain⟨g,f,δ,h1,h2,h3,h4⟩:=eu_end (a%m) m (a%m) m 0 1 true (EI.start (a%m) m (Nat.mod_lt _ (by omega)));refine⟨g,f,δ,h1,by rw[h2,gcd_mod],h3,fun hg=>?_⟩;subst hg;have:=inv_of (a%m) m f δ hm h3 (by simpa using h4);rw[Nat.mod_mul_mod]at this;exact this
def InvP(gg x:Nat)(e:Ending):Prop:=(gg=1→e=.returned (.tuple #[.agg (nw 9 x),.int .i64 0]))∧(gg≠1→e=.returned (.tuple #[.agg (nw 9 0),.int .i64 401]))
theorem inv_walk(a m gg ff:Nat)(δ:Bool)(ha:a<M)(hm:1<m)(hM:m<M)(hE:eu m 0 (a%m) 1 true=(gg,ff,δ))(hg:gg<M)(hf:ff≤m)(w:World):
 Calls prog 161 #[.agg (nw 9 a),.agg (nw 9 m)] w fun e w'=>InvP gg (if δ then m-ff else ff) e∧Gr w w':=by
 have HZ:Hid _:=notZero m (by omega) hM;have HO:Hid _:=small_any 1 (by decide);obtain⟨D,n,u,hd,hD⟩:=divisorOf_any m (by omega) hM;have HD:Hid _:=hD;have HW:Hid _:=widen_any a ha;have hr:=fun w=>restD a m D n u hd (lt18 a ha) w;have he:=fun w=>euclid_any (a%m) m hM (Nat.mod_lt _ (by omega)) w;rw[hE]at he;obtain⟨A,hA⟩:=exl (a%m);rw[hA]at hr he;have HR:Hid _:=hr;have HE:Hid _:=he;have hs:=fun w=>sub_any m ff hM (Nat.lt_of_le_of_lt hf hM) w
 have hsm:(m+M-ff)%M=m-ff:=by
  rw[show m+M-ff=(m-ff)+M by omega,Nat.add_mod_right,Nat.mod_eq_of_lt (by omega)]
 rw[hsm,decide_eq_false (by omega)]at hs;obtain⟨S,hS⟩:=exl (m-ff);rw[hS]at hs ⊢;obtain⟨X,hX⟩:=exl ((if δ=true then S else ff));rw[hX];have HS:Hid _:=hs
 have e1:eqN 9 m 1=false:=by rw[eqN9 m 1 hM (lt_M 1 (by decide))];exact decide_eq_false (by omega)
 have e2:=eqN9 gg 1 hg (lt_M 1 (by decide))
 have HX:Hu ((δ=false→X=ff)∧(δ=true→X=S)):=fun _=>by
  rw[←hX];exact⟨fun h=>by rw[h];rfl,fun h=>by rw[h];rfl⟩
 clear hr he hA hd hD hs hsm hS ha hm hM hE hg hf hX
 go_enter func161,ntmps161
 go_upto_region 6 with (first
  | (go_at_call 166;refine(HZ.out _).mono ?_;rintro e w' ⟨rfl,g,rfl⟩)
  | (go_at_call 96;refine(HO.out _).mono ?_;rintro e w' ⟨rfl,g1,rfl⟩))
 obtain⟨b6,hb6⟩:=exl (w.heap.size+1+1+1+(g.os.length+g1.os.length));rw[hb6]
 refine gen_v (fun v=>Hid (Gr w v∧Vr v (w.heap.size) (nw 9 a)∧Vr v (w.heap.size+1) (nw 9 m)∧Vr v (w.heap.size+1+1) (nw 9 0)∧Vr v b6 (nw 9 1))) ?_ ?_
 ·subst hb6;exact⟨grA,⟨by simp[go_sem],by simp[go_sem],by simp[go_sem]⟩,⟨by simp[go_sem],by simp[go_sem],by simp[go_sem]⟩,⟨by simp[go_sem],by simp[go_sem],by simp[go_sem]⟩,⟨by simp[go_sem],by simp[go_sem],by simp[go_sem]⟩⟩
 clear hb6;intro v0 HV;obtain⟨G,c0,c1,c2,c6⟩:=HV.out;have p2:w.heap.size+1+1+1≤v0.heap.size:=c2.p;clear HV;refine wp_v true [.N m,.c (.agg (dv D (n+1) u)),.N a,.c (.agg (nw 18 a)),.N A,.N m,.c (.tuple #[.agg (nw 9 gg),.agg (nw 9 ff),.bool δ]),.c (.tuple #[.agg (nw 9 gg),.agg (nw 9 ff),.bool δ]),.N gg,.N ff,.c (.bool δ),.a,.a,.u,.u,.c (.bool δ)] [0,1,2,3,4,5,6] [⟨11,13,25,nw 9 0,fun _=>nw 9 gg⟩,⟨12,14,25,nw 9 0,fun _=>nw 9 ff⟩] ⟨.g 25 0 c1 rfl,.z HD.out,.g 25 0 c0 rfl,.z HW.out,.z HR.out,.g 25 0 c1 rfl,.z HE.out,⟨⟩⟩ ⟨.k zNat (.t rfl),.k zNat (.t rfl),⟨⟩⟩ fun yw6 v1 hg h6 hV6=>?_;simp only[fzw,Kw.a];obtain⟨⟨N6_11,V6_11⟩,⟨N6_12,V6_12⟩,-⟩:(v0.heap.size≤(yw6 11 0).2∧Vr v1 (yw6 11 0).2 (nw 9 gg))∧(v0.heap.size≤(yw6 12 0).2∧Vr v1 (yw6 12 0).2 (nw 9 ff))∧True:=hV6;clear h6;replace G:=G.trans hg;replace c0:=c0.gr hg;replace c1:=c1.gr hg;replace c2:=c2.gr hg;replace c6:=c6.gr hg;clear hg
 have n12:¬(yw6 12 0).2=w.heap.size+1+1:=by omega
 have n12':¬(w.heap.size+1+1)=(yw6 12 0).2:=by omega
 have q12':w.heap.size≤(yw6 12 0).2:=by omega
 have⟨k1,l1,m1⟩:=c1;have⟨k2,l2,m2⟩:=c2;have⟨k6,l6,m6⟩:=c6;have⟨k11,l11,m11⟩:=V6_11;have⟨k12,l12,m12⟩:=V6_12;have⟨p21,p22,p23,p24,p25,p26⟩:=c2.pp;have⟨p121,p122,p123,p124,p125,p126⟩:=V6_12.pp;have HG:Hid _:=G;clear c0 c1 c2 c6 V6_11 V6_12 G p2 N6_11 N6_12
 by_cases h1:gg=1
 ·rw[decide_eq_true h1]at e2;have H1:Hu (_):=fun _=>h1;clear h1
  cases hδ:δ with
  | false=>
   have HXX:=((HX.out ()).1 hδ);have HXH:Hu (_):=fun _=>HXX;clear HXX HX;subst hδ
   go_wp2_with (go_at_call 69;refine(HS.out _).mono ?_;rintro e w' ⟨rfl,g3,rfl⟩)
   refine bodyPost_ret (res_two results161 (rd_nat (by rfl) ?_) (rd_tmp (by rfl))) rfl ⟨⟨fun _=>by rw[HXH.out ()];rfl,fun h=>absurd (H1.out ()) h⟩,?_⟩
   ·simp[go_sem, *]
   ·repeat (first|exact HG.out|apply Gr.drewN|apply Gr.drew|apply Gr.alloc|apply Gr.gro|(refine gr_setNew ?_ (by omega)))
  | true=>
   have HXX:=((HX.out ()).2 hδ);have HXH:Hu (_):=fun _=>HXX;subst hδ
   go_wp2_with (go_at_call 69;refine(HS.out _).mono ?_;rintro e w' ⟨rfl,g3,rfl⟩)
   refine bodyPost_ret (res_two results161 (rd_nat (by rfl) ?_) (rd_tmp (by rfl))) rfl ⟨⟨fun _=>by rw[HXH.out ()];rfl,fun h=>absurd (H1.out ()) h⟩,?_⟩
   ·simp[go_sem, *]
   ·repeat (first|exact HG.out|apply Gr.drewN|apply Gr.drew|apply Gr.alloc|apply Gr.gro|(refine gr_setNew ?_ (by omega)))
 ·rw[decide_eq_false h1]at e2;have H1:Hu (_):=fun _=>h1
  go_wp2_with fail
  refine bodyPost_ret (res_two results161 (rd_nat (by rfl) ?_) (rd_tmp (by rfl))) rfl ⟨⟨fun h=>absurd h (H1.out ()),fun _=>rfl⟩,?_⟩
  ·simp[go_sem, *]
  ·repeat (first|exact HG.out|apply Gr.drewN|apply Gr.drew|apply Gr.alloc|apply Gr.gro|(refine gr_setNew ?_ (by omega)))
theorem gcd_lt(m a:Nat)(h:0<m)(hM:m<M):Nat.gcd m a<M:=Nat.lt_of_le_of_lt (Nat.gcd_le_left a h) hM
theorem inv_some(a m:Nat)(ha:a<M)(hm:1<m)(hM:m<M)(hg:Nat.gcd m a=1):
 ∃x,x<m∧a*x%m=1∧∀w,Cg 161 #[.agg (nw 9 a),.agg (nw 9 m)] w (.tuple #[.agg (nw 9 x),.int .i64 0]):=by
 obtain⟨g,f,δ,h1,h2,h3,h4⟩:=eu_inv a m hm
 have hg1:g=1:=by rw[h2,hg]
 obtain⟨h5,h6⟩:=h4 hg1;refine⟨_,h5,h6,fun w=>(inv_walk a m g f δ ha hm hM h1 (by rw[h2];exact gcd_lt m a (by omega) hM) h3 w).mono fun e w' h=>?_⟩;exact⟨h.1.1 hg1,h.2⟩
end
section
attribute [local go_sem ↓] uz3
attribute [local go_sem] uz4 ones_nw
attribute [local go_sem ↓] uz6 Go.wp_at_zero Go.wp_at_succ
attribute [local go_sem] uz7
theorem eqN_no(x y:Nat)(hx:x<M)(hy:y<M)(h:x≠y):eqN 9 x y=false:=by
 rw[eqN9 x y hx hy];exact decide_eq_false h
end
section
attribute [local go_sem ↓] uz3
attribute [local go_sem] uz4 ones_nw
attribute [local go_sem ↓] uz6 Go.wp_at_zero Go.wp_at_succ
attribute [local go_sem] loadMd storeMd buildMd0 buildMd1 blk_other loadLo loadHi ext_lo ext_hi
theorem pre_up{b n:Nat}(h:Pre b n):(∀k,Pre b (n+k))∧(∀k l,Pre b (n+k+l))∧(∀k l j,Pre b (n+k+l+j)):=by
 unfold Pre at *;exact⟨fun k=>by omega,fun k l=>by omega,fun k l j=>by omega⟩
theorem mfor_yes(i m n:Nat)(h1:1≤i)(h2:i≤15)(hm:pN i=m)(hmM:m<M)(hn:n≤2)(F:Nat→Nat)(hF:∀j,j<n→F j<m)(b:Nat)(w:World)(hl:∀j,j<n→∀v,Gr w v→(loadS 25 (.pointer (some ⟨b,j*9,none⟩))).run prog v=.ok (.agg (nw 9 (F j))) v):
 Cg 150 #[.int .i64 (i:Int),.slice (some ⟨b,0,none⟩) n n] w (.tuple #[.agg (nw 9 m),.int .i64 0]):=by
 have HO:Hid _:=hm▸of_yes i h1 h2;have HN:Hu (_):=fun _=>hn;have HB:Hid _:=hF;have HM:Hu (_):=fun _=>hmM;have HL:Hid _:=hl;clear h1 h2 hm hmM hn hF hl
 go_enter func150,ntmps150
 go_wp2_with (go_at_call 75;refine(HO.out _).mono ?_;rintro e w' ⟨rfl,g,rfl⟩)
 obtain⟨b6,hb6⟩:=exl (w.heap.size+1+g.os.length);rw[hb6]
 go_loopw [20] (fun ia wr=>∃j:Nat,ia=.int .i64 (j:Int)∧Hu (j≤n)∧Hid (Gr w wr∧Cl wr w.heap.size 0∧Cl wr b6 m)) (fun ia _=>((n:Int)-intOf ia).toNat)
 case atStart=>
  subst hb6;exact⟨0,rfl,fun _=>Nat.zero_le _,grA,⟨by simp[go_sem],by simp[go_sem],by simp[go_sem]⟩,⟨by simp[go_sem],by simp[go_sem],by simp[go_sem]⟩⟩
 case round=>
  obtain⟨j,rfl,HJ,HV⟩:=hrel;obtain⟨G,⟨h1,f1,p1⟩,⟨h2,f2,p2⟩⟩:=HV.out
  have j0:(0:Int)≤(j:Int):=by omega
  have n4:(n:Int)≤2:=by have:=HN.out ();omega
  obtain⟨P1,P2,P3⟩:=pre_up p1;obtain⟨Q1,Q2,Q3⟩:=pre_up p2
  by_cases hlt:j<n
  ·have hjn:j<n:=by exact hlt
   have ld0:=HL.out j hjn wr G
   have HC:Hid _:=fun w=>by
    have hb:=HB.out j hlt;have h:=cmp_any (F j) m (Nat.lt_trans hb (HM.out ())) (HM.out ()) w;rw[show cmpZ (F j) m = -1 by unfold cmpZ;rw[if_pos hb]]at h;exact h
   go_wp2_with (go_at_call 32;refine(HC.out _).mono ?_;rintro e w' ⟨rfl,g2,rfl⟩)
   go_roundw
   case rel=>
    refine⟨j+1,by go_num,fun _=>hlt,?_⟩;obtain⟨G,c1,c2⟩:=HV.out;refine⟨?_,c1.gr grA,c2.gr grA⟩;exact grB
   case measure=>simp[intOf];omega
  ·skip
   go_wp2_with fail
   refine bodyPost_ret (res_two results150 (rd_md (by rfl) ?_) (rd_tmp (by rfl))) rfl ⟨rfl,?_⟩
   ·simp[go_sem, *]
   ·have hg:=HV.out.1;exact grB
theorem mfor_off(i m n:Nat)(h1:1≤i)(h2:i≤15)(hm:pN i=m)(hmM:m<M)(hn:n≤2)(F:Nat→Nat)(r:Nat)(hr:r<n)(hoff:m≤F r)(hfM:F r<M)(hF:∀j,j<r→F j<m)(b:Nat)(w:World)(hl:∀j,j<n→∀v,Gr w v→(loadS 25 (.pointer (some ⟨b,j*9,none⟩))).run prog v=.ok (.agg (nw 9 (F j))) v):
 Cg 150 #[.int .i64 (i:Int),.slice (some ⟨b,0,none⟩) n n] w (.tuple #[.agg (nw 9 0),.int .i64 501]):=by
 have HO:Hid _:=hm▸of_yes i h1 h2;have HN:Hu (_):=fun _=>hn;have HB:Hid _:=hF;have HM:Hu (_):=fun _=>hmM;have HL:Hid _:=hl;have HR:Hu (r<n∧m≤F r∧F r<M):=fun _=>⟨hr,hoff,hfM⟩;clear h1 h2 hm hmM hn hF hl hr hoff hfM
 go_enter func150,ntmps150
 go_wp2_with (go_at_call 75;refine(HO.out _).mono ?_;rintro e w' ⟨rfl,g,rfl⟩)
 obtain⟨b6,hb6⟩:=exl (w.heap.size+1+g.os.length);rw[hb6]
 go_loopw [20] (fun ia wr=>∃j:Nat,ia=.int .i64 (j:Int)∧Hu (j≤r)∧Hid (Gr w wr∧Cl wr w.heap.size 0∧Cl wr b6 m)) (fun ia _=>((n:Int)-intOf ia).toNat)
 case atStart=>
  subst hb6;exact⟨0,rfl,fun _=>Nat.zero_le _,grA,⟨by simp[go_sem],by simp[go_sem],by simp[go_sem]⟩,⟨by simp[go_sem],by simp[go_sem],by simp[go_sem]⟩⟩
 case round=>
  obtain⟨j,rfl,HJ,HV⟩:=hrel;obtain⟨G,⟨h1,f1,p1⟩,⟨h2,f2,p2⟩⟩:=HV.out
  have j0:(0:Int)≤(j:Int):=by omega
  have n4:(n:Int)≤2:=by have:=HN.out ();omega
  obtain⟨P1,P2,P3⟩:=pre_up p1;obtain⟨Q1,Q2,Q3⟩:=pre_up p2
  by_cases hlt:j<r
  ·have hjn:j<n:=by have:=(HR.out ()).1;omega
   have j1:(j:Int)<(n:Int):=by omega
   have ld0:=HL.out j hjn wr G
   have HC:Hid _:=fun w=>by
    have hb:=HB.out j hlt;have h:=cmp_any (F j) m (Nat.lt_trans hb (HM.out ())) (HM.out ()) w;rw[show cmpZ (F j) m = -1 by unfold cmpZ;rw[if_pos hb]]at h;exact h
   clear G hjn
   go_wp2_with (go_at_call 32;refine(HC.out _).mono ?_;rintro e w' ⟨rfl,g2,rfl⟩)
   go_roundw
   case rel=>
    refine⟨j+1,by go_num,fun _=>hlt,?_⟩;obtain⟨G,c1,c2⟩:=HV.out;refine⟨?_,c1.gr grA,c2.gr grA⟩;exact grB
   case measure=>simp[intOf];omega
  ·skip
   have hjr:j=r:=by have:=HJ.out ();omega
   obtain⟨hr1,hr2,hr3⟩:=HR.out ()
   have hjn:j<n:=by omega
   obtain⟨z,hz⟩:=exl (cmpZ (F j) m)
   have hz0:(0:Int)≤z:=by rw[←hz,hjr];unfold cmpZ;rw[if_neg (Nat.not_lt.2 hr2)];split <;> omega
   have HC:Hid _:=hz▸cmp_any _ _ (hjr▸hr3) (HM.out ())
   have j1:(j:Int)<(n:Int):=by omega
   have ld0:=HL.out j hjn wr G;clear G hlt hjn hjr hr1 hr2 hr3 hz
   go_wp2_with (go_at_call 32;refine(HC.out _).mono ?_;rintro e w' ⟨rfl,g2,rfl⟩)
   refine bodyPost_ret (res_two results150 (rd_md (by rfl) ?_) (rd_tmp (by rfl))) rfl ⟨rfl,?_⟩
   ·simp[go_sem, *]
   ·have hg:=HV.out.1;exact grB
theorem mfor_one(i m a b:Nat)(h1:1≤i)(h2:i≤15)(hm:pN i=m)(hmM:m<M)(ha:a<M)(w:World)(hb:blk w b=nw 9 a)(hp:Pre (b+1) w.heap.size):
 Cg 150 #[.int .i64 (i:Int),.slice (some ⟨b,0,none⟩) 1 1] w (.tuple #[.agg (nw 9 (if a<m then m else 0)),.int .i64 (if a<m then 0 else 501)]):=by
 have hl:∀j,j<1→∀v,Gr w v→(loadS 25 (.pointer (some ⟨b,j*9,none⟩))).run prog v=.ok (.agg (nw 9 a)) v:=fun j hj v g=>by
  obtain rfl:j=0:=by omega
  have h3:blk v b=nw 9 a:=by rw[g.blk _ hp];exact hb
  rw[show 0*9=0 from rfl,loadNat v b (by rw[h3,nw_size]),h3]
 by_cases hr:a<m
 ·rw[if_pos hr,if_pos hr];exact mfor_yes i m 1 h1 h2 hm hmM (by decide) (fun _=>a) (fun _ _=>hr) b w hl
 ·rw[if_neg hr,if_neg hr];exact mfor_off i m 1 h1 h2 hm hmM (by decide) (fun _=>a) 0 (by decide) (Nat.le_of_not_lt hr) ha (fun j h=>absurd h (Nat.not_lt_zero j)) b w hl
theorem mfor_two(i m a c b X:Nat)(h1:1≤i)(h2:i≤15)(hm:pN i=m)(hmM:m<M)(ha:a<M)(hc:c<M)(hX:X=mvN a c)(w:World)(hb:blk w b=nw 18 X)(hp:Pre (b+1) w.heap.size):
 Cg 150 #[.int .i64 (i:Int),.slice (some ⟨b,0,none⟩) 2 2] w (.tuple #[.agg (nw 9 (if a<m∧c<m then m else 0)),.int .i64 (if a<m∧c<m then 0 else 501)]):=by
 have hl:∀j,j<2→∀v,Gr w v→(loadS 25 (.pointer (some ⟨b,j*9,none⟩))).run prog v=.ok (.agg (nw 9 ((fun j=>match j with|0=>a|_=>c:Nat→Nat) j))) v:=fun j hj v g=>by
  have h3:blk v b=nw 18 X:=by rw[g.blk _ hp];exact hb
  have elo:nw 9 X=nw 9 a:=by rw[hX];exact mv_lo a c ha
  have ehi:nw 9 (X/pw 9)=nw 9 c:=by rw[hX];exact mv_hi a c ha
  obtain rfl|rfl:j=0∨j=1:=by omega
  ·show (loadS 25 (.pointer (some ⟨b,0,none⟩))).run prog v=.ok (.agg (nw 9 a)) v
   rw[loadLo v b (by rw[h3,nw_size]),h3,ext_lo,elo]
  ·show (loadS 25 (.pointer (some ⟨b,9,none⟩))).run prog v=.ok (.agg (nw 9 c)) v
   rw[loadHi v b (by rw[h3,nw_size]),h3,ext_hi,ehi]
 by_cases hr:a<m∧c<m
 ·rw[if_pos hr,if_pos hr];exact mfor_yes i m 2 h1 h2 hm hmM (by decide) (fun j=>match j with|0=>a|_=>c) (fun j _=>match j with|0=>hr.1|_+1=>hr.2) b w hl
 ·rw[if_neg hr,if_neg hr]
  by_cases hx:a<m
  ·exact mfor_off i m 2 h1 h2 hm hmM (by decide) (fun j=>match j with|0=>a|_=>c) 1 (by decide) (Nat.le_of_not_lt fun h=>hr ⟨hx,h⟩) hc (fun j h=>by
    obtain rfl:j=0:=by omega
    exact hx) b w hl
  ·exact mfor_off i m 2 h1 h2 hm hmM (by decide) (fun j=>match j with|0=>a|_=>c) 0 (by decide) (Nat.le_of_not_lt hx) ha (fun j h=>absurd h (Nat.not_lt_zero j)) b w hl
end
section
def fnT(n:Nat):Value:=.func (.func n) #[] #[]
def tab2:Array Value :=#[fnT 153,fnT 154,fnT 155]
def tab1:Array Value :=#[fnT 156,fnT 157]
theorem tab2_is : #[Value.func (.func 153) #[] #[],Value.func (.func 154) #[] #[],Value.func (.func 155) #[] #[]]=tab2:=rfl
theorem tab1_is : #[Value.func (.func 156) #[] #[],Value.func (.func 157) #[] #[]]=tab1:=rfl
theorem storeT2_is:StI 199:=fun _ _=>rfl
theorem storeT1_is:StI 202:=fun _ _=>rfl
theorem storeT2(w:World)(b:Nat)(hs:(blk w b).size=3)(hf:frz w b=(0,0)):(storeS 199 (.pointer (some ⟨b,0,none⟩)) (.agg tab2)).run prog w=.ok () (setBlk w b tab2):=
 storeS_run 3 (by decide) (by kernel_rfl) w b tab2 rfl (by simp[tab2,fnT,Value.oneCell']) hs hf
theorem storeT1(w:World)(b:Nat)(hs:(blk w b).size=2)(hf:frz w b=(0,0)):(storeS 202 (.pointer (some ⟨b,0,none⟩)) (.agg tab1)).run prog w=.ok () (setBlk w b tab1):=
 storeS_run 2 (by decide) (by kernel_rfl) w b tab1 rfl (by simp[tab1,fnT,Value.oneCell']) hs hf
theorem idx2_0(w:World):(Instr.index 199 (.agg tab2) (.int .i64 0)).run prog w=.ok (.func (.func 153) #[] #[]) w:=by kernel_rfl
theorem idx2_1(w:World):(Instr.index 199 (.agg tab2) (.int .i64 1)).run prog w=.ok (.func (.func 154) #[] #[]) w:=by kernel_rfl
theorem idx2_2(w:World):(Instr.index 199 (.agg tab2) (.int .i64 2)).run prog w=.ok (.func (.func 155) #[] #[]) w:=by kernel_rfl
theorem idx1_0(w:World):(Instr.index 202 (.agg tab1) (.int .i64 0)).run prog w=.ok (.func (.func 156) #[] #[]) w:=by kernel_rfl
theorem idx1_1(w:World):(Instr.index 202 (.agg tab1) (.int .i64 1)).run prog w=.ok (.func (.func 157) #[] #[]) w:=by kernel_rfl
attribute [local go_sem ↓] uz3
attribute [local go_sem] uz4 ones_nw
attribute [local go_sem ↓] storeT2_is storeT1_is
attribute [local go_sem] storeT2 storeT1 tab2_is tab1_is
theorem ofTwo_any(w:World):
 Cg 151 #[] w (.agg tab2):=by
 go_enter func151,ntmps151
 go_wp2
 refine bodyPost_ret (res_one results151 (rd_cell 3 underlying199 rfl (by kernel_rfl) (by rfl) ?_ rfl)) rfl ⟨rfl,grA⟩;simp[go_sem]
theorem ofOne_any(w:World):
 Cg 152 #[] w (.agg tab1):=by
 go_enter func152,ntmps152
 go_wp2
 refine bodyPost_ret (res_one results152 (rd_cell 2 underlying202 rfl (by kernel_rfl) (by rfl) ?_ rfl)) rfl ⟨rfl,grA⟩;simp[go_sem]
end
section
attribute [local go_sem ↓] uz3
attribute [local go_sem] uz4 ones_nw
attribute [local go_sem ↓] uz6 Go.wp_at_zero Go.wp_at_succ
attribute [local go_sem] uz7
theorem finv_some(m a:Nat)(ha:0<a)(ham:a<m)(hM:m<M)(h1:1<m)(hg:Nat.gcd m a=1):
 ∃x,x<m∧a*x%m=1∧∀w,Cg 156 #[.agg (nw 9 m),.agg (nw 9 a)] w (.tuple #[.agg (nw 9 x),.int .i64 0]):=by
 obtain⟨x,hx,hax,hc⟩:=inv_some a m (by omega) h1 hM hg;refine⟨x,hx,hax,fun w=>?_⟩;have HI:Hid _:=hc;have e1:eqN 9 a 0=false:=eqN_no a 0 (by omega) M_pos (by omega);clear hc hx hax ha ham hM h1 hg
 go_enter func156,ntmps156
 go_wp2_with (go_at_call 161;refine(HI.out _).mono ?_;rintro e w' ⟨rfl,g,rfl⟩)
 refine bodyPost_ret (res_two results156 (rd_nat (x:=x) (by rfl) ?_) (rd_tmp (by rfl))) rfl ⟨rfl,grA⟩;simp[go_sem]
end
section
attribute [local go_sem ↓] uz3
attribute [local go_sem] uz4 ones_nw
attribute [local go_sem] loadNat2 loadArr2 loadWide2 loadK_nw ppre_1 ppre_2 ppre_3 ppre_4 ppre_5 ppre_6 ppre_7 ppre_8 ppre_9 ppre_10 ppre_11 ppre_12 ppre_13 ppre_14 ppre_15 ppre_16 ppre_17 ppre_18 ppre_19 ppre_20
attribute [local go_sem ↓] uz6 Go.wp_at_zero Go.wp_at_succ
attribute [local go_sem] uz7
theorem loadMd2(w:World)(b:Nat):(loadS 195 (.pointer (some ⟨b,0,none⟩))).run prog w=loadK 9 (blk w b) (failL prog 195 b w) w:=by
 unfold loadK
 split
 ·rename_i h;exact loadMd w b h
 ·rfl
attribute [local go_sem] loadMd2
end
end
section
def chkY(l:List Oper)(kp:List Kw)(rw:List Nat)(st:List Ent):Bool:=
 ((List.range l.length).all fun j=>rw.contains j || (st.map Ent.j).contains j || (kW kp j).cst != 0)&&(rw.all fun j => !(st.map Ent.j).contains j && !(st.map Ent.i).contains j)
theorem wp_y{P:Program}{l:List Oper}{Q:Exit→Act→World→Prop}{a0:Act}{W:World}(d:Bool){id:Nat}(kp:List Kw)(ex rw:List Nat)(st:List Ent)(ho:ObsW P l kp a0 W ex)(hr:ForY (ObR P l kp a0) rw)(hv:ForY (ObY P l kp a0) st)(hfin:∀x v,Gr W v→(∀j,(kW kp j).ok (x j) v)→NewV W x v st→Q .normal (FW l kp a0 x) v)(hm:(!d || P.follows .mixedOrders)=true:=by kernel_rfl)(hk:(chkW l kp (ExV (ex++rw) st) l.length&&chkV st&&chkY l kp rw st)=true:=by kernel_rfl)(hp:pureL P l kp a0 (ExV (ex++rw) st) l.length=pureR kp (ExV (ex++rw) st) l.length:=by kernel_rfl):(Code.region id l.toArray d).wp P Q a0 W:=by
 rw[Bool.and_eq_true]at hk;obtain⟨hk,hy⟩:=hk;simp only[chkY,Bool.and_eq_true,List.all_eq_true,Bool.not_eq_true',List.mem_range]at hy;obtain⟨hy1,hy2⟩:=hy
 refine wp_g d kp ex rw st ho hr (fun e he=>hv.at e he) (fun e he j hj=>?_) (fun j hj e he=>?_) hfin hm hk hp
 ·have h8:=hy1 j hj;simp only[Bool.or_eq_true,bne_iff_ne,ne_eq]at h8
  rcases h8 with (h8|h8)|h8
  ·exact .inl (List.contains_iff_mem.1 h8)
  ·obtain⟨e',he',rfl⟩:=List.mem_map.1 (List.contains_iff_mem.1 h8);rw[(hv.at e' he').ka];exact .inr fka
  ·exact .inr fun y w b d _ _=>(kW kp j).hc h8 _ _
 ·obtain⟨g1,g2⟩:=hy2 j hj
  refine⟨fun h=>?_,fun h=>?_⟩
  ·rw[List.contains_iff_mem.2 (h▸List.mem_map_of_mem he)]at g1
   cases g1
  ·rw[List.contains_iff_mem.2 (h▸List.mem_map_of_mem he)]at g2
   cases g2
end
section
structure Sto where
 i:Nat
 t:TypeId
 b:Nat
 c:Array Value
def ObS(P:Program)(l:List Oper)(kp:List Kw)(a0:Act)(I:World→Prop)(e:Sto):Prop:=
 (∀v,I v→(exI (.store e.t (.const (.pointer (some ⟨e.b,0,none⟩))) (.const (.agg e.c)))).run P v=.ok .skip (setBlk v e.b e.c)∧I (setBlk v e.b e.c)∧0<(blk v e.b).size∧e.b<v.heap.size) ∧
 kW kp e.i=.u∧runW l kp a0 e.i=fun _=>some (exI (.store e.t (.const (.pointer (some ⟨e.b,0,none⟩))) (.const (.agg e.c))))
theorem ObS.mk{P:Program}{l:List Oper}{kp:List Kw}{a0:Act}{I:World→Prop}{e:Sto}(h:∀v,I v→(exI (.store e.t (.const (.pointer (some ⟨e.b,0,none⟩))) (.const (.agg e.c)))).run P v=.ok .skip (setBlk v e.b e.c)∧I (setBlk v e.b e.c)∧0<(blk v e.b).size∧e.b<v.heap.size)(ku:kW kp e.i=.u:=by rfl)(hr:runW l kp a0 e.i=fun _=>some (exI (.store e.t (.const (.pointer (some ⟨e.b,0,none⟩))) (.const (.agg e.c)))):=by kernel_rfl):ObS P l kp a0 I e:=⟨h,ku,hr⟩
abbrev w0:Wt:=fun _=>(none,0)
def ExS(ex:List Nat)(st:List Sto):List Nat:=ex++st.map Sto.i
def chkS(l:List Oper)(kp:List Kw):Bool:=(List.range l.length).all fun j=>(kW kp j).cst != 0
section
variable {P:Program} {l:List Oper} {Q:Exit→Act→World→Prop} {a0:Act} {kp:List Kw} {ex:List Nat} {st:List Sto} {I:World→Prop}
def RS3(I:World→Prop)(kp:List Kw)(st:List Sto)(listed:Array Bool)(vals:Nat→Value)(w:World):Prop:=
 I w∧(∀j,listed.getD j false=true→vals j=(kW kp j).val w0)∧∀e,e∈st→listed.getD e.i false=true→blk w e.b=e.c
theorem stepU(d:Bool)(hk:chkW l kp (ExS ex st) l.length=true)(hp:pureL P l kp a0 (ExS ex st) l.length=pureR kp (ExS ex st) l.length)(hc:chkS l kp=true)(hI:∀v v',I v→Gr v v'→I v')(ho:∀v,I v→ObsW P l kp a0 v ex)(hs:ForY (ObS P l kp a0 I) st)(hi1:(st.map Sto.i).Nodup)(hb1:(st.map Sto.b).Nodup)(hv1:∀i,i<l.length→i ∉ st.map Sto.i→∀y,(kW kp i).val y=(kW kp i).val w0):StepR d P l Q a0 (RS3 I kp st):=by
 intro listed vals a w i o hz hR hF hi hl hd _;obtain⟨h1,h2,h3⟩:=hR
 have hil:i<l.length:=by simpa using (Array.getElem?_eq_some_iff.1 hi).1
 have hlen:=(chk_u hk).2;have hoi:=opW_is hi
 have hcs:∀j,j<l.length→(kW kp j).cst≠0:=fun j hj=>by
  have:=List.all_eq_true.1 hc j (List.mem_range.2 hj)
  simpa using this
 have hlj:∀j,listed.getD j false=true→j<l.length:=fun j hj=>by
  rcases Nat.lt_or_ge j listed.size with h|h
  ·rw[hz]at h;simpa using h
  ·simp[h]at hj
 obtain⟨x,hx,hev,hwn⟩:=atW hk (fun j hj=>(kz_W (by have:=hlj j hj;omega) _ _).2 ⟨w0,h2 j hj,(kW kp j).hc (hcs j (hlj j hj)) _ _⟩) hF hi hil hd;rw[hwn]
 by_cases hB:∃e,e∈st∧e.i=i
 ·obtain⟨e,he,rfl⟩:=hB;obtain⟨ob,ku,hr⟩:=hs.at e he;obtain⟨g1,g2⟩:=run_W hr;obtain⟨o1,o2,o3,o4⟩:=ob w h1
  refine Or.inl ⟨g1,wp_skip (by rw[hev,←hoi,g2];exact o1) ⟨_,rfl,o2,fun j hj=>?_,fun e' he' hle=>?_⟩⟩
  ·by_cases ee:j=e.i
   ·subst ee;rw[ku];simp only[upd,if_true];rfl
   ·rw[getD_set_other _ _ _ (Ne.symm ee)]at hj;simp only[upd,ee,if_false];exact h2 j hj
  ·by_cases ee:e'.i=e.i
   ·obtain rfl:=map_one Sto.i hi1 e' e he' he ee;exact blk_setBlk _ _ _ o3
   ·rw[getD_set_other _ _ _ (Ne.symm ee)]at hle;rw[blk_other _ _ _ _ fun eb=>ee (by rw[map_one Sto.b hb1 e' e he' he eb.symm])];exact h3 e' he' hle
 have hBi:i ∉ st.map Sto.i:=fun h=>by
  obtain⟨e,he,h⟩:=List.mem_map.1 h;exact hB ⟨e,he,h⟩
 have nx:∀v w',Gr w w'→v=(kW kp i).val w0→RS3 I kp st (listed.setIfInBounds i true) (upd vals i v) w':=fun v w' hg hv=>by
  refine⟨hI _ _ h1 hg,fun j hj=>?_,fun e he hle=>?_⟩
  ·by_cases ee:j=i
   ·subst ee;simp only[upd,if_true];exact hv
   ·rw[getD_set_other _ _ _ (Ne.symm ee)]at hj;simp only[upd,ee,if_false];exact h2 j hj
  ·rw[getD_set_other _ _ _ (fun ee=>hB ⟨e,he,ee.symm⟩)]at hle;rw[hg.blk _ ((hs.at e he).1 w h1).2.2.2];exact h3 e he hle
 by_cases hm:i∈ex
 ·obtain⟨g1,g2⟩:=(ho w h1).at i hm x w (Gr.refl _) fun j hj=>(hx j hj).2.2;refine Or.inl ⟨g1,?_⟩;rw[hoi]at g2
  obtain⟨y,w',hrun,hg,hok⟩|⟨f,args,hrun,hc⟩:=g2
  ·exact wp_val _ (by rw[hev];exact hrun) ⟨_,rfl,nx _ _ hg (hv1 i hil hBi y)⟩
  ·refine wp_retz (k:=(kW kp i).kz) (by rw[hev];exact hrun) (hc.mono fun e w' ⟨y,he,hok,hg⟩=>⟨_,he,⟨y,rfl,hok⟩,hg⟩) fun u w' ⟨y,hy,_⟩ hg=>⟨u,rfl,nx _ _ hg (hy.trans (hv1 i hil hBi y))⟩
 ·have hmem:i∈others (ExS ex st) l.length:=by
   refine List.mem_filter.2 ⟨by simpa using hil,?_⟩
   have:i ∉ ExS ex st:=fun h=>by
    rcases List.mem_append.1 h with h|h
    ·exact hm h
    ·exact hBi h
   simpa using this
  have hpi:=List.map_inj_left.1 (congrFun (congrFun hp x) w) i hmem;simp only[resW,expW,hoi]at hpi
  cases hw:wnt l i (FW l kp a0 x) with
  | true=>
   rw[hw]at hpi;refine Or.inl ⟨rfl,?_⟩
   cases h2:(kW kp i).cst==2 with
   | true=>rw[h2]at hpi;cases hpi
   | false=>
    rw[h2]at hpi;exact wp_val _ (by rw[hev];exact Option.some.inj hpi) ⟨_,rfl,nx _ _ (Gr.refl _) (hv1 i hil hBi _)⟩
  | false=>
   rw[hw]at hpi;refine Or.inr ⟨rfl,?_⟩
   cases h2:(kW kp i).cst==2 with
   | true=>exact nx _ _ (Gr.refl _) ((kW kp i).hs (by simpa using h2) _).symm
   | false=>rw[h2]at hpi;cases hpi
theorem wp_u(d:Bool){id:Nat}{W:World}(kp:List Kw)(ex:List Nat)(st:List Sto)(I:World→Prop)(h0:I W)(hI:∀v v',I v→Gr v v'→I v')(ho:∀v,I v→ObsW P l kp a0 v ex)(hs:ForY (ObS P l kp a0 I) st)(hb1:(st.map Sto.b).Nodup)(hfin:∀v,I v→ForY (fun e=>blk v e.b=e.c) st→Q .normal (FW l kp a0 fun _=>w0) v)(hm:(!d || P.follows .mixedOrders)=true:=by kernel_rfl)(hk:(chkW l kp (ExS ex st) l.length&&chkS l kp&&decide (st.map Sto.i).Nodup)=true:=by kernel_rfl)(hp:pureL P l kp a0 (ExS ex st) l.length=pureR kp (ExS ex st) l.length:=by kernel_rfl)(hv:(fun y=>(List.range l.length).map fun i=>(kW kp i).val y)=fun _=>(List.range l.length).map fun i=>(kW kp i).val w0:=by kernel_rfl):(Code.region id l.toArray d).wp P Q a0 W:=by
 simp only[Bool.and_eq_true,decide_eq_true_eq]at hk;obtain⟨⟨hk,hc⟩,hi1⟩:=hk;obtain⟨hu,hlen⟩:=chk_u hk
 refine wp_region_ord d (fun h=>by subst h;simpa using hm) hu (RS3 I kp st) (fun listed w' hn hg=>?_) (stepU d hk hp hc hI ho hs hi1 hb1 fun i hi _ y=>List.map_inj_left.1 (congrFun hv y) i (List.mem_range.2 hi)) fun listed vals a v hall hR hF=>?_
 ·have hx:∀(i:Nat) (p:Prop),listed.getD i false=true→p:=fun i p h=>by rw[hn]at h;cases h
  exact⟨hI _ _ h0 hg,fun j hj=>hx j _ hj,fun e _ h=>hx e.i _ h⟩
 ·rw[hF.final hu hall];obtain⟨h1,h2,h3⟩:=hR;rw[putFrom_congr (vals':=wvals kp fun _=>w0) l 0 a0 fun j o hj _=>by rw[Nat.zero_add];exact h2 j (hall j (by simpa using (List.getElem?_eq_some_iff.1 hj).1))];refine hfin v h1 ?_
  have:∀e,e∈st→blk v e.b=e.c:=fun e he=>by
   rcases Nat.lt_or_ge e.i l.length with h|h
   ·exact h3 e he (hall e.i (by simpa using h))
   ·obtain⟨-,-,hr⟩:=hs.at e he;have hq:=(run_W (x:=fun _=>w0) hr).2;rw[opW,List.getElem?_eq_none h]at hq
    cases hq
  clear h3 hs hi1 hb1 hk hc hp ho hfin
  induction st with
  | nil=>trivial
  | cons e r ih=>exact⟨this e (List.mem_cons_self ..),ih fun e' he'=>this e' (List.mem_cons_of_mem _ he')⟩
end
theorem ObW.kf{P:Program}{l:List Oper}{a0:Act}{W:World}{kp:List Kw}{i:Nat}{f:FuncId}(args:(Nat→Wt)→Array Value)(hcf:∀x v,(callFunc f (args x)).run P v=.ok (.enter f (args x)) v)(hc:∀x v,Gr W v→(∀j,wts l i j=true→(kW kp j).ok (x j) v)→Calls P f (args x) v (RtW (kW kp i) v))(hr:(fun x v=>resW P l kp a0 x v i)=fun x v=>some ((callFunc f (args x)).run P v):=by kernel_rfl):ObW P l kp a0 W i:=
 ObW.k args hc (by rw[hr];funext x v;rw[hcf x v])
def Vs(v:World)(b n:Nat):Prop:=(blk v b).size=n∧frz v b=(0,0)∧b+1≤v.heap.size
theorem Vr.vs{v:World}{b n:Nat}{c:Array Value}(h:Vr v b c)(hn:c.size=n):Vs v b n:=⟨by rw[h.h];exact hn,h.f,h.p⟩
theorem Vs.gr{v v':World}{b n:Nat}(h:Vs v b n)(g:Gr v v'):Vs v' b n:=⟨by rw[g.blk _ h.2.2];exact h.1,by rw[g.frz _ h.2.2];exact h.2.1,Nat.le_trans h.2.2 g.below.size⟩
theorem Vs.set{v:World}{b n:Nat}(h:Vs v b n){d:Array Value}(hd:d.size=n)(hn:0<n):Vs (setBlk v b d) b n:=⟨by rw[blk_setBlk _ _ _ (by rw[h.1];exact hn)];exact hd,by rw[frz_setBlk];exact h.2.1,by rw[size_setBlk];exact h.2.2⟩
end
section
attribute [local go_sem ↓] uz1
attribute [local go_sem] uz2
section
def bslF(t:TypeId)(n:Nat)(p:Array (Nat×Value)):Sem Value:=Instr.buildSlice t n p
theorem bslN_is(n:Nat)(p:Array (Nat×Value)):Instr.buildSlice 185 n p=bslF 185 n p:=rfl
theorem bsl2(a b:Nat)(w:World):(bslF 185 2 #[(0,.agg (nw 9 a)),(1,.agg (nw 9 b))]).run prog w=.ok (.slice (some ⟨w.heap.size,0,none⟩) 2 2) (w.alloc (.cells (nw 9 a++nw 9 b) 25)):=by kernel_rfl
theorem bsl1(a:Nat)(w:World):(bslF 185 1 #[(0,.agg (nw 9 a))]).run prog w=.ok (.slice (some ⟨w.heap.size,0,none⟩) 1 1) (w.alloc (.cells (nw 9 a) 25)):=by kernel_rfl
attribute [local go_sem ↓] uz3
attribute [local go_sem] uz4 ones_nw
attribute [local go_sem] loadNat2 loadArr2 loadWide2 loadK_nw ppre_1 ppre_2 ppre_3 ppre_4 ppre_5 ppre_6 ppre_7 ppre_8 ppre_9 ppre_10 ppre_11 ppre_12 ppre_13 ppre_14 ppre_15 ppre_16 ppre_17 ppre_18 ppre_19 ppre_20
attribute [local go_sem ↓] loadMd_is storeMd_is buildMd_is bslN_is Go.wp_at_zero Go.wp_at_succ
attribute [local go_sem] loadMd loadMd2 storeMd buildMd0 buildMd1 blk_other idx2_0 idx2_1 idx2_2 idx1_0 idx1_1 bsl2 bsl1
theorem onTwo_no(k x:Int)(a b E:Nat)(hE:E≠0)(HM:∀w p,blk w p=nw 9 a++nw 9 b→Pre (p+1) w.heap.size→Cg 150 #[.int .i64 x,.slice (some ⟨p,0,none⟩) 2 2] w (.tuple #[.agg (nw 9 0),.int .i64 (E:Int)]))(w:World):
 Cg 143 #[.int .i64 k,.int .i64 x,.agg (nw 9 a),.agg (nw 9 b)] w (.tuple #[.agg (nw 9 0),.int .i64 (E:Int)]):=by
 have HM':Hid _:=HM
 go_enter func143,ntmps143
 go_wp2_with (go_at_call 150;refine(HM'.out _ _ ?_ ?_).mono ?_;· simp[go_sem]
              ·simp[go_sem]
              rintro e w' ⟨rfl,g,rfl⟩)
 refine bodyPost_ret (res_two results143 (rd_nat (by rfl) ?_) (rd_tmp (by rfl))) rfl ⟨rfl,grA⟩;simp[go_sem]
theorem onTwo_of(k:Int)(f:Nat)(x:Int)(m a b R:Nat)(hid:∀w,(Instr.index 199 (.agg tab2) (.int .i64 k)).run prog w=.ok (.func (.func f) #[] #[]) w)(hcf:∀w,(callFunc f #[.agg (nw 9 m),.agg (nw 9 a),.agg (nw 9 b)]).run prog w=.ok (.enter f #[.agg (nw 9 m),.agg (nw 9 a),.agg (nw 9 b)]) w)(HM:∀w p,blk w p=nw 9 a++nw 9 b→Pre (p+1) w.heap.size→Cg 150 #[.int .i64 x,.slice (some ⟨p,0,none⟩) 2 2] w (.tuple #[.agg (nw 9 m),.int .i64 0]))(HF:∀w,Calls prog f #[.agg (nw 9 m),.agg (nw 9 a),.agg (nw 9 b)] w fun e w'=>e=.returned (.agg (nw 9 R))∧Gr w w')(w:World):
 Cg 143 #[.int .i64 k,.int .i64 x,.agg (nw 9 a),.agg (nw 9 b)] w (.tuple #[.agg (nw 9 R),.int .i64 0]):=by
 have HM':Hid _:=HM;have HF':Hid _:=HF;have HT:Hid _:=ofTwo_any
 go_enter func143,ntmps143
 go_upto_region 4 with (go_at_call 150;refine(HM'.out _ _ ?_ ?_).mono ?_;· simp[go_sem]
                        ·simp[go_sem]
                        rintro e w' ⟨rfl,g,rfl⟩)
 obtain⟨b10,hb10⟩:=exl (w.heap.size+1+1+1+1+g.os.length);rw[hb10]
 refine gen_w (fun v=>Hid (Gr w v∧Vr v w.heap.size (nw 9 a)∧Vr v (w.heap.size+1) (nw 9 b)∧Vr v (w.heap.size+1+1) (nw 9 0)∧Vr v b10 (nw 9 m))) ?_ ?_
 ·subst hb10;exact⟨grA,⟨by simp[go_sem],by simp[go_sem],by simp[go_sem]⟩,⟨by simp[go_sem],by simp[go_sem],by simp[go_sem]⟩,⟨by simp[go_sem],by simp[go_sem],by simp[go_sem]⟩,⟨by simp[go_sem],by simp[go_sem],by simp[go_sem]⟩⟩
 intro v0 HV;obtain⟨G,c1,c2,c3,c4⟩:=HV.out;refine wp_u true [.c (.agg tab2),.c (.int .i64 k),.c (.func (.func f) #[] #[]),.c (.agg (nw 9 m)),.c (.agg (nw 9 a)),.c (.agg (nw 9 b)),.c (.agg (nw 9 R)),.u,.c (.int .i64 0)] [0,2,3,4,5,6] [⟨7,25,w.heap.size+1+1,nw 9 R⟩] (fun v=>Gr w v∧Vr v (w.heap.size) (nw 9 a)∧Vr v (w.heap.size+1) (nw 9 b)∧Vr v (b10) (nw 9 m)∧Vs v (w.heap.size+1+1) 9) ⟨G,c1,c2,c4,c3.vs (nw_size _ _)⟩ (fun _ _ ⟨G,a1,a2,a4,s3⟩ g=>⟨G.trans g,a1.gr g,a2.gr g,a4.gr g,s3.gr g⟩) ?hs ?hu (by simp) ?hf
 case hs=>
  rintro vv ⟨G,a1,a2,a4,s3⟩;exact⟨.z HT.out,.s (.index 199 (.const (.agg tab2)) (.const (.int .i64 k))) rfl fun vv hg=>by simp[go_sem,exI,hid],.g 195 0 a4 rfl,.g 25 0 a1 rfl,.g 25 0 a2 rfl,.kf (fun _ =>#[.agg (nw 9 m),.agg (nw 9 a),.agg (nw 9 b)]) (fun _=>hcf) fun yy vv hg hh=>RtW.of_c (Rt.c (HF'.out _)),⟨⟩⟩
 case hu=>
  refine .cons (.mk fun v ⟨G,a1,a2,a4,s3⟩=>?_) .nil;have H:=s3.1;have F:=s3.2.1;exact⟨by dsimp only;simp[go_sem,exI,H,F],⟨gr_setNew G (by dsimp only;omega),a1.other (by dsimp only;omega),a2.other (by dsimp only;omega),a4.other (by dsimp only;omega),s3.set (nw_size _ _) (by decide)⟩,by dsimp only;rw[H];decide,s3.2.2⟩
 rintro v9 ⟨G9,-,-,-,-⟩ ⟨hb,-⟩;simp only[fzw]
 go_wp2_with fail
 exact bodyPost_ret (res_two results143 (rd_nat (by rfl) hb) (rd_tmp (by rfl))) rfl ⟨rfl,G9⟩
theorem onOne_of(k:Int)(f:Nat)(x:Int)(m a R:Nat)(E:Int)(hid:∀w,(Instr.index 202 (.agg tab1) (.int .i64 k)).run prog w=.ok (.func (.func f) #[] #[]) w)(hcf:∀w,(callFunc f #[.agg (nw 9 m),.agg (nw 9 a)]).run prog w=.ok (.enter f #[.agg (nw 9 m),.agg (nw 9 a)]) w)(HM:∀w p,blk w p=nw 9 a→Pre (p+1) w.heap.size→Cg 150 #[.int .i64 x,.slice (some ⟨p,0,none⟩) 1 1] w (.tuple #[.agg (nw 9 m),.int .i64 0]))(HF:∀w,Calls prog f #[.agg (nw 9 m),.agg (nw 9 a)] w fun e w'=>e=.returned (.tuple #[.agg (nw 9 R),.int .i64 E])∧Gr w w')(w:World):
 Cg 149 #[.int .i64 k,.int .i64 x,.agg (nw 9 a)] w (.tuple #[.agg (nw 9 R),.int .i64 E]):=by
 have HM':Hid _:=HM;have HF':Hid _:=HF;have HT:Hid _:=ofOne_any
 go_enter func149,ntmps149
 go_upto_region 4 with (go_at_call 150;refine(HM'.out _ _ ?_ ?_).mono ?_;· simp[go_sem]
                        ·simp[go_sem]
                        rintro e w' ⟨rfl,g,rfl⟩)
 obtain⟨b10,hb10⟩:=exl (w.heap.size+1+1+1+g.os.length);rw[hb10]
 refine gen_w (fun v=>Hid (Gr w v∧Vr v w.heap.size (nw 9 a)∧Vr v (w.heap.size+1) (nw 9 0)∧Vr v b10 (nw 9 m))) ?_ ?_
 ·subst hb10;exact⟨grA,⟨by simp[go_sem],by simp[go_sem],by simp[go_sem]⟩,⟨by simp[go_sem],by simp[go_sem],by simp[go_sem]⟩,⟨by simp[go_sem],by simp[go_sem],by simp[go_sem]⟩⟩
 intro v0 HV;obtain⟨G,c1,c3,c4⟩:=HV.out;refine wp_u true [.c (.agg tab1),.c (.int .i64 k),.c (.func (.func f) #[] #[]),.c (.agg (nw 9 m)),.c (.agg (nw 9 a)),.c (.tuple #[.agg (nw 9 R),.int .i64 E]),.c (.agg (nw 9 R)),.c (.int .i64 E),.u,.c (.int .i64 E)] [0,2,3,4,5] [⟨8,25,w.heap.size+1,nw 9 R⟩] (fun v=>Gr w v∧Vr v (w.heap.size) (nw 9 a)∧Vr v (b10) (nw 9 m)∧Vs v (w.heap.size+1) 9) ⟨G,c1,c4,c3.vs (nw_size _ _)⟩ (fun _ _ ⟨G,a1,a4,s3⟩ g=>⟨G.trans g,a1.gr g,a4.gr g,s3.gr g⟩) ?hs ?hu (by simp) ?hf
 case hs=>
  rintro vv ⟨G,a1,a4,s3⟩;exact⟨.z HT.out,.s (.index 202 (.const (.agg tab1)) (.const (.int .i64 k))) rfl fun vv hg=>by simp[go_sem,exI,hid],.g 195 0 a4 rfl,.g 25 0 a1 rfl,.kf (fun _ =>#[.agg (nw 9 m),.agg (nw 9 a)]) (fun _=>hcf) fun yy vv hg hh=>RtW.of_c (Rt.c (HF'.out _)),⟨⟩⟩
 case hu=>
  refine .cons (.mk fun v ⟨G,a1,a4,s3⟩=>?_) .nil;have H:=s3.1;have F:=s3.2.1;exact⟨by dsimp only;simp[go_sem,exI,H,F],⟨gr_setNew G (by dsimp only;omega),a1.other (by dsimp only;omega),a4.other (by dsimp only;omega),s3.set (nw_size _ _) (by decide)⟩,by dsimp only;rw[H];decide,s3.2.2⟩
 rintro v9 ⟨G9,-,-,-⟩ ⟨hb,-⟩;simp only[fzw]
 go_wp2_with fail
 exact bodyPost_ret (res_two results149 (rd_nat (by rfl) hb) (rd_tmp (by rfl))) rfl ⟨rfl,G9⟩
end
end
section
theorem pN_bd(i:Nat)(h1:1≤i)(h2:i≤15):1<pN i∧pN i+pN i≤M∧pN i%2=1:=by
 obtain rfl|rfl|rfl|rfl|rfl|rfl|rfl|rfl|rfl|rfl|rfl|rfl|rfl|rfl|rfl:i=1∨i=2∨i=3∨i=4∨i=5∨i=6∨i=7∨i=8∨i=9∨i=10∨i=11∨i=12∨i=13∨i=14∨i=15:=by omega
 all_goals exact⟨by decide +kernel,by decide +kernel,by decide +kernel⟩
end
section
attribute [local go_sem ↓] uz1
attribute [local go_sem] uz2
section
attribute [local go_sem ↓] uz3
attribute [local go_sem] uz4 ones_nw
attribute [local go_sem ↓] loadMd_is storeMd_is buildMd_is
attribute [local go_sem] loadMd storeMd buildMd0 buildMd1
theorem fAdd_of(x:Int)(a b R:Nat)(E:Int)(HF:∀w,Cg 143 #[.int .i64 0,.int .i64 x,.agg (nw 9 a),.agg (nw 9 b)] w (.tuple #[.agg (nw 9 R),.int .i64 E]))(w:World):
 Cg 119 #[.int .i64 x,.agg (nw 9 a),.agg (nw 9 b)] w (.tuple #[.agg (nw 9 R),.int .i64 E]):=by
 have HF':Hid _:=HF
 go_enter func119,ntmps119
 go_wp2_with (go_at_call 143;refine(HF'.out _).mono ?_;rintro e w' ⟨rfl,g,rfl⟩)
 refine bodyPost_ret (res_two results119 (rd_nat (by rfl) ?_) (rd_tmp (by rfl))) rfl ⟨rfl,grA⟩;simp[go_sem]
theorem fAdd_range(i a b:Nat)(h1:1≤i)(h2:i≤15)(ha:a<M)(hb:b<M)(h:¬(a<pN i∧b<pN i))(w:World):
 Cg 119 #[.int .i64 (i:Int),.agg (nw 9 a),.agg (nw 9 b)] w (.tuple #[.agg (nw 9 0),.int .i64 501]):=
 fAdd_of i a b 0 501 (fun w=>onTwo_no 0 i a b 501 (by decide) (fun w p hp hq=>by
  have hB:=pN_bd i h1 h2;have:=mfor_two i (pN i) a b p (mvN a b) h1 h2 rfl (by omega) ha hb rfl w (by rw[hp];exact app_mv a b ha) hq;rw[if_neg h,if_neg h]at this
  exact this) w) w
theorem fAdd_ok(i a b:Nat)(h1:1≤i)(h2:i≤15)(ha:a<pN i)(hb:b<pN i)(w:World):
 Cg 119 #[.int .i64 (i:Int),.agg (nw 9 a),.agg (nw 9 b)] w (.tuple #[.agg (nw 9 ((a+b)%pN i)),.int .i64 0]):=by
 have hB:=pN_bd i h1 h2;refine fAdd_of i a b _ 0 (fun w=>onTwo_of 0 153 i (pN i) a b _ idx2_0 (fun w=>by kernel_rfl) (fun w p hp hq=>?_) (fun w=>fadd_any (pN i) a b ha hb hB.2.1 w) w) w;have:=mfor_two i (pN i) a b p (mvN a b) h1 h2 rfl (by omega) (by omega) (by omega) rfl w (by rw[hp];exact app_mv a b (by omega)) hq;rw[if_pos ⟨ha,hb⟩,if_pos ⟨ha,hb⟩]at this;exact this
theorem fSub_of(x:Int)(a b R:Nat)(E:Int)(HF:∀w,Cg 143 #[.int .i64 1,.int .i64 x,.agg (nw 9 a),.agg (nw 9 b)] w (.tuple #[.agg (nw 9 R),.int .i64 E]))(w:World):
 Cg 148 #[.int .i64 x,.agg (nw 9 a),.agg (nw 9 b)] w (.tuple #[.agg (nw 9 R),.int .i64 E]):=by
 have HF':Hid _:=HF
 go_enter func148,ntmps148
 go_wp2_with (go_at_call 143;refine(HF'.out _).mono ?_;rintro e w' ⟨rfl,g,rfl⟩)
 refine bodyPost_ret (res_two results148 (rd_nat (by rfl) ?_) (rd_tmp (by rfl))) rfl ⟨rfl,grA⟩;simp[go_sem]
theorem fSub_ok(i a b:Nat)(h1:1≤i)(h2:i≤15)(ha:a<pN i)(hb:b<pN i)(w:World):
 Cg 148 #[.int .i64 (i:Int),.agg (nw 9 a),.agg (nw 9 b)] w (.tuple #[.agg (nw 9 ((a+pN i-b)%pN i)),.int .i64 0]):=by
 have hB:=pN_bd i h1 h2;refine fSub_of i a b _ 0 (fun w=>onTwo_of 1 154 i (pN i) a b _ idx2_1 (fun w=>by kernel_rfl) (fun w p hp hq=>?_) (fun w=>fsub_any (pN i) a b ha hb hB.2.1 w) w) w;have:=mfor_two i (pN i) a b p (mvN a b) h1 h2 rfl (by omega) (by omega) (by omega) rfl w (by rw[hp];exact app_mv a b (by omega)) hq;rw[if_pos ⟨ha,hb⟩,if_pos ⟨ha,hb⟩]at this;exact this
theorem fMul_of(x:Int)(a b R:Nat)(E:Int)(HF:∀w,Cg 143 #[.int .i64 2,.int .i64 x,.agg (nw 9 a),.agg (nw 9 b)] w (.tuple #[.agg (nw 9 R),.int .i64 E]))(w:World):
 Cg 118 #[.int .i64 x,.agg (nw 9 a),.agg (nw 9 b)] w (.tuple #[.agg (nw 9 R),.int .i64 E]):=by
 have HF':Hid _:=HF
 go_enter func118,ntmps118
 go_wp2_with (go_at_call 143;refine(HF'.out _).mono ?_;rintro e w' ⟨rfl,g,rfl⟩)
 refine bodyPost_ret (res_two results118 (rd_nat (by rfl) ?_) (rd_tmp (by rfl))) rfl ⟨rfl,grA⟩;simp[go_sem]
theorem fMul_ok(i a b:Nat)(h1:1≤i)(h2:i≤15)(ha:a<pN i)(hb:b<pN i)(w:World):
 Cg 118 #[.int .i64 (i:Int),.agg (nw 9 a),.agg (nw 9 b)] w (.tuple #[.agg (nw 9 (a*b%pN i)),.int .i64 0]):=by
 have hB:=pN_bd i h1 h2;refine fMul_of i a b _ 0 (fun w=>onTwo_of 2 155 i (pN i) a b _ idx2_2 (fun w=>by kernel_rfl) (fun w p hp hq=>?_) (fun w=>fmul_any (pN i) a b (by omega) (by omega) (by omega) (by omega) w) w) w;have:=mfor_two i (pN i) a b p (mvN a b) h1 h2 rfl (by omega) (by omega) (by omega) rfl w (by rw[hp];exact app_mv a b (by omega)) hq;rw[if_pos ⟨ha,hb⟩,if_pos ⟨ha,hb⟩]at this;exact this
theorem fInv_of(x:Int)(a R:Nat)(E:Int)(HF:∀w,Cg 149 #[.int .i64 0,.int .i64 x,.agg (nw 9 a)] w (.tuple #[.agg (nw 9 R),.int .i64 E]))(w:World):
 Cg 125 #[.int .i64 x,.agg (nw 9 a)] w (.tuple #[.agg (nw 9 R),.int .i64 E]):=by
 have HF':Hid _:=HF
 go_enter func125,ntmps125
 go_wp2_with (go_at_call 149;refine(HF'.out _).mono ?_;rintro e w' ⟨rfl,g,rfl⟩)
 refine bodyPost_ret (res_two results125 (rd_nat (by rfl) ?_) (rd_tmp (by rfl))) rfl ⟨rfl,grA⟩;simp[go_sem]
theorem mfor_ok10(i a:Nat)(h1:1≤i)(h2:i≤15)(ha:a<pN i)(w:World)(p:Nat)(hp:blk w p=nw 9 a)(hq:Pre (p+1) w.heap.size):
 Cg 150 #[.int .i64 (i:Int),.slice (some ⟨p,0,none⟩) 1 1] w (.tuple #[.agg (nw 9 (pN i)),.int .i64 0]):=by
 have hB:=pN_bd i h1 h2;have:=mfor_one i (pN i) a p h1 h2 rfl (by omega) (by omega) w hp hq;rw[if_pos ha,if_pos ha]at this;exact this
theorem fInv_ok(i a:Nat)(h1:1≤i)(h2:i≤15)(h0:0<a)(ha:a<pN i)(hg:Nat.gcd (pN i) a=1):
 ∃x,x<pN i∧a*x%pN i=1∧∀w,Cg 125 #[.int .i64 (i:Int),.agg (nw 9 a)] w (.tuple #[.agg (nw 9 x),.int .i64 0]):=by
 have hB:=pN_bd i h1 h2;obtain⟨x,hx,hax,hc⟩:=finv_some (pN i) a h0 ha (by omega) hB.1 hg;exact⟨x,hx,hax,fun w=>fInv_of i a x 0 (fun w=>onOne_of 0 156 i (pN i) a x 0 idx1_0 (fun w=>by kernel_rfl) (fun w p hp hq=>mfor_ok10 i a h1 h2 ha w p hp hq) hc w) w⟩
end
section
attribute [local go_sem] ppre_1 ppre_2 ppre_3
def ws(l:List Nat):Array Value:=(l.map fun x:Nat=>Value.int .u64 (x:Int)).toArray
def numW(l:List Nat):Nat:=l.foldl (fun a x=>a*18446744073709551616+x) 0
theorem ws_get(l:List Nat)(j x:Nat)(h:l[j]? = some x):(ws l)[j]? = some (.int .u64 (x:Int)):=by simp[ws,h]
theorem numW_take(l:List Nat)(j x:Nat)(h:l[j]? = some x):numW (l.take (j+1))=numW (l.take j)*18446744073709551616+x:=by
 unfold numW;rw[List.take_add_one,h,List.foldl_append]
 rfl
theorem put_word(N x q:Nat):N*pw (q+1)%pw q+x*pw q+N*pw (q+1)/pw (q+1)*pw (q+1)=(N*18446744073709551616+x)*pw q:=by
 have h1:N*pw (q+1)%pw q=0:=by
  rw[pow_succ64,Nat.mul_comm (pw q),←Nat.mul_assoc,Nat.mul_mod_left]
 have h2:N*pw (q+1)/pw (q+1)=N:=Nat.mul_div_cancel _ (pw_pos _);rw[h1,h2,Nat.zero_add,pow_succ64,Nat.add_mul,Nat.add_comm,Nat.mul_assoc N,Nat.mul_comm (pw q)]
theorem number_any(l:List Nat)(k b:Nat)(hk:l.length=k)(h9:k≤9)(hw:∀x∈l,x<18446744073709551616)(w:World)(hb:blk w b=ws l)(hp:Pre (b+1) w.heap.size):
 Cg 142 #[.slice (some ⟨b,0,none⟩) k k] w (.agg (nw 9 (numW l))):=by
 have HC:Hid (∀(j x:Nat),l[j]? = some x→w.cell? ⟨b,j,none⟩=some (.int .u64 (x:Int))):=fun j x h=>by rw[cell_blk,hb];exact ws_get l j x h
 have HX:Hid (∀(j x:Nat),l[j]? = some x→x<18446744073709551616):=fun j x h=>hw x (List.mem_of_getElem? h);have HK:Hu (_):=fun _=>hk
 have k0:(0:Int)≤(k:Int):=by omega
 have k9:(k:Int)≤9:=by omega
 have K9:Hu (_):=fun _=>h9;clear hb hw hk h9
 go_enter func142,ntmps142
 go_wp2
 go_loopw [8] (fun i wr=>∃j V:Nat,i=.int .i64 (j:Int)∧Hu (j≤k∧numW (l.take j)*pw (k-j)=V)∧wr=(w.alloc (.cells (nw 9 0) 25)).alloc (.cells (nw 9 V) 25)) (fun i _=>k-(intOf i).toNat)
 case atStart=>exact⟨0,0,rfl,fun _=>⟨Nat.zero_le _,by simp[numW]⟩,rfl⟩
 case round=>
  obtain⟨j,V,rfl,HV,rfl⟩:=hrel
  by_cases hlt:j<k
  ·obtain⟨q,hq⟩:=exl (k-1-j)
   have hj:j<l.length:=by rw[HK.out ()];exact hlt
   obtain⟨x,hx⟩:∃x,l[j]? = some x:=⟨l[j],List.getElem?_eq_getElem hj⟩;have c1:=HC.out j x hx;have x1:=HX.out j x hx
   have j0:(0:Int)≤(j:Int):=by omega
   have hq9:q<9:=by have:=K9.out ();omega
   obtain⟨V',hV'⟩:∃V',numW (l.take (j+1))*pw q=V':=⟨_,rfl⟩
   have s1:(nw 9 V).setIfInBounds q (Value.int .u64 (x:Int))=nw 9 V':=by
    rw[nw_set 9 V q x x1,←hV',←(HV.out ()).2,numW_take l j x hx,show k-j=q+1 by omega,put_word]
   have HV':Hu (j+1≤k∧numW (l.take (j+1))*pw (k-(j+1))=V'):=fun _=>⟨hlt,by rw[←hV',show k-(j+1)=q by omega]⟩
   go_wp2
   go_roundw
   case rel=>exact⟨j+1,V',by go_num,HV',rfl⟩
   case measure=>simp[intOf];omega
  ·have HE:Hu (V=numW l):=fun _=>by
    have:=HV.out ();rw[←this.2,show k-j=0 by omega,pw_zero,Nat.mul_one,List.take_of_length_le (by rw[HK.out ()];omega)]
   go_wp2
   refine bodyPost_ret (res_one results142 (rd_nat (x:=V) (by rfl) ?_)) rfl ⟨by rw[HE.out ()],grA⟩;simp[go_sem]
end
section
theorem lessThree_any(p:Nat)(h3:3≤p)(hp:p<M)(w:World):
 Cg 141 #[.agg (nw 9 p)] w (.agg (nw 9 (p-3))):=by
 obtain⟨d,hd'⟩:∃d,p-3=d:=⟨_,rfl⟩
 have HD:Hid _:=fun w=>by
  have:=sub_any p 3 hp (by omega) w;rw[decide_eq_false (by omega),show p+M-3=d+M by omega,Nat.add_mod_right,Nat.mod_eq_of_lt (show d<M by omega)]at this;exact this
 rw[hd'];clear hd' h3 hp
 go_enter func141,ntmps141
 go_upto_region 1 with fail
 refine gen_v (fun v=>Gr w v∧Vr v w.heap.size (nw 9 p)∧Vr v (w.heap.size+1) (nw 9 0)) ⟨grA,vrA,vrA⟩ ?_;rintro v0 ⟨G,c0,c1⟩;refine wp_v true [.N p,.N 3,.c (.tuple #[.agg (nw 9 d),.bool false]),.c (.tuple #[.agg (nw 9 d),.bool false]),.N d,.F,.a,.u,.F] [0,1,2] [⟨6,7,25,nw 9 0,fun _=>nw 9 d⟩] ⟨.g 25 0 c0 rfl,.z (small_any 3 (by decide)),.z HD.out,⟨⟩⟩ ⟨.k zNat (.t rfl),⟨⟩⟩ fun yw1 v1 hg h1 hV1=>?_;simp only[fzw,Kw.a];obtain⟨⟨N1_6,V1_6⟩,-⟩:=hV1;clear h1;replace G:=G.trans hg;replace c0:=c0.gr hg;replace c1:=c1.gr hg
 go_upto_region 2 with fail
 refine wp_wTS 1 [.N d] [0] ⟨.g 25 0 V1_6 rfl,⟨⟩⟩ (.s 25 (fun yy=>.pointer (some ⟨w.heap.size+1,0,none⟩)) (fun yy=>.agg (nw 9 d)) fun yw2 v2 hg h2=>?_);have HT:=(c1.gr hg).h;have FT:=(c1.gr hg).f;refine⟨setBlk v2 (w.heap.size+1) (nw 9 d),by simp[go_sem,exI,HT,FT],?_⟩;simp only[fzw];replace G:=G.trans hg
 go_wp2_with fail
 exact bodyPost_ret (res_one results141 (rd_nat (by rfl) (blk_setBlk _ _ _ (by rw[HT];decide +kernel)))) rfl ⟨rfl,gr_setNew G (by omega)⟩
end
end
end Go.Proofs.YtghidgcekieljaaGreat