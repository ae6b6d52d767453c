import Derived.Test.YtffhepbppiocbacGreatXTFB
import Derived.Test.YtffhepbppiocbacGreatXTRSub
import Derived.Test.YtffhepbppiocbacGreatXTMixQ
import Derived.Test.YtffhepbppiocbacGreatXTQt
namespace Go.Proofs.YtffhepbppiocbacGreat
open Go.RowKit Go.Proofs.Tryz
set_option maxRecDepth 100000
set_option maxHeartbeats 8000000
section
def mvN(a f:Nat):Nat:=a+f*M
theorem mv_lo(a f:Nat)(ha:a<M):nw 9 (mvN a f)=nw 9 a:=by
 grind [nw_mod,mvN,nw,M,Nat.add_mul_mod_self_right,Nat.mod_eq_of_lt]
theorem mv_hi(a f:Nat)(ha:a<M):nw 9 (mvN a f/pw 9)=nw 9 f:=by
 refine congrArg (nw 9) ?_
 show (a+f*M)/M=f
 rw[Nat.add_mul_div_right _ _ M_pos,Nat.div_eq_of_lt ha,Nat.zero_add]
theorem ext_lo(X:Nat):(nw 18 X).extract 0 9=nw 9 X:=by
 apply Array.ext_getElem?
 intro j
 by_cases hj:j<9
 ·rw[nw_get 9 X j hj,Array.getElem?_extract,if_pos (by rw[nw_size];omega),Nat.zero_add,nw_get 18 X j (by omega)]
 ·rw[Array.getElem?_eq_none (by simp[nw_size];omega),Array.getElem?_eq_none (by rw[nw_size];omega)]
theorem wd_div(X k j:Nat):wd (X/pw k) j=wd X (k+j):=by
 unfold wd;rw[Nat.div_div_eq_div_mul,pw_add]
theorem ext_hi(X:Nat):(nw 18 X).extract 9 18=nw 9 (X/pw 9):=by
 apply Array.ext_getElem?
 intro j
 by_cases hj:j<9
 ·rw[nw_get 9 _ j hj,Array.getElem?_extract,if_pos (by rw[nw_size];omega),nw_get 18 X (9+j) (by omega),wd_div]
 ·rw[Array.getElem?_eq_none (by simp[nw_size];omega),Array.getElem?_eq_none (by rw[nw_size];omega)]
theorem app_mv(a f:Nat)(ha:a<M):nw 9 a++nw 9 f=nw 18 (mvN a f):=by
 have h:=mv_lo a f ha;have d:=mv_hi a f ha;rw[←ext_lo]at h;rw[←ext_hi]at d;rw[←h,←d];have i:(nw 18 (mvN a f)).size=18:=nw_size 18 _;rw[Array.extract_append_extract];have e:(nw 18 (mvN a f)).extract 0 (nw 18 (mvN a f)).size=nw 18 (mvN a f):=Array.extract_size;rw[i]at e
 simpa using e
theorem loadMv_is:LdI 228:=fun _=>rfl
theorem storeMv_is:StI 228:=fun _ _=>rfl
theorem loadMv:LdS 228 18:=ldS
theorem storeMv(s:Nat):StS 228 18 (nw 18 s):=stS (nw_size 18 s) (nw_one 18 s)
theorem part_range(w:World)(b o n:Nat):w.rangeAt b o ((blk w b).extract o (o+n)).toList:=fun j v f=>by
 rw[cell_blk]
 have d:((blk w b).extract o (o+n))[j]? = some v:=by rw[Array.getElem?_toList]at f;exact f
 rw[Array.getElem?_extract]at d
 split at d
 ·exact d
 ·cases d
theorem loadPart(w:World)(b o:Nat)(h:o+9≤(blk w b).size):(loadS 33 (.pointer (some ⟨b,o,none⟩))).run prog w=.ok (.agg ((blk w b).extract o (o+9))) w:=by
 have:=run_loadVar_mid w b o 33 ((blk w b).extract o (o+9)).toList _ (part_range w b o 9) underlying33 rfl (by
  have d:(prog.info? 33).map (·.size)=some 9:=by kernel_rfl
  rw[d];simp
  omega)
 simp only[loadS,Instr.loadAt,Instr.sureAddr,Sem.run_bind,Sem.run_pure,Result.andThen_ok];rw[Array.toArray_toList]at this;exact this
theorem loadLo(w:World)(b:Nat)(hs:(blk w b).size=18):(loadS 33 (.pointer (some ⟨b,0,none⟩))).run prog w=.ok (.agg ((blk w b).extract 0 9)) w:=loadPart w b 0 (by omega)
theorem loadHi(w:World)(b:Nat)(hs:(blk w b).size=18):(loadS 33 (.pointer (some ⟨b,9,none⟩))).run prog w=.ok (.agg ((blk w b).extract 9 18)) w:=loadPart w b 9 (by omega)
theorem buildMv_is(p:Array (Nat×Value)):Instr.build 228 p=buildS 228 p:=rfl
theorem buildMv2(a f:Nat)(w:World):(buildS 228 #[(0,.agg (nw 9 a)),(1,.agg (nw 9 f))]).run prog w=.ok (.agg (nw 9 a++nw 9 f)) w:=by
 kernel_rfl
theorem buildMv1(a:Nat)(w:World):(buildS 228 #[(0,.agg (nw 9 a))]).run prog w=.ok (.agg (nw 9 a++nw 9 0)) w:=by
 kernel_rfl
theorem rd_mv{x:Nat}:RdC 228 (nw 18 x):=rdC 18 (nw_size 18 x)
end
section
def pnt(x y:Nat)(f:Bool):Array Value:=nw 9 x++nw 9 y ++ #[.bool f]
def cu(id:Int)(p a b n x y:Nat)(s z:Int)(l:Bool):Array Value :=#[.int .i64 id]++nw 9 p++nw 9 a++nw 9 b++nw 9 n++pnt x y false ++ #[.int .i64 s,.int .i64 z,.bool l]
section
variable (id:Int) (p a b n x y:Nat) (s z:Int) (l:Bool)
theorem pnt_size(f:Bool):(pnt x y f).size=19:=by kernel_rfl
theorem cu_size:(cu id p a b n x y s z l).size=59:=by kernel_rfl
theorem pnt_X(f:Bool):(pnt x y f).extract 0 9=nw 9 x:=by kernel_rfl
theorem pnt_Y(f:Bool):(pnt x y f).extract 9 18=nw 9 y:=by kernel_rfl
theorem pnt_18(f:Bool):(pnt x y f)[18]? = some (.bool f):=by kernel_rfl
theorem cu_P:(cu id p a b n x y s z l).extract 1 10=nw 9 p:=by kernel_rfl
theorem cu_A:(cu id p a b n x y s z l).extract 10 19=nw 9 a:=by kernel_rfl
theorem cu_B:(cu id p a b n x y s z l).extract 19 28=nw 9 b:=by kernel_rfl
theorem cu_N:(cu id p a b n x y s z l).extract 28 37=nw 9 n:=by kernel_rfl
theorem cu_G:(cu id p a b n x y s z l).extract 37 56=pnt x y false:=by kernel_rfl
theorem cu_X:(cu id p a b n x y s z l).extract 37 46=nw 9 x:=by kernel_rfl
theorem cu_Y:(cu id p a b n x y s z l).extract 46 55=nw 9 y:=by kernel_rfl
theorem cu_0:(cu id p a b n x y s z l)[0]? = some (.int .i64 id):=by kernel_rfl
theorem cu_56:(cu id p a b n x y s z l)[56]? = some (.int .i64 s):=by kernel_rfl
theorem cu_57:(cu id p a b n x y s z l)[57]? = some (.int .i64 z):=by kernel_rfl
theorem cu_58:(cu id p a b n x y s z l)[58]? = some (.bool l):=by kernel_rfl
theorem cu_set0(v:Int):(cu id p a b n x y s z l).setIfInBounds 0 (.int .i64 v)=cu v p a b n x y s z l:=by kernel_rfl
theorem cu_set56(v:Int):(cu id p a b n x y s z l).setIfInBounds 56 (.int .i64 v)=cu id p a b n x y v z l:=by kernel_rfl
theorem cu_set57(v:Int):(cu id p a b n x y s z l).setIfInBounds 57 (.int .i64 v)=cu id p a b n x y s v l:=by kernel_rfl
theorem cu_set58(v:Bool):(cu id p a b n x y s z l).setIfInBounds 58 (.bool v)=cu id p a b n x y s z v:=by kernel_rfl
theorem cu_setP(q:Nat):setL (cu id p a b n x y s z l) 1 (nw 9 q).toList=cu id q a b n x y s z l:=by kernel_rfl
theorem all_app(c d:Array Value)(h1:c.all (·.oneCell')=true)(h2:d.all (·.oneCell')=true):(c++d).all (·.oneCell')=true:=by
 grind
theorem pnt_one(f:Bool):(pnt x y f).all (·.oneCell')=true:=all_app _ _ (all_app _ _ (nw_one _ _) (nw_one _ _)) (by simp[Value.oneCell'])
theorem cu_one:(cu id p a b n x y s z l).all (·.oneCell')=true:=
 all_app _ _ (all_app _ _ (all_app _ _ (all_app _ _ (all_app _ _ (all_app _ _ (by simp[Value.oneCell']) (nw_one _ _)) (nw_one _ _)) (nw_one _ _)) (nw_one _ _)) (pnt_one x y false)) (by simp[Value.oneCell'])
end
theorem loadCu_is:LdI 96:=fun _=>rfl
theorem storeCu_is:StI 96:=fun _ _=>rfl
theorem loadEq_is:LdI 134:=fun _=>rfl
theorem storeEq_is:StI 134:=fun _ _=>rfl
theorem loadPn_is:LdI 35:=fun _=>rfl
theorem storePn_is:StI 35:=fun _ _=>rfl
theorem zvCu_is:zeroValue 96=zvS 96:=rfl
theorem zvEq_is:zeroValue 134=zvS 134:=rfl
theorem zvPn_is:zeroValue 35=zvS 35:=rfl
theorem zvCu(w:World):(zvS 96).run prog w=.ok (.agg (cu 0 0 0 0 0 0 0 0 0 false)) w:=by kernel_rfl
theorem zvEq(w:World):(zvS 134).run prog w=.ok (.agg (cu 0 0 0 0 0 0 0 0 0 false)) w:=by kernel_rfl
theorem zvPn(w:World):(zvS 35).run prog w=.ok (.agg (pnt 0 0 false)) w:=by kernel_rfl
theorem buildCu_is(p:Array (Nat×Value)):Instr.build 96 p=buildF 96 p:=rfl
theorem buildEq_is(p:Array (Nat×Value)):Instr.build 134 p=buildF 134 p:=rfl
theorem buildPn_is(p:Array (Nat×Value)):Instr.build 35 p=buildF 35 p:=rfl
theorem buildCu0(w:World):(buildF 96 #[]).run prog w=.ok (.agg (cu 0 0 0 0 0 0 0 0 0 false)) w:=by kernel_rfl
theorem buildEq0(w:World):(buildF 134 #[]).run prog w=.ok (.agg (cu 0 0 0 0 0 0 0 0 0 false)) w:=by kernel_rfl
theorem buildCu4(a b n x y:Nat)(w:World):(buildF 96 #[(2,.agg (nw 9 a)),(3,.agg (nw 9 b)),(4,.agg (nw 9 n)),(5,.agg (pnt x y false))]).run prog w=.ok (.agg (cu 0 0 a b n x y 0 0 false)) w:=by kernel_rfl
theorem buildCu9(id:Int)(p a b n x y:Nat)(s z:Int)(l:Bool)(w:World):(buildF 96 #[(0,.int .i64 id),(1,.agg (nw 9 p)),(2,.agg (nw 9 a)),(3,.agg (nw 9 b)),(4,.agg (nw 9 n)),(5,.agg (pnt x y false)),(6,.int .i64 s),(7,.int .i64 z),(8,.bool l)]).run prog w=.ok (.agg (cu id p a b n x y s z l)) w:=by kernel_rfl
theorem buildEq1(id:Int)(p a b n x y:Nat)(s z:Int)(l:Bool)(w:World):(buildF 134 #[(0,.agg (cu id p a b n x y s z l))]).run prog w=.ok (.agg (cu id p a b n x y s z l)) w:=by kernel_rfl
theorem buildPn2(x y:Nat)(w:World):(buildF 35 #[(0,.agg (nw 9 x)),(1,.agg (nw 9 y))]).run prog w=.ok (.agg (pnt x y false)) w:=by kernel_rfl
theorem buildPn3(x y:Nat)(f:Bool)(w:World):(buildF 35 #[(0,.agg (nw 9 x)),(1,.agg (nw 9 y)),(2,.bool f)]).run prog w=.ok (.agg (pnt x y f)) w:=by kernel_rfl
theorem buildPnI(f:Bool)(w:World):(buildF 35 #[(2,.bool f)]).run prog w=.ok (.agg (pnt 0 0 f)) w:=by kernel_rfl
theorem loadCu:LdS 96 59:=ldS
theorem loadEq:LdS 134 59:=ldS
theorem loadPn:LdS 35 19:=ldS
theorem loadPartP(w:World)(b o:Nat)(h:o+19≤(blk w b).size):(loadS 35 (.pointer (some ⟨b,o,none⟩))).run prog w=.ok (.agg ((blk w b).extract o (o+19))) w:=by
 have:=run_loadVar_mid w b o 35 ((blk w b).extract o (o+19)).toList _ (part_range w b o 19) underlying35 rfl (by
  have d:(prog.info? 35).map (·.size)=some 19:=by kernel_rfl
  rw[d];simp
  omega)
 simp only[loadS,Instr.loadAt,Instr.sureAddr,Sem.run_bind,Sem.run_pure,Result.andThen_ok];rw[Array.toArray_toList]at this;exact this
theorem loadCP(w:World)(b:Nat)(hs:(blk w b).size=59):(loadS 33 (.pointer (some ⟨b,1,none⟩))).run prog w=.ok (.agg ((blk w b).extract 1 10)) w:=loadPart w b 1 (by omega)
theorem loadCA(w:World)(b:Nat)(hs:(blk w b).size=59):(loadS 33 (.pointer (some ⟨b,10,none⟩))).run prog w=.ok (.agg ((blk w b).extract 10 19)) w:=loadPart w b 10 (by omega)
theorem loadCB(w:World)(b:Nat)(hs:(blk w b).size=59):(loadS 33 (.pointer (some ⟨b,19,none⟩))).run prog w=.ok (.agg ((blk w b).extract 19 28)) w:=loadPart w b 19 (by omega)
theorem loadCN(w:World)(b:Nat)(hs:(blk w b).size=59):(loadS 33 (.pointer (some ⟨b,28,none⟩))).run prog w=.ok (.agg ((blk w b).extract 28 37)) w:=loadPart w b 28 (by omega)
theorem loadCX(w:World)(b:Nat)(hs:(blk w b).size=59):(loadS 33 (.pointer (some ⟨b,37,none⟩))).run prog w=.ok (.agg ((blk w b).extract 37 46)) w:=loadPart w b 37 (by omega)
theorem loadCY(w:World)(b:Nat)(hs:(blk w b).size=59):(loadS 33 (.pointer (some ⟨b,46,none⟩))).run prog w=.ok (.agg ((blk w b).extract 46 55)) w:=loadPart w b 46 (by omega)
theorem loadCG(w:World)(b:Nat)(hs:(blk w b).size=59):(loadS 35 (.pointer (some ⟨b,37,none⟩))).run prog w=.ok (.agg ((blk w b).extract 37 56)) w:=loadPartP w b 37 (by omega)
theorem loadPX(w:World)(b:Nat)(hs:(blk w b).size=19):(loadS 33 (.pointer (some ⟨b,0,none⟩))).run prog w=.ok (.agg ((blk w b).extract 0 9)) w:=loadPart w b 0 (by omega)
theorem loadPY(w:World)(b:Nat)(hs:(blk w b).size=19):(loadS 33 (.pointer (some ⟨b,9,none⟩))).run prog w=.ok (.agg ((blk w b).extract 9 18)) w:=loadPart w b 9 (by omega)
theorem storeCu(id:Int)(p a bb n x y:Nat)(s z:Int)(l:Bool):StS 96 59 (cu id p a bb n x y s z l):=stS (cu_size id p a bb n x y s z l) (cu_one id p a bb n x y s z l)
theorem storeEq(id:Int)(p a bb n x y:Nat)(s z:Int)(l:Bool):StS 134 59 (cu id p a bb n x y s z l):=stS (cu_size id p a bb n x y s z l) (cu_one id p a bb n x y s z l)
theorem storePn(x y:Nat)(f:Bool):StS 35 19 (pnt x y f):=stS (pnt_size x y f) (pnt_one x y f)
theorem frz_at(w:World)(b i:Nat)(hf:frz w b=(0,0)):w.frozen? ⟨b,i,none⟩=false:=by
 unfold frz at hf;unfold World.frozen?
 split <;> simp_all
theorem storeCP(w:World)(b q:Nat)(hs:(blk w b).size=59)(hf:frz w b=(0,0)):(storeS 33 (.pointer (some ⟨b,1,none⟩)) (.agg (nw 9 q))).run prog w=.ok () (setBlk w b (setL (blk w b) 1 (nw 9 q).toList)):=by
 have d:w.there b 1 (nw 9 q).size:=fun j f=>by
  rw[nw_size]at f;exact⟨by rw[cell_blk,Array.getElem?_eq_getElem (by omega)];rfl,frz_at w b _ hf⟩
 simp only[storeS,Instr.storeAt,Instr.sureAddr,Sem.run_bind,Sem.run_pure,Result.andThen_ok];rw[run_storeVar_mid w b 1 33 (nw 9 q) d (by kernel_rfl) (nw_one 9 q),setCells_setBlk _ _ _ _ (by omega)]
theorem rd_cu{id:Int}{p a bb n x y:Nat}{s z:Int}{l:Bool}:RdC 96 (cu id p a bb n x y s z l):=rdC 59 (cu_size id p a bb n x y s z l)
theorem rd_eq{id:Int}{p a bb n x y:Nat}{s z:Int}{l:Bool}:RdC 134 (cu id p a bb n x y s z l):=rdC 59 (cu_size id p a bb n x y s z l)
theorem rd_pn{x y:Nat}{f:Bool}:RdC 35 (pnt x y f):=rdC 19 (pnt_size x y f)
structure Vr(v:World)(b:Nat)(c:Array Value):Prop where
 h:blk v b=c
 f:frz v b=(0,0)
 p:Pre (b+1) v.heap.size
theorem Vr.gr{v v':World}{b:Nat}{c:Array Value}(h:Vr v b c)(k:Gr v v'):Vr v' b c:=
 ⟨by rw[k.blk _ h.p];exact h.h,by rw[k.frz _ h.p];exact h.f,Nat.le_trans h.p k.below.size⟩
theorem Vr.set{v:World}{b:Nat}{c:Array Value}(h:Vr v b c)(hc:0<c.size)(d:Array Value):Vr (setBlk v b d) b d:=
 ⟨blk_setBlk _ _ _ (by rw[h.h];exact hc),by rw[frz_setBlk];exact h.f,by rw[size_setBlk];exact h.p⟩
theorem Vr.other{v:World}{b k:Nat}{c d:Array Value}(h:Vr v b c)(n:k≠b):Vr (setBlk v k d) b c:=
 ⟨by rw[blk_other _ _ _ _ n];exact h.h,by rw[frz_setBlk];exact h.f,by rw[size_setBlk];exact h.p⟩
theorem Vr.cell{v:World}{b:Nat}{c:Array Value}(h:Vr v b c)(i:Nat):v.cell? ⟨b,i,none⟩=c[i]? := by rw[cell_blk,h.h]
theorem Vr.pp{v:World}{b:Nat}{c:Array Value}(h:Vr v b c):(∀k,Pre (b+1) (v.heap.size+k))∧(∀k l,Pre (b+1) (v.heap.size+k+l))∧(∀k l i,Pre (b+1) (v.heap.size+k+l+i))∧(∀k l i j,Pre (b+1) (v.heap.size+k+l+i+j))∧(∀k l i j m,Pre (b+1) (v.heap.size+k+l+i+j+m))∧(∀k l i j m n,Pre (b+1) (v.heap.size+k+l+i+j+m+n)):=by
 have:b+1≤v.heap.size:=h.p
 grind [Pre]
theorem Vr.new(w:World)(c:Array Value)(t:TypeId):Vr (w.alloc (.cells c t)) w.heap.size c:=
 ⟨blk_alloc_at _ _ _ _ _ rfl,frz_alloc_at _ _ _ _ _ rfl,by simp[Pre]⟩
abbrev uz6:=And.intro @loadMd<|And.intro @storeMd<|And.intro @buildMd0<|And.intro @buildMd1<|And.intro @blk_other<|And.intro @nw_ext9<|And.intro @nw_ext18<|And.intro @eqArr9 @eqArr18
theorem vrA{v:World}{b:Nat}{c:Array Value}(h1:blk v b=c:=by simp[go_sem])(h2:frz v b=(0,0):=by simp[go_sem])(h3:Pre (b+1) v.heap.size:=by simp[go_sem]):Vr v b c:=⟨h1,h2,h3⟩
theorem Vr.al{v:World}{b:Nat}{c:Array Value}(h:Vr v b c):blk v b=c∧frz v b=(0,0)∧Pre (b+1) v.heap.size∧(∀k,Pre (b+1) (v.heap.size+k))∧(∀k l,Pre (b+1) (v.heap.size+k+l))∧(∀k l i,Pre (b+1) (v.heap.size+k+l+i))∧(∀k l i j,Pre (b+1) (v.heap.size+k+l+i+j))∧(∀k l i j m,Pre (b+1) (v.heap.size+k+l+i+j+m))∧(∀k l i j m n,Pre (b+1) (v.heap.size+k+l+i+j+m+n)):=⟨h.h,h.f,h.p,h.pp⟩
end
section
structure Kz where
 ok:Value→World→Prop
 gr:∀v w w',ok v w→Gr w w'→ok v w'
def Kz.c(v:Value):Kz:=⟨fun u _=>u=v,fun _ _ _ h _=>h⟩
def Kz.n(x:Nat):Kz:=⟨fun u w=>∃p n,u=.slice p (dl x) n∧Sl w p x,fun _ _ _ ⟨p,n,e,h⟩ g=>⟨p,n,e,h.gr g⟩⟩
def Kz.nb(x:Nat)(f:Bool):Kz:=⟨fun u w=>∃p n,u=.tuple #[.slice p (dl x) n,.bool f]∧Sl w p x,fun _ _ _ ⟨p,n,e,h⟩ g=>⟨p,n,e,h.gr g⟩⟩
def ptA(p:Option Addr)(x n:Nat)(q:Option Addr)(y m:Nat)(f:Bool):Array Value :=#[.slice p (dl x) n,.slice q (dl y) m,.bool f]
def Kz.pt(x y:Nat)(f:Bool):Kz:=⟨fun u w=>∃p n q m,u=.agg (ptA p x n q y m f)∧Sl w p x∧Sl w q y,fun _ _ _ ⟨p,n,q,m,e,h,k⟩ g=>⟨p,n,q,m,e,h.gr g,k.gr g⟩⟩
def Kz.v(N:Nat)(z:Array Value):Kz:=⟨fun u w=>∃b,u=.pointer (some ⟨b,0,none⟩)∧N≤b∧Vr w b z,fun _ _ _ ⟨b,e,h,k⟩ g=>⟨b,e,h,k.gr g⟩⟩
def Kz.sl(n:Nat):Kz:=⟨fun u _=>∃p c,u=.slice p n c,fun _ _ _ h _=>h⟩
def Kz.top:Kz:=⟨fun _ _=>True,fun _ _ _ _ _=>trivial⟩
def kz(kp:List Kz)(i:Nat)(v:Value)(w:World):Prop:=match kp[i]? with|some k=>k.ok v w|none=>True
theorem kz.gr{kp:List Kz}{i:Nat}{v:Value}{w w':World}(h:kz kp i v w)(g:Gr w w'):kz kp i v w':=by
 unfold kz at h ⊢
 cases e:kp[i]? with
 | none=>trivial
 | some k=>rw[e]at h;exact k.gr _ _ _ h g
def Rt(k:Kz)(w:World)(e:Ending)(w':World):Prop:=∃u,e=.returned u∧k.ok u w'∧Gr w w'
theorem Rt.c{P:Program}{f:FuncId}{args:Array Value}{w:World}{v:Value}(h:Calls P f args w fun e w'=>e=.returned v∧Gr w w'):Calls P f args w (Rt (.c v) w):=h.mono fun _ _ ⟨e,g⟩=>⟨_,e,rfl,g⟩
theorem Rt.n{P:Program}{f:FuncId}{args:Array Value}{w:World}{x:Nat}(h:Calls P f args w (Nm x w)):Calls P f args w (Rt (.n x) w):=h.mono fun _ _ ⟨p,n,e,s,g⟩=>⟨_,e,⟨p,n,rfl,s⟩,g⟩
theorem Rt.same{P:Program}{f:FuncId}{args:Array Value}{w:World}{v:Value}(h:Calls P f args w fun e w'=>e=.returned v∧w'=w):Calls P f args w (Rt (.c v) w):=h.mono fun _ _ ⟨e,g⟩=>⟨_,e,rfl,by rw[g];exact Gr.refl _⟩
theorem wp_retz{P:Program}{o:Oper}{a:Act}{w:World}{K:Act→World→Prop}{Q:Exit→Act→World→Prop}{f:FuncId}{args:Array Value}{k:Kz}(h:(execOp a.eval o).run P w=.ok (.enter f args) w)(hc:Calls P f args w (Rt k w))(hk:∀u w',k.ok u w'→Gr w w'→K (a.put o.dst u) w'):o.wp P a w K Q:=by
 unfold Oper.wp;rw[h]
 exact hc.mono fun e w' ⟨u,d,i,j⟩=>by subst d;exact hk u w' i j
def RZ(W:World)(kp:List Kz)(listed:Array Bool)(vals:Nat→Value)(w:World):Prop:=
 Gr W w∧∀j,listed.getD j false=true→kz kp j (vals j) w
theorem RZ.next{W w w':World}{kp:List Kz}{listed:Array Bool}{vals:Nat→Value}{i:Nat}{v:Value}(h:RZ W kp listed vals w)(hg:Gr w w')(hv:kz kp i v w'):RZ W kp (listed.setIfInBounds i true) (upd vals i v) w':=by
 refine⟨h.1.trans hg,fun j d=>?_⟩
 by_cases e:j=i
 ·subst e;simpa [upd]using hv
 ·rw[getD_set_other _ _ _ (Ne.symm e)]at d;simp only[upd,e,if_false];exact(h.2 j d).gr hg
def sinkZ(d:Bool)(l:List Oper)(n:Nat):Bool:=decide (l.length=n+1)&&(((l[n]?).map fun o=>o.dst.isNone&&o.guard.isNone).getD false) &&
 (!d || (List.range n).all fun i=>(List.range (n+1)).any fun j=>decide (i<j)&&((l[j]?).map fun o=>o.after.any fun e=>e.on==i&&Region.binds .any e).getD false)
def Cld(l:List Oper)(listed:Array Bool):Prop:=∀j o,l[j]? = some o→listed.getD j false=true→∀e∈o.after,Region.binds .any e=true→listed.getD e.on false=true
theorem sink_all{l:List Oper}{n:Nat}(hs:sinkZ true l n=true){listed:Array Bool}(hc:Cld l listed){o:Oper}(ho:l[n]? = some o)(hd:∀e∈o.after,Region.binds .any e=true→listed.getD e.on false=true):
 ∀k i,i<n→n≤i+k→listed.getD i false=true
 | 0,i,h1,h2=>by omega
 | k+1,i,h1,h2=>by
  simp only[sinkZ,Bool.and_eq_true,decide_eq_true_eq,Bool.not_true,Bool.false_or]at hs;have h:=List.all_eq_true.1 hs.2 i (by simpa using h1);obtain⟨j,x,f⟩:=List.any_eq_true.1 h;simp only[Bool.and_eq_true,decide_eq_true_eq,List.mem_range]at x f
  cases hw:l[j]? with
  | none=>rw[hw]at f;simp at f
  | some oj=>
   rw[hw]at f;simp only[Option.map_some,Option.getD_some]at f;obtain⟨m,q,d⟩:=Array.any_eq_true.1 f.2;simp only[Bool.and_eq_true,beq_iff_eq]at d
   by_cases e:j=n
   ·subst e;rw[ho]at hw;cases hw;rw[←d.1];exact hd _ (Array.getElem_mem q) d.2
   ·have:=sink_all (by simp only[sinkZ,Bool.and_eq_true,decide_eq_true_eq,Bool.not_true,Bool.false_or];exact hs) hc ho hd k j (by omega) (by omega);rw[←d.1];exact hc j oj hw this _ (Array.getElem_mem q) d.2
theorem putFrom_congr{vals vals':Nat→Value}:∀(l:List Oper) (k:Nat) (a:Act),(∀j o,l[j]? = some o→o.dst.isSome=true→vals (k+j)=vals' (k+j))→putFrom vals k l a=putFrom vals' k l a
 | [],_,_,_=>rfl
 | o :: l,k,a,h=>by
  rw[putFrom,putFrom]
  have e:a.put o.dst (vals k)=a.put o.dst (vals' k):=by
   cases hd:o.dst with
   | none=>rfl
   | some d=>rw[show vals k=vals' k from h 0 o rfl (by rw[hd];rfl)]
  rw[e]
  exact putFrom_congr l (k+1) _ fun j o f hd=>by
   have:=h (j+1) o (by simpa using f) hd;rw[show k+1+j=k+(j+1) by omega];exact this
theorem wp_region_T(d:Bool){P:Program}{id:Nat}{l:List Oper}{Q:Exit→Act→World→Prop}{a0:Act}{W:World}(hm:d=true→P.follows .mixedOrders=true)(hu:uniqG l.toArray=true)(n:Nat)(hs:sinkZ d l n=true)(kp:List Kz)(hstep:∀(listed:Array Bool) (vals:Nat→Value) (a:Act) (v:World) (i:Nat) (o:Oper),Gr W v→(∀j,listed.getD j false=true→kz kp j (vals j) v)→Frm l.toArray a0 vals listed a→l.toArray[i]? = some o→i<n →
     (∀e∈o.after,Region.binds .any e=true→listed.getD e.on false=true) →
     (Region.wanted o (yielded l.toArray a.tmps)=true∧o.wp P a v (fun a' w'=>∃u,a'=a.put o.dst u∧Gr v w'∧kz kp i u w') Q)∨(Region.wanted o (yielded l.toArray a.tmps)=false∧kz kp i undef v))(hlast:∀(listed:Array Bool) (vals:Nat→Value) (a:Act) (v:World) (o:Oper),Gr W v→(∀j,j<n→kz kp j (vals j) v)→Frm l.toArray a0 vals listed a→(∀j,j<n→listed.getD j false=true)→l.toArray[n]? = some o →
     o.wp P a v (fun a' w'=>a'=a.put o.dst undef∧Q .normal (putFrom vals 0 l a0) w') Q):
 (Code.region id l.toArray d).wp P Q a0 W:=by
 have H:=hs;simp only[sinkZ,Bool.and_eq_true,decide_eq_true_eq]at H;obtain⟨⟨x,A⟩,-⟩:=H
 refine wp_region_ord d hm hu (fun listed vals w=>Cld l listed∧((listed.getD n false=false∧RZ W kp listed vals w)∨(listed.getD n false=true∧(∀i,i<n→listed.getD i false=true)∧∃vals0,(∀j,j≠n→vals j=vals0 j)∧Q .normal (putFrom vals0 0 l a0) w)))
  (fun listed w' L I=>⟨fun j o _ q=>(by rw[L]at q;cases q),Or.inl ⟨L _,⟨I,fun j q=>(by rw[L]at q;cases q)⟩⟩⟩) (fun listed vals a w i o hz B hF S hl G U=>?_) (fun listed vals a w f B hF=>?_)
 ·have C:l[i]? = some o:=by simpa using S
  have hi:i<n+1:=by rw[←x];exact(List.getElem?_eq_some_iff.1 C).1
  have J:i<listed.size:=by rw[hz];simpa [x]using hi
  have V:Cld l (listed.setIfInBounds i true):=fun j oj q K e he hb=>by
   by_cases e1:e.on=i
   ·rw[e1];exact getD_set_same _ _ J
   ·rw[getD_set_other _ _ _ (Ne.symm e1)]
    by_cases e2:j=i
    ·subst e2;rw[C]at q;cases q;exact G e he hb
    ·rw[getD_set_other _ _ _ (Ne.symm e2)]at K;exact B.1 j oj q K e he hb
  obtain⟨X,⟨D,B⟩|⟨D,f,-⟩⟩:=B
  ·by_cases e:i=n
   ·subst e
    have f:∀j,j<i→listed.getD j false=true:=by
     cases d with
     | true=>exact fun j q=>sink_all hs X C G i j q (Nat.le_add_left _ _)
     | false=>exact U rfl
    have I:o.dst=none∧o.guard=none:=by rw[C]at A;simpa using A
    refine Or.inl ⟨wanted_no I.2,Oper.wp_mono (fun a' w' h=>?_) (hlast listed vals a w o B.1 (fun j q=>B.2 j (f j q)) hF f S)⟩;obtain⟨rfl,Y⟩:=h;refine⟨undef,rfl,V,Or.inr ⟨getD_set_same _ _ J,fun j q=>?_,vals,fun j q=>by simp[upd,q],Y⟩⟩;rw[getD_set_other _ _ _ (by omega)];exact f j q
   ·obtain⟨Z,h2⟩|⟨Z,h2⟩:=hstep listed vals a w i o B.1 B.2 hF S (by omega) G
    ·refine Or.inl ⟨Z,Oper.wp_mono (fun a' w' h=>?_) h2⟩;obtain⟨v,rfl,I,hv⟩:=h;exact⟨v,rfl,V,Or.inl ⟨by rw[getD_set_other _ _ _ e];exact D,RZ.next B I hv⟩⟩
    ·exact Or.inr ⟨Z,V,Or.inl ⟨by rw[getD_set_other _ _ _ e];exact D,RZ.next B (Gr.refl _) h2⟩⟩
  ·exfalso
   by_cases e:i=n
   ·subst e;rw[hl]at D;cases D
   ·have:=f i (by omega);rw[hl]at this;cases this
 ·obtain⟨-,⟨D,-⟩|⟨-,-,vals0,hv,Y⟩⟩:=B
  ·rw[f n (by simp[x])]at D;cases D
  ·rw[hF.final hu f,putFrom_congr l 0 a0 (fun j o q G=>?_)]
   ·exact Y
   ·rw[Nat.zero_add];refine hv j fun e=>?_;subst e;rw[q]at A;simp only[Option.map_some,Option.getD_some,Bool.and_eq_true,Option.isNone_iff_eq_none]at A;rw[A.1]at G;cases G
end
section
abbrev Wt:=Nat→Option Addr×Nat
structure Kw where
 val:Wt→Value
 ok:Wt→World→Prop
 gr:∀x w w',ok x w→Gr w w'→ok x w'
 cst:Nat
 hc:cst≠0→∀y w,ok y w
 hs:cst=2→∀y,val y=undef
def Kw.c(v:Value):Kw:=⟨fun _=>v,fun _ _=>True,fun _ _ _ _ _=>trivial,1,fun _ _ _=>trivial,fun h=>absurd h (by decide)⟩
def Kw.u:Kw:=⟨fun _=>undef,fun _ _=>True,fun _ _ _ _ _=>trivial,2,fun _ _ _=>trivial,fun _ _=>rfl⟩
def Kw.n(x:Nat):Kw:=⟨fun y=>.slice (y 0).1 (dl x) (y 0).2,fun y w=>Sl w (y 0).1 x,fun _ _ _ h g=>h.gr g,0,fun h=>absurd rfl h,fun h=>absurd h (by decide)⟩
def Kw.nb(x:Nat)(f:Bool):Kw:=⟨fun y=>.tuple #[.slice (y 0).1 (dl x) (y 0).2,.bool f],fun y w=>Sl w (y 0).1 x,fun _ _ _ h g=>h.gr g,0,fun h=>absurd rfl h,fun h=>absurd h (by decide)⟩
def Kw.pt(x z:Nat)(f:Bool):Kw:=⟨fun y=>.agg (ptA (y 0).1 x (y 0).2 (y 1).1 z (y 1).2 f),fun y w=>Sl w (y 0).1 x∧Sl w (y 1).1 z,fun _ _ _ h g=>⟨h.1.gr g,h.2.gr g⟩,0,fun h=>absurd rfl h,fun h=>absurd h (by decide)⟩
def Kw.v(N:Nat)(c:Array Value):Kw:=⟨fun y=>.pointer (some ⟨(y 0).2,0,none⟩),fun y w=>N≤(y 0).2∧Vr w (y 0).2 c,fun _ _ _ h g=>⟨h.1,h.2.gr g⟩,0,fun h=>absurd rfl h,fun h=>absurd h (by decide)⟩
def Kw.sl(n:Nat):Kw:=⟨fun y=>.slice (y 0).1 n (y 0).2,fun _ _=>True,fun _ _ _ _ _=>trivial,0,fun _ _ _=>trivial,fun h=>absurd h (by decide)⟩
abbrev pv(b o:Nat):Value:=.pointer (some ⟨b,o,none⟩)
def Kw.kz(k:Kw):Kz:=⟨fun u w=>∃y,u=k.val y∧k.ok y w,fun _ _ _ ⟨y,e,h⟩ g=>⟨y,e,k.gr _ _ _ h g⟩⟩
def kW(kp:List Kw)(i:Nat):Kw:=kp.getD i .u
def wvals(kp:List Kw)(x:Nat→Wt)(j:Nat):Value:=(kW kp j).val (x j)
def FW(l:List Oper)(kp:List Kw)(a0:Act)(x:Nat→Wt):Act:=putFrom (wvals kp x) 0 l a0
def opW(l:List Oper)(i:Nat):Oper:=(l[i]?).getD ⟨none,.move (.const undef),0, "", #[],none⟩
def wts(l:List Oper)(i j:Nat):Bool:=(opW l i).after.toList.any fun e=>e.on==j&&Region.binds .any e
def rdyO(l:List Oper)(i:Nat)(o:Oper):Bool:=
 (match o.op with | .select _ _=>false|_=>true) &&
 (o.op.operands.all fun y=>match y with | .tmp s=>(match own l.toArray s with|some j=>wts l i j|none=>true)|_=>true) &&
 (match o.guard with|some (g,_)=>wts l i g|none=>true)
def others(ex:List Nat)(q:Nat):List Nat:=(List.range q).filter fun i => !ex.contains i
def chkW(l:List Oper)(kp:List Kw)(ex:List Nat)(q:Nat):Bool:=
 uniqG l.toArray&&((List.range q).all fun i=>rdyO l i (opW l i))&&kp.length==q&&(others ex q).all fun i=>(kW kp i).cst != 0
def wnt(l:List Oper)(i:Nat)(a:Act):Bool:=Region.wanted (opW l i) (yielded l.toArray a.tmps)
def RtW(k:Kw)(w:World)(e:Ending)(w':World):Prop:=∃y,e=.returned (k.val y)∧k.ok y w'∧Gr w w'
def StW(P:Program)(k:Kw)(a:Act)(o:Oper)(v:World):Prop:=
 (∃y w',(execOp a.eval o).run P v=.ok (.value (k.val y)) w'∧Gr v w'∧k.ok y w')∨∃f args,(execOp a.eval o).run P v=.ok (.enter f args) v∧Calls P f args v (RtW k v)
def ObW(P:Program)(l:List Oper)(kp:List Kw)(a0:Act)(W:World)(i:Nat):Prop:=
 ∀(x:Nat→Wt) (v:World),Gr W v→(∀j,wts l i j=true→(kW kp j).ok (x j) v)→wnt l i (FW l kp a0 x)=true∧StW P (kW kp i) (FW l kp a0 x) (opW l i) v
def ObsW(P:Program)(l:List Oper)(kp:List Kw)(a0:Act)(W:World):List Nat→Prop
 | []=>True
 | i :: r=>ObW P l kp a0 W i∧ObsW P l kp a0 W r
theorem ObsW.nil{P:Program}{l:List Oper}{kp:List Kw}{a0:Act}{W:World}:ObsW P l kp a0 W []:=trivial
theorem ObsW.cons{P:Program}{l:List Oper}{kp:List Kw}{a0:Act}{W:World}{i:Nat}{r:List Nat}(h:ObW P l kp a0 W i)(t:ObsW P l kp a0 W r):ObsW P l kp a0 W (i :: r):=⟨h,t⟩
theorem ObsW.at{P:Program}{l:List Oper}{kp:List Kw}{a0:Act}{W:World}:∀{ex:List Nat},ObsW P l kp a0 W ex→∀i,i∈ex→ObW P l kp a0 W i
 | [],_,_,h=>by cases h
 | e :: r,ho,i,h=>by
  rcases List.mem_cons.1 h with rfl|h
  ·exact ho.1
  ·exact ObsW.at ho.2 i h
def resW(P:Program)(l:List Oper)(kp:List Kw)(a0:Act)(x:Nat→Wt)(v:World)(i:Nat):Option (Result Next):=
 cond (wnt l i (FW l kp a0 x)) (some ((execOp (FW l kp a0 x).eval (opW l i)).run P v)) none
def expW(kp:List Kw)(x:Nat→Wt)(v:World)(i:Nat):Option (Result Next):=cond ((kW kp i).cst==2) none (some (.ok (.value (wvals kp x i)) v))
def pureL(P:Program)(l:List Oper)(kp:List Kw)(a0:Act)(ex:List Nat)(q:Nat)(x:Nat→Wt)(v:World):List (Option (Result Next)):=(others ex q).map (resW P l kp a0 x v)
def pureR(kp:List Kw)(ex:List Nat)(q:Nat)(x:Nat→Wt)(v:World):List (Option (Result Next)):=(others ex q).map (expW kp x v)
theorem opW_is{l:List Oper}{i:Nat}{o:Oper}(h:l.toArray[i]? = some o):opW l i=o:=by
 grind [opW]
theorem eval_F{l:List Oper}{a0 a:Act}{vals vals':Nat→Value}{listed:Array Bool}(hu:uniqG l.toArray=true)(hF:Frm l.toArray a0 vals listed a)(s:Nat)(hy:∀j,own l.toArray s=some j→listed.getD j false=true∧vals j=vals' j):a.tmps[s]? = (putFrom vals' 0 l a0).tmps[s]?:=by
 have d:=putFrom_frm hu l 0 a0 (fun j=>by simp) (Frm.start_up l a0 vals')
 by_cases hs:s<a0.tmps.size
 ·rw[hF.2.2 s hs,d.2.2 s hs]
  cases ho:own l.toArray s with
  | none=>rfl
  | some j=>
   obtain⟨f,h⟩:=hy j ho;obtain⟨o,i,-⟩:=own_spec ho
   have q:j<l.length:=by simpa using (Array.getElem?_eq_some_iff.1 i).1
   simp only[f,if_true,upTo_getD];rw[if_pos (by simpa using q),h]
 ·rw[Array.getElem?_eq_none (by rw[hF.2.1];omega),Array.getElem?_eq_none (by rw[d.2.1];omega)]
theorem kz_W{kp:List Kw}{j:Nat}(hj:j<kp.length)(u:Value)(v:World):kz (kp.map Kw.kz) j u v↔∃y,u=(kW kp j).val y∧(kW kp j).ok y v:=by
 have e:kp[j]? = some (kW kp j):=by rw[kW,List.getD_eq_getElem?_getD,List.getElem?_eq_getElem hj];rfl
 unfold kz;rw[List.getElem?_map,e];exact Iff.rfl
theorem atW{l:List Oper}{kp:List Kw}{ex:List Nat}{q:Nat}{a0:Act}{listed:Array Bool}{vals:Nat→Value}(hk:chkW l kp ex q=true){a:Act}{v:World}{i:Nat}{o:Oper}(hK:∀j,listed.getD j false=true→kz (kp.map Kw.kz) j (vals j) v)(hF:Frm l.toArray a0 vals listed a)(hi:l.toArray[i]? = some o)(hq:i<q)(hd:∀e∈o.after,Region.binds .any e=true→listed.getD e.on false=true):
 ∃x:Nat→Wt,(∀j,wts l i j=true→listed.getD j false=true∧vals j=(kW kp j).val (x j)∧(kW kp j).ok (x j) v)∧execOp a.eval o=execOp (FW l kp a0 x).eval o∧Region.wanted o (yielded l.toArray a.tmps)=wnt l i (FW l kp a0 x):=by
 simp only[chkW,Bool.and_eq_true,beq_iff_eq]at hk;obtain⟨⟨⟨J,Y⟩,V⟩,Z⟩:=hk;have d:=opW_is hi
 have K:∀j,∃y:Wt,wts l i j=true→vals j=(kW kp j).val y∧(kW kp j).ok y v:=fun j=>by
  by_cases h:wts l i j=true
  ·have hl:=on_of hd j (by rw[wts,d,Array.any_toList]at h;exact h)
   have C:j<i:=by
    obtain⟨e,he,L⟩:=Array.any_eq_true.1 (show (o.after.any fun e=>e.on==j&&Region.binds .any e)=true by rw[wts,d,Array.any_toList]at h;exact h);simp only[Bool.and_eq_true,beq_iff_eq]at L;rw[←L.1];exact(uniq_at J hi).2 _ (Array.getElem_mem he) L.2
   obtain⟨y,P,Q⟩:=(kz_W (by omega) _ _).1 (hK j hl);exact⟨y,fun _=>⟨P,Q⟩⟩
  ·exact⟨fun _=>(none,0),fun h'=>absurd h' h⟩
 obtain⟨x,W⟩:=Classical.axiomOfChoice K;have B:=List.all_eq_true.1 Y i (by simpa using hq);rw[d]at B;simp only[rdyO,Bool.and_eq_true]at B;obtain⟨⟨A,D⟩,G⟩:=B;have H:∀j,wts l i j=true→listed.getD j false=true:=fun j h=>on_of hd j (by rw[wts,d,Array.any_toList]at h;exact h)
 have f:∀s,(match own l.toArray s with|some j=>wts l i j|none=>true)=true→a.tmps[s]? = (FW l kp a0 x).tmps[s]? := fun s X=>by
  refine eval_F J hF s fun j C=>?_
  have I:wts l i j=true:=by rw[C]at X;exact X
  exact⟨H j I,(W j I).1⟩
 refine⟨x,fun j C=>⟨H j C,W j C⟩,?_,?_⟩
 ·refine execOp_congr o (fun cs b h=>by rw[h]at A;cases A) fun y S=>?_;have U:=Array.all_eq_true_iff_forall_mem.1 D y S
  cases y with
  | tmp s=>
   have:=f s U;simp only[Act.eval,Array.getD_eq_getD_getElem?,this]
  | _=>rfl
 ·rw[wnt,d];unfold Region.wanted
  cases hg:o.guard with
  | none=>rfl
  | some gw=>
   obtain⟨g,b⟩:=gw;rw[hg]at G;simp only
   have S:yielded l.toArray a.tmps g=yielded l.toArray (FW l kp a0 x).tmps g:=by
    unfold yielded
    cases ht:(l.toArray[g]?).bind (·.dst) with
    | none=>rfl
    | some t=>
     have:own l.toArray t=some g:=by
      obtain⟨og,P,Q⟩:=Option.bind_eq_some_iff.1 ht;exact(uniq_at J P).1 t Q
     simp only[Option.bind_some];rw[f t (by rw[this];exact G)]
   rw[S]
theorem stepW{P:Program}{l:List Oper}{kp:List Kw}{ex:List Nat}{q:Nat}{a0:Act}{W:World}{Q:Exit→Act→World→Prop}(hk:chkW l kp ex q=true)(hp:pureL P l kp a0 ex q=pureR kp ex q)(listed:Array Bool)(vals:Nat→Value)(a:Act)(v:World)(i:Nat)(o:Oper)(ho:i∈ex→ObW P l kp a0 W i)(hG:Gr W v)(hK:∀j,listed.getD j false=true→kz (kp.map Kw.kz) j (vals j) v)(hF:Frm l.toArray a0 vals listed a)(hi:l.toArray[i]? = some o)(hq:i<q)(hd:∀e∈o.after,Region.binds .any e=true→listed.getD e.on false=true):
 (Region.wanted o (yielded l.toArray a.tmps)=true∧o.wp P a v (fun a' w'=>∃u,a'=a.put o.dst u∧Gr v w'∧kz (kp.map Kw.kz) i u w') Q)∨(Region.wanted o (yielded l.toArray a.tmps)=false∧kz (kp.map Kw.kz) i undef v):=by
 obtain⟨x,V,G,K⟩:=atW hk hK hF hi hq hd;simp only[chkW,Bool.and_eq_true,beq_iff_eq]at hk;obtain⟨⟨-,U⟩,L⟩:=hk;have B:=fun(u:Value) (w:World)=>kz_W (kp:=kp) (j:=i) (by omega) u w;have I:=opW_is hi;rw[K]
 by_cases hm:i∈ex
 ·obtain⟨X,C⟩:=ho hm x v hG fun j Y=>(V j Y).2.2;refine Or.inl ⟨X,?_⟩;rw[I]at C
  obtain⟨y,w',h,J,H⟩|⟨f,args,h,hc⟩:=C
  ·exact wp_val _ (by rw[G];exact h) ⟨_,rfl,J,(B _ _).2 ⟨y,rfl,H⟩⟩
  ·refine wp_retz (k:=(kW kp i).kz) (by rw[G];exact h) (hc.mono fun e w' ⟨y,Z,H,J⟩=>⟨_,Z,⟨y,rfl,H⟩,J⟩) fun u w' S J=>⟨u,rfl,J,(B _ _).2 S⟩
 ·have D:i∈others ex q:=List.mem_filter.2 ⟨by simpa using hq,by simpa using hm⟩;have A:=List.all_eq_true.1 L i D;simp only[bne_iff_ne,ne_eq]at A;have d:=List.map_inj_left.1 (congrFun (congrFun hp x) v) i D;simp only[resW,expW,I]at d
  cases hw:wnt l i (FW l kp a0 x) with
  | true=>
   rw[hw]at d;refine Or.inl ⟨rfl,?_⟩
   cases C:(kW kp i).cst==2 with
   | true=>rw[C]at d;cases d
   | false=>
    rw[C]at d;exact wp_val _ (by rw[G];exact Option.some.inj d) ⟨_,rfl,Gr.refl _,(B _ _).2 ⟨x i,rfl,(kW kp i).hc A _ _⟩⟩
  | false=>
   rw[hw]at d;refine Or.inr ⟨rfl,?_⟩
   cases C:(kW kp i).cst==2 with
   | true=>exact(B _ _).2 ⟨x i,((kW kp i).hs (by simpa using C) _).symm,(kW kp i).hc A _ _⟩
   | false=>rw[C]at d;cases d
theorem finW{kp:List Kw}{q:Nat}{vals:Nat→Value}{v:World}(hlen:kp.length=q)(hK:∀j,j<q→kz (kp.map Kw.kz) j (vals j) v):∃x:Nat→Wt,(∀j,j<q→vals j=wvals kp x j)∧∀j,(kW kp j).ok (x j) v:=by
 have f:∀j,∃y:Wt,(j<q→vals j=(kW kp j).val y)∧(kW kp j).ok y v:=fun j=>by
  by_cases hj:j<q
  ·have h:=hK j hj
   have e:kp[j]? = some (kW kp j):=by rw[kW,List.getD_eq_getElem?_getD,List.getElem?_eq_getElem (by omega)];rfl
   unfold kz at h;rw[List.getElem?_map,e]at h;obtain⟨y,i,A⟩:=h;exact⟨y,fun _=>i,A⟩
  ·refine⟨fun _=>(none,0),fun h=>absurd h hj,?_⟩
   have e:kW kp j=.u:=by rw[kW,List.getD_eq_getElem?_getD,List.getElem?_eq_none (by omega)];rfl
   rw[e];trivial
 obtain⟨x,d⟩:=Classical.axiomOfChoice f;exact⟨x,fun j hj=>(d j).1 hj,fun j=>(d j).2⟩
theorem chk_u{l:List Oper}{kp:List Kw}{ex:List Nat}{q:Nat}(hk:chkW l kp ex q=true):uniqG l.toArray=true∧kp.length=q:=by
 simp only[chkW,Bool.and_eq_true,beq_iff_eq]at hk;exact⟨hk.1.1.1,hk.1.2⟩
section
variable {P:Program} {id:Nat} {l:List Oper} {Q:Exit→Act→World→Prop} {a0:Act} {W:World}
theorem wp_r(d:Bool)(kp:List Kw)(ex:List Nat)(ho:ObsW P l kp a0 W ex)(hfin:∀x v,Gr W v→(∀j,(kW kp j).ok (x j) v)→Q .normal (FW l kp a0 x) v)(hm:d=true→P.follows .mixedOrders=true)(hk:chkW l kp ex l.length=true)(hp:pureL P l kp a0 ex l.length=pureR kp ex l.length):(Code.region id l.toArray d).wp P Q a0 W:=by
 obtain⟨J,D⟩:=chk_u hk
 refine wp_region_ord d hm J (RZ W (kp.map Kw.kz)) (fun f L S I=>⟨I,fun j C=>by rw[S]at C;cases C⟩) (fun f q a v i o X B hF K Y U _=>?_) fun f q a v A B hF=>?_
 ·obtain⟨G,H⟩|⟨G,H⟩:=stepW hk hp f q a v i o (fun h=>ho.at i h) B.1 B.2 hF K (by simpa using (Array.getElem?_eq_some_iff.1 K).1) U
  ·refine Or.inl ⟨G,Oper.wp_mono (fun Z L h=>?_) H⟩;obtain⟨u,rfl,I,V⟩:=h;exact⟨u,rfl,B.next I V⟩
  ·exact Or.inr ⟨G,B.next (Gr.refl _) H⟩
 ·obtain⟨x,G,H⟩:=finW D (fun j C=>B.2 j (A j (by simpa using C)));rw[hF.final J A,putFrom_congr (vals':=wvals kp x) l 0 a0 fun j o C _=>by rw[Nat.zero_add];exact G j (List.getElem?_eq_some_iff.1 C).1];exact hfin x v B.1 H
theorem wp_w(kp:List Kw)(ex:List Nat)(ho:ObsW P l kp a0 W ex)(hfin:∀x v,Gr W v→(∀j,(kW kp j).ok (x j) v)→Q .normal (FW l kp a0 x) v)(hm:P.follows .mixedOrders=true:=by kernel_rfl)(hk:chkW l kp ex l.length=true:=by kernel_rfl)(hp:pureL P l kp a0 ex l.length=pureR kp ex l.length:=by kernel_rfl):(Code.region id l.toArray true).wp P Q a0 W:=wp_r true kp ex ho hfin (fun _=>hm) hk hp
theorem wp_wS(kp:List Kw)(ex:List Nat)(ho:ObsW P l kp a0 W ex)(hfin:∀x v,Gr W v→(∀j,(kW kp j).ok (x j) v)→Q .normal (FW l kp a0 x) v)(hk:chkW l kp ex l.length=true:=by kernel_rfl)(hp:pureL P l kp a0 ex l.length=pureR kp ex l.length:=by kernel_rfl):(Code.region id l.toArray false).wp P Q a0 W:=wp_r false kp ex ho hfin (fun h=>by cases h) hk hp
def TlW(P:Program)(l:List Oper)(kp:List Kw)(a0:Act)(W:World)(Q:Exit→Act→World→Prop)(n:Nat):Prop:=
 ∀x v,Gr W v→(∀j,(kW kp j).ok (x j) v)→∃w',(execOp (FW l kp a0 x).eval (opW l n)).run P v=.ok .skip w'∧Q .normal (FW l kp a0 x) w'
theorem lastW{kp:List Kw}{ex:List Nat}{n:Nat}(hk:chkW l kp ex n=true)(hsd:(((l[n]?).map fun o=>o.dst.isNone&&o.guard.isNone).getD false)=true)(hl:l.length=n+1)(hr:rdyO l n (opW l n)=true)(ht:TlW P l kp a0 W Q n)(listed:Array Bool)(vals:Nat→Value)(a:Act)(v:World)(o:Oper)(hG:Gr W v)(hK:∀j,j<n→kz (kp.map Kw.kz) j (vals j) v)(hF:Frm l.toArray a0 vals listed a)(hd:∀j,j<n→listed.getD j false=true)(hi:l.toArray[n]? = some o):
 o.wp P a v (fun a' w'=>a'=a.put o.dst undef∧Q .normal (putFrom vals 0 l a0) w') Q:=by
 obtain⟨S,A⟩:=chk_u hk;obtain⟨x,K,U⟩:=finW A hK;have B:=opW_is hi;rw[B]at hr;simp only[rdyO,Bool.and_eq_true]at hr;obtain⟨⟨f,L⟩,-⟩:=hr
 have C:l[n]? = some o:=by simpa using hi
 have D:o.dst=none:=by
  rw[C]at hsd;simp only[Option.map_some,Option.getD_some,Bool.and_eq_true,Option.isNone_iff_eq_none]at hsd;exact hsd.1
 have I:execOp a.eval o=execOp (FW l kp a0 x).eval o:=by
  refine execOp_congr o (fun Y b h=>by rw[h]at f;cases f) fun y Z=>?_
  cases y with
  | tmp s=>
   have:a.tmps[s]? = (FW l kp a0 x).tmps[s]?:=by
    refine eval_F S hF s fun j G=>?_;obtain⟨V,q,d⟩:=own_spec G
    have J:j<l.length:=by simpa using (Array.getElem?_eq_some_iff.1 q).1
    have H:j<n:=by
     rcases Nat.lt_or_ge j n with h|h
     ·exact h
     ·exfalso
      obtain rfl:j=n:=by omega
      rw[hi]at q;cases q;rw[D]at d;cases d
    exact⟨hd j H,K j H⟩
   simp only[Act.eval,Array.getD_eq_getD_getElem?,this]
  | _=>rfl
 obtain⟨w',i,X⟩:=ht x v hG U;rw[B]at i;refine wp_skip (by rw[I];exact i) ⟨rfl,?_⟩
 rw[putFrom_congr l 0 a0 fun j V G d=>?_]
 ·exact X
 ·rw[Nat.zero_add];have J:=(List.getElem?_eq_some_iff.1 G).1;refine K j ?_
  rcases Nat.lt_or_ge j n with h|h
  ·exact h
  ·exfalso
   obtain rfl:j=n:=by omega
   rw[C]at G;cases G;rw[D]at d;cases d
theorem wp_t(d:Bool)(n:Nat)(kp:List Kw)(ex:List Nat)(ho:ObsW P l kp a0 W ex)(ht:TlW P l kp a0 W Q n)(hm:d=true→P.follows .mixedOrders=true)(hs:sinkZ d l n=true)(hk:(chkW l kp ex n&&rdyO l n (opW l n))=true)(hp:pureL P l kp a0 ex n=pureR kp ex n):
 (Code.region id l.toArray d).wp P Q a0 W:=by
 simp only[Bool.and_eq_true]at hk;obtain⟨hk,x⟩:=hk;have j:=hs;simp only[sinkZ,Bool.and_eq_true,decide_eq_true_eq]at j;exact wp_region_T d hm (chk_u hk).1 n hs (kp.map Kw.kz) (fun f q a v i o A B C D G H=>stepW hk hp f q a v i o (fun h=>ho.at i h) A B C D G H) (lastW hk j.1.2 j.1.1 x ht)
theorem wp_wT(n:Nat)(kp:List Kw)(ex:List Nat)(ho:ObsW P l kp a0 W ex)(ht:TlW P l kp a0 W Q n)(hm:P.follows .mixedOrders=true:=by kernel_rfl)(hs:sinkZ true l n=true:=by kernel_rfl)(hk:(chkW l kp ex n&&rdyO l n (opW l n))=true:=by kernel_rfl)(hp:pureL P l kp a0 ex n=pureR kp ex n:=by kernel_rfl):
 (Code.region id l.toArray true).wp P Q a0 W:=wp_t true n kp ex ho ht (fun _=>hm) hs hk hp
theorem wp_wTS(n:Nat)(kp:List Kw)(ex:List Nat)(ho:ObsW P l kp a0 W ex)(ht:TlW P l kp a0 W Q n)(hs:sinkZ false l n=true:=by kernel_rfl)(hk:(chkW l kp ex n&&rdyO l n (opW l n))=true:=by kernel_rfl)(hp:pureL P l kp a0 ex n=pureR kp ex n:=by kernel_rfl):
 (Code.region id l.toArray false).wp P Q a0 W:=wp_t false n kp ex ho ht (fun h=>by cases h) hs hk hp
theorem ObW.k{kp:List Kw}{i:Nat}{f:FuncId}(args:(Nat→Wt)→Array Value)(hc:∀x v,Gr W v→(∀j,wts l i j=true→(kW kp j).ok (x j) v)→Calls P f (args x) v (RtW (kW kp i) v))(hr:(fun x v=>resW P l kp a0 x v i)=fun x v=>some (.ok (.enter f (args x)) v):=by kernel_rfl):ObW P l kp a0 W i:=fun x v d h=>by
 have:=congrFun (congrFun hr x) v;simp only[resW]at this
 cases hw:wnt l i (FW l kp a0 x) with
 | false=>rw[hw]at this;cases this
 | true=>
  rw[hw]at this;exact⟨rfl,.inr ⟨f,args x,Option.some.inj this,hc x v d h⟩⟩
theorem ObW.p{kp:List Kw}{i:Nat}(y:(Nat→Wt)→Wt)(hc:∀x v,Gr W v→(∀j,wts l i j=true→(kW kp j).ok (x j) v)→(kW kp i).ok (y x) v)(hr:(fun x v=>resW P l kp a0 x v i)=fun x v=>some (.ok (.value ((kW kp i).val (y x))) v):=by kernel_rfl):ObW P l kp a0 W i:=fun x v d h=>by
 have:=congrFun (congrFun hr x) v;simp only[resW]at this
 cases hw:wnt l i (FW l kp a0 x) with
 | false=>rw[hw]at this;cases this
 | true=>
  rw[hw]at this;exact⟨rfl,.inl ⟨y x,v,Option.some.inj this,Gr.refl _,hc x v d h⟩⟩
theorem ObW.m{kp:List Kw}{i:Nat}(j:Nat)(hc:∀y v,(kW kp j).ok y v→(kW kp i).ok y v:=by first|exact fun _ _ h=>h|exact fun _ _ _=>trivial)(hw:wts l i j=true:=by rfl)(hr:(fun x v=>resW P l kp a0 x v i)=fun x v=>some (.ok (.value ((kW kp i).val (x j))) v):=by kernel_rfl):ObW P l kp a0 W i:=ObW.p (fun x=>x j) (fun _ _ _ h=>hc _ _ (h j hw)) hr
theorem ObW.e{kp:List Kw}{i:Nat}(e:(Nat→Wt)→Sem Next)(hr:(fun x=>cond (wnt l i (FW l kp a0 x)) (some (execOp (FW l kp a0 x).eval (opW l i))) none)=fun x=>some (e x))(hc:∀x v,Gr W v→(∀j,wts l i j=true→(kW kp j).ok (x j) v)→∃y w',(e x).run P v=.ok (.value ((kW kp i).val y)) w'∧Gr v w'∧(kW kp i).ok y w'):ObW P l kp a0 W i:=fun x v d h=>by
 have:=congrFun hr x
 cases hw:wnt l i (FW l kp a0 x) with
 | false=>rw[hw]at this;cases this
 | true=>
  rw[hw]at this;have f:=Option.some.inj this;exact⟨rfl,.inl (by rw[f];exact hc x v d h)⟩
def exI(op:Op):Sem Next:=execOp (Act.eval ⟨#[],[]⟩) ⟨none,op,0, "", #[],none⟩
def runW(l:List Oper)(kp:List Kw)(a0:Act)(i:Nat)(x:Nat→Wt):Option (Sem Next):=cond (wnt l i (FW l kp a0 x)) (some (execOp (FW l kp a0 x).eval (opW l i))) none
theorem ObW.s{kp:List Kw}{i:Nat}{u:Value}(op:Op)(hk:kW kp i=.c u)(hc:∀v,Gr W v→(exI op).run P v=.ok (.value u) v)(hr:runW l kp a0 i=fun _=>some (exI op):=by kernel_rfl):ObW P l kp a0 W i:=
 ObW.e (fun _=>exI op) hr fun _ v d _=>⟨fun _=>(none,0),v,by rw[hk];exact hc v d,Gr.refl _,by rw[hk];trivial⟩
theorem ObW.o{kp:List Kw}{i b:Nat}{c:Array Value}{u:Value}(t:TypeId)(off:Nat)(hb:Vr W b c)(hk:kW kp i=.c u)(hu:c[off]? = some u)(hc:∀v:World,v.cell? ⟨b,off,none⟩=some u→(exI (.load t (.const (.pointer (some ⟨b,off,none⟩))))).run P v=.ok (.value u) v:=by intro vv K;simp[go_sem,exI,K])(hr:runW l kp a0 i=fun _=>some (exI (.load t (.const (.pointer (some ⟨b,off,none⟩))))):=by kernel_rfl):ObW P l kp a0 W i:=
 ObW.s _ hk (fun v d=>hc v (by rw[cell_blk,(hb.gr d).h];exact hu)) hr
theorem ObW.g{kp:List Kw}{i b:Nat}{c:Array Value}{u:Value}(t:TypeId)(off:Nat)(hb:Vr W b c)(hk:kW kp i=.c u)(hc:∀v:World,blk v b=c→(exI (.load t (.const (.pointer (some ⟨b,off,none⟩))))).run P v=.ok (.value u) v:=by intro vv H;simp[go_sem,exI,H])(hr:runW l kp a0 i=fun _=>some (exI (.load t (.const (.pointer (some ⟨b,off,none⟩))))):=by kernel_rfl):ObW P l kp a0 W i:=
 ObW.s _ hk (fun v d=>hc v (hb.gr d).h) hr
theorem ObW.a{kp:List Kw}{i:Nat}{z:Array Value}(t:TypeId)(hk:kW kp i=.v W.heap.size z)(hc:∀v:World,(exI (.alloc t)).run P v=.ok (.value (.pointer (some ⟨v.heap.size,0,none⟩))) (v.alloc (.cells z t)):=by intro vv;simp[go_sem,exI])(hr:runW l kp a0 i=fun _=>some (exI (.alloc t)):=by kernel_rfl):ObW P l kp a0 W i:=
 ObW.e (fun _=>exI (.alloc t)) hr fun _ v d _=>⟨fun _=>(none,v.heap.size),_,by rw[hk];exact hc v,(Gr.refl _).alloc _,by rw[hk];exact⟨d.below.size,Vr.new _ _ _⟩⟩
theorem ObW.b{kp:List Kw}{i c n:Nat}{t:TypeId}{z:Array Value}(op:Op)(hk:kW kp i=.n c)(hn:dl c=n)(hc:∀v:World,(exI op).run P v=.ok (.value (.slice (some ⟨v.heap.size,0,none⟩) n n)) (v.alloc (.cells z t)))(hs:∀v:World,Sl (v.alloc (.cells z t)) (some ⟨v.heap.size,0,none⟩) c)(hr:runW l kp a0 i=fun _=>some (exI op):=by kernel_rfl):ObW P l kp a0 W i:=
 ObW.e (fun _=>exI op) hr fun _ v d _=>⟨fun _=>(some ⟨v.heap.size,0,none⟩,n),_,by rw[hk];subst hn;exact hc v,(Gr.refl _).alloc _,by rw[hk];exact hs v⟩
theorem TlW.s{kp:List Kw}{n:Nat}(t:TypeId)(p u:(Nat→Wt)→Value)(hf:∀x v,Gr W v→(∀j,(kW kp j).ok (x j) v)→∃w',(exI (.store t (.const (p x)) (.const (u x)))).run P v=.ok .skip w'∧Q .normal (FW l kp a0 x) w')(hr:(fun x=>execOp (FW l kp a0 x).eval (opW l n))=fun x=>exI (.store t (.const (p x)) (.const (u x))):=by kernel_rfl):TlW P l kp a0 W Q n:=fun x v d h=>by
 obtain⟨w',f,i⟩:=hf x v d h;exact⟨w',by rw[show execOp (FW l kp a0 x).eval (opW l n)=_ from congrFun hr x];exact f,i⟩
end
theorem RtW.c{P:Program}{f:FuncId}{args:Array Value}{w:World}{v:Value}(h:Calls P f args w fun e w'=>e=.returned v∧Gr w w'):Calls P f args w (RtW (.c v) w):=h.mono fun _ _ ⟨e,g⟩=>⟨fun _=>(none,0),e,trivial,g⟩
theorem RtW.same{P:Program}{f:FuncId}{args:Array Value}{w:World}{v:Value}(h:Calls P f args w fun e w'=>e=.returned v∧w'=w):Calls P f args w (RtW (.c v) w):=h.mono fun _ _ ⟨e,g⟩=>⟨fun _=>(none,0),e,trivial,by rw[g];exact Gr.refl _⟩
theorem RtW.n{P:Program}{f:FuncId}{args:Array Value}{w:World}{x:Nat}(h:Calls P f args w (Nm x w)):Calls P f args w (RtW (.n x) w):=h.mono fun _ _ ⟨p,n,e,s,g⟩=>⟨fun _=>(p,n),e,s,g⟩
theorem RtW.of_n{P:Program}{f:FuncId}{args:Array Value}{w:World}{x:Nat}(h:Calls P f args w (Rt (.n x) w)):Calls P f args w (RtW (.n x) w):=h.mono fun _ _ ⟨_,e,⟨p,n,d,s⟩,g⟩=>⟨fun _=>(p,n),by rw[e,d];rfl,s,g⟩
theorem RtW.of_c{P:Program}{f:FuncId}{args:Array Value}{w:World}{v:Value}(h:Calls P f args w (Rt (.c v) w)):Calls P f args w (RtW (.c v) w):=h.mono fun _ _ ⟨_,e,d,g⟩=>⟨fun _=>(none,0),(show _=v from d)▸e,trivial,g⟩
theorem RtW.of_nb{P:Program}{f:FuncId}{args:Array Value}{w:World}{x:Nat}{b:Bool}(h:Calls P f args w (Rt (.nb x b) w)):Calls P f args w (RtW (.nb x b) w):=h.mono fun _ _ ⟨_,e,⟨p,n,d,s⟩,g⟩=>⟨fun _=>(p,n),by rw[e,d];rfl,s,g⟩
theorem RtW.of_pt{P:Program}{f:FuncId}{args:Array Value}{w:World}{x z:Nat}{b:Bool}(h:Calls P f args w (Rt (.pt x z b) w)):Calls P f args w (RtW (.pt x z b) w):=h.mono fun _ _ ⟨_,e,⟨p,n,q,m,d,s,t⟩,g⟩=>⟨fun i=>if i=0 then(p,n) else(q,m),by rw[e,d];rfl,⟨s,t⟩,g⟩
abbrev Kw.E(v:Value):Kw:=.c (.tuple #[v,.int .i64 0])
abbrev Kw.N(x:Nat):Kw:=.c (.agg (nw 9 x))
abbrev Kw.T:Kw:=.c (.bool true)
abbrev Kw.F:Kw:=.c (.bool false)
abbrev Kw.O:Kw:=.c (.int .i64 0)
theorem fzw:(∀(l:List Oper) (kp:List Kw) (a:Act) (x:Nat→Wt),FW l kp a x=putFrom (wvals kp x) 0 l a)∧(∀(v:Nat→Value) (k:Nat) (a:Act),putFrom v k [] a=a)∧(∀(v:Nat→Value) (k:Nat) (o:Oper) (l:List Oper) (a:Act),putFrom v k (o :: l) a=putFrom v (k+1) l (a.put o.dst (v k)))∧(∀t f (d:Tmp) (v:Value),Act.put ⟨t,f⟩ (some d) v=⟨t.setIfInBounds d v,f⟩)∧(∀(a:Act) (v:Value),a.put none v=a)∧(∀(l:List Value) (i:Nat) (a:Value),l.toArray.setIfInBounds i a=(l.set i a).toArray)∧(∀(x a:Value) (l:List Value),(x :: l).set 0 a=a :: l)∧(∀(x a:Value) (l:List Value) (i:Nat),(x :: l).set (i+1) a=x :: l.set i a)∧(∀(kp:List Kw) (x:Nat→Wt) (j:Nat),wvals kp x j=(kW kp j).val (x j))∧(∀(kp:List Kw) (i:Nat),kW kp i=kp.getD i .u)∧(∀(x d:Kw) (l:List Kw),(x :: l).getD 0 d=x)∧(∀(x d:Kw) (l:List Kw) (i:Nat),(x :: l).getD (i+1) d=l.getD i d)∧(∀v y,(Kw.c v).val y=v)∧(∀y,Kw.u.val y=undef)∧(∀x y,(Kw.n x).val y=.slice (y 0).1 (dl x) (y 0).2)∧(∀x f y,(Kw.nb x f).val y=.tuple #[.slice (y 0).1 (dl x) (y 0).2,.bool f])∧(∀x z f y,(Kw.pt x z f).val y=.agg (ptA (y 0).1 x (y 0).2 (y 1).1 z (y 1).2 f))∧(∀n c y,(Kw.v n c).val y=.pointer (some ⟨(y 0).2,0,none⟩))∧(∀x y,(Kw.N x).val y=.agg (nw 9 x))∧(∀y,Kw.T.val y=.bool true)∧(∀y,Kw.F.val y=.bool false)∧(∀y,Kw.O.val y=.int .i64 0)∧(∀v y,(Kw.E v).val y=.tuple #[v,.int .i64 0]):=by
 refine⟨?_,?_,?_,?_,?_,?_,?_,?_,?_,?_,?_,?_,?_,?_,?_,?_,?_,?_,?_,?_,?_,?_,?_⟩
 all_goals intros;first|rfl|simp
theorem ObW.z{P:Program}{l:List Oper}{a0:Act}{W:World}{kp:List Kw}{i:Nat}{f:FuncId}{a:Array Value}{c:Value}(h:∀v,Calls P f a v fun e w'=>e=.returned c∧Gr v w')(hk:kW kp i=.c c:=by rfl)(hr:(fun x v=>resW P l kp a0 x v i)=fun _ v=>some (.ok (.enter f a) v):=by kernel_rfl):ObW P l kp a0 W i:=ObW.k (fun _=>a) (fun _ v _ _=>by rw[hk];exact RtW.of_c (Rt.c (h v))) hr
theorem ObW.y{P:Program}{l:List Oper}{a0:Act}{W:World}{kp:List Kw}{i:Nat}{f:FuncId}{a:Array Value}{c:Value}(h:∀v,Calls P f a v fun e w'=>e=.returned c∧w'=v)(hk:kW kp i=.c c:=by rfl)(hr:(fun x v=>resW P l kp a0 x v i)=fun _ v=>some (.ok (.enter f a) v):=by kernel_rfl):ObW P l kp a0 W i:=ObW.k (fun _=>a) (fun _ v _ _=>by rw[hk];exact RtW.of_c (Rt.same (h v))) hr
end
section
def Kw.a:Kw:=⟨fun y=>.pointer (some ⟨(y 0).2,0,none⟩),fun _ _=>True,fun _ _ _ _ _=>trivial,0,fun _ _ _=>trivial,fun h=>absurd h (by decide)⟩
def Kw.r(n:Nat)(c:Array Value):Kw:=⟨fun y=>.slice (some ⟨(y 0).2,0,none⟩) n n,fun y w=>Vr w (y 0).2 c,fun _ _ _ h g=>h.gr g,0,fun h=>absurd rfl h,fun h=>absurd h (by decide)⟩
theorem ObW.r{P:Program}{l:List Oper}{a0:Act}{W:World}{kp:List Kw}{i n:Nat}{t:TypeId}{c:Array Value}(op:Op)(hk:kW kp i=.r n c)(hc:∀v:World,(exI op).run P v=.ok (.value (.slice (some ⟨v.heap.size,0,none⟩) n n)) (v.alloc (.cells c t)))(hr:runW l kp a0 i=fun _=>some (exI op):=by kernel_rfl):ObW P l kp a0 W i:=
 ObW.e (fun _=>exI op) hr fun _ v d _=>⟨fun _=>(none,v.heap.size),_,by rw[hk];exact hc v,(Gr.refl _).alloc _,by rw[hk];exact Vr.new _ _ _⟩
structure Ent where
 j:Nat
 i:Nat
 t:TypeId
 z:Array Value
 c:(Nat→Wt)→Array Value
def Blank(c:Array Value):Prop:=∀(i:Nat) (n:Int),c[i]? ≠ some (Value.int .u32 n)
def FarK(z:Array Value)(k:Kw):Prop:=∀y w b d,blk w b=z→k.ok y w→k.ok y (setBlk w b d)
section
variable {z:Array Value}
theorem fkc{v:Value}:FarK z (.c v):=fun _ _ _ _ _ _=>trivial
theorem fku:FarK z .u:=fun _ _ _ _ _ _=>trivial
theorem fka:FarK z .a:=fun _ _ _ _ _ _=>trivial
theorem fkn{x:Nat}(h:Blank z):FarK z (.n x):=fun _ _ _ _ e k=>Sl.set k (e▸h)
theorem fkp{x y:Nat}{f:Bool}(h:Blank z):FarK z (.pt x y f):=fun _ _ _ _ e k=>⟨Sl.set k.1 (e▸h),Sl.set k.2 (e▸h)⟩
theorem fkr{n:Nat}{c:Array Value}(h:c.size≠z.size):FarK z (.r n c):=fun _ _ _ _ e k=>k.other fun d=>h (by rw[←e,d,k.h])
end
def FarL(z:Array Value):List Kw→Prop
 | []=>True
 | k :: r=>FarK z k∧FarL z r
theorem FarL.at{z:Array Value}:∀{kp:List Kw},FarL z kp→∀i,FarK z (kW kp i)
 | [],_,_=>fku
 | _ :: _,h,0=>h.1
 | _ :: r,h,i+1=>FarL.at (kp:=r) h.2 i
def ExV(ex:List Nat)(st:List Ent):List Nat:=ex++st.map Ent.j++st.map Ent.i
structure ObV(P:Program)(l:List Oper)(kp:List Kw)(a0:Act)(e:Ent):Prop where
 hc:∀x x',(∀j,wts l e.i j=true→(kW kp j).val (x j)=(kW kp j).val (x' j))→e.c x=e.c x'
 hs:∀x v b,blk v b=e.z→frz v b=(0,0)→(exI (.store e.t (.const (.pointer (some ⟨b,0,none⟩))) (.const (.agg (e.c x))))).run P v=.ok .skip (setBlk v b (e.c x))
 hz:0<e.z.size
 hf:FarL e.z kp
 hn:∀v:World,(exI (.alloc e.t)).run P v=.ok (.value (.pointer (some ⟨v.heap.size,0,none⟩))) (v.alloc (.cells e.z e.t)):=by intro vv;simp[go_sem,exI]
 ka:kW kp e.j=.a:=by rfl
 ku:kW kp e.i=.u:=by rfl
 hw:wts l e.i e.j=true:=by rfl
 rj:runW l kp a0 e.j=fun _=>some (exI (.alloc e.t)):=by kernel_rfl
 ri:runW l kp a0 e.i=fun x=>some (exI (.store e.t (.const (.pointer (some ⟨(x e.j 0).2,0,none⟩))) (.const (.agg (e.c x))))):=by kernel_rfl
structure ObY(P:Program)(l:List Oper)(kp:List Kw)(a0:Act)(e:Ent):Prop where
 hc:∀x x',(∀j,wts l e.i j=true→(kW kp j).val (x j)=(kW kp j).val (x' j))→e.c x=e.c x'
 hs:∀x v b,blk v b=e.z→frz v b=(0,0)→(exI (.store e.t (.const (.pointer (some ⟨b,0,none⟩))) (.const (.agg (e.c x))))).run P v=.ok .skip (setBlk v b (e.c x))
 hz:0<e.z.size
 hn:∀v:World,(exI (.alloc e.t)).run P v=.ok (.value (.pointer (some ⟨v.heap.size,0,none⟩))) (v.alloc (.cells e.z e.t)):=by intro vv;simp[go_sem,exI]
 ka:kW kp e.j=.a:=by rfl
 ku:kW kp e.i=.u:=by rfl
 hw:wts l e.i e.j=true:=by rfl
 rj:runW l kp a0 e.j=fun _=>some (exI (.alloc e.t)):=by kernel_rfl
 ri:runW l kp a0 e.i=fun x=>some (exI (.store e.t (.const (.pointer (some ⟨(x e.j 0).2,0,none⟩))) (.const (.agg (e.c x))))):=by kernel_rfl
theorem ObV.y{P:Program}{l:List Oper}{kp:List Kw}{a0:Act}{e:Ent}(h:ObV P l kp a0 e):ObY P l kp a0 e:=⟨h.hc,h.hs,h.hz,h.hn,h.ka,h.ku,h.hw,h.rj,h.ri⟩
def ForY{α:Type}(p:α→Prop):List α→Prop
 | []=>True
 | e :: r=>p e∧ForY p r
theorem ForY.nil{α:Type}{p:α→Prop}:ForY p []:=trivial
theorem ForY.cons{α:Type}{p:α→Prop}{e:α}{r:List α}(h:p e)(t:ForY p r):ForY p (e :: r):=⟨h,t⟩
theorem ForY.at{α:Type}{p:α→Prop}:∀{st:List α},ForY p st→∀e,e∈st→p e
 | [],_,_,h=>by cases h
 | e :: r,ho,e',h=>by
  rcases List.mem_cons.1 h with rfl|h
  ·exact ho.1
  ·exact ForY.at ho.2 e' h
def ObR(P:Program)(l:List Oper)(kp:List Kw)(a0:Act)(i:Nat):Prop:=
 ∃n c t op,kW kp i=.r n c∧(∀v:World,(exI op).run P v=.ok (.value (.slice (some ⟨v.heap.size,0,none⟩) n n)) (v.alloc (.cells c t)))∧runW l kp a0 i=fun _=>some (exI op)
theorem ObR.r{P:Program}{l:List Oper}{a0:Act}{kp:List Kw}{i n:Nat}{t:TypeId}{c:Array Value}(op:Op)(hk:kW kp i=.r n c)(hc:∀v:World,(exI op).run P v=.ok (.value (.slice (some ⟨v.heap.size,0,none⟩) n n)) (v.alloc (.cells c t)))(hr:runW l kp a0 i=fun _=>some (exI op):=by kernel_rfl):ObR P l kp a0 i:=⟨n,c,t,op,hk,hc,hr⟩
def Sep(st:List Ent)(rw:List Nat)(listed:Array Bool)(vals:Nat→Value):Prop:=
 ∀e,e∈st→listed.getD e.j false=true→∀j,j∈rw→listed.getD j false=true→∀b' b n c,vals e.j=.pointer (some ⟨b',0,none⟩)→vals j=.slice (some ⟨b,0,none⟩) n c→b'≠b
def ObsV(P:Program)(l:List Oper)(kp:List Kw)(a0:Act):List Ent→Prop
 | []=>True
 | e :: r=>ObV P l kp a0 e∧ObsV P l kp a0 r
theorem ObsV.nil{P:Program}{l:List Oper}{kp:List Kw}{a0:Act}:ObsV P l kp a0 []:=trivial
theorem ObsV.cons{P:Program}{l:List Oper}{kp:List Kw}{a0:Act}{e:Ent}{r:List Ent}(h:ObV P l kp a0 e)(t:ObsV P l kp a0 r):ObsV P l kp a0 (e :: r):=⟨h,t⟩
theorem ObsV.at{P:Program}{l:List Oper}{kp:List Kw}{a0:Act}:∀{st:List Ent},ObsV P l kp a0 st→∀e,e∈st→ObV P l kp a0 e
 | [],_,_,h=>by cases h
 | e :: r,ho,e',h=>by
  rcases List.mem_cons.1 h with rfl|h
  ·exact ho.1
  ·exact ObsV.at ho.2 e' h
theorem map_one{α:Type}(f:α→Nat):∀{st:List α},(st.map f).Nodup→∀e e',e∈st→e'∈st→f e=f e'→e=e'
 | [],_,_,_,h,_,_=>by cases h
 | a :: r,hn,e,e',h,h',he=>by
  rw[List.map_cons,List.nodup_cons]at hn
  rcases List.mem_cons.1 h with h1|h1 <;> rcases List.mem_cons.1 h' with h2|h2
  ·rw[h1,h2]
  ·rw[h1]at he;exact absurd (he▸List.mem_map_of_mem h2) hn.1
  ·rw[h2]at he;exact absurd (he▸List.mem_map_of_mem h1) hn.1
  ·exact map_one f hn.2 e e' h1 h2 he
def RV(W:World)(l:List Oper)(kp:List Kw)(st:List Ent)(listed:Array Bool)(vals:Nat→Value)(w:World):Prop:=
 RZ W (kp.map Kw.kz) listed vals w∧(∀e,e∈st→listed.getD e.i false=true→∀j,wts l e.i j=true→listed.getD j false=true) ∧
 ∃B:Nat→Nat,(∀e,e∈st→listed.getD e.j false=true→vals e.j=.pointer (some ⟨B e.j,0,none⟩)∧W.heap.size≤B e.j∧B e.j<w.heap.size∧frz w (B e.j)=(0,0) ∧
  (listed.getD e.i false=false→blk w (B e.j)=e.z)∧(listed.getD e.i false=true→∃x:Nat→Wt,(∀j,wts l e.i j=true→vals j=(kW kp j).val (x j))∧blk w (B e.j)=e.c x)) ∧
  (∀e e',e∈st→e'∈st→listed.getD e.j false=true→listed.getD e'.j false=true→B e.j=B e'.j→e=e')
section
variable {P:Program} {l:List Oper} {Q:Exit→Act→World→Prop} {a0:Act} {W:World} {kp:List Kw} {ex rw:List Nat} {st:List Ent} {listed:Array Bool} {vals:Nat→Value} {w w':World}
theorem set_mono{i j:Nat}(h:listed.getD j false=true)(hi:i<listed.size):(listed.setIfInBounds i true).getD j false=true:=by
 grind [getD_set_same,getD_set_other]
theorem ne_un{i j:Nat}(h:listed.getD j false=true)(hl:listed.getD i false=false):j≠i:=fun e=>by
 subst e;rw[h]at hl;cases hl
theorem RV.next(h:RV W l kp st listed vals w){i:Nat}{v:Value}(hi:i<listed.size)(hl:listed.getD i false=false)(hA:∀e,e∈st→e.j≠i∧e.i≠i)(hg:Gr w w')(hv:kz (kp.map Kw.kz) i v w'):
 RV W l kp st (listed.setIfInBounds i true) (upd vals i v) w':=by
 obtain⟨K,G,B,L,P⟩:=h
 refine⟨K.next hg hv,fun e d f j C=>?_,B,fun e d q=>?_,fun e H d A I J=>?_⟩
 ·rw[getD_set_other _ _ _ (Ne.symm (hA e d).2)]at f;exact set_mono (G e d f j C) hi
 ·rw[getD_set_other _ _ _ (Ne.symm (hA e d).1)]at q;obtain⟨Q,S,D,U,V,X⟩:=L e d q
  refine⟨by simp only[upd,(hA e d).1,if_false];exact Q,S,Nat.lt_of_lt_of_le D hg.below.size,by rw[hg.frz _ D];exact U,fun h=>?_,fun h=>?_⟩
  ·rw[getD_set_other _ _ _ (Ne.symm (hA e d).2)]at h;rw[hg.blk _ D];exact V h
  ·rw[getD_set_other _ _ _ (Ne.symm (hA e d).2)]at h;obtain⟨x,Y,Z⟩:=X h;refine⟨x,fun j C=>?_,by rw[hg.blk _ D];exact Z⟩;simp only[upd,ne_un (G e d h j C) hl,if_false];exact Y j C
 ·rw[getD_set_other _ _ _ (Ne.symm (hA e d).1)]at I;rw[getD_set_other _ _ _ (Ne.symm (hA H A).1)]at J;exact P e H d A I J
theorem RV.alloc(h:RV W l kp st listed vals w)(e:Ent)(he:e∈st)(hj1:(st.map Ent.j).Nodup)(hij:∀e e',e∈st→e'∈st→e.i≠e'.j)(hw:wts l e.i e.j=true)(hi:e.j<listed.size)(hl:listed.getD e.j false=false)(hk:e.j<kp.length)(ka:kW kp e.j=.a):
 RV W l kp st (listed.setIfInBounds e.j true) (upd vals e.j (.pointer (some ⟨w.heap.size,0,none⟩))) (w.alloc (.cells e.z e.t)):=by
 obtain⟨V,Q,B,S,X⟩:=h;have A:Gr w (w.alloc (.cells e.z e.t)):=(Gr.refl w).alloc _
 have U:listed.getD e.i false≠true:=fun h=>by rw[Q e he h e.j hw]at hl;cases hl
 refine⟨V.next A ((kz_W hk _ _).2 ⟨fun _=>(none,w.heap.size),by rw[ka];rfl,by rw[ka];trivial⟩),fun e' d C j G=>?_,fun m=>if m=e.j then w.heap.size else B m,fun e' d D=>?_,fun H I f q J K L=>?_⟩
 ·rw[getD_set_other _ _ _ (Ne.symm (hij e' e d he))]at C;exact set_mono (Q e' d C j G) hi
 ·by_cases ee:e'.j=e.j
  ·obtain rfl:=map_one Ent.j hj1 e' e d he ee;simp only[if_true,upd];refine⟨trivial,V.1.below.size,by simp,frz_alloc_at _ _ _ _ _ rfl,fun _=>blk_alloc_at _ _ _ _ _ rfl,fun h=>?_⟩;rw[getD_set_other _ _ _ (Ne.symm (hij e' e' d d))]at h;exact absurd h U
  ·rw[getD_set_other _ _ _ (Ne.symm ee)]at D;obtain⟨Y,Z,P,a4,a5,a6⟩:=S e' d D;simp only[ee,if_false,upd]
   refine⟨Y,Z,Nat.lt_of_lt_of_le P A.below.size,by rw[A.frz _ P];exact a4,fun h=>?_,fun h=>?_⟩
   ·rw[getD_set_other _ _ _ (Ne.symm (hij e' e d he))]at h;rw[A.blk _ P];exact a5 h
   ·rw[getD_set_other _ _ _ (Ne.symm (hij e' e d he))]at h;obtain⟨x,hx,hb⟩:=a6 h;refine⟨x,fun j G=>?_,by rw[A.blk _ P];exact hb⟩;simp only[ne_un (Q e' d h j G) hl,if_false];exact hx j G
 ·by_cases x1:H.j=e.j <;> by_cases x2:I.j=e.j
  ·exact map_one Ent.j hj1 H I f q (x1.trans x2.symm)
  ·rw[getD_set_other _ _ _ (Ne.symm x2)]at K;simp only[x1,x2,if_true,if_false]at L;have:=(S I q K).2.2.1
   omega
  ·rw[getD_set_other _ _ _ (Ne.symm x1)]at J;simp only[x1,x2,if_true,if_false]at L;have:=(S H f J).2.2.1
   omega
  ·rw[getD_set_other _ _ _ (Ne.symm x1)]at J;rw[getD_set_other _ _ _ (Ne.symm x2)]at K;simp only[x1,x2,if_false]at L;exact X H I f q J K L
theorem RV.at(h:RV W l kp st listed vals w){e:Ent}(hl:listed.getD e.j false=true)(he:e∈st){b:Nat}(hv:vals e.j=.pointer (some ⟨b,0,none⟩))(hi:listed.getD e.i false=false):blk w b=e.z:=by
 obtain⟨-,-,B,f,-⟩:=h;obtain⟨d,-,-,-,q,-⟩:=f e he hl;rw[hv]at d;simp only[Value.pointer.injEq,Option.some.injEq,Addr.mk.injEq]at d;rw[d.1];exact q hi
theorem RV.storeY(h:RV W l kp st listed vals w)(e:Ent)(he:e∈st)(hi1:(st.map Ent.i).Nodup)(hij:∀e e',e∈st→e'∈st→e.i≠e'.j)(hlen:listed.size≤kp.length)(hi:e.i<listed.size)(hl:listed.getD e.i false=false)(ku:kW kp e.i=.u)(hz:0<e.z.size)(x:Nat→Wt)(hx:∀j,wts l e.i j=true→listed.getD j false=true∧vals j=(kW kp j).val (x j))(hw:wts l e.i e.j=true)(ka:kW kp e.j=.a)(hkeep:∀j y,listed.getD j false=true→vals j=(kW kp j).val y→(kW kp j).ok y w→(kW kp j).ok y (setBlk w (x e.j 0).2 (e.c x))):
 blk w (x e.j 0).2=e.z∧frz w (x e.j 0).2=(0,0)∧RV W l kp st (listed.setIfInBounds e.i true) (upd vals e.i undef) (setBlk w (x e.j 0).2 (e.c x)):=by
 obtain⟨U,V,B,X,L⟩:=h;obtain⟨A,P⟩:=hx e.j hw;obtain⟨Y,a2,a3,a4,a5,a6⟩:=X e he A
 have hB:(x e.j 0).2=B e.j:=by
  rw[P,ka]at Y
  simpa [Kw.a]using Y
 rw[hB]at hkeep ⊢;have Z:=a5 hl
 refine⟨Z,a4,⟨gr_setNew U.1 a2,fun j q=>?_⟩,fun e' d D j q=>?_,B,fun e' d f=>?_,fun e1 e2 G H I K h7=>?_⟩
 ·by_cases ee:j=e.i
  ·subst ee
   refine(kz_W (by omega) _ _).2 ⟨fun _=>(none,0),?_,?_⟩
   ·rw[ku];simp only[upd,if_true];rfl
   ·rw[ku];trivial
  ·rw[getD_set_other _ _ _ (Ne.symm ee)]at q;simp only[upd,ee,if_false]
   have J:j<kp.length:=by
    rcases Nat.lt_or_ge j listed.size with h|h
    ·omega
    ·simp[h]at q
   obtain⟨y,I,K⟩:=(kz_W J _ _).1 (U.2 j q);exact(kz_W J _ _).2 ⟨y,I,hkeep j y q I K⟩
 ·by_cases ee:e'.i=e.i
  ·obtain rfl:=map_one Ent.i hi1 e' e d he ee;exact set_mono (hx j q).1 hi
  ·rw[getD_set_other _ _ _ (Ne.symm ee)]at D;exact set_mono (V e' d D j q) hi
 ·rw[getD_set_other _ _ _ (hij e e' he d)]at f;obtain⟨b1,b2,b3,b4,b5,b6⟩:=X e' d f
  refine⟨by simp only[upd,Ne.symm (hij e e' he d),if_false];exact b1,b2,by rw[size_setBlk];exact b3,by rw[frz_setBlk];exact b4,fun h=>?_,fun h=>?_⟩
  ·by_cases ee:e'.i=e.i
   ·rw[ee,getD_set_same _ _ hi]at h;cases h
   ·rw[getD_set_other _ _ _ (Ne.symm ee)]at h;have C:B e.j≠B e'.j:=fun Q=>ee (by rw[L e e' he d A f Q]);rw[blk_other _ _ _ _ C];exact b5 h
  ·by_cases ee:e'.i=e.i
   ·obtain rfl:=map_one Ent.i hi1 e' e d he ee;refine⟨x,fun j q=>?_,blk_setBlk _ _ _ (by rw[Z];exact hz)⟩;simp only[upd,ne_un (hx j q).1 hl,if_false];exact(hx j q).2
   ·rw[getD_set_other _ _ _ (Ne.symm ee)]at h;have C:B e.j≠B e'.j:=fun Q=>ee (by rw[L e e' he d A f Q]);obtain⟨y,hy,S⟩:=b6 h;refine⟨y,fun j q=>?_,by rw[blk_other _ _ _ _ C];exact S⟩;simp only[upd,ne_un (V e' d h j q) hl,if_false];exact hy j q
 ·rw[getD_set_other _ _ _ (hij e e1 he G)]at I;rw[getD_set_other _ _ _ (hij e e2 he H)]at K;exact L e1 e2 G H I K h7
theorem Sep.next(h:Sep st rw listed vals){i:Nat}{v:Value}(hA:∀e,e∈st→e.j≠i)(hr:i ∉ rw):Sep st rw (listed.setIfInBounds i true) (upd vals i v):=fun e f q j x A D b n c B C=>by
 have d:j≠i:=fun e=>hr (e▸x);rw[getD_set_other _ _ _ (Ne.symm (hA e f))]at q;rw[getD_set_other _ _ _ (Ne.symm d)]at A;simp only[upd,hA e f,if_false]at B;simp only[upd,d,if_false]at C;exact h e f q j x A D b n c B C
theorem row_at(hR:RZ W (kp.map Kw.kz) listed vals w){j:Nat}(hj:listed.getD j false=true)(hl:j<kp.length){n:Nat}{c:Array Value}(hk:kW kp j=.r n c){b m q:Nat}(hv:vals j=.slice (some ⟨b,0,none⟩) m q):Vr w b c:=by
 obtain⟨y,d,f⟩:=(kz_W hl _ _).1 (hR.2 j hj)
 grind [Kw.r]
theorem run_W{i:Nat}{x:Nat→Wt}{e:(Nat→Wt)→Sem Next}(h:runW l kp a0 i=fun x=>some (e x)):wnt l i (FW l kp a0 x)=true∧execOp (FW l kp a0 x).eval (opW l i)=e x:=by
 have:=congrFun h x
 grind [runW]
theorem stepG(d:Bool)(hk:chkW l kp (ExV (ex++rw) st) l.length=true)(hp:pureL P l kp a0 (ExV (ex++rw) st) l.length=pureR kp (ExV (ex++rw) st) l.length)(ho:ObsW P l kp a0 W ex)(hrw:ForY (ObR P l kp a0) rw)(hv:∀e,e∈st→ObY P l kp a0 e)(hfar:∀e,e∈st→∀j,j<l.length→j∈rw∨FarK e.z (kW kp j))(hyj:∀j,j∈rw→∀e,e∈st→e.j≠j∧e.i≠j)(hnd:(st.map Ent.j).Nodup∧(st.map Ent.i).Nodup∧∀a,a∈st.map Ent.i→∀b,b∈st.map Ent.j→a≠b):StepR d P l Q a0 (fun listed vals w=>RV W l kp st listed vals w∧Sep st rw listed vals):=by
 intro listed vals a w i o hz ah hF hi hl hd _;obtain⟨I,hS⟩:=ah
 have V:i<l.length:=by simpa using (Array.getElem?_eq_some_iff.1 hi).1
 have L:i<listed.size:=by rw[hz];simpa using V
 have ac:=(chk_u hk).2;have X:=opW_is hi;have Y:∀e e',e∈st→e'∈st→e.i≠e'.j:=fun e e' f q=>hnd.2.2 _ (List.mem_map_of_mem f) _ (List.mem_map_of_mem q);obtain⟨x,hx,Z,aa⟩:=atW hk I.1.2 hF hi V hd;rw[aa];have ai:=fun(u:Value) (v:World)=>kz_W (kp:=kp) (j:=i) (by omega) u v
 have ae:∀j,listed.getD j false=true→j<kp.length:=fun j J=>by
  rcases Nat.lt_or_ge j listed.size with h|h
  ·rw[hz]at h;simp at h;omega
  ·simp[h]at J
 by_cases hA:∃e,e∈st∧e.j=i
 ·obtain⟨e,f,rfl⟩:=hA;have C:=hv e f;obtain⟨D,S⟩:=run_W C.rj;refine Or.inl ⟨D,wp_val _ (by rw[Z,←X,S];exact C.hn w) ⟨_,rfl,I.alloc e f hnd.1 Y C.hw L hl (by omega) C.ka,fun e' q U j J K b' b n c G h8=>?_⟩⟩;have A:=(hyj j J e f).1;rw[getD_set_other _ _ _ A]at K;simp only[upd,Ne.symm A,if_false]at h8
  by_cases ee:e'.j=e.j
  ·simp only[upd,ee,if_true,Value.pointer.injEq,Option.some.injEq,Addr.mk.injEq]at G;obtain⟨n',c',t',aj,ab,-,-⟩:=hrw.at j J;have:b+1≤w.heap.size:=(row_at I.1 K (ae j K) ab h8).p
   omega
  ·rw[getD_set_other _ _ _ (Ne.symm ee)]at U;simp only[upd,ee,if_false]at G;exact hS e' q U j J K b' b n c G h8
 by_cases hB:∃e,e∈st∧e.i=i
 ·obtain⟨e,f,rfl⟩:=hB;have C:=hv e f;obtain⟨D,S⟩:=run_W C.ri;have A:=hx e.j C.hw
  obtain⟨hb,hf,ak⟩:=I.storeY e f hnd.2.1 Y (by rw[hz];simp[ac]) L hl C.ku C.hz x (fun j J=>⟨(hx j J).1,(hx j J).2.1⟩) C.hw C.ka (fun j y U K G=>by
   rcases hfar e f j (by have:=ae j U;omega) with hjr|hfk
   ·obtain⟨n',c',t',aj,ab,-,-⟩:=hrw.at j hjr;rw[ab]at K G ⊢;exact G.other (hS e f A.1 j hjr U _ _ _ _ (by rw[A.2.1,C.ka];rfl) K)
   ·exact hfk y w _ _ (I.at A.1 f (by rw[A.2.1,C.ka];rfl) hl) G)
  exact Or.inl ⟨D,wp_skip (by rw[Z,←X,S];exact C.hs x w _ hb hf) ⟨_,rfl,ak,hS.next (fun e' q=>Ne.symm (Y e e' f q)) fun h=>(hyj _ h e f).2 rfl⟩⟩
 have H:∀e,e∈st→e.j≠i∧e.i≠i:=fun e f=>⟨fun h=>hA ⟨e,f,h⟩,fun h=>hB ⟨e,f,h⟩⟩
 by_cases hmr:i∈rw
 ·obtain⟨n,c,t,op,af,ag,hr⟩:=hrw.at i hmr;obtain⟨D,S⟩:=run_W hr;refine Or.inl ⟨D,wp_val _ (by rw[Z,←X,S];exact ag w) ⟨_,rfl,I.next L hl H ((Gr.refl w).alloc _) ((ai _ _).2 ⟨fun _=>(none,w.heap.size),by rw[af];rfl,by rw[af];exact Vr.new _ _ _⟩),fun e' q U j J K b' b n c G h8=>?_⟩⟩;rw[getD_set_other _ _ _ (Ne.symm (H e' q).1)]at U;simp only[upd,(H e' q).1,if_false]at G
  by_cases ee:j=i
  ·subst ee;simp only[upd,if_true,Value.slice.injEq,Option.some.injEq,Addr.mk.injEq]at h8;obtain⟨-,-,B,h3,-⟩:=I;obtain⟨a1,-,a3,-⟩:=h3 e' q U;rw[G]at a1;simp only[Value.pointer.injEq,Option.some.injEq,Addr.mk.injEq]at a1
   omega
  ·rw[getD_set_other _ _ _ (Ne.symm ee)]at K;simp only[upd,ee,if_false]at h8;exact hS e' q U j J K b' b _ _ G h8
 have nx:∀v w',Gr w w'→kz (kp.map Kw.kz) i v w'→RV W l kp st (listed.setIfInBounds i true) (upd vals i v) w'∧Sep st rw (listed.setIfInBounds i true) (upd vals i v):=fun v w' hg h=>⟨I.next L hl H hg h,hS.next (fun e f=>(H e f).1) hmr⟩
 have ao:i∈ExV (ex++rw) st→ObW P l kp a0 W i:=fun h=>by
  unfold ExV at h;rw[List.mem_append,List.mem_append,List.mem_append]at h
  rcases h with ((h|h)|h)|h
  ·exact ho.at i h
  ·exact absurd h hmr
  ·obtain⟨e,f,h⟩:=List.mem_map.1 h;exact absurd ⟨e,f,h⟩ hA
  ·obtain⟨e,f,h⟩:=List.mem_map.1 h;exact absurd ⟨e,f,h⟩ hB
 obtain⟨D,S⟩|⟨D,S⟩:=stepW hk hp listed vals a w i o ao I.1.1 I.1.2 hF hi V hd
 ·rw[aa]at D;refine Or.inl ⟨D,Oper.wp_mono (fun a' w' h=>?_) S⟩;obtain⟨u,rfl,hg,hu⟩:=h;exact⟨u,rfl,nx u w' hg hu⟩
 ·rw[aa]at D;exact Or.inr ⟨D,nx _ _ (Gr.refl _) S⟩
def NewV(W:World)(x:Nat→Wt)(v:World):List Ent→Prop
 | []=>True
 | e :: r=>(W.heap.size≤(x e.j 0).2∧Vr v (x e.j 0).2 (e.c x))∧NewV W x v r
theorem NewV.of{x:Nat→Wt}{v:World}:∀{st:List Ent},(∀e,e∈st→W.heap.size≤(x e.j 0).2∧Vr v (x e.j 0).2 (e.c x))→NewV W x v st
 | [],_=>trivial
 | e :: _,h=>⟨h e (List.mem_cons_self ..),NewV.of fun e' he'=>h e' (List.mem_cons_of_mem _ he')⟩
def chkV(st:List Ent):Bool:=decide (st.map Ent.j).Nodup&&decide (st.map Ent.i).Nodup&&((st.map Ent.i).all fun a=>(st.map Ent.j).all fun b=>a != b)
theorem wp_g(d:Bool){id:Nat}(kp:List Kw)(ex rw:List Nat)(st:List Ent)(ho:ObsW P l kp a0 W ex)(hr:ForY (ObR P l kp a0) rw)(hv:∀e,e∈st→ObY P l kp a0 e)(hfar:∀e,e∈st→∀j,j<l.length→j∈rw∨FarK e.z (kW kp j))(hyj:∀j,j∈rw→∀e,e∈st→e.j≠j∧e.i≠j)(hfin:∀x v,Gr W v→(∀j,(kW kp j).ok (x j) v)→NewV W x v st→Q .normal (FW l kp a0 x) v)(hm:(!d || P.follows .mixedOrders)=true)(hk:(chkW l kp (ExV (ex++rw) st) l.length&&chkV st)=true)(hp:pureL P l kp a0 (ExV (ex++rw) st) l.length=pureR kp (ExV (ex++rw) st) l.length):(Code.region id l.toArray d).wp P Q a0 W:=by
 simp only[Bool.and_eq_true]at hk;obtain⟨hk,G⟩:=hk;simp only[chkV,Bool.and_eq_true,decide_eq_true_eq,List.all_eq_true,bne_iff_ne,ne_eq]at G;obtain⟨⟨n1,n2⟩,n3⟩:=G;obtain⟨K,H⟩:=chk_u hk
 refine wp_region_ord d (fun h=>by subst h;simpa using hm) K _ (fun f w' hn hg=>?_) (stepG d hk hp ho hr hv hfar hyj ⟨n1,n2,n3⟩) fun f X a v q L hF=>?_
 ·have I:∀(i:Nat) (p:Prop),f.getD i false=true→p:=fun i p h=>by rw[hn]at h;cases h
  exact⟨⟨⟨hg,fun j A=>I j _ A⟩,fun e _ h=>I e.i _ h,fun _=>0,fun e _ h=>I e.j _ h,fun e _ _ _ h=>I e.j _ h⟩,fun e _ h=>I e.j _ h⟩
 ·rw[hF.final K q];obtain⟨⟨Y,h2,B,h3,-⟩,-⟩:=L;obtain⟨x,C,S⟩:=finW H fun j A=>Y.2 j (q j (by simpa using A));rw[putFrom_congr (vals':=wvals kp x) l 0 a0 fun j o A _=>by rw[Nat.zero_add];exact C j (List.getElem?_eq_some_iff.1 A).1];refine hfin x v Y.1 S (NewV.of fun e Z=>?_);have U:=hv e Z
  have hw:∀j,wts l e.i j=true→j<l.length∧e.i<l.length:=fun j A=>by
   have hi:e.i<l.length:=by
    rcases Nat.lt_or_ge e.i l.length with h|h
    ·exact h
    ·rw[wts,opW,List.getElem?_eq_none (by omega)]at A;simp at A
   have ho:l.toArray[e.i]? = some l[e.i]:=by simp[hi]
   rw[wts,opW_is ho,Array.any_toList]at A;obtain⟨ed,V,J⟩:=Array.any_eq_true.1 A;simp only[Bool.and_eq_true,beq_iff_eq]at J;have:=(uniq_at K ho).2 _ (Array.getElem_mem V) J.2
   omega
  have D:=hw e.j U.hw;obtain⟨a1,a2,a3,a4,-,a6⟩:=h3 e Z (q e.j (by simpa using D.1));obtain⟨y,hy,J⟩:=a6 (q e.i (by simpa using D.2))
  have hB:(x e.j 0).2=B e.j:=by
   rw[C e.j D.1,wvals,U.ka]at a1
   simpa [Kw.a]using a1
  rw[hB];exact⟨a2,by rw[J];exact U.hc y x fun j A=>by rw[←hy j A,C j (hw j A).1];rfl,a4,a3⟩
theorem wp_v(d:Bool){id:Nat}(kp:List Kw)(ex:List Nat)(st:List Ent)(ho:ObsW P l kp a0 W ex)(hv:ObsV P l kp a0 st)(hfin:∀x v,Gr W v→(∀j,(kW kp j).ok (x j) v)→NewV W x v st→Q .normal (FW l kp a0 x) v)(hm:(!d || P.follows .mixedOrders)=true:=by kernel_rfl)(hk:(chkW l kp (ExV ex st) l.length&&chkV st)=true:=by kernel_rfl)(hp:pureL P l kp a0 (ExV ex st) l.length=pureR kp (ExV ex st) l.length:=by kernel_rfl):(Code.region id l.toArray d).wp P Q a0 W:=
 wp_g d kp ex [] st ho .nil (fun e f=>(hv.at e f).y) (fun e f j _=>.inr ((hv.at e f).hf.at j)) (fun j h=>by cases h) hfin hm (by rw[List.append_nil];exact hk) (by rw[List.append_nil];exact hp)
end
theorem gen_v{P:Program}{c:Code}{Q:Exit→Act→World→Prop}{a:Act}{W:World}(R:World→Prop)(h:R W)(k:∀v,R v→c.wp P Q a v):c.wp P Q a W:=k W h
theorem blank_of{c:Array Value}(h:c.all (fun v=>match v with | .int .u32 _=>false|_=>true)=true):Blank c:=fun i n e=>by
 obtain⟨d,f⟩:=Array.getElem?_eq_some_iff.1 e;have:=Array.all_eq_true.1 h i d;rw[f]at this
 cases this
theorem zNat:0<(nw 9 0).size:=by decide +kernel
theorem zWide:0<(nw 18 0).size:=by decide +kernel
theorem FarL.t{z:Array Value}:∀{kp:List Kw},kp.map Kw.ok=kp.map (fun _ _ _=>True)→FarL z kp
 | [],_=>trivial
 | k :: r,h=>⟨fun y w b d _ _=>by have e:k.ok=fun _ _=>True:=(List.cons.inj h).1;rw[e];trivial,FarL.t (List.cons.inj h).2⟩
theorem ObV.k{P:Program}{l:List Oper}{kp:List Kw}{a0:Act}{e:Ent}(hz:0<e.z.size)(hf:FarL e.z kp)(hc:∀x x',(∀j,wts l e.i j=true→(kW kp j).val (x j)=(kW kp j).val (x' j))→e.c x=e.c x':=by intros;rfl)(hs:∀x v b,blk v b=e.z→frz v b=(0,0)→(exI (.store e.t (.const (.pointer (some ⟨b,0,none⟩))) (.const (.agg (e.c x))))).run P v=.ok .skip (setBlk v b (e.c x)):=by intro _ v b H F;dsimp only at H ⊢;simp[go_sem,exI,H,F])(hn:∀v:World,(exI (.alloc e.t)).run P v=.ok (.value (.pointer (some ⟨v.heap.size,0,none⟩))) (v.alloc (.cells e.z e.t)):=by intro vv;simp[go_sem,exI])(ka:kW kp e.j=.a:=by rfl)(ku:kW kp e.i=.u:=by rfl)(hw:wts l e.i e.j=true:=by rfl)(rj:runW l kp a0 e.j=fun _=>some (exI (.alloc e.t)):=by kernel_rfl)(ri:runW l kp a0 e.i=fun x=>some (exI (.store e.t (.const (.pointer (some ⟨(x e.j 0).2,0,none⟩))) (.const (.agg (e.c x))))):=by kernel_rfl):ObV P l kp a0 e:=⟨hc,hs,hz,hf,hn,ka,ku,hw,rj,ri⟩
theorem ObY.k{P:Program}{l:List Oper}{kp:List Kw}{a0:Act}{e:Ent}(hz:0<e.z.size)(hc:∀x x',(∀j,wts l e.i j=true→(kW kp j).val (x j)=(kW kp j).val (x' j))→e.c x=e.c x':=by intros;rfl)(hs:∀x v b,blk v b=e.z→frz v b=(0,0)→(exI (.store e.t (.const (.pointer (some ⟨b,0,none⟩))) (.const (.agg (e.c x))))).run P v=.ok .skip (setBlk v b (e.c x)):=by intro _ v b H F;dsimp only at H ⊢;simp[go_sem,exI,H,F])(hn:∀v:World,(exI (.alloc e.t)).run P v=.ok (.value (.pointer (some ⟨v.heap.size,0,none⟩))) (v.alloc (.cells e.z e.t)):=by intro vv;simp[go_sem,exI])(ka:kW kp e.j=.a:=by rfl)(ku:kW kp e.i=.u:=by rfl)(hw:wts l e.i e.j=true:=by rfl)(rj:runW l kp a0 e.j=fun _=>some (exI (.alloc e.t)):=by kernel_rfl)(ri:runW l kp a0 e.i=fun x=>some (exI (.store e.t (.const (.pointer (some ⟨(x e.j 0).2,0,none⟩))) (.const (.agg (e.c x))))):=by kernel_rfl):ObY P l kp a0 e:=⟨hc,hs,hz,hn,ka,ku,hw,rj,ri⟩
end
section
attribute [local go_sem ↓] uz1
attribute [local go_sem] uz2
section
def mv2(a f:Nat):Array Value:=nw 9 a++nw 9 f
theorem mv2_lo(a f:Nat):(mv2 a f).extract 0 9=nw 9 a:=by kernel_rfl
theorem mv2_hi(a f:Nat):(mv2 a f).extract 9 18=nw 9 f:=by kernel_rfl
theorem mv2_size(a f:Nat):(mv2 a f).size=18:=by kernel_rfl
attribute [local go_sem ↓] uz3
attribute [local go_sem] uz4 ones_nw
attribute [local go_sem ↓] loadMv_is storeMv_is buildMv_is
attribute [local go_sem] loadMv storeMv loadLo loadHi ext_lo ext_hi buildMv2 buildMv1
attribute [local go_sem] mv2_lo mv2_hi mv2_size
theorem less_any(xv xf ov tf:Nat)(hx:xv<M)(hxf:xf<M)(h0:0<ov)(ho:ov<M)(htf:tf<M)(hF:xf+xv/ov*tf<M)(w:World):
 Cg 185 #[.agg (nw 18 (mvN xv xf)),.agg (nw 18 (mvN ov tf))] w (.agg (nw 18 (mvN (xv%ov) (xf+xv/ov*tf)))):=by
 obtain⟨D,n,u,hd,hD⟩:=divisorOf_any ov h0 ho;have HD:Hid _:=hD;have HW:Hid _:=widen_any xv hx;have Y:=fun w=>splitD xv ov D n u hd (lt18 xv hx) w;have V:=fun w=>lowHalf_any (xv/ov) w;have I:=div_lt xv ov hx;rw[Nat.mod_eq_of_lt I]at V;have J:xv%ov<M:=Nat.lt_trans (Nat.mod_lt _ h0) ho;have W:=fun w=>mul_any (xv/ov) tf I htf w
 have K:xv/ov*tf<M:=by omega
 have x:=fun w=>lowHalf_any (xv/ov*tf) w;rw[Nat.mod_eq_of_lt K]at x;have L:=fun w=>add_any xf (xv/ov*tf) hxf K w;rw[Nat.mod_eq_of_lt hF,decide_eq_false (by omega)]at L;obtain⟨q,hq⟩:=exl (xv/ov);obtain⟨C,hr⟩:=exl (xv%ov);rw[hq,hr]at Y ⊢;rw[hr]at J;rw[hq]at V W x L;obtain⟨T,hT⟩:=exl (q*tf);rw[hT]at W x L ⊢;obtain⟨F,P⟩:∃F,xf+T=F:=⟨_,rfl⟩;rw[P]at L ⊢;have HS:Hid _:=Y;have HL:Hid _:=V;have HM:Hid _:=W;have aa:Hid _:=x;have HA:Hid _:=L;have Q:=app_mv C F J;obtain⟨Z,hZ⟩:=exl (mvN C F);have x1:=app_mv xv xf hx;have o1:=app_mv ov tf ho;obtain⟨X,hX⟩:=exl (mvN xv xf);obtain⟨O,hO⟩:=exl (mvN ov tf);rw[hX]at x1 ⊢;rw[hO]at o1 ⊢;rw[hZ]at Q ⊢;have HX:Hu (mv2 xv xf=nw 18 X):=fun _=>x1;have HO:Hu (mv2 ov tf=nw 18 O):=fun _=>o1;clear hx hxf h0 ho htf hF hd hD Y V I J W K x L hq hr hT P hX hO x1 o1 hZ
 go_enter func185,ntmps185
 go_upto_region 1 with fail
 refine gen_v (fun v=>Hid (Gr w v∧Vr v (w.heap.size) (nw 18 X)∧Vr v (w.heap.size+1) (nw 18 O)∧Vr v (w.heap.size+1+1) (nw 18 0))) ⟨grA,vrA,vrA,vrA⟩ ?_;intro v0 HV;obtain⟨G,A,B,H⟩:=HV.out;rw[←HX.out ()]at A;rw[←HO.out ()]at B;clear HV HX HO;refine wp_v true [.c (pv (w.heap.size+1) 0),.N ov,.c (.agg (dv D (n+1) u)),.c (pv (w.heap.size) 0),.N xv,.c (.agg (nw 18 xv)),.c (.tuple #[.agg (nw 18 q),.agg (nw 9 C)]),.c (.tuple #[.agg (nw 18 q),.agg (nw 9 C)]),.c (.agg (nw 18 q)),.N C,.a,.a,.u,.u] [1,2,4,5,6] [⟨10,12,210,nw 18 0,fun _=>nw 18 q⟩,⟨11,13,33,nw 9 0,fun _=>nw 9 C⟩] ⟨.g 33 0 B rfl,.z HD.out,.g 33 0 A rfl,.z HW.out,.z HS.out,⟨⟩⟩ ⟨.k zWide (.t rfl),.k zNat (.t rfl),⟨⟩⟩ fun aj v1 d h1 ab=>?_;simp only[fzw,Kw.a];obtain⟨⟨ac,i⟩,⟨ae,j⟩,-⟩:=ab;clear h1;replace G:=G.trans d;replace A:=A.gr d;replace B:=B.gr d;replace H:=H.gr d;clear d
 go_upto_region 2 with fail
 refine wp_v true [.c (.agg (nw 18 q)),.N q,.c (pv (w.heap.size+1) 9),.N tf,.c (.agg (nw 18 T)),.a,.u] [0,1,3,4] [⟨5,6,210,nw 18 0,fun _=>nw 18 T⟩] ⟨.g 210 0 i rfl,.z HL.out,.g 33 9 B rfl,.z HM.out,⟨⟩⟩ ⟨.k zWide (.t rfl),⟨⟩⟩ fun ak v2 d h2 af=>?_;simp only[fzw,Kw.a];obtain⟨⟨ah,S⟩,-⟩:=af;clear h2;replace G:=G.trans d;replace A:=A.gr d;replace B:=B.gr d;replace H:=H.gr d;replace i:=i.gr d;replace j:=j.gr d;clear d
 go_upto_region 3 with fail
 refine wp_v true [.c (pv (w.heap.size) 9),.N xf,.c (.agg (nw 18 T)),.N T,.c (.tuple #[.agg (nw 9 F),.bool false]),.c (.tuple #[.agg (nw 9 F),.bool false]),.N F,.F,.a,.u,.F] [1,2,3,4] [⟨8,9,33,nw 9 0,fun _=>nw 9 F⟩] ⟨.g 33 9 A rfl,.g 210 0 S rfl,.z aa.out,.z HA.out,⟨⟩⟩ ⟨.k zNat (.t rfl),⟨⟩⟩ fun ao v3 d h3 ag=>?_;simp only[fzw,Kw.a];obtain⟨⟨ai,U⟩,-⟩:=ag;clear h3;replace G:=G.trans d;replace A:=A.gr d;replace B:=B.gr d;replace H:=H.gr d;replace i:=i.gr d;replace j:=j.gr d
 go_upto_region 4 with fail
 refine wp_wTS 3 [.N C,.N F,.c (.agg (nw 18 Z))] [0,1,2] ⟨.g 33 0 j rfl,.g 33 0 U rfl,.s (.build 228 #[(0,(.const (.agg (nw 9 C)))),(1,(.const (.agg (nw 9 F))))]) rfl fun vv d=>by simp[go_sem,exI,Q],⟨⟩⟩ (.s 228 (fun yy=>pv (w.heap.size+1+1) 0) (fun yy=>.agg (nw 18 Z)) fun ap v4 d h4=>?_);have HT:=(H.gr d).h;have FT:=(H.gr d).f;refine⟨setBlk v4 (w.heap.size+1+1) (nw 18 Z),by simp[go_sem,exI,HT,FT],?_⟩;simp only[fzw];replace G:=G.trans d
 go_wp2_with fail
 exact bo1 results185 (rd_mv (by rfl) (blk_setBlk _ _ _ (by rw[HT];decide +kernel))) ⟨rfl,gr_setNew G (by omega)⟩
end
section
attribute [local go_sem ↓] uz3
attribute [local go_sem] uz4 ones_nw
attribute [local go_sem ↓] loadMv_is storeMv_is buildMv_is
attribute [local go_sem] loadMv storeMv loadLo loadHi ext_lo ext_hi buildMv2 buildMv1
attribute [local go_sem ↓] Go.wp_at_zero Go.wp_at_succ
attribute [local go_sem] blk_other
def vB(c:Array Value):Nat→Nat
 | 0=>0
 | n+1=>vB c n+(intOf (c.getD n undef)).toNat*pw n
theorem vB_nw(N X:Nat):∀n,n≤N→vB (nw N X) n=X%pw n
 | 0,_=>by rw[vB,pw_zero,Nat.mod_one]
 | n+1,h=>by
  rw[vB,vB_nw N X n (by omega),mod_succ]
  have e:(nw N X).getD n undef=.int .u64 ((wd X n:Nat):Int):=by
   have:=nw_get N X n (by omega);rw[Array.getD_eq_getD_getElem?,this]
   rfl
  rw[e];simp[intOf]
def mB(w:World)(b:Nat):Nat:=vB (blk w b) 9
theorem mB_mv(w:World)(b a f:Nat)(ha:a<M)(h:blk w b=nw 18 (mvN a f)):mB w b=a:=by
 unfold mB;rw[h,vB_nw 18 _ 9 (by decide)]
 show (a+f*M)%M=a
 rw[Nat.add_mul_mod_self_right,Nat.mod_eq_of_lt ha]
structure EW(w v:World)(L T b:Nat):Prop where
 g:Gr w v
 h2:blk v (w.heap.size+1+1)=nw 9 0
 f2:frz v (w.heap.size+1+1)=(0,0)
 p2:Pre (w.heap.size+1+1+1) v.heap.size
 h3:blk v (w.heap.size+1+1+1)=nw 9 0
 f3:frz v (w.heap.size+1+1+1)=(0,0)
 p3:Pre (w.heap.size+1+1+1+1) v.heap.size
 h4:blk v (w.heap.size+1+1+1+1)=nw 18 L
 f4:frz v (w.heap.size+1+1+1+1)=(0,0)
 p4:Pre (w.heap.size+1+1+1+1+1) v.heap.size
 h8:blk v b=nw 18 T
 f8:frz v b=(0,0)
 p8:Pre (b+1) v.heap.size
 q8:w.heap.size+1+1+1+1+1≤b
theorem EW.gr{w v v':World}{L T b:Nat}(h:EW w v L T b)(k:Gr v v'):EW w v' L T b:=by
 have f:=k.below.size;have d:∀{x},Pre x v.heap.size→Pre x v'.heap.size:=fun h=>Nat.le_trans h f
 exact⟨h.g.trans k,by rw[k.blk _ h.p2];exact h.h2,by rw[k.frz _ h.p2];exact h.f2,d h.p2,by rw[k.blk _ h.p3];exact h.h3,by rw[k.frz _ h.p3];exact h.f3,d h.p3,
  by rw[k.blk _ h.p4];exact h.h4,by rw[k.frz _ h.p4];exact h.f4,d h.p4,by rw[k.blk _ h.p8];exact h.h8,by rw[k.frz _ h.p8];exact h.f8,d h.p8,h.q8⟩
theorem EW.set4{w v:World}{L T b:Nat}(h:EW w v L T b)(X:Nat):EW w (setBlk v (w.heap.size+1+1+1+1) (nw 18 X)) X T b:=by
 have q:=h.q8
 have d:∀{x},Pre x v.heap.size→Pre x (setBlk v (w.heap.size+1+1+1+1) (nw 18 X)).heap.size:=fun h=>by rw[size_setBlk];exact h
 exact⟨gr_setNew h.g (by omega),by rw[blk_other _ _ _ _ (by omega)];exact h.h2,by rw[frz_setBlk];exact h.f2,d h.p2,by rw[blk_other _ _ _ _ (by omega)];exact h.h3,by rw[frz_setBlk];exact h.f3,d h.p3,
  blk_setBlk _ _ _ (by rw[h.h4,nw_size];decide),by rw[frz_setBlk];exact h.f4,d h.p4,by rw[blk_other _ _ _ _ (by omega)];exact h.h8,by rw[frz_setBlk];exact h.f8,d h.p8,h.q8⟩
theorem EW.set8{w v:World}{L T b:Nat}(h:EW w v L T b)(X:Nat):EW w (setBlk v b (nw 18 X)) L X b:=by
 have q:=h.q8
 have d:∀{x},Pre x v.heap.size→Pre x (setBlk v b (nw 18 X)).heap.size:=fun h=>by rw[size_setBlk];exact h
 exact⟨gr_setNew h.g (by omega),by rw[blk_other _ _ _ _ (by omega)];exact h.h2,by rw[frz_setBlk];exact h.f2,d h.p2,by rw[blk_other _ _ _ _ (by omega)];exact h.h3,by rw[frz_setBlk];exact h.f3,d h.p3,
  by rw[blk_other _ _ _ _ (by omega)];exact h.h4,by rw[frz_setBlk];exact h.f4,d h.p4,blk_setBlk _ _ _ (by rw[h.h8,nw_size];decide),by rw[frz_setBlk];exact h.f8,d h.p8,h.q8⟩
theorem euclid_any(a m:Nat)(hm:m<M)(ham:a<m)(w:World):
 Cg 176 #[.agg (nw 9 a),.agg (nw 9 m)] w (.tuple #[.agg (nw 9 (eu m 0 a 1 true).1),.agg (nw 9 (eu m 0 a 1 true).2.1),.bool (eu m 0 a 1 true).2.2]):=by
 have HO:Hid (∀w,Cg 112 #[.int .i64 1] w (.agg (nw 9 1))):=fun w=>small_any 1 (by decide) w;have X:a<M:=Nat.lt_trans ham hm;have Y:=app_mv m 0 hm;have J:=app_mv a 1 X;obtain⟨M0,K⟩:=exl (mvN m 0);obtain⟨Z,P⟩:=exl (mvN a 1);rw[K]at Y;rw[P]at J;have aa:Hu (_):=fun _=>J;have ab:Hu (M0=mvN m 0∧Z=mvN a 1):=fun _=>⟨K.symm,P.symm⟩;have ao:Hid _:=EI.start a m ham;have ap:Hu (_):=fun _=>hm;obtain⟨E,hE⟩:=exl (eu m 0 a 1 true);rw[hE];have HE:Hu (_):=fun _=>hE;clear J K P X hm ham hE
 go_enter func176,ntmps176
 go_upto_region 2 with fail
 refine gen_v (fun v=>Hid (Gr w v∧Vr v (w.heap.size) (nw 9 a)∧Vr v (w.heap.size+1+1) (nw 9 0)∧Vr v (w.heap.size+1+1+1) (nw 9 0)∧Vr v (w.heap.size+1+1+1+1) (nw 18 M0))) ⟨grA,vrA,vrA,vrA,vrA⟩ ?_;intro v0 HV;obtain⟨G,c0,V,W,Q⟩:=HV.out;have p4:w.heap.size+1+1+1+1+1≤v0.heap.size:=Q.p;clear HV;refine wp_v true [.N a,.N 1,.c (.agg (nw 18 Z)),.a,.u] [0,1,2] [⟨3,4,228,nw 18 0,fun _=>nw 18 Z⟩] ⟨.g 33 0 c0 rfl,.z HO.out,.s (.build 228 #[(0,(.const (.agg (nw 9 a)))),(1,(.const (.agg (nw 9 1))))]) rfl fun vv A=>by simp[go_sem,exI,aa.out ()],⟨⟩⟩ ⟨.k zWide (.t rfl),⟨⟩⟩ fun C v1 A h2 aq=>?_;simp only[fzw,Kw.a];obtain⟨⟨ac,d⟩,-⟩:(v0.heap.size≤(C 3 0).2∧Vr v1 (C 3 0).2 (nw 18 Z))∧True:=aq;clear h2;replace G:=G.trans A;replace c0:=c0.gr A;replace V:=V.gr A;replace W:=W.gr A;replace Q:=Q.gr A;clear A;have hw:EW w v1 M0 Z (C 3 0).2:=⟨G,V.h,V.f,V.p,W.h,W.f,W.p,Q.h,Q.f,Q.p,d.h,d.f,d.p,by omega⟩;generalize (C 3 0).2=H at *;clear p4 ac d c0 V W Q G;have ae:Hid _:=hw;clear hw Y aa HO
 go_wp2_with fail
 go_loopw [9] (fun β wr=>∃(lv lf tv tf:Nat) (δ:Bool),β=.bool δ∧Hid (EI a m lv lf tv tf δ∧lv≤m∧eu lv lf tv tf δ=E)∧Hid (EW w wr (mvN lv lf) (mvN tv tf) H)) (fun _ wr=>mB wr H)
 case atStart=>
  have h:=ae.out;rw[(ab.out ()).1,(ab.out ()).2]at h;exact⟨m,0,a,1,true,rfl,⟨ao.out,Nat.le_refl _,HE.out ()⟩,h⟩
 case round=>
  obtain⟨lv,lf,tv,tf,δ,rfl,B,HW⟩:=hrel;clear ae;have j:=ap.out ();have q:=Nat.lt_of_le_of_lt B.out.2.1 j;have i:=Nat.lt_trans B.out.1.lt q;have af:=Nat.lt_of_le_of_lt B.out.1.fac j;have ag:=Nat.lt_of_le_of_lt B.out.1.le j;have e1:=mv_lo tv tf i;have e2:=mv_lo lv lf q;have e3:=mv_hi lv lf q;have hz:=fun w=>isZero_any tv i w;have ah:=mB_mv wr H tv tf i HW.out.h8;obtain⟨L,hL⟩:=exl (mvN lv lf);obtain⟨T,hT⟩:=exl (mvN tv tf);rw[hT]at e1;rw[hL]at e2 e3
  have S:Hid (EW w wr L T H):=by show EW w wr L T H;rw[←hL,←hT];exact HW.out
  obtain⟨A,h1,h2,h3,h4,h5,h6,h7,h8,h9,av,aw,ax,ay⟩:=S.out;have ar:Hu (_):=fun _=>ah;clear A ah
  by_cases ht:tv=0
  ·have HZ:Hid _:=fun w=>by
    have:=hz w;rw[decide_eq_true ht]at this;exact this
   have HF:Hu (E=(lv,lf,δ)):=fun _=>by
    have:=B.out.2.2;rw[ht,eu_zero]at this;exact this.symm
   clear hz ht hL hT q i af ag j
   go_wp2_with (go_at_call 175;refine hkA HZ fun g=>?_)
   go_big_region
   all_goals
    go_wp2_with fail
    refine bodyPost_ret (res_three results176 (rd_nat (by rfl) ?_) (rd_nat (by rfl) ?_) (rd_tmp (by rfl))) rfl ⟨by rw[HF.out ()];rfl,?_⟩
    ·simp[go_sem, *]
    ·simp[go_sem, *]
    ·have A:=S.out.g;exact grB
  ·have x:0<tv:=by omega
   have HZ:Hid _:=fun w=>by
    have:=hz w;rw[decide_eq_false ht]at this;exact this
   have ai:=B.out.1.step x;have au:=B.out.1.fits x;have U:=eu_step lv lf tv tf δ x;have D:=fun w=>less_any lv lf tv tf q ag x i af (Nat.lt_of_le_of_lt au j) w;rw[B.out.2.2]at U;have I:lv%tv<tv:=Nat.mod_lt _ x;obtain⟨r,hr⟩:=exl (lv%tv);obtain⟨F,hF⟩:=exl (lf+lv/tv*tf);rw[hr,hF]at ai U D;rw[hr]at I;rw[hL,hT]at D;obtain⟨N,hN⟩:=exl (mvN r F);rw[hN]at D;have HL:Hid _:=D;have aj:Hu (EI a m tv tf r F (!δ)∧tv≤m∧eu tv tf r F (!δ)=E∧mvN tv tf=T∧mvN r F=N∧r<tv∧tv<M):=fun _=>⟨ai,by have:=B.out.1.lt;have:=B.out.2.1;omega,U.symm,hT,hN,I,i⟩
   have az:¬(w.heap.size+1+1+1+1)=H:=by omega
   go_upto_region 5 with (go_at_call 175;refine hkA HZ fun g=>?_)
   go_cut [9] from 19 to 22 (fun β wx=>β=.bool δ∧Hid (EW w wx T N H))
   case first=>
    go_region_with (go_at_call 185;refine hkA HL fun g5=>?_)
    all_goals
     go_wp2_with fail
     go_meet
     exact⟨rfl,((S.out.set4 T).set8 N).gr ⟨_,rfl⟩⟩
   case rest=>
    obtain⟨rfl,ak⟩:=hcut
    go_wp2_with fail
    go_roundw
    case rel=>
     obtain⟨k1,k2,k3,k4,k5,k6,k7⟩:=aj.out ();refine⟨tv,tf,r,F, !δ,rfl,⟨k1,k2,k3⟩,?_⟩;rw[k4,k5];exact ak.out
    case measure=>
     obtain⟨k1,k2,k3,k4,k5,k6,k7⟩:=aj.out ();rw[ar.out (),mB_mv _ H r F (by omega) (by rw[k5];exact ak.out.h8)];exact k6
end
section
attribute [local go_sem ↓] uz3
attribute [local go_sem] uz4 ones_nw
attribute [local go_sem ↓] loadMv_is storeMv_is buildMv_is
attribute [local go_sem] loadMv storeMv loadLo loadHi ext_lo ext_hi buildMv2 buildMv1
attribute [local go_sem ↓] Go.wp_at_zero Go.wp_at_succ
attribute [local go_sem] blk_other nw_ext9 nw_ext18 eqArr9 eqArr18
theorem gcd_mod(m a:Nat):Nat.gcd m (a%m)=Nat.gcd m a:=by
 rw[Nat.gcd_comm,←Nat.gcd_rec m a]
theorem eu_inv(a m:Nat)(hm:1<m):∃g f δ,eu m 0 (a%m) 1 true=(g,f,δ)∧g=Nat.gcd m a∧f≤m∧(g=1→(if δ then m-f else f)<m∧a*(if δ then m-f else f)%m=1):=by
 obtain⟨g,f,δ,d,h,i,j⟩:=eu_end (a%m) m (a%m) m 0 1 true (EI.start (a%m) m (Nat.mod_lt _ (by omega)));refine⟨g,f,δ,d,by rw[h,gcd_mod],i,fun q=>?_⟩
 grind [inv_of,Nat.mod_mul_mod]
def InvP(gg x:Nat)(e:Ending):Prop:=(gg=1→e=.returned (.tuple #[.agg (nw 9 x),.int .i64 0]))∧(gg≠1→e=.returned (.tuple #[.agg (nw 9 0),.int .i64 401]))
theorem inv_walk(a m gg ff:Nat)(δ:Bool)(ha:a<M)(hm:1<m)(hM:m<M)(hE:eu m 0 (a%m) 1 true=(gg,ff,δ))(hg:gg<M)(hf:ff≤m)(w:World):
 Calls prog 169 #[.agg (nw 9 a),.agg (nw 9 m)] w fun e w'=>InvP gg (if δ then m-ff else ff) e∧Gr w w':=by
 have HZ:Hid _:=notZero m (by omega) hM;have HO:Hid _:=small_any 1 (by decide);obtain⟨D,n,u,hd,hD⟩:=divisorOf_any m (by omega) hM;have HD:Hid _:=hD;have HW:Hid _:=widen_any a ha;have V:=fun w=>restD a m D n u hd (lt18 a ha) w;have K:=fun w=>euclid_any (a%m) m hM (Nat.mod_lt _ (by omega)) w;rw[hE]at K;obtain⟨A,hA⟩:=exl (a%m);rw[hA]at V K;have HR:Hid _:=V;have HE:Hid _:=K;have L:=fun w=>sub_any m ff hM (Nat.lt_of_le_of_lt hf hM) w
 have J:(m+M-ff)%M=m-ff:=by
  rw[show m+M-ff=(m-ff)+M by omega,Nat.add_mod_right,Nat.mod_eq_of_lt (by omega)]
 rw[J,decide_eq_false (by omega)]at L;obtain⟨S,hS⟩:=exl (m-ff);rw[hS]at L ⊢;obtain⟨X,W⟩:=exl ((if δ=true then S else ff));rw[W];have HS:Hid _:=L
 have e1:eqN 9 m 1=false:=by rw[eqN9 m 1 hM (lt_M 1 (by decide))];exact decide_eq_false (by omega)
 have e2:=eqN9 gg 1 hg (lt_M 1 (by decide))
 have Y:Hu ((δ=false→X=ff)∧(δ=true→X=S)):=fun _=>by
  rw[←W];exact⟨fun h=>by rw[h];rfl,fun h=>by rw[h];rfl⟩
 clear V K hA hd hD L J hS ha hm hM hE hg hf W
 go_enter func169,ntmps169
 go_upto_region 6 with (first
  | (go_at_call 175;refine hkA HZ fun g=>?_)
  | (go_at_call 112;refine hkA HO fun g1=>?_))
 obtain⟨b6,q⟩:=exl (w.heap.size+1+1+1+(g.os.length+g1.os.length));rw[q]
 refine gen_v (fun v=>Hid (Gr w v∧Vr v (w.heap.size) (nw 9 a)∧Vr v (w.heap.size+1) (nw 9 m)∧Vr v (w.heap.size+1+1) (nw 9 0)∧Vr v b6 (nw 9 1))) ?_ ?_
 ·subst q;exact⟨grA,⟨by simp[go_sem],by simp[go_sem],by simp[go_sem]⟩,⟨by simp[go_sem],by simp[go_sem],by simp[go_sem]⟩,⟨by simp[go_sem],by simp[go_sem],by simp[go_sem]⟩,⟨by simp[go_sem],by simp[go_sem],by simp[go_sem]⟩⟩
 clear q;intro Z HV;obtain⟨G,P,H,I,Q⟩:=HV.out;have p2:w.heap.size+1+1+1≤Z.heap.size:=I.p;clear HV;refine wp_v true [.N m,.c (.agg (dv D (n+1) u)),.N a,.c (.agg (nw 18 a)),.N A,.N m,.c (.tuple #[.agg (nw 9 gg),.agg (nw 9 ff),.bool δ]),.c (.tuple #[.agg (nw 9 gg),.agg (nw 9 ff),.bool δ]),.N gg,.N ff,.c (.bool δ),.a,.a,.u,.u,.c (.bool δ)] [0,1,2,3,4,5,6] [⟨11,13,33,nw 9 0,fun _=>nw 9 gg⟩,⟨12,14,33,nw 9 0,fun _=>nw 9 ff⟩] ⟨.g 33 0 H rfl,.z HD.out,.g 33 0 P rfl,.z HW.out,.z HR.out,.g 33 0 H rfl,.z HE.out,⟨⟩⟩ ⟨.k zNat (.t rfl),.k zNat (.t rfl),⟨⟩⟩ fun d v1 hg h6 aa=>?_;simp only[fzw,Kw.a];obtain⟨⟨x,i⟩,⟨B,f⟩,-⟩:(Z.heap.size≤(d 11 0).2∧Vr v1 (d 11 0).2 (nw 9 gg))∧(Z.heap.size≤(d 12 0).2∧Vr v1 (d 12 0).2 (nw 9 ff))∧True:=aa;clear h6;replace G:=G.trans hg;replace P:=P.gr hg;replace H:=H.gr hg;replace I:=I.gr hg;replace Q:=Q.gr hg;clear hg
 have ak:¬(d 12 0).2=w.heap.size+1+1:=by omega
 have ab:¬(w.heap.size+1+1)=(d 12 0).2:=by omega
 have ac:w.heap.size≤(d 12 0).2:=by omega
 have⟨k1,l1,m1⟩:=H;have⟨k2,l2,m2⟩:=I;have⟨k6,l6,m6⟩:=Q;have⟨ao,ap,aq⟩:=i;have⟨ar,au,av⟩:=f;have⟨aw,ax,ay,az,aA,aB⟩:=I.pp;have⟨ae,af,ag,ah,ai,aj⟩:=f.pp;have HG:Hid _:=G;clear P H I Q i f G p2 x B
 by_cases h1:gg=1
 ·rw[decide_eq_true h1]at e2;have U:Hu (_):=fun _=>h1;clear h1
  cases hδ:δ with
  | false=>
   have j:=((Y.out ()).1 hδ);have C:Hu (_):=fun _=>j;clear j Y;subst hδ
   go_wp2_with (go_at_call 85;refine hkA HS fun g3=>?_)
   refine bo2 results169 (rd_nat (by rfl) ?_) ⟨⟨fun _=>by rw[C.out ()];rfl,fun h=>absurd (U.out ()) h⟩,?_⟩
   ·simp[go_sem, *]
   ·repeat (first|exact HG.out|apply Gr.drewN|apply Gr.drew|apply Gr.alloc|apply Gr.gro|(refine gr_setNew ?_ (by omega)))
  | true=>
   have j:=((Y.out ()).2 hδ);have C:Hu (_):=fun _=>j;subst hδ
   go_wp2_with (go_at_call 85;refine hkA HS fun g3=>?_)
   refine bo2 results169 (rd_nat (by rfl) ?_) ⟨⟨fun _=>by rw[C.out ()];rfl,fun h=>absurd (U.out ()) h⟩,?_⟩
   ·simp[go_sem, *]
   ·repeat (first|exact HG.out|apply Gr.drewN|apply Gr.drew|apply Gr.alloc|apply Gr.gro|(refine gr_setNew ?_ (by omega)))
 ·rw[decide_eq_false h1]at e2;have U:Hu (_):=fun _=>h1
  go_wp2_with fail
  refine bo2 results169 (rd_nat (by rfl) ?_) ⟨⟨fun h=>absurd h (U.out ()),fun _=>rfl⟩,?_⟩
  ·simp[go_sem, *]
  ·repeat (first|exact HG.out|apply Gr.drewN|apply Gr.drew|apply Gr.alloc|apply Gr.gro|(refine gr_setNew ?_ (by omega)))
theorem gcd_lt(m a:Nat)(h:0<m)(hM:m<M):Nat.gcd m a<M:=Nat.lt_of_le_of_lt (Nat.gcd_le_left a h) hM
theorem inv_some(a m:Nat)(ha:a<M)(hm:1<m)(hM:m<M)(hg:Nat.gcd m a=1):
 ∃x,x<m∧a*x%m=1∧∀w,Cg 169 #[.agg (nw 9 a),.agg (nw 9 m)] w (.tuple #[.agg (nw 9 x),.int .i64 0]):=by
 obtain⟨g,f,δ,j,i,q,A⟩:=eu_inv a m hm
 have d:g=1:=by rw[i,hg]
 obtain⟨B,C⟩:=A d;refine⟨_,B,C,fun w=>(inv_walk a m g f δ ha hm hM j (by rw[i];exact gcd_lt m a (by omega) hM) q w).mono fun e D h=>?_⟩;exact⟨h.1.1 d,h.2⟩
end
section
attribute [local go_sem ↓] uz3
attribute [local go_sem] uz4 ones_nw
attribute [local go_sem ↓] uz5 Go.wp_at_zero Go.wp_at_succ
attribute [local go_sem] uz6
theorem eqN_no(x y:Nat)(hx:x<M)(hy:y<M)(h:x≠y):eqN 9 x y=false:=by
 rw[eqN9 x y hx hy];exact decide_eq_false h
end
section
attribute [local go_sem ↓] uz3
attribute [local go_sem] uz4 ones_nw
attribute [local go_sem ↓] uz5 Go.wp_at_zero Go.wp_at_succ
attribute [local go_sem] loadMd storeMd buildMd0 buildMd1 blk_other loadLo loadHi ext_lo ext_hi
theorem pre_up{b n:Nat}(h:Pre b n):(∀k,Pre b (n+k))∧(∀k l,Pre b (n+k+l))∧(∀k l j,Pre b (n+k+l+j)):=by
 unfold Pre at *;exact⟨fun k=>by omega,fun k l=>by omega,fun k l j=>by omega⟩
theorem mfor_yes(i m n:Nat)(h1:1≤i)(h2:i≤15)(hm:pN i=m)(hmM:m<M)(hn:n≤2)(F:Nat→Nat)(hF:∀j,j<n→F j<m)(b:Nat)(w:World)(hl:∀j,j<n→∀v,Gr w v→(loadS 33 (.pointer (some ⟨b,j*9,none⟩))).run prog v=.ok (.agg (nw 9 (F j))) v):
 Cg 158 #[.int .i64 i,.slice (some ⟨b,0,none⟩) n n] w (.tuple #[.agg (nw 9 m),.int .i64 0]):=by
 have B:Hid _:=hm▸of_yes i h1 h2;have C:Hu (_):=fun _=>hn;have D:Hid _:=hF;have x:Hu (_):=fun _=>hmM;have H:Hid _:=hl;clear h1 h2 hm hmM hn hF hl
 go_enter func158,ntmps158
 go_wp2_with (go_at_call 103;refine hkA B fun g=>?_)
 obtain⟨I,d⟩:=exl (w.heap.size+1+g.os.length);rw[d]
 go_loopw [20] (fun ia wr=>∃j:Nat,ia=.int .i64 j∧Hu (j≤n)∧Hid (Gr w wr∧Cl wr w.heap.size 0∧Cl wr I m)) (fun ia _=>((n:Int)-intOf ia).toNat)
 case atStart=>
  subst d;exact⟨0,rfl,fun _=>Nat.zero_le _,grA,⟨by simp[go_sem],by simp[go_sem],by simp[go_sem]⟩,⟨by simp[go_sem],by simp[go_sem],by simp[go_sem]⟩⟩
 case round=>
  obtain⟨j,rfl,U,f⟩:=hrel;obtain⟨G,⟨h1,V,J⟩,⟨h2,W,K⟩⟩:=f.out
  have X:(0:Int)≤j:=by omega
  have Y:(n:Int)≤2:=by have:=C.out ();omega
  obtain⟨Z,P2,P3⟩:=pre_up J;obtain⟨Q1,Q2,Q3⟩:=pre_up K
  by_cases hlt:j<n
  ·have q:j<n:=by exact hlt
   have L:=H.out j q wr G
   have P:Hid _:=fun w=>by
    have A:=D.out j hlt;have h:=cmp_any (F j) m (Nat.lt_trans A (x.out ())) (x.out ()) w;rw[show cmpZ (F j) m = -1 by unfold cmpZ;rw[if_pos A]]at h;exact h
   go_wp2_with (go_at_call 140;refine hkA P fun g2=>?_)
   go_roundw
   case rel=>
    refine⟨j+1,by go_num,fun _=>hlt,?_⟩;obtain⟨G,Q,S⟩:=f.out;refine⟨?_,Q.gr grA,S.gr grA⟩;exact grB
   case measure=>simp[intOf];omega
  ·skip
   go_wp2_with fail
   refine bo2 results158 (rd_md (by rfl) ?_) ⟨rfl,?_⟩
   ·simp[go_sem, *]
   ·have hg:=f.out.1;exact grB
theorem mfor_off(i m n:Nat)(h1:1≤i)(h2:i≤15)(hm:pN i=m)(hmM:m<M)(hn:n≤2)(F:Nat→Nat)(r:Nat)(hr:r<n)(hoff:m≤F r)(hfM:F r<M)(hF:∀j,j<r→F j<m)(b:Nat)(w:World)(hl:∀j,j<n→∀v,Gr w v→(loadS 33 (.pointer (some ⟨b,j*9,none⟩))).run prog v=.ok (.agg (nw 9 (F j))) v):
 Cg 158 #[.int .i64 i,.slice (some ⟨b,0,none⟩) n n] w (.tuple #[.agg (nw 9 0),.int .i64 501]):=by
 have Q:Hid _:=hm▸of_yes i h1 h2;have S:Hu (_):=fun _=>hn;have U:Hid _:=hF;have B:Hu (_):=fun _=>hmM;have K:Hid _:=hl;have L:Hu (r<n∧m≤F r∧F r<M):=fun _=>⟨hr,hoff,hfM⟩;clear h1 h2 hm hmM hn hF hl hr hoff hfM
 go_enter func158,ntmps158
 go_wp2_with (go_at_call 103;refine hkA Q fun g=>?_)
 obtain⟨V,q⟩:=exl (w.heap.size+1+g.os.length);rw[q]
 go_loopw [20] (fun ia wr=>∃j:Nat,ia=.int .i64 j∧Hu (j≤r)∧Hid (Gr w wr∧Cl wr w.heap.size 0∧Cl wr V m)) (fun ia _=>((n:Int)-intOf ia).toNat)
 case atStart=>
  subst q;exact⟨0,rfl,fun _=>Nat.zero_le _,grA,⟨by simp[go_sem],by simp[go_sem],by simp[go_sem]⟩,⟨by simp[go_sem],by simp[go_sem],by simp[go_sem]⟩⟩
 case round=>
  obtain⟨j,rfl,W,C⟩:=hrel;obtain⟨G,⟨h1,f1,X⟩,⟨h2,f2,Y⟩⟩:=C.out
  have j0:(0:Int)≤j:=by omega
  have n4:(n:Int)≤2:=by have:=S.out ();omega
  obtain⟨P1,P2,P3⟩:=pre_up X;obtain⟨Q1,Q2,Q3⟩:=pre_up Y
  by_cases hlt:j<r
  ·have d:j<n:=by have:=(L.out ()).1;omega
   have Z:(j:Int)<n:=by omega
   have D:=K.out j d wr G
   have H:Hid _:=fun w=>by
    have P:=U.out j hlt;have h:=cmp_any (F j) m (Nat.lt_trans P (B.out ())) (B.out ()) w;rw[show cmpZ (F j) m = -1 by unfold cmpZ;rw[if_pos P]]at h;exact h
   clear G d
   go_wp2_with (go_at_call 140;refine hkA H fun g2=>?_)
   go_roundw
   case rel=>
    refine⟨j+1,by go_num,fun _=>hlt,?_⟩;obtain⟨G,c1,c2⟩:=C.out;refine⟨?_,c1.gr grA,c2.gr grA⟩;exact grB
   case measure=>simp[intOf];omega
  ·skip
   have f:j=r:=by have:=W.out ();omega
   obtain⟨I,x,A⟩:=L.out ()
   have d:j<n:=by omega
   obtain⟨z,J⟩:=exl (cmpZ (F j) m)
   have aa:(0:Int)≤z:=by rw[←J,f];unfold cmpZ;rw[if_neg (Nat.not_lt.2 x)];split <;> omega
   have H:Hid _:=J▸cmp_any _ _ (f▸A) (B.out ())
   have Z:(j:Int)<n:=by omega
   have D:=K.out j d wr G;clear G hlt d f I x A J
   go_wp2_with (go_at_call 140;refine hkA H fun g2=>?_)
   refine bo2 results158 (rd_md (by rfl) ?_) ⟨rfl,?_⟩
   ·simp[go_sem, *]
   ·have hg:=C.out.1;exact grB
theorem mfor_one(i m a b:Nat)(h1:1≤i)(h2:i≤15)(hm:pN i=m)(hmM:m<M)(ha:a<M)(w:World)(hb:blk w b=nw 9 a)(hp:Pre (b+1) w.heap.size):
 Cg 158 #[.int .i64 i,.slice (some ⟨b,0,none⟩) 1 1] w (.tuple #[.agg (nw 9 (if a<m then m else 0)),.int .i64 (if a<m then 0 else 501)]):=by
 have d:∀j,j<1→∀v,Gr w v→(loadS 33 (.pointer (some ⟨b,j*9,none⟩))).run prog v=.ok (.agg (nw 9 a)) v:=fun j q v g=>by
  obtain rfl:j=0:=by omega
  have f:blk v b=nw 9 a:=by rw[g.blk _ hp];exact hb
  rw[show 0*9=0 from rfl,loadNat v b (by rw[f,nw_size]),f]
 by_cases hr:a<m
 ·rw[if_pos hr,if_pos hr];exact mfor_yes i m 1 h1 h2 hm hmM (by decide) (fun _=>a) (fun _ _=>hr) b w d
 ·rw[if_neg hr,if_neg hr];exact mfor_off i m 1 h1 h2 hm hmM (by decide) (fun _=>a) 0 (by decide) (Nat.le_of_not_lt hr) ha (fun j h=>absurd h (Nat.not_lt_zero j)) b w d
theorem mfor_two(i m a c b X:Nat)(h1:1≤i)(h2:i≤15)(hm:pN i=m)(hmM:m<M)(ha:a<M)(hc:c<M)(hX:X=mvN a c)(w:World)(hb:blk w b=nw 18 X)(hp:Pre (b+1) w.heap.size):
 Cg 158 #[.int .i64 i,.slice (some ⟨b,0,none⟩) 2 2] w (.tuple #[.agg (nw 9 (if a<m∧c<m then m else 0)),.int .i64 (if a<m∧c<m then 0 else 501)]):=by
 have f:∀j,j<2→∀v,Gr w v→(loadS 33 (.pointer (some ⟨b,j*9,none⟩))).run prog v=.ok (.agg (nw 9 ((fun j=>match j with|0=>a|_=>c:Nat→Nat) j))) v:=fun j A v g=>by
  have d:blk v b=nw 18 X:=by rw[g.blk _ hp];exact hb
  have q:nw 9 X=nw 9 a:=by rw[hX];exact mv_lo a c ha
  have x:nw 9 (X/pw 9)=nw 9 c:=by rw[hX];exact mv_hi a c ha
  obtain rfl|rfl:j=0∨j=1:=by omega
  ·show (loadS 33 (.pointer (some ⟨b,0,none⟩))).run prog v=.ok (.agg (nw 9 a)) v
   rw[loadLo v b (by rw[d,nw_size]),d,ext_lo,q]
  ·show (loadS 33 (.pointer (some ⟨b,9,none⟩))).run prog v=.ok (.agg (nw 9 c)) v
   rw[loadHi v b (by rw[d,nw_size]),d,ext_hi,x]
 by_cases hr:a<m∧c<m
 ·rw[if_pos hr,if_pos hr];exact mfor_yes i m 2 h1 h2 hm hmM (by decide) (fun j=>match j with|0=>a|_=>c) (fun j _=>match j with|0=>hr.1|_+1=>hr.2) b w f
 ·rw[if_neg hr,if_neg hr]
  by_cases hx:a<m
  ·exact mfor_off i m 2 h1 h2 hm hmM (by decide) (fun j=>match j with|0=>a|_=>c) 1 (by decide) (Nat.le_of_not_lt fun h=>hr ⟨hx,h⟩) hc (fun j h=>by
    obtain rfl:j=0:=by omega
    exact hx) b w f
  ·exact mfor_off i m 2 h1 h2 hm hmM (by decide) (fun j=>match j with|0=>a|_=>c) 0 (by decide) (Nat.le_of_not_lt hx) ha (fun j h=>absurd h (Nat.not_lt_zero j)) b w f
end
section
def fnT(n:Nat):Value:=.func (.func n) #[] #[]
def tab2:Array Value :=#[fnT 161,fnT 162,fnT 163]
def tab1:Array Value :=#[fnT 164,fnT 165]
theorem tab2_is : #[Value.func (.func 161) #[] #[],Value.func (.func 162) #[] #[],Value.func (.func 163) #[] #[]]=tab2:=rfl
theorem tab1_is : #[Value.func (.func 164) #[] #[],Value.func (.func 165) #[] #[]]=tab1:=rfl
theorem storeT2_is:StI 201:=fun _ _=>rfl
theorem storeT1_is:StI 204:=fun _ _=>rfl
theorem storeT2(w:World)(b:Nat)(hs:(blk w b).size=3)(hf:frz w b=(0,0)):(storeS 201 (.pointer (some ⟨b,0,none⟩)) (.agg tab2)).run prog w=.ok () (setBlk w b tab2):=
 storeS_run 3 (by decide) (by kernel_rfl) w b tab2 rfl (by simp[tab2,fnT,Value.oneCell']) hs hf
theorem storeT1(w:World)(b:Nat)(hs:(blk w b).size=2)(hf:frz w b=(0,0)):(storeS 204 (.pointer (some ⟨b,0,none⟩)) (.agg tab1)).run prog w=.ok () (setBlk w b tab1):=
 storeS_run 2 (by decide) (by kernel_rfl) w b tab1 rfl (by simp[tab1,fnT,Value.oneCell']) hs hf
theorem idx2_0(w:World):(Instr.index 201 (.agg tab2) (.int .i64 0)).run prog w=.ok (.func (.func 161) #[] #[]) w:=by kernel_rfl
theorem idx2_1(w:World):(Instr.index 201 (.agg tab2) (.int .i64 1)).run prog w=.ok (.func (.func 162) #[] #[]) w:=by kernel_rfl
theorem idx2_2(w:World):(Instr.index 201 (.agg tab2) (.int .i64 2)).run prog w=.ok (.func (.func 163) #[] #[]) w:=by kernel_rfl
theorem idx1_0(w:World):(Instr.index 204 (.agg tab1) (.int .i64 0)).run prog w=.ok (.func (.func 164) #[] #[]) w:=by kernel_rfl
theorem idx1_1(w:World):(Instr.index 204 (.agg tab1) (.int .i64 1)).run prog w=.ok (.func (.func 165) #[] #[]) w:=by kernel_rfl
attribute [local go_sem ↓] uz3
attribute [local go_sem] uz4 ones_nw
attribute [local go_sem ↓] storeT2_is storeT1_is
attribute [local go_sem] storeT2 storeT1 tab2_is tab1_is
theorem ofTwo_any(w:World):
 Cg 159 #[] w (.agg tab2):=by
 go_enter func159,ntmps159
 go_wp2
 refine bo1 results159 (rd_cell 3 underlying201 rfl (by kernel_rfl) (by rfl) ?_ rfl) ⟨rfl,grA⟩;simp[go_sem]
theorem ofOne_any(w:World):
 Cg 160 #[] w (.agg tab1):=by
 go_enter func160,ntmps160
 go_wp2
 refine bo1 results160 (rd_cell 2 underlying204 rfl (by kernel_rfl) (by rfl) ?_ rfl) ⟨rfl,grA⟩;simp[go_sem]
end
section
attribute [local go_sem ↓] uz3
attribute [local go_sem] uz4 ones_nw
attribute [local go_sem ↓] uz5 Go.wp_at_zero Go.wp_at_succ
attribute [local go_sem] uz6
theorem finv_some(m a:Nat)(ha:0<a)(ham:a<m)(hM:m<M)(h1:1<m)(hg:Nat.gcd m a=1):
 ∃x,x<m∧a*x%m=1∧∀w,Cg 164 #[.agg (nw 9 m),.agg (nw 9 a)] w (.tuple #[.agg (nw 9 x),.int .i64 0]):=by
 obtain⟨x,f,d,h⟩:=inv_some a m (by omega) h1 hM hg;refine⟨x,f,d,fun w=>?_⟩;have i:Hid _:=h;have j:eqN 9 a 0=false:=eqN_no a 0 (by omega) M_pos (by omega);clear h f d ha ham hM h1 hg
 go_enter func164,ntmps164
 go_wp2_with (go_at_call 169;refine hkA i fun g=>?_)
 refine bo2 results164 (rd_nat (x:=x) (by rfl) ?_) ⟨rfl,grA⟩;simp[go_sem]
end
section
attribute [local go_sem ↓] uz3
attribute [local go_sem] uz4 ones_nw
attribute [local go_sem] loadNat2 loadArr2 loadWide2 loadK_nw ppre_1 ppre_2 ppre_3 ppre_4 ppre_5 ppre_6 ppre_7 ppre_8 ppre_9 ppre_10 ppre_11 ppre_12 ppre_13 ppre_14 ppre_15 ppre_16 ppre_17 ppre_18 ppre_19 ppre_20
attribute [local go_sem ↓] uz5 Go.wp_at_zero Go.wp_at_succ
attribute [local go_sem] uz6
theorem loadMd2(w:World)(b:Nat):(loadS 197 (.pointer (some ⟨b,0,none⟩))).run prog w=loadK 9 (blk w b) (failL prog 197 b w) w:=by
 unfold loadK
 split
 ·rename_i h;exact loadMd w b h
 ·rfl
attribute [local go_sem] loadMd2
theorem Cl.pp{v:World}{b x:Nat}(h:Cl v b x):(∀k,Pre (b+1) (v.heap.size+k))∧(∀k l,Pre (b+1) (v.heap.size+k+l))∧(∀k l j,Pre (b+1) (v.heap.size+k+l+j)):=by
 have:=h.p;unfold Pre at *;exact⟨fun k=>by omega,fun k l=>by omega,fun k l j=>by omega⟩
end
end
section
def FarN(K:World→World→Prop)(k:Kw):Prop:=∀y v w,K v w→k.ok y v→k.ok y w
theorem fnc{N:World→World→Prop}{v:Value}:FarN N (.c v):=fun _ _ _ _ _=>trivial
theorem fnu{N:World→World→Prop}:FarN N .u:=fun _ _ _ _ _=>trivial
def FarNs(N:World→World→Prop):List Kw→Prop
 | []=>True
 | k :: r=>FarN N k∧FarNs N r
theorem FarNs.at{N:World→World→Prop}:∀{kp:List Kw},FarNs N kp→∀i,FarN N (kW kp i)
 | [],_,_=>fnu
 | _ :: _,h,0=>h.1
 | _ :: r,h,i+1=>FarNs.at (kp:=r) h.2 i
def upX(l:List Oper)(s:Nat):Nat→Nat→Bool
 | 0,i=>i==s
 | n+1,i=>i==s || (List.range l.length).any fun k=>wts l k i&&upX l s n k
theorem up_listed{l:List Oper}{s:Nat}{listed:Array Bool}(hc:Cld l listed)(hs:listed.getD s false=true):∀n i,upX l s n i=true→listed.getD i false=true
 | 0,i,h=>by rw[upX,beq_iff_eq]at h;rw[h];exact hs
 | n+1,i,h=>by
  rw[upX,Bool.or_eq_true,beq_iff_eq]at h
  rcases h with h|h
  ·rw[h];exact hs
  ·obtain⟨k,hk,h⟩:=List.any_eq_true.1 h;rw[Bool.and_eq_true]at h;have d:k<l.length:=List.mem_range.1 hk
   have j:l[k]? = some l[k]:=by simp[d]
   have q:=h.1;rw[wts,opW,j,Option.getD_some,Array.any_toList]at q;obtain⟨e,x,f⟩:=Array.any_eq_true.1 q;simp only[Bool.and_eq_true,beq_iff_eq]at f;rw[←f.1];exact hc k _ j (up_listed hc hs n k h.2) _ (Array.getElem_mem x) f.2
theorem atX{l:List Oper}{kp:List Kw}{ex:List Nat}{q:Nat}{a0:Act}{listed:Array Bool}{vals:Nat→Value}(hk:chkW l kp ex q=true){a:Act}{i:Nat}{o:Oper}{x:Nat→Wt}(hF:Frm l.toArray a0 vals listed a)(hi:l.toArray[i]? = some o)(hq:i<q)(hx:∀j,wts l i j=true→listed.getD j false=true∧vals j=(kW kp j).val (x j)):
 execOp a.eval o=execOp (FW l kp a0 x).eval o∧Region.wanted o (yielded l.toArray a.tmps)=wnt l i (FW l kp a0 x):=by
 simp only[chkW,Bool.and_eq_true,beq_iff_eq]at hk;obtain⟨⟨⟨J,P⟩,K⟩,Q⟩:=hk;have B:=opW_is hi;have A:=List.all_eq_true.1 P i (by simpa using hq);rw[B]at A;simp only[rdyO,Bool.and_eq_true]at A;obtain⟨⟨f,C⟩,D⟩:=A
 have d:∀s,(match own l.toArray s with|some j=>wts l i j|none=>true)=true→a.tmps[s]? = (FW l kp a0 x).tmps[s]? := fun s L=>by
  refine eval_F J hF s fun j S=>?_
  have G:wts l i j=true:=by rw[S]at L;exact L
  exact hx j G
 refine⟨?_,?_⟩
 ·refine execOp_congr o (fun W b h=>by rw[h]at f;cases f) fun y H=>?_;have I:=Array.all_eq_true_iff_forall_mem.1 C y H
  cases y with
  | tmp s=>
   have:=d s I;simp only[Act.eval,Array.getD_eq_getD_getElem?,this]
  | _=>rfl
 ·rw[wnt,B];unfold Region.wanted
  cases hg:o.guard with
  | none=>rfl
  | some gw=>
   obtain⟨g,b⟩:=gw;rw[hg]at D;simp only
   have H:yielded l.toArray a.tmps g=yielded l.toArray (FW l kp a0 x).tmps g:=by
    unfold yielded
    cases ht:(l.toArray[g]?).bind (·.dst) with
    | none=>rfl
    | some t=>
     have:own l.toArray t=some g:=by
      obtain⟨X,U,V⟩:=Option.bind_eq_some_iff.1 ht;exact(uniq_at J U).1 t V
     simp only[Option.bind_some];rw[d t (by rw[this];exact D)]
   rw[H]
section
variable {P:Program} {l:List Oper} {Q:Exit→Act→World→Prop} {a0:Act} {kp:List Kw} {ex:List Nat} {m s:Nat} {N:World→World→Prop} {I:Bool→World→Prop} {I2:(Nat→Wt)→World→Prop} {f:FuncId} {args:(Nat→Wt)→Array Value} {t:TypeId} {p u:(Nat→Wt)→Value}
def RX(l:List Oper)(kp:List Kw)(m s:Nat)(I:Bool→World→Prop)(I2:(Nat→Wt)→World→Prop)(listed:Array Bool)(vals:Nat→Value)(w:World):Prop:=
 Cld l listed∧∃x:Nat→Wt,(∀j,listed.getD j false=true→vals j=(kW kp j).val (x j)) ∧
  (listed.getD s false=false→(∀j,listed.getD j false=true→(kW kp j).ok (x j) w)∧I (listed.getD m false) w)∧(listed.getD s false=true→I2 x w)
def ObM(P:Program)(l:List Oper)(kp:List Kw)(m:Nat)(N:World→World→Prop)(I:Bool→World→Prop)(f:FuncId)(args:(Nat→Wt)→Array Value):Prop:=
 ∀x v,I false v→(∀j,wts l m j=true→(kW kp j).ok (x j) v)→Calls P f (args x) v fun e w'=>∃y,e=.returned ((kW kp m).val y)∧(kW kp m).ok y w'∧I true w'∧N v w'
def ObT(P:Program)(l:List Oper)(kp:List Kw)(s:Nat)(I:Bool→World→Prop)(I2:(Nat→Wt)→World→Prop)(t:TypeId)(p u:(Nat→Wt)→Value):Prop:=
 ∀x v,I true v→(∀j,wts l s j=true→(kW kp j).ok (x j) v)→∃w',(exI (.store t (.const (p x)) (.const (u x)))).run P v=.ok .skip w'∧I2 x w'
theorem stepX(d:Bool)(hk:chkW l kp (m :: s :: ex) l.length=true)(hp:pureL P l kp a0 (m :: s :: ex) l.length=pureR kp (m :: s :: ex) l.length)(hup:∀i,i∈m :: ex→upX l s l.length i=true)(hms:m≠s)(hI:∀b v v',I b v→Gr v v'→I b v')(ho:∀b v,I b v→ObsW P l kp a0 v ex)(hf:FarNs N kp)(hM:ObM P l kp m N I f args)(rM:(fun x v=>resW P l kp a0 x v m)=fun x v=>some (.ok (.enter f (args x)) v))(hS:ObT P l kp s I I2 t p u)(ku:kW kp s=.u)(rS:runW l kp a0 s=fun x=>some (exI (.store t (.const (p x)) (.const (u x))))):StepR d P l Q a0 (RX l kp m s I I2):=by
 intro q G a w i o hz hR hF hi hl hd _;obtain⟨hC,x,hx,h1,h2⟩:=hR
 have ac:l[i]? = some o:=by simpa using hi
 have ab:=(List.getElem?_eq_some_iff.1 ac).1
 have V:i<q.size:=by rw[hz];simpa using ab
 have D:=opW_is hi;have H:∀j,wts l i j=true→q.getD j false=true:=fun j h=>on_of hd j (by rw[wts,D,Array.any_toList]at h;exact h);obtain⟨J,ah⟩:=atX hk hF hi ab fun j A=>⟨H j A,hx j (H j A)⟩;rw[ah]
 have ae:Cld l (q.setIfInBounds i true):=fun j oj A af e he Z=>by
  by_cases e1:e.on=i
  ·rw[e1];exact getD_set_same _ _ V
  ·rw[getD_set_other _ _ _ (Ne.symm e1)]
   by_cases e2:j=i
   ·subst e2;rw[ac]at A;cases A;exact hd e he Z
   ·rw[getD_set_other _ _ _ (Ne.symm e2)]at af;exact hC j oj A af e he Z
 have nx:∀(r:Value) (y:Wt) (w':World),r=(kW kp i).val y →
  ((q.setIfInBounds i true).getD s false=false→(∀j,q.getD j false=true→(kW kp j).ok (x j) w')∧(kW kp i).ok y w'∧I ((q.setIfInBounds i true).getD m false) w') →
  ((q.setIfInBounds i true).getD s false=true→I2 (fun j=>if j=i then y else x j) w')→RX l kp m s I I2 (q.setIfInBounds i true) (upd G i r) w':=fun r y w' W g1 g2=>by
  refine⟨ae,fun j=>if j=i then y else x j,fun j A=>?_,fun X=>?_,g2⟩
  ·by_cases e:j=i
   ·subst e;simp only[upd,if_true];exact W
   ·rw[getD_set_other _ _ _ (Ne.symm e)]at A;simp only[upd,e,if_false];exact hx j A
  ·obtain⟨Y,U,a3⟩:=g1 X;refine⟨fun j A=>?_,a3⟩
   by_cases e:j=i
   ·subst e;simp only[if_true];exact U
   ·rw[getD_set_other _ _ _ (Ne.symm e)]at A;simp only[e,if_false];exact Y j A
 have same:(fun j=>if j=i then x i else x j)=x:=by
  funext j
  by_cases e:j=i
  ·subst e;simp
  ·simp[e]
 have K:i∈m :: ex→q.getD s false=false:=fun hm=>by
  cases X:q.getD s false with
  | false=>rfl
  | true=>rw[up_listed hC X _ i (hup i hm)]at hl;cases hl
 by_cases es:i=s
 ·subst es;obtain⟨Y,U⟩:=h1 hl
  have hm:q.getD m false=true:=by
   have:=up_listed ae (getD_set_same _ _ V) _ m (hup m (List.mem_cons_self ..))
   rwa [getD_set_other _ _ _ (Ne.symm hms)]at this
  rw[hm]at U;obtain⟨g1,g2⟩:=run_W rS;obtain⟨w',r1,r2⟩:=hS x w U fun j A=>Y j (H j A);refine Or.inl ⟨g1,wp_skip (by rw[J,←D,g2];exact r1) ⟨_,rfl,nx _ (x i) w' (by rw[ku];rfl) (fun h=>?_) fun _=>by rw[same];exact r2⟩⟩;rw[getD_set_same _ _ V]at h
  cases h
 by_cases em:i=m
 ·subst em;have X:=K (List.mem_cons_self ..);obtain⟨Y,U⟩:=h1 X;rw[hl]at U;have W:=congrFun (congrFun rM x) w;have hc:=hM x w U fun j A=>Y j (H j A);unfold resW at W
  cases hw:wnt l i (FW l kp a0 x) with
  | false=>rw[hw]at W;cases W
  | true=>
   rw[hw]at W;refine Or.inl ⟨rfl,?_⟩;unfold Oper.wp;rw[J,←D,show (execOp (FW l kp a0 x).eval (opW l i)).run P w=_ from Option.some.inj W];refine hc.mono fun e w' ⟨y,he,B,ai,aj⟩=>?_;subst he
   refine⟨_,by rw[D],nx _ y w' rfl (fun _=>⟨fun j A=>hf.at j _ _ _ aj (Y j A),B,?_⟩) fun h=>?_⟩
   ·rw[getD_set_same _ _ V];exact ai
   ·rw[getD_set_other _ _ _ es,X]at h;cases h
 by_cases hm:i∈ex
 ·have X:=K (List.mem_cons_of_mem _ hm);obtain⟨Y,U⟩:=h1 X;obtain⟨g1,g2⟩:=(ho _ w U).at i hm x w (Gr.refl _) fun j A=>Y j (H j A)
  have L:∀y w',Gr w w'→(kW kp i).ok y w'→RX l kp m s I I2 (q.setIfInBounds i true) (upd G i ((kW kp i).val y)) w':=fun y w' hg B=>nx _ y w' rfl (fun _=>⟨fun j A=>(kW kp j).gr _ _ _ (Y j A) hg,B,by rw[getD_set_other _ _ _ em];exact hI _ _ _ U hg⟩) fun h=>by
   rw[getD_set_other _ _ _ es,X]at h;cases h
  refine Or.inl ⟨g1,?_⟩;rw[D]at g2
  obtain⟨y,w',S,hg,B⟩|⟨f,args,S,hc⟩:=g2
  ·exact wp_val _ (by rw[J];exact S) ⟨_,rfl,L y w' hg B⟩
  ·exact wp_retz (k:=(kW kp i).kz) (by rw[J];exact S) (hc.mono fun e w' ⟨y,he,B,hg⟩=>⟨_,he,⟨y,rfl,B⟩,hg⟩) fun r w' ⟨y,hy,B⟩ hg=>⟨r,rfl,by rw[hy];exact L y w' hg B⟩
 ·have aa:i∈others (m :: s :: ex) l.length:=by
   refine List.mem_filter.2 ⟨by simpa using ab,?_⟩
   have:i ∉ m :: s :: ex:=fun h=>by
    rcases List.mem_cons.1 h with h|h
    ·exact em h
    ·rcases List.mem_cons.1 h with h|h
     ·exact es h
     ·exact hm h
   simpa using this
  have ak:(kW kp i).cst≠0:=by
   have ag:=hk;simp only[chkW,Bool.and_eq_true]at ag
   simpa using List.all_eq_true.1 ag.2 i aa
  have C:=List.map_inj_left.1 (congrFun (congrFun hp x) w) i aa;simp only[resW,expW,D]at C
  have L:∀r,r=(kW kp i).val (x i)→RX l kp m s I I2 (q.setIfInBounds i true) (upd G i r) w:=fun r W=>nx r (x i) w W (fun h=>by
   rw[getD_set_other _ _ _ es]at h;rw[getD_set_other _ _ _ em]
   exact⟨(h1 h).1,(kW kp i).hc ak _ _,(h1 h).2⟩) fun h=>by
   rw[getD_set_other _ _ _ es]at h;rw[same];exact h2 h
  cases hw:wnt l i (FW l kp a0 x) with
  | true=>
   rw[hw]at C;refine Or.inl ⟨rfl,?_⟩
   cases Z:(kW kp i).cst==2 with
   | true=>rw[Z]at C;cases C
   | false=>
    rw[Z]at C;exact wp_val _ (by rw[J];exact Option.some.inj C) ⟨_,rfl,L _ rfl⟩
  | false=>
   rw[hw]at C;refine Or.inr ⟨rfl,?_⟩
   cases Z:(kW kp i).cst==2 with
   | true=>exact L _ ((kW kp i).hs (by simpa using Z) _).symm
   | false=>rw[Z]at C;cases C
theorem wp_x(d:Bool){id:Nat}{W:World}(kp:List Kw)(ex:List Nat)(m s:Nat)(N:World→World→Prop)(I:Bool→World→Prop)(I2:(Nat→Wt)→World→Prop)(f:FuncId)(args:(Nat→Wt)→Array Value)(t:TypeId)(p u:(Nat→Wt)→Value)(h0:I false W)(hI:∀b v v',I b v→Gr v v'→I b v')(ho:∀b v,I b v→ObsW P l kp a0 v ex)(hM:ObM P l kp m N I f args)(hS:ObT P l kp s I I2 t p u)(hf:FarNs N kp)(hfin:∀x v,I2 x v→Q .normal (FW l kp a0 x) v)(ku:kW kp s=.u:=by rfl)(rM:(fun x v=>resW P l kp a0 x v m)=fun x v=>some (.ok (.enter f (args x)) v):=by kernel_rfl)(rS:runW l kp a0 s=fun x=>some (exI (.store t (.const (p x)) (.const (u x)))):=by kernel_rfl)(hm:(!d || P.follows .mixedOrders)=true:=by kernel_rfl)(hk:(chkW l kp (m :: s :: ex) l.length&&(m :: ex).all (fun i=>upX l s l.length i)&&decide (m≠s)&&decide (s<l.length))=true:=by kernel_rfl)(hp:pureL P l kp a0 (m :: s :: ex) l.length=pureR kp (m :: s :: ex) l.length:=by kernel_rfl):(Code.region id l.toArray d).wp P Q a0 W:=by
 simp only[Bool.and_eq_true,decide_eq_true_eq,List.all_eq_true]at hk;obtain⟨⟨⟨hk,D⟩,G⟩,H⟩:=hk;obtain⟨J,K⟩:=chk_u hk
 refine wp_region_ord d (fun h=>by subst h;simpa using hm) J (RX l kp m s I I2) (fun q Z L U=>?_) (stepX d hk hp D G hI ho hf hM rM hS ku rS) fun q S a v A V hF=>?_
 ·have C:∀(i:Nat) (p:Prop),q.getD i false=true→p:=fun i p h=>by rw[L]at h;cases h
  exact⟨fun j o _ B=>C j _ B,fun _ _=>(none,0),fun j B=>C j _ B,fun _=>⟨fun j B=>C j _ B,by rw[L];exact hI _ _ _ h0 U⟩,fun h=>C s _ h⟩
 ·rw[hF.final J A];obtain⟨-,x,X,-,Y⟩:=V;rw[putFrom_congr (vals':=wvals kp x) l 0 a0 fun j o B _=>by rw[Nat.zero_add];exact X j (A j (by simpa using (List.getElem?_eq_some_iff.1 B).1))];exact hfin x v (Y (A s (by simpa using H)))
end
theorem ObW.kf{P:Program}{l:List Oper}{a0:Act}{W:World}{kp:List Kw}{i:Nat}{f:FuncId}(args:(Nat→Wt)→Array Value)(hcf:∀x v,(callFunc f (args x)).run P v=.ok (.enter f (args x)) v)(hc:∀x v,Gr W v→(∀j,wts l i j=true→(kW kp j).ok (x j) v)→Calls P f (args x) v (RtW (kW kp i) v))(hr:(fun x v=>resW P l kp a0 x v i)=fun x v=>some ((callFunc f (args x)).run P v):=by kernel_rfl):ObW P l kp a0 W i:=
 ObW.k args hc (by rw[hr];funext x v;rw[hcf x v])
end
section
attribute [local go_sem ↓] uz1
attribute [local go_sem] uz2
section
def bslF(t:TypeId)(n:Nat)(p:Array (Nat×Value)):Sem Value:=Instr.buildSlice t n p
theorem bslN_is(n:Nat)(p:Array (Nat×Value)):Instr.buildSlice 189 n p=bslF 189 n p:=rfl
theorem bsl2(a b:Nat)(w:World):(bslF 189 2 #[(0,.agg (nw 9 a)),(1,.agg (nw 9 b))]).run prog w=.ok (.slice (some ⟨w.heap.size,0,none⟩) 2 2) (w.alloc (.cells (nw 9 a++nw 9 b) 33)):=by kernel_rfl
theorem bsl1(a:Nat)(w:World):(bslF 189 1 #[(0,.agg (nw 9 a))]).run prog w=.ok (.slice (some ⟨w.heap.size,0,none⟩) 1 1) (w.alloc (.cells (nw 9 a) 33)):=by kernel_rfl
attribute [local go_sem ↓] uz3
attribute [local go_sem] uz4 ones_nw
attribute [local go_sem] loadNat2 loadArr2 loadWide2 loadK_nw ppre_1 ppre_2 ppre_3 ppre_4 ppre_5 ppre_6 ppre_7 ppre_8 ppre_9 ppre_10 ppre_11 ppre_12 ppre_13 ppre_14 ppre_15 ppre_16 ppre_17 ppre_18 ppre_19 ppre_20
attribute [local go_sem ↓] loadMd_is storeMd_is buildMd_is bslN_is Go.wp_at_zero Go.wp_at_succ
attribute [local go_sem] loadMd loadMd2 storeMd buildMd0 buildMd1 blk_other idx2_0 idx2_1 idx2_2 idx1_0 idx1_1 bsl2 bsl1
theorem onTwo_of(k:Int)(f:Nat)(x:Int)(m a b R:Nat)(hid:∀w,(Instr.index 201 (.agg tab2) (.int .i64 k)).run prog w=.ok (.func (.func f) #[] #[]) w)(hcf:∀w,(callFunc f #[.agg (nw 9 m),.agg (nw 9 a),.agg (nw 9 b)]).run prog w=.ok (.enter f #[.agg (nw 9 m),.agg (nw 9 a),.agg (nw 9 b)]) w)(HM:∀w p,blk w p=nw 9 a++nw 9 b→Pre (p+1) w.heap.size→Cg 158 #[.int .i64 x,.slice (some ⟨p,0,none⟩) 2 2] w (.tuple #[.agg (nw 9 m),.int .i64 0]))(HF:∀w,Calls prog f #[.agg (nw 9 m),.agg (nw 9 a),.agg (nw 9 b)] w fun e w'=>e=.returned (.agg (nw 9 R))∧Gr w w')(w:World):
 Cg 152 #[.int .i64 k,.int .i64 x,.agg (nw 9 a),.agg (nw 9 b)] w (.tuple #[.agg (nw 9 R),.int .i64 0]):=by
 have C:Hid _:=HM;have D:Hid _:=HF;have I:Hid _:=ofTwo_any
 go_enter func152,ntmps152
 go_upto_region 4 with (go_at_call 158;refine(C.out _ _ ?_ ?_).mono ?_;· simp[go_sem]
                        ·simp[go_sem]
                        rintro e w' ⟨rfl,g,rfl⟩)
 obtain⟨B,d⟩:=exl (w.heap.size+1+1+1+1+g.os.length);rw[d]
 refine gen_w (fun v=>Hid (Gr w v∧Vr v w.heap.size (nw 9 a)∧Vr v (w.heap.size+1) (nw 9 b)∧Vr v (w.heap.size+1+1) (nw 9 0)∧Vr v B (nw 9 m))) ?_ ?_
 ·subst d;exact⟨grA,⟨by simp[go_sem],by simp[go_sem],by simp[go_sem]⟩,⟨by simp[go_sem],by simp[go_sem],by simp[go_sem]⟩,⟨by simp[go_sem],by simp[go_sem],by simp[go_sem]⟩,⟨by simp[go_sem],by simp[go_sem],by simp[go_sem]⟩⟩
 intro S J
 refine wp_x true [.c (.agg tab2),.c (.int .i64 k),.c (.func (.func f) #[] #[]),.c (.agg (nw 9 m)),.c (.agg (nw 9 a)),.c (.agg (nw 9 b)),.c (.agg (nw 9 R)),.u,.c (.int .i64 0)] [2,3,4,5,6] 0 7 (fun _ _=>True)
  (fun _ v=>Gr w v∧Vr v (w.heap.size) (nw 9 a)∧Vr v (w.heap.size+1) (nw 9 b)∧Vr v (w.heap.size+1+1) (nw 9 0)∧Vr v B (nw 9 m)) (fun _ v=>Gr w v∧Vr v (w.heap.size+1+1) (nw 9 R))
  159 (fun _ =>#[]) 33 (fun _=>pv (w.heap.size+1+1) 0) (fun _=>.agg (nw 9 R)) J.out ?x1 ?x2 ?x3 ?x4 ⟨fnc,fnc,fnc,fnc,fnc,fnc,fnc,fnu,fnc,trivial⟩ ?x5
 case x1=>exact fun _ _ _ ⟨G,j,q,i,A⟩ g=>⟨G.trans g,j.gr g,q.gr g,i.gr g,A.gr g⟩
 case x2=>
  rintro _ H ⟨G,j,q,i,A⟩;exact⟨.s (.index 201 (.const (.agg tab2)) (.const (.int .i64 k))) rfl fun H K=>by simp[go_sem,exI,hid],.g 197 0 A rfl,.g 33 0 j rfl,.g 33 0 q rfl,.kf (fun _ =>#[.agg (nw 9 m),.agg (nw 9 a),.agg (nw 9 b)]) (fun _=>hcf) fun U H K V=>RtW.of_c (Rt.c (D.out _)),⟨⟩⟩
 case x3=>
  rintro _ v ⟨G,j,q,i,A⟩ _;refine(I.out _).mono ?_;rintro e w' ⟨rfl,g⟩;exact⟨fun _=>(none,0),rfl,trivial,⟨G.trans g,j.gr g,q.gr g,i.gr g,A.gr g⟩,trivial⟩
 case x4=>
  rintro _ v ⟨G,j,q,i,A⟩ _;exact⟨setBlk v (w.heap.size+1+1) (nw 9 R),by simp[go_sem,exI,i.h,i.f],gr_setNew G (by omega),i.set (by rw[nw_size];decide) _⟩
 rintro _ W ⟨L,P⟩;have Q:=P.h;simp only[fzw]
 go_wp2_with fail
 exact bo2 results152 (rd_nat (by rfl) Q) ⟨rfl,L⟩
theorem onOne_of(k:Int)(f:Nat)(x:Int)(m a R:Nat)(E:Int)(hid:∀w,(Instr.index 204 (.agg tab1) (.int .i64 k)).run prog w=.ok (.func (.func f) #[] #[]) w)(hcf:∀w,(callFunc f #[.agg (nw 9 m),.agg (nw 9 a)]).run prog w=.ok (.enter f #[.agg (nw 9 m),.agg (nw 9 a)]) w)(HM:∀w p,blk w p=nw 9 a→Pre (p+1) w.heap.size→Cg 158 #[.int .i64 x,.slice (some ⟨p,0,none⟩) 1 1] w (.tuple #[.agg (nw 9 m),.int .i64 0]))(HF:∀w,Calls prog f #[.agg (nw 9 m),.agg (nw 9 a)] w fun e w'=>e=.returned (.tuple #[.agg (nw 9 R),.int .i64 E])∧Gr w w')(w:World):
 Cg 157 #[.int .i64 k,.int .i64 x,.agg (nw 9 a)] w (.tuple #[.agg (nw 9 R),.int .i64 E]):=by
 have B:Hid _:=HM;have C:Hid _:=HF;have H:Hid _:=ofOne_any
 go_enter func157,ntmps157
 go_upto_region 4 with (go_at_call 158;refine(B.out _ _ ?_ ?_).mono ?_;· simp[go_sem]
                        ·simp[go_sem]
                        rintro e w' ⟨rfl,g,rfl⟩)
 obtain⟨A,d⟩:=exl (w.heap.size+1+1+1+g.os.length);rw[d]
 refine gen_w (fun v=>Hid (Gr w v∧Vr v w.heap.size (nw 9 a)∧Vr v (w.heap.size+1) (nw 9 0)∧Vr v A (nw 9 m))) ?_ ?_
 ·subst d;exact⟨grA,⟨by simp[go_sem],by simp[go_sem],by simp[go_sem]⟩,⟨by simp[go_sem],by simp[go_sem],by simp[go_sem]⟩,⟨by simp[go_sem],by simp[go_sem],by simp[go_sem]⟩⟩
 intro Q I
 refine wp_x true [.c (.agg tab1),.c (.int .i64 k),.c (.func (.func f) #[] #[]),.c (.agg (nw 9 m)),.c (.agg (nw 9 a)),.c (.tuple #[.agg (nw 9 R),.int .i64 E]),.c (.agg (nw 9 R)),.c (.int .i64 E),.u,.c (.int .i64 E)] [2,3,4,5] 0 8 (fun _ _=>True)
  (fun _ v=>Gr w v∧Vr v (w.heap.size) (nw 9 a)∧Vr v (w.heap.size+1) (nw 9 0)∧Vr v A (nw 9 m)) (fun _ v=>Gr w v∧Vr v (w.heap.size+1) (nw 9 R))
  160 (fun _ =>#[]) 33 (fun _=>pv (w.heap.size+1) 0) (fun _=>.agg (nw 9 R)) I.out ?x1 ?x2 ?x3 ?x4 ⟨fnc,fnc,fnc,fnc,fnc,fnc,fnc,fnc,fnu,fnc,trivial⟩ ?x5
 case x1=>exact fun _ _ _ ⟨G,j,i,q⟩ g=>⟨G.trans g,j.gr g,i.gr g,q.gr g⟩
 case x2=>
  rintro _ D ⟨G,j,i,q⟩;exact⟨.s (.index 204 (.const (.agg tab1)) (.const (.int .i64 k))) rfl fun D J=>by simp[go_sem,exI,hid],.g 197 0 q rfl,.g 33 0 j rfl,.kf (fun _ =>#[.agg (nw 9 m),.agg (nw 9 a)]) (fun _=>hcf) fun S D J U=>RtW.of_c (Rt.c (C.out _)),⟨⟩⟩
 case x3=>
  rintro _ v ⟨G,j,i,q⟩ _;refine(H.out _).mono ?_;rintro e w' ⟨rfl,g⟩;exact⟨fun _=>(none,0),rfl,trivial,⟨G.trans g,j.gr g,i.gr g,q.gr g⟩,trivial⟩
 case x4=>
  rintro _ v ⟨G,j,i,q⟩ _;exact⟨setBlk v (w.heap.size+1) (nw 9 R),by simp[go_sem,exI,i.h,i.f],gr_setNew G (by omega),i.set (by rw[nw_size];decide) _⟩
 rintro _ V ⟨K,L⟩;have P:=L.h;simp only[fzw]
 go_wp2_with fail
 exact bo2 results157 (rd_nat (by rfl) P) ⟨rfl,K⟩
end
end
section
theorem pN_bd(i:Nat)(h1:1≤i)(h2:i≤15):1<pN i∧pN i+pN i≤M∧pN i%2=1:=by
 obtain rfl|rfl|rfl|rfl|rfl|rfl|rfl|rfl|rfl|rfl|rfl|rfl|rfl|rfl|rfl:i=1∨i=2∨i=3∨i=4∨i=5∨i=6∨i=7∨i=8∨i=9∨i=10∨i=11∨i=12∨i=13∨i=14∨i=15:=by omega
 all_goals exact⟨by decide +kernel,by decide +kernel,by decide +kernel⟩
end
section
attribute [local go_sem ↓] uz1
attribute [local go_sem] uz2
section
attribute [local go_sem ↓] uz3
attribute [local go_sem] uz4 ones_nw
attribute [local go_sem ↓] loadMd_is storeMd_is buildMd_is
attribute [local go_sem] loadMd storeMd buildMd0 buildMd1
theorem fAdd_of(x:Int)(a b R:Nat)(E:Int)(HF:∀w,Cg 152 #[.int .i64 0,.int .i64 x,.agg (nw 9 a),.agg (nw 9 b)] w (.tuple #[.agg (nw 9 R),.int .i64 E]))(w:World):
 Cg 142 #[.int .i64 x,.agg (nw 9 a),.agg (nw 9 b)] w (.tuple #[.agg (nw 9 R),.int .i64 E]):=by
 have d:Hid _:=HF
 go_enter func142,ntmps142
 go_wp2_with (go_at_call 152;refine hkA d fun g=>?_)
 refine bo2 results142 (rd_nat (by rfl) ?_) ⟨rfl,grA⟩;simp[go_sem]
theorem fAdd_ok(i a b:Nat)(h1:1≤i)(h2:i≤15)(ha:a<pN i)(hb:b<pN i)(w:World):
 Cg 142 #[.int .i64 i,.agg (nw 9 a),.agg (nw 9 b)] w (.tuple #[.agg (nw 9 ((a+b)%pN i)),.int .i64 0]):=by
 have d:=pN_bd i h1 h2;refine fAdd_of i a b _ 0 (fun w=>onTwo_of 0 161 i (pN i) a b _ idx2_0 (fun w=>by kernel_rfl) (fun w p f h=>?_) (fun w=>fadd_any (pN i) a b ha hb d.2.1 w) w) w;have:=mfor_two i (pN i) a b p (mvN a b) h1 h2 rfl (by omega) (by omega) (by omega) rfl w (by rw[f];exact app_mv a b (by omega)) h;rw[if_pos ⟨ha,hb⟩,if_pos ⟨ha,hb⟩]at this;exact this
theorem fSub_of(x:Int)(a b R:Nat)(E:Int)(HF:∀w,Cg 152 #[.int .i64 1,.int .i64 x,.agg (nw 9 a),.agg (nw 9 b)] w (.tuple #[.agg (nw 9 R),.int .i64 E]))(w:World):
 Cg 149 #[.int .i64 x,.agg (nw 9 a),.agg (nw 9 b)] w (.tuple #[.agg (nw 9 R),.int .i64 E]):=by
 have d:Hid _:=HF
 go_enter func149,ntmps149
 go_wp2_with (go_at_call 152;refine hkA d fun g=>?_)
 refine bo2 results149 (rd_nat (by rfl) ?_) ⟨rfl,grA⟩;simp[go_sem]
theorem fSub_ok(i a b:Nat)(h1:1≤i)(h2:i≤15)(ha:a<pN i)(hb:b<pN i)(w:World):
 Cg 149 #[.int .i64 i,.agg (nw 9 a),.agg (nw 9 b)] w (.tuple #[.agg (nw 9 ((a+pN i-b)%pN i)),.int .i64 0]):=by
 have d:=pN_bd i h1 h2;refine fSub_of i a b _ 0 (fun w=>onTwo_of 1 162 i (pN i) a b _ idx2_1 (fun w=>by kernel_rfl) (fun w p f h=>?_) (fun w=>fsub_any (pN i) a b ha hb d.2.1 w) w) w;have:=mfor_two i (pN i) a b p (mvN a b) h1 h2 rfl (by omega) (by omega) (by omega) rfl w (by rw[f];exact app_mv a b (by omega)) h;rw[if_pos ⟨ha,hb⟩,if_pos ⟨ha,hb⟩]at this;exact this
theorem fMul_of(x:Int)(a b R:Nat)(E:Int)(HF:∀w,Cg 152 #[.int .i64 2,.int .i64 x,.agg (nw 9 a),.agg (nw 9 b)] w (.tuple #[.agg (nw 9 R),.int .i64 E]))(w:World):
 Cg 141 #[.int .i64 x,.agg (nw 9 a),.agg (nw 9 b)] w (.tuple #[.agg (nw 9 R),.int .i64 E]):=by
 have d:Hid _:=HF
 go_enter func141,ntmps141
 go_wp2_with (go_at_call 152;refine hkA d fun g=>?_)
 refine bo2 results141 (rd_nat (by rfl) ?_) ⟨rfl,grA⟩;simp[go_sem]
theorem fMul_ok(i a b:Nat)(h1:1≤i)(h2:i≤15)(ha:a<pN i)(hb:b<pN i)(w:World):
 Cg 141 #[.int .i64 i,.agg (nw 9 a),.agg (nw 9 b)] w (.tuple #[.agg (nw 9 (a*b%pN i)),.int .i64 0]):=by
 have h:=pN_bd i h1 h2;refine fMul_of i a b _ 0 (fun w=>onTwo_of 2 163 i (pN i) a b _ idx2_2 (fun w=>by kernel_rfl) (fun w p d f=>?_) (fun w=>fmul_any (pN i) a b (by omega) (by omega) (by omega) (by omega) w) w) w;have:=mfor_two i (pN i) a b p (mvN a b) h1 h2 rfl (by omega) (by omega) (by omega) rfl w (by rw[d];exact app_mv a b (by omega)) f;rw[if_pos ⟨ha,hb⟩,if_pos ⟨ha,hb⟩]at this;exact this
theorem fInv_of(x:Int)(a R:Nat)(E:Int)(HF:∀w,Cg 157 #[.int .i64 0,.int .i64 x,.agg (nw 9 a)] w (.tuple #[.agg (nw 9 R),.int .i64 E]))(w:World):
 Cg 148 #[.int .i64 x,.agg (nw 9 a)] w (.tuple #[.agg (nw 9 R),.int .i64 E]):=by
 have d:Hid _:=HF
 go_enter func148,ntmps148
 go_wp2_with (go_at_call 157;refine hkA d fun g=>?_)
 refine bo2 results148 (rd_nat (by rfl) ?_) ⟨rfl,grA⟩;simp[go_sem]
theorem mfor_ok10(i a:Nat)(h1:1≤i)(h2:i≤15)(ha:a<pN i)(w:World)(p:Nat)(hp:blk w p=nw 9 a)(hq:Pre (p+1) w.heap.size):
 Cg 158 #[.int .i64 i,.slice (some ⟨p,0,none⟩) 1 1] w (.tuple #[.agg (nw 9 (pN i)),.int .i64 0]):=by
 have d:=pN_bd i h1 h2;have:=mfor_one i (pN i) a p h1 h2 rfl (by omega) (by omega) w hp hq;rw[if_pos ha,if_pos ha]at this;exact this
theorem fInv_ok(i a:Nat)(h1:1≤i)(h2:i≤15)(h0:0<a)(ha:a<pN i)(hg:Nat.gcd (pN i) a=1):
 ∃x,x<pN i∧a*x%pN i=1∧∀w,Cg 148 #[.int .i64 i,.agg (nw 9 a)] w (.tuple #[.agg (nw 9 x),.int .i64 0]):=by
 have f:=pN_bd i h1 h2;obtain⟨x,h,d,j⟩:=finv_some (pN i) a h0 ha (by omega) f.1 hg;exact⟨x,h,d,fun w=>fInv_of i a x 0 (fun w=>onOne_of 0 164 i (pN i) a x 0 idx1_0 (fun w=>by kernel_rfl) (fun w p q A=>mfor_ok10 i a h1 h2 ha w p q A) j w) w⟩
end
section
attribute [local go_sem] ppre_1 ppre_2 ppre_3
def ws(l:List Nat):Array Value:=(l.map fun x:Nat=>Value.int .u64 x).toArray
def numW(l:List Nat):Nat:=l.foldl (fun a x=>a*18446744073709551616+x) 0
theorem ws_get(l:List Nat)(j x:Nat)(h:l[j]? = some x):(ws l)[j]? = some (.int .u64 x):=by simp[ws,h]
theorem numW_take(l:List Nat)(j x:Nat)(h:l[j]? = some x):numW (l.take (j+1))=numW (l.take j)*18446744073709551616+x:=by
 grind [numW,List.take_add_one]
theorem put_word(N x q:Nat):N*pw (q+1)%pw q+x*pw q+N*pw (q+1)/pw (q+1)*pw (q+1)=(N*18446744073709551616+x)*pw q:=by
 grind [pow_succ64,Nat.mul_comm,Nat.mul_assoc,Nat.mul_mod_left,Nat.mul_div_cancel,pw_pos,Nat.add_mul,Nat.add_comm]
theorem number_any(l:List Nat)(k b:Nat)(hk:l.length=k)(h9:k≤9)(hw:∀x∈l,x<18446744073709551616)(w:World)(hb:blk w b=ws l)(hp:Pre (b+1) w.heap.size):
 Cg 151 #[.slice (some ⟨b,0,none⟩) k k] w (.agg (nw 9 (numW l))):=by
 have G:Hid (∀(j x:Nat),l[j]? = some x→w.cell? ⟨b,j,none⟩=some (.int .u64 x)):=fun j x h=>by rw[cell_blk,hb];exact ws_get l j x h
 have H:Hid (∀(j x:Nat),l[j]? = some x→x<18446744073709551616):=fun j x h=>hw x (List.mem_of_getElem? h);have C:Hu (_):=fun _=>hk
 have Q:(0:Int)≤k:=by omega
 have S:(k:Int)≤9:=by omega
 have I:Hu (_):=fun _=>h9;clear hb hw hk h9
 go_enter func151,ntmps151
 go_wp2
 go_loopw [8] (fun i wr=>∃j V:Nat,i=.int .i64 j∧Hu (j≤k∧numW (l.take j)*pw (k-j)=V)∧wr=(w.alloc (.cells (nw 9 0) 33)).alloc (.cells (nw 9 V) 33)) (fun i _=>k-(intOf i).toNat)
 case atStart=>exact⟨0,0,rfl,fun _=>⟨Nat.zero_le _,by simp[numW]⟩,rfl⟩
 case round=>
  obtain⟨j,V,rfl,D,rfl⟩:=hrel
  by_cases hlt:j<k
  ·obtain⟨q,U⟩:=exl (k-1-j)
   have J:j<l.length:=by rw[C.out ()];exact hlt
   obtain⟨x,A⟩:∃x,l[j]? = some x:=⟨l[j],List.getElem?_eq_getElem J⟩;have W:=G.out j x A;have K:=H.out j x A
   have X:(0:Int)≤j:=by omega
   have L:q<9:=by have:=I.out ();omega
   obtain⟨d,f⟩:∃d,numW (l.take (j+1))*pw q=d:=⟨_,rfl⟩
   have Y:(nw 9 V).setIfInBounds q (Value.int .u64 x)=nw 9 d:=by
    rw[nw_set 9 V q x K,←f,←(D.out ()).2,numW_take l j x A,show k-j=q+1 by omega,put_word]
   have B:Hu (j+1≤k∧numW (l.take (j+1))*pw (k-(j+1))=d):=fun _=>⟨hlt,by rw[←f,show k-(j+1)=q by omega]⟩
   go_wp2
   go_roundw
   case rel=>exact⟨j+1,d,by go_num,B,rfl⟩
   case measure=>simp[intOf];omega
  ·have P:Hu (V=numW l):=fun _=>by
    have:=D.out ();rw[←this.2,show k-j=0 by omega,pw_zero,Nat.mul_one,List.take_of_length_le (by rw[C.out ()];omega)]
   go_wp2
   refine bo1 results151 (rd_nat (x:=V) (by rfl) ?_) ⟨by rw[P.out ()],grA⟩;simp[go_sem]
end
section
theorem lessThree_any(p:Nat)(h3:3≤p)(hp:p<M)(w:World):
 Cg 150 #[.agg (nw 9 p)] w (.agg (nw 9 (p-3))):=by
 obtain⟨d,j⟩:∃d,p-3=d:=⟨_,rfl⟩
 have H:Hid _:=fun w=>by
  have:=sub_any p 3 hp (by omega) w;rw[decide_eq_false (by omega),show p+M-3=d+M by omega,Nat.add_mod_right,Nat.mod_eq_of_lt (show d<M by omega)]at this;exact this
 rw[j];clear j h3 hp
 go_enter func150,ntmps150
 go_upto_region 1 with fail
 refine gen_v (fun v=>Gr w v∧Vr v w.heap.size (nw 9 p)∧Vr v (w.heap.size+1) (nw 9 0)) ⟨grA,vrA,vrA⟩ ?_;rintro S ⟨G,A,x⟩;refine wp_v true [.N p,.N 3,.c (.tuple #[.agg (nw 9 d),.bool false]),.c (.tuple #[.agg (nw 9 d),.bool false]),.N d,.F,.a,.u,.F] [0,1,2] [⟨6,7,33,nw 9 0,fun _=>nw 9 d⟩] ⟨.g 33 0 A rfl,.z (small_any 3 (by decide)),.z H.out,⟨⟩⟩ ⟨.k zNat (.t rfl),⟨⟩⟩ fun I U i J B=>?_;simp only[fzw,Kw.a];obtain⟨⟨C,q⟩,-⟩:=B;clear J;replace G:=G.trans i;replace A:=A.gr i;replace x:=x.gr i
 go_upto_region 2 with fail
 refine wp_wTS 1 [.N d] [0] ⟨.g 33 0 q rfl,⟨⟩⟩ (.s 33 (fun K=>pv (w.heap.size+1) 0) (fun K=>.agg (nw 9 d)) fun L P i V=>?_);have D:=(x.gr i).h;have Q:=(x.gr i).f;refine⟨setBlk P (w.heap.size+1) (nw 9 d),by simp[go_sem,exI,D,Q],?_⟩;simp only[fzw];replace G:=G.trans i
 go_wp2_with fail
 exact bo1 results150 (rd_nat (by rfl) (blk_setBlk _ _ _ (by rw[D];decide +kernel))) ⟨rfl,gr_setNew G (by omega)⟩
end
end
end Go.Proofs.YtffhepbppiocbacGreat