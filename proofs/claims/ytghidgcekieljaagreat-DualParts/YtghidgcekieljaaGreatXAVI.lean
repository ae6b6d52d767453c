import Derived.Test.YtghidgcekieljaaGreatXAAG
import Derived.Test.YtghidgcekieljaaGreatXAEv
namespace Go.Proofs.YtghidgcekieljaaGreat
open Go.RowKit Go.Proofs.Tryz
set_option maxRecDepth 100000
set_option maxHeartbeats 8000000
section
abbrev iF(f:Nat→Int):Nat→Value:=fun i=>.int .i64 (f i)
theorem Rx.kept{S:Nat→Prop}{w w':World}{g n cap:Nat}{f:Nat→Value}(h:Rx w g n cap f)(k:Kp S w w')(hn:¬S g):Rx w' g n cap f:=
 ⟨Nat.lt_of_lt_of_le h.lt k.size,h.le,fun i hi=>by rw[k.cell g i h.lt hn];exact h.cell i hi,fun i hi=>by rw[k.cell g i h.lt hn,k.frozen g i h.lt hn];exact h.room i hi⟩
def ir(n:Nat)(f:Nat→Int):Array Value:=fr n (iF f)
theorem ir_size(n:Nat)(f:Nat→Int):(ir n f).size=n:=fr_size _ _
theorem ir_get(n:Nat)(f:Nat→Int)(i:Nat)(h:i<n):(ir n f)[i]? = some (.int .i64 (f i)):=fr_get _ _ _ h
theorem ir_set(n:Nat)(f:Nat→Int)(i:Nat)(x:Int):(ir n f).setIfInBounds i (.int .i64 x)=ir n fun j=>if j=i then x else f j:=by
 apply Array.ext_getElem?
 intro j;rw[Array.getElem?_setIfInBounds,ir_size]
 by_cases hj:j<n
 ·rw[ir_get n (fun j=>if j=i then x else f j) j hj]
  by_cases e:i=j
  ·subst e;simp[hj]
  ·rw[if_neg e,ir_get n _ j hj];simp[show ¬j=i from fun h=>e h.symm]
 ·rw[Array.getElem?_eq_none (by rw[ir_size];omega),Array.getElem?_eq_none (by rw[ir_size];omega)]
  by_cases e:i=j
  ·subst e;simp[hj]
  ·simp[e]
theorem ir_congr{n:Nat}{f g:Nat→Int}(h:∀i,i<n→f i=g i):ir n f=ir n g:=by
 apply Array.ext_getElem?
 intro j
 by_cases hj:j<n
 ·rw[ir_get n _ j hj,ir_get n _ j hj,h j hj]
 ·rw[Array.getElem?_eq_none (by rw[ir_size];omega),Array.getElem?_eq_none (by rw[ir_size];omega)]
theorem Rx.new(w:World)(n:Nat)(f:Nat→Int)(t:TypeId){b:Nat}(hb:b=w.heap.size):Rx (w.alloc (.cells (ir n f) t)) b n n (iF f):=by
 subst hb;exact⟨by simp,Nat.le_refl _,fun i hi=>by rw[cell_new,ir_get n f i hi],fun i hi=>⟨by rw[cell_new,ir_get n f i hi];rfl,fz_new _ _ _ _⟩⟩
theorem ir_made(n:Nat):madeCells #[.int .i64 0] n=ir n fun _=>0:=by
 apply Array.ext_getElem?
 intro j
 by_cases hj:j<n
 ·rw[ir_get n _ j hj];simp[madeCells,hj,Nat.mod_one]
 ·rw[Array.getElem?_eq_none (by rw[size_madeCells];omega),Array.getElem?_eq_none (by rw[ir_size];omega)]
theorem make_ints(n:Nat)(hn:n≤100000)(v:World):
 (Instr.makeSlice 104 (.int .i64 (n:Int)) (.int .i64 (n:Int))).run prog v=.ok (.slice (some ⟨v.heap.size,0,none⟩) n n) (v.alloc (.cells (ir n fun _=>0) 3)):=by
 have hz:(prog.info? 3).map (·.zero)=some (some (.int .i64 0)):=by kernel_rfl
 have hs:(prog.info? 3).map (·.size)=some 1:=by kernel_rfl
 have hby:(prog.info? 3).map (·.bytes)=some 8:=by kernel_rfl
 obtain⟨i,hi⟩:∃i:TypeInfo,prog.info? 3=some i:=by
  cases h:prog.info? 3 with
  | none=>rw[h]at hs;cases hs
  | some i=>exact⟨i,rfl⟩
 rw[hi]at hz hs hby
 replace hz:i.zero=some (.int .i64 0):=by simpa using hz
 replace hs:i.size=1:=by simpa using hs
 replace hby:i.bytes=8:=by simpa using hby
 rw[run_make v 104 3 i (.int .i64 0) underlying104 hi hz .i64 .i64 (n:Int) (n:Int) (by omega) (by omega) (by rw[hby];omega) (by omega),hs,Int.toNat_natCast,Nat.mul_one,←ir_made n]
 rfl
end
end Go.Proofs.YtghidgcekieljaaGreat