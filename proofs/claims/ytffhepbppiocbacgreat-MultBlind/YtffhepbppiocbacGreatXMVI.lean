import Derived.Test.YtffhepbppiocbacGreatXMAG
import Derived.Test.YtffhepbppiocbacGreatXMEv
namespace Go.Proofs.YtffhepbppiocbacGreat
open Go.RowKit Go.Proofs.Tryz
set_option maxRecDepth 100000
set_option maxHeartbeats 8000000
section
def Iv(w:World)(q:Option Addr)(L:Nat)(f:Nat→Int):Prop:=
 L=0∨∃b o,q=some ⟨b,o,none⟩∧b<w.heap.size∧∀i,i<L→w.cell? ⟨b,o+i,none⟩=some (.int .i64 (f i))
theorem Iv.kept{S:Nat→Prop}{w w':World}{q:Option Addr}{L:Nat}{f:Nat→Int}(h:Iv w q L f)(k:Kp S w w')(hn:∀b,At q b→¬S b):Iv w' q L f:=by
 rcases h with h|⟨b,o,rfl,hb,hc⟩
 ·exact Or.inl h
 ·exact Or.inr ⟨b,o,rfl,Nat.lt_of_lt_of_le hb k.size,fun i d=>by rw[k.cell b _ hb (hn b ⟨o,rfl⟩)];exact hc i d⟩
theorem Iv.gr{w w':World}{q:Option Addr}{L:Nat}{f:Nat→Int}(h:Iv w q L f)(g:Gr w w'):Iv w' q L f:=h.kept (Kp.gr g fun _=>False) fun _ _ h=>h
theorem Iv.le{w:World}{q:Option Addr}{L m:Nat}{f:Nat→Int}(h:Iv w q L f)(hm:m≤L):Iv w q m f:=by
 rcases h with h|⟨b,o,rfl,hb,hc⟩
 ·exact Or.inl (by omega)
 ·exact Or.inr ⟨b,o,rfl,hb,fun i d=>hc i (by omega)⟩
theorem Iv.congr{w:World}{q:Option Addr}{L:Nat}{f g:Nat→Int}(h:Iv w q L f)(e:∀i,i<L→f i=g i):Iv w q L g:=by
 rcases h with h|⟨b,o,rfl,hb,hc⟩
 ·exact Or.inl h
 ·exact Or.inr ⟨b,o,rfl,hb,fun i d=>by rw[←e i d];exact hc i d⟩
theorem Iv.at{w:World}{q:Option Addr}{L:Nat}{f:Nat→Int}(h:Iv w q L f){i:Nat}(hi:i<L):∃b o,q=some ⟨b,o,none⟩∧w.cell? ⟨b,o+i,none⟩=some (.int .i64 (f i)):=by
 rcases h with h|⟨b,o,e,_,hc⟩
 ·omega
 ·exact⟨b,o,e,hc i hi⟩
abbrev iF(f:Nat→Int):Nat→Value:=fun i=>.int .i64 (f i)
theorem Rx.iv{w:World}{g n cap:Nat}{f:Nat→Int}(h:Rx w g n cap (iF f)):Iv w (some ⟨g,0,none⟩) n f:=
 Or.inr ⟨g,0,rfl,h.lt,fun i d=>by rw[Nat.zero_add];exact h.cell i d⟩
theorem Rx.kept{S:Nat→Prop}{w w':World}{g n cap:Nat}{f:Nat→Value}(h:Rx w g n cap f)(k:Kp S w w')(hn:¬S g):Rx w' g n cap f:=
 ⟨Nat.lt_of_lt_of_le h.lt k.size,h.le,fun i d=>by rw[k.cell g i h.lt hn];exact h.cell i d,fun i d=>by rw[k.cell g i h.lt hn,k.frozen g i h.lt hn];exact h.room i d⟩
theorem Rx.congr{w:World}{g n cap:Nat}{f f':Nat→Value}(h:Rx w g n cap f)(e:∀i,i<n→f i=f' i):Rx w g n cap f':=
 ⟨h.lt,h.le,fun i d=>by rw[←e i d];exact h.cell i d,h.room⟩
def ir(n:Nat)(f:Nat→Int):Array Value:=fr n (iF f)
theorem ir_size(n:Nat)(f:Nat→Int):(ir n f).size=n:=fr_size _ _
theorem ir_get(n:Nat)(f:Nat→Int)(i:Nat)(h:i<n):(ir n f)[i]? = some (.int .i64 (f i)):=fr_get _ _ _ h
theorem ir_set(n:Nat)(f:Nat→Int)(i:Nat)(x:Int):(ir n f).setIfInBounds i (.int .i64 x)=ir n fun j=>if j=i then x else f j:=by
 apply Array.ext_getElem?
 intro j;rw[Array.getElem?_setIfInBounds,ir_size]
 by_cases hj:j<n
 ·rw[ir_get n (fun j=>if j=i then x else f j) j hj]
  by_cases e:i=j
  ·subst e;simp[hj]
  ·rw[if_neg e,ir_get n _ j hj];simp[show ¬j=i from fun h=>e h.symm]
 ·rw[Array.getElem?_eq_none (by rw[ir_size];omega),Array.getElem?_eq_none (by rw[ir_size];omega)]
  by_cases e:i=j
  ·subst e;simp[hj]
  ·simp[e]
theorem ir_congr{n:Nat}{f g:Nat→Int}(h:∀i,i<n→f i=g i):ir n f=ir n g:=by
 apply Array.ext_getElem?
 intro j
 by_cases hj:j<n
 ·rw[ir_get n _ j hj,ir_get n _ j hj,h j hj]
 ·rw[Array.getElem?_eq_none (by rw[ir_size];omega),Array.getElem?_eq_none (by rw[ir_size];omega)]
theorem Rx.of_blk{w:World}{g n:Nat}{f:Nat→Int}(hg:g<w.heap.size)(hb:blk w g=ir n f)(hf:frz w g=(0,0)):Rx w g n n (iF f):=
 ⟨hg,Nat.le_refl _,fun i d=>by rw[cell_blk,hb,ir_get n f i d],fun i d=>⟨by rw[cell_blk,hb,ir_get n f i d];rfl,by
  unfold frz at hf;unfold World.frozen?
  split <;> simp_all⟩⟩
theorem Rx.new(w:World)(n:Nat)(f:Nat→Int)(t:TypeId){b:Nat}(hb:b=w.heap.size):Rx (w.alloc (.cells (ir n f) t)) b n n (iF f):=by
 subst hb;exact⟨by simp,Nat.le_refl _,fun i d=>by rw[cell_new,ir_get n f i d],fun i d=>⟨by rw[cell_new,ir_get n f i d];rfl,fz_new _ _ _ _⟩⟩
theorem ir_made(n:Nat):madeCells #[.int .i64 0] n=ir n fun _=>0:=by
 apply Array.ext_getElem?
 intro j
 by_cases hj:j<n
 ·rw[ir_get n _ j hj];simp[madeCells,hj,Nat.mod_one]
 ·rw[Array.getElem?_eq_none (by rw[size_madeCells];omega),Array.getElem?_eq_none (by rw[ir_size];omega)]
theorem make_ints(n:Nat)(hn:n≤100000)(v:World):
 (Instr.makeSlice 140 (.int .i64 n) (.int .i64 n)).run prog v=.ok (.slice (some ⟨v.heap.size,0,none⟩) n n) (v.alloc (.cells (ir n fun _=>0) 3)):=by
 have j:(prog.info? 3).map (·.zero)=some (some (.int .i64 0)):=by kernel_rfl
 have f:(prog.info? 3).map (·.size)=some 1:=by kernel_rfl
 have d:(prog.info? 3).map (·.bytes)=some 8:=by kernel_rfl
 obtain⟨i,q⟩:∃i:TypeInfo,prog.info? 3=some i:=by
  cases h:prog.info? 3 with
  | none=>rw[h]at f;cases f
  | some i=>exact⟨i,rfl⟩
 rw[q]at j f d
 replace j:i.zero=some (.int .i64 0):=by simpa using j
 replace f:i.size=1:=by simpa using f
 replace d:i.bytes=8:=by simpa using d
 rw[run_make v 140 3 i (.int .i64 0) underlying140 q j .i64 .i64 (n:Int) (n:Int) (by omega) (by omega) (by rw[d];omega) (by omega),f,Int.toNat_natCast,Nat.mul_one,←ir_made n]
 rfl
end
end Go.Proofs.YtffhepbppiocbacGreat