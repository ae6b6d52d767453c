import Derived.Test.YtffhepbppiocbadGreatXAAT
namespace Go.Proofs.YtffhepbppiocbadGreat
open Go.RowKit Go.Proofs.Tryz
set_option maxRecDepth 100000
set_option maxHeartbeats 8000000
section
def Bs(c:Array Value)(f:Nat→Bool):Prop:=c.size=65536∧∀a,a<65536→c[a]? = some (.bool (f a))
def blN(n:Nat):Array Value:=madeCells (Value.bool false).cells n
theorem blN_get(n a:Nat)(h:a<n):(blN n)[a]? = some (.bool false):=by
 rw[Array.getElem?_eq_getElem (by rw[blN,size_madeCells];exact h)];simp[blN,madeCells,Value.cells,Nat.mod_one]
theorem blN_Bs:Bs (blN 65536) fun _=>false:=⟨size_madeCells _ _,fun a d=>blN_get 65536 a d⟩
theorem Bs.set{c:Array Value}{f:Nat→Bool}(h:Bs c f)(b:Nat):Bs (c.setIfInBounds b (.bool true)) fun a=>f a || decide (a=b):=by
 refine⟨by rw[Array.size_setIfInBounds];exact h.1,fun a d=>?_⟩
 by_cases e:b=a
 ·subst e;rw[Array.getElem?_setIfInBounds_self_of_lt (by rw[h.1];exact d)];simp
 ·rw[Array.getElem?_setIfInBounds_ne e,h.2 a d];simp[Ne.symm e]
def mkB(a b:Value):Sem Value:=Instr.makeSlice 45 a b
theorem mkB_is(a b:Value):Instr.makeSlice 45 a b=mkB a b:=rfl
theorem mkN_run(n:Nat)(hn:n≤281474976710656)(w:World):(mkB (.int .i64 n) (.int .i64 n)).run prog w=.ok (.slice (some ⟨w.heap.size,0,none⟩) n n) (w.alloc (.cells (blN n) 4)):=by
 have f:(prog.info? 4).map (fun i=>(i.zero,i.size,i.bytes))=some (some (.bool false),1,1):=by kernel_rfl
 obtain⟨h,j,d⟩:=Option.map_eq_some_iff.1 f;simp only[Prod.mk.injEq]at d;unfold mkB;rw[run_make w 45 4 h _ underlying45 j d.1 .i64 .i64 (n:Int) (n:Int) (by omega) (by omega) (by rw[d.2.2];omega) (by omega),d.2.1,Int.toNat_natCast,Nat.mul_one]
 rfl
theorem mkB_run(w:World):(mkB (.int .i64 65536) (.int .i64 65536)).run prog w=.ok (.slice (some ⟨w.heap.size,0,none⟩) 65536 65536) (w.alloc (.cells (blN 65536) 4)):=mkN_run 65536 (by decide) w
theorem and255(x:Nat)(h:x≤255):x&&&255=x:=by
 rw[show (255:Nat)=2^8-1 from rfl,Nat.and_two_pow_sub_one_eq_mod]
 omega
theorem bAnd(x:Nat)(h:x≤255):bits .and .u64 (x:Int) 255=(x:Int):=by
 show IntKind.u64.wrap ((BitVec.ofInt 64 (x:Int)&&&BitVec.ofInt 64 255).toNat:Int)=_
 rw[BitVec.toNat_and,show (BitVec.ofInt 64 (x:Int)).toNat=x by rw[BitVec.toNat_ofInt];omega,show (BitVec.ofInt 64 255).toNat=255 by decide,and255 x h,IntKind.wrap_u64]
 omega
theorem atW64{x y a:Nat}(hx:x≤255)(hy:y≤255)(h:x*256+y=a):wrap64 (wrap64 (wrap64 (bits .and .u64 (x:Int) 255)*256)+wrap64 (bits .and .u64 (y:Int) 255))=(a:Int):=by
 rw[bAnd x hx,bAnd y hy];unfold wrap64
 omega
end
end Go.Proofs.YtffhepbppiocbadGreat