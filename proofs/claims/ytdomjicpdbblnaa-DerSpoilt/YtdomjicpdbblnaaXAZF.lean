import Derived.Laws.IdiomStrings
import Derived.Test.YtdomjicpdbblnaaXAZB
import Derived.Test.YtdomjicpdbblnaaXAAG
namespace Go.Proofs.Ytdomjicpdbblnaa
open Go.RowKit Go.Proofs.Try
set_option maxRecDepth 100000
set_option maxHeartbeats 8000000
section
def cvT(x:Value):Sem Value:=convert 42 9 x
theorem cvT_is(x:Value):convert 42 9 x=cvT x:=rfl
def cvU(x:Value):Sem Value:=convert 9 42 x
theorem cvU_is(x:Value):convert 9 42 x=cvU x:=rfl
def uF(l:List UInt8)(i:Nat):Value:=.int .u8 (((l.getD i 0).toNat:Nat):Int)
theorem nums_tx(l:List UInt8):strOfNums (l.map fun b=>(b.toNat:Int))=⟨l.toArray⟩:=by
 unfold strOfNums;rw[List.map_map]
 congr 2
 refine(List.map_congr_left fun b _=>?_).trans (List.map_id l);simp
theorem cvU_run(w:World)(l:List UInt8):
 ∃cap w',(cvU (.string ⟨l.toArray⟩)).run prog w=.ok (.slice (some ⟨w.heap.size,0,none⟩) l.length cap) w'∧Rx w' w.heap.size l.length cap (uF l)∧Gr w w':=by
 have f:=run_bytes_of_string w 9 42 5 ⟨l.toArray⟩ underlying9 underlying42 underlying5;rw[sz_tx]at f;have b:=grownCap_ge w l.length 0 5;generalize grownCap w l.length 0 5=c at f b
 have d:(bytesRow ⟨l.toArray⟩ c).size=c:=by
  have e:=sz_tx l;unfold bytesRow;simp
  omega
 rw[d]at f
 refine⟨_,_,f,⟨by simp,b,fun i h=>?_,fun i h=>⟨?_,?_⟩⟩,((Gr.refl _).drew).alloc _⟩
 ·refine(World.cell?_alloc_mark w.drew (bytesRow ⟨l.toArray⟩ c) 5 (c,c+1) i).trans ?_;rw[bytesRow_at _ c i (by show i<l.toArray.size;simpa using h),uF];simp[h]
 ·rw[show (⟨w.heap.size,i,none⟩:Addr)=⟨w.drew.heap.size,i,none⟩ from rfl,World.cell?_alloc_mark w.drew (bytesRow ⟨l.toArray⟩ c) 5 (c,c+1) i,Array.getElem?_eq_getElem (by rw[d];exact h)]
  rfl
 ·refine(World.frozen?_alloc_mark w.drew (bytesRow ⟨l.toArray⟩ c) 5 c (c+1) i).trans ?_;rw[decide_eq_false (show ¬c≤i by omega)]
  rfl
def bsB(n:Nat)(p:Array (Nat×Value)):Sem Value:=Instr.buildSlice 42 n p
theorem bsB_is(n:Nat)(p:Array (Nat×Value)):Instr.buildSlice 42 n p=bsB n p:=rfl
theorem bsB1(a:Int)(w:World):(bsB 1 #[(0,.int .u8 a)]).run prog w=.ok (.slice (some ⟨w.heap.size,0,none⟩) 1 1) (w.alloc (.cells #[.int .u8 a] 5)):=by kernel_rfl
theorem bsB2(a b:Int)(w:World):(bsB 2 #[(0,.int .u8 a),(1,.int .u8 b)]).run prog w=.ok (.slice (some ⟨w.heap.size,0,none⟩) 2 2) (w.alloc (.cells #[.int .u8 a,.int .u8 b] 5)):=by kernel_rfl
theorem bsB3(a b c:Int)(w:World):(bsB 3 #[(0,.int .u8 a),(1,.int .u8 b),(2,.int .u8 c)]).run prog w=.ok (.slice (some ⟨w.heap.size,0,none⟩) 3 3) (w.alloc (.cells #[.int .u8 a,.int .u8 b,.int .u8 c] 5)):=by kernel_rfl
theorem cvT_blk(l:List UInt8)(v:World)(b:Nat)(h:blk v b=(l.map fun c=>Value.int .u8 (c.toNat:Int)).toArray):(cvT (.slice (some ⟨b,0,none⟩) l.length l.length)).run prog v=.ok (.string ⟨l.toArray⟩) v:=by
 rw[←nums_tx];refine run_convert_bytes_arg v 42 5 underlying42 underlying5 b 0 l.length l.length _ (by simp) (fun i d=>?_) 9 underlying9;rw[Nat.zero_add,cell_blk,h];simp[d]
end
end Go.Proofs.Ytdomjicpdbblnaa