import Derived.Laws.MakeOwn
import Derived.Test.YtonbpnbhjghfbaaXAAdd
import Derived.Test.YtonbpnbhjghfbaaXADig
namespace Go.Proofs.Ytonbpnbhjghfbaa
open Go.RowKit Go.Proofs.Try
set_option maxRecDepth 100000
set_option maxHeartbeats 8000000
section
attribute [local go_sem ↓] uz1
attribute [local go_sem] uz2
section
def Sl(w:World)(p:Option Addr)(x:Nat):Prop:=
 ∀i,i<dl x→∃b,p=some ⟨b,0,none⟩∧Pre (b+1) w.heap.size∧(blk w b)[i]? = some (.int .u32 ((dg x i:Nat):Int))
theorem Sl.gr{w v:World}{p:Option Addr}{x:Nat}(h:Sl w p x)(g:Gr w v):Sl v p x:=fun i f=>by
 obtain⟨b,j,d,l⟩:=h i f;obtain⟨k,rfl⟩:=g;exact⟨b,j,by rw[gro_size];exact pre_add _ _ _ d,by rw[blk_gro w k b d];exact l⟩
theorem Sl.zero(w:World)(p:Option Addr):Sl w p 0:=fun i d=>by rw[dl_zero]at d;omega
theorem Sl.of_blk{w:World}{b n x:Nat}(hb:Pre (b+1) w.heap.size)(hc:blk w b=nd n x)(hx:x<pq n):Sl w (some ⟨b,0,none⟩) x:=fun i d=>
 ⟨b,rfl,hb,by rw[hc];exact nd_get n x i (Nat.lt_of_lt_of_le d ((dl_le x n).2 hx))⟩
def Nm(x:Nat)(w:World)(e:Ending)(w':World):Prop:=∃p n,e=.returned (.slice p (dl x) n)∧Sl w' p x∧Gr w w'
theorem nd_made(n:Nat):madeCells #[.int .u32 0] n=nd n 0:=by
 apply Array.ext_getElem?
 intro j
 by_cases hj:j<n
 ·simp[madeCells,nd,hj,Nat.mod_one,dg_zero]
 ·rw[Array.getElem?_eq_none (by rw[size_madeCells];omega),Array.getElem?_eq_none (by rw[nd_size];omega)]
theorem make_digits(n:Nat)(hn:n≤100000)(v:World):
 (Instr.makeSlice 29 (.int .i64 n) (.int .i64 n)).run prog v=.ok (.slice (some ⟨v.heap.size,0,none⟩) n n) (v.alloc (.cells (nd n 0) 56)):=by
 have j:(prog.info? 56).map (·.zero)=some (some (.int .u32 0)):=by kernel_rfl
 have f:(prog.info? 56).map (·.size)=some 1:=by kernel_rfl
 have d:(prog.info? 56).map (·.bytes)=some 4:=by kernel_rfl
 obtain⟨i,l⟩:∃i:TypeInfo,prog.info? 56=some i:=by
  cases h:prog.info? 56 with
  | none=>rw[h]at f;cases f
  | some i=>exact⟨i,rfl⟩
 rw[l]at j f d
 replace j:i.zero=some (.int .u32 0):=by simpa using j
 replace f:i.size=1:=by simpa using f
 replace d:i.bytes=4:=by simpa using d
 rw[run_make v 29 56 i (.int .u32 0) underlying29 l j .i64 .i64 (n:Int) (n:Int) (by omega) (by omega) (by rw[d];omega) (by omega),f,Int.toNat_natCast,Nat.mul_one,←nd_made n]
 rfl
theorem digit_any(w:World)(p:Option Addr)(x n i:Nat)(h:Sl w p x):
 Calls prog 30 #[.slice p (dl x) n,.int .i64 i] w fun e w'=>e=.returned (.int .u64 ((dg x i:Nat):Int))∧w'=w:=by
 by_cases hi:i<dl x
 ·obtain⟨b,rfl,j,d⟩:=h i hi
  have l:w.cell? ⟨b,i,none⟩=some (.int .u32 ((dg x i:Nat):Int)):=by rw[cell_blk];exact d
  have q:=dg_lt x i
  go_enter func30,ntmps30
  go_wp2
  go_ret
  exact⟨rfl,rfl⟩
 ·have f:¬(i:Int)<(dl x:Int):=by omega
  have v:=dg_beyond x i (by omega)
  go_enter func30,ntmps30
  go_wp2
  go_ret
  exact⟨rfl,rfl⟩
theorem trim_any(w:World)(b L n x:Nat)(hL:L≤n)(hn:n≤100000)(hx:x<pq L)(hc:∀i,i<L→(blk w b)[i]? = some (.int .u32 ((dg x i:Nat):Int))):
 Calls prog 32 #[.slice (some ⟨b,0,none⟩) L n] w fun e w'=>e=.returned (.slice (some ⟨b,0,none⟩) (dl x) n)∧w'=w:=by
 have h:Hid _:=hc;have l:Hu (_):=fun _=>hx
 go_enter func32,ntmps32
 go_wp2
 go_loopw [3] (fun i wr=>∃k:Nat,k≤L∧i=.int .i64 k∧Hu (x<pq k)∧wr=w) (fun i _=>(intOf i).toNat)
 case atStart=>exact⟨L,by omega,rfl,l,rfl⟩
 case round=>
  obtain⟨k,A,rfl,d,rfl⟩:=hrel
  obtain rfl|⟨j,rfl⟩:k=0∨∃j,k=j+1:=by cases k with|zero=>exact Or.inl rfl|succ j=>exact Or.inr ⟨j,rfl⟩
  ·have f:Hu (dl x=0):=fun _=>Nat.le_zero.1 ((dl_le x 0).2 (d.out ()))
   go_wp2
   go_ret
   exact⟨by rw[f.out ()];rfl,rfl⟩
  ·have q:wr.cell? ⟨b,j,none⟩=some (.int .u32 ((dg x j:Nat):Int)):=by rw[cell_blk];exact h.out j (by omega)
   by_cases hz:dg x j=0
   ·have v:Hu (x<pq j):=fun _=>dl_top_zero x j (d.out ()) hz;rw[hz]at q
    go_wp2
    go_roundw
    case rel=>exact⟨j,by omega,by go_num,v,trivial⟩
    case measure=>simp[intOf]
   ·have f:Hu (dl x=j+1):=fun _=>dl_top x j (d.out ()) hz
    go_wp2
    go_ret
    exact⟨by rw[f.out ()];rfl,rfl⟩
theorem trim_nd(w:World)(b n x:Nat)(hn:n≤100000)(hx:x<pq n)(hc:blk w b=nd n x):
 Calls prog 32 #[.slice (some ⟨b,0,none⟩) n n] w fun e w'=>e=.returned (.slice (some ⟨b,0,none⟩) (dl x) n)∧w'=w:=
 trim_any w b n n x (Nat.le_refl _) hn hx fun i d=>by rw[hc];exact nd_get n x i d
theorem Nm.mk{x V b n:Nat}{w w':World}(e:V=x)(hV:V<pq n)(hb:Pre (b+1) w'.heap.size)(hc:blk w' b=nd n V)(hg:Gr w w'):Nm x w (.returned (.slice (some ⟨b,0,none⟩) (dl V) n)) w':=by
 subst e;exact⟨_,n,rfl,Sl.of_blk hb hc hV,hg⟩
end
end
end Go.Proofs.Ytonbpnbhjghfbaa