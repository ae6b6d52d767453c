import Derived.Laws.MakeOwn
import Derived.Test.YtffhepbppiocbaaXBAdd
import Derived.Test.YtffhepbppiocbaaXBDig
namespace Go.Proofs.Ytffhepbppiocbaa
open Go.RowKit
set_option maxRecDepth 100000
set_option maxHeartbeats 8000000
section
attribute [local go_sem ↓] uz1
attribute [local go_sem] uz2
section
def Sl(w:World)(p:Option Addr)(x:Nat):Prop:=
 ∀i,i<dl x→∃b,p=some ⟨b,0,none⟩∧Pre (b+1) w.heap.size∧(blk w b)[i]? = some (.int .u32 ((dg x i:Nat):Int))
theorem Sl.gr{w v:World}{p:Option Addr}{x:Nat}(h:Sl w p x)(g:Gr w v):Sl v p x:=fun i f=>by
 obtain⟨b,j,d,l⟩:=h i f;obtain⟨k,rfl⟩:=g;exact⟨b,j,by rw[gro_size];exact pre_add _ _ _ d,by rw[blk_gro w k b d];exact l⟩
theorem Sl.zero(w:World)(p:Option Addr):Sl w p 0:=fun i d=>by rw[dl_zero]at d;omega
theorem Sl.of_blk{w:World}{b n x:Nat}(hb:Pre (b+1) w.heap.size)(hc:blk w b=nd n x)(hx:x<pq n):Sl w (some ⟨b,0,none⟩) x:=fun i d=>
 ⟨b,rfl,hb,by rw[hc];exact nd_get n x i (Nat.lt_of_lt_of_le d ((dl_le x n).2 hx))⟩
def Nm(x:Nat)(w:World)(e:Ending)(w':World):Prop:=∃p n,e=.returned (.slice p (dl x) n)∧Sl w' p x∧Gr w w'
theorem Nm.mk{x V b n:Nat}{w w':World}(e:V=x)(hV:V<pq n)(hb:Pre (b+1) w'.heap.size)(hc:blk w' b=nd n V)(hg:Gr w w'):Nm x w (.returned (.slice (some ⟨b,0,none⟩) (dl V) n)) w':=by
 subst e;exact⟨_,n,rfl,Sl.of_blk hb hc hV,hg⟩
end
end
end Go.Proofs.Ytffhepbppiocbaa