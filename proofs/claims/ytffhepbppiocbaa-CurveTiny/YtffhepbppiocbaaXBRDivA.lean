import Derived.Deep.DrawnRows
import Derived.Deep.RegionWith
import Derived.BigRegion
import Derived.Deep.CutBlock
import Derived.Test.YtffhepbppiocbaaXBROf
import Derived.Test.YtffhepbppiocbaaXBNN
import Derived.Test.YtffhepbppiocbaaXBQt
namespace Go.Proofs.Ytffhepbppiocbaa
open Go.RowKit
set_option maxRecDepth 100000
set_option maxHeartbeats 8000000
section
attribute [local go_sem ↓] uz1
attribute [local go_sem] uz2
section
theorem Sl.some{w:World}{p:Option Addr}{x:Nat}(h:Sl w p x)(h0:0<dl x):∃c,p=.some ⟨c,0,.none⟩∧Pre (c+1) w.heap.size∧∀i,i<dl x→(blk w c)[i]? = .some (.int .u32 ((dg x i:Nat):Int)):=by
 obtain⟨c,d,f,_⟩:=h 0 h0;refine⟨c,d,f,fun i j=>?_⟩;obtain⟨l,q,_,A⟩:=h i j
 grind
structure DW(w v:World)(b b2 c K V L Lq Z Q:Nat):Prop where
 g:Gr w v
 hb:blk v b=nd L Z
 fb:frz v b=(0,0)
 pb:Pre (b+1) v.heap.size
 h2:blk v b2=nd Lq Q
 f2:frz v b2=(0,0)
 p2:Pre (b2+1) v.heap.size
 hc:∀i,i<K→(blk v c)[i]? = some (.int .u32 ((dg V i:Nat):Int))
 pc:Pre (c+1) v.heap.size
 qb:w.heap.size≤b
 qc:c<b
 q2:b<b2
theorem DW.gr{w v v':World}{b b2 c K V L Lq Z Q:Nat}(h:DW w v b b2 c K V L Lq Z Q)(k:Gr v v'):DW w v' b b2 c K V L Lq Z Q:=by
 have f:=k.below.size;have d:∀{x},Pre x v.heap.size→Pre x v'.heap.size:=fun h=>Nat.le_trans h f
 exact⟨h.g.trans k,by rw[k.blk _ h.pb];exact h.hb,by rw[k.frz _ h.pb];exact h.fb,d h.pb,by rw[k.blk _ h.p2];exact h.h2,by rw[k.frz _ h.p2];exact h.f2,d h.p2,
  fun i j=>by rw[k.blk _ h.pc];exact h.hc i j,d h.pc,h.qb,h.qc,h.q2⟩
theorem DW.start{w W:World}{b c K V L Q Y:Nat}{t:TypeId}(g:Gr w W)(hb:blk W b=nd L 0)(fb:frz W b=(0,0))(pb:Pre (b+1) W.heap.size)(hc:∀i,i<K→(blk W c)[i]? = some (.int .u32 ((dg V i:Nat):Int)))(pc:Pre (c+1) W.heap.size)(qb:w.heap.size≤b)(qc:c<b)(hL:0<L):
 DW w ((setBlk W b (nd L Y)).alloc (.cells (nd Q 0) t)) b W.heap.size c K V L Q Y 0:=by
 have d:(setBlk W b (nd L Y)).heap.size=W.heap.size:=size_setBlk _ _ _
 have f:Pre (b+1) (setBlk W b (nd L Y)).heap.size:=by rw[d];exact pb
 have j:Pre (c+1) (setBlk W b (nd L Y)).heap.size:=by rw[d];exact pc
 have l:∀{x},Pre x (setBlk W b (nd L Y)).heap.size→Pre x ((setBlk W b (nd L Y)).alloc (.cells (nd Q 0) t)).heap.size:=fun h=>Nat.le_trans h ((Gr.refl _).alloc _).below.size
 refine⟨(gr_setNew g qb).alloc _,?_,?_,l f,blk_alloc_at _ _ _ _ _ d.symm,frz_alloc_at _ _ _ _ _ d.symm,?_,fun i q=>?_,l j,qb,qc,pb⟩
 ·rw[blk_alloc _ _ _ f,blk_setBlk _ _ _ (by rw[hb,nd_size];exact hL)]
 ·rw[frz_alloc _ _ _ f,frz_setBlk];exact fb
 ·show W.heap.size+1≤_
  simp[d]
 ·rw[blk_alloc _ _ _ j,blk_other _ _ _ _ (by omega)];exact hc i q
end
end
end Go.Proofs.Ytffhepbppiocbaa