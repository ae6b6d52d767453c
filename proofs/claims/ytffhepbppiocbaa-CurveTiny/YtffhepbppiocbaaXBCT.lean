import Derived.Test.YtffhepbppiocbaaXBRGet
namespace Go.Proofs.Ytffhepbppiocbaa
open Go.RowKit
set_option maxRecDepth 100000
set_option maxHeartbeats 8000000
section
attribute [local go_sem ↓] uz1
attribute [local go_sem] uz2
section
def nN(i:Nat):Nat→Nat:=six (pN i) (aN i) (bN i) (oN i) (xN i) (yN i)
def GetQ(i:Nat)(w:World)(e:Ending)(w':World):Prop:=∃q,e=.returned (.tuple #[.agg (crA (i:Int) (nN i) q),.bool true])∧(∀k,Sl w' (q k).1 (nN i k))∧Gr w w'
def GetR(i:Nat)(w:World)(e:Ending)(w':World):Prop:=∃p n q,e=.returned (.tuple #[.agg (cvA (i:Int) p (dl (pN i)) n q),.bool true])∧Sl w' p (pN i)∧Gr w w'
theorem GetQ.R{i:Nat}{w w':World}{e:Ending}(h:GetQ i w e w'):GetR i w e w':=by
 obtain⟨q,d,f,j⟩:=h;rw[crA_cvA]at d;exact⟨_,_,_,d,f 0,j⟩
attribute [local go_sem ↓] loadC_is storeC_is buildC_is
attribute [local go_sem] eqSl0 loadC storeC0 buildC0 frz_setBlk blk_setBlk setBlk_setBlk
end
end
section
theorem cu_1(id:Int)(p a b n x y:Nat)(s z:Int)(l:Bool):(cu id p a b n x y s z l)[1]? = some (.int .u64 ((wd p 0:Nat):Int)):=by kernel_rfl
theorem cu_28(id:Int)(p a b n x y:Nat)(s z:Int)(l:Bool):(cu id p a b n x y s z l)[28]? = some (.int .u64 ((wd n 0:Nat):Int)):=by kernel_rfl
def idxT(id:Int):Nat:=(IntKind.u64.wrap id).toNat%3+13
theorem idxT_bd(id:Int):13≤idxT id∧idxT id≤15:=by unfold idxT;omega
theorem idxT_conv(id:Int):∃u:Nat,IntKind.u64.wrap id=(u:Int)∧(u:Int)<18446744073709551616∧(13:Int)+u%3=(idxT id:Int):=by
 have h:0≤IntKind.u64.wrap id∧IntKind.u64.wrap id<18446744073709551616:=by rw[IntKind.wrap_u64];omega
 refine⟨(IntKind.u64.wrap id).toNat,?_,?_,?_⟩
 ·omega
 ·omega
 ·unfold idxT;omega
def rowTy(k x:Nat):Nat→Nat
 | 0=>0
 | n+1=>rowTy k x n+cond (onB k x n false) 1 0
def allT(k:Nat):Nat→Nat
 | 0=>0
 | n+1=>allT k n+rowTy k n 256
theorem rowT_le(k x n:Nat):rowTy k x n≤n:=by
 induction n with
 | zero=>exact Nat.le_refl _
 | succ n ih=>
  rw[rowTy]
  cases onB k x n false
  ·grind
  ·grind
theorem allT_le(k n:Nat):allT k n≤256*n:=by
 induction n with
 | zero=>exact Nat.le_refl _
 | succ n ih=>
  rw[allT];have:=rowT_le k n 256
  omega
def onQ(p a b x y:Nat):Bool:=Nat.ble (x+1) p&&(Nat.ble (y+1) p&&Nat.beq (y*y%p) (((x*x%p+a)%p*x%p+b)%p))
def rowQ(p a b x:Nat):Nat→Nat
 | 0=>0
 | n+1=>rowQ p a b x n+cond (onQ p a b x n) 1 0
def allQ(p a b:Nat):Nat→Nat
 | 0=>0
 | n+1=>allQ p a b n+rowQ p a b n 256
theorem onB_Q(k x y:Nat):onB k x y false=onQ (pN k) (aN k) (bN k) x y:=by
 unfold onB onQ rhN;rw[if_neg (by decide)];rw[Bool.eq_iff_iff];simp only[Bool.and_eq_true,decide_eq_true_eq,Nat.ble_eq,Nat.beq_eq,Nat.succ_le_iff]
theorem rowT_Q(k x n:Nat):rowTy k x n=rowQ (pN k) (aN k) (bN k) x n:=by
 induction n with
 | zero=>rfl
 | succ n ih=>rw[rowTy,rowQ,ih,onB_Q]
theorem allT_Q(k n:Nat):allT k n=allQ (pN k) (aN k) (bN k) n:=by
 induction n with
 | zero=>rfl
 | succ n ih=>rw[allT,allQ,ih,rowT_Q]
theorem all13:allQ 251 248 26 256=222:=by decide +kernel
theorem all14:allQ 241 0 13 256=210:=by decide +kernel
theorem all15:allQ 239 117 8 256=228:=by decide +kernel
theorem tinyT_bd(k:Nat)(h1:13≤k)(h2:k≤15):200<pN k∧pN k<256∧200<oN k∧oN k<256∧allT k 256+1=oN k:=by
 rw[allT_Q]
 obtain rfl|rfl|rfl:k=13∨k=14∨k=15:=by omega
 ·rw[show pN 13=251 from by decide +kernel,show aN 13=248 from by decide +kernel,show bN 13=26 from by decide +kernel,show oN 13=223 from by decide +kernel,all13];decide
 ·rw[show pN 14=241 from by decide +kernel,show aN 14=0 from by decide +kernel,show bN 14=13 from by decide +kernel,show oN 14=211 from by decide +kernel,all14];decide
 ·rw[show pN 15=239 from by decide +kernel,show aN 15=117 from by decide +kernel,show bN 15=8 from by decide +kernel,show oN 15=229 from by decide +kernel,all15];decide
theorem zero13:∀x,x<256→onQ 251 248 26 x 0=false:=by decide +kernel
theorem zero14:∀x,x<256→onQ 241 0 13 x 0=false:=by decide +kernel
theorem zero15:∀x,x<256→onQ 239 117 8 x 0=false:=by decide +kernel
theorem onT_y(k:Nat)(h1:13≤k)(h2:k≤15)(x y:Nat)(hx:x<256)(h:onB k x y false=true):x<pN k∧y<pN k∧y≠0:=by
 have d:=h;simp only[onB,Bool.false_eq_true,if_false,Bool.and_eq_true,decide_eq_true_eq]at h;refine⟨h.1,h.2.1,?_⟩;rintro rfl;rw[onB_Q]at d
 obtain rfl|rfl|rfl:k=13∨k=14∨k=15:=by omega
 ·rw[show pN 13=251 from by decide +kernel,show aN 13=248 from by decide +kernel,show bN 13=26 from by decide +kernel,zero13 x hx]at d;exact absurd d (by decide)
 ·rw[show pN 14=241 from by decide +kernel,show aN 14=0 from by decide +kernel,show bN 14=13 from by decide +kernel,zero14 x hx]at d;exact absurd d (by decide)
 ·rw[show pN 15=239 from by decide +kernel,show aN 15=117 from by decide +kernel,show bN 15=8 from by decide +kernel,zero15 x hx]at d;exact absurd d (by decide)
end
end Go.Proofs.Ytffhepbppiocbaa