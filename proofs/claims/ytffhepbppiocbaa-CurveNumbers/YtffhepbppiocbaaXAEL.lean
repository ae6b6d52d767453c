import Derived.Test.YtffhepbppiocbaaXAPC
import Derived.Test.YtffhepbppiocbaaXAIX
namespace Go.Proofs.Ytffhepbppiocbaa.EC
/-- Inverses by Fermat's rule. -/
def iP(p:Nat)[NeZero p](d:Fin p):Fin p:=Fin.ofNat p (d.val^(p-2))
theorem iP_is{p:Nat}[NeZero p](h:Prm p)(d:Fin p)(hd:d≠0):iP p d*d=1:=by
 have f:d.val≠0:=fun e=>hd (Fin.ext (e.trans (Fin.val_zero p).symm))
 have nd:¬p∣d.val:=fun e=>by
  have:=Nat.le_of_dvd (by omega) e
  omega
 apply Fin.ext
 rw[Fin.val_mul]
 show d.val^(p-2)%p*d.val%p=1%p
 rw[Nat.mod_mul_mod,←Nat.pow_succ,show (p-2).succ=p-1 by omega,h.fermat nd,Nat.mod_eq_of_lt (by omega)]
theorem cur_of(p a b:Nat)[NeZero p](hp:Prm p)(h2:2<p)(ha:a<p)(hb:b<p)(hdis:(4*(a*a%p*a%p)%p+27*(b*b%p)%p)%p≠0):Cur (iP p) ⟨a,ha⟩ ⟨b,hb⟩:=by
 refine⟨hp,fun e=>?_,fun e=>hdis ?_,fun d j=>iP_is hp d j⟩
 ·have f:2%p=0%p:=congrArg Fin.val e;rw[Nat.mod_eq_of_lt h2,Nat.zero_mod]at f
  cases f
 ·have f:=congrArg Fin.val e;rw[Fin.val_add,Fin.val_mul,Fin.val_mul,Fin.val_mul,Fin.val_mul,Fin.val_mul]at f;have l:(4:Fin p).val=4%p:=rfl;have h:(27:Fin p).val=27%p:=rfl;have q:=Fin.val_zero p
  have x:∀y,4%p*y%p=4*y%p:=fun y=>by rw[Nat.mod_mul_mod]
  have i:∀y,27%p*y%p=27*y%p:=fun y=>by rw[Nat.mod_mul_mod]
  rw[l,h,q,x,i]at f;exact f
theorem nzP(i:Nat)(h1:1≤i)(h2:i≤15):NeZero (pN i):=⟨by have:=pN_bd i h1 h2;omega⟩
theorem disN(i:Nat)(h1:1≤i)(h2:i≤15):2<pN i∧(4*(aN i*aN i%pN i*aN i%pN i)%pN i+27*(bN i*bN i%pN i)%pN i)%pN i≠0:=by
 obtain rfl|rfl|rfl|rfl|rfl|rfl|rfl|rfl|rfl|rfl|rfl|rfl|rfl|rfl|rfl:i=1∨i=2∨i=3∨i=4∨i=5∨i=6∨i=7∨i=8∨i=9∨i=10∨i=11∨i=12∨i=13∨i=14∨i=15:=by omega
 all_goals decide +kernel
section
variable (i:Nat) (h1:1≤i) (h2:i≤15)
def aF:Fin (pN i):=⟨aN i,aN_lt i h1 h2⟩
def bF:Fin (pN i):=⟨bN i,bN_lt i h1 h2⟩
def xF:Fin (pN i):=⟨xN i,xN_lt i h1 h2⟩
def yF:Fin (pN i):=⟨yN i,(yN_lt i h1 h2).1⟩
variable [NeZero (pN i)]
theorem curN:Cur (iP (pN i)) (aF i h1 h2) (bF i h1 h2):=cur_of _ _ _ (prm_pN i h1 h2) (disN i h1 h2).1 _ _ (disN i h1 h2).2
theorem onG:OnC (aF i h1 h2) (bF i h1 h2) (xF i h1 h2) (yF i h1 h2):=by
 have h:=gN_on i h1 h2;simp only[onB,Bool.false_eq_true,if_false,Bool.and_eq_true,decide_eq_true_eq]at h;have e:yF i h1 h2*yF i h1 h2=(xF i h1 h2*xF i h1 h2+aF i h1 h2)*xF i h1 h2+bF i h1 h2:=Fin.ext h.2.2;unfold OnC;rw[e]
 grobner
end
/-- N - 1 times the base point is its opposite. -/
theorem ml_pred_G(i:Nat)(h1:1≤i)(h2:i≤15)[NeZero (pN i)]:ml (iP (pN i)) (aF i h1 h2) (oN i-1) (some (xF i h1 h2,yF i h1 h2))=ng (some (xF i h1 h2,yF i h1 h2)):=by
 have C:=curN i h1 h2;have d:=onG i h1 h2
 obtain rfl|rfl|rfl|rfl|rfl|rfl|rfl|rfl|rfl|rfl|rfl|rfl|rfl|rfl|rfl:i=1∨i=2∨i=3∨i=4∨i=5∨i=6∨i=7∨i=8∨i=9∨i=10∨i=11∨i=12∨i=13∨i=14∨i=15:=by omega
 ·exact ml_opp C d _ 191 top_1 run_1
 ·exact ml_opp C d _ 223 top_2 run_2
 ·exact ml_opp C d _ 255 top_3 run_3
 ·exact ml_opp C d _ 383 top_4 run_4
 ·exact ml_opp C d _ 520 top_5 run_5
 ·exact ml_opp C d _ 255 top_6 run_6
 ·exact ml_opp C d _ 159 top_7 run_7
 ·exact ml_opp C d _ 223 top_8 run_8
 ·exact ml_opp C d _ 255 top_9 run_9
 ·exact ml_opp C d _ 319 top_10 run_10
 ·exact ml_opp C d _ 383 top_11 run_11
 ·exact ml_opp C d _ 511 top_12 run_12
 ·exact ml_opp C d _ 7 top_13 run_13
 ·exact ml_opp C d _ 7 top_14 run_14
 ·exact ml_opp C d _ 7 top_15 run_15
theorem oN_pos(i:Nat)(h1:1≤i)(h2:i≤15):2<oN i:=by
 obtain rfl|rfl|rfl|rfl|rfl|rfl|rfl|rfl|rfl|rfl|rfl|rfl|rfl|rfl|rfl:i=1∨i=2∨i=3∨i=4∨i=5∨i=6∨i=7∨i=8∨i=9∨i=10∨i=11∨i=12∨i=13∨i=14∨i=15:=by omega
 all_goals decide +kernel
/-- N times the base point is infinity. -/
theorem ml_G(i:Nat)(h1:1≤i)(h2:i≤15)[NeZero (pN i)]:ml (iP (pN i)) (aF i h1 h2) (oN i) (some (xF i h1 h2,yF i h1 h2))=none:=by
 have h:=oN_pos i h1 h2;obtain⟨n,d⟩:∃n,oN i=n+1:=⟨oN i-1,by omega⟩;have e:=ml_pred_G i h1 h2;rw[d]at e ⊢
 show pl _ _ (ml _ _ n _) _=none
 rw[show n+1-1=n from rfl]at e;rw[e];have C:=curN i h1 h2;have:=pl_ng C (ng (some (xF i h1 h2,yF i h1 h2)));rw[ng_ng]at this;exact this
end Go.Proofs.Ytffhepbppiocbaa.EC