import Derived.Deep.QuietTactic
import Derived.BigQuiet
import Derived.Test.YtffhepbppiocbacGreatXBAdd
namespace Go.Proofs.YtffhepbppiocbacGreat
open Go.RowKit Go.Proofs.Tryz
set_option maxRecDepth 100000
set_option maxHeartbeats 8000000
section
attribute [local go_sem ↓] uz1
attribute [local go_sem] uz2
section
def cmpZ(a b:Nat):Int:=if a<b then -1 else if b<a then 1 else 0
theorem div_step(a j:Nat):a/pw j=a/pw (j+1)*18446744073709551616+wd a j:=by
 rw[pow_succ64,←Nat.div_div_eq_div_mul,wd]
 omega
theorem lt_of_div(a b p:Nat)(h:a/p<b/p):a<b:=by
 by_cases hlt:a<b
 ·exact hlt
 ·have:=Nat.div_le_div_right (c:=p) (show b≤a by omega)
  omega
theorem cmpZ_lt(a b j:Nat)(h:a/pw (j+1)=b/pw (j+1))(hw:wd a j<wd b j):cmpZ a b = -1:=by
 have:=lt_of_div a b (pw j) (by rw[div_step a,div_step b,h];omega);unfold cmpZ;rw[if_pos this]
theorem cmpZ_gt(a b j:Nat)(h:a/pw (j+1)=b/pw (j+1))(hw:wd b j<wd a j):cmpZ a b=1:=by
 have:=lt_of_div b a (pw j) (by rw[div_step a,div_step b,h];omega)
 grind [cmpZ]
theorem cmpZ_eq(a:Nat):cmpZ a a=0:=by simp[cmpZ]
theorem cmp_any(a b:Nat)(ha:a<M)(hb:b<M)(w:World):
 Cg 140 #[.agg (nw 9 a),.agg (nw 9 b)] w (.int .i64 (cmpZ a b)):=by
 have q:Hid (a/pw 9=b/pw 9):=by
  show a/M=b/M
  rw[Nat.div_eq_of_lt ha,Nat.div_eq_of_lt hb]
 clear ha hb
 go_enter func140,ntmps140
 go_wp2
 go_loopw [5] (fun i wr=>∃k:Nat,k≤9∧i=.int .i64 ((k:Int)-1)∧a/pw k=b/pw k∧∃n,wr=((w.alloc (.cells (nw 9 a) 33)).alloc (.cells (nw 9 b) 33)).drewN n) (fun i _=>(intOf i+1).toNat)
 case atStart=>exact⟨9,by omega,rfl,q.out,0,rfl⟩
 case round=>
  obtain⟨k,C,rfl,x,n,rfl⟩:=hrel;have h:Hid _:=x;clear x q
  by_cases hp:0<k
  ·obtain⟨j,rfl⟩:∃j,k=j+1:=⟨k-1,by omega⟩
   have A:j<9:=by omega
   have B:(((j+1:Nat):Int)-1)=(j:Int):=by omega
   rw[B]
   have D:(0:Int)≤j:=by omega
   have G:(j:Int)<9:=by omega
   have I:=nw_get 9 a j A;have J:=nw_get 9 b j A;clear B C hp
   rcases Nat.lt_trichotomy (wd a j) (wd b j) with hc|hc|hc
   ·have f:((wd a j:Nat):Int)<(wd b j:Nat):=by omega
    have d:Hid _:=cmpZ_lt a b j h.out hc;clear hc
    go_wp2
    go_quiet (fail)
    go_wp2
    go_ret
    exact⟨congrArg (fun z=>Ending.returned (Value.int IntKind.i64 z)) d.out.symm,grA⟩
   ·have f:¬((wd a j:Nat):Int)<(wd b j:Nat):=by omega
    have H:¬((wd b j:Nat):Int)<(wd a j:Nat):=by omega
    have d:Hid _:=show a/pw j=b/pw j from by rw[div_step a,div_step b,h.out,hc]
    go_wp2
    go_quiet (fail)
    go_wp2
    go_quiet (fail)
    go_wp2
    go_roundw
    case rel=>exact⟨j,by omega,rfl,d.out,_,rfl⟩
    case measure=>simp[intOf]
   ·have f:¬((wd a j:Nat):Int)<(wd b j:Nat):=by omega
    have d:Hid _:=cmpZ_gt a b j h.out hc
    go_wp2
    go_quiet (fail)
    go_wp2
    go_quiet (fail)
    go_wp2
    go_ret
    exact⟨congrArg (fun z=>Ending.returned (Value.int IntKind.i64 z)) d.out.symm,grA⟩
  ·obtain rfl:k=0:=by omega
   have d:Hid (cmpZ a b=0):=by
    have e:=h.out;rw[pw_zero,Nat.div_one,Nat.div_one]at e;rw[e];exact cmpZ_eq b
   go_wp2
   go_ret
   exact⟨congrArg (fun z=>Ending.returned (Value.int IntKind.i64 z)) d.out.symm,grA⟩
end
end
section
section
variable {n m a b c d e f g h i j k l o p q r s t u v:Nat}
theorem ppre_1(W:Pre n m):Pre n (m+a)=True:=eq_true (pre_add _ _ _ (W))
theorem ppre_2(W:Pre n m):Pre n (m+a+b)=True:=eq_true (pre_add _ _ _ (of_eq_true (ppre_1 W)))
theorem ppre_3(W:Pre n m):Pre n (m+a+b+c)=True:=eq_true (pre_add _ _ _ (of_eq_true (ppre_2 W)))
theorem ppre_4(W:Pre n m):Pre n (m+a+b+c+d)=True:=eq_true (pre_add _ _ _ (of_eq_true (ppre_3 W)))
theorem ppre_5(W:Pre n m):Pre n (m+a+b+c+d+e)=True:=eq_true (pre_add _ _ _ (of_eq_true (ppre_4 W)))
theorem ppre_6(W:Pre n m):Pre n (m+a+b+c+d+e+f)=True:=eq_true (pre_add _ _ _ (of_eq_true (ppre_5 W)))
theorem ppre_7(W:Pre n m):Pre n (m+a+b+c+d+e+f+g)=True:=eq_true (pre_add _ _ _ (of_eq_true (ppre_6 W)))
theorem ppre_8(W:Pre n m):Pre n (m+a+b+c+d+e+f+g+h)=True:=eq_true (pre_add _ _ _ (of_eq_true (ppre_7 W)))
theorem ppre_9(W:Pre n m):Pre n (m+a+b+c+d+e+f+g+h+i)=True:=eq_true (pre_add _ _ _ (of_eq_true (ppre_8 W)))
theorem ppre_10(W:Pre n m):Pre n (m+a+b+c+d+e+f+g+h+i+j)=True:=eq_true (pre_add _ _ _ (of_eq_true (ppre_9 W)))
theorem ppre_11(W:Pre n m):Pre n (m+a+b+c+d+e+f+g+h+i+j+k)=True:=eq_true (pre_add _ _ _ (of_eq_true (ppre_10 W)))
theorem ppre_12(W:Pre n m):Pre n (m+a+b+c+d+e+f+g+h+i+j+k+l)=True:=eq_true (pre_add _ _ _ (of_eq_true (ppre_11 W)))
theorem ppre_13(W:Pre n m):Pre n (m+a+b+c+d+e+f+g+h+i+j+k+l+o)=True:=eq_true (pre_add _ _ _ (of_eq_true (ppre_12 W)))
theorem ppre_14(W:Pre n m):Pre n (m+a+b+c+d+e+f+g+h+i+j+k+l+o+p)=True:=eq_true (pre_add _ _ _ (of_eq_true (ppre_13 W)))
theorem ppre_15(W:Pre n m):Pre n (m+a+b+c+d+e+f+g+h+i+j+k+l+o+p+q)=True:=eq_true (pre_add _ _ _ (of_eq_true (ppre_14 W)))
theorem ppre_16(W:Pre n m):Pre n (m+a+b+c+d+e+f+g+h+i+j+k+l+o+p+q+r)=True:=eq_true (pre_add _ _ _ (of_eq_true (ppre_15 W)))
theorem ppre_17(W:Pre n m):Pre n (m+a+b+c+d+e+f+g+h+i+j+k+l+o+p+q+r+s)=True:=eq_true (pre_add _ _ _ (of_eq_true (ppre_16 W)))
theorem ppre_18(W:Pre n m):Pre n (m+a+b+c+d+e+f+g+h+i+j+k+l+o+p+q+r+s+t)=True:=eq_true (pre_add _ _ _ (of_eq_true (ppre_17 W)))
theorem ppre_19(W:Pre n m):Pre n (m+a+b+c+d+e+f+g+h+i+j+k+l+o+p+q+r+s+t+u)=True:=eq_true (pre_add _ _ _ (of_eq_true (ppre_18 W)))
theorem ppre_20(W:Pre n m):Pre n (m+a+b+c+d+e+f+g+h+i+j+k+l+o+p+q+r+s+t+u+v)=True:=eq_true (pre_add _ _ _ (of_eq_true (ppre_19 W)))
end
def failL(P:Program)(ty:TypeId)(b:Nat)(w:World):Result Value:=(loadS ty (.pointer (some ⟨b,0,none⟩))).run P w
def loadK(n:Nat)(c:Array Value)(f:Result Value)(w:World):Result Value:=if c.size=n then .ok (.agg c) w else f
theorem loadNat2(w:World)(b:Nat):(loadS 33 (.pointer (some ⟨b,0,none⟩))).run prog w=loadK 9 (blk w b) (failL prog 33 b w) w:=by
 unfold loadK
 split
 ·rename_i h;exact loadNat w b h
 ·rfl
theorem loadArr2(w:World)(b:Nat):(loadS 31 (.pointer (some ⟨b,0,none⟩))).run prog w=loadK 9 (blk w b) (failL prog 31 b w) w:=by
 unfold loadK
 split
 ·rename_i h;exact loadArr w b h
 ·rfl
theorem loadWide2(w:World)(b:Nat):(loadS 210 (.pointer (some ⟨b,0,none⟩))).run prog w=loadK 18 (blk w b) (failL prog 210 b w) w:=by
 unfold loadK
 split
 ·rename_i h;exact loadWide w b h
 ·rfl
theorem loadK_nw(n s:Nat)(f:Result Value)(w:World):loadK n (nw n s) f w=.ok (.agg (nw n s)) w:=by
 unfold loadK;rw[nw_size,if_pos rfl]
abbrev uz8:=And.intro @ppre_1<|And.intro @ppre_2<|And.intro @ppre_3<|And.intro @ppre_4<|And.intro @ppre_5 @ppre_6
end
end Go.Proofs.YtffhepbppiocbacGreat