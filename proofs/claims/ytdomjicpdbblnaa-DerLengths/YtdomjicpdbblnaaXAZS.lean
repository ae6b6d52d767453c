import Derived.Test.YtdomjicpdbblnaaXAZL
import Derived.Test.YtdomjicpdbblnaaXAZB
import Derived.Test.YtdomjicpdbblnaaXARRead
import Derived.Test.YtdomjicpdbblnaaXAQt
namespace Go.Proofs.Ytdomjicpdbblnaa
open Go.RowKit Go.Proofs.Try
set_option maxRecDepth 100000
set_option maxHeartbeats 8000000
section
attribute [local go_sem ↓] uz1
attribute [local go_sem] uz2
section
attribute [local go_sem] uz4
attribute [local go_sem ↓] Go.wp_at_zero Go.wp_at_succ
theorem ixS(s:ByteArray)(j:Nat)(h:j<s.size)(w:World):(Instr.index 9 (.string s) (.int .i64 j)).run prog w=.ok (.int .u8 (s[j].toNat:Int)) w:=by
 have d:(0:Int)≤j:=by omega
 have b:(j:Int)<(s.size:Int):=by omega
 simp[go_sem,b]
theorem ixTn(l:List UInt8)(j:Nat)(h:j<l.length)(w:World):(Instr.index 9 (.string ⟨l.toArray⟩) (.int .i64 j)).run prog w=.ok (.int .u8 ((l.getD j 0).toNat:Int)) w:=by
 have b:j<(⟨l.toArray⟩:ByteArray).size:=by rw[sz_tx];exact h
 have d:(⟨l.toArray⟩:ByteArray)[j]'(b)=l.getD j 0:=by
  show l.toArray[j]'(by simpa using h)=_
  simp[h]
 rw[ixS _ j b,d]
def TkY(l:List UInt8)(i x j:Nat):Prop:=∃k,i+2+k≤l.length∧(l.getD i 0).toNat=2∧(l.getD (i+1) 0).toNat=k∧1≤k∧k≤73∧x=bn ((l.drop (i+2)).take k)∧j=i+2+k
theorem tk_or(l:List UInt8)(i:Nat):(∃x j,TkY l i x j)∨(l.length<i+2∨¬(l.getD i 0).toNat=2∨(l.getD (i+1) 0).toNat<1∨73<(l.getD (i+1) 0).toNat∨l.length<i+2+(l.getD (i+1) 0).toNat):=by
 by_cases h:i+2+(l.getD (i+1) 0).toNat≤l.length∧(l.getD i 0).toNat=2∧1≤(l.getD (i+1) 0).toNat∧(l.getD (i+1) 0).toNat≤73
 ·exact Or.inl ⟨_,_,_,h.1,h.2.1,rfl,h.2.2.1,h.2.2.2,rfl,rfl⟩
 ·exact Or.inr (by omega)
theorem rtake_yes{l:List UInt8}{i x j:Nat}(hi:i≤1000)(h:TkY l i x j)(w:World):
 Calls prog 20 #[.string ⟨l.toArray⟩,.int .i64 i] w fun e w'=>∃p n,e=.returned (.tuple #[.slice p (dl x) n,.int .i64 j,.bool true])∧Sl w' p x∧Gr w w':=by
 obtain⟨k,q,A,B,K,L,rfl,rfl⟩:=h;have C:=ixTn l i (by omega);have D:=ixTn l (i+1) (by omega);rw[A]at C;rw[B,show ((i+1:Nat):Int)=(i:Int)+1 from rfl]at D;have b:=slT_mid ⟨l.toArray⟩ (i+2) (i+2+k) (by omega) (by rw[sz_tx];exact q);rw[ex_tx,show i+2+k-(i+2)=k by omega,show ((i+2+k:Nat):Int)=(i:Int)+2+k from rfl,show ((i+2:Nat):Int)=(i:Int)+2 from rfl]at b;obtain⟨m,d⟩:=exl ((l.drop (i+2)).take k)
 have H:m.length≤400:=by rw[←d,List.length_take];omega
 rw[d]at b ⊢;obtain⟨y,f⟩:∃y:ByteArray,⟨m.toArray⟩=y:=⟨_,rfl⟩;obtain⟨s,o⟩:∃s:ByteArray,⟨l.toArray⟩=s:=⟨_,rfl⟩;have I:Hid (∀w,Calls prog 32 #[.string y] w (Nm (bn m) w)):=fun w=>f▸rread_to ⟨m.toArray⟩ (by rw[sz_tx];exact H) w
 have P:s.size=l.length:=by rw[←o,sz_tx]
 have Q:¬(s.size:Int)<(i:Int)+2:=by omega
 have R:¬(k:Int)<1:=by omega
 have U:¬(73:Int)<k:=by omega
 have V:¬(s.size:Int)<(i:Int)+2+k:=by omega
 have W:(0:Int)≤i:=by omega
 have Y:(i:Int)≤1000:=by omega
 have Z:(0:Int)≤k:=by omega
 have n3:(k:Int)≤73:=by omega
 rw[o]at C D b ⊢;rw[f]at b;obtain⟨X,J⟩:=exl (bn m);rw[J]at I ⊢;clear o f d P H q A B K L hi J
 go_enter func20,ntmps20
 go_wp2_with (go_at_call 32;refine(I.out _).mono ?_;rintro e w1 ⟨p,n,rfl,S,G⟩)
 exact bodyPost_ret (v:=.tuple #[.slice p (dl X) n,.int .i64 ((i:Int)+2+k),.bool true]) (by simp[results,results20,go_sem]) rfl ⟨p,n,rfl,S,G⟩
theorem rtake_no{l:List UInt8}{i:Nat}(hi:i≤1000)(h:l.length<i+2∨¬(l.getD i 0).toNat=2∨(l.getD (i+1) 0).toNat<1∨73<(l.getD (i+1) 0).toNat∨l.length<i+2+(l.getD (i+1) 0).toNat)(w:World):
 Calls prog 20 #[.string ⟨l.toArray⟩,.int .i64 i] w fun e w'=>e=.returned (.tuple #[.slice none 0 0,.int .i64 0,.bool false])∧w'=w:=by
 have A:(0:Int)≤i:=by omega
 have B:(i:Int)≤1000:=by omega
 have d:=sz_tx l
 by_cases h0:l.length<i+2
 ·obtain⟨s,b⟩:∃s:ByteArray,⟨l.toArray⟩=s:=⟨_,rfl⟩;rw[b]at d ⊢
  have q:(s.size:Int)<(i:Int)+2:=by omega
  clear b d h h0 hi
  go_enter func20,ntmps20
  go_wp2_with fail
  exact bodyPost_ret (v:=.tuple #[.slice none 0 0,.int .i64 0,.bool false]) (by simp[results,results20,go_sem]) rfl ⟨rfl,rfl⟩
 ·have p:=ixTn l i (by omega);have o:=ixTn l (i+1) (by omega);rw[show ((i+1:Nat):Int)=(i:Int)+1 from rfl]at o;obtain⟨s,b⟩:∃s:ByteArray,⟨l.toArray⟩=s:=⟨_,rfl⟩;rw[b]at d p o ⊢
  have q:¬(s.size:Int)<(i:Int)+2:=by omega
  obtain⟨a,f⟩:=exl ((l.getD i 0).toNat);obtain⟨k,j⟩:=exl ((l.getD (i+1) 0).toNat)
  have m:k<256:=by have:=(l.getD (i+1) 0).toNat_lt;omega
  rw[f]at p h;rw[j]at o h
  by_cases h2:a=2
  ·subst h2
   have C:(0:Int)≤k:=by omega
   have D:(k:Int)<256:=by omega
   by_cases g2:(k:Int)<1
   ·clear b d h h0 hi f j m
    go_enter func20,ntmps20
    go_wp2_with fail
    exact bodyPost_ret (v:=.tuple #[.slice none 0 0,.int .i64 0,.bool false]) (by simp[results,results20,go_sem]) rfl ⟨rfl,rfl⟩
   ·by_cases g3:(73:Int)<k
    ·clear b d h h0 hi f j m
     go_enter func20,ntmps20
     go_wp2_with fail
     exact bodyPost_ret (v:=.tuple #[.slice none 0 0,.int .i64 0,.bool false]) (by simp[results,results20,go_sem]) rfl ⟨rfl,rfl⟩
    ·have G:(s.size:Int)<(i:Int)+2+k:=by omega
     clear b d h h0 hi f j m
     go_enter func20,ntmps20
     go_wp2_with fail
     exact bodyPost_ret (v:=.tuple #[.slice none 0 0,.int .i64 0,.bool false]) (by simp[results,results20,go_sem]) rfl ⟨rfl,rfl⟩
  ·have x:((a:Int)==2)=false:=by rw[beq_eq_false_iff_ne];omega
   have H:((a:Int) != 2)=true:=by rw[bne,x];rfl
   clear b d h h0 hi f j m h2
   go_enter func20,ntmps20
   go_wp2_with fail
   exact bodyPost_ret (v:=.tuple #[.slice none 0 0,.int .i64 0,.bool false]) (by simp[results,results20,go_sem]) rfl ⟨rfl,rfl⟩
end
end
end Go.Proofs.Ytdomjicpdbblnaa