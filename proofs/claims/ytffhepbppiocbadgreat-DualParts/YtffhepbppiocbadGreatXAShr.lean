import Derived.Deep.Cut
import Derived.Test.YtffhepbppiocbadGreatXAAdd
namespace Go.Proofs.YtffhepbppiocbadGreat
open Go.RowKit Go.Proofs.Tryz
set_option maxRecDepth 100000
set_option maxHeartbeats 8000000
section
attribute [local go_sem ↓] uz1
attribute [local go_sem] uz2
section
theorem shr_raw(a s p:Nat)(ha:a<M)(hs:s≤9)(hp:p<64)(h:64*s+p≤576)(w:World):
 Cg 130 #[.agg (nw 9 a),.int .i64 ((64*s+p:Nat):Int)] w (.tuple #[.agg (nw 9 (a/pw s/2^p)),.int .i64 0]):=by
 obtain⟨R,f⟩:∃R:Nat,a/pw s/2^p=R:=⟨_,rfl⟩;rw[f];have J:Hu (a/pw s/2^p=R):=fun _=>f;obtain⟨K,A⟩:∃K:Int,K=((64*s+p:Nat):Int):=⟨_,rfl⟩;rw[←A]
 have B:0≤K:=by omega
 have C:K≤576:=by omega
 have D:K/64=(s:Int):=by omega
 have G:K%64=(p:Int):=by omega
 have Y:(0:Int)≤s:=by omega
 have Z:(s:Int)≤9:=by omega
 have p0:(0:Int)≤p:=by omega
 have p1:(p:Int)<64:=by omega
 have p2:(0:Int)≤64-(p:Int):=by omega
 have p3:64-(p:Int)≤64:=by omega
 have q:Hid (a/pw 9=0):=Nat.div_eq_of_lt ha;clear h A f ha
 go_enter func130,ntmps130
 go_wp2_with (go_at_call 154;refine(fits_yes K B C _).mono ?_;rintro e w' ⟨rfl,rfl⟩)
 rw[D,G];clear D G B C
 go_loopw [9,10] (fun c i wr=>∃m d U:Nat,s+m≤9∧i=.int .i64 (((s+m:Nat):Int)-1)∧c=.int .u64 d∧a/pw (s+m)%2^p*2^(64-p)=d∧a/pw (s+m)/2^p*pw m=U∧wr=((w.alloc (.cells (nw 9 a) 25)).alloc (.cells (nw 9 0) 25)).alloc (.cells (nw 9 U) 25)) (fun _ i _=>(intOf i+1).toNat)
 case atStart=>
  refine⟨9-s,0,0,by omega,?_,rfl,?_,?_,rfl⟩
  ·rw[show s+(9-s)=9 from by omega];rfl
  ·rw[show s+(9-s)=9 from by omega,q.out,Nat.zero_mod,Nat.zero_mul]
  ·rw[show s+(9-s)=9 from by omega,q.out,Nat.zero_div,Nat.zero_mul]
 case round=>
  obtain⟨m,d,U,L,rfl,rfl,H,x,rfl⟩:=hrel;clear q
  by_cases hlt:0<m
  ·obtain⟨j,rfl⟩:∃j,m=j+1:=⟨m-1,by omega⟩
   have I:(((s+(j+1):Nat):Int)-1)=((s+j:Nat):Int):=by omega
   rw[I]
   have P:(s:Int)≤((s+j:Nat):Int):=by omega
   have Q:((s+j:Nat):Int)<9:=by omega
   have ej:(((s+j:Nat):Int)-(s:Int))=(j:Int):=by omega
   have S:s+j<9:=by omega
   have hj:j<9:=by omega
   have V:Hu (a/pw (s+(j+1))%2^p*2^(64-p)=d):=fun _=>H;have W:Hu (a/pw (s+(j+1))/2^p*pw (j+1)=U):=fun _=>x;clear H x I L hlt
   go_wp2
   go_roundw
   case rel=>
    refine⟨j,wd a (s+j)%2^p*2^(64-p),a/pw (s+j)/2^p*pw j,by omega,rfl,?_,?_,rfl,?_⟩
    ·rw[shr_carry _ _ hp]
    ·rw[div_step' a (s+j),shr_mod _ _ _ hp]
    ·rw[←V.out (),←W.out (),shr_word _ _ _ (wd_lt _ _) hp,nw_set_low 9 _ j _ (shr_word_lt _ _ _ (wd_lt _ _) hp),show s+(j+1)=s+j+1 from rfl,shr_step _ _ _ _ hp]
   case measure=>simp[intOf];omega
  ·obtain rfl:m=0:=by omega
   have X:Hid _:=show R=U from by rw[←x,←J.out (),pw_zero,Nat.mul_one];rfl
   go_wp2
   exact bodyPost_ret (v:=.tuple #[.agg (nw 9 U),.int .i64 0]) (by simp[results,results130,go_sem,nw9_lit]) rfl ⟨by rw[X.out],grA⟩
theorem shr_any(a k:Nat)(ha:a<M)(hk:k≤576)(w:World):
 Cg 130 #[.agg (nw 9 a),.int .i64 k] w (.tuple #[.agg (nw 9 (a/2^k)),.int .i64 0]):=by
 have e:k=64*(k/64)+k%64:=by omega
 have h:=shr_raw a (k/64) (k%64) ha (by omega) (by omega) (by omega) w
 have d:a/pw (k/64)/2^(k%64)=a/2^k:=by
  unfold pw;rw[Nat.div_div_eq_div_mul,←Nat.pow_add,←e]
 rw[←e,d]at h;exact h
end
end
end Go.Proofs.YtffhepbppiocbadGreat