import Derived.Test.YtffhepbppiocbabGreatXAAP
namespace Go.Proofs.YtffhepbppiocbabGreat
open Go.RowKit
set_option maxRecDepth 100000
set_option maxHeartbeats 8000000
section
theorem lineF{p:Nat}[NeZero p]{i:Fin p→Fin p}{A B:Fin p}(C:EC.Cur i A B){x1 y1 x2 y2 z1 z2:Fin p}(hn:¬(x1=x2∧y1=y2))(h:EC.ng (EC.pl i A (some (x1,y1)) (some (x2,y2)))=some (z1,z2)):
 (y2-y1)*(z1-x1)=(z2-y1)*(x2-x1):=by
 by_cases hx:x1=x2
 ·subst hx;have f:y1≠y2:=fun e=>hn ⟨rfl,e⟩;simp[EC.pl,EC.ng,f]at h
 ·have q:x2-x1≠0:=fun h=>hx (EC.sub_zero_of h).symm
  have e:EC.pl i A (some (x1,y1)) (some (x2,y2))=some (EC.sx ((y2-y1)*i (x2-x1)) x1 x2,EC.sy ((y2-y1)*i (x2-x1)) x1 y1 (EC.sx ((y2-y1)*i (x2-x1)) x1 x2)):=by simp[EC.pl,hx]
  rw[e]at h;have D:=C.inv _ q;simp only[EC.ng,Option.some.injEq,Prod.mk.injEq]at h;obtain⟨x,d⟩:=h;generalize i (x2-x1)=j at *;unfold EC.sy at d;rw[x]at d;rw[←d]
  grobner
theorem lineQ{k:Nat}(h1:1≤k)(h2:k≤15){px py qx qy nx ny:Nat}(hP:OnQ k (px,py,false))(hQ:OnQ k (qx,qy,false))(hn:¬(px=qx∧py=qy))(h:ngQ k (plQ k (px,py,false) (qx,qy,false))=(nx,ny,false)):
 subM qy py (pN k)*subM nx px (pN k)%pN k=subM ny py (pN k)*subM qx px (pN k)%pN k:=by
 haveI:=EC.nzP k h1 h2
 have C:=h▸ngQ_on h1 h2 (plQ_on h1 h2 hP hQ)
 have lt:∀{x y:Nat},OnQ k (x,y,false)→x<pN k∧y<pN k:=fun {x y} h=>by
  rcases h.cases with e|⟨a,b,e,ha,hb,-⟩
  ·cases e
  ·cases e;exact⟨ha,hb⟩
 obtain⟨q,d⟩:=lt hP;obtain⟨A,f⟩:=lt hQ;obtain⟨B,i⟩:=lt C
 have j:∀{x y:Nat} (hx:x<pN k) (hy:y<pN k),decQ (pN k) (x,y,false)=some (⟨x,hx⟩,⟨y,hy⟩):=fun {x y} hx hy=>by
  show some (Fin.ofNat (pN k) x,Fin.ofNat (pN k) y)=_
  rw[show Fin.ofNat (pN k) x=⟨x,hx⟩ from Fin.ext (Nat.mod_eq_of_lt hx),show Fin.ofNat (pN k) y=⟨y,hy⟩ from Fin.ext (Nat.mod_eq_of_lt hy)]
 have hF:EC.ng (EC.pl (EC.iP (pN k)) (EC.aF k h1 h2) (some (⟨px,q⟩,⟨py,d⟩)) (some (⟨qx,A⟩,⟨qy,f⟩)))=some (⟨nx,B⟩,⟨ny,i⟩):=by
  rw[←j q d,←j A f,←j B i,←h,ngQ_is h1 h2,plQ_is h1 h2,dec_enc,dec_enc]
 have e:=congrArg Fin.val (lineF (EC.curN k h1 h2) (fun⟨a,b⟩=>hn ⟨congrArg Fin.val a,congrArg Fin.val b⟩) hF);rw[Fin.val_mul,Fin.val_mul,←subM_val,←subM_val,←subM_val,←subM_val]at e;exact e
end
end Go.Proofs.YtffhepbppiocbabGreat