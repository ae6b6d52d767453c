import Derived.Test.YtdomjicpdbblnaaXAZL
namespace Go.Proofs.Ytdomjicpdbblnaa
open Go.RowKit
set_option maxRecDepth 100000
set_option maxHeartbeats 8000000
section
attribute [local go_sem ↓] uz1
attribute [local go_sem] uz2
section
theorem nb0:nbR []=0:=rfl
theorem nb1{x:Nat}(h:x<256):nbR [UInt8.ofNat x]=x:=(by decide +kernel:∀x:Fin 256,nbR [UInt8.ofNat x.val]=x.val) ⟨x,h⟩
theorem nb2{x:Nat}(h:x<256):nbR [0,UInt8.ofNat x]=x:=(by decide +kernel:∀x:Fin 256,nbR [0,UInt8.ofNat x.val]=x.val) ⟨x,h⟩
theorem numD_tiny{x:Nat}(h:x<128):numD x=[2,1,UInt8.ofNat x]:=(by decide +kernel:∀x:Fin 128,numD x.val=[2,1,UInt8.ofNat x.val]) ⟨x,h⟩
theorem numD_mid{x:Nat}(h:x<128):numD (x+128)=[2,2,0,UInt8.ofNat (x+128)]:=(by decide +kernel:∀x:Fin 128,numD (x.val+128)=[2,2,0,UInt8.ofNat (x.val+128)]) ⟨x,h⟩
theorem derD_tiny{x y:Nat}(hx:x<128)(hy:y<128):derD x y=[48,6,2,1,UInt8.ofNat x,2,1,UInt8.ofNat y]:=by
 rw[derD,bodD,numD_tiny hx,numD_tiny hy]
 rfl
theorem derD_mid{x y:Nat}(hx:x<128)(hy:y<128):derD (x+128) y=[48,7,2,2,0,UInt8.ofNat (x+128),2,1,UInt8.ofNat y]:=by
 rw[derD,bodD,numD_mid hx,numD_tiny hy]
 rfl
theorem getA_not{l:List UInt8}{r s:Nat}(h:gtR l=(r,s))(hn:derD r s≠l):getA l=(0,0,2200):=by rw[getA,h,if_neg hn]
theorem at_ne{l m:List UInt8}(i:Nat)(h:l.getD i 0≠m.getD i 0):l≠m:=fun e=>h (e▸rfl)
theorem lt_M7{x:Nat}(h:x<128):x<M:=Nat.lt_of_lt_of_le h (by decide +kernel)
theorem loose_good{x y:Nat}(hx:x<128)(hy:y<128):getA [48,6,2,1,UInt8.ofNat x,2,1,UInt8.ofNat y]=(x,y,0):=getA_yes ⟨lt_M7 hx,lt_M7 hy,(derD_tiny hx hy).symm⟩
theorem loose_0{x y:Nat}(hx:x<128)(hy:y<128):getA [48,129,6,2,1,UInt8.ofNat x,2,1,UInt8.ofNat y]=(0,0,2200):=
 getA_not (r:=x) (s:=y) (by show (nbR [UInt8.ofNat x],nbR [UInt8.ofNat y])=_;rw[nb1 (x:=x) (by omega),nb1 (x:=y) (by omega)]) (by rw[derD_tiny hx hy];exact at_ne 1 (by show (6:UInt8)≠129;decide))
theorem loose_1{x y:Nat}(hx:x<128)(hy:y<128):getA [48,7,2,2,0,UInt8.ofNat x,2,1,UInt8.ofNat y]=(0,0,2200):=
 getA_not (r:=x) (s:=y) (by show (nbR [0,UInt8.ofNat x],nbR [UInt8.ofNat y])=_;rw[nb2 (x:=x) (by omega),nb1 (x:=y) (by omega)]) (by rw[derD_tiny hx hy];exact at_ne 1 (by show (6:UInt8)≠7;decide))
theorem loose_2{x y:Nat}(hx:x<128)(hy:y<128):getA [48,6,2,1,UInt8.ofNat (x+128),2,1,UInt8.ofNat y]=(0,0,2200):=
 getA_not (r:=(x+128)) (s:=y) (by show (nbR [UInt8.ofNat (x+128)],nbR [UInt8.ofNat y])=_;rw[nb1 (x:=x+128) (by omega),nb1 (x:=y) (by omega)]) (by rw[derD_mid hx hy];exact at_ne 1 (by show (7:UInt8)≠6;decide))
theorem loose_3{x y:Nat}(_hx:x<128)(hy:y<128):getA [48,5,2,0,2,1,UInt8.ofNat y]=(0,0,2200):=
 getA_not (r:=0) (s:=y) (by show (nbR [],nbR [UInt8.ofNat y])=_;rw[nb0,nb1 (x:=y) (by omega)]) (by rw[derD_tiny (by decide) hy];exact at_ne 1 (by show (6:UInt8)≠5;decide))
theorem loose_4{x y:Nat}(hx:x<128)(_hy:y<128):getA [48,3,2,1,UInt8.ofNat x]=(0,0,2200):=
 getA_not (r:=x) (s:=0) (by show (nbR [UInt8.ofNat x],nbR [])=_;rw[nb1 (x:=x) (by omega),nb0]) (by rw[derD_tiny hx (by decide)];exact at_ne 1 (by show (6:UInt8)≠3;decide))
theorem loose_5{x y:Nat}(hx:x<128)(hy:y<128):getA [49,6,2,1,UInt8.ofNat x,2,1,UInt8.ofNat y]=(0,0,2200):=
 getA_not (r:=x) (s:=y) (by show (nbR [UInt8.ofNat x],nbR [UInt8.ofNat y])=_;rw[nb1 (x:=x) (by omega),nb1 (x:=y) (by omega)]) (by rw[derD_tiny hx hy];exact at_ne 0 (by show (48:UInt8)≠49;decide))
theorem loose_6{x y:Nat}(hx:x<128)(hy:y<128):getA [48,6,3,1,UInt8.ofNat x,2,1,UInt8.ofNat y]=(0,0,2200):=
 getA_not (r:=x) (s:=y) (by show (nbR [UInt8.ofNat x],nbR [UInt8.ofNat y])=_;rw[nb1 (x:=x) (by omega),nb1 (x:=y) (by omega)]) (by rw[derD_tiny hx hy];exact at_ne 2 (by show (2:UInt8)≠3;decide))
theorem loose_7{x y:Nat}(hx:x<128)(hy:y<128):getA [48,128,2,1,UInt8.ofNat x,2,1,UInt8.ofNat y,0,0]=(0,0,2200):=
 getA_not (r:=x) (s:=y) (by show (nbR [UInt8.ofNat x],nbR [UInt8.ofNat y])=_;rw[nb1 (x:=x) (by omega),nb1 (x:=y) (by omega)]) (by rw[derD_tiny hx hy];exact at_ne 1 (by show (6:UInt8)≠128;decide))
end
end
end Go.Proofs.Ytdomjicpdbblnaa