import Derived.Test.YtpogpconfonljaaGreatXAQJ
namespace Go.Proofs.YtpogpconfonljaaGreat
open Go.RowKit
set_option maxRecDepth 100000
set_option maxHeartbeats 8000000
section
theorem oN_g3 (i:Nat) (h1:1≤i) (h2:i≤15):3<oN i:=by
 obtain rfl | rfl | rfl | rfl | rfl | rfl | rfl | rfl | rfl | rfl | rfl | rfl | rfl | rfl | rfl:i=1∨i=2∨i=3∨i=4∨i=5∨i=6∨i=7∨i=8∨i=9∨i=10∨i=11∨i=12∨i=13∨i=14∨i=15:=by omega
 all_goals decide +kernel
theorem evN_pos (i:Nat) (h1:1≤i) (h2:i≤15):0<(evN i).length:=by
 rw [evN,rpx_length]
 obtain rfl | rfl | rfl | rfl | rfl | rfl | rfl | rfl | rfl | rfl | rfl | rfl | rfl | rfl | rfl:i=1∨i=2∨i=3∨i=4∨i=5∨i=6∨i=7∨i=8∨i=9∨i=10∨i=11∨i=12∨i=13∨i=14∨i=15:=by omega
 all_goals decide +kernel
theorem ml_turn {k:Nat} (h1:1≤k) (h2:k≤15) {x y:Nat} (h:x+y=oN k):ngQ k (mlQ k x (gQ k))=mlQ k y (gQ k):=by
 have hX:=mlQ_on h1 h2 x (gQ_on h1 h2)
 have hY:=mlQ_on h1 h2 y (gQ_on h1 h2)
 have hn:=ngQ_on h1 h2 hX
 have e:plQ k (mlQ k y (gQ k)) (mlQ k x (gQ k))=inf:=by
  rw [← mlQ_add h1 h2 y x (gQ_on h1 h2),Nat.add_comm,h]
  exact mlQ_N h1 h2
 have a:=plQ_assoc h1 h2 hY hX hn
 rw [e,inf_plQ h1 h2 hn,plQ_ng h1 h2,plQ_inf h1 h2 hY] at a
 exact a
end
end Go.Proofs.YtpogpconfonljaaGreat