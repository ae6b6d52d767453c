import Derived.Test.YtffhepbppiocbabGreatXAMixU
import Derived.Test.YtffhepbppiocbabGreatXAAP
import Derived.Test.YtffhepbppiocbabGreatXAEP
namespace Go.Proofs.YtffhepbppiocbabGreat
open Go.RowKit Go.Proofs.Tryz
set_option maxRecDepth 100000
set_option maxHeartbeats 8000000
section
attribute [local go_sem ↓] uz1
attribute [local go_sem] uz2
section
attribute [local go_sem] uz7
attribute [local go_sem ↓] uz14 Go.wp_at_zero Go.wp_at_succ
attribute [local go_sem] uz15
theorem jprod_of(id:Int)(P A B N X Y:Nat)(s z:Int)(l:Bool)(n:Nat)(hn:n≤3)(f acc:Nat→Nat)(c:Array Value)(hrow:∀i,i<n→c.extract (i*9) (i*9+9)=nw 9 (f i))(hsz:n*9≤c.size)(HA':∀i,i<n→∀w,Cg 121 #[.int .i64 id,.agg (nw 9 (acc i)),.agg (nw 9 (f i))] w (.tuple #[.agg (nw 9 (acc (i+1))),.int .i64 0]))(b cap:Nat)(w:World)(hv:Vr w b c):
 Cg 92 #[.agg (cu id P A B N X Y s z l),.agg (nw 9 (acc 0)),.slice (some ⟨b,0,none⟩) n cap] w (.agg (nw 9 (acc n))):=by
 have K:Hid _:=HA';have L:Hu (n≤3):=fun _=>hn
 have Q:Hid (∀j,j<n→∀v,Gr w v→(loadS 33 (.pointer (some ⟨b,j*9,none⟩))).run prog v=.ok (.agg (nw 9 (f j))) v):=fun j q v g=>by
  have H:=(hv.gr g).h;rw[loadPart v b (j*9) (by rw[H];omega),H,hrow j q]
 clear hn HA' hrow hsz
 go_enter func92,ntmps92
 go_wp2_with fail
 refine gen_w (fun wr=>Hid (Gr w wr∧Vr wr (w.heap.size) (cu id P A B N X Y s z l)∧Vr wr (w.heap.size+1+1) (nw 9 0)∧Vr wr (w.heap.size+1+1+1) (nw 9 (acc 0)))) ⟨grA,vrA,vrA,vrA⟩ ?_;intro v0 d
 go_loopw [13] (fun ia wr=>∃j:Nat,ia=.int .i64 j∧Hu (j≤n)∧Hid (Gr w wr∧Vr wr (w.heap.size) (cu id P A B N X Y s z l)∧Vr wr (w.heap.size+1+1) (nw 9 0)∧Vr wr (w.heap.size+1+1+1) (nw 9 (acc j)))) (fun ia _=>((n:Int)-intOf ia).toNat)
 case atStart=>exact⟨0,rfl,fun _=>Nat.zero_le _,d⟩
 case round=>
  clear d;obtain⟨j,rfl,S,d⟩:=hrel;obtain⟨G,C,I,J⟩:=d.out
  have k0:wr.cell? ⟨w.heap.size,0,none⟩=some (.int .i64 id):=by rw[C.cell];exact cu_0 id P A B N X Y s z l
  have U:¬(w.heap.size+1+1+1=w.heap.size):=by omega
  have j0:(0:Int)≤j:=by omega
  have n4:(n:Int)≤3:=by have:=L.out ();omega
  have⟨h0,f0,p0⟩:=C;have⟨h1,f1,p1⟩:=I;have⟨h2,f2,p2⟩:=J;have⟨V,W,Z,aa,ab,ac⟩:=C.pp;have⟨ae,af,ag,ah,ai,aj⟩:=I.pp;have⟨ak,ao,ap,aq,ar,au⟩:=J.pp
  by_cases hlt:j<n
  ·have j1:(j:Int)<n:=by omega
   have av:=Q.out j hlt wr G;have D:Hid _:=K.out j hlt
   go_wp2_with (go_at_call 121;refine hkA D fun g=>?_)
   go_roundw
   case rel=>
    refine⟨j+1,by go_num,fun _=>hlt,?_,⟨by simp[go_sem, *],by simp[go_sem, *],by simp[go_sem, *]⟩,⟨by simp[go_sem, *],by simp[go_sem, *],by simp[go_sem, *]⟩,⟨by simp[go_sem, *],by simp[go_sem, *],by simp[go_sem, *]⟩⟩;exact grB
   case measure=>simp[intOf];omega
  ·have j1:¬(j:Int)<n:=by omega
   have q:j=n:=by have:=S.out ();omega
   go_wp2_with fail
   refine bo1 results92 (rd_nat (x:=acc j) (by rfl) ?_) ⟨by rw[q],?_⟩
   ·simp[go_sem, *]
   ·exact grB
theorem jsum_of(id:Int)(P A B N X Y:Nat)(s z:Int)(l:Bool)(n:Nat)(hn:n≤3)(f acc:Nat→Nat)(c:Array Value)(hrow:∀i,i<n→c.extract (i*9) (i*9+9)=nw 9 (f i))(hsz:n*9≤c.size)(HA':∀i,i<n→∀w,Cg 122 #[.int .i64 id,.agg (nw 9 (acc i)),.agg (nw 9 (f i))] w (.tuple #[.agg (nw 9 (acc (i+1))),.int .i64 0]))(b cap:Nat)(w:World)(hv:Vr w b c):
 Cg 93 #[.agg (cu id P A B N X Y s z l),.agg (nw 9 (acc 0)),.slice (some ⟨b,0,none⟩) n cap] w (.agg (nw 9 (acc n))):=by
 have K:Hid _:=HA';have L:Hu (n≤3):=fun _=>hn
 have Q:Hid (∀j,j<n→∀v,Gr w v→(loadS 33 (.pointer (some ⟨b,j*9,none⟩))).run prog v=.ok (.agg (nw 9 (f j))) v):=fun j q v g=>by
  have H:=(hv.gr g).h;rw[loadPart v b (j*9) (by rw[H];omega),H,hrow j q]
 clear hn HA' hrow hsz
 go_enter func93,ntmps93
 go_wp2_with fail
 refine gen_w (fun wr=>Hid (Gr w wr∧Vr wr (w.heap.size) (cu id P A B N X Y s z l)∧Vr wr (w.heap.size+1+1) (nw 9 0)∧Vr wr (w.heap.size+1+1+1) (nw 9 (acc 0)))) ⟨grA,vrA,vrA,vrA⟩ ?_;intro v0 d
 go_loopw [13] (fun ia wr=>∃j:Nat,ia=.int .i64 j∧Hu (j≤n)∧Hid (Gr w wr∧Vr wr (w.heap.size) (cu id P A B N X Y s z l)∧Vr wr (w.heap.size+1+1) (nw 9 0)∧Vr wr (w.heap.size+1+1+1) (nw 9 (acc j)))) (fun ia _=>((n:Int)-intOf ia).toNat)
 case atStart=>exact⟨0,rfl,fun _=>Nat.zero_le _,d⟩
 case round=>
  clear d;obtain⟨j,rfl,S,d⟩:=hrel;obtain⟨G,C,I,J⟩:=d.out
  have k0:wr.cell? ⟨w.heap.size,0,none⟩=some (.int .i64 id):=by rw[C.cell];exact cu_0 id P A B N X Y s z l
  have U:¬(w.heap.size+1+1+1=w.heap.size):=by omega
  have j0:(0:Int)≤j:=by omega
  have n4:(n:Int)≤3:=by have:=L.out ();omega
  have⟨h0,f0,p0⟩:=C;have⟨h1,f1,p1⟩:=I;have⟨h2,f2,p2⟩:=J;have⟨V,W,Z,aa,ab,ac⟩:=C.pp;have⟨ae,af,ag,ah,ai,aj⟩:=I.pp;have⟨ak,ao,ap,aq,ar,au⟩:=J.pp
  by_cases hlt:j<n
  ·have j1:(j:Int)<n:=by omega
   have av:=Q.out j hlt wr G;have D:Hid _:=K.out j hlt
   go_wp2_with (go_at_call 122;refine hkA D fun g=>?_)
   go_roundw
   case rel=>
    refine⟨j+1,by go_num,fun _=>hlt,?_,⟨by simp[go_sem, *],by simp[go_sem, *],by simp[go_sem, *]⟩,⟨by simp[go_sem, *],by simp[go_sem, *],by simp[go_sem, *]⟩,⟨by simp[go_sem, *],by simp[go_sem, *],by simp[go_sem, *]⟩⟩;exact grB
   case measure=>simp[intOf];omega
  ·have j1:¬(j:Int)<n:=by omega
   have q:j=n:=by have:=S.out ();omega
   go_wp2_with fail
   refine bo1 results93 (rd_nat (x:=acc j) (by rfl) ?_) ⟨by rw[q],?_⟩
   ·simp[go_sem, *]
   ·exact grB
theorem jdiff_of(id:Int)(P A B N X Y:Nat)(s z:Int)(l:Bool)(x y q:Nat)(H1':∀w,Cg 113 #[.int .i64 id,.agg (nw 9 x),.agg (nw 9 y)] w (.tuple #[.agg (nw 9 q),.int .i64 0]))(w:World):
 Cg 94 #[.agg (cu id P A B N X Y s z l),.agg (nw 9 x),.agg (nw 9 y)] w (.agg (nw 9 q)):=by
 have f:Hid _:=H1';clear H1'
 go_enter func94,ntmps94
 go_upto_region 1 with fail
 refine gen_w (fun v=>Hid (Gr w v∧Vr v (w.heap.size) (cu id P A B N X Y s z l)∧Vr v (w.heap.size+1) (nw 9 x)∧Vr v (w.heap.size+1+1) (nw 9 y)∧Vr v (w.heap.size+1+1+1) (nw 9 0))) ⟨grA,vrA,vrA,vrA,vrA⟩ ?_;intro h i;obtain⟨G,d,j,C,D⟩:=i.out
 have V:h.cell? ⟨w.heap.size,0,none⟩=some (.int .i64 id):=by rw[d.cell];exact cu_0 id P A B N X Y s z l
 have H:=d.al;have⟨I,J,K⟩:=j;have⟨L,Q,S⟩:=C;have U:=D.al
 go_wp2_with (first
  | (go_at_call_of 113 ((#[.int .i64 id,.agg (nw 9 x),.agg (nw 9 y)]:Array Value));refine hkA f fun W=>?_))
 refine bo1 results94 (rd_nat (by rfl) ?_) ⟨rfl,?_⟩
 ·simp[go_sem, *]
 ·exact grB
theorem jbelow_yes(id:Int)(P A B N X Y:Nat)(s z:Int)(l:Bool)(hP:P<M)(n:Nat)(hn:n≤3)(f:Nat→Nat)(hF:∀i,i<n→f i<M)(c:Array Value)(hrow:∀i,i<n→c.extract (i*9) (i*9+9)=nw 9 (f i))(hsz:n*9≤c.size)(hon:∀i,i<n→f i<P)(b cap:Nat)(w:World)(hv:Vr w b c):
 Cg 117 #[.agg (cu id P A B N X Y s z l),.slice (some ⟨b,0,none⟩) n cap] w (.bool true):=by
 have D:Hu (n≤3):=fun _=>hn;have H:Hu (P<M):=fun _=>hP;have I:Hid _:=hF;have J:Hid _:=hon
 have K:Hid (∀j,j<n→∀v,Gr w v→(loadS 33 (.pointer (some ⟨b,j*9,none⟩))).run prog v=.ok (.agg (nw 9 (f j))) v):=fun j L v g=>by
  have C:=(hv.gr g).h;rw[loadPart v b (j*9) (by rw[C];omega),C,hrow j L]
 clear hn hP hF hrow hsz hon
 go_enter func117,ntmps117
 go_wp2_with fail
 refine gen_w (fun wr=>Hid (Gr w wr∧Vr wr (w.heap.size) (cu id P A B N X Y s z l))) ⟨grA,vrA⟩ ?_;intro U q
 go_loopw [9] (fun ia wr=>∃j:Nat,ia=.int .i64 j∧Hu (j≤n)∧Hid (Gr w wr∧Vr wr (w.heap.size) (cu id P A B N X Y s z l))) (fun ia _=>((n:Int)-intOf ia).toNat)
 case atStart=>exact⟨0,rfl,fun _=>Nat.zero_le _,q⟩
 case round=>
  clear q;obtain⟨j,rfl,V,q⟩:=hrel;obtain⟨G,Q⟩:=q.out
  have W:(0:Int)≤j:=by omega
  have Z:(n:Int)≤3:=by have:=D.out ();omega
  have⟨h0,f0,p0⟩:=Q
  by_cases hlt:j<n
  ·have d:j<n:=by exact hlt
   have S:=K.out j d wr G
   have x:Hid _:=fun w=>by
    have h:=cmp_any (f j) P (I.out j d) (H.out ()) w;rw[show cmpZ (f j) P = -1 by have:=J.out j hlt;unfold cmpZ;rw[if_pos this]]at h;exact h
   go_wp2_with (go_at_call 135;refine hkA x fun g=>?_)
   go_roundw
   case rel=>
    refine⟨j+1,by go_num,fun _=>hlt,?_,⟨by simp[go_sem, *],by simp[go_sem, *],by simp[go_sem, *]⟩⟩;exact grB
   case measure=>simp[intOf];omega
  ·skip
   go_wp2_with fail
   go_ret
   exact⟨rfl,G⟩
theorem jbelow_off(id:Int)(P A B N X Y:Nat)(s z:Int)(l:Bool)(hP:P<M)(n:Nat)(hn:n≤3)(f:Nat→Nat)(hF:∀i,i<n→f i<M)(c:Array Value)(hrow:∀i,i<n→c.extract (i*9) (i*9+9)=nw 9 (f i))(hsz:n*9≤c.size)(m:Nat)(hm:m<n)(hoff:P≤f m)(hon:∀i,i<m→f i<P)(b cap:Nat)(w:World)(hv:Vr w b c):
 Cg 117 #[.agg (cu id P A B N X Y s z l),.slice (some ⟨b,0,none⟩) n cap] w (.bool false):=by
 have W:Hu (n≤3):=fun _=>hn;have L:Hu (P<M):=fun _=>hP;have Q:Hid _:=hF;have Z:Hid _:=hon;have S:Hu (m<n):=fun _=>hm;have H:Hu (P≤f m):=fun _=>hoff
 have U:Hid (∀j,j<n→∀v,Gr w v→(loadS 33 (.pointer (some ⟨b,j*9,none⟩))).run prog v=.ok (.agg (nw 9 (f j))) v):=fun j hj v g=>by
  have V:=(hv.gr g).h;rw[loadPart v b (j*9) (by rw[V];omega),V,hrow j hj]
 clear hn hP hF hrow hsz hon hm hoff
 go_enter func117,ntmps117
 go_wp2_with fail
 refine gen_w (fun wr=>Hid (Gr w wr∧Vr wr (w.heap.size) (cu id P A B N X Y s z l))) ⟨grA,vrA⟩ ?_;intro v0 x
 go_loopw [9] (fun ia wr=>∃j:Nat,ia=.int .i64 j∧Hu (j≤m)∧Hid (Gr w wr∧Vr wr (w.heap.size) (cu id P A B N X Y s z l))) (fun ia _=>((n:Int)-intOf ia).toNat)
 case atStart=>exact⟨0,rfl,fun _=>Nat.zero_le _,x⟩
 case round=>
  clear x;obtain⟨j,rfl,HJ,x⟩:=hrel;obtain⟨G,I⟩:=x.out
  have j0:(0:Int)≤j:=by omega
  have n4:(n:Int)≤3:=by have:=W.out ();omega
  have h0:=I.al
  by_cases hlt:j<m
  ·have d:j<n:=by have:=S.out ();omega
   have j1:(j:Int)<n:=by omega
   have J:=U.out j d wr G
   have q:Hid _:=fun w=>by
    have h:=cmp_any (f j) P (Q.out j d) (L.out ()) w;rw[show cmpZ (f j) P = -1 by have:=Z.out j hlt;unfold cmpZ;rw[if_pos this]]at h;exact h
   clear x I d
   go_wp2_with (go_at_call 135;refine hkA q fun g=>?_)
   go_roundw
   case rel=>
    refine⟨j+1,by go_num,fun _=>hlt,?_,⟨by simp[go_sem, *],by simp[go_sem, *],by simp[go_sem, *]⟩⟩;exact grB
   case measure=>simp[intOf];omega
  ·skip
   have C:j=m:=by have:=HJ.out ();omega
   have K:=S.out ()
   have d:j<n:=by omega
   obtain⟨z1,D⟩:=exl (cmpZ (f j) P)
   have aa:(0:Int)≤z1:=by rw[←D,C];have:=H.out ();unfold cmpZ;split <;> (try split) <;> omega
   have q:Hid _:=D▸cmp_any _ _ (Q.out j d) (L.out ())
   have j1:(j:Int)<n:=by omega
   have J:=U.out j d wr G;clear x I hlt d C K
   go_wp2_with (go_at_call 135;refine hkA q fun g=>?_)
   go_ret
   refine⟨rfl,?_⟩;exact grB
end
section
attribute [local go_sem] uz7
attribute [local go_sem ↓] uz14 Go.wp_at_zero Go.wp_at_succ
attribute [local go_sem] uz15
def accM{p:Nat}(x:Fin p)(F:Nat→Fin p):Nat→Fin p
 | 0=>x
 | n+1=>accM x F n*F n
def accA{p:Nat}(x:Fin p)(F:Nat→Fin p):Nat→Fin p
 | 0=>x
 | n+1=>accA x F n+F n
theorem jpF{k:Nat}(h1:1≤k)(h2:k≤15){P A B N X Y:Nat}{s z:Int}{l:Bool}(x:Fin (pN k))(F:Nat→Fin (pN k))(n:Nat)(hn:n≤3)(c:Array Value)(hrow:∀i,i<n→c.extract (i*9) (i*9+9)=nw 9 (F i).val)(hsz:n*9≤c.size){w:World}{q:Nat}(hv:Vr w q c):
 Cg 92 #[.agg (cu (k:Int) P A B N X Y s z l),.agg (nw 9 x.val),.slice (some ⟨q,0,none⟩) n n] w (.agg (nw 9 (accM x F n).val)):=
 jprod_of (k:Int) P A B N X Y s z l n hn (fun i=>(F i).val) (fun i=>(accM x F i).val) c hrow hsz (fun i _ w=>fmulF h1 h2 (accM x F i) (F i) w) q n w hv
theorem jp1{k:Nat}(h1:1≤k)(h2:k≤15){P A B N X Y:Nat}{s z:Int}{l:Bool}{a b r:Fin (pN k)}(e:a*b=r){w:World}{q:Nat}(hv:Vr w q (nw 9 b.val)):
 Cg 92 #[.agg (cu (k:Int) P A B N X Y s z l),.agg (nw 9 a.val),.slice (some ⟨q,0,none⟩) 1 1] w (.agg (nw 9 r.val)):=by
 subst e
 exact jpF h1 h2 a (fun _=>b) 1 (by decide) _ (fun i d=>by
  obtain rfl:i=0:=by omega
  ·kernel_rfl) (by simp[nw_size]) hv
theorem jp2{k:Nat}(h1:1≤k)(h2:k≤15){P A B N X Y:Nat}{s z:Int}{l:Bool}{a b c r:Fin (pN k)}(e:a*b*c=r){w:World}{q:Nat}(hv:Vr w q (nw 9 b.val++nw 9 c.val)):
 Cg 92 #[.agg (cu (k:Int) P A B N X Y s z l),.agg (nw 9 a.val),.slice (some ⟨q,0,none⟩) 2 2] w (.agg (nw 9 r.val)):=by
 subst e
 exact jpF h1 h2 a (fun i=>match i with|0=>b|_=>c) 2 (by decide) _ (fun i d=>by
  obtain rfl|rfl:i=0∨i=1:=by omega
  ·kernel_rfl
  ·kernel_rfl) (by simp[nw_size]) hv
theorem jp3{k:Nat}(h1:1≤k)(h2:k≤15){P A B N X Y:Nat}{s z:Int}{l:Bool}{a b c d r:Fin (pN k)}(e:a*b*c*d=r){w:World}{q:Nat}(hv:Vr w q (nw 9 b.val++nw 9 c.val++nw 9 d.val)):
 Cg 92 #[.agg (cu (k:Int) P A B N X Y s z l),.agg (nw 9 a.val),.slice (some ⟨q,0,none⟩) 3 3] w (.agg (nw 9 r.val)):=by
 subst e
 exact jpF h1 h2 a (fun i=>match i with|0=>b|1=>c|_=>d) 3 (by decide) _ (fun i f=>by
  obtain rfl|rfl|rfl:i=0∨i=1∨i=2:=by omega
  ·kernel_rfl
  ·kernel_rfl
  ·kernel_rfl) (by simp[nw_size]) hv
theorem jsF{k:Nat}(h1:1≤k)(h2:k≤15){P A B N X Y:Nat}{s z:Int}{l:Bool}(x:Fin (pN k))(F:Nat→Fin (pN k))(n:Nat)(hn:n≤3)(c:Array Value)(hrow:∀i,i<n→c.extract (i*9) (i*9+9)=nw 9 (F i).val)(hsz:n*9≤c.size){w:World}{q:Nat}(hv:Vr w q c):
 Cg 93 #[.agg (cu (k:Int) P A B N X Y s z l),.agg (nw 9 x.val),.slice (some ⟨q,0,none⟩) n n] w (.agg (nw 9 (accA x F n).val)):=
 jsum_of (k:Int) P A B N X Y s z l n hn (fun i=>(F i).val) (fun i=>(accA x F i).val) c hrow hsz (fun i _ w=>faddF h1 h2 (accA x F i) (F i) w) q n w hv
theorem js1{k:Nat}(h1:1≤k)(h2:k≤15){P A B N X Y:Nat}{s z:Int}{l:Bool}{a b r:Fin (pN k)}(e:a+b=r){w:World}{q:Nat}(hv:Vr w q (nw 9 b.val)):
 Cg 93 #[.agg (cu (k:Int) P A B N X Y s z l),.agg (nw 9 a.val),.slice (some ⟨q,0,none⟩) 1 1] w (.agg (nw 9 r.val)):=by
 subst e
 exact jsF h1 h2 a (fun _=>b) 1 (by decide) _ (fun i d=>by
  obtain rfl:i=0:=by omega
  ·kernel_rfl) (by simp[nw_size]) hv
theorem js2{k:Nat}(h1:1≤k)(h2:k≤15){P A B N X Y:Nat}{s z:Int}{l:Bool}{a b c r:Fin (pN k)}(e:a+b+c=r){w:World}{q:Nat}(hv:Vr w q (nw 9 b.val++nw 9 c.val)):
 Cg 93 #[.agg (cu (k:Int) P A B N X Y s z l),.agg (nw 9 a.val),.slice (some ⟨q,0,none⟩) 2 2] w (.agg (nw 9 r.val)):=by
 subst e
 exact jsF h1 h2 a (fun i=>match i with|0=>b|_=>c) 2 (by decide) _ (fun i d=>by
  obtain rfl|rfl:i=0∨i=1:=by omega
  ·kernel_rfl
  ·kernel_rfl) (by simp[nw_size]) hv
theorem js3{k:Nat}(h1:1≤k)(h2:k≤15){P A B N X Y:Nat}{s z:Int}{l:Bool}{a b c d r:Fin (pN k)}(e:a+b+c+d=r){w:World}{q:Nat}(hv:Vr w q (nw 9 b.val++nw 9 c.val++nw 9 d.val)):
 Cg 93 #[.agg (cu (k:Int) P A B N X Y s z l),.agg (nw 9 a.val),.slice (some ⟨q,0,none⟩) 3 3] w (.agg (nw 9 r.val)):=by
 subst e
 exact jsF h1 h2 a (fun i=>match i with|0=>b|1=>c|_=>d) 3 (by decide) _ (fun i f=>by
  obtain rfl|rfl|rfl:i=0∨i=1∨i=2:=by omega
  ·kernel_rfl
  ·kernel_rfl
  ·kernel_rfl) (by simp[nw_size]) hv
theorem jd{k:Nat}(h1:1≤k)(h2:k≤15){P A B N X Y:Nat}{s z:Int}{l:Bool}{a b r:Fin (pN k)}(e:a-b=r)(w:World):
 Cg 94 #[.agg (cu (k:Int) P A B N X Y s z l),.agg (nw 9 a.val),.agg (nw 9 b.val)] w (.agg (nw 9 r.val)):=by
 subst e;exact jdiff_of (k:Int) P A B N X Y s z l _ _ _ (fsubF h1 h2 a b) w
theorem jleft{k:Nat}(h1:1≤k)(h2:k≤15){N X Y:Nat}{s z:Int}{l:Bool}{A B:Fin (pN k)}{X1 Y1 Z1:Fin (pN k)}{r:Fin (pN k)}(er:Y1*Y1*Z1=r)(w:World):
 Cg 118 #[.agg (cu (k:Int) (pN k) A.val B.val N X Y s z l),.agg (prj X1.val Y1.val Z1.val)] w (.agg (nw 9 r.val)):=by
 have i:=@jp2 k h1 h2 (pN k) A.val B.val N X Y s z l
 go_enter func118,ntmps118
 go_upto_region 1 with fail
 refine gen_w (fun v=>Hid (Gr w v∧Vr v (w.heap.size) (cu (k:Int) (pN k) A.val B.val N X Y s z l)∧Vr v (w.heap.size+1) (prj X1.val Y1.val Z1.val)∧Vr v (w.heap.size+1+1) (nw 9 0))) ⟨grA,vrA,vrA,vrA⟩ ?_;intro P D;obtain⟨G,H,j,q⟩:=D.out;refine wp_wTS 9 [.c (.agg (cu (k:Int) (pN k) A.val B.val N X Y s z l)),.c (pv (w.heap.size+1) 9),.N Y1.val,.c (pv (w.heap.size+1) 9),.N Y1.val,.c (pv (w.heap.size+1) 18),.N Z1.val,.r 2 (nw 9 Y1.val++nw 9 Z1.val),.N r.val] [0,2,4,6,7,8] ⟨.g 104 0 H rfl,.g 33 9 j rfl,.g 33 9 j rfl,.g 33 18 j rfl,.r (.buildSlice 170 2 #[(0,.const (.agg (nw 9 Y1.val))),(1,.const (.agg (nw 9 Z1.val)))]) rfl (rowN2 _ _),.k _ fun x Q d I=>RtW.of_c (Rt.c (i er (I 7 rfl))),⟨⟩⟩ (.s 33 (fun x=>pv (w.heap.size+1+1) 0) (fun x=>.agg (nw 9 r.val)) fun J K d h1=>?_);have C:=(q.gr d).h;have L:=(q.gr d).f;refine⟨setBlk K (w.heap.size+1+1) (nw 9 r.val),by simp[go_sem,exI,C,L],?_⟩;simp only[fzw,Kw.r];replace G:=G.trans d
 go_wp2_with fail
 exact bo1 results118 (rd_nat (by rfl) (blk_setBlk _ _ _ (by rw[C];decide +kernel))) ⟨rfl,gr_setNew G (by omega)⟩
theorem jright{k:Nat}(h1:1≤k)(h2:k≤15){N X Y:Nat}{s z:Int}{l:Bool}{A B:Fin (pN k)}{X1 Y1 Z1:Fin (pN k)}{q1 q2 q3 r:Fin (pN k)}(eq1:X1*X1*X1=q1)(eq2:A*X1*Z1*Z1=q2)(eq3:B*Z1*Z1*Z1=q3)(er:q1+q2+q3=r)(w:World):
 Cg 119 #[.agg (cu (k:Int) (pN k) A.val B.val N X Y s z l),.agg (prj X1.val Y1.val Z1.val)] w (.agg (nw 9 r.val)):=by
 have D:=@jp2 k h1 h2 (pN k) A.val B.val N X Y s z l;have x:=@jp3 k h1 h2 (pN k) A.val B.val N X Y s z l;have H:=@js2 k h1 h2 (pN k) A.val B.val N X Y s z l
 go_enter func119,ntmps119
 go_upto_region 1 with fail
 refine gen_w (fun v=>Hid (Gr w v∧Vr v (w.heap.size) (cu (k:Int) (pN k) A.val B.val N X Y s z l)∧Vr v (w.heap.size+1) (prj X1.val Y1.val Z1.val)∧Vr v (w.heap.size+1+1) (nw 9 0))) ⟨grA,vrA,vrA,vrA⟩ ?_;intro U L;obtain⟨G,q,d,J⟩:=L.out;refine wp_wT 36 [.c (.agg (cu (k:Int) (pN k) A.val B.val N X Y s z l)),.c (.agg (cu (k:Int) (pN k) A.val B.val N X Y s z l)),.c (pv (w.heap.size+1) 0),.N X1.val,.c (pv (w.heap.size+1) 0),.N X1.val,.c (pv (w.heap.size+1) 0),.N X1.val,.r 2 (nw 9 X1.val++nw 9 X1.val),.N q1.val,.c (.agg (cu (k:Int) (pN k) A.val B.val N X Y s z l)),.c (pv (w.heap.size) 0),.c (pv (w.heap.size) 10),.N A.val,.c (pv (w.heap.size+1) 0),.N X1.val,.c (pv (w.heap.size+1) 18),.N Z1.val,.c (pv (w.heap.size+1) 18),.N Z1.val,.r 3 (nw 9 X1.val++nw 9 Z1.val++nw 9 Z1.val),.N q2.val,.c (.agg (cu (k:Int) (pN k) A.val B.val N X Y s z l)),.c (pv (w.heap.size) 0),.c (pv (w.heap.size) 19),.N B.val,.c (pv (w.heap.size+1) 18),.N Z1.val,.c (pv (w.heap.size+1) 18),.N Z1.val,.c (pv (w.heap.size+1) 18),.N Z1.val,.r 3 (nw 9 Z1.val++nw 9 Z1.val++nw 9 Z1.val),.N q3.val,.r 2 (nw 9 q2.val++nw 9 q3.val),.N r.val] [0,1,3,5,7,8,9,10,13,15,17,19,20,21,22,25,27,29,31,32,33,34,35] ?hs2 ?hf2
 case hs2=>
  exact⟨.g 104 0 q rfl,.g 104 0 q rfl,.g 33 0 d rfl,.g 33 0 d rfl,.g 33 0 d rfl,.r (.buildSlice 170 2 #[(0,.const (.agg (nw 9 X1.val))),(1,.const (.agg (nw 9 X1.val)))]) rfl (rowN2 _ _),.k _ fun C I i j=>RtW.of_c (Rt.c (D eq1 (j 8 rfl))),.g 104 0 q rfl,.g 33 10 q rfl,.g 33 0 d rfl,.g 33 18 d rfl,.g 33 18 d rfl,.r (.buildSlice 170 3 #[(0,.const (.agg (nw 9 X1.val))),(1,.const (.agg (nw 9 Z1.val))),(2,.const (.agg (nw 9 Z1.val)))]) rfl (rowN3 _ _ _),.k _ fun C I i j=>RtW.of_c (Rt.c (x eq2 (j 20 rfl))),.g 104 0 q rfl,.g 33 19 q rfl,.g 33 18 d rfl,.g 33 18 d rfl,.g 33 18 d rfl,.r (.buildSlice 170 3 #[(0,.const (.agg (nw 9 Z1.val))),(1,.const (.agg (nw 9 Z1.val))),(2,.const (.agg (nw 9 Z1.val)))]) rfl (rowN3 _ _ _),.k _ fun C I i j=>RtW.of_c (Rt.c (x eq3 (j 32 rfl))),.r (.buildSlice 170 2 #[(0,.const (.agg (nw 9 q2.val))),(1,.const (.agg (nw 9 q3.val)))]) rfl (rowN2 _ _),.k _ fun C I i j=>RtW.of_c (Rt.c (H er (j 34 rfl))),⟨⟩⟩
 refine .s 33 (fun C=>pv (w.heap.size+1+1) 0) (fun C=>.agg (nw 9 r.val)) fun P Q i h1=>?_;have K:=(J.gr i).h;have S:=(J.gr i).f;refine⟨setBlk Q (w.heap.size+1+1) (nw 9 r.val),by simp[go_sem,exI,K,S],?_⟩;simp only[fzw,Kw.r];replace G:=G.trans i
 go_wp2_with fail
 exact bo1 results119 (rd_nat (by rfl) (blk_setBlk _ _ _ (by rw[K];decide +kernel))) ⟨rfl,gr_setNew G (by omega)⟩
theorem jtri_inf(x y:Nat)(w:World):
 Cg 67 #[.agg (pnt x y true)] w (.agg (prj 0 1 0)):=by
 go_enter func67,ntmps67
 go_upto_region 1 with fail
 refine gen_w (fun v=>Hid (Gr w v∧Vr v (w.heap.size) (pnt x y true)∧Vr v (w.heap.size+1) (prj 0 0 0))) ⟨grA,vrA,vrA⟩ ?_;intro I C;obtain⟨G,q,j⟩:=C.out;clear C;refine wp_v false [.N 1,.a,.u] [0] [⟨1,2,33,nw 9 0,fun _=>nw 9 1⟩] ⟨.z (small_any 1 (by decide)),⟨⟩⟩ ⟨.k zNat (.t rfl),⟨⟩⟩ fun A J d K B=>?_;simp only[fzw,Kw.a];obtain⟨⟨D,i⟩,-⟩:(I.heap.size≤(A 1 0).2∧Vr J (A 1 0).2 (nw 9 1))∧True:=B;clear K;replace G:=G.trans d;replace q:=q.gr d;replace j:=j.gr d;clear d
 go_upto_region 2 with fail
 refine wp_wS [.c (pv (w.heap.size) 18),.T] [1] ⟨.o 4 18 q rfl (by exact pnt_18 _ _ _),⟨⟩⟩ fun L X d P=>?_;simp only[fzw];clear P;replace G:=G.trans d;replace q:=q.gr d;replace j:=j.gr d;replace i:=i.gr d;clear d
 go_upto_region 3 with fail
 refine wp_wTS 2 [.N 1,.c (.agg (prj 0 1 0))] [0] ⟨.g 33 0 i rfl,⟨⟩⟩ (.s 53 (fun Q=>pv (w.heap.size+1) 0) (fun Q=>.agg (prj 0 1 0)) fun S U d V=>?_);have H:=(j.gr d).h;have W:=(j.gr d).f;refine⟨setBlk U (w.heap.size+1) (prj 0 1 0),by simp[go_sem,exI,H,W],?_⟩;simp only[fzw];clear V;replace G:=G.trans d;replace q:=q.gr d;replace j:=j.gr d;replace i:=i.gr d;clear d
 go_wp2_with fail
 exact bo1 results67 (rd_pj (by rfl) (blk_setBlk _ _ _ (by rw[H];decide +kernel))) ⟨rfl,gr_setNew G (by omega)⟩
theorem jtri_fin(x y:Nat)(w:World):
 Cg 67 #[.agg (pnt x y false)] w (.agg (prj x y 1)):=by
 go_enter func67,ntmps67
 go_upto_region 1 with fail
 refine gen_w (fun v=>Hid (Gr w v∧Vr v (w.heap.size) (pnt x y false)∧Vr v (w.heap.size+1) (prj 0 0 0))) ⟨grA,vrA,vrA⟩ ?_;intro I C;obtain⟨G,j,q⟩:=C.out;clear C;refine wp_v false [.N 1,.a,.u] [0] [⟨1,2,33,nw 9 0,fun _=>nw 9 1⟩] ⟨.z (small_any 1 (by decide)),⟨⟩⟩ ⟨.k zNat (.t rfl),⟨⟩⟩ fun A J d K B=>?_;simp only[fzw,Kw.a];obtain⟨⟨D,i⟩,-⟩:(I.heap.size≤(A 1 0).2∧Vr J (A 1 0).2 (nw 9 1))∧True:=B;clear K;replace G:=G.trans d;replace j:=j.gr d;replace q:=q.gr d;clear d
 go_upto_region 2 with fail
 refine wp_wS [.c (pv (w.heap.size) 18),.F] [1] ⟨.o 4 18 j rfl (by exact pnt_18 _ _ _),⟨⟩⟩ fun L X d P=>?_;simp only[fzw];clear P;replace G:=G.trans d;replace j:=j.gr d;replace q:=q.gr d;replace i:=i.gr d;clear d
 go_upto_region 4 with fail
 refine wp_wTS 6 [.c (pv (w.heap.size) 0),.N x,.c (pv (w.heap.size) 9),.N y,.N 1,.c (.agg (prj x y 1))] [1,3,4] ⟨.g 33 0 j rfl,.g 33 9 j rfl,.g 33 0 i rfl,⟨⟩⟩ (.s 53 (fun Q=>pv (w.heap.size+1) 0) (fun Q=>.agg (prj x y 1)) fun S U d V=>?_);have H:=(q.gr d).h;have W:=(q.gr d).f;refine⟨setBlk U (w.heap.size+1) (prj x y 1),by simp[go_sem,exI,H,W],?_⟩;simp only[fzw];clear V;replace G:=G.trans d;replace j:=j.gr d;replace q:=q.gr d;replace i:=i.gr d;clear d
 go_wp2_with fail
 exact bo1 results67 (rd_pj (by rfl) (blk_setBlk _ _ _ (by rw[H];decide +kernel))) ⟨rfl,gr_setNew G (by omega)⟩
theorem jpt_inf{k:Nat}{N X Y:Nat}{s z:Int}{l:Bool}{A B:Fin (pN k)}(x y:Nat)(w:World):
 Cg 62 #[.agg (cu (k:Int) (pN k) A.val B.val N X Y s z l),.agg (prj x y 0)] w (.agg (pnt 0 0 true)):=by
 go_enter func62,ntmps62
 go_upto_region 1 with fail
 refine gen_w (fun v=>Hid (Gr w v∧Vr v (w.heap.size) (cu (k:Int) (pN k) A.val B.val N X Y s z l)∧Vr v (w.heap.size+1) (prj x y 0)∧Vr v (w.heap.size+1+1) (pnt 0 0 false))) ⟨grA,vrA,vrA,vrA⟩ ?_;intro P j;obtain⟨G,Q,C,i⟩:=j.out;clear j;refine wp_wS [.c (pv (w.heap.size+1) 18),.N 0,.N 0,.T] [1,3] ⟨.g 33 18 C rfl,.s (.binOp .eql 33 (.const (.agg (nw 9 0))) (.const (.agg (nw 9 0))) 33) rfl fun S d=>by simp[go_sem,exI,eqNat,eqN_self],⟨⟩⟩ fun D U d H=>?_;simp only[fzw];clear H;replace G:=G.trans d;replace i:=i.gr d
 go_upto_region 2 with fail
 refine wp_wTS 1 [.c (.agg (pnt 0 0 true))] [] ⟨⟩ (.s 35 (fun I=>pv (w.heap.size+1+1) 0) (fun I=>.agg (pnt 0 0 true)) fun J K d V=>?_);have q:=(i.gr d).h;have L:=(i.gr d).f;refine⟨setBlk K (w.heap.size+1+1) (pnt 0 0 true),by simp[go_sem,exI,q,L],?_⟩;simp only[fzw];replace G:=G.trans d
 go_wp2_with fail
 exact bo1 results62 (rd_pn (by rfl) (blk_setBlk _ _ _ (by rw[q];decide +kernel))) ⟨rfl,gr_setNew G (by omega)⟩
theorem jpt_fin{k:Nat}(h1:1≤k)(h2:k≤15){N X Y:Nat}{s z:Int}{l:Bool}{A B:Fin (pN k)}{X1 Y1 Z1 i1:Fin (pN k)}(hz:eqN 9 Z1.val 0=false)(HI':∀w,Cg 91 #[.int .i64 k,.agg (nw 9 Z1.val)] w (.tuple #[.agg (nw 9 i1.val),.int .i64 0])){p1 p2:Fin (pN k)}(ep1:X1*i1=p1)(ep2:Y1*i1=p2)(w:World):
 Cg 62 #[.agg (cu (k:Int) (pN k) A.val B.val N X Y s z l),.agg (prj X1.val Y1.val Z1.val)] w (.agg (pnt p1.val p2.val false)):=by
 have Q:Hid _:=HI';clear HI';have C:=@jp1 k h1 h2 (pN k) A.val B.val N X Y s z l
 go_enter func62,ntmps62
 go_upto_region 1 with fail
 refine gen_w (fun v=>Hid (Gr w v∧Vr v (w.heap.size) (cu (k:Int) (pN k) A.val B.val N X Y s z l)∧Vr v (w.heap.size+1) (prj X1.val Y1.val Z1.val)∧Vr v (w.heap.size+1+1) (pnt 0 0 false))) ⟨grA,vrA,vrA,vrA⟩ ?_;intro v0 J;obtain⟨G,q,i,x⟩:=J.out;clear J;refine wp_wS [.c (pv (w.heap.size+1) 18),.N Z1.val,.N 0,.F] [1,3] ⟨.g 33 18 i rfl,.s (.binOp .eql 33 (.const (.agg (nw 9 Z1.val))) (.const (.agg (nw 9 0))) 33) rfl fun K d=>by simp[go_sem,exI,eqNat,hz],⟨⟩⟩ fun S v1 d h1=>?_;simp only[fzw];clear h1;replace G:=G.trans d;replace q:=q.gr d;replace i:=i.gr d;replace x:=x.gr d;clear d
 go_upto_region 3 with fail
 refine wp_v false [.c (pv (w.heap.size) 0),.c (pv (w.heap.size) 0),.c (.int .i64 k),.c (pv (w.heap.size+1) 18),.N Z1.val,.E (.agg (nw 9 i1.val)),.E (.agg (nw 9 i1.val)),.N i1.val,.O,.a,.u,.O] [2,4,5] [⟨9,10,33,nw 9 0,fun _=>nw 9 i1.val⟩] ⟨.o 3 0 q rfl (by exact cu_0 _ _ _ _ _ _ _ _ _ _),.g 33 18 i rfl,.z Q.out,⟨⟩⟩ ⟨.k zNat (.t rfl),⟨⟩⟩ fun U v2 d V D=>?_;simp only[fzw,Kw.a];obtain⟨⟨L,j⟩,-⟩:=D;clear V;replace G:=G.trans d;replace q:=q.gr d;replace i:=i.gr d;replace x:=x.gr d
 go_upto_region 4 with fail
 refine wp_wT 13 [.c (.agg (cu (k:Int) (pN k) A.val B.val N X Y s z l)),.c (pv (w.heap.size+1) 0),.N X1.val,.N i1.val,.r 1 (nw 9 i1.val),.N p1.val,.c (.agg (cu (k:Int) (pN k) A.val B.val N X Y s z l)),.c (pv (w.heap.size+1) 9),.N Y1.val,.N i1.val,.r 1 (nw 9 i1.val),.N p2.val,.c (.agg (pnt p1.val p2.val false))] [0,2,3,4,5,6,8,9,10,11] ⟨.g 104 0 q rfl,.g 33 0 i rfl,.g 33 0 j rfl,.r (.buildSlice 170 1 #[(0,.const (.agg (nw 9 i1.val)))]) rfl (rowN1 _),.k _ fun H K d I=>RtW.of_c (Rt.c (C ep1 (I 4 rfl))),.g 104 0 q rfl,.g 33 9 i rfl,.g 33 0 j rfl,.r (.buildSlice 170 1 #[(0,.const (.agg (nw 9 i1.val)))]) rfl (rowN1 _),.k _ fun H K d I=>RtW.of_c (Rt.c (C ep2 (I 10 rfl))),⟨⟩⟩ (.s 35 (fun H=>pv (w.heap.size+1+1) 0) (fun H=>.agg (pnt p1.val p2.val false)) fun W Z d h4=>?_);have P:=(x.gr d).h;have FT:=(x.gr d).f;refine⟨setBlk Z (w.heap.size+1+1) (pnt p1.val p2.val false),by simp[go_sem,exI,P,FT],?_⟩;simp only[fzw,Kw.r];replace G:=G.trans d
 go_wp2_with fail
 exact bo1 results62 (rd_pn (by rfl) (blk_setBlk _ _ _ (by rw[P];decide +kernel))) ⟨rfl,gr_setNew G (by omega)⟩
theorem jholds_0{k:Nat}{N X Y:Nat}{s z:Int}{l:Bool}{A B:Fin (pN k)}(w:World):
 Cg 90 #[.agg (cu (k:Int) (pN k) A.val B.val N X Y s z l),.agg (prj 0 0 0)] w (.bool false):=by
 go_enter func90,ntmps90
 go_upto_region 1 with fail
 refine gen_w (fun v=>Hid (Gr w v∧Vr v (w.heap.size) (cu (k:Int) (pN k) A.val B.val N X Y s z l)∧Vr v (w.heap.size+1) (prj 0 0 0))) ⟨grA,vrA,vrA⟩ ?_;intro j f;obtain⟨G,q,h⟩:=f.out;refine wp_w [.c (.agg (prj 0 0 0)),.c (.agg (prj 0 0 0)),.F,.F,.u,.u,.u,.u,.u,.u,.u,.u,.u,.F,.F,.u,.u,.u,.u,.u,.u,.u,.F,.F] [0,2] ⟨.g 53 0 h rfl,.s (.binOp .neq 53 (.const (.agg (prj 0 0 0))) (.const (.agg (prj 0 0 0))) 53) rfl fun x d=>by simp[go_sem,exI,nePj,eqN_self],⟨⟩⟩ fun i C d D=>?_;simp only[fzw];replace G:=G.trans d
 go_wp2_with fail
 go_ret
 exact⟨rfl,G⟩
theorem jholds_1{k:Nat}{N X Y:Nat}{s z:Int}{l:Bool}{A B:Fin (pN k)}(x y z1:Nat)(hne:(eqN 9 x 0&&(eqN 9 y 0&&eqN 9 z1 0))=false)(HB':∀w q,Vr w q (nw 9 x++nw 9 y++nw 9 z1)→Cg 117 #[.agg (cu (k:Int) (pN k) A.val B.val N X Y s z l),.slice (some ⟨q,0,none⟩) 3 3] w (.bool false))(w:World):
 Cg 90 #[.agg (cu (k:Int) (pN k) A.val B.val N X Y s z l),.agg (prj x y z1)] w (.bool false):=by
 have h:Hid _:=HB'
 go_enter func90,ntmps90
 go_upto_region 1 with fail
 refine gen_w (fun v=>Hid (Gr w v∧Vr v (w.heap.size) (cu (k:Int) (pN k) A.val B.val N X Y s z l)∧Vr v (w.heap.size+1) (prj x y z1))) ⟨grA,vrA,vrA⟩ ?_;intro I i;obtain⟨G,j,d⟩:=i.out;refine wp_w [.c (.agg (prj x y z1)),.c (.agg (prj 0 0 0)),.T,.T,.c (.agg (cu (k:Int) (pN k) A.val B.val N X Y s z l)),.c (pv (w.heap.size+1) 0),.N x,.c (pv (w.heap.size+1) 9),.N y,.c (pv (w.heap.size+1) 18),.N z1,.r 3 (nw 9 x++nw 9 y++nw 9 z1),.F,.F,.F,.u,.u,.u,.u,.u,.u,.u,.F,.F] [0,2,4,6,8,10,11,12] ⟨.g 53 0 d rfl,.s (.binOp .neq 53 (.const (.agg (prj x y z1))) (.const (.agg (prj 0 0 0))) 53) rfl fun C f=>by simp[go_sem,exI,nePj,hne],.g 104 0 j rfl,.g 33 0 d rfl,.g 33 9 d rfl,.g 33 18 d rfl,.r (.buildSlice 170 3 #[(0,.const (.agg (nw 9 x))),(1,.const (.agg (nw 9 y))),(2,.const (.agg (nw 9 z1)))]) rfl (rowN3 _ _ _),.k _ fun J C f D=>RtW.of_c (Rt.c (h.out _ _ (D 11 rfl))),⟨⟩⟩ fun H K f L=>?_;simp only[fzw,Kw.r];replace G:=G.trans f
 go_wp2_with fail
 go_ret
 exact⟨rfl,G⟩
theorem jholds_2{k:Nat}{N X Y:Nat}{s z:Int}{l:Bool}{A B:Fin (pN k)}{X1 Y1 Z1:Fin (pN k)}(L R:Nat)(r:Bool)(hne:(eqN 9 X1.val 0&&(eqN 9 Y1.val 0&&eqN 9 Z1.val 0))=false)(HB':∀w q,Vr w q (nw 9 X1.val++nw 9 Y1.val++nw 9 Z1.val)→Cg 117 #[.agg (cu (k:Int) (pN k) A.val B.val N X Y s z l),.slice (some ⟨q,0,none⟩) 3 3] w (.bool true))(HL':∀w,Cg 118 #[.agg (cu (k:Int) (pN k) A.val B.val N X Y s z l),.agg (prj X1.val Y1.val Z1.val)] w (.agg (nw 9 L)))(HR':∀w,Cg 119 #[.agg (cu (k:Int) (pN k) A.val B.val N X Y s z l),.agg (prj X1.val Y1.val Z1.val)] w (.agg (nw 9 R)))(hr:eqN 9 L R=r)(w:World):
 Cg 90 #[.agg (cu (k:Int) (pN k) A.val B.val N X Y s z l),.agg (prj X1.val Y1.val Z1.val)] w (.bool r):=by
 have j:Hid _:=HB';have x:Hid _:=HL';have C:Hid _:=HR'
 go_enter func90,ntmps90
 go_upto_region 1 with fail
 refine gen_w (fun v=>Hid (Gr w v∧Vr v (w.heap.size) (cu (k:Int) (pN k) A.val B.val N X Y s z l)∧Vr v (w.heap.size+1) (prj X1.val Y1.val Z1.val))) ⟨grA,vrA,vrA⟩ ?_;intro J D;obtain⟨G,h,d⟩:=D.out;refine wp_w [.c (.agg (prj X1.val Y1.val Z1.val)),.c (.agg (prj 0 0 0)),.T,.T,.c (.agg (cu (k:Int) (pN k) A.val B.val N X Y s z l)),.c (pv (w.heap.size+1) 0),.N X1.val,.c (pv (w.heap.size+1) 9),.N Y1.val,.c (pv (w.heap.size+1) 18),.N Z1.val,.r 3 (nw 9 X1.val++nw 9 Y1.val++nw 9 Z1.val),.T,.T,.T,.c (.agg (cu (k:Int) (pN k) A.val B.val N X Y s z l)),.c (.agg (prj X1.val Y1.val Z1.val)),.N L,.c (.agg (cu (k:Int) (pN k) A.val B.val N X Y s z l)),.c (.agg (prj X1.val Y1.val Z1.val)),.N R,.c (.bool r),.c (.bool r),.c (.bool r)] [0,2,4,6,8,10,11,12,15,16,17,18,19,20,21] ⟨.g 53 0 d rfl,.s (.binOp .neq 53 (.const (.agg (prj X1.val Y1.val Z1.val))) (.const (.agg (prj 0 0 0))) 53) rfl fun i f=>by simp[go_sem,exI,nePj,hne],.g 104 0 h rfl,.g 33 0 d rfl,.g 33 9 d rfl,.g 33 18 d rfl,.r (.buildSlice 170 3 #[(0,.const (.agg (nw 9 X1.val))),(1,.const (.agg (nw 9 Y1.val))),(2,.const (.agg (nw 9 Z1.val)))]) rfl (rowN3 _ _ _),.k _ fun K i f H=>RtW.of_c (Rt.c (j.out _ _ (H 11 rfl))),.g 104 0 h rfl,.g 53 0 d rfl,.z x.out,.g 104 0 h rfl,.g 53 0 d rfl,.z C.out,.s (.binOp .eql 33 (.const (.agg (nw 9 L))) (.const (.agg (nw 9 R))) 33) rfl fun i f=>by simp[go_sem,exI,eqNat,hr],⟨⟩⟩ fun I P f Q=>?_;simp only[fzw,Kw.r];replace G:=G.trans f
 go_wp2_with fail
 go_ret
 exact⟨rfl,G⟩
end
end
section
abbrev T3:=Nat×Nat×Nat
def TrQ(k:Nat)(T:T3)(Q:Q3):Prop:=OnQ k Q∧∃(X Y Z:Fin (pN k)),T=(X.val,Y.val,Z.val)∧∀ [NeZero (pN k)],EC.Std X Y Z (decQ (pN k) Q)
theorem TrQ.lt{k:Nat}{T:T3}{Q:Q3}(h:TrQ k T Q):T.1<pN k∧T.2.1<pN k∧T.2.2<pN k:=by
 obtain⟨-,X,Y,Z,rfl,-⟩:=h;simp
theorem TrQ.on{k:Nat}{T:T3}{Q:Q3}(h:TrQ k T Q):OnQ k Q:=h.1
theorem std_one{p:Nat}[NeZero p](hp:Prm p){X Y Z:Fin p}{P Q:Option (Fin p×Fin p)}(h1:EC.Std X Y Z P)(h2:EC.Std X Y Z Q):P=Q:=by
 match P,Q,h1,h2 with
 | none,none,_,_=>rfl
 | none,some (x,y),⟨_,_,c⟩,⟨d,_,_⟩=>exact absurd c d
 | some (x,y),none,⟨d,_,_⟩,⟨_,_,c⟩=>exact absurd c d
 | some (x,y),some (u,v),⟨a,b,c⟩,⟨_,d,e⟩=>
  have f:x=u:=by
   have h:(x-u)*Z=0:=by
    have:(x-u)*Z=x*Z-u*Z:=by clear b c d e;grobner
    rw[this,←b,←d];clear this b c d e;grobner
   rcases EC.nzd hp _ _ h with h|h
   ·exact EC.sub_zero_of h
   ·exact absurd h a
  have i:y=v:=by
   have h:(y-v)*Z=0:=by
    have:(y-v)*Z=y*Z-v*Z:=by clear b c d e;grobner
    rw[this,←c,←e];clear this b c d e;grobner
   rcases EC.nzd hp _ _ h with h|h
   ·exact EC.sub_zero_of h
   ·exact absurd h a
  rw[f,i]
theorem TrQ.one{k:Nat}(h1:1≤k)(h2:k≤15){T:T3}{P Q:Q3}(hP:TrQ k T P)(hQ:TrQ k T Q):P=Q:=by
 haveI:=EC.nzP k h1 h2
 obtain⟨d,X,Y,Z,rfl,f⟩:=hP;obtain⟨h,i,j,q,e,x⟩:=hQ
 grind [Fin.ext,enc_dec,std_one,prm_pN]
def addT(k:Nat)(S T:T3):T3:=
 if h:1≤k∧k≤15 then(haveI:=EC.nzP k h.1 h.2
  ((EC.pX (EC.aF k h.1 h.2) (EC.bF k h.1 h.2) (Fin.ofNat (pN k) S.1) (Fin.ofNat (pN k) S.2.1) (Fin.ofNat (pN k) S.2.2) (Fin.ofNat (pN k) T.1) (Fin.ofNat (pN k) T.2.1) (Fin.ofNat (pN k) T.2.2)).val,
   (EC.pY (EC.aF k h.1 h.2) (EC.bF k h.1 h.2) (Fin.ofNat (pN k) S.1) (Fin.ofNat (pN k) S.2.1) (Fin.ofNat (pN k) S.2.2) (Fin.ofNat (pN k) T.1) (Fin.ofNat (pN k) T.2.1) (Fin.ofNat (pN k) T.2.2)).val,
   (EC.pZ (EC.aF k h.1 h.2) (EC.bF k h.1 h.2) (Fin.ofNat (pN k) S.1) (Fin.ofNat (pN k) S.2.1) (Fin.ofNat (pN k) S.2.2) (Fin.ofNat (pN k) T.1) (Fin.ofNat (pN k) T.2.1) (Fin.ofNat (pN k) T.2.2)).val))
 else(0,0,0)
theorem ofV{p:Nat}[NeZero p](a:Fin p):Fin.ofNat p a.val=a:=Fin.ext (Nat.mod_eq_of_lt a.isLt)
theorem addT_is{k:Nat}(h1:1≤k)(h2:k≤15)[NeZero (pN k)](X1 Y1 Z1 X2 Y2 Z2:Fin (pN k)):addT k (X1.val,Y1.val,Z1.val) (X2.val,Y2.val,Z2.val) =
 ((EC.pX (EC.aF k h1 h2) (EC.bF k h1 h2) X1 Y1 Z1 X2 Y2 Z2).val,(EC.pY (EC.aF k h1 h2) (EC.bF k h1 h2) X1 Y1 Z1 X2 Y2 Z2).val,(EC.pZ (EC.aF k h1 h2) (EC.bF k h1 h2) X1 Y1 Z1 X2 Y2 Z2).val):=by
 unfold addT;rw[dif_pos ⟨h1,h2⟩];simp only[ofV]
theorem addT_tr{k:Nat}(h1:1≤k)(h2:k≤15){S T:T3}{P Q:Q3}(hS:TrQ k S P)(hT:TrQ k T Q):TrQ k (addT k S T) (plQ k P Q):=by
 haveI:=EC.nzP k h1 h2
 obtain⟨d,h,i,j,rfl,q⟩:=hS;obtain⟨f,x,A,B,rfl,C⟩:=hT;refine⟨plQ_on h1 h2 d f,_,_,_,addT_is h1 h2 h i j x A B,fun {_}=>?_⟩;rw[plQ_is h1 h2,dec_enc];exact EC.std_add (EC.curN k h1 h2) (EC.no_two k h1 h2) (on_dec h1 h2 d) (on_dec h1 h2 f) q C
theorem inf_tr{k:Nat}(h1:1≤k)(h2:k≤15){y:Nat}(hy:y<pN k)(h0:0<y):TrQ k (0,y,0) inf:=by
 haveI:=EC.nzP k h1 h2
 refine⟨inf_on k,0,⟨y,hy⟩,0,by rw[Fin.val_zero],fun {_}=>⟨rfl,fun e=>?_,rfl⟩⟩;have:=congrArg Fin.val e;rw[Fin.val_zero]at this;have d:y=0:=this
 omega
theorem one_tr{k:Nat}(h1:1≤k)(h2:k≤15){x y:Nat}(h:OnQ k (x,y,false)):TrQ k (x,y,1) (x,y,false):=by
 haveI:=EC.nzP k h1 h2
 have d:=(prm_pN k h1 h2).1
 rcases h.cases with e|⟨a,b,e,ha,hb,-⟩
 ·cases e
 ·cases e
  refine⟨h,⟨x,ha⟩,⟨y,hb⟩,1,by rw[one_val (by omega)],fun {_}=>?_⟩
  refine⟨fun e=>?_,?_,?_⟩
  ·have:=congrArg Fin.val e;rw[one_val (by omega),Fin.val_zero]at this
   cases this
  ·rw[show Fin.ofNat (pN k) x=⟨x,ha⟩ from Fin.ext (Nat.mod_eq_of_lt ha)];grobner
  ·rw[show Fin.ofNat (pN k) y=⟨y,hb⟩ from Fin.ext (Nat.mod_eq_of_lt hb)];grobner
end
section
attribute [local go_sem ↓] uz1
attribute [local go_sem] uz2
section
attribute [local go_sem] uz7
attribute [local go_sem ↓] uz14 Go.wp_at_zero Go.wp_at_succ
attribute [local go_sem] uz15
def cTl:Code→Code
 | .seq _ b=>b
 | c=>c
def cHd:Code→Code
 | .seq a _=>a
 | c=>c
theorem jadd_end{k:Nat}(h1:1≤k)(h2:k≤15){N X Y:Nat}{s z:Int}{l:Bool}{A B:Fin (pN k)}{xy yz mi pl st fl r1 r2 X3 r3 r4 Y3 r5 r6 Z3:Fin (pN k)}(er1:xy*mi=r1)(er2:yz*fl=r2)(eX3:r1-r2=X3)(er3:pl*mi=r3)(er4:st*fl=r4)(eY3:r3+r4=Y3)(er5:yz*pl=r5)(er6:xy*st=r6)(eZ3:r5+r6=Z3){b0 b1 b2 b3 b4 b5 b6 b7:Nat}{t0 t1 t2 t4 t5 t7 t8 t9 t10 t12 t14 t15 t20 t21 t22 t23 t24 t25 t26 t27 t28 t29 t30 t31 t32 t33 t34 t35 t36 t37 t38 t39 t40 t41 t42 t43 t44 t45 t46 t47 t48 t49 t50 t51 t52 t53 t54 t55 t56 t57 t58 t59 t60 t61 t62 t63 t64 t65 t66 t67 t68 t69 t70 t71 t72 t73 t74 t75 t76 t77 t78 t79 t80 t81 t82 t83 t84 t85 t86 t87 t88 t89 t90 t91 t92 t93 t94 t95 t96 t97 t98 t99 t100 t101 t102 t103 t104 t105 t106 t107 t108 t109 t110 t111 t112 t113 t114 t115 t116 t117 t118 t119 t120 t121 t122 t123 t124 t125 t126 t127 t128 t129 t130 t131 t132 t133 t134 t135 t136 t137 t138 t139 t140 t141 t142 t143 t144 t145 t146 t147 t148 t149 t150 t151 t152 t153 t154 t155 t156 t157 t158 t159 t160 t161 t162 t163 t164 t165 t166 t167 t168 t169 t170 t171 t172 t173 t174 t175 t176 t177 t178 t179 t180 t181 t182 t183 t184 t185 t186 t187 t188 t189 t190 t191 t192 t193 t194 t195 t196 t197 t198:Value}{v:World}{Q:Exit→Act→World→Prop}(c0:Vr v b0 (cu (k:Int) (pN k) A.val B.val N X Y s z l))(c6:Vr v b6 (prj 0 0 0))(Vb1:Vr v b1 (nw 9 xy.val))(Vb2:Vr v b2 (nw 9 yz.val))(Vb3:Vr v b3 (nw 9 mi.val))(Vb4:Vr v b4 (nw 9 pl.val))(Vb5:Vr v b5 (nw 9 st.val))(Vb7:Vr v b7 (nw 9 fl.val))(hQ:∀(a:Act) (v':World),a.tmps.getD 6 undef=.pointer (some ⟨b6,0,none⟩)→a.defers=[]→Gr v v'→blk v' b6=prj 0 0 0→Q .normal a (setBlk v' b6 (prj X3.val Y3.val Z3.val))):
 Code.wp prog (cHd (cTl (cTl (cTl (cTl (cTl (cTl (cTl (cTl (cTl (cTl (cTl (Tryz.f63.body.getD .ret))))))))))))) Q ⟨#[t0,t1,t2,.pointer (some ⟨b0,0,none⟩),t4,t5,.pointer (some ⟨b6,0,none⟩),t7,t8,t9,t10,.pointer (some ⟨b1,0,none⟩),t12,.pointer (some ⟨b2,0,none⟩),t14,t15,.pointer (some ⟨b3,0,none⟩),.pointer (some ⟨b4,0,none⟩),.pointer (some ⟨b5,0,none⟩),.pointer (some ⟨b7,0,none⟩),t20,t21,t22,t23,t24,t25,t26,t27,t28,t29,t30,t31,t32,t33,t34,t35,t36,t37,t38,t39,t40,t41,t42,t43,t44,t45,t46,t47,t48,t49,t50,t51,t52,t53,t54,t55,t56,t57,t58,t59,t60,t61,t62,t63,t64,t65,t66,t67,t68,t69,t70,t71,t72,t73,t74,t75,t76,t77,t78,t79,t80,t81,t82,t83,t84,t85,t86,t87,t88,t89,t90,t91,t92,t93,t94,t95,t96,t97,t98,t99,t100,t101,t102,t103,t104,t105,t106,t107,t108,t109,t110,t111,t112,t113,t114,t115,t116,t117,t118,t119,t120,t121,t122,t123,t124,t125,t126,t127,t128,t129,t130,t131,t132,t133,t134,t135,t136,t137,t138,t139,t140,t141,t142,t143,t144,t145,t146,t147,t148,t149,t150,t151,t152,t153,t154,t155,t156,t157,t158,t159,t160,t161,t162,t163,t164,t165,t166,t167,t168,t169,t170,t171,t172,t173,t174,t175,t176,t177,t178,t179,t180,t181,t182,t183,t184,t185,t186,t187,t188,t189,t190,t191,t192,t193,t194,t195,t196,t197,t198],[]⟩ v:=by
 have J:=@jd k h1 h2 (pN k) A.val B.val N X Y s z l;have j:=@jp1 k h1 h2 (pN k) A.val B.val N X Y s z l;have C:=@js1 k h1 h2 (pN k) A.val B.val N X Y s z l
 conv=>arg 2;whnf
 have G:=Gr.refl v;refine wp_wT 39 [.c (.agg (cu (k:Int) (pN k) A.val B.val N X Y s z l)),.c (.agg (cu (k:Int) (pN k) A.val B.val N X Y s z l)),.N xy.val,.N mi.val,.r 1 (nw 9 mi.val),.N r1.val,.c (.agg (cu (k:Int) (pN k) A.val B.val N X Y s z l)),.N yz.val,.N fl.val,.r 1 (nw 9 fl.val),.N r2.val,.N X3.val,.c (.agg (cu (k:Int) (pN k) A.val B.val N X Y s z l)),.c (.agg (cu (k:Int) (pN k) A.val B.val N X Y s z l)),.N pl.val,.N mi.val,.r 1 (nw 9 mi.val),.N r3.val,.c (.agg (cu (k:Int) (pN k) A.val B.val N X Y s z l)),.N st.val,.N fl.val,.r 1 (nw 9 fl.val),.N r4.val,.r 1 (nw 9 r4.val),.N Y3.val,.c (.agg (cu (k:Int) (pN k) A.val B.val N X Y s z l)),.c (.agg (cu (k:Int) (pN k) A.val B.val N X Y s z l)),.N yz.val,.N pl.val,.r 1 (nw 9 pl.val),.N r5.val,.c (.agg (cu (k:Int) (pN k) A.val B.val N X Y s z l)),.N xy.val,.N st.val,.r 1 (nw 9 st.val),.N r6.val,.r 1 (nw 9 r6.val),.N Z3.val,.c (.agg (prj X3.val Y3.val Z3.val))] [0,1,2,3,4,5,6,7,8,9,10,11,12,13,14,15,16,17,18,19,20,21,22,23,24,25,26,27,28,29,30,31,32,33,34,35,36,37] ?hs27 ?hf27
 case hs27=>
  exact⟨.g 104 0 c0 rfl,.g 104 0 c0 rfl,.g 33 0 Vb1 rfl,.g 33 0 Vb3 rfl,.r (.buildSlice 170 1 #[(0,.const (.agg (nw 9 mi.val)))]) rfl (rowN1 _),.k _ fun q x d i=>RtW.of_c (Rt.c (j er1 (i 4 rfl))),.g 104 0 c0 rfl,.g 33 0 Vb2 rfl,.g 33 0 Vb7 rfl,.r (.buildSlice 170 1 #[(0,.const (.agg (nw 9 fl.val)))]) rfl (rowN1 _),.k _ fun q x d i=>RtW.of_c (Rt.c (j er2 (i 9 rfl))),.z (J eX3),.g 104 0 c0 rfl,.g 104 0 c0 rfl,.g 33 0 Vb4 rfl,.g 33 0 Vb3 rfl,.r (.buildSlice 170 1 #[(0,.const (.agg (nw 9 mi.val)))]) rfl (rowN1 _),.k _ fun q x d i=>RtW.of_c (Rt.c (j er3 (i 16 rfl))),.g 104 0 c0 rfl,.g 33 0 Vb5 rfl,.g 33 0 Vb7 rfl,.r (.buildSlice 170 1 #[(0,.const (.agg (nw 9 fl.val)))]) rfl (rowN1 _),.k _ fun q x d i=>RtW.of_c (Rt.c (j er4 (i 21 rfl))),.r (.buildSlice 170 1 #[(0,.const (.agg (nw 9 r4.val)))]) rfl (rowN1 _),.k _ fun q x d i=>RtW.of_c (Rt.c (C eY3 (i 23 rfl))),.g 104 0 c0 rfl,.g 104 0 c0 rfl,.g 33 0 Vb2 rfl,.g 33 0 Vb4 rfl,.r (.buildSlice 170 1 #[(0,.const (.agg (nw 9 pl.val)))]) rfl (rowN1 _),.k _ fun q x d i=>RtW.of_c (Rt.c (j er5 (i 29 rfl))),.g 104 0 c0 rfl,.g 33 0 Vb1 rfl,.g 33 0 Vb5 rfl,.r (.buildSlice 170 1 #[(0,.const (.agg (nw 9 st.val)))]) rfl (rowN1 _),.k _ fun q x d i=>RtW.of_c (Rt.c (j er6 (i 34 rfl))),.r (.buildSlice 170 1 #[(0,.const (.agg (nw 9 r6.val)))]) rfl (rowN1 _),.k _ fun q x d i=>RtW.of_c (Rt.c (C eZ3 (i 36 rfl))),⟨⟩⟩
 refine .s 53 (fun q=>pv b6 0) (fun q=>.agg (prj X3.val Y3.val Z3.val)) fun H K d D=>?_;have I:=(c6.gr d).h;have L:=(c6.gr d).f;refine⟨setBlk K (b6) (prj X3.val Y3.val Z3.val),by simp[go_sem,exI,I,L],?_⟩;simp only[fzw,Kw.r];clear D;replace G:=G.trans d;replace c0:=c0.gr d;replace c6:=c6.gr d;replace Vb1:=Vb1.gr d;replace Vb2:=Vb2.gr d;replace Vb3:=Vb3.gr d;replace Vb4:=Vb4.gr d;replace Vb5:=Vb5.gr d;replace Vb7:=Vb7.gr d;clear d;exact hQ _ _ rfl rfl G I
theorem jadd_of{k:Nat}(h1:1≤k)(h2:k≤15){N X Y:Nat}{s z:Int}{l:Bool}{A B:Fin (pN k)}{X1 Y1 Z1 X2 Y2 Z2:Fin (pN k)}{b3 xx yv zz p1 p2 xy p3 p4 xz p5 p6 yz az p7 p8 pa mi pl st d1 p9 pt fl r1 r2 X3 r3 r4 Y3 r5 r6 Z3:Fin (pN k)}(eb3:B+B+B=b3)(exx:X1*X2=xx)(eyv:Y1*Y2=yv)(ezz:Z1*Z2=zz)(ep1:X1*Y2=p1)(ep2:X2*Y1=p2)(exy:p1+p2=xy)(ep3:X1*Z2=p3)(ep4:X2*Z1=p4)(exz:p3+p4=xz)(ep5:Y1*Z2=p5)(ep6:Y2*Z1=p6)(eyz:p5+p6=yz)(eaz:A*zz=az)(ep7:A*xz=p7)(ep8:b3*zz=p8)(epa:p7+p8=pa)(emi:yv-pa=mi)(epl:yv+pa=pl)(est:xx+xx+xx+az=st)(ed1:xx-az=d1)(ep9:A*d1=p9)(ept:b3*xz=pt)(efl:p9+pt=fl)(er1:xy*mi=r1)(er2:yz*fl=r2)(eX3:r1-r2=X3)(er3:pl*mi=r3)(er4:st*fl=r4)(eY3:r3+r4=Y3)(er5:yz*pl=r5)(er6:xy*st=r6)(eZ3:r5+r6=Z3)(w:World):
 Cg 63 #[.agg (cu (k:Int) (pN k) A.val B.val N X Y s z l),.agg (prj X1.val Y1.val Z1.val),.agg (prj X2.val Y2.val Z2.val)] w (.agg (prj X3.val Y3.val Z3.val)):=by
 have Jd:=@jd k h1 h2 (pN k) A.val B.val N X Y s z l;have j:=@jp1 k h1 h2 (pN k) A.val B.val N X Y s z l;have aa:=@js1 k h1 h2 (pN k) A.val B.val N X Y s z l;have ax:=@js2 k h1 h2 (pN k) A.val B.val N X Y s z l;have ay:=@js3 k h1 h2 (pN k) A.val B.val N X Y s z l
 go_enter func63,ntmps63
 go_upto_region 1 with fail
 refine gen_w (fun v=>Hid (Gr w v∧Vr v (w.heap.size) (cu (k:Int) (pN k) A.val B.val N X Y s z l)∧Vr v (w.heap.size+1) (prj X1.val Y1.val Z1.val)∧Vr v (w.heap.size+1+1) (prj X2.val Y2.val Z2.val)∧Vr v (w.heap.size+1+1+1) (prj 0 0 0))) ⟨grA,vrA,vrA,vrA,vrA⟩ ?_;intro v0 HV;obtain⟨G,i,c1,c2,c3⟩:=HV.out;clear HV;refine wp_v false [.c (.agg (cu (k:Int) (pN k) A.val B.val N X Y s z l)),.c (pv (w.heap.size) 0),.c (pv (w.heap.size) 19),.N B.val,.c (pv (w.heap.size) 0),.c (pv (w.heap.size) 19),.N B.val,.c (pv (w.heap.size) 0),.c (pv (w.heap.size) 19),.N B.val,.r 2 (nw 9 B.val++nw 9 B.val),.N b3.val,.a,.u] [0,3,6,9,10,11] [⟨12,13,33,nw 9 0,fun _=>nw 9 b3.val⟩] ⟨.g 104 0 i rfl,.g 33 19 i rfl,.g 33 19 i rfl,.g 33 19 i rfl,.r (.buildSlice 170 2 #[(0,.const (.agg (nw 9 B.val))),(1,.const (.agg (nw 9 B.val)))]) rfl (rowN2 _ _),.k _ fun C D d h=>RtW.of_c (Rt.c (ax eb3 (h 10 rfl))),⟨⟩⟩ ⟨.k zNat ⟨fkc,fkc,fkc,fkc,fkc,fkc,fkc,fkc,fkc,fkc,fkr (by simp[nw_size]),fkc,fka,fku,trivial⟩,⟨⟩⟩ fun ai v1 d h1 aA=>?_;simp only[fzw,Kw.a,Kw.r];obtain⟨⟨aB,I⟩,-⟩:(v0.heap.size≤(ai 12 0).2∧Vr v1 (ai 12 0).2 (nw 9 b3.val))∧True:=aA;clear h1;have f:=d;clear d
 go_upto_region 2 with fail
 refine wp_y true [.c (.agg (cu (k:Int) (pN k) A.val B.val N X Y s z l)),.c (pv (w.heap.size+1) 0),.N X1.val,.c (pv (w.heap.size+1+1) 0),.N X2.val,.r 1 (nw 9 X2.val),.N xx.val,.c (.agg (cu (k:Int) (pN k) A.val B.val N X Y s z l)),.c (pv (w.heap.size+1) 9),.N Y1.val,.c (pv (w.heap.size+1+1) 9),.N Y2.val,.r 1 (nw 9 Y2.val),.N yv.val,.c (.agg (cu (k:Int) (pN k) A.val B.val N X Y s z l)),.c (pv (w.heap.size+1) 18),.N Z1.val,.c (pv (w.heap.size+1+1) 18),.N Z2.val,.r 1 (nw 9 Z2.val),.N zz.val,.a,.a,.a,.u,.u,.u] [0,2,4,6,7,9,11,13,14,16,18,20] [5,12,19] [⟨21,24,33,nw 9 0,fun _=>nw 9 xx.val⟩,⟨22,25,33,nw 9 0,fun _=>nw 9 yv.val⟩,⟨23,26,33,nw 9 0,fun _=>nw 9 zz.val⟩] ⟨.g 104 0 (i.gr f) rfl,.g 33 0 (c1.gr f) rfl,.g 33 0 (c2.gr f) rfl,.k _ fun C D d h=>RtW.of_c (Rt.c (j exx (h 5 rfl))),.g 104 0 (i.gr f) rfl,.g 33 9 (c1.gr f) rfl,.g 33 9 (c2.gr f) rfl,.k _ fun C D d h=>RtW.of_c (Rt.c (j eyv (h 12 rfl))),.g 104 0 (i.gr f) rfl,.g 33 18 (c1.gr f) rfl,.g 33 18 (c2.gr f) rfl,.k _ fun C D d h=>RtW.of_c (Rt.c (j ezz (h 19 rfl))),⟨⟩⟩ ⟨.r (.buildSlice 170 1 #[(0,.const (.agg (nw 9 X2.val)))]) rfl (rowN1 _),.r (.buildSlice 170 1 #[(0,.const (.agg (nw 9 Y2.val)))]) rfl (rowN1 _),.r (.buildSlice 170 1 #[(0,.const (.agg (nw 9 Z2.val)))]) rfl (rowN1 _),⟨⟩⟩ ⟨.k zNat,.k zNat,.k zNat,⟨⟩⟩ fun ab v2 d h2 aC=>?_;simp only[fzw,Kw.a,Kw.r];obtain⟨⟨aD,q⟩,⟨aE,J⟩,⟨aG,K⟩,-⟩:(v1.heap.size≤(ab 21 0).2∧Vr v2 (ab 21 0).2 (nw 9 xx.val))∧(v1.heap.size≤(ab 22 0).2∧Vr v2 (ab 22 0).2 (nw 9 yv.val))∧(v1.heap.size≤(ab 23 0).2∧Vr v2 (ab 23 0).2 (nw 9 zz.val))∧True:=aC;clear h2;replace f:=f.trans d;have H:=d;clear d
 go_upto_region 3 with fail
 refine wp_y true [.c (.agg (cu (k:Int) (pN k) A.val B.val N X Y s z l)),.c (.agg (cu (k:Int) (pN k) A.val B.val N X Y s z l)),.c (pv (w.heap.size+1) 0),.N X1.val,.c (pv (w.heap.size+1+1) 9),.N Y2.val,.r 1 (nw 9 Y2.val),.N p1.val,.c (.agg (cu (k:Int) (pN k) A.val B.val N X Y s z l)),.c (pv (w.heap.size+1+1) 0),.N X2.val,.c (pv (w.heap.size+1) 9),.N Y1.val,.r 1 (nw 9 Y1.val),.N p2.val,.r 1 (nw 9 p2.val),.N xy.val,.a,.u] [0,1,3,5,7,8,10,12,14,16] [6,13,15] [⟨17,18,33,nw 9 0,fun _=>nw 9 xy.val⟩] ⟨.g 104 0 (i.gr f) rfl,.g 104 0 (i.gr f) rfl,.g 33 0 (c1.gr f) rfl,.g 33 9 (c2.gr f) rfl,.k _ fun C D d h=>RtW.of_c (Rt.c (j ep1 (h 6 rfl))),.g 104 0 (i.gr f) rfl,.g 33 0 (c2.gr f) rfl,.g 33 9 (c1.gr f) rfl,.k _ fun C D d h=>RtW.of_c (Rt.c (j ep2 (h 13 rfl))),.k _ fun C D d h=>RtW.of_c (Rt.c (aa exy (h 15 rfl))),⟨⟩⟩ ⟨.r (.buildSlice 170 1 #[(0,.const (.agg (nw 9 Y2.val)))]) rfl (rowN1 _),.r (.buildSlice 170 1 #[(0,.const (.agg (nw 9 Y1.val)))]) rfl (rowN1 _),.r (.buildSlice 170 1 #[(0,.const (.agg (nw 9 p2.val)))]) rfl (rowN1 _),⟨⟩⟩ ⟨.k zNat,⟨⟩⟩ fun aj v3 d h3 aH=>?_;simp only[fzw,Kw.a,Kw.r];obtain⟨⟨aI,Q⟩,-⟩:(v2.heap.size≤(aj 17 0).2∧Vr v3 (aj 17 0).2 (nw 9 xy.val))∧True:=aH;clear h3;replace f:=f.trans d;replace H:=H.trans d;have x:=d;clear d
 go_upto_region 4 with fail
 refine wp_y true [.c (.agg (cu (k:Int) (pN k) A.val B.val N X Y s z l)),.c (.agg (cu (k:Int) (pN k) A.val B.val N X Y s z l)),.c (pv (w.heap.size+1) 0),.N X1.val,.c (pv (w.heap.size+1+1) 18),.N Z2.val,.r 1 (nw 9 Z2.val),.N p3.val,.c (.agg (cu (k:Int) (pN k) A.val B.val N X Y s z l)),.c (pv (w.heap.size+1+1) 0),.N X2.val,.c (pv (w.heap.size+1) 18),.N Z1.val,.r 1 (nw 9 Z1.val),.N p4.val,.r 1 (nw 9 p4.val),.N xz.val,.a,.u] [0,1,3,5,7,8,10,12,14,16] [6,13,15] [⟨17,18,33,nw 9 0,fun _=>nw 9 xz.val⟩] ⟨.g 104 0 (i.gr f) rfl,.g 104 0 (i.gr f) rfl,.g 33 0 (c1.gr f) rfl,.g 33 18 (c2.gr f) rfl,.k _ fun C D d h=>RtW.of_c (Rt.c (j ep3 (h 6 rfl))),.g 104 0 (i.gr f) rfl,.g 33 0 (c2.gr f) rfl,.g 33 18 (c1.gr f) rfl,.k _ fun C D d h=>RtW.of_c (Rt.c (j ep4 (h 13 rfl))),.k _ fun C D d h=>RtW.of_c (Rt.c (aa exz (h 15 rfl))),⟨⟩⟩ ⟨.r (.buildSlice 170 1 #[(0,.const (.agg (nw 9 Z2.val)))]) rfl (rowN1 _),.r (.buildSlice 170 1 #[(0,.const (.agg (nw 9 Z1.val)))]) rfl (rowN1 _),.r (.buildSlice 170 1 #[(0,.const (.agg (nw 9 p4.val)))]) rfl (rowN1 _),⟨⟩⟩ ⟨.k zNat,⟨⟩⟩ fun ak v4 d h4 aJ=>?_;simp only[fzw,Kw.a,Kw.r];obtain⟨⟨aK,L⟩,-⟩:(v3.heap.size≤(ak 17 0).2∧Vr v4 (ak 17 0).2 (nw 9 xz.val))∧True:=aJ;clear h4;replace f:=f.trans d;replace H:=H.trans d;replace x:=x.trans d;have V:=d;clear d
 go_upto_region 5 with fail
 refine wp_y true [.c (.agg (cu (k:Int) (pN k) A.val B.val N X Y s z l)),.c (.agg (cu (k:Int) (pN k) A.val B.val N X Y s z l)),.c (pv (w.heap.size+1) 9),.N Y1.val,.c (pv (w.heap.size+1+1) 18),.N Z2.val,.r 1 (nw 9 Z2.val),.N p5.val,.c (.agg (cu (k:Int) (pN k) A.val B.val N X Y s z l)),.c (pv (w.heap.size+1+1) 9),.N Y2.val,.c (pv (w.heap.size+1) 18),.N Z1.val,.r 1 (nw 9 Z1.val),.N p6.val,.r 1 (nw 9 p6.val),.N yz.val,.a,.u] [0,1,3,5,7,8,10,12,14,16] [6,13,15] [⟨17,18,33,nw 9 0,fun _=>nw 9 yz.val⟩] ⟨.g 104 0 (i.gr f) rfl,.g 104 0 (i.gr f) rfl,.g 33 9 (c1.gr f) rfl,.g 33 18 (c2.gr f) rfl,.k _ fun C D d h=>RtW.of_c (Rt.c (j ep5 (h 6 rfl))),.g 104 0 (i.gr f) rfl,.g 33 9 (c2.gr f) rfl,.g 33 18 (c1.gr f) rfl,.k _ fun C D d h=>RtW.of_c (Rt.c (j ep6 (h 13 rfl))),.k _ fun C D d h=>RtW.of_c (Rt.c (aa eyz (h 15 rfl))),⟨⟩⟩ ⟨.r (.buildSlice 170 1 #[(0,.const (.agg (nw 9 Z2.val)))]) rfl (rowN1 _),.r (.buildSlice 170 1 #[(0,.const (.agg (nw 9 Z1.val)))]) rfl (rowN1 _),.r (.buildSlice 170 1 #[(0,.const (.agg (nw 9 p6.val)))]) rfl (rowN1 _),⟨⟩⟩ ⟨.k zNat,⟨⟩⟩ fun ao v5 d h5 aL=>?_;simp only[fzw,Kw.a,Kw.r];obtain⟨⟨aM,S⟩,-⟩:(v4.heap.size≤(ao 17 0).2∧Vr v5 (ao 17 0).2 (nw 9 yz.val))∧True:=aL;clear h5;replace f:=f.trans d;replace H:=H.trans d;replace x:=x.trans d;replace V:=V.trans d;have W:=d;clear d
 go_upto_region 6 with fail
 refine wp_y false [.c (.agg (cu (k:Int) (pN k) A.val B.val N X Y s z l)),.c (pv (w.heap.size) 0),.c (pv (w.heap.size) 10),.N A.val,.N zz.val,.r 1 (nw 9 zz.val),.N az.val,.a,.u] [0,3,4,6] [5] [⟨7,8,33,nw 9 0,fun _=>nw 9 az.val⟩] ⟨.g 104 0 (i.gr f) rfl,.g 33 10 (i.gr f) rfl,.g 33 0 (K.gr x) rfl,.k _ fun C D d h=>RtW.of_c (Rt.c (j eaz (h 5 rfl))),⟨⟩⟩ ⟨.r (.buildSlice 170 1 #[(0,.const (.agg (nw 9 zz.val)))]) rfl (rowN1 _),⟨⟩⟩ ⟨.k zNat,⟨⟩⟩ fun ap v6 d h6 aO=>?_;simp only[fzw,Kw.a,Kw.r];obtain⟨⟨aW,Z⟩,-⟩:(v5.heap.size≤(ap 7 0).2∧Vr v6 (ap 7 0).2 (nw 9 az.val))∧True:=aO;clear h6;replace f:=f.trans d;replace H:=H.trans d;replace x:=x.trans d;replace V:=V.trans d;replace W:=W.trans d;have g6:=d;clear d
 go_upto_region 7 with fail
 refine wp_y true [.c (.agg (cu (k:Int) (pN k) A.val B.val N X Y s z l)),.c (.agg (cu (k:Int) (pN k) A.val B.val N X Y s z l)),.c (pv (w.heap.size) 0),.c (pv (w.heap.size) 10),.N A.val,.N xz.val,.r 1 (nw 9 xz.val),.N p7.val,.c (.agg (cu (k:Int) (pN k) A.val B.val N X Y s z l)),.N b3.val,.N zz.val,.r 1 (nw 9 zz.val),.N p8.val,.r 1 (nw 9 p8.val),.N pa.val,.a,.u] [0,1,4,5,7,8,9,10,12,14] [6,11,13] [⟨15,16,33,nw 9 0,fun _=>nw 9 pa.val⟩] ⟨.g 104 0 (i.gr f) rfl,.g 104 0 (i.gr f) rfl,.g 33 10 (i.gr f) rfl,.g 33 0 (L.gr W) rfl,.k _ fun C D d h=>RtW.of_c (Rt.c (j ep7 (h 6 rfl))),.g 104 0 (i.gr f) rfl,.g 33 0 (I.gr H) rfl,.g 33 0 (K.gr x) rfl,.k _ fun C D d h=>RtW.of_c (Rt.c (j ep8 (h 11 rfl))),.k _ fun C D d h=>RtW.of_c (Rt.c (aa epa (h 13 rfl))),⟨⟩⟩ ⟨.r (.buildSlice 170 1 #[(0,.const (.agg (nw 9 xz.val)))]) rfl (rowN1 _),.r (.buildSlice 170 1 #[(0,.const (.agg (nw 9 zz.val)))]) rfl (rowN1 _),.r (.buildSlice 170 1 #[(0,.const (.agg (nw 9 p8.val)))]) rfl (rowN1 _),⟨⟩⟩ ⟨.k zNat,⟨⟩⟩ fun aq v7 d h7 aP=>?_;simp only[fzw,Kw.a,Kw.r];obtain⟨⟨aQ,P⟩,-⟩:(v6.heap.size≤(aq 15 0).2∧Vr v7 (aq 15 0).2 (nw 9 pa.val))∧True:=aP;clear h7;replace f:=f.trans d;replace H:=H.trans d;replace x:=x.trans d;replace V:=V.trans d;replace W:=W.trans d;replace g6:=g6.trans d;have g7:=d;clear d
 go_upto_region 8 with fail
 refine wp_y true [.c (.agg (cu (k:Int) (pN k) A.val B.val N X Y s z l)),.N yv.val,.N pa.val,.N mi.val,.c (.agg (cu (k:Int) (pN k) A.val B.val N X Y s z l)),.N yv.val,.N pa.val,.r 1 (nw 9 pa.val),.N pl.val,.a,.a,.u,.u] [0,1,2,3,4,5,6,8] [7] [⟨9,11,33,nw 9 0,fun _=>nw 9 mi.val⟩,⟨10,12,33,nw 9 0,fun _=>nw 9 pl.val⟩] ⟨.g 104 0 (i.gr f) rfl,.g 33 0 (J.gr x) rfl,.g 33 0 P rfl,.z (Jd emi),.g 104 0 (i.gr f) rfl,.g 33 0 (J.gr x) rfl,.g 33 0 P rfl,.k _ fun C D d h=>RtW.of_c (Rt.c (aa epl (h 7 rfl))),⟨⟩⟩ ⟨.r (.buildSlice 170 1 #[(0,.const (.agg (nw 9 pa.val)))]) rfl (rowN1 _),⟨⟩⟩ ⟨.k zNat,.k zNat,⟨⟩⟩ fun af v8 d h8 aR=>?_;simp only[fzw,Kw.a,Kw.r];obtain⟨⟨a0,ac⟩,⟨aS,U⟩,-⟩:(v7.heap.size≤(af 9 0).2∧Vr v8 (af 9 0).2 (nw 9 mi.val))∧(v7.heap.size≤(af 10 0).2∧Vr v8 (af 10 0).2 (nw 9 pl.val))∧True:=aR;clear h8;replace f:=f.trans d;replace H:=H.trans d;replace x:=x.trans d;replace V:=V.trans d;replace W:=W.trans d;replace g6:=g6.trans d;replace g7:=g7.trans d;have g8:=d;clear d
 go_upto_region 9 with fail
 refine wp_v false [.c (.agg (cu (k:Int) (pN k) A.val B.val N X Y s z l)),.N xx.val,.N xx.val,.N xx.val,.N az.val,.r 3 (nw 9 xx.val++nw 9 xx.val++nw 9 az.val),.N st.val,.a,.u] [0,1,2,3,4,5,6] [⟨7,8,33,nw 9 0,fun _=>nw 9 st.val⟩] ⟨.g 104 0 (i.gr f) rfl,.g 33 0 (q.gr x) rfl,.g 33 0 (q.gr x) rfl,.g 33 0 (q.gr x) rfl,.g 33 0 (Z.gr g7) rfl,.r (.buildSlice 170 3 #[(0,.const (.agg (nw 9 xx.val))),(1,.const (.agg (nw 9 xx.val))),(2,.const (.agg (nw 9 az.val)))]) rfl (rowN3 _ _ _),.k _ fun C D d h=>RtW.of_c (Rt.c (ay est (h 5 rfl))),⟨⟩⟩ ⟨.k zNat ⟨fkc,fkc,fkc,fkc,fkc,fkr (by simp[nw_size]),fkc,fka,fku,trivial⟩,⟨⟩⟩ fun ar v9 d h9 aT=>?_;simp only[fzw,Kw.a,Kw.r];obtain⟨⟨a1,ae⟩,-⟩:(v8.heap.size≤(ar 7 0).2∧Vr v9 (ar 7 0).2 (nw 9 st.val))∧True:=aT;clear h9;replace f:=f.trans d;replace H:=H.trans d;replace x:=x.trans d;replace V:=V.trans d;replace W:=W.trans d;replace g6:=g6.trans d;replace g7:=g7.trans d;replace g8:=g8.trans d;have g9:=d;clear d
 go_upto_region 10 with fail
 refine wp_y true [.c (.agg (cu (k:Int) (pN k) A.val B.val N X Y s z l)),.c (.agg (cu (k:Int) (pN k) A.val B.val N X Y s z l)),.c (pv (w.heap.size) 0),.c (pv (w.heap.size) 10),.N A.val,.c (.agg (cu (k:Int) (pN k) A.val B.val N X Y s z l)),.N xx.val,.N az.val,.N d1.val,.r 1 (nw 9 d1.val),.N p9.val,.c (.agg (cu (k:Int) (pN k) A.val B.val N X Y s z l)),.N b3.val,.N xz.val,.r 1 (nw 9 xz.val),.N pt.val,.r 1 (nw 9 pt.val),.N fl.val,.a,.u] [0,1,4,5,6,7,8,10,11,12,13,15,17] [9,14,16] [⟨18,19,33,nw 9 0,fun _=>nw 9 fl.val⟩] ⟨.g 104 0 (i.gr f) rfl,.g 104 0 (i.gr f) rfl,.g 33 10 (i.gr f) rfl,.g 104 0 (i.gr f) rfl,.g 33 0 (q.gr x) rfl,.g 33 0 (Z.gr g7) rfl,.z (Jd ed1),.k _ fun C D d h=>RtW.of_c (Rt.c (j ep9 (h 9 rfl))),.g 104 0 (i.gr f) rfl,.g 33 0 (I.gr H) rfl,.g 33 0 (L.gr W) rfl,.k _ fun C D d h=>RtW.of_c (Rt.c (j ept (h 14 rfl))),.k _ fun C D d h=>RtW.of_c (Rt.c (aa efl (h 16 rfl))),⟨⟩⟩ ⟨.r (.buildSlice 170 1 #[(0,.const (.agg (nw 9 d1.val)))]) rfl (rowN1 _),.r (.buildSlice 170 1 #[(0,.const (.agg (nw 9 xz.val)))]) rfl (rowN1 _),.r (.buildSlice 170 1 #[(0,.const (.agg (nw 9 pt.val)))]) rfl (rowN1 _),⟨⟩⟩ ⟨.k zNat,⟨⟩⟩ fun ah aU d aV au=>?_;simp only[fzw,Kw.a,Kw.r];obtain⟨⟨aw,ag⟩,-⟩:(v9.heap.size≤(ah 18 0).2∧Vr aU (ah 18 0).2 (nw 9 fl.val))∧True:=au;clear aV;replace f:=f.trans d;replace H:=H.trans d;replace x:=x.trans d;replace V:=V.trans d;replace W:=W.trans d;replace g6:=g6.trans d;replace g7:=g7.trans d;replace g8:=g8.trans d;replace g9:=g9.trans d;have av:=d;clear d;replace G:=G.trans f;replace i:=i.gr f;replace c1:=c1.gr f;replace c2:=c2.gr f;replace c3:=c3.gr f;replace I:=I.gr H;replace q:=q.gr x;replace J:=J.gr x;replace K:=K.gr x;replace Q:=Q.gr V;replace L:=L.gr W;replace S:=S.gr g6;replace Z:=Z.gr g7;replace P:=P.gr g8;replace ac:=ac.gr g9;replace U:=U.gr g9;replace ae:=ae.gr av;clear f av H x V W g6 g7 g8 g9
 go_upto_region 11 with fail
 refine jadd_end h1 h2 er1 er2 eX3 er3 er4 eY3 er5 er6 eZ3 i c3 Q S ac U ae ag ?_;intro a v' h6 hd d hb
 go_wp2_with fail
 exact bodyPost_ret (res_one results63 (rd_pj h6 (blk_setBlk _ _ _ (by rw[hb];decide +kernel)))) hd ⟨rfl,gr_setNew (G.trans d) (by omega)⟩
end
end
section
namespace EC
section
variable {p:Nat} [NeZero p] {i:Fin p→Fin p} {A B:Fin p}
def Tri(A B X Y Z:Fin p):Prop:=¬(X=0∧Y=0∧Z=0)∧Y*Y*Z=X*X*X+A*X*(Z*Z)+B*(Z*Z*Z)
theorem std_tri{X Y Z:Fin p}{Q:Option (Fin p×Fin p)}(hQ:On A B Q)(s:Std X Y Z Q):Tri A B X Y Z:=by
 match Q,hQ,s with
 | none,_,⟨a,b,c⟩=>
  subst a c;exact⟨fun h=>b h.2.1,by clear b hQ s;grobner⟩
 | some (x,y),hQ,⟨a,b,c⟩=>
  subst b c;refine⟨fun h=>a h.2.2,?_⟩
  have e:y*Z*(y*Z)*Z=y*y*(Z*Z*Z):=by clear hQ s a;grobner
  rw[e,show y*y=_ from hQ]
  grobner
theorem tri_std(C:Cur i A B){X Y Z:Fin p}(h:Tri A B X Y Z):On A B (if Z=0 then none else some (X*i Z,Y*i Z))∧Std X Y Z (if Z=0 then none else some (X*i Z,Y*i Z)):=by
 obtain⟨q,d⟩:=h
 by_cases hz:Z=0
 ·subst hz;rw[if_pos rfl]
  have G:X*X*X=0:=by
   have e:X*X*X=X*X*X+A*X*(0*0)+B*(0*0*0):=by clear d;grobner
   rw[e,←d];clear e d;grobner
  have f:X=0:=by
   rcases nzd C.pr _ _ G with h|h
   ·rcases nzd C.pr _ _ h with h|h <;> exact h
   ·exact h
  exact⟨trivial,f,fun H=>q ⟨f,H,rfl⟩,rfl⟩
 ·rw[if_neg hz];have x:=C.inv Z hz
  refine⟨?_,hz,?_,?_⟩
  ·show Y*i Z*(Y*i Z)=X*i Z*(X*i Z)*(X*i Z)+A*(X*i Z)+B
   generalize i Z=j at *
   have D:Y*j*(Y*j)=Y*Y*Z*(j*j*j)+Y*Y*(j*j)*(1-j*Z):=by clear q d x;grobner
   have I:X*j*(X*j)*(X*j)+A*(X*j)+B=(X*X*X+A*X*(Z*Z)+B*(Z*Z*Z))*(j*j*j)+A*X*j*(1-j*Z*(j*Z))+B*(1-j*Z*(j*Z)*(j*Z)):=by clear q d x D;grobner
   rw[D,I,x,d]
   grobner
  ·grind
  ·grind
end
end EC
def ivN(k z:Nat):Nat:=z^(pN k-2)%pN k
def ptT(k:Nat)(T:T3):Q3:=if T.2.2=0 then inf else(T.1*ivN k T.2.2%pN k,T.2.1*ivN k T.2.2%pN k,false)
section
variable {k:Nat} (h1:1≤k) (h2:k≤15) [NeZero (pN k)]
theorem ptT_is(X Y Z:Fin (pN k)):ptT k (X.val,Y.val,Z.val)=encQ (if Z=0 then none else some (X*EC.iP (pN k) Z,Y*EC.iP (pN k) Z)):=by
 unfold ptT
 by_cases hz:Z=0
 ·subst hz;rw[if_pos (Fin.val_zero _),if_pos rfl]
  rfl
 ·have d:¬Z.val=0:=fun e=>hz (Fin.ext (e.trans (Fin.val_zero _).symm));rw[if_neg d,if_neg hz];rw[Prod.mk.injEq,Prod.mk.injEq];exact⟨(Fin.val_mul X (EC.iP (pN k) Z)).symm,(Fin.val_mul Y (EC.iP (pN k) Z)).symm,rfl⟩
theorem tr_tri{X Y Z:Fin (pN k)}{Q:Q3}(h:TrQ k (X.val,Y.val,Z.val) Q):EC.Tri (EC.aF k h1 h2) (EC.bF k h1 h2) X Y Z:=by
 obtain⟨o,j,q,x,e,s⟩:=h;simp only[Prod.mk.injEq]at e;obtain⟨d,f,i⟩:=e;rw[Fin.ext d,Fin.ext f,Fin.ext i];exact EC.std_tri (on_dec h1 h2 o) s
theorem tri_tr{X Y Z:Fin (pN k)}(h:EC.Tri (EC.aF k h1 h2) (EC.bF k h1 h2) X Y Z):TrQ k (X.val,Y.val,Z.val) (ptT k (X.val,Y.val,Z.val)):=by
 obtain⟨o,s⟩:=EC.tri_std (EC.curN k h1 h2) h;rw[ptT_is];refine⟨on_enc h1 h2 o,X,Y,Z,rfl,fun {_}=>?_⟩;rw[dec_enc];exact s
end
theorem TrQ.pt{k:Nat}(h1:1≤k)(h2:k≤15){T:T3}{Q:Q3}(h:TrQ k T Q):ptT k T=Q:=by
 haveI:=EC.nzP k h1 h2
 have d:=h;obtain⟨-,X,Y,Z,rfl,-⟩:=d;exact TrQ.one h1 h2 (tri_tr h1 h2 (tr_tri h1 h2 h)) h
end
end Go.Proofs.YtffhepbppiocbabGreat