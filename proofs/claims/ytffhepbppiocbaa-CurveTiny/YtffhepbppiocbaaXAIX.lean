import Derived.Test.YtffhepbppiocbaaXACF
import Derived.Test.YtffhepbppiocbaaXARShr0
namespace Go.Proofs.Ytffhepbppiocbaa
open Go.RowKit Go.Proofs.Try
set_option maxRecDepth 100000
set_option maxHeartbeats 8000000
section
attribute [local go_sem ↓] uz1
attribute [local go_sem] uz2
section
attribute [local go_sem] uz7
attribute [local go_sem ↓] zvCu_is zvEq_is storeCu_is storeEq_is loadCu_is loadEq_is loadPn_is buildCu_is buildEq_is buildPn_is Go.wp_at_zero Go.wp_at_succ
attribute [local go_sem] zvCu zvEq storeCu storeEq loadCu loadEq loadPn cu_size pnt_size frz_setBlk blk_setBlk setBlk_setBlk blk_other
theorem on13_no(x:Int)(h:x<1∨15<x)(a b:Nat)(f:Bool)(w:World):Cg 16 #[.int .i64 x,.agg (pnt a b f)] w (.bool false):=by
 have d:Hid _:=find_no x h
 go_enter func16,ntmps16
 go_wp2_with (go_at_call 35;refine hkA d fun g=>?_)
 go_ret
 exact⟨rfl,grA⟩
theorem on13_of(k id:Int)(P A B N X Y:Nat)(s z:Int)(l:Bool)(x y:Nat)(f r:Bool)(HF':∀w,Cg 35 #[.int .i64 k] w (.tuple #[.agg (cu id P A B N X Y s z l),.bool true]))(HH':∀w,Cg 41 #[.agg (cu id P A B N X Y s z l),.agg (pnt x y f)] w (.bool r))(w:World):
 Cg 16 #[.int .i64 k,.agg (pnt x y f)] w (.bool r):=by
 have d:Hid _:=HF';have h:Hid _:=HH'
 go_enter func16,ntmps16
 go_wp2_with (first
  | (go_at_call 35;refine hkA d fun g=>?_)
  | (go_at_call 41;refine hkA h fun i=>?_))
 go_ret
 exact⟨rfl,grA⟩
def rhN(i x:Nat):Nat:=((x*x%pN i+aN i)%pN i*x%pN i+bN i)%pN i
def onB(i x y:Nat)(f:Bool):Bool:=if f then decide (x=0)&&decide (y=0) else decide (x<pN i)&&(decide (y<pN i)&&decide (y*y%pN i=rhN i x))
theorem aN_lt(i:Nat)(h1:1≤i)(h2:i≤15):aN i<pN i:=by
 obtain rfl|rfl|rfl|rfl|rfl|rfl|rfl|rfl|rfl|rfl|rfl|rfl|rfl|rfl|rfl:i=1∨i=2∨i=3∨i=4∨i=5∨i=6∨i=7∨i=8∨i=9∨i=10∨i=11∨i=12∨i=13∨i=14∨i=15:=by omega
 all_goals decide +kernel
theorem bN_lt(i:Nat)(h1:1≤i)(h2:i≤15):bN i<pN i:=by
 obtain rfl|rfl|rfl|rfl|rfl|rfl|rfl|rfl|rfl|rfl|rfl|rfl|rfl|rfl|rfl:i=1∨i=2∨i=3∨i=4∨i=5∨i=6∨i=7∨i=8∨i=9∨i=10∨i=11∨i=12∨i=13∨i=14∨i=15:=by omega
 all_goals decide +kernel
theorem xN_lt(i:Nat)(h1:1≤i)(h2:i≤15):xN i<pN i:=by
 obtain rfl|rfl|rfl|rfl|rfl|rfl|rfl|rfl|rfl|rfl|rfl|rfl|rfl|rfl|rfl:i=1∨i=2∨i=3∨i=4∨i=5∨i=6∨i=7∨i=8∨i=9∨i=10∨i=11∨i=12∨i=13∨i=14∨i=15:=by omega
 all_goals decide +kernel
theorem yN_lt(i:Nat)(h1:1≤i)(h2:i≤15):yN i<pN i∧0<yN i:=by
 obtain rfl|rfl|rfl|rfl|rfl|rfl|rfl|rfl|rfl|rfl|rfl|rfl|rfl|rfl|rfl:i=1∨i=2∨i=3∨i=4∨i=5∨i=6∨i=7∨i=8∨i=9∨i=10∨i=11∨i=12∨i=13∨i=14∨i=15:=by omega
 all_goals decide +kernel
theorem gN_on(i:Nat)(h1:1≤i)(h2:i≤15):onB i (xN i) (yN i) false=true:=by
 obtain rfl|rfl|rfl|rfl|rfl|rfl|rfl|rfl|rfl|rfl|rfl|rfl|rfl|rfl|rfl:i=1∨i=2∨i=3∨i=4∨i=5∨i=6∨i=7∨i=8∨i=9∨i=10∨i=11∨i=12∨i=13∨i=14∨i=15:=by omega
 all_goals decide +kernel
theorem on13_yes(i:Nat)(h1:1≤i)(h2:i≤15)(x y:Nat)(f:Bool)(hx:x<M)(hy:y<M)(w:World):
 Cg 16 #[.int .i64 i,.agg (pnt x y f)] w (.bool (onB i x y f)):=by
 have l:=pN_bd i h1 h2;refine on13_of i _ _ _ _ _ _ _ _ _ _ x y f _ (find_yes i h1 h2) (fun w=>?_) w
 cases f with
 | true=>
  have:=holds_inf (i:Int) (pN i) (aN i) (bN i) (oN i) (xN i) (yN i) (bl (oN i)) (szN i) (lgN i) x y w;rw[eqN9 x 0 hx (by omega),eqN9 y 0 hy (by omega),Bool.and_true]at this;exact this
 | false=>
  have d:∀z,rhN i z<M:=fun z=>by have:rhN i z<pN i:=Nat.mod_lt _ (by omega);omega
  have j:y*y%pN i<M:=by have:y*y%pN i<pN i:=Nat.mod_lt _ (by omega);omega
  have:=holds_of (i:Int) (pN i) (aN i) (bN i) (oN i) (xN i) (yN i) (bl (oN i)) (szN i) (lgN i) x y (y*y%pN i) (rhN i x) (decide (x<pN i)) (decide (y<pN i))
   (fun w=>below13_any _ _ _ _ _ _ _ _ _ _ x _ (by omega) hx rfl w) (fun w=>below13_any _ _ _ _ _ _ _ _ _ _ y _ (by omega) hy rfl w)
   (fun _ h w=>left13_of _ _ _ _ _ _ _ _ _ _ y _ (fun w=>fMul_ok i y y h1 h2 (of_decide_eq_true h) (of_decide_eq_true h) w) w)
   (fun h _ w=>cubic_of _ _ _ _ _ _ _ _ _ _ x _ _ _ _ (fun w=>fMul_ok i x x h1 h2 (of_decide_eq_true h) (of_decide_eq_true h) w)
    (fun w=>fAdd_ok i _ _ h1 h2 (Nat.mod_lt _ (by omega)) (aN_lt i h1 h2) w) (fun w=>fMul_ok i _ _ h1 h2 (Nat.mod_lt _ (by omega)) (of_decide_eq_true h) w)
    (fun w=>fAdd_ok i _ _ h1 h2 (Nat.mod_lt _ (by omega)) (bN_lt i h1 h2) w) w) w
  rw[eqN9 _ _ j (d x)]at this;exact this
end
section
def hexN(l:List UInt8):Nat:=l.foldl (fun a c=>a*16+hexD c.toNat) 0
theorem hexN_snoc(l:List UInt8)(c:UInt8):hexN (l++[c])=hexN l*16+hexD c.toNat:=by
 unfold hexN;simp
theorem hexN_lt:∀(n:Nat) (l:List UInt8),l.length=n→(∀c∈l,hexOk c.toNat=true)→hexN l<2^(4*n)
 | 0,l,h,_=>by rw[List.length_eq_zero_iff.1 h];exact Nat.one_pos
 | n+1,l,h,hc=>by
  have hne:l≠[]:=fun e=>by rw[e]at h;cases h
  have e:=List.dropLast_concat_getLast hne
  have d:l.dropLast.length=n:=by rw[List.length_dropLast];omega
  have j:=hexN_lt n l.dropLast d (fun c f=>hc c (List.dropLast_subset l f));have q:=hexD_lt _ (hc (l.getLast hne) (List.getLast_mem hne));rw[←e,hexN_snoc,show 4*(n+1)=4*n+4 by omega,Nat.pow_add];have i:(2:Nat)^4=16:=rfl;rw[i]
  omega
theorem hpow32(k:Nat)(hk:k≤32):2^(32-k)*2^k=4294967296:=by
 rw[←Nat.pow_add,show 32-k+k=32 by omega]
theorem hex_step(X P d:Nat):(X*16+d)*2^(4*P)=X*2^(4*(P+1))+d*2^(4*P):=by
 grind
theorem hex_place(b q r:Nat):b*2^(4*(8*q+r))=b*2^(4*r)*pq q:=by
 unfold pq
 grind
theorem hex_dg(X q r:Nat)(hr:r<8):dg (X*2^(4*(8*q+r+1))) q=(X%2^(32-4*(r+1)))*2^(4*(r+1)):=by
 unfold dg pq;rw[show 4*(8*q+r+1)=4*(r+1)+32*q from by omega,Nat.pow_add,←Nat.mul_assoc,Nat.mul_div_cancel _ (Nat.two_pow_pos _),←hpow32 (4*(r+1)) (by omega),Nat.mul_mod_mul_right]
theorem hexd_lt(b r:Nat)(hb:b<16):b*2^(4*r)<2^(4*(r+1)):=by
 rw[show 4*(r+1)=4+4*r from by omega,Nat.pow_add];exact Nat.mul_lt_mul_of_pos_right hb (Nat.two_pow_pos _)
theorem hex_lt(X q r b:Nat)(hr:r<8)(hb:b<16):dg (X*2^(4*(8*q+r+1))) q+b*2^(4*r)<4294967296:=by
 have h:=hexd_lt b r hb;rw[hex_dg X q r hr,←hpow32 (4*(r+1)) (by omega)];have d:=Nat.mod_lt X (Nat.two_pow_pos (32-4*(r+1)));have f:(X%2^(32-4*(r+1))+1)*2^(4*(r+1))≤2^(32-4*(r+1))*2^(4*(r+1)):=Nat.mul_le_mul_right _ d;rw[Nat.add_mul]at f
 omega
theorem hex_set(N X q r b:Nat)(hr:r<8)(hb:b<16):
 (nd N (X*2^(4*(8*q+r+1)))).setIfInBounds q (Value.int .u32 ((dg (X*2^(4*(8*q+r+1))) q+b*2^(4*r):Nat):Int))=nd N ((X*16+b)*2^(4*(8*q+r))):=by
 rw[nd_dset N _ q _ (hex_lt X q r b hr hb),hex_step,hex_place];have d:=dparts (X*2^(4*(8*q+r+1))) q;generalize X*2^(4*(8*q+r+1))=V at *;refine congrArg (nd N) ?_;unfold dset;rw[Nat.add_mul];generalize V/pq (q+1)*pq (q+1)=z at *;generalize b*2^(4*r)*pq q=y at *;generalize dg V q*pq q=t at *
 omega
theorem hex_round(N X q r d t V:Nat)(hr:r<8)(hb:d<16)(ht:t=4*r)(hV:V=X*2^(4*(8*q+r+1))):
 ∃y o:Nat,IntKind.u32.wrap ((d:Int)*2^t)=(y:Int)∧bits BinOp.or IntKind.u32 ((dg V q:Nat):Int) (y:Int)=o ∧
  (nd N V).setIfInBounds q (Value.int .u32 o)=nd N ((X*16+d)*2^(4*(8*q+r))):=by
 subst ht hV;have f:=hexd_lt d r hb
 have h:2^(4*(r+1))≤4294967296:=by
  rw[←hpow32 (4*(r+1)) (by omega)];exact Nat.le_mul_of_pos_left _ (Nat.two_pow_pos _)
 refine⟨d*2^(4*r),dg (X*2^(4*(8*q+r+1))) q+d*2^(4*r),?_,?_,hex_set N X q r d hr hb⟩
 ·rw[IntKind.wrap_u32,int_pow,←Int.natCast_mul];generalize d*2^(4*r)=y at *
  omega
 ·rw[bits_or32 _ _ (dg_lt _ _) (by omega),hex_dg X q r hr,or_add _ _ _ f]
theorem rhex_any(s:ByteArray)(hs:s.size≤1000)(hc:∀c∈s.data.toList,hexOk c.toNat=true)(w:World):Calls prog 37 #[.string s] w (Nm (hexN s.data.toList) w):=by
 have h:(s.size:Int)≤1000:=by omega
 obtain⟨m,hm⟩:=exl (s.size/8);obtain⟨N,hN⟩:=exl (m+1)
 have HB:Hu (hexN s.data.toList<pq N):=fun _=>by
  have hl:s.data.toList.length=s.size:=by simp
  refine Nat.lt_of_lt_of_le (hexN_lt _ _ hl hc) ?_;unfold pq;exact Nat.pow_le_pow_right (by decide) (by omega)
 have HC:Hu (∀k (h:k<s.size),hexOk s[k].toNat=true):=fun _ k h=>hc _ (by
  have:s[k]=s.data.toList[k]'(by simpa using h):=rfl;rw[this]
  exact List.getElem_mem _)
 have m1:(s.size:Int)/8=(m:Int):=by omega
 have m2:(m:Int)+1=N:=by omega
 have HM:Hu (s.size<8*N):=fun _=>by omega
 have n0:(0:Int)≤(s.size:Int):=by omega
 have mb:(m:Int)≤200:=by omega
 have kb:Hu (0<N∧N≤50000):=fun _=>by omega
 have U:∀w,(Instr.makeSlice 34 (.int .i64 N) (.int .i64 N)).run prog w=.ok (.slice (some ⟨w.heap.size,0,none⟩) N N) (w.alloc (.cells (nd N 0) 55)):=fun w=>make_digits N (by omega) w;clear hm hN hc
 go_enter func37,ntmps37
 go_wp2
 clear U
 go_loopw [4,5] (fun i _ wr=>∃k X:Nat,k≤s.size∧i=.int .i64 k∧Hu (hexN (s.data.toList.take k)=X)∧Hid (Gr w wr∧blk wr w.heap.size=nd N (X*2^(4*(s.size-k)))∧frz wr w.heap.size=(0,0)∧Pre (w.heap.size+1) wr.heap.size)) (fun i _ _=>s.size-(intOf i).toNat)
 case atStart=>exact⟨0,0,by omega,rfl,fun _=>rfl,grA,by simp[go_sem],by simp[go_sem],by simp[go_sem]⟩
 case round=>
  obtain⟨k,X,hk,rfl,HX,Q⟩:=hrel
  by_cases hlt:k<s.size
  ·obtain⟨P,hP⟩:∃P,s.size=k+(P+1):=⟨s.size-k-1,by omega⟩;obtain⟨q,r,hq,hr⟩:∃q r,P=8*q+r∧r<8:=⟨P/8,P%8,by omega,by omega⟩;obtain⟨t,ht⟩:∃t,t=4*r:=⟨_,rfl⟩
   have e1:(s.size:Int)-1-(k:Int)=P:=by omega
   have e2:(P:Int)/8=q:=by omega
   have e3:(P:Int)%8=r:=by omega
   have e4:(r:Int)*4=t:=by omega
   have d2:(P:Int).tdiv 8=(q:Int):=by rw[Int.tdiv_eq_ediv_of_nonneg (by omega)];exact e2
   have d3:(P:Int).tmod 8=(r:Int):=by rw[Int.tmod_eq_emod_of_nonneg (by omega)];exact e3
   have w2:IntKind.i64.wrap (q:Int)=q:=wiA;have w3:IntKind.i64.wrap (r:Int)=r:=wiA;have w4:IntKind.i64.wrap (t:Int)=t:=wiA
   have t0:(0:Int)≤t:=by omega
   have t1:(t:Int)<32:=by omega
   have q0:(0:Int)≤q:=by omega
   have qN:q<N:=by have:=HM.out ();omega
   have q1:(q:Int)<N:=by omega
   have p0:(0:Int)≤P:=by omega
   have k0:(0:Int)≤k:=by omega
   have k1:(k:Int)<(s.size:Int):=by omega
   obtain⟨V,B⟩:∃V,V=X*2^(4*(s.size-k)):=⟨_,rfl⟩;rw[←B]at Q;have gV:=nd_get N V q qN
   have I:V=X*2^(4*(8*q+r+1)):=by rw[B,show s.size-k=8*q+r+1 by omega]
   obtain⟨d,l⟩:=exl (hexD s[k].toNat)
   have x:d<16:=by rw[←l];exact hexD_lt _ (HC.out () k hlt)
   have HD:Hid _:=l▸hexd_any s[k].toNat (HC.out () k hlt);obtain⟨y,o,f2,f3,f4⟩:=hex_round N X q r d t V hr x ht I;obtain⟨S,J⟩:=exl ((X*16+d)*2^(4*(s.size-(k+1))))
   have HS:Hu ((nd N V).setIfInBounds q (Value.int .u32 o)=nd N S):=fun _=>by
    rw[f4,←J,show s.size-(k+1)=8*q+r by omega]
   have W:Hu (hexN (s.data.toList.take (k+1))=X*16+d):=fun _=>by rw[take_snoc s k hlt,hexN_snoc,HX.out (),l]
   obtain⟨G,C,K,D⟩:=Q.out;have aa:s.data.size=s.size:=rfl;clear B I ht hq hr hs hk hP f4 l x
   go_wp2
   have H:Vr wr w.heap.size (nd N V):=⟨C,K,D⟩;have Y:=HS.out ();refine wp_wT 18 [.c (.slice (some ⟨w.heap.size,0,none⟩) N N),.c (.int .i64 P),.c (.int .i64 q),.c (.slice (some ⟨w.heap.size,0,none⟩) N N),.c (.int .i64 P),.c (.int .i64 q),.c (pv (w.heap.size) q),.c (.int .u32 ((dg V q:Nat):Int)),.c (.string s),.c (.int .i64 k),.c (.int .u8 ((s[k].toNat:Nat):Int)),.c (.int .u32 d),.c (.int .i64 P),.c (.int .i64 r),.c (.int .i64 t),.c (.int .u32 y),.c (.int .u32 o),.c (pv (w.heap.size) q)] [2,5,6,7,10,11,13,14,15,16,17] ⟨.s (.binOp .quo 3 (.const (.int .i64 P)) (.const (.int .i64 8)) 3) rfl fun A j=>by simp[go_sem,exI, *],.s (.binOp .quo 3 (.const (.int .i64 P)) (.const (.int .i64 8)) 3) rfl fun A j=>by simp[go_sem,exI, *],.s (.indexAddr 34 (.const (.slice (some ⟨w.heap.size,0,none⟩) N N)) (.const (.int .i64 q))) rfl fun A j=>by simp[go_sem,exI, *],.o 55 q H rfl (by exact gV),.s (.index 9 (.const (.string s)) (.const (.int .i64 k))) rfl fun A j=>by simp[go_sem,exI, *],.y HD.out,.s (.binOp .rem 3 (.const (.int .i64 P)) (.const (.int .i64 8)) 3) rfl fun A j=>by simp[go_sem,exI, *],.s (.binOp .mul 3 (.const (.int .i64 r)) (.const (.int .i64 4)) 3) rfl fun A j=>by simp[go_sem,exI, *],.s (.binOp .shl 55 (.const (.int .u32 d)) (.const (.int .i64 t)) 3) rfl fun A j=>by simp[go_sem,exI, *],.s (.binOp .or 55 (.const (.int .u32 ((dg V q:Nat):Int))) (.const (.int .u32 y)) 55) rfl fun A j=>by simp[go_sem,exI, *],.s (.indexAddr 34 (.const (.slice (some ⟨w.heap.size,0,none⟩) N N)) (.const (.int .i64 q))) rfl fun A j=>by simp[go_sem,exI, *],⟨⟩⟩ (.s 55 (fun yy=>pv (w.heap.size) q) (fun yy=>.int .u32 o) fun ab v1 j h6=>?_);have HT:=(H.gr j).h;have FT:=(H.gr j).f;refine⟨setBlk v1 (w.heap.size) (nd N S),by simp[go_sem,exI,HT,cell_blk,gV,frz_at _ _ _ FT,setCell_setBlk,Y],?_⟩;simp only[fzw];clear h6;replace G:=G.trans j;replace H:=H.gr j;clear j;have Z:=H.set (by rw[nd_size];omega) (nd N S);have G2:=gr_setNew (d:=nd N S) G (Nat.le_refl _)
   go_wp2
   go_roundw
   case rel=>exact⟨k+1,X*16+d,by omega,by go_num,W,G2,by rw[J];exact Z.h,Z.f,Z.p⟩
   case measure=>simp[intOf];omega
  ·have L:Hu (k=s.size):=fun _=>by omega
   obtain⟨V,B⟩:∃V,V=X*2^(4*(s.size-k)):=⟨_,rfl⟩;rw[←B]at Q
   have HF:Hu (V=hexN s.data.toList):=fun _=>by
    rw[B,L.out (),Nat.sub_self,Nat.mul_zero,Nat.pow_zero,Nat.mul_one,←HX.out (),L.out (),List.take_of_length_le (by simp)]
   have HV:Hu (V<pq N):=fun _=>by rw[HF.out ()];exact HB.out ()
   have ac:¬(k:Int)<(s.size:Int):=by omega
   obtain⟨G,C,K,D⟩:=Q.out;have HR:Hu (_):=fun _=>rshr0_nd V N w.heap.size wr C D (HV.out ()) (kb.out ()).1 (kb.out ()).2;clear B hlt hk hs
   go_wp2_with (go_at_call 50;refine(HR.out ()).mono ?_;rintro e w' ⟨p1,n1,rfl,S1,G1⟩)
   go_ret
   rw[←HF.out ()];exact⟨p1,n1,rfl,S1,G.trans G1⟩
end
section
def bslQ(t:TypeId)(n:Nat)(p:Array (Nat×Value)):Sem Value:=Instr.buildSlice t n p
theorem bslQ_is(n:Nat)(p:Array (Nat×Value)):Instr.buildSlice 70 n p=bslQ 70 n p:=rfl
theorem bslQ6(a b c d e f:ByteArray)(w:World):(bslQ 70 6 #[(0,.string a),(1,.string b),(2,.string c),(3,.string d),(4,.string e),(5,.string f)]).run prog w=.ok (.slice (some ⟨w.heap.size,0,none⟩) 6 6) (w.alloc (.cells #[.string a,.string b,.string c,.string d,.string e,.string f] 9)):=by kernel_rfl
attribute [local go_sem ↓] bslQ_is
attribute [local go_sem] bslQ6
def hxB(X n:Nat):ByteArray:=⟨((List.range n).map fun i=>UInt8.ofNat (let d:=X/16^(n-1-i)%16;if d<10 then 48+d else 87+d)).toArray⟩
def rsL:List (List Nat):=[[],[48,0,48,48,48,48],[56,0,56,56,56,56],[64,0,64,64,64,64],[96,0,96,96,96,96],[132,0,132,132,132,132],[64,1,1,64,64,64],[40,40,40,40,40,40],[56,56,56,56,56,56],[64,64,64,64,64,64],[80,80,80,80,80,80],[96,96,96,96,96,96],[128,128,128,128,128,128],[2,0,2,2,1,2],[2,1,1,2,1,2],[2,2,1,2,1,2]]
def rsN(i j:Nat):ByteArray:=match (rsL.getD i []).getD j 0 with|0=>⟨#[45]⟩|n=>hxB ([pN i,aN i,bN i,oN i,xN i,yN i].getD j 0) n
def rowA(i:Nat):Array Value :=#[.string (rsN i 0),.string (rsN i 1),.string (rsN i 2),.string (rsN i 3),.string (rsN i 4),.string (rsN i 5)]
theorem row_yes(i:Nat)(h1:1≤i)(h2:i≤15)(w:World):Calls prog 36 #[.int .i64 i] w fun e w'=>∃b,e=.returned (.slice (some ⟨b,0,none⟩) 6 6)∧blk w' b=rowA i∧Pre (b+1) w'.heap.size∧Gr w w':=by
 obtain rfl|rfl|rfl|rfl|rfl|rfl|rfl|rfl|rfl|rfl|rfl|rfl|rfl|rfl|rfl:i=1∨i=2∨i=3∨i=4∨i=5∨i=6∨i=7∨i=8∨i=9∨i=10∨i=11∨i=12∨i=13∨i=14∨i=15:=by omega
 all_goals
  go_enter func36,ntmps36
  go_wp2
  go_ret
  exact⟨w.heap.size,rfl,by rw[blk_alloc_at _ _ _ _ _ rfl];kernel_rfl,by simp[go_sem],grA⟩
theorem row_no(x:Int)(h:x<1∨15<x)(w:World):Cg 36 #[.int .i64 x] w (.slice none 0 0):=by
 go_enter func36,ntmps36
 go_wp2
 go_ret
 exact⟨rfl,grA⟩
end
end
section
theorem loadC_is:LdI 36:=fun _=>rfl
theorem storeC_is:StI 36:=fun _ _=>rfl
theorem loadC:LdS 36 7:=ldS
def cvA(id:Int)(p:Option Addr)(l n:Nat)(q:Nat→Option Addr×Nat×Nat):Array Value :=#[.int .i64 id,.slice p l n,.slice (q 0).1 (q 0).2.1 (q 0).2.2,.slice (q 1).1 (q 1).2.1 (q 1).2.2,.slice (q 2).1 (q 2).2.1 (q 2).2.2,.slice (q 3).1 (q 3).2.1 (q 3).2.2,.slice (q 4).1 (q 4).2.1 (q 4).2.2]
def crA(id:Int)(x:Nat→Nat)(q:Nat→Option Addr×Nat):Array Value :=#[.int .i64 id,.slice (q 0).1 (dl (x 0)) (q 0).2,.slice (q 1).1 (dl (x 1)) (q 1).2,.slice (q 2).1 (dl (x 2)) (q 2).2,.slice (q 3).1 (dl (x 3)) (q 3).2,.slice (q 4).1 (dl (x 4)) (q 4).2,.slice (q 5).1 (dl (x 5)) (q 5).2]
theorem crA_cvA(id:Int)(x:Nat→Nat)(q:Nat→Option Addr×Nat):crA id x q=cvA id (q 0).1 (dl (x 0)) (q 0).2 (fun k=>((q (k+1)).1,dl (x (k+1)),(q (k+1)).2)):=rfl
def six{α:Type}(a b c d e f:α):Nat→α
 | 0=>a
 | 1=>b
 | 2=>c
 | 3=>d
 | 4=>e
 | _=>f
theorem storeC0(w:World)(b:Nat)(hs:(blk w b).size=7)(hf:frz w b=(0,0)):
 (storeS 36 (.pointer (some ⟨b,0,none⟩)) (.agg #[.int .i64 0,.slice none 0 0,.slice none 0 0,.slice none 0 0,.slice none 0 0,.slice none 0 0,.slice none 0 0])).run prog w=.ok () (setBlk w b #[.int .i64 0,.slice none 0 0,.slice none 0 0,.slice none 0 0,.slice none 0 0,.slice none 0 0,.slice none 0 0]):=
 storeS_run 7 (by decide) (by kernel_rfl) w b _ rfl (by simp[Value.oneCell']) hs hf
def buildG(t:TypeId)(p:Array (Nat×Value)):Sem Value:=Instr.build t p
theorem buildC_is(p:Array (Nat×Value)):Instr.build 36 p=buildG 36 p:=rfl
theorem buildC0(w:World):(buildG 36 #[]).run prog w=.ok (.agg #[.int .i64 0,.slice none 0 0,.slice none 0 0,.slice none 0 0,.slice none 0 0,.slice none 0 0,.slice none 0 0]) w:=by kernel_rfl
theorem eqSl(b:Nat)(w:World):(binOp .eql 70 (.slice (some ⟨b,0,none⟩) 6 6) (.slice none 0 0)).run prog w=.ok (.bool false) w:=by kernel_rfl
theorem eqSl0(w:World):(binOp .eql 70 (.slice none 0 0) (.slice none 0 0)).run prog w=.ok (.bool true) w:=by kernel_rfl
theorem crA_one(id:Int)(x:Nat→Nat)(q:Nat→Option Addr×Nat):(crA id x q).all (·.oneCell')=true:=by simp[crA,Value.oneCell']
theorem storeCr(w:World)(b:Nat)(id:Int)(x:Nat→Nat)(q:Nat→Option Addr×Nat)(hs:(blk w b).size=7)(hf:frz w b=(0,0)):
 (storeS 36 (.pointer (some ⟨b,0,none⟩)) (.agg (crA id x q))).run prog w=.ok () (setBlk w b (crA id x q)):=
 storeS_run 7 (by decide) (by kernel_rfl) w b _ rfl (crA_one id x q) hs hf
theorem crA_size(id:Int)(x:Nat→Nat)(q:Nat→Option Addr×Nat):(crA id x q).size=7:=rfl
end
section
attribute [local go_sem ↓] uz1
attribute [local go_sem] uz2
section
def Kw.cb(id:Int)(x:Nat→Nat):Kw:=⟨fun y=>.agg (crA id x y),fun y w=>∀j,Sl w (y j).1 (x j),fun _ _ _ h g j=>(h j).gr g,0,fun h=>absurd rfl h,fun h=>absurd h (by decide)⟩
theorem fkcb{z:Array Value}{id:Int}{x:Nat→Nat}(h:Blank z):FarK z (.cb id x):=fun _ _ _ _ e k j=>Sl.set (k j) (e▸h)
theorem bCr(id:Int)(x:Nat→Nat)(q:Nat→Option Addr×Nat):Blank (crA id x q):=by
 intro i n h
 match i,h with
 | 0,h=>simp[crA]at h
 | 1,h=>simp[crA]at h
 | 2,h=>simp[crA]at h
 | 3,h=>simp[crA]at h
 | 4,h=>simp[crA]at h
 | 5,h=>simp[crA]at h
 | 6,h=>simp[crA]at h
 | k+7,h=>simp[crA]at h
theorem bZ7:Blank #[.int .i64 0,.slice none 0 0,.slice none 0 0,.slice none 0 0,.slice none 0 0,.slice none 0 0,.slice none 0 0]:=bCr 0 (fun _=>0) (fun _=>(none,0))
theorem sl_lit(c:Nat)(hc:c<pq 1)(w:World):Sl (w.alloc (.cells (nd 1 c) 55)) (some ⟨w.heap.size,0,none⟩) c:=Sl.of_blk (n:=1) (by simp[Pre]) (blk_alloc_at _ _ _ _ _ rfl) hc
theorem crA_1(id:Int)(x:Nat→Nat)(q:Nat→Option Addr×Nat):(crA id x q)[2]? = some (.slice (q 1).1 (dl (x 1)) (q 1).2):=rfl
theorem crA_set(id:Int)(x0 y x1 x2 x3 x4 x5:Nat)(q:Nat→Option Addr×Nat)(p:Option Addr)(n:Nat):(crA id (six x0 y x2 x3 x4 x5) q).setIfInBounds 2 (.slice p (dl x1) n)=crA id (six x0 x1 x2 x3 x4 x5) (fun j=>match j with|1=>(p,n)|j=>q j):=rfl
attribute [local go_sem ↓] loadC_is storeC_is buildC_is bsl_is Go.wp_at_zero Go.wp_at_succ
attribute [local go_sem] eqSl eqSl0 loadC storeC0 storeCr buildC0 crA_size frz_setBlk blk_setBlk setBlk_setBlk blk_other
theorem get_of(id:Int)(s0 s1 s2 s3 s4 s5:ByteArray)(x0 x1 x2 x3 x4 x5:Nat)(HR:∀w,Calls prog 36 #[.int .i64 id] w fun e w'=>∃b,e=.returned (.slice (some ⟨b,0,none⟩) 6 6)∧blk w' b =#[.string s0,.string s1,.string s2,.string s3,.string s4,.string s5]∧Pre (b+1) w'.heap.size∧Gr w w')(H0:∀w,Calls prog 37 #[.string s0] w (Nm x0 w))(H2:∀w,Calls prog 37 #[.string s2] w (Nm x2 w))(H3:∀w,Calls prog 37 #[.string s3] w (Nm x3 w))(H4:∀w,Calls prog 37 #[.string s4] w (Nm x4 w))(H5:∀w,Calls prog 37 #[.string s5] w (Nm x5 w))(h1:(s1=⟨#[45]⟩∧3≤x0∧dl x0≤50000∧x0-3=x1)∨((s1.toList == [45])=false∧∀w,Calls prog 37 #[.string s1] w (Nm x1 w)))(w:World):
 Calls prog 10 #[.int .i64 id] w fun e w'=>∃q,e=.returned (.tuple #[.agg (crA id (six x0 x1 x2 x3 x4 x5) q),.bool true])∧(∀k,Sl w' (q k).1 (six x0 x1 x2 x3 x4 x5 k))∧Gr w w':=by
 have S:Hid _:=HR;have aa:Hid _:=H0;have ab:Hid _:=H2;have ac:Hid _:=H3;have ae:Hid _:=H4;have af:Hid _:=H5;clear HR H0 H2 H3 H4 H5
 go_enter func10,ntmps10
 go_upto_region 4 with (go_at_call 36;refine(S.out _).mono ?_;rintro e W1 ⟨x,rfl,J,K,G1⟩)
 refine gen_w (fun v=>Hid (Gr w v∧Vr v w.heap.size #[.int .i64 0,.slice none 0 0,.slice none 0 0,.slice none 0 0,.slice none 0 0,.slice none 0 0,.slice none 0 0]∧blk v x =#[.string s0,.string s1,.string s2,.string s3,.string s4,.string s5]∧Pre (x+1) v.heap.size)) ⟨((Gr.refl _).alloc _).trans G1,(Vr.new w _ _).gr G1,J,K⟩ ?_;clear J K G1 S;intro v0 HV;obtain⟨G,D,J,K⟩:=HV.out
 have Q:∀(j:Nat) (s:Value),(#[.string s0,.string s1,.string s2,.string s3,.string s4,.string s5])[j]? = some s→∀vv,Gr v0 vv→vv.cell? ⟨x,j,none⟩=some s:=fun j s h vv g=>by rw[cell_blk,g.blk _ K,J];exact h
 clear HV;refine wp_v true [.c (.int .i64 id),.c (.slice (some ⟨x,0,none⟩) 6 6),.c (pv x 0),.c (.string s0),.n x0,.c (.slice (some ⟨x,0,none⟩) 6 6),.c (pv x 2),.c (.string s2),.n x2,.c (.slice (some ⟨x,0,none⟩) 6 6),.c (pv x 3),.c (.string s3),.n x3,.c (.slice (some ⟨x,0,none⟩) 6 6),.c (pv x 4),.c (.string s4),.n x4,.c (.slice (some ⟨x,0,none⟩) 6 6),.c (pv x 5),.c (.string s5),.n x5,.cb id (six x0 0 x2 x3 x4 x5),.a,.u] [3,4,7,8,11,12,15,16,19,20,21] [⟨22,23,36, #[.int .i64 0,.slice none 0 0,.slice none 0 0,.slice none 0 0,.slice none 0 0,.slice none 0 0,.slice none 0 0],fun l=>crA id (six x0 0 x2 x3 x4 x5) (l 21)⟩] ?hs ?hv ?hf
 case hs=>
  exact⟨.s (.load 9 (.const (pv x 0))) rfl fun vv i=>by simp[go_sem,exI,Q 0 _ rfl vv i],.k _ fun l vv i I=>RtW.of_n (Rt.n (aa.out _)),.s (.load 9 (.const (pv x 2))) rfl fun vv i=>by simp[go_sem,exI,Q 2 _ rfl vv i],.k _ fun l vv i I=>RtW.of_n (Rt.n (ab.out _)),.s (.load 9 (.const (pv x 3))) rfl fun vv i=>by simp[go_sem,exI,Q 3 _ rfl vv i],.k _ fun l vv i I=>RtW.of_n (Rt.n (ac.out _)),.s (.load 9 (.const (pv x 4))) rfl fun vv i=>by simp[go_sem,exI,Q 4 _ rfl vv i],.k _ fun l vv i I=>RtW.of_n (Rt.n (ae.out _)),.s (.load 9 (.const (pv x 5))) rfl fun vv i=>by simp[go_sem,exI,Q 5 _ rfl vv i],.k _ fun l vv i I=>RtW.of_n (Rt.n (af.out _)),.p (fun l j=>match j with|0=>l 4 0|1=>(none,0)|2=>l 8 0|3=>l 12 0|4=>l 16 0|_=>l 20 0) fun l vv i I j=>match j with|0=>I 4 rfl|1=>Sl.zero _ _|2=>I 8 rfl|3=>I 12 rfl|4=>I 16 rfl|_+5=>I 20 rfl,⟨⟩⟩
 case hv=>
  refine .cons (.mk (fun _ _ h=>Value.agg.inj (h 21 rfl)) (fun _ v b H F=>by dsimp only at H ⊢;simp[go_sem,exI,H,F]) (by show 0<7;decide) ⟨fkc,fkc,fkc,fkc,fkn bZ7,fkc,fkc,fkc,fkn bZ7,fkc,fkc,fkc,fkn bZ7,fkc,fkc,fkc,fkn bZ7,fkc,fkc,fkc,fkn bZ7,fkcb bZ7,fka,fku,trivial⟩) .nil
 intro d v1 Z h4 ag;simp only[fzw,Kw.a,Kw.cb];have A:=h4 21;obtain⟨⟨N5,B⟩,-⟩:(v0.heap.size≤(d 22 0).2∧Vr v1 (d 22 0).2 (crA id (six x0 0 x2 x3 x4 x5) (d 21)))∧True:=ag
 have aj:w.heap.size<(d 22 0).2:=by have:w.heap.size+1≤v0.heap.size:=D.p;omega
 clear h4 N5;replace G:=G.trans Z;replace D:=D.gr Z;have ai:=Q 1 _ rfl v1 Z
 rcases h1 with ⟨rfl,h3,hd,hx1⟩|⟨hs1,H1⟩
 ·have U:∀w,(bslS 34 1 #[(0,.int .u32 3)]).run prog w=.ok (.slice (some ⟨w.heap.size,0,none⟩) 1 1) (w.alloc (.cells (nd 1 3) 55)):=fun w=>build1 3 (by decide) w
  go_upto_region 6 with fail
  refine wp_wTS 5 [.c (pv ((d 22 0).2) 1),.c (.slice (d 21 0).1 (dl (x0)) (d 21 0).2),.n (3),.n (x1),.c (pv ((d 22 0).2) 2)] [1,2,3] ⟨.o 34 1 B rfl rfl,.b (.buildSlice 34 1 #[(0,.const (.int .u32 3))]) rfl rfl (fun vv=>by simp[go_sem,exI,U];rfl) (sl_lit 3 (by decide)),.k (fun l =>#[.slice (d 21 0).1 (dl (x0)) (d 21 0).2,.slice (l 2 0).1 (dl (3)) (l 2 0).2]) fun l vv i I=>RtW.of_n (Rt.n (hx1▸rsub_any x0 3 _ _ _ _ _ ((A 0).gr i) (I 2 rfl) (by omega) (by omega))),⟨⟩⟩ (.s 34 (fun l=>pv ((d 22 0).2) 2) (fun l=>.slice (l 3 0).1 (dl (x1)) (l 3 0).2) fun L V i h6=>?_);have C:=(B.gr i).h;have FT:=(B.gr i).f;refine⟨setBlk V ((d 22 0).2) (crA id (six x0 x1 x2 x3 x4 x5) (fun j=>match j with|1=>L 3 0|j=>d 21 j)),by simp[go_sem,exI,C,cell_blk,frz_at _ _ _ FT,setCell_setBlk,crA_1,crA_set],?_⟩;simp only[fzw];have W:Sl V (L 3 0).1 (x1):=h6 3;clear h6;replace G:=G.trans i;replace B:=B.gr i;replace D:=D.gr i;replace A:=fun k=>(A k).gr i;clear i
  go_upto_region 8 with fail
  refine gen_w (fun u=>Gr w u∧Vr u w.heap.size #[.int .i64 0,.slice none 0 0,.slice none 0 0,.slice none 0 0,.slice none 0 0,.slice none 0 0,.slice none 0 0]∧Vr u (d 22 0).2 (crA id (six x0 x1 x2 x3 x4 x5) (fun j=>match j with|1=>L 3 0|j=>d 21 j))∧∀j,Sl u ((fun j=>match j with|1=>L 3 0|j=>d 21 j) j).1 (six x0 x1 x2 x3 x4 x5 j)) ⟨gr_setNew G (by omega),D.other (by omega),B.set (by rw[crA_size];decide) _,fun j=>match j with|0=>Sl.set (A 0) (by rw[C];exact bCr _ _ _)|1=>Sl.set W (by rw[C];exact bCr _ _ _)|2=>Sl.set (A 2) (by rw[C];exact bCr _ _ _)|3=>Sl.set (A 3) (by rw[C];exact bCr _ _ _)|4=>Sl.set (A 4) (by rw[C];exact bCr _ _ _)|j+5=>Sl.set (A (j+5)) (by rw[C];exact bCr _ _ _)⟩ ?_;clear G D B A C FT;rintro u ⟨G,D,B,A⟩;have⟨X,f2,p2⟩:=D;have⟨h5,f5,p5⟩:=B
  have ak:¬w.heap.size=(d 22 0).2:=by omega
  go_wp2_with fail
  refine bo2 results10 (rd_cell 7 underlying36 rfl (by kernel_rfl) (by rfl) ?_ rfl) ⟨_,rfl,fun j=>Sl.set (A j) (by rw[X];exact bZ7),gr_setNew G (Nat.le_refl _)⟩;simp[go_sem,X]
 ·have ah:Hid _:=H1;clear H1
  go_upto_region 7 with fail
  refine wp_wTS 5 [.c (.slice (some ⟨x,0,none⟩) 6 6),.c (pv x 1),.c (.string s1),.n (x1),.c (pv ((d 22 0).2) 2)] [2,3] ⟨.s (.load 9 (.const (pv x 1))) rfl fun vv i=>by simp[go_sem,exI,Q 1 _ rfl vv (Z.trans i)],.k _ fun l vv i I=>RtW.of_n (Rt.n (ah.out _)),⟨⟩⟩ (.s 34 (fun l=>pv ((d 22 0).2) 2) (fun l=>.slice (l 3 0).1 (dl (x1)) (l 3 0).2) fun P V i h7=>?_);have C:=(B.gr i).h;have FT:=(B.gr i).f;refine⟨setBlk V ((d 22 0).2) (crA id (six x0 x1 x2 x3 x4 x5) (fun j=>match j with|1=>P 3 0|j=>d 21 j)),by simp[go_sem,exI,C,cell_blk,frz_at _ _ _ FT,setCell_setBlk,crA_1,crA_set],?_⟩;simp only[fzw];have Y:Sl V (P 3 0).1 (x1):=h7 3;clear h7;replace G:=G.trans i;replace B:=B.gr i;replace D:=D.gr i;replace A:=fun k=>(A k).gr i
  go_upto_region 8 with fail
  refine gen_w (fun u=>Gr w u∧Vr u w.heap.size #[.int .i64 0,.slice none 0 0,.slice none 0 0,.slice none 0 0,.slice none 0 0,.slice none 0 0,.slice none 0 0]∧Vr u (d 22 0).2 (crA id (six x0 x1 x2 x3 x4 x5) (fun j=>match j with|1=>P 3 0|j=>d 21 j))∧∀j,Sl u ((fun j=>match j with|1=>P 3 0|j=>d 21 j) j).1 (six x0 x1 x2 x3 x4 x5 j)) ⟨gr_setNew G (by omega),D.other (by omega),B.set (by rw[crA_size];decide) _,fun j=>match j with|0=>Sl.set (A 0) (by rw[C];exact bCr _ _ _)|1=>Sl.set Y (by rw[C];exact bCr _ _ _)|2=>Sl.set (A 2) (by rw[C];exact bCr _ _ _)|3=>Sl.set (A 3) (by rw[C];exact bCr _ _ _)|4=>Sl.set (A 4) (by rw[C];exact bCr _ _ _)|j+5=>Sl.set (A (j+5)) (by rw[C];exact bCr _ _ _)⟩ ?_;rintro u ⟨G,D,B,A⟩;have⟨X,f2,p2⟩:=D;have⟨h5,f5,p5⟩:=B
  go_wp2_with fail
  refine bo2 results10 (rd_cell 7 underlying36 rfl (by kernel_rfl) (by rfl) ?_ rfl) ⟨_,rfl,fun j=>Sl.set (A j) (by rw[X];exact bZ7),gr_setNew G (Nat.le_refl _)⟩;simp[go_sem,X]
end
section
theorem hex_of(s:ByteArray)(x:Nat)(h:(Nat.ble s.size 1000&&s.data.toList.all fun c=>hexOk c.toNat)=true)(e:hexN s.data.toList=x)(w:World):Calls prog 37 #[.string s] w (Nm x w):=by
 rw[Bool.and_eq_true]at h;have:=rhex_any s (Nat.le_of_ble_eq_true h.1) (fun c d=>List.all_eq_true.1 h.2 c d) w;rw[e]at this;exact this
def nN(i:Nat):Nat→Nat:=six (pN i) (aN i) (bN i) (oN i) (xN i) (yN i)
def GetQ(i:Nat)(w:World)(e:Ending)(w':World):Prop:=∃q,e=.returned (.tuple #[.agg (crA (i:Int) (nN i) q),.bool true])∧(∀k,Sl w' (q k).1 (nN i k))∧Gr w w'
def GetR(i:Nat)(w:World)(e:Ending)(w':World):Prop:=∃p n q,e=.returned (.tuple #[.agg (cvA (i:Int) p (dl (pN i)) n q),.bool true])∧Sl w' p (pN i)∧Gr w w'
theorem GetQ.R{i:Nat}{w w':World}{e:Ending}(h:GetQ i w e w'):GetR i w e w':=by
 obtain⟨q,d,f,j⟩:=h;rw[crA_cvA]at d;exact⟨_,_,_,d,f 0,j⟩
theorem getq_yes(i:Nat)(h1:1≤i)(h2:i≤15)(w:World):Calls prog 10 #[.int .i64 i] w (GetQ i w):=by
 obtain rfl|rfl|rfl|rfl|rfl|rfl|rfl|rfl|rfl|rfl|rfl|rfl|rfl|rfl|rfl:i=1∨i=2∨i=3∨i=4∨i=5∨i=6∨i=7∨i=8∨i=9∨i=10∨i=11∨i=12∨i=13∨i=14∨i=15:=by omega
 all_goals exact get_of _ (rsN _ 0) (rsN _ 1) (rsN _ 2) (rsN _ 3) (rsN _ 4) (rsN _ 5) (pN _) (aN _) (bN _) (oN _) (xN _) (yN _) (row_yes _ h1 h2) (hex_of _ _ (by decide +kernel) (by decide +kernel)) (hex_of _ _ (by decide +kernel) (by decide +kernel)) (hex_of _ _ (by decide +kernel) (by decide +kernel)) (hex_of _ _ (by decide +kernel) (by decide +kernel)) (hex_of _ _ (by decide +kernel) (by decide +kernel)) (by first|exact .inl ⟨rfl,by decide +kernel,by decide +kernel,by decide +kernel⟩|exact .inr ⟨by decide +kernel,(hex_of _ _ (by decide +kernel) (by decide +kernel))⟩) w
attribute [local go_sem ↓] loadC_is storeC_is buildC_is
attribute [local go_sem] eqSl0 loadC storeC0 buildC0 frz_setBlk blk_setBlk setBlk_setBlk
theorem get_no(x:Int)(h:x<1∨15<x)(w:World):Cg 10 #[.int .i64 x] w (.tuple #[.agg #[.int .i64 0,.slice none 0 0,.slice none 0 0,.slice none 0 0,.slice none 0 0,.slice none 0 0,.slice none 0 0],.bool false]):=by
 have d:Hid _:=row_no x h
 go_enter func10,ntmps10
 go_wp2_with (go_at_call 36;refine hkA d fun g=>?_)
 refine bo2 results10 (rd_cell 7 underlying36 rfl (by kernel_rfl) (by rfl) ?_ rfl) ⟨rfl,grA⟩;simp[go_sem]
end
end
section
theorem pN_dl(i:Nat)(h1:1≤i)(h2:i≤15):dl (pN i)≤18:=by
 have h:=pN_bd i h1 h2;exact(dl_le _ 18).2 (by rw[pq_M];omega)
theorem dl_M(a:Nat)(ha:a<M):dl a≤18:=(dl_le _ 18).2 (by rw[pq_M];exact ha)
def idx(id:Int):Nat:=(IntKind.u64.wrap id).toNat%15+1
theorem idx_bd(id:Int):1≤idx id∧idx id≤15:=by unfold idx;omega
theorem idx_conv(id:Int):∃u:Nat,IntKind.u64.wrap id=(u:Int)∧(u:Int)<18446744073709551616∧(u:Int)%15+1=(idx id:Int):=by
 have h:0≤IntKind.u64.wrap id∧IntKind.u64.wrap id<18446744073709551616:=by rw[IntKind.wrap_u64];omega
 refine⟨(IntKind.u64.wrap id).toNat,?_,?_,?_⟩
 ·omega
 ·omega
 ·unfold idx;omega
end
end Go.Proofs.Ytffhepbppiocbaa