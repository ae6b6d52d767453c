import Derived.Test.YtffhepbppiocbaaGreatXAAO
namespace Go.Proofs.YtffhepbppiocbaaGreat
open Go.RowKit Go.Proofs.Tryz
set_option maxRecDepth 100000
set_option maxHeartbeats 8000000
section
def wlk(k:Nat):Nat→Q3→Bool
 | 0,_=>true
 | n+1,P => !P.2.2&&wlk k n (plQ k P (gQ k))
theorem wlk_is{k:Nat}(h1:1≤k)(h2:k≤15):∀n j,wlk k n (mlQ k j (gQ k))=true→∀i,i<n→(mlQ k (j+i) (gQ k)).2.2=false
 | 0,_,_,_,h=>absurd h (Nat.not_lt_zero _)
 | n+1,j,h,i,hi=>by
  rw[wlk,Bool.and_eq_true]at h
  cases i with
  | zero=>
   rw[Nat.add_zero];exact(Bool.not_eq_true' _).mp h.1
  | succ i=>
   rw[show j+(i+1)=j+1+i by omega];refine wlk_is h1 h2 n (j+1) ?_ i (by omega);rw[mlQ_add h1 h2 j 1 (gQ_on h1 h2),mlQ_one h1 h2 (gQ_on h1 h2)];exact h.2
theorem wlk_T(k:Nat)(h1:13≤k)(h2:k≤15):wlk k (oN k-1) (gQ k)=true:=by
 obtain rfl|rfl|rfl:k=13∨k=14∨k=15:=by omega
 all_goals decide +kernel
theorem walk_ne{k:Nat}(h1:13≤k)(h2:k≤15)(i:Nat)(hi:1≤i)(hn:i<oN k):(mlQ k i (gQ k)).2.2=false:=by
 have h:=wlk_is (by omega) h2 (oN k-1) 1 (by rw[mlQ_one (by omega) h2 (gQ_on (by omega) h2)];exact wlk_T k h1 h2) (i-1) (by omega)
 grind
theorem walk_inj{k:Nat}(h13:13≤k)(h2:k≤15)(i j:Nat)(hij:i<j)(hn:j<oN k):mlQ k i (gQ k)≠mlQ k j (gQ k):=fun e=>by
 have d:1≤k:=by omega
 have h:=gQ_on d h2;have l:=mlQ_on d h2 i h;have q:=mlQ_on d h2 (j-i) h
 have B:mlQ k j (gQ k)=plQ k (mlQ k i (gQ k)) (mlQ k (j-i) (gQ k)):=by rw[←mlQ_add d h2 i (j-i) h,show i+(j-i)=j by omega]
 have f:=ngQ_on d h2 l
 have x:plQ k (ngQ k (mlQ k i (gQ k))) (mlQ k i (gQ k))=inf:=by rw[plQ_comm d h2 f l,plQ_ng d h2]
 have A:plQ k (ngQ k (mlQ k i (gQ k))) (mlQ k j (gQ k))=mlQ k (j-i) (gQ k):=by rw[B,←plQ_assoc d h2 f l q,x,inf_plQ d h2 q]
 rw[←e,x]at A;have:=walk_ne h13 h2 (j-i) (by omega) (by omega);rw[←A]at this
 cases this
theorem tinyP(k:Nat)(h1:13≤k)(h2:k≤15):pN k≤255∧oN k≤255∧200≤oN k:=by
 obtain rfl|rfl|rfl:k=13∨k=14∨k=15:=by omega
 all_goals decide +kernel
def atQ(P:Q3):Nat:=P.1*256+P.2.1
theorem fin_bd{k:Nat}(h1:13≤k)(h2:k≤15){P:Q3}(hP:OnQ k P):P.1≤255∧P.2.1≤255:=by
 have d:=tinyP k h1 h2
 rcases hP.cases with rfl|⟨x,y,rfl,hx,hy,-⟩
 ·exact⟨Nat.zero_le _,Nat.zero_le _⟩
 grind
theorem atQ_inj{k:Nat}(h1:13≤k)(h2:k≤15){P Q:Q3}(hP:OnQ k P)(hQ:OnQ k Q)(fP:P.2.2=false)(fQ:Q.2.2=false)(e:atQ P=atQ Q):P=Q:=by
 grind [fin_bd,atQ]
end
section
def Bs(c:Array Value)(f:Nat→Bool):Prop:=c.size=65536∧∀a,a<65536→c[a]? = some (.bool (f a))
def blN(n:Nat):Array Value:=madeCells (Value.bool false).cells n
theorem blN_get(n a:Nat)(h:a<n):(blN n)[a]? = some (.bool false):=by
 rw[Array.getElem?_eq_getElem (by rw[blN,size_madeCells];exact h)];simp[blN,madeCells,Value.cells,Nat.mod_one]
theorem blN_Bs:Bs (blN 65536) fun _=>false:=⟨size_madeCells _ _,fun a d=>blN_get 65536 a d⟩
theorem Bs.set{c:Array Value}{f:Nat→Bool}(h:Bs c f)(b:Nat):Bs (c.setIfInBounds b (.bool true)) fun a=>f a || decide (a=b):=by
 refine⟨by rw[Array.size_setIfInBounds];exact h.1,fun a d=>?_⟩
 by_cases e:b=a
 ·subst e;rw[Array.getElem?_setIfInBounds_self_of_lt (by rw[h.1];exact d)];simp
 ·rw[Array.getElem?_setIfInBounds_ne e,h.2 a d];simp[Ne.symm e]
def mkB(a b:Value):Sem Value:=Instr.makeSlice 57 a b
theorem mkB_is(a b:Value):Instr.makeSlice 57 a b=mkB a b:=rfl
theorem mkN_run(n:Nat)(hn:n≤281474976710656)(w:World):(mkB (.int .i64 n) (.int .i64 n)).run prog w=.ok (.slice (some ⟨w.heap.size,0,none⟩) n n) (w.alloc (.cells (blN n) 4)):=by
 have f:(prog.info? 4).map (fun i=>(i.zero,i.size,i.bytes))=some (some (.bool false),1,1):=by kernel_rfl
 obtain⟨h,j,d⟩:=Option.map_eq_some_iff.1 f;simp only[Prod.mk.injEq]at d;unfold mkB;rw[run_make w 57 4 h _ underlying57 j d.1 .i64 .i64 (n:Int) (n:Int) (by omega) (by omega) (by rw[d.2.2];omega) (by omega),d.2.1,Int.toNat_natCast,Nat.mul_one]
 rfl
theorem mkB_run(w:World):(mkB (.int .i64 65536) (.int .i64 65536)).run prog w=.ok (.slice (some ⟨w.heap.size,0,none⟩) 65536 65536) (w.alloc (.cells (blN 65536) 4)):=mkN_run 65536 (by decide) w
theorem and255(x:Nat)(h:x≤255):x&&&255=x:=by
 rw[show (255:Nat)=2^8-1 from rfl,Nat.and_two_pow_sub_one_eq_mod]
 omega
theorem bAnd(x:Nat)(h:x≤255):bits .and .u64 (x:Int) 255=(x:Int):=by
 show IntKind.u64.wrap ((BitVec.ofInt 64 (x:Int)&&&BitVec.ofInt 64 255).toNat:Int)=_
 rw[BitVec.toNat_and,show (BitVec.ofInt 64 (x:Int)).toNat=x by rw[BitVec.toNat_ofInt];omega,show (BitVec.ofInt 64 255).toNat=255 by decide,and255 x h,IntKind.wrap_u64]
 omega
theorem atW64{x y a:Nat}(hx:x≤255)(hy:y≤255)(h:x*256+y=a):wrap64 (wrap64 (wrap64 (bits .and .u64 (x:Int) 255)*256)+wrap64 (bits .and .u64 (y:Int) 255))=(a:Int):=by
 rw[bAnd x hx,bAnd y hy];unfold wrap64
 omega
end
end Go.Proofs.YtffhepbppiocbaaGreat