import Derived.Test.YtffhepbppiocbadGreatXAAU
namespace Go.Proofs.YtffhepbppiocbadGreat
open Go.RowKit
set_option maxRecDepth 100000
set_option maxHeartbeats 8000000
section
def twQ(k:Nat)(Q:Q3)(a b:Nat):Q3:=plQ k (mlQ k a (gQ k)) (mlQ k b Q)
theorem twQ_add{k:Nat}(h1:1≤k)(h2:k≤15){Q:Q3}(oQ:OnQ k Q)(a b c d:Nat):plQ k (twQ k Q a b) (twQ k Q c d)=twQ k Q (a+c) (b+d):=by
 grind [mlQ_on,gQ_on,twQ,mlQ_add,plQ_assoc,plQ_on,plQ_comm]
theorem twQ_Q{k:Nat}(h1:1≤k)(h2:k≤15){Q:Q3}(oQ:OnQ k Q):twQ k Q 0 1=Q:=by
 grind [twQ,mlQ_zero,mlQ_one,inf_plQ]
theorem twQ_G{k:Nat}(h1:1≤k)(h2:k≤15)(Q:Q3):twQ k Q 1 0=gQ k:=by
 grind [twQ,mlQ_zero,mlQ_one,gQ_on,plQ_inf]
theorem twQ_0{k:Nat}(h1:1≤k)(h2:k≤15)(Q:Q3):twQ k Q 0 0=inf:=by
 unfold twQ;rw[mlQ_zero h1 h2,mlQ_zero h1 h2,plQ_inf h1 h2 (inf_on k)]
def rwT(k:Nat):Nat→T3
 | 0=>(0,1,0)
 | a+1=>addT k (rwT k a) (frT (gQ k))
def clT(k:Nat)(Q:Q3)(a:Nat):Nat→T3
 | 0=>rwT k a
 | b+1=>addT k (clT k Q a b) (frT Q)
def tbT(k:Nat)(Q:Q3)(i:Nat):T3:=clT k Q (i/4) (i%4)
theorem tbT_tr{k:Nat}(h1:1≤k)(h2:k≤15){Q:Q3}(oQ:OnQ k Q)(i:Nat):TrQ k (tbT k Q i) (twQ k Q (i/4) (i%4)):=by
 have d:∀a,TrQ k (rwT k a) (twQ k Q a 0):=fun a=>by
  induction a with
  | zero=>rw[twQ_0 h1 h2];exact frT_tr h1 h2 (inf_on k)
  | succ a ih=>
   have h:=addT_tr h1 h2 ih (frT_tr h1 h2 (gQ_on h1 h2))
   rwa [show plQ k (twQ k Q a 0) (gQ k)=twQ k Q (a+1) 0 from(congrArg _ (twQ_G h1 h2 Q).symm).trans (twQ_add h1 h2 oQ a 0 1 0)]at h
 have f:∀a b,TrQ k (clT k Q a b) (twQ k Q a b):=fun a b=>by
  induction b with
  | zero=>exact d a
  | succ b ih=>
   have h:=addT_tr h1 h2 ih (frT_tr h1 h2 oQ)
   rwa [show plQ k (twQ k Q a b) Q=twQ k Q a (b+1) from(congrArg _ (twQ_Q h1 h2 oQ).symm).trans (twQ_add h1 h2 oQ a b 0 1)]at h
 exact f _ _
theorem tbT_row(k:Nat)(Q:Q3){n m:Nat}(h:n%4=0)(hm:m+4=n):addT k (tbT k Q m) (frT (gQ k))=tbT k Q n:=by
 unfold tbT;rw[show n/4=m/4+1 by omega,h,show m%4=0 by omega]
 rfl
theorem tbT_col(k:Nat)(Q:Q3){n m:Nat}(h:n%4≠0)(hm:m+1=n):addT k (tbT k Q m) (frT Q)=tbT k Q n:=by
 unfold tbT;rw[show n/4=m/4 by omega,show n%4=m%4+1 by omega]
 rfl
def pjs(f:Nat→T3):Nat→Array Value
 | 0 =>#[]
 | n+1=>pjs f n++pjT (f n)
theorem pjs_size(f:Nat→T3):∀n,(pjs f n).size=27*n
 | 0=>rfl
 | n+1=>by rw[pjs,Array.size_append,pjs_size f n,prj_size];omega
theorem pjs_one(f:Nat→T3):∀n,(pjs f n).all (·.oneCell')=true
 | 0=>by simp[pjs]
 | n+1=>by rw[pjs];exact all_app _ _ (pjs_one f n) (prj_one _ _ _)
theorem pjs_at(f:Nat→T3):∀n j,j<27*n→(pjs f n)[j]? = (pjT (f (j/27)))[j%27]?
 | n+1,j,h=>by
  rw[pjs,Array.getElem?_append,pjs_size]
  by_cases hj:j<27*n
  ·rw[if_pos hj,pjs_at f n j hj]
  ·rw[if_neg hj,show j/27=n by omega,show j%27=j-27*n by omega]
theorem pjs_get(f:Nat→T3){n i:Nat}(h:i<n):(pjs f n).extract (i*27) (i*27+27)=pjT (f i):=by
 apply Array.ext_getElem?
 intro j;rw[Array.getElem?_extract,pjs_size]
 by_cases hj:j<27
 ·rw[if_pos (by omega),pjs_at f n _ (by omega),show (i*27+j)/27=i by omega,show (i*27+j)%27=j by omega]
 ·rw[if_neg (by omega),Array.getElem?_eq_none (by rw[prj_size];omega)]
theorem pjs_set(f:Nat→T3)(n i:Nat)(T:T3):setL (pjs f n) (i*27) (pjT T).toList=pjs (fun j=>if j=i then T else f j) n:=by
 apply Array.ext_getElem?
 intro j;rw[setL_get,Array.length_toList,prj_size,pjs_size]
 by_cases hj:j<27*n
 ·rw[pjs_at _ n j hj,pjs_at _ n j hj]
  by_cases hi:j/27=i
  ·rw[if_pos (by omega),if_pos hi,Array.getElem?_toList,show j-i*27=j%27 by omega]
  ·rw[if_neg (by omega),if_neg hi]
 ·rw[if_neg (by omega),Array.getElem?_eq_none (by rw[pjs_size];omega),Array.getElem?_eq_none (by rw[pjs_size];omega)]
theorem pjs_congr{f g:Nat→T3}:∀{n:Nat},(∀i,i<n→f i=g i)→pjs f n=pjs g n
 | 0,_=>rfl
 | n+1,h=>by rw[pjs,pjs,pjs_congr fun i hi=>h i (by omega),h n (by omega)]
theorem store_mid{P:Program}{ty:TypeId}(n:Nat)(hi:(P.info? ty).map (·.size)=some n)(w:World)(b o:Nat)(d:Array Value)(hd:d.size=n)(h1:d.all (·.oneCell')=true)(hs:o+n≤(blk w b).size)(h0:0<(blk w b).size)(hf:frz w b=(0,0)):
 (storeS ty (.pointer (some ⟨b,o,none⟩)) (.agg d)).run P w=.ok () (setBlk w b (setL (blk w b) o d.toList)):=by
 have f:w.there b o d.size:=fun j h=>by
  refine⟨by rw[cell_blk,Array.getElem?_eq_getElem (by omega)];rfl,?_⟩;unfold frz at hf;unfold World.frozen?
  split <;> simp_all
 simp only[storeS,Instr.storeAt,Instr.sureAddr,Sem.run_bind,Sem.run_pure,Result.andThen_ok];rw[run_storeVar_mid w b o ty d f (by rw[hi,hd]) h1,setCells_setBlk _ _ _ _ h0]
end
end Go.Proofs.YtffhepbppiocbadGreat