import Derived.Test.YtdomjicpdbblnaaXABsB
import Derived.Test.YtdomjicpdbblnaaXADD
namespace Go.Proofs.Ytdomjicpdbblnaa
open Go.RowKit
set_option maxRecDepth 100000
set_option maxHeartbeats 8000000
section
def kD(a:Nat):Nat:=bl a/8+1
def numD(a:Nat):List UInt8:=2 :: UInt8.ofNat (kD a) :: bs (kD a) a
def bodD(r s:Nat):List UInt8:=numD r++numD s
def derD(r s:Nat):List UInt8:=if(bodD r s).length<128 then 48 :: UInt8.ofNat (bodD r s).length :: bodD r s else 48 :: 129 :: UInt8.ofNat (bodD r s).length :: bodD r s
theorem numD_length(a:Nat):(numD a).length=2+kD a:=by
 simp[numD,bs_length]
 omega
theorem bodD_length(r s:Nat):(bodD r s).length=4+kD r+kD s:=by
 rw[bodD,List.length_append,numD_length,numD_length]
 omega
theorem kD_pos(a:Nat):1≤kD a:=by unfold kD;omega
theorem kD_le{a:Nat}(h:a<M):kD a≤73:=by
 have:=bl_pwk a 9 h;unfold kD
 omega
theorem bl_kD(a:Nat):bl a≤8*kD a:=by
 unfold kD
 omega
theorem bn_kD(a:Nat):bn (bs (kD a) a)=a:=bn_bs _ _ ((bl_le _ _).1 (bl_kD a))
theorem numD_read{a:Nat}(h:a<M)(l:List UInt8):numD a++l=2 :: UInt8.ofNat (kD a) :: (bs (kD a) a++l)∧(UInt8.ofNat (kD a)).toNat=kD a∧(bs (kD a) a++l).take (kD a)=bs (kD a) a∧(bs (kD a) a++l).drop (kD a)=l:=by
 have:=kD_le h;refine⟨rfl,?_,List.take_left' (bs_length _ _),List.drop_left' (bs_length _ _)⟩;rw[UInt8.toNat_ofNat']
 omega
theorem numD_inj{a b:Nat}(ha:a<M)(hb:b<M){l m:List UInt8}(h:numD a++l=numD b++m):a=b∧l=m:=by
 obtain⟨j,o,d,f⟩:=numD_read ha l;obtain⟨p,q,v,w⟩:=numD_read hb m;rw[j,p]at h;simp only[List.cons.injEq,true_and]at h
 have i:kD a=kD b:=by rw[←o,←q,h.1]
 rw[i]at d f h
 have x:bs (kD b) a=bs (kD b) b:=by rw[←d,←v,h.2]
 refine⟨?_,by rw[←f,←w,h.2]⟩;rw[←bn_kD a,←bn_kD b,i,x]
theorem derD_pre{r s r' s':Nat}(hr:r<M)(hs:s<M)(hr':r'<M)(hs':s'<M){l m:List UInt8}(h:derD r s++l=derD r' s'++m):r=r'∧s=s'∧l=m:=by
 have p:=bodD_length r s;have d:=bodD_length r' s';have q:=kD_le hr;have v:=kD_le hs;have w:=kD_le hr';have x:=kD_le hs'
 have b:bodD r s++l=bodD r' s'++m:=by
  have no:∀{n:Nat},n<128→UInt8.ofNat n≠129:=fun A e=>by
   have:=congrArg UInt8.toNat e;rw[UInt8.toNat_ofNat',show (129:UInt8).toNat=129 from rfl]at this
   omega
  unfold derD at h
  split at h <;> split at h <;> simp only[List.cons_append,List.cons.injEq,true_and]at h
  ·exact h.2
  ·rename_i a _
   exact absurd h.1 (no a)
  ·rename_i _ a
   exact absurd h.1.symm (no a)
  ·exact h.2
 rw[bodD,bodD,List.append_assoc,List.append_assoc]at b;obtain⟨f,i⟩:=numD_inj hr hr' b;obtain⟨j,o⟩:=numD_inj hs hs' i;exact⟨f,j,o⟩
def isD(l:List UInt8)(r s:Nat):Prop:=r<M∧s<M∧l=derD r s
theorem isD_cut{l:List UInt8}{r s r' s':Nat}{m:Nat}(h:isD l r s)(hm:m<l.length):¬isD (l.take m) r' s':=fun b=>by
 have e:derD r s++[]=derD r' s'++l.drop m:=by rw[List.append_nil,←b.2.2,←h.2.2,List.take_append_drop]
 have:=(derD_pre h.1 h.2.1 b.1 b.2.1 e).2.2;have:=congrArg List.length this;rw[List.length_nil,List.length_drop]at this
 omega
theorem isD_more{l:List UInt8}{r s r' s':Nat}{b:UInt8}(h:isD l r s):¬isD (l++[b]) r' s':=fun d=>by
 have e:derD r s++[b]=derD r' s'++[]:=by rw[List.append_nil,←d.2.2,←h.2.2]
 have:=(derD_pre h.1 h.2.1 d.1 d.2.1 e).2.2
 cases this
theorem derD_head(r s:Nat):∃l,derD r s=48 :: l:=by
 unfold derD
 split <;> exact⟨_,rfl⟩
theorem bs_cons(n a:Nat):bs (n+1) a=UInt8.ofNat (byt a n) :: bs n a:=by
 unfold bs;rw[List.range_succ_eq_map,List.map_cons,List.map_map]
 refine congr (congrArg _ ?_) (List.map_congr_left fun i _=>?_)
 ·rw[show n+1-1-0=n from rfl]
 ·show UInt8.ofNat (byt a (n+1-1-(i+1)))=_
  rw[show n+1-1-(i+1)=n-1-i from by omega]
theorem numD_great{a:Nat}(h:a<M)(hk:72<kD a):numD a=2 :: 73 :: 0 :: bs 72 a:=by
 have e:kD a=73:=by have:=kD_le h;omega
 have d:byt a 72=0:=by
  have b:∀n,bl a≤8*n→byt a n=0:=fun n f=>by rw[byt,Nat.div_eq_of_lt ((bl_le _ _).1 f)]
  exact b 72 (bl_pwk a 9 h)
 rw[numD,e,bs_cons,d]
 rfl
end
section
def nxR:List UInt8→Nat×List UInt8
 | []=>(0,[])
 | b :: r=>(b.toNat,r)
def szR(l:List UInt8):Nat×List UInt8:=if(nxR (nxR l).2).1=129 then nxR (nxR (nxR l).2).2 else nxR (nxR l).2
def fdR(l:List UInt8):List UInt8×List UInt8:=((szR l).2.take (szR l).1,(szR l).2.drop (szR l).1)
def tzR:List UInt8→List UInt8
 | []=>[]
 | b :: r=>if b=0 then r else b :: r
def nbR(l:List UInt8):Nat:=if(tzR l).length≤72 then bn (tzR l) else 0
def gtR(l:List UInt8):Nat×Nat:=(nbR (fdR (fdR l).1).1,nbR (fdR (fdR (fdR l).1).2).1)
def getA(l:List UInt8):Nat×Nat×Int:=if derD (gtR l).1 (gtR l).2=l then((gtR l).1,(gtR l).2,0) else(0,0,2200)
def fldP(k:UInt8)(l:List UInt8):List UInt8:=if l.length<128 then k :: UInt8.ofNat l.length :: l else k :: 129 :: UInt8.ofNat l.length :: l
theorem of_sz{n:Nat}(h:n<256):(UInt8.ofNat n).toNat=n:=by
 rw[UInt8.toNat_ofNat']
 omega
theorem fdR_fld(k:UInt8){l:List UInt8}(h:l.length<256)(m:List UInt8):fdR (fldP k l++m)=(l,m):=by
 have e:szR (fldP k l++m)=(l.length,l++m):=by
  unfold fldP
  split
  ·rename_i h1
   simp only[List.cons_append,szR,nxR,of_sz h];rw[if_neg (by omega)]
  ·simp only[List.cons_append,szR,nxR,of_sz h];rw[if_pos (by rfl)]
 rw[fdR,e];simp only;rw[List.take_left,List.drop_left]
theorem numD_fld{a:Nat}(h:a<M):numD a=fldP 2 (bs (kD a) a):=by
 have:=kD_le h;rw[numD,fldP,bs_length,if_pos (by omega)]
theorem derD_fld(r s:Nat):derD r s=fldP 48 (bodD r s):=rfl
theorem byt_top{a:Nat}{k:Nat}(h:bl a≤8*k):byt a k=0:=by rw[byt,Nat.div_eq_of_lt ((bl_le _ _).1 h)]
theorem nbR_bs{a:Nat}(h:a<M):nbR (bs (kD a) a)=a:=by
 have i:=kD_le h;have j:=kD_pos a;have b:=bn_kD a;obtain⟨n,d⟩:∃n,kD a=n+1:=⟨kD a-1,by omega⟩;rw[d]at b ⊢;rw[bs_cons]at b ⊢;unfold nbR tzR
 by_cases h0:UInt8.ofNat (byt a n)=0
 ·simp only[h0,if_true];rw[if_pos (by rw[bs_length];omega)];rw[h0]at b
  have f:bn (0 :: bs n a)=bn (bs n a):=by simp[bn]
  rw[←f];exact b
 ·simp only[h0,if_false];rw[if_pos,b];rw[List.length_cons,bs_length]
  by_cases h2:n=72
  ·exfalso
   apply h0
   rw[byt_top (by rw[h2];exact bl_pwk a 9 h)]
   rfl
  ·omega
theorem nbR_lt(l:List UInt8):nbR l<M:=by
 unfold nbR
 split
 ·rename_i h
  refine Nat.lt_of_lt_of_le (bn_bd _ _ rfl) ?_;have b:∀n k,n≤8*k→2^(8*n)≤pw k:=fun n k d=>Nat.pow_le_pow_right (by decide) (by omega);exact b _ 9 h
 ·exact M_pos
theorem gtR_derD{r s:Nat}(hr:r<M)(hs:s<M):gtR (derD r s)=(r,s):=by
 have h:=kD_le hr;have i:=kD_le hs
 have b:fdR (derD r s)=(bodD r s,[]):=by
  have:=fdR_fld 48 (l:=bodD r s) (by rw[bodD_length];omega) []
  rwa [List.append_nil]at this
 have d:fdR (bodD r s)=(bs (kD r) r,numD s):=by
  rw[bodD,numD_fld hr];exact fdR_fld 2 (by rw[bs_length];omega) _
 have f:fdR (numD s)=(bs (kD s) s,[]):=by
  have:=fdR_fld 2 (l:=bs (kD s) s) (by rw[bs_length];omega) []
  rwa [List.append_nil,←numD_fld hs]at this
 rw[gtR,b,d,f,nbR_bs hr,nbR_bs hs]
theorem getA_yes{l:List UInt8}{r s:Nat}(h:isD l r s):getA l=(r,s,0):=by
 rw[h.2.2,getA,gtR_derD h.1 h.2.1,if_pos rfl]
theorem getA_no{l:List UInt8}(h:∀r s,¬isD l r s):getA l=(0,0,2200):=by
 rw[getA,if_neg];exact fun e=>h _ _ ⟨nbR_lt _,nbR_lt _,e.symm⟩
theorem getA_cases(l:List UInt8):(∃r s,isD l r s∧getA l=(r,s,0))∨((∀r s,¬isD l r s)∧getA l=(0,0,2200)):=by
 by_cases h:∃r s,isD l r s
 ·obtain⟨r,s,h⟩:=h;exact Or.inl ⟨r,s,h,getA_yes h⟩
 ·have b:∀r s,¬isD l r s:=fun r s k=>h ⟨r,s,k⟩;exact Or.inr ⟨b,getA_no b⟩
def kB(a:Nat):Nat:=(bl a+7)/8
theorem dg_none{a:Nat}(h:kB a=0):bs (kD a) a=[0]:=by
 have b:bl a=0:=by unfold kB at h;omega
 have d:a=0:=by
  have:=(bl_le a 0).1 (by omega);rw[Nat.pow_zero]at this
  omega
 subst d;rw[kD,b]
 rfl
theorem dg_head{a n:Nat}(h:kB a=n+1):bs (kD a) a=if 128≤byt a n then 0 :: bs (kB a) a else bs (kB a) a:=by
 have b:=(bl_le a (bl a)).1 (Nat.le_refl _)
 have d:¬a<2^(bl a-1):=fun e=>by
  have:=(bl_le a (bl a-1)).2 e;unfold kB at h
  omega
 by_cases h8:bl a=8*(n+1)
 ·have e:kD a=kB a+1:=by unfold kD;omega
  have t:128≤byt a n:=by
   have:byt a n=a/2^(8*n):=by
    rw[byt]
    apply Nat.mod_eq_of_lt
    rw[Nat.div_lt_iff_lt_mul (Nat.two_pow_pos _)]
    calc a<2^bl a:=b
     _=256*2^(8*n):=by rw[h8,show 8*(n+1)=8+8*n from by omega,Nat.pow_add]
   rw[this,Nat.le_div_iff_mul_le (Nat.two_pow_pos _)];refine Nat.le_trans (Nat.le_of_eq ?_) (Nat.le_of_not_lt d);rw[h8,show 8*(n+1)-1=7+8*n from by omega,Nat.pow_add]
  rw[if_pos t,e,h,bs_cons,byt_top (by omega)]
  rfl
 ·have e:kD a=kB a:=by unfold kD;unfold kB at h ⊢;omega
  have t:byt a n<128:=by
   have f:bl a≤7+8*n:=by unfold kB at h;omega
   have:a/2^(8*n)<128:=by
    rw[Nat.div_lt_iff_lt_mul (Nat.two_pow_pos _)]
    calc a<2^bl a:=b
     _≤2^(7+8*n):=Nat.pow_le_pow_right (by decide) f
     _=128*2^(8*n):=by rw[Nat.pow_add]
   rw[byt,Nat.mod_eq_of_lt (by omega)];exact this
  rw[if_neg (by omega),e]
end
end Go.Proofs.Ytdomjicpdbblnaa