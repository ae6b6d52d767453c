import Derived.Deep.MidRow
import Derived.Deep.Draws
import Derived.Test.YtonbpnbhjghfbaaXANum
namespace Go.Proofs.Ytonbpnbhjghfbaa
open Go.RowKit Go.Proofs.Try
set_option maxRecDepth 100000
set_option maxHeartbeats 8000000
section
def blk(w:World)(b:Nat):Array Value:=
 match w.heap[b]? with
 | some (.cells c _ _)=>c
 | _ =>#[]
def frz(w:World)(b:Nat):Nat×Nat:=
 match w.heap[b]? with
 | some (.cells _ _ f)=>f
 | _=>(0,0)
def setBlk(w:World)(b:Nat)(d:Array Value):World:=
 { w with heap:=w.heap.modify b fun
  | .cells _ e f=>.cells d e f
  | o=>o }
def Pre(n m:Nat):Prop:=n≤m
theorem pre_self(n:Nat):Pre n n:=Nat.le_refl n
theorem pre_add(n m k:Nat)(h:Pre n m):Pre n (m+k):=Nat.le_trans h (Nat.le_add_right m k)
theorem pre_0(n:Nat):Pre n n=True:=eq_true (pre_self n)
section
variable {n a b c d e f g h i j k l o p q r s t u v w x y z A B C D E F G H I J K L M N O P:Nat}
theorem pre_1:Pre n (n+a)=True:=eq_true (pre_add _ _ _ (pre_self n))
theorem pre_2:Pre n (n+a+b)=True:=eq_true (pre_add _ _ _ (of_eq_true pre_1))
theorem pre_3:Pre n (n+a+b+c)=True:=eq_true (pre_add _ _ _ (of_eq_true pre_2))
theorem pre_4:Pre n (n+a+b+c+d)=True:=eq_true (pre_add _ _ _ (of_eq_true pre_3))
theorem pre_5:Pre n (n+a+b+c+d+e)=True:=eq_true (pre_add _ _ _ (of_eq_true pre_4))
theorem pre_6:Pre n (n+a+b+c+d+e+f)=True:=eq_true (pre_add _ _ _ (of_eq_true pre_5))
theorem pre_7:Pre n (n+a+b+c+d+e+f+g)=True:=eq_true (pre_add _ _ _ (of_eq_true pre_6))
theorem pre_8:Pre n (n+a+b+c+d+e+f+g+h)=True:=eq_true (pre_add _ _ _ (of_eq_true pre_7))
theorem pre_9:Pre n (n+a+b+c+d+e+f+g+h+i)=True:=eq_true (pre_add _ _ _ (of_eq_true pre_8))
theorem pre_10:Pre n (n+a+b+c+d+e+f+g+h+i+j)=True:=eq_true (pre_add _ _ _ (of_eq_true pre_9))
theorem pre_11:Pre n (n+a+b+c+d+e+f+g+h+i+j+k)=True:=eq_true (pre_add _ _ _ (of_eq_true pre_10))
theorem pre_12:Pre n (n+a+b+c+d+e+f+g+h+i+j+k+l)=True:=eq_true (pre_add _ _ _ (of_eq_true pre_11))
theorem pre_13:Pre n (n+a+b+c+d+e+f+g+h+i+j+k+l+o)=True:=eq_true (pre_add _ _ _ (of_eq_true pre_12))
theorem pre_14:Pre n (n+a+b+c+d+e+f+g+h+i+j+k+l+o+p)=True:=eq_true (pre_add _ _ _ (of_eq_true pre_13))
theorem pre_15:Pre n (n+a+b+c+d+e+f+g+h+i+j+k+l+o+p+q)=True:=eq_true (pre_add _ _ _ (of_eq_true pre_14))
theorem pre_16:Pre n (n+a+b+c+d+e+f+g+h+i+j+k+l+o+p+q+r)=True:=eq_true (pre_add _ _ _ (of_eq_true pre_15))
theorem pre_17:Pre n (n+a+b+c+d+e+f+g+h+i+j+k+l+o+p+q+r+s)=True:=eq_true (pre_add _ _ _ (of_eq_true pre_16))
theorem pre_18:Pre n (n+a+b+c+d+e+f+g+h+i+j+k+l+o+p+q+r+s+t)=True:=eq_true (pre_add _ _ _ (of_eq_true pre_17))
theorem pre_19:Pre n (n+a+b+c+d+e+f+g+h+i+j+k+l+o+p+q+r+s+t+u)=True:=eq_true (pre_add _ _ _ (of_eq_true pre_18))
theorem pre_20:Pre n (n+a+b+c+d+e+f+g+h+i+j+k+l+o+p+q+r+s+t+u+v)=True:=eq_true (pre_add _ _ _ (of_eq_true pre_19))
theorem pre_21:Pre n (n+a+b+c+d+e+f+g+h+i+j+k+l+o+p+q+r+s+t+u+v+w)=True:=eq_true (pre_add _ _ _ (of_eq_true pre_20))
theorem pre_22:Pre n (n+a+b+c+d+e+f+g+h+i+j+k+l+o+p+q+r+s+t+u+v+w+x)=True:=eq_true (pre_add _ _ _ (of_eq_true pre_21))
theorem pre_23:Pre n (n+a+b+c+d+e+f+g+h+i+j+k+l+o+p+q+r+s+t+u+v+w+x+y)=True:=eq_true (pre_add _ _ _ (of_eq_true pre_22))
theorem pre_24:Pre n (n+a+b+c+d+e+f+g+h+i+j+k+l+o+p+q+r+s+t+u+v+w+x+y+z)=True:=eq_true (pre_add _ _ _ (of_eq_true pre_23))
theorem pre_25:Pre n (n+a+b+c+d+e+f+g+h+i+j+k+l+o+p+q+r+s+t+u+v+w+x+y+z+A)=True:=eq_true (pre_add _ _ _ (of_eq_true pre_24))
theorem pre_26:Pre n (n+a+b+c+d+e+f+g+h+i+j+k+l+o+p+q+r+s+t+u+v+w+x+y+z+A+B)=True:=eq_true (pre_add _ _ _ (of_eq_true pre_25))
theorem pre_27:Pre n (n+a+b+c+d+e+f+g+h+i+j+k+l+o+p+q+r+s+t+u+v+w+x+y+z+A+B+C)=True:=eq_true (pre_add _ _ _ (of_eq_true pre_26))
theorem pre_28:Pre n (n+a+b+c+d+e+f+g+h+i+j+k+l+o+p+q+r+s+t+u+v+w+x+y+z+A+B+C+D)=True:=eq_true (pre_add _ _ _ (of_eq_true pre_27))
theorem pre_29:Pre n (n+a+b+c+d+e+f+g+h+i+j+k+l+o+p+q+r+s+t+u+v+w+x+y+z+A+B+C+D+E)=True:=eq_true (pre_add _ _ _ (of_eq_true pre_28))
theorem pre_30:Pre n (n+a+b+c+d+e+f+g+h+i+j+k+l+o+p+q+r+s+t+u+v+w+x+y+z+A+B+C+D+E+F)=True:=eq_true (pre_add _ _ _ (of_eq_true pre_29))
theorem pre_31:Pre n (n+a+b+c+d+e+f+g+h+i+j+k+l+o+p+q+r+s+t+u+v+w+x+y+z+A+B+C+D+E+F+G)=True:=eq_true (pre_add _ _ _ (of_eq_true pre_30))
theorem pre_32:Pre n (n+a+b+c+d+e+f+g+h+i+j+k+l+o+p+q+r+s+t+u+v+w+x+y+z+A+B+C+D+E+F+G+H)=True:=eq_true (pre_add _ _ _ (of_eq_true pre_31))
theorem pre_33:Pre n (n+a+b+c+d+e+f+g+h+i+j+k+l+o+p+q+r+s+t+u+v+w+x+y+z+A+B+C+D+E+F+G+H+I)=True:=eq_true (pre_add _ _ _ (of_eq_true pre_32))
theorem pre_34:Pre n (n+a+b+c+d+e+f+g+h+i+j+k+l+o+p+q+r+s+t+u+v+w+x+y+z+A+B+C+D+E+F+G+H+I+J)=True:=eq_true (pre_add _ _ _ (of_eq_true pre_33))
theorem pre_35:Pre n (n+a+b+c+d+e+f+g+h+i+j+k+l+o+p+q+r+s+t+u+v+w+x+y+z+A+B+C+D+E+F+G+H+I+J+K)=True:=eq_true (pre_add _ _ _ (of_eq_true pre_34))
theorem pre_36:Pre n (n+a+b+c+d+e+f+g+h+i+j+k+l+o+p+q+r+s+t+u+v+w+x+y+z+A+B+C+D+E+F+G+H+I+J+K+L)=True:=eq_true (pre_add _ _ _ (of_eq_true pre_35))
theorem pre_37:Pre n (n+a+b+c+d+e+f+g+h+i+j+k+l+o+p+q+r+s+t+u+v+w+x+y+z+A+B+C+D+E+F+G+H+I+J+K+L+M)=True:=eq_true (pre_add _ _ _ (of_eq_true pre_36))
theorem pre_38:Pre n (n+a+b+c+d+e+f+g+h+i+j+k+l+o+p+q+r+s+t+u+v+w+x+y+z+A+B+C+D+E+F+G+H+I+J+K+L+M+N)=True:=eq_true (pre_add _ _ _ (of_eq_true pre_37))
theorem pre_39:Pre n (n+a+b+c+d+e+f+g+h+i+j+k+l+o+p+q+r+s+t+u+v+w+x+y+z+A+B+C+D+E+F+G+H+I+J+K+L+M+N+O)=True:=eq_true (pre_add _ _ _ (of_eq_true pre_38))
theorem pre_40:Pre n (n+a+b+c+d+e+f+g+h+i+j+k+l+o+p+q+r+s+t+u+v+w+x+y+z+A+B+C+D+E+F+G+H+I+J+K+L+M+N+O+P)=True:=eq_true (pre_add _ _ _ (of_eq_true pre_39))
end
structure Grow where
 os:List Obj
 n:Nat
def gro(w:World)(g:Grow):World:={ w with heap:=w.heap++g.os.toArray,drawn:=g.n }
theorem ext_world{v w:World}(h1:v.heap=w.heap)(h2:v.tape=w.tape)(h3:v.drawn=w.drawn)(h4:v.os=w.os)(h5:v.output=w.output):v=w:=by
 cases v;cases w;simp_all
theorem gro_size(w:World)(g:Grow):(gro w g).heap.size=w.heap.size+g.os.length:=by simp[gro]
theorem gro_heap(w:World)(g:Grow)(b:Nat)(h:b<w.heap.size):(gro w g).heap[b]? = w.heap[b]?:=by
 grind [gro]
theorem gro_drew(w:World)(g:Grow):(gro w g).drew=gro w ⟨g.os,g.n+1⟩:=rfl
theorem gro_drewN(w:World)(g:Grow)(k:Nat):(gro w g).drewN k=gro w ⟨g.os,g.n+k⟩:=rfl
theorem drew_gro(w:World)(g:Grow):gro w.drew g=gro w g:=rfl
theorem drewN_gro(w:World)(g:Grow)(k:Nat):gro (w.drewN k) g=gro w g:=rfl
theorem gro_gro(w:World)(g h:Grow):gro (gro w g) h=gro w ⟨g.os++h.os,h.n⟩:=by simp[gro]
theorem blk_of(w v:World)(b:Nat)(h:v.heap[b]? = w.heap[b]?):blk v b=blk w b:=by unfold blk;rw[h]
theorem frz_of(w v:World)(b:Nat)(h:v.heap[b]? = w.heap[b]?):frz v b=frz w b:=by unfold frz;rw[h]
theorem blk_gro(w:World)(g:Grow)(b:Nat)(h:Pre (b+1) w.heap.size):blk (gro w g) b=blk w b:=blk_of _ _ _ (gro_heap w g b h)
theorem frz_gro(w:World)(g:Grow)(b:Nat)(h:Pre (b+1) w.heap.size):frz (gro w g) b=frz w b:=frz_of _ _ _ (gro_heap w g b h)
theorem blk_drew(w:World)(b:Nat):blk w.drew b=blk w b:=rfl
theorem frz_drew(w:World)(b:Nat):frz w.drew b=frz w b:=rfl
theorem blk_drewN(w:World)(k b:Nat):blk (w.drewN k) b=blk w b:=rfl
theorem frz_drewN(w:World)(k b:Nat):frz (w.drewN k) b=frz w b:=rfl
theorem blk_alloc_at(w:World)(c:Array Value)(t:TypeId)(f:Nat×Nat)(n:Nat)(h:n=w.heap.size):blk (w.alloc (.cells c t f)) n=c:=by
 subst h;show (match (w.heap.push (.cells c t f))[w.heap.size]? with|some (.cells c _ _)=>c|_ =>#[])=c;simp
theorem frz_alloc_at(w:World)(c:Array Value)(t:TypeId)(f:Nat×Nat)(n:Nat)(h:n=w.heap.size):frz (w.alloc (.cells c t f)) n=f:=by
 subst h;show (match (w.heap.push (.cells c t f))[w.heap.size]? with|some (.cells _ _ f)=>f|_=>(0,0))=f;simp
theorem blk_alloc(w:World)(o:Obj)(n:Nat)(h:Pre (n+1) w.heap.size):blk (w.alloc o) n=blk w n:=blk_of _ _ _ (Below.heap_alloc w o n h)
theorem frz_alloc(w:World)(o:Obj)(n:Nat)(h:Pre (n+1) w.heap.size):frz (w.alloc o) n=frz w n:=frz_of _ _ _ (Below.heap_alloc w o n h)
theorem cell_gro(w:World)(g:Grow)(b i:Nat)(h:Pre (b+1) w.heap.size):(gro w g).cell? ⟨b,i,none⟩=w.cell? ⟨b,i,none⟩:=
 World.cell?_of_block (w:=w) (gro_heap w g b h)
theorem frozen_gro(w:World)(g:Grow)(b i:Nat)(h:Pre (b+1) w.heap.size):(gro w g).frozen? ⟨b,i,none⟩=w.frozen? ⟨b,i,none⟩:=
 World.frozen?_of_block (w:=w) (gro_heap w g b h)
theorem cell_alloc_pre(w:World)(o:Obj)(b i:Nat)(h:Pre (b+1) w.heap.size):(w.alloc o).cell? ⟨b,i,none⟩=w.cell? ⟨b,i,none⟩:=
 World.cell?_of_block (w:=w) (Below.heap_alloc w o b h)
theorem frozen_alloc_pre(w:World)(o:Obj)(b i:Nat)(h:Pre (b+1) w.heap.size):(w.alloc o).frozen? ⟨b,i,none⟩=w.frozen? ⟨b,i,none⟩:=
 World.frozen?_of_block (w:=w) (Below.heap_alloc w o b h)
theorem cell_blk(w:World)(b i:Nat):w.cell? ⟨b,i,none⟩=(blk w b)[i]?:=by
 unfold World.cell? blk
 split <;> simp_all
theorem setBlk_drew(w:World)(b:Nat)(d:Array Value):setBlk w.drew b d=(setBlk w b d).drew:=rfl
theorem setCell_drewN(w:World)(k:Nat)(a:Addr)(v:Value):(w.drewN k).setCell a v=(w.setCell a v).drewN k:=rfl
theorem alloc_drewN(w:World)(k:Nat)(o:Obj):(w.drewN k).alloc o=(w.alloc o).drewN k:=rfl
theorem setBlk_drewN(w:World)(k b:Nat)(d:Array Value):setBlk (w.drewN k) b d=(setBlk w b d).drewN k:=rfl
theorem setBlk_alloc_at(w:World)(c:Array Value)(t:TypeId)(f:Nat×Nat)(n:Nat)(d:Array Value)(h:n=w.heap.size):setBlk (w.alloc (.cells c t f)) n d=w.alloc (.cells d t f):=by
 subst h;unfold setBlk World.alloc
 congr 1
 grind
theorem modify_push(h:Array Obj)(o:Obj)(n:Nat)(F:Obj→Obj)(hn:n<h.size):(h.push o).modify n F=(h.modify n F).push o:=by
 apply Array.ext_getElem?
 intro k;simp only[Array.getElem?_modify,Array.getElem?_push,Array.size_modify]
 by_cases hk:k=h.size
 ·subst hk;simp[Nat.ne_of_lt hn]
 ·simp[hk]
theorem modify_append(h:Array Obj)(l:Array Obj)(n:Nat)(F:Obj→Obj)(hn:n<h.size):(h++l).modify n F=h.modify n F++l:=by
 apply Array.ext_getElem?
 intro k;simp only[Array.getElem?_modify,Array.getElem?_append,Array.size_modify]
 by_cases hk:k<h.size
 ·simp[hk]
 ·simp[hk,show n≠k from by omega]
theorem setBlk_alloc(w:World)(o:Obj)(n:Nat)(d:Array Value)(h:Pre (n+1) w.heap.size):setBlk (w.alloc o) n d=(setBlk w n d).alloc o:=by
 unfold setBlk World.alloc
 congr 1
 exact modify_push _ _ _ _ h
theorem setBlk_gro(w:World)(g:Grow)(n:Nat)(d:Array Value)(h:Pre (n+1) w.heap.size):setBlk (gro w g) n d=gro (setBlk w n d) g:=by
 unfold setBlk gro
 congr 1
 exact modify_append _ _ _ _ h
theorem setCell_gro(w:World)(g:Grow)(b i:Nat)(v:Value)(h:Pre (b+1) w.heap.size):(gro w g).setCell ⟨b,i,none⟩ v=gro (w.setCell ⟨b,i,none⟩ v) g:=by
 unfold World.setCell gro
 congr 1
 exact modify_append _ _ _ _ h
theorem setCell_alloc_pre(w:World)(o:Obj)(b i:Nat)(v:Value)(h:Pre (b+1) w.heap.size):(w.alloc o).setCell ⟨b,i,none⟩ v=(w.setCell ⟨b,i,none⟩ v).alloc o:=by
 unfold World.setCell World.alloc
 congr 1
 exact modify_push _ _ _ _ h
theorem size_setBlk(w:World)(b:Nat)(d:Array Value):(setBlk w b d).heap.size=w.heap.size:=by simp[setBlk]
theorem size_setCell(w:World)(a:Addr)(v:Value):(w.setCell a v).heap.size=w.heap.size:=by simp[World.setCell]
theorem blk_range(w:World)(b:Nat):w.rangeAt b 0 (blk w b).toList:=fun j v d=>by
 rw[Nat.zero_add,cell_blk]
 simpa using d
theorem load_blk{P:Program}{d:TypeDesc}{ty:TypeId}(n:Nat)(hu:P.underlying ty=some d)(hd:d.isRow=true)(hi:(P.info? ty).map (·.size)=some n)(w:World)(b:Nat)(hs:(blk w b).size=n):
 (loadVar ty ⟨b,0,none⟩).run P w=.ok (.agg (blk w b)) w:=by
 have:=run_loadVar_mid w b 0 ty (blk w b).toList d (blk_range w b) hu hd (by rw[hi];simp[hs])
 simpa using this
def setL(c:Array Value):Nat→List Value→Array Value
 | _,[]=>c
 | o,v :: r=>setL (c.setIfInBounds o v) (o+1) r
theorem setL_get:∀(vs:List Value) (c:Array Value) (o j:Nat),(setL c o vs)[j]? = if o≤j∧j<o+vs.length∧j<c.size then vs[j-o]? else c[j]?
 | [],c,o,j=>by simp[setL];omega
 | v :: r,c,o,j=>by
  rw[setL,setL_get r];simp only[Array.size_setIfInBounds,List.length_cons,Array.getElem?_setIfInBounds]
  by_cases h1:j=o
  ·subst h1
   by_cases h2:j<c.size
   ·simp[h2];intro h;omega
   ·simp[h2]
  ·by_cases h2:o<j
   ·obtain⟨m,rfl⟩:∃m,j=o+1+m:=⟨j-(o+1),by omega⟩
    have d:o+1+m-(o+1)=m:=by omega
    have f:o+1+m-o=m+1:=by omega
    rw[d,f,List.getElem?_cons_succ]
    have i:¬o=o+1+m:=by omega
    rw[if_neg i]
    by_cases h3:m<r.length∧o+1+m<c.size
    ·rw[if_pos (by omega),if_pos (by omega)]
    ·rw[if_neg (by omega),if_neg (by omega)]
   ·rw[if_neg (by omega),if_neg (by omega),if_neg (by omega)]
theorem setL_whole(c d:Array Value)(h:d.size=c.size):setL c 0 d.toList=d:=by
 apply Array.ext_getElem?
 intro j;rw[setL_get]
 by_cases hj:j<c.size
 ·rw[if_pos ⟨by omega,by simp;omega,hj⟩];simp
 ·rw[if_neg (by omega)];rw[Array.getElem?_eq_none (by omega),Array.getElem?_eq_none (by omega)]
theorem setBlk_setBlk(w:World)(b:Nat)(c d:Array Value):setBlk (setBlk w b c) b d=setBlk w b d:=by
 unfold setBlk
 congr 1
 apply Array.ext_getElem?
 intro k;simp only[Array.getElem?_modify]
 by_cases hk:b=k
 ·subst hk
  cases h:w.heap[b]? with
  | none=>simp
  | some o=>cases o <;> simp
 ·simp[hk]
theorem setCell_setBlk(w:World)(b o:Nat)(v:Value):w.setCell ⟨b,o,none⟩ v=setBlk w b ((blk w b).setIfInBounds o v):=by
 unfold World.setCell setBlk blk
 congr 1
 apply Array.ext_getElem?
 intro k;simp only[Array.getElem?_modify]
 by_cases hk:b=k
 ·subst hk
  cases h:w.heap[b]? with
  | none=>simp
  | some o=>cases o <;> simp
 ·simp[hk]
theorem blk_setBlk(w:World)(b:Nat)(d:Array Value)(h:0<(blk w b).size):blk (setBlk w b d) b=d:=by
 unfold blk setBlk at *;simp only[Array.getElem?_modify]
 cases hw:w.heap[b]? with
 | none=>simp[hw]at h
 | some o=>cases o <;> simp_all
theorem setCells_setBlk:∀(vs:List Value) (w:World) (b o:Nat),0<(blk w b).size→w.setCells b o vs=setBlk w b (setL (blk w b) o vs)
 | [],w,b,o,h=>by
  rw[World.setCells,setL];refine ext_world ?_ rfl rfl rfl rfl
  apply Array.ext_getElem?
  intro k;simp only[setBlk,Array.getElem?_modify]
  by_cases hk:b=k
  ·subst hk
   cases hw:w.heap[b]? with
   | none=>simp
   | some o=>cases o <;> simp[blk,hw]
  ·simp[hk]
 | v :: r,w,b,o,h=>by
  have h1:0<(blk (setBlk w b ((blk w b).setIfInBounds o v)) b).size:=by rw[blk_setBlk _ _ _ h];simpa using h
  rw[World.setCells,setL,setCell_setBlk,setCells_setBlk r _ b (o+1) h1,blk_setBlk _ _ _ h,setBlk_setBlk]
theorem store_blk{P:Program}{ty:TypeId}(n:Nat)(hn:0<n)(hi:(P.info? ty).map (·.size)=some n)(w:World)(b:Nat)(d:Array Value)(hd:d.size=n)(h1:d.all (·.oneCell')=true)(hs:(blk w b).size=n)(hf:frz w b=(0,0)):
 (storeVar ty ⟨b,0,none⟩ (.agg d)).run P w=.ok () (setBlk w b d):=by
 have f:w.there b 0 d.size:=fun j h=>by
  rw[Nat.zero_add];refine⟨by rw[cell_blk,Array.getElem?_eq_getElem (by omega)];rfl,?_⟩;unfold frz at hf;unfold World.frozen?
  split <;> simp_all
 rw[run_storeVar_mid w b 0 ty d f (by rw[hi,hd]) h1,setCells_setBlk _ _ _ _ (by omega),setL_whole _ _ (by omega)]
theorem nw_one(n a:Nat):(nw n a).all (·.oneCell')=true:=by
 refine Array.all_eq_true_iff_forall_mem.2 fun v d=>?_;simp only[nw,List.mem_toArray,List.mem_map]at d;obtain⟨k,_,rfl⟩:=d
 rfl
def Gr(w v:World):Prop:=∃g,v=gro w g
theorem Gr.refl(w:World):Gr w w:=⟨⟨[],w.drawn⟩,by simp[gro]⟩
theorem Gr.alloc{w v:World}(h:Gr w v)(o:Obj):Gr w (v.alloc o):=by
 obtain⟨g,rfl⟩:=h;refine⟨⟨g.os++[o],g.n⟩,?_⟩;unfold World.alloc gro;simp
theorem Gr.drew{w v:World}(h:Gr w v):Gr w v.drew:=by
 obtain⟨g,rfl⟩:=h;exact⟨_,gro_drew w g⟩
theorem Gr.drewN{w v:World}(h:Gr w v)(k:Nat):Gr w (v.drewN k):=by
 obtain⟨g,rfl⟩:=h;exact⟨_,gro_drewN w g k⟩
theorem Gr.gro{w v:World}(h:Gr w v)(k:Grow):Gr w (gro v k):=by
 obtain⟨g,rfl⟩:=h;exact⟨_,gro_gro w g k⟩
theorem Gr.trans{u w v:World}(h:Gr u w)(k:Gr w v):Gr u v:=by
 obtain⟨g,rfl⟩:=k;exact h.gro g
theorem Gr.below{w v:World}(h:Gr w v):Below w.heap.size w v:=by
 obtain⟨g,rfl⟩:=h;exact⟨rfl,rfl,rfl,by rw[gro_size];omega,fun k d=>gro_heap w g k d⟩
theorem gen_w{P:Program}{c:Code}{Q:Exit→Act→World→Prop}{a:Act}{W:World}(R:World→Prop)(h:R W)(k:∀v,R v→c.wp P Q a v):c.wp P Q a W:=k W h
theorem hkA{f:FuncId}{a:Array Value}{v:Value}{Q:Ending→World→Prop}{w:World}(h:Hid (∀w,Calls prog f a w fun e w'=>e=.returned v∧Gr w w'))(k:∀g:Grow,Q (.returned v) (gro w g)):Calls prog f a w Q:=(h w).mono (by rintro e w' ⟨rfl,g,rfl⟩;exact k g)
abbrev Hu(p:Prop):Prop:=Hid (Unit→p)
abbrev Cg(f:FuncId)(a:Array Value)(w:World)(v:Value):Prop:=Calls prog f a w fun e w'=>e=.returned v∧Gr w w'
theorem grA{w v:World}(h:Gr w v:=by repeat (first|exact Gr.refl _|apply Gr.drewN|apply Gr.drew|apply Gr.alloc|apply Gr.gro)):Gr w v:=h
theorem exl{α:Sort _}(a:α):∃q,a=q:=⟨a,rfl⟩
theorem wuA{x:Int}(h:0≤x∧x<18446744073709551616:=by omega):IntKind.u64.wrap x=x:=by rw[IntKind.wrap_u64];omega
theorem wiA{x:Int}(h : -9223372036854775808≤x∧x<9223372036854775808:=by omega):IntKind.i64.wrap x=x:=by rw[IntKind.wrap_i64];omega
end
section
def loadS(ty:TypeId)(v:Value):Sem Value:=Instr.loadAt ty v
def storeS(ty:TypeId)(p v:Value):Sem Unit:=Instr.storeAt ty p v
def zvS(ty:TypeId):Sem Value:=zeroValue ty
def readR(tmps:Array Value):ResultVar→Sem Value
 | .tmp t=>pure (tmps.getD t undef)
 | .cell a t=>do loadVar t (←asAddr (tmps.getD a undef))
theorem res_one{P:Program}{fn:Func}{r:ResultVar}{tmps:Array Value}{w:World}{v:Value}(h:fn.results =#[r])(h1:(readR tmps r).run P w=.ok v w):(results fn tmps).run P w=.ok v w:=by
 have e:(results fn tmps)=(do let vs ←fn.results.mapM (readR tmps);pure (if h:vs.size=1 then vs[0] else .tuple vs)):=by
  first|rfl|(unfold results;congr 1)
 rw[e,h];simp[h1]
theorem res_two{P:Program}{fn:Func}{r s:ResultVar}{tmps:Array Value}{w:World}{v u:Value}(h:fn.results =#[r,s])(h1:(readR tmps r).run P w=.ok v w)(h2:(readR tmps s).run P w=.ok u w):
 (results fn tmps).run P w=.ok (.tuple #[v,u]) w:=by
 have e:(results fn tmps)=(do let vs ←fn.results.mapM (readR tmps);pure (if h:vs.size=1 then vs[0] else .tuple vs)):=by
  first|rfl|(unfold results;congr 1)
 rw[e,h];simp[h1,h2]
theorem rd_tmp{P:Program}{tmps:Array Value}{t:Tmp}{w:World}{v:Value}(h:tmps.getD t undef=v):(readR tmps (.tmp t)).run P w=.ok v w:=by
 subst h
 rfl
abbrev LdI(T:Nat):Prop:=∀v,Instr.loadAt T v=loadS T v
abbrev StI(T:Nat):Prop:=∀p v,Instr.storeAt T p v=storeS T p v
theorem bo1{P:Program}{fn:Func}{R:Ending→World→Prop}{a:Act}{w:World}{v:Value}{r:ResultVar}(h:fn.results =#[r])(h1:(readR a.tmps r).run P w=.ok v w)(hR:R (.returned v) w)(hd:a.defers=[]:=by rfl):bodyPost P fn R .ret a w:=bodyPost_ret (res_one h h1) hd hR
theorem bo2{P:Program}{fn:Func}{R:Ending→World→Prop}{a:Act}{w:World}{v:Value}{r:ResultVar}{s:Tmp}(h:fn.results =#[r,.tmp s])(h1:(readR a.tmps r).run P w=.ok v w)(hR:R (.returned (.tuple #[v,a.tmps.getD s undef])) w)(hd:a.defers=[]:=by rfl):bodyPost P fn R .ret a w:=bodyPost_ret (res_two h h1 (rd_tmp rfl)) hd hR
end
end Go.Proofs.Ytonbpnbhjghfbaa