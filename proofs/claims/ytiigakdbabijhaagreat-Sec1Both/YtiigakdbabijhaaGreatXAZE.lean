import Derived.Test.YtiigakdbabijhaaGreatXAFRt
import Derived.Test.YtiigakdbabijhaaGreatXAZB
import Derived.Test.YtiigakdbabijhaaGreatXAByt
import Derived.Test.YtiigakdbabijhaaGreatXAOf
namespace Go.Proofs.YtiigakdbabijhaaGreat
open Go.RowKit Go.Proofs.Tryz
set_option maxRecDepth 100000
set_option maxHeartbeats 8000000
section
theorem szN_le(k:Nat):szN k≤72:=by
 have:=bl_576 _ (pN_M k);unfold szN
 omega
theorem szN_bl{k x:Nat}(h:x<pN k):bl x≤8*szN k:=
 (bl_le _ _).2 (Nat.lt_trans h ((bl_le _ _).1 (by unfold szN;omega)))
theorem szN_pos{k:Nat}(h1:1≤k)(h2:k≤15):0<szN k:=by
 have:=pN_bd k h1 h2
 have d:¬bl (pN k)≤0:=fun e=>by have:=(bl_le _ _).1 e;omega
 unfold szN
 omega
theorem rh_ne{k x:Nat}(h1:1≤k)(h2:k≤15)(h:x<pN k):rhN k x≠0:=by
 haveI:NeZero (pN k):=⟨by omega⟩
 intro e;have:=(on_iff h1 h2 ⟨x,h⟩ 0).2 (by rw[e];exact Nat.zero_mod _);refine EC.no_two k h1 h2 ⟨x,h⟩ ?_;unfold EC.OnC at this;rw[←this]
 grobner
theorem rh_lt{k:Nat}(h1:1≤k)(h2:k≤15)(x:Nat):rhN k x<pN k:=Nat.mod_lt _ (by have:=pN_bd k h1 h2;omega)
def isY(k x:Nat):Bool:=decide (x<pN k)&&decide (sqE k (rhN k x)=0)
def ysN(k b x:Nat):Nat:=if b=0 then sqR k (rhN k x) else pN k-sqR k (rhN k x)
theorem isY_spec{k x:Nat}(h1:1≤k)(h2:k≤15)(h:isY k x=true):x<pN k∧sqE k (rhN k x)=0∧0<sqR k (rhN k x)∧sqR k (rhN k x)<pN k∧sqR k (rhN k x)%2=0∧sqR k (rhN k x)*sqR k (rhN k x)%pN k=rhN k x:=by
 simp only[isY,Bool.and_eq_true,decide_eq_true_eq]at h
 by_cases e:cN k (rhN k x)*cN k (rhN k x)%pN k=rhN k x
 ·obtain⟨a,b,c,d⟩:=sq_spec k _ h1 h2 e;refine⟨h.1,a,Nat.pos_of_ne_zero fun z=>rh_ne h1 h2 h.1 ?_,b,c,d⟩;rw[←d,z];exact Nat.zero_mod _
 ·rw[(sq_none k _ e).1]at h;exact absurd h.2 (by decide)
theorem ysN_on{k b x:Nat}(h1:1≤k)(h2:k≤15)(h:isY k x=true)(hb:b<2):OnQ k (x,ysN k b x,false)∧ysN k b x%2=b:=by
 obtain⟨d,-,l,i,q,f⟩:=isY_spec h1 h2 h;have v:=pN_bd k h1 h2
 have j:(pN k-sqR k (rhN k x))*(pN k-sqR k (rhN k x))%pN k=rhN k x:=by rw[sq_neg _ _ (by omega)];exact f
 unfold OnQ onB ysN
 split
 ·simp[d,i,f]
  omega
 ·simp[d,j]
  omega
theorem ysN_of{k:Nat}{P:Q3}(h1:1≤k)(h2:k≤15)(h:OnQ k P)(hi:P.2.2=false):isY k P.1=true∧ysN k (P.2.1%2) P.1=P.2.1:=by
 obtain⟨x,y,f⟩:=P;dsimp only at hi;subst hi;have q:=pN_bd k h1 h2;simp only[OnQ,onB,Bool.false_eq_true,if_false,Bool.and_eq_true,decide_eq_true_eq]at h;obtain⟨i,v,e⟩:=h;have j:=rh_ne h1 h2 i;have d:=rh_lt h1 h2 x;have A:=(sq_iff k _ h1 h2 j d).2 (of_sq (prm_pN k h1 h2) q.2.2 j e)
 have l:isY k x=true:=by simp[isY,i,(sq_spec k _ h1 h2 A).1]
 refine⟨l,?_⟩;obtain⟨-,-,C,d,D,B⟩:=isY_spec h1 h2 l;have G:=sq_pm (prm_pN k h1 h2) d v (B.trans e.symm);dsimp only;unfold ysN
 split <;> omega
def putL(k:Nat)(P:Q3)(sh:Bool):List UInt8:=bif sh then UInt8.ofNat (2+P.2.1%2) :: bs (szN k) P.1 else 4 :: (bs (szN k) P.1++bs (szN k) P.2.1)
def gtL(k:Nat):List UInt8→Nat×Nat×Int
 | []=>(0,0,2102)
 | f :: r=>if f=4∧r.length=2*szN k then bif onB k (bn (r.take (szN k))) (bn (r.drop (szN k))) false then(bn (r.take (szN k)),bn (r.drop (szN k)),0) else(0,0,2101)
  else if(f=2∨f=3)∧r.length=szN k then bif isY k (bn r) then(bn r,ysN k (f.toNat-2) (bn r),0) else(0,0,2101)
  else(0,0,2102)
theorem gtL_cons(k:Nat)(f:UInt8)(r:List UInt8):gtL k (f :: r)=if f=4∧r.length=2*szN k then bif onB k (bn (r.take (szN k))) (bn (r.drop (szN k))) false then(bn (r.take (szN k)),bn (r.drop (szN k)),0) else(0,0,2101)
 else if(f=2∨f=3)∧r.length=szN k then bif isY k (bn r) then(bn r,ysN k (f.toNat-2) (bn r),0) else(0,0,2101)
 else(0,0,2102):=rfl
theorem gt_put{k:Nat}{P:Q3}(h1:1≤k)(h2:k≤15)(h:OnQ k P)(hi:P.2.2=false)(sh:Bool):gtL k (putL k P sh)=(P.1,P.2.1,0):=by
 have d:=ysN_of h1 h2 h hi;obtain⟨x,y,f⟩:=P;dsimp only at hi d ⊢;subst hi
 have j:x<pN k∧y<pN k:=by
  simp only[OnQ,onB,Bool.false_eq_true,if_false,Bool.and_eq_true,decide_eq_true_eq]at h;exact⟨h.1,h.2.1⟩
 have bx:=bn_bs (szN k) x ((bl_le _ _).1 (szN_bl j.1));have i:=bn_bs (szN k) y ((bl_le _ _).1 (szN_bl j.2))
 cases sh with
 | false=>
  have l:(bs (szN k) x++bs (szN k) y).take (szN k)=bs (szN k) x:=List.take_left' (bs_length _ _);have q:(bs (szN k) x++bs (szN k) y).drop (szN k)=bs (szN k) y:=List.drop_left' (bs_length _ _)
  show gtL k (4 :: (bs (szN k) x++bs (szN k) y))=_
  rw[gtL_cons,if_pos ⟨rfl,by rw[List.length_append,bs_length,bs_length];omega⟩,l,q,bx,i,show onB k x y false=true from h]
  rfl
 | true=>
  show gtL k (UInt8.ofNat (2+y%2) :: bs (szN k) x)=_
  obtain e|e:y%2=0∨y%2=1:=by omega
  ·rw[e]at d ⊢;rw[gtL_cons,if_neg fun h=>absurd h.1 (by decide),if_pos ⟨by decide,bs_length _ _⟩,bx,d.1,cond_true];exact congrArg (fun z=>(x,z,(0:Int))) d.2
  ·rw[e]at d ⊢;rw[gtL_cons,if_neg fun h=>absurd h.1 (by decide),if_pos ⟨by decide,bs_length _ _⟩,bx,d.1,cond_true];exact congrArg (fun z=>(x,z,(0:Int))) d.2
theorem put_gt{k X Y:Nat}{l:List UInt8}(h1:1≤k)(h2:k≤15)(h:gtL k l=(X,Y,0)):OnQ k (X,Y,false)∧putL k (X,Y,false) (decide (l.length=1+szN k))=l:=by
 have x:=szN_pos h1 h2
 cases l with
 | nil=>simp[gtL]at h
 | cons f r=>
  rw[gtL_cons]at h
  by_cases hf:f=4∧r.length=2*szN k
  ·rw[if_pos hf]at h;obtain⟨rfl,d⟩:=hf
   cases ho:onB k (bn (r.take (szN k))) (bn (r.drop (szN k))) false with
   | false=>rw[ho]at h;simp at h
   | true=>
    rw[ho,cond_true]at h;simp only[Prod.mk.injEq,and_true]at h;obtain⟨rfl,rfl⟩:=h;refine⟨ho,?_⟩
    have j:(r.take (szN k)).length=szN k:=by rw[List.length_take];omega
    have q:(r.drop (szN k)).length=szN k:=by rw[List.length_drop];omega
    rw[decide_eq_false (by rw[List.length_cons];omega)];simp only[putL,cond_false];rw[bs_of _ _ j,bs_of _ _ q,List.take_append_drop]
  ·rw[if_neg hf]at h
   by_cases hf:(f=2∨f=3)∧r.length=szN k
   ·rw[if_pos hf]at h;obtain⟨hf,d⟩:=hf
    cases ho:isY k (bn r) with
    | false=>rw[ho]at h;simp at h
    | true=>
     rw[ho,cond_true]at h;simp only[Prod.mk.injEq,and_true]at h;obtain⟨rfl,rfl⟩:=h
     have v:f.toNat-2<2:=by rcases hf with rfl|rfl <;> decide
     have i:=ysN_on h1 h2 ho v;refine⟨i.1,?_⟩;rw[decide_eq_true (by rw[List.length_cons];omega)];simp only[putL,cond_true];rw[bs_of _ _ d,i.2]
     rcases hf with rfl|rfl <;> rfl
   ·rw[if_neg hf]at h;simp at h
theorem gt_err{k X Y:Nat}{E:Int}{l:List UInt8}(h:gtL k l=(X,Y,E)):E=0∨X=0∧Y=0∧(E=2101∨E=2102):=by
 cases l with
 | nil=>simp[gtL]at h;omega
 | cons f r=>
  rw[gtL_cons]at h
  split at h
  ·cases ho:onB k (bn (r.take (szN k))) (bn (r.drop (szN k))) false <;> rw[ho]at h <;> simp at h <;> omega
  ·split at h
   ·cases ho:isY k (bn r) <;> rw[ho]at h <;> simp at h <;> omega
   ·simp at h
    omega
end
section
attribute [local go_sem ↓] uz1
attribute [local go_sem] uz2
section
attribute [local go_sem] uz8
attribute [local go_sem ↓] loadCu_is storeCu_is zvCu_is buildCu_is loadPn_is storePn_is zvPn_is buildPn_is Go.wp_at_zero Go.wp_at_succ
attribute [local go_sem] loadCu storeCu zvCu cu_size loadCP loadCA loadCB loadCN loadCG loadCX loadCY cu_P cu_A cu_B cu_N cu_G cu_X cu_Y loadPn storePn zvPn loadPX loadPY buildPn0 buildPn2 pnt_size pnt_X pnt_Y pnt_18 frz_setBlk blk_setBlk setBlk_setBlk blk_other
theorem first_of(x y:Nat)(f:Bool)(w:World):Cg 33 #[.agg (pnt x y f)] w (.string ⟨#[UInt8.ofNat (2+y%2)]⟩):=by
 obtain⟨b,i⟩:=exl (bitN y 0);have A:Hid (∀w,Cg 52 #[.agg (nw 9 y),.int .i64 0] w (.int .i64 b)):=fun w=>i▸bit_any y 0 (by decide) w
 have B:b=y%2:=by rw[←i,bitN,Nat.pow_zero,Nat.div_one]
 clear i
 obtain e|e:y%2=0∨y%2=1:=by omega
 ·rw[e]
  have j:¬(b:Int)=1:=by omega
  clear B e
  go_enter func33,ntmps33
  go_upto_region 1 with fail
  refine gen_w (fun v=>Gr w v∧Vr v (w.heap.size) (pnt x y f)) ⟨grA,vrA⟩ ?_;rintro C ⟨G,h⟩;refine wp_wS [.c (pv (w.heap.size) 9),.N y,.c (.int .i64 b),.F] [1,2,3] ⟨.g 25 9 h rfl,.z A.out,.s (.binOp .eql 3 (.const (.int .i64 b)) (.const (.int .i64 1)) 3) rfl fun D d=>by simp[go_sem,exI,j],⟨⟩⟩ fun l H d q=>?_;simp only[fzw];clear q;replace G:=G.trans d;replace h:=h.gr d;clear d
  go_wp2_with fail
  go_ret
  exact⟨rfl,G⟩
 ·rw[e]
  have j:(b:Int)=1:=by omega
  clear B e
  go_enter func33,ntmps33
  go_upto_region 1 with fail
  refine gen_w (fun v=>Gr w v∧Vr v (w.heap.size) (pnt x y f)) ⟨grA,vrA⟩ ?_;rintro C ⟨G,h⟩;refine wp_wS [.c (pv (w.heap.size) 9),.N y,.c (.int .i64 b),.T] [1,2,3] ⟨.g 25 9 h rfl,.z A.out,.s (.binOp .eql 3 (.const (.int .i64 b)) (.const (.int .i64 1)) 3) rfl fun D d=>by simp[go_sem,exI,j],⟨⟩⟩ fun l H d q=>?_;simp only[fzw];clear q;replace G:=G.trans d;replace h:=h.gr d;clear d
  go_wp2_with fail
  go_ret
  exact⟨rfl,G⟩
theorem text_of{k a:Nat}(h:a<pN k)(w:World):Cg 34 #[.agg (cuK k),.agg (nw 9 a)] w (.string ⟨(bs (szN k) a).toArray⟩):=by
 obtain⟨t,f⟩:∃t:ByteArray,⟨(bs (szN k) a).toArray⟩=t:=⟨_,rfl⟩;have l:Hid (∀w,Cg 53 #[.agg (nw 9 a),.int .i64 (szN k:Int)] w (.tuple #[.string t,.int .i64 0])):=fun w=>f▸bytes_any a (szN k) (Nat.lt_trans h (pN_M k)) (szN_le k) (szN_bl h) w;rw[f];clear f h
 go_enter func34,ntmps34
 go_upto_region 1 with fail
 refine gen_w (fun v=>Gr w v∧Vr v (w.heap.size) (cuK k)∧Vr v (w.heap.size+1) (nw 9 a)) ⟨grA,vrA,vrA⟩ ?_;rintro A ⟨G,i,j⟩;refine wp_wS [.N a,.c (pv (w.heap.size) 57),.c (.int .i64 (szN k)),.E (.string t),.E (.string t),.c (.string t),.O,.c (.string t),.O] [0,2,3] ⟨.g 25 0 j rfl,.o 3 57 i rfl (by exact cu_57 _ _ _ _ _ _ _ _ _ _),.z l.out,⟨⟩⟩ fun q B d x=>?_;simp only[fzw];clear x;replace G:=G.trans d;replace i:=i.gr d;replace j:=j.gr d;clear d
 go_wp2_with fail
 go_ret
 exact⟨rfl,G⟩
theorem number_of{s:ByteArray}(h:s.size≤72){x:Nat}(hx:bn s.data.toList=x)(w:World):Cg 36 #[.string s] w (.agg (nw 9 x)):=by
 have C:Hid (∀w,Cg 54 #[.string s] w (.tuple #[.agg (nw 9 x),.int .i64 0])):=fun w=>hx▸natof_any s h w;clear h hx
 go_enter func36,ntmps36
 go_upto_region 1 with fail
 refine gen_w (fun v=>Gr w v∧Vr v (w.heap.size) (nw 9 0)) ⟨grA,vrA⟩ ?_;rintro D ⟨G,j⟩;refine wp_v false [.c (.string s),.E (.agg (nw 9 x)),.E (.agg (nw 9 x)),.N x,.O,.a,.u,.O] [1] [⟨5,6,25,nw 9 0,fun _=>nw 9 x⟩] ⟨.z C.out,⟨⟩⟩ ⟨.k zNat (.t rfl),⟨⟩⟩ fun l H i I q=>?_;simp only[fzw,Kw.a];obtain⟨⟨A,d⟩,-⟩:(D.heap.size≤(l 5 0).2∧Vr H (l 5 0).2 (nw 9 x))∧True:=q;clear I;replace G:=G.trans i;replace j:=j.gr i;clear i
 go_upto_region 2 with fail
 refine wp_wTS 1 [.N x] [0] ⟨.g 25 0 d rfl,⟨⟩⟩ (.s 25 (fun J=>pv (w.heap.size) 0) (fun J=>.agg (nw 9 x)) fun K L i P=>?_);have B:=(j.gr i).h;have Q:=(j.gr i).f;refine⟨setBlk L (w.heap.size) (nw 9 x),by simp[go_sem,exI,B,Q],?_⟩;simp only[fzw];clear P;replace G:=G.trans i;replace j:=j.gr i;replace d:=d.gr i;clear i
 go_wp2_with fail
 exact bo1 results36 (rd_nat (by rfl) (blk_setBlk _ _ _ (by rw[B,nw_size];decide))) ⟨rfl,gr_setNew G (by omega)⟩
theorem both_of{k x y:Nat}(h1:1≤k)(h2:k≤15){r:Bool}(hx:x<M)(hy:y<M)(h:onB k x y false=r)(w:World):
 Cg 35 #[.agg (cuK k),.agg (nw 9 x),.agg (nw 9 y)] w (.tuple #[.agg (pnt (bif r then x else 0) (bif r then y else 0) false),.int .i64 (bif r then 0 else 2101)]):=by
 have V:Hid (∀w,Cg 28 #[.int .i64 k,.agg (pnt x y false)] w (.bool r)):=fun w=>h▸on13_yes k h1 h2 x y false hx hy w;clear h hx hy
 go_enter func35,ntmps35
 go_upto_region 1 with fail
 refine gen_w (fun v=>Gr w v∧Vr v (w.heap.size) (cuK k)∧Vr v (w.heap.size+1) (nw 9 x)∧Vr v (w.heap.size+1+1) (nw 9 y)∧Vr v (w.heap.size+1+1+1) (pnt 0 0 false)) ⟨grA,vrA,vrA,vrA,vrA⟩ ?_;rintro S ⟨G,j,l,q,i⟩;have Y:w.heap.size+1+1+1<S.heap.size:=i.p;refine wp_v false [.N x,.N y,.c (.agg (pnt x y false)),.a,.u] [0,1] [⟨3,4,27,pnt 0 0 false,fun _=>pnt x y false⟩] ⟨.g 25 0 l rfl,.g 25 0 q rfl,⟨⟩⟩ ⟨.k zPnt (.t rfl),⟨⟩⟩ fun A W f h1 B=>?_;simp only[fzw,Kw.a];obtain⟨⟨U,d⟩,-⟩:(S.heap.size≤(A 3 0).2∧Vr W (A 3 0).2 (pnt x y false))∧True:=B;clear h1;replace G:=G.trans f;replace j:=j.gr f;replace l:=l.gr f;replace q:=q.gr f;replace i:=i.gr f;clear f;generalize (A 3 0).2=Z at *
 go_upto_region 2 with fail
 refine wp_wS [.c (pv (w.heap.size) 0),.c (.int .i64 k),.c (.agg (pnt x y false)),.c (.bool r),.c (.bool (!r))] [1,2,3,4] ⟨.o 3 0 j rfl (by exact cu_0 _ _ _ _ _ _ _ _ _ _),.g 27 0 d rfl,.z V.out,.s (.unOp .not 4 (.const (.bool r))) rfl fun vv f=>by simp[go_sem,exI],⟨⟩⟩ fun X v2 f h2=>?_;simp only[fzw];clear h2;replace G:=G.trans f;replace j:=j.gr f;replace l:=l.gr f;replace q:=q.gr f;replace i:=i.gr f;replace d:=d.gr f;clear f
 cases r
 ·have⟨C,D,H⟩:=i;have⟨I,J,K,L,P,Q⟩:=i.pp;have R:=d.al;clear j l q i d
  go_wp2_with fail
  refine bo2 results35 (rd_pn (by rfl) ?_) ⟨rfl,?_⟩
  ·simp[go_sem, *]
  ·exact grB
 ·have⟨C,D,H⟩:=i;have⟨I,J,K,L,P,Q⟩:=i.pp;have R:=d.al;clear j l q i d
  go_wp2_with fail
  refine bo2 results35 (rd_pn (by rfl) ?_) ⟨rfl,?_⟩
  ·simp[go_sem, *]
  ·exact grB
theorem cubic_yes{k x:Nat}(h1:1≤k)(h2:k≤15)(h:x<pN k)(w:World):Cg 57 #[.agg (cuK k),.agg (nw 9 x)] w (.agg (nw 9 (rhN k x))):=by
 have d:=pN_bd k h1 h2;exact cubic_of _ _ _ _ _ _ _ _ _ _ x _ _ _ _ (fMul_ok k x x h1 h2 h h) (fAdd_ok k _ _ h1 h2 (Nat.mod_lt _ (by omega)) (aN_lt k h1 h2)) (fMul_ok k _ _ h1 h2 (Nat.mod_lt _ (by omega)) h) (fAdd_ok k _ _ h1 h2 (Nat.mod_lt _ (by omega)) (bN_lt k h1 h2)) w
theorem fromX_big{k x:Nat}(hx:x<M)(hl:pN k≤x)(b:Int)(w:World):
 Cg 37 #[.agg (cuK k),.agg (nw 9 x),.int .i64 b] w (.tuple #[.agg (pnt 0 0 false),.int .i64 2101]):=by
 obtain⟨z,j⟩:=exl (cmpZ x (pN k));have l:Hid (∀w,Cg 55 #[.agg (nw 9 x),.agg (nw 9 (pN k))] w (.int .i64 z)):=fun w=>j▸cmp_any x (pN k) hx (pN_M k) w
 have q:0≤z:=by rw[←j];unfold cmpZ;rw[if_neg (by omega)];split <;> decide
 clear j hl hx
 go_enter func37,ntmps37
 go_upto_region 1 with fail
 refine gen_w (fun v=>Gr w v∧Vr v (w.heap.size) (cuK k)∧Vr v (w.heap.size+1) (nw 9 x)∧Vr v (w.heap.size+1+1) (pnt 0 0 false)) ⟨grA,vrA,vrA,vrA⟩ ?_;rintro A ⟨G,h,i,f⟩;have H:w.heap.size+1+1<A.heap.size:=f.p;refine wp_wS [.N x,.c (pv (w.heap.size) 1),.N (pN k),.c (.int .i64 z),.T] [0,2,3,4] ⟨.g 25 0 i rfl,.g 25 1 h rfl,.z l.out,.s (.binOp .geq 3 (.const (.int .i64 z)) (.const (.int .i64 0)) 3) rfl fun I d=>by simp[go_sem,exI,q],⟨⟩⟩ fun B J d C=>?_;simp only[fzw];clear C;replace G:=G.trans d;replace h:=h.gr d;replace i:=i.gr d;replace f:=f.gr d;clear d;have D:=f.al;clear h i f
 go_wp2_with fail
 refine bo2 results37 (rd_pn (by rfl) ?_) ⟨rfl,?_⟩
 ·simp[go_sem, *]
 ·exact grB
theorem fromX_none{k x:Nat}(h1:1≤k)(h2:k≤15)(hx:x<M)(hl:x<pN k)(hn:sqE k (rhN k x)≠0)(b:Int)(w:World):
 Cg 37 #[.agg (cuK k),.agg (nw 9 x),.int .i64 b] w (.tuple #[.agg (pnt 0 0 false),.int .i64 2101]):=by
 obtain⟨z,A⟩:=exl (cmpZ x (pN k));have K:Hid (∀w,Cg 55 #[.agg (nw 9 x),.agg (nw 9 (pN k))] w (.int .i64 z)):=fun w=>A▸cmp_any x (pN k) hx (pN_M k) w
 have L:¬0≤z:=by rw[←A];unfold cmpZ;rw[if_pos hl];decide
 have hP:=pN_bd k h1 h2;obtain⟨R,q⟩:=exl (rhN k x);have C:R<pN k:=q▸rh_lt h1 h2 x;have P:Hid (∀w,Cg 57 #[.agg (cuK k),.agg (nw 9 x)] w (.agg (nw 9 R))):=fun w=>q▸cubic_yes h1 h2 hl w;obtain⟨Y,D⟩:=exl (sqR k R)
 have H:sqE k R=503:=by rw[←q];unfold sqE at hn ⊢;split at hn <;> simp_all
 have Q:Hid (∀w,Cg 56 #[.int .i64 k,.agg (nw 9 R)] w (.tuple #[.agg (nw 9 Y),.int .i64 503])):=fun w=>by have:=fSqrt_ok k R h1 h2 C w;rw[D,H]at this;exact this
 clear A hl hx q C D H hn
 go_enter func37,ntmps37
 go_upto_region 1 with fail
 refine gen_w (fun v=>Gr w v∧Vr v (w.heap.size) (cuK k)∧Vr v (w.heap.size+1) (nw 9 x)∧Vr v (w.heap.size+1+1) (pnt 0 0 false)) ⟨grA,vrA,vrA,vrA⟩ ?_;rintro S ⟨G,f,h,j⟩;have L0:w.heap.size+1+1<S.heap.size:=j.p;refine wp_wS [.N x,.c (pv (w.heap.size) 1),.N (pN k),.c (.int .i64 z),.F] [0,2,3,4] ⟨.g 25 0 h rfl,.g 25 1 f rfl,.z K.out,.s (.binOp .geq 3 (.const (.int .i64 z)) (.const (.int .i64 0)) 3) rfl fun vv d=>by simp[go_sem,exI,L],⟨⟩⟩ fun U V d h1=>?_;simp only[fzw];clear h1;replace G:=G.trans d;replace f:=f.gr d;replace h:=h.gr d;replace j:=j.gr d;clear d
 go_upto_region 3 with fail
 refine wp_v true [.c (pv (w.heap.size) 0),.c (.int .i64 k),.c (.agg (cuK k)),.N x,.N R,.c (.tuple #[.agg (nw 9 Y),.int .i64 503]),.c (.tuple #[.agg (nw 9 Y),.int .i64 503]),.N Y,.c (.int .i64 503),.a,.u,.c (.int .i64 503)] [1,2,3,4,5] [⟨9,10,25,nw 9 0,fun _=>nw 9 Y⟩] ⟨.o 3 0 f rfl (by exact cu_0 _ _ _ _ _ _ _ _ _ _),.g 74 0 f rfl,.g 25 0 h rfl,.z P.out,.z Q.out,⟨⟩⟩ ⟨.k zNat (.t rfl),⟨⟩⟩ fun l I d W B=>?_;simp only[fzw,Kw.a];obtain⟨⟨J,i⟩,-⟩:(V.heap.size≤(l 9 0).2∧Vr I (l 9 0).2 (nw 9 Y))∧True:=B;clear W;replace G:=G.trans d;replace f:=f.gr d;replace h:=h.gr d;replace j:=j.gr d;clear d;generalize (l 9 0).2=b5 at *;have X:=j.al;have Z:=f.al;have aa:=h.al
 have k0:I.cell? ⟨w.heap.size,0,none⟩=some (.int .i64 k):=by rw[f.cell];exact cu_0 _ _ _ _ _ _ _ _ _ _
 have ab:=i.al;clear f h j i
 go_wp2_with fail
 refine bo2 results37 (rd_pn (by rfl) ?_) ⟨rfl,?_⟩
 ·simp[go_sem, *]
 ·exact grB
theorem fromX_even{k x:Nat}(h1:1≤k)(h2:k≤15)(hx:x<M)(hy:isY k x=true)(w:World):
 Cg 37 #[.agg (cuK k),.agg (nw 9 x),.int .i64 0] w (.tuple #[.agg (pnt x (ysN k 0 x) false),.int .i64 0]):=by
 have C:=(isY_spec h1 h2 hy).1;obtain⟨z,D⟩:=exl (cmpZ x (pN k));have Q:Hid (∀w,Cg 55 #[.agg (nw 9 x),.agg (nw 9 (pN k))] w (.int .i64 z)):=fun w=>D▸cmp_any x (pN k) hx (pN_M k) w
 have S:¬0≤z:=by rw[←D];unfold cmpZ;rw[if_pos C];decide
 have hP:=pN_bd k h1 h2;obtain⟨R,q⟩:=exl (rhN k x);have I:R<pN k:=q▸rh_lt h1 h2 x;have U:Hid (∀w,Cg 57 #[.agg (cuK k),.agg (nw 9 x)] w (.agg (nw 9 R))):=fun w=>q▸cubic_yes h1 h2 C w;obtain⟨Y,A⟩:=exl (sqR k R);have B:=isY_spec h1 h2 hy;rw[q]at B;have J:=B.2.1
 have V:Hid (∀w,Cg 56 #[.int .i64 k,.agg (nw 9 R)] w (.tuple #[.agg (nw 9 Y),.int .i64 0])):=fun w=>by have:=fSqrt_ok k R h1 h2 I w;rw[A,J]at this;exact this
 have K:Y%2=0:=A▸B.2.2.2.2.1
 have W:Hid (∀w,Cg 52 #[.agg (nw 9 Y),.int .i64 0] w (.int .i64 0)):=fun w=>by have:=bit_any Y 0 (by decide) w;rw[show bitN Y 0=0 by rw[bitN,Nat.pow_zero,Nat.div_one];exact K]at this;exact this
 rw[show ysN k 0 x=Y by rw[ysN,if_pos rfl,q,A]];clear D C hx q I A J hy K B
 go_enter func37,ntmps37
 go_upto_region 1 with fail
 refine gen_w (fun v=>Gr w v∧Vr v (w.heap.size) (cuK k)∧Vr v (w.heap.size+1) (nw 9 x)∧Vr v (w.heap.size+1+1) (pnt 0 0 false)) ⟨grA,vrA,vrA,vrA⟩ ?_;rintro X ⟨G,f,h,j⟩;have L0:w.heap.size+1+1<X.heap.size:=j.p;refine wp_wS [.N x,.c (pv (w.heap.size) 1),.N (pN k),.c (.int .i64 z),.F] [0,2,3,4] ⟨.g 25 0 h rfl,.g 25 1 f rfl,.z Q.out,.s (.binOp .geq 3 (.const (.int .i64 z)) (.const (.int .i64 0)) 3) rfl fun vv d=>by simp[go_sem,exI,S],⟨⟩⟩ fun Z v1 d h1=>?_;simp only[fzw];clear h1;replace G:=G.trans d;replace f:=f.gr d;replace h:=h.gr d;replace j:=j.gr d;clear d
 go_upto_region 3 with fail
 refine wp_v true [.c (pv (w.heap.size) 0),.c (.int .i64 k),.c (.agg (cuK k)),.N x,.N R,.E (.agg (nw 9 Y)),.E (.agg (nw 9 Y)),.N Y,.O,.a,.u,.O] [1,2,3,4,5] [⟨9,10,25,nw 9 0,fun _=>nw 9 Y⟩] ⟨.o 3 0 f rfl (by exact cu_0 _ _ _ _ _ _ _ _ _ _),.g 74 0 f rfl,.g 25 0 h rfl,.z U.out,.z V.out,⟨⟩⟩ ⟨.k zNat (.t rfl),⟨⟩⟩ fun l L d h3 H=>?_;simp only[fzw,Kw.a];obtain⟨⟨P,i⟩,-⟩:(v1.heap.size≤(l 9 0).2∧Vr L (l 9 0).2 (nw 9 Y))∧True:=H;clear h3;replace G:=G.trans d;replace f:=f.gr d;replace h:=h.gr d;replace j:=j.gr d;clear d;generalize (l 9 0).2=b5 at *;have aa:=j.al;have ab:=f.al;have ac:=h.al
 have k0:L.cell? ⟨w.heap.size,0,none⟩=some (.int .i64 k):=by rw[f.cell];exact cu_0 _ _ _ _ _ _ _ _ _ _
 have ae:=i.al;clear f h j i
 go_wp2_with (go_at_call 52;refine hkA W fun g=>?_)
 refine bo2 results37 (rd_pn (by rfl) ?_) ⟨rfl,?_⟩
 ·simp[go_sem, *]
 ·exact grB
theorem fromX_odd{k x:Nat}(h1:1≤k)(h2:k≤15)(hx:x<M)(hy:isY k x=true)(w:World):
 Cg 37 #[.agg (cuK k),.agg (nw 9 x),.int .i64 1] w (.tuple #[.agg (pnt x (ysN k 1 x) false),.int .i64 0]):=by
 have C:=(isY_spec h1 h2 hy).1;obtain⟨z,D⟩:=exl (cmpZ x (pN k));have W:Hid (∀w,Cg 55 #[.agg (nw 9 x),.agg (nw 9 (pN k))] w (.int .i64 z)):=fun w=>D▸cmp_any x (pN k) hx (pN_M k) w
 have X:¬0≤z:=by rw[←D];unfold cmpZ;rw[if_pos C];decide
 have hP:=pN_bd k h1 h2;obtain⟨R,A⟩:=exl (rhN k x);have J:R<pN k:=A▸rh_lt h1 h2 x;have Z:Hid (∀w,Cg 57 #[.agg (cuK k),.agg (nw 9 x)] w (.agg (nw 9 R))):=fun w=>A▸cubic_yes h1 h2 C w;obtain⟨Y,B⟩:=exl (sqR k R);have q:=isY_spec h1 h2 hy;rw[A]at q;have K:=q.2.1
 have HS:Hid (∀w,Cg 56 #[.int .i64 k,.agg (nw 9 R)] w (.tuple #[.agg (nw 9 Y),.int .i64 0])):=fun w=>by have:=fSqrt_ok k R h1 h2 J w;rw[B,K]at this;exact this
 have L:Y%2=0:=B▸q.2.2.2.2.1
 have HB:Hid (∀w,Cg 52 #[.agg (nw 9 Y),.int .i64 0] w (.int .i64 0)):=fun w=>by have:=bit_any Y 0 (by decide) w;rw[show bitN Y 0=0 by rw[bitN,Nat.pow_zero,Nat.div_one];exact L]at this;exact this
 obtain⟨U,H⟩:=exl (pN k-Y)
 have HU:Hid (∀w,Cg 58 #[.int .i64 k,.agg (nw 9 0),.agg (nw 9 Y)] w (.tuple #[.agg (nw 9 U),.int .i64 0])):=fun w=>by
  have:=fSub_ok k 0 Y h1 h2 (by omega) (B▸q.2.2.2.1) w;rw[show (0+pN k-Y)%pN k=U by rw[Nat.zero_add,H,Nat.mod_eq_of_lt (by have:=q.2.2.1;omega)]]at this;exact this
 rw[show ysN k 1 x=U by rw[ysN,if_neg (by decide),A,B,H]];clear D C hx A J B K hy L q H
 go_enter func37,ntmps37
 go_upto_region 1 with fail
 refine gen_w (fun v=>Gr w v∧Vr v (w.heap.size) (cuK k)∧Vr v (w.heap.size+1) (nw 9 x)∧Vr v (w.heap.size+1+1) (pnt 0 0 false)) ⟨grA,vrA,vrA,vrA⟩ ?_;rintro v0 ⟨G,f,h,i⟩;have L0:w.heap.size+1+1<v0.heap.size:=i.p;refine wp_wS [.N x,.c (pv (w.heap.size) 1),.N (pN k),.c (.int .i64 z),.F] [0,2,3,4] ⟨.g 25 0 h rfl,.g 25 1 f rfl,.z W.out,.s (.binOp .geq 3 (.const (.int .i64 z)) (.const (.int .i64 0)) 3) rfl fun vv d=>by simp[go_sem,exI,X],⟨⟩⟩ fun aa P d h1=>?_;simp only[fzw];clear h1;replace G:=G.trans d;replace f:=f.gr d;replace h:=h.gr d;replace i:=i.gr d;clear d;have L1:w.heap.size+1+1<P.heap.size:=i.p
 go_upto_region 3 with fail
 refine wp_v true [.c (pv (w.heap.size) 0),.c (.int .i64 k),.c (.agg (cuK k)),.N x,.N R,.E (.agg (nw 9 Y)),.E (.agg (nw 9 Y)),.N Y,.O,.a,.u,.O] [1,2,3,4,5] [⟨9,10,25,nw 9 0,fun _=>nw 9 Y⟩] ⟨.o 3 0 f rfl (by exact cu_0 _ _ _ _ _ _ _ _ _ _),.g 74 0 f rfl,.g 25 0 h rfl,.z Z.out,.z HS.out,⟨⟩⟩ ⟨.k zNat (.t rfl),⟨⟩⟩ fun l Q d h3 I=>?_;simp only[fzw,Kw.a];obtain⟨⟨S,j⟩,-⟩:(P.heap.size≤(l 9 0).2∧Vr Q (l 9 0).2 (nw 9 Y))∧True:=I;clear h3;replace G:=G.trans d;replace f:=f.gr d;replace h:=h.gr d;replace i:=i.gr d;clear d;generalize (l 9 0).2=V at *;have ab:=i.al;have ac:=f.al;have ae:=h.al
 have k0:Q.cell? ⟨w.heap.size,0,none⟩=some (.int .i64 k):=by rw[f.cell];exact cu_0 _ _ _ _ _ _ _ _ _ _
 have af:=j.al;clear f h i j
 have q1:¬V=w.heap.size+1:=by omega
 have q2:¬V=w.heap.size+1+1:=by omega
 go_wp2_with (first|(go_at_call 52;refine hkA HB fun g=>?_)|(go_at_call 58;refine hkA HU fun g2=>?_))
 refine bo2 results37 (rd_pn (by rfl) ?_) ⟨rfl,?_⟩
 ·simp[go_sem, *]
 ·exact grB
theorem fromX_any{k x:Nat}(h1:1≤k)(h2:k≤15)(hx:x<M){b:Nat}(hb:b<2)(w:World):
 Cg 37 #[.agg (cuK k),.agg (nw 9 x),.int .i64 b] w (.tuple #[.agg (pnt (bif isY k x then x else 0) (bif isY k x then ysN k b x else 0) false),.int .i64 (bif isY k x then 0 else 2101)]):=by
 cases hy:isY k x with
 | true=>
  obtain rfl|rfl:b=0∨b=1:=by omega
  ·exact fromX_even h1 h2 hx hy w
  ·exact fromX_odd h1 h2 hx hy w
 | false=>
  by_cases hl:x<pN k
  ·exact fromX_none h1 h2 hx hl (fun e=>by simp[isY,hl,e]at hy) b w
  ·exact fromX_big hx (Nat.le_of_not_lt hl) b w
end
section
def putA(k:Nat)(P:Q3)(sh:Bool):List UInt8×Int:=bif !P.2.2&&onB k P.1 P.2.1 false then(putL k P sh,0) else([],2101)
attribute [local go_sem] uz8
attribute [local go_sem ↓] loadCu_is storeCu_is zvCu_is buildCu_is loadPn_is storePn_is zvPn_is buildPn_is Go.wp_at_zero Go.wp_at_succ
attribute [local go_sem] loadCu storeCu zvCu cu_size loadCP loadCA loadCB loadCN loadCG loadCX loadCY cu_P cu_A cu_B cu_N cu_G cu_X cu_Y loadPn storePn zvPn loadPX loadPY buildPn0 buildPn2 pnt_size pnt_X pnt_Y pnt_18 frz_setBlk blk_setBlk setBlk_setBlk blk_other
theorem sput_no(id:Int)(h:id<1∨15<id)(x y:Nat)(f sh:Bool)(w:World):Cg 11 #[.int .i64 id,.agg (pnt x y f),.bool sh] w (.tuple #[.string ⟨#[]⟩,.int .i64 2100]):=by
 have B:Hid (∀w,Cg 32 #[.int .i64 id] w (.tuple #[.agg (cu 0 0 0 0 0 0 0 0 0 false),.int .i64 1300])):=fun w=>get13_no id h w
 go_enter func11,ntmps11
 go_upto_region 1 with fail
 refine gen_w (fun v=>Gr w v∧Vr v (w.heap.size) (pnt x y f)) ⟨grA,vrA⟩ ?_;rintro C ⟨G,l⟩;refine wp_v false [.c (.int .i64 id),.c (.tuple #[.agg (cu 0 0 0 0 0 0 0 0 0 false),.int .i64 1300]),.c (.tuple #[.agg (cu 0 0 0 0 0 0 0 0 0 false),.int .i64 1300]),.c (.agg (cu 0 0 0 0 0 0 0 0 0 false)),.c (.int .i64 1300),.a,.u,.c (.int .i64 1300)] [1] [⟨5,6,74,cu 0 0 0 0 0 0 0 0 0 false,fun _=>cu 0 0 0 0 0 0 0 0 0 false⟩] ⟨.z B.out,⟨⟩⟩ ⟨.k zCu (.t rfl),⟨⟩⟩ fun d D i H j=>?_;simp only[fzw,Kw.a];obtain⟨⟨q,A⟩,-⟩:(C.heap.size≤(d 5 0).2∧Vr D (d 5 0).2 (cu 0 0 0 0 0 0 0 0 0 false))∧True:=j;clear H;replace G:=G.trans i;replace l:=l.gr i;clear i
 go_wp2_with fail
 exact bo2 results11 (rd_tmp (by rfl)) ⟨rfl,G⟩
theorem sput_inf{k:Nat}(h1:1≤k)(h2:k≤15)(x y:Nat)(sh:Bool)(w:World):Cg 11 #[.int .i64 k,.agg (pnt x y true),.bool sh] w (.tuple #[.string ⟨#[]⟩,.int .i64 2101]):=by
 have q:Hid (∀w,Cg 32 #[.int .i64 k] w (.tuple #[.agg (cuK k),.int .i64 0])):=fun w=>get13_yes k h1 h2 w
 go_enter func11,ntmps11
 go_upto_region 1 with fail
 refine gen_w (fun v=>Gr w v∧Vr v (w.heap.size) (pnt x y true)) ⟨grA,vrA⟩ ?_;rintro A ⟨G,h⟩;refine wp_v false [.c (.int .i64 k),.E (.agg (cuK k)),.E (.agg (cuK k)),.c (.agg (cuK k)),.O,.a,.u,.O] [1] [⟨5,6,74,cu 0 0 0 0 0 0 0 0 0 false,fun _=>cuK k⟩] ⟨.z q.out,⟨⟩⟩ ⟨.k zCu (.t rfl),⟨⟩⟩ fun i B d h1 j=>?_;simp only[fzw,Kw.a];obtain⟨⟨l,f⟩,-⟩:(A.heap.size≤(i 5 0).2∧Vr B (i 5 0).2 (cuK k))∧True:=j;clear h1;replace G:=G.trans d;replace h:=h.gr d;clear d
 go_upto_region 4 with fail
 refine wp_wS [.c (pv (w.heap.size) 18),.T,.T,.u,.u,.u,.u,.T] [1] ⟨.o 4 18 h rfl (by exact pnt_18 _ _ _),⟨⟩⟩ fun C H d D=>?_;simp only[fzw];clear D;replace G:=G.trans d;replace h:=h.gr d;replace f:=f.gr d;clear d
 go_wp2_with fail
 exact bo2 results11 (rd_tmp (by rfl)) ⟨rfl,G⟩
theorem sput_off{k:Nat}(h1:1≤k)(h2:k≤15){x y:Nat}(hx:x<M)(hy:y<M)(h:onB k x y false=false)(sh:Bool)(w:World):Cg 11 #[.int .i64 k,.agg (pnt x y false),.bool sh] w (.tuple #[.string ⟨#[]⟩,.int .i64 2101]):=by
 have A:Hid (∀w,Cg 32 #[.int .i64 k] w (.tuple #[.agg (cuK k),.int .i64 0])):=fun w=>get13_yes k h1 h2 w
 have B:Hid (∀w,Cg 28 #[.int .i64 k,.agg (pnt x y false)] w (.bool false)):=fun w=>by have t:=on13_yes k h1 h2 x y false hx hy w;rw[show onB k x y false=false from h]at t;exact t
 go_enter func11,ntmps11
 go_upto_region 1 with fail
 refine gen_w (fun v=>Gr w v∧Vr v (w.heap.size) (pnt x y false)) ⟨grA,vrA⟩ ?_;rintro C ⟨G,i⟩;refine wp_v false [.c (.int .i64 k),.E (.agg (cuK k)),.E (.agg (cuK k)),.c (.agg (cuK k)),.O,.a,.u,.O] [1] [⟨5,6,74,cu 0 0 0 0 0 0 0 0 0 false,fun _=>cuK k⟩] ⟨.z A.out,⟨⟩⟩ ⟨.k zCu (.t rfl),⟨⟩⟩ fun j D d h1 l=>?_;simp only[fzw,Kw.a];obtain⟨⟨q,f⟩,-⟩:(C.heap.size≤(j 5 0).2∧Vr D (j 5 0).2 (cuK k))∧True:=l;clear h1;replace G:=G.trans d;replace i:=i.gr d;clear d
 go_upto_region 4 with fail
 refine wp_wS [.c (pv (w.heap.size) 18),.F,.F,.c (.int .i64 k),.c (.agg (pnt x y false)),.F,.T,.T] [1,4,5] ⟨.o 4 18 i rfl (by exact pnt_18 _ _ _),.g 27 0 i rfl,.z B.out,⟨⟩⟩ fun H J d I=>?_;simp only[fzw];clear I;replace G:=G.trans d;replace i:=i.gr d;replace f:=f.gr d;clear d
 go_wp2_with fail
 exact bo2 results11 (rd_tmp (by rfl)) ⟨rfl,G⟩
theorem sput_short{k:Nat}(h1:1≤k)(h2:k≤15){x y:Nat}(h:OnQ k (x,y,false))(w:World):Cg 11 #[.int .i64 k,.agg (pnt x y false),.bool true] w (.tuple #[.string ⟨(putL k (x,y,false) true).toArray⟩,.int .i64 0]):=by
 have K:Hid (∀w,Cg 32 #[.int .i64 k] w (.tuple #[.agg (cuK k),.int .i64 0])):=fun w=>get13_yes k h1 h2 w;have B:=h.lt
 have D:x<pN k∧y<pN k:=by
  simp only[OnQ,onB,Bool.false_eq_true,if_false,Bool.and_eq_true,decide_eq_true_eq]at h;exact⟨h.1,h.2.1⟩
 have L:Hid (∀w,Cg 28 #[.int .i64 k,.agg (pnt x y false)] w (.bool true)):=fun w=>by have t:=on13_yes k h1 h2 x y false B.1 B.2 w;rw[show onB k x y false=true from h]at t;exact t
 obtain⟨q,j⟩:∃t:ByteArray,⟨([UInt8.ofNat (2+y%2)]).toArray⟩=t:=⟨_,rfl⟩;have P:Hid (∀w,Cg 33 #[.agg (pnt x y false)] w (.string q)):=fun w=>j▸first_of x y false w;obtain⟨A,l⟩:∃t:ByteArray,⟨(bs (szN k) x).toArray⟩=t:=⟨_,rfl⟩;have Q:Hid (∀w,Cg 34 #[.agg (cuK k),.agg (nw 9 x)] w (.string A)):=fun w=>l▸text_of D.1 w
 have I:(⟨(putL k (x,y,false) true).toArray⟩:ByteArray)=q++A:=by rw[←j,←l,app_tx];rfl
 rw[I]
 have R:q.size+A.size≤9223372036854775807:=by rw[←j,←l,sz_tx,sz_tx,bs_length,List.length_singleton];have:=szN_le k;omega
 clear I j l
 go_enter func11,ntmps11
 go_upto_region 1 with fail
 refine gen_w (fun v=>Gr w v∧Vr v (w.heap.size) (pnt x y false)) ⟨grA,vrA⟩ ?_;rintro S ⟨G,i⟩;refine wp_v false [.c (.int .i64 k),.E (.agg (cuK k)),.E (.agg (cuK k)),.c (.agg (cuK k)),.O,.a,.u,.O] [1] [⟨5,6,74,cu 0 0 0 0 0 0 0 0 0 false,fun _=>cuK k⟩] ⟨.z K.out,⟨⟩⟩ ⟨.k zCu (.t rfl),⟨⟩⟩ fun C U f h1 H=>?_;simp only[fzw,Kw.a];obtain⟨⟨J,d⟩,-⟩:(S.heap.size≤(C 5 0).2∧Vr U (C 5 0).2 (cuK k))∧True:=H;clear h1;replace G:=G.trans f;replace i:=i.gr f;clear f
 go_upto_region 4 with fail
 refine wp_wS [.c (pv (w.heap.size) 18),.F,.F,.c (.int .i64 k),.c (.agg (pnt x y false)),.T,.F,.F] [1,4,5] ⟨.o 4 18 i rfl (by exact pnt_18 _ _ _),.g 27 0 i rfl,.z L.out,⟨⟩⟩ fun V Z f W=>?_;simp only[fzw];clear W;replace G:=G.trans f;replace i:=i.gr f;replace d:=d.gr f;clear f
 go_upto_region 7 with fail
 refine wp_w [.c (.agg (pnt x y false)),.c (.string q),.c (.agg (cuK k)),.c (pv (w.heap.size) 0),.N x,.c (.string A),.c (.string (q++A)),.c (.string (q++A)),.O] [0,1,2,4,5,6] ⟨.g 27 0 i rfl,.z P.out,.g 74 0 d rfl,.g 25 0 i rfl,.z Q.out,.s (.binOp .add 9 (.const (.string q)) (.const (.string A)) 9) rfl fun vv f=>by simp[go_sem,exI,R],⟨⟩⟩ fun X v3 f Y=>?_;simp only[fzw];clear Y;replace G:=G.trans f;replace i:=i.gr f;replace d:=d.gr f;clear f
 go_wp2_with fail
 exact bo2 results11 (rd_tmp (by rfl)) ⟨rfl,G⟩
theorem sput_whole{k:Nat}(h1:1≤k)(h2:k≤15){x y:Nat}(h:OnQ k (x,y,false))(w:World):Cg 11 #[.int .i64 k,.agg (pnt x y false),.bool false] w (.tuple #[.string ⟨(putL k (x,y,false) false).toArray⟩,.int .i64 0]):=by
 have K:Hid (∀w,Cg 32 #[.int .i64 k] w (.tuple #[.agg (cuK k),.int .i64 0])):=fun w=>get13_yes k h1 h2 w;have B:=h.lt
 have C:x<pN k∧y<pN k:=by
  simp only[OnQ,onB,Bool.false_eq_true,if_false,Bool.and_eq_true,decide_eq_true_eq]at h;exact⟨h.1,h.2.1⟩
 have L:Hid (∀w,Cg 28 #[.int .i64 k,.agg (pnt x y false)] w (.bool true)):=fun w=>by have t:=on13_yes k h1 h2 x y false B.1 B.2 w;rw[show onB k x y false=true from h]at t;exact t
 obtain⟨j,i⟩:∃t:ByteArray,⟨(bs (szN k) x).toArray⟩=t:=⟨_,rfl⟩;have P:Hid (∀w,Cg 34 #[.agg (cuK k),.agg (nw 9 x)] w (.string j)):=fun w=>i▸text_of C.1 w;obtain⟨A,q⟩:∃t:ByteArray,⟨(bs (szN k) y).toArray⟩=t:=⟨_,rfl⟩;have Q:Hid (∀w,Cg 34 #[.agg (cuK k),.agg (nw 9 y)] w (.string A)):=fun w=>q▸text_of C.2 w
 have I:(⟨(putL k (x,y,false) false).toArray⟩:ByteArray)=⟨#[4]⟩++j++A:=by rw[←i,←q,app_tx [4],app_tx];rfl
 rw[I]
 have R:1+j.size≤9223372036854775807:=by rw[←i,sz_tx,bs_length];have:=szN_le k;omega
 have S:1+j.size+A.size≤9223372036854775807:=by rw[←i,←q,sz_tx,sz_tx,bs_length,bs_length];have:=szN_le k;omega
 clear I i q
 go_enter func11,ntmps11
 go_upto_region 1 with fail
 refine gen_w (fun v=>Gr w v∧Vr v (w.heap.size) (pnt x y false)) ⟨grA,vrA⟩ ?_;rintro U ⟨G,l⟩;refine wp_v false [.c (.int .i64 k),.E (.agg (cuK k)),.E (.agg (cuK k)),.c (.agg (cuK k)),.O,.a,.u,.O] [1] [⟨5,6,74,cu 0 0 0 0 0 0 0 0 0 false,fun _=>cuK k⟩] ⟨.z K.out,⟨⟩⟩ ⟨.k zCu (.t rfl),⟨⟩⟩ fun D V f h1 H=>?_;simp only[fzw,Kw.a];obtain⟨⟨J,d⟩,-⟩:(U.heap.size≤(D 5 0).2∧Vr V (D 5 0).2 (cuK k))∧True:=H;clear h1;replace G:=G.trans f;replace l:=l.gr f;clear f
 go_upto_region 4 with fail
 refine wp_wS [.c (pv (w.heap.size) 18),.F,.F,.c (.int .i64 k),.c (.agg (pnt x y false)),.T,.F,.F] [1,4,5] ⟨.o 4 18 l rfl (by exact pnt_18 _ _ _),.g 27 0 l rfl,.z L.out,⟨⟩⟩ fun W v2 f X=>?_;simp only[fzw];clear X;replace G:=G.trans f;replace l:=l.gr f;replace d:=d.gr f;clear f
 go_upto_region 8 with fail
 refine wp_w [.c (.agg (cuK k)),.c (pv (w.heap.size) 0),.N x,.c (.string j),.c (.string (⟨#[4]⟩++j)),.c (.agg (cuK k)),.c (pv (w.heap.size) 9),.N y,.c (.string A),.c (.string (⟨#[4]⟩++j++A)),.c (.string (⟨#[4]⟩++j++A)),.O] [0,2,3,4,5,7,8,9] ⟨.g 74 0 d rfl,.g 25 0 l rfl,.z P.out,.s (.binOp .add 9 (.const (.string { data :=#[4] })) (.const (.string j)) 9) rfl fun Y f=>by simp[go_sem,exI,R],.g 74 0 d rfl,.g 25 9 l rfl,.z Q.out,.s (.binOp .add 9 (.const (.string (⟨#[4]⟩++j))) (.const (.string A)) 9) rfl fun Y f=>by simp[go_sem,exI,S],⟨⟩⟩ fun Z v3 f h8=>?_;simp only[fzw];clear h8;replace G:=G.trans f;replace l:=l.gr f;replace d:=d.gr f;clear f
 go_wp2_with fail
 exact bo2 results11 (rd_tmp (by rfl)) ⟨rfl,G⟩
theorem sput_any{k:Nat}(h1:1≤k)(h2:k≤15){P:Q3}(lP:P.1<M∧P.2.1<M)(sh:Bool)(w:World):
 Cg 11 #[.int .i64 k,.agg (pnQ P),.bool sh] w (.tuple #[.string ⟨(putA k P sh).1.toArray⟩,.int .i64 (putA k P sh).2]):=by
 obtain⟨x,y,f⟩:=P
 cases f with
 | true=>exact sput_inf h1 h2 x y sh w
 | false=>
  cases h:onB k x y false with
  | false=>rw[show putA k (x,y,false) sh=([],2101) by simp[putA,h]];exact sput_off h1 h2 lP.1 lP.2 h sh w
  | true=>
   rw[show putA k (x,y,false) sh=(putL k (x,y,false) sh,0) by simp[putA,h]]
   cases sh with
   | true=>exact sput_short h1 h2 h w
   | false=>exact sput_whole h1 h2 h w
theorem sget_no(id:Int)(h:id<1∨15<id)(s:ByteArray)(w:World):Cg 12 #[.int .i64 id,.string s] w (.tuple #[.agg (pnt 0 0 false),.int .i64 2100]):=by
 have x:Hid (∀w,Cg 32 #[.int .i64 id] w (.tuple #[.agg (cu 0 0 0 0 0 0 0 0 0 false),.int .i64 1300])):=fun w=>get13_no id h w
 go_enter func12,ntmps12
 go_upto_region 1 with fail
 refine gen_w (fun v=>Gr w v∧Vr v (w.heap.size) (pnt 0 0 false)) ⟨grA,vrA⟩ ?_;rintro A ⟨G,i⟩;refine wp_v false [.c (.int .i64 id),.c (.tuple #[.agg (cu 0 0 0 0 0 0 0 0 0 false),.int .i64 1300]),.c (.tuple #[.agg (cu 0 0 0 0 0 0 0 0 0 false),.int .i64 1300]),.c (.agg (cu 0 0 0 0 0 0 0 0 0 false)),.c (.int .i64 1300),.a,.u,.c (.int .i64 1300)] [1] [⟨5,6,74,cu 0 0 0 0 0 0 0 0 0 false,fun _=>cu 0 0 0 0 0 0 0 0 0 false⟩] ⟨.z x.out,⟨⟩⟩ ⟨.k zCu (.t rfl),⟨⟩⟩ fun d B j C l=>?_;simp only[fzw,Kw.a];obtain⟨⟨q,f⟩,-⟩:(A.heap.size≤(d 5 0).2∧Vr B (d 5 0).2 (cu 0 0 0 0 0 0 0 0 0 false))∧True:=l;clear C;replace G:=G.trans j;replace i:=i.gr j;clear j;generalize (d 5 0).2=H at *;have D:=i.al;clear i f
 go_wp2_with fail
 refine bo2 results12 (rd_pn (by rfl) ?_) ⟨rfl,?_⟩
 ·simp[go_sem, *]
 ·exact grB
theorem sget_empty{k:Nat}(h1:1≤k)(h2:k≤15)(w:World):Cg 12 #[.int .i64 k,.string ⟨#[]⟩] w (.tuple #[.agg (pnt 0 0 false),.int .i64 2102]):=by
 have q:Hid (∀w,Cg 32 #[.int .i64 k] w (.tuple #[.agg (cuK k),.int .i64 0])):=fun w=>get13_yes k h1 h2 w
 go_enter func12,ntmps12
 go_upto_region 1 with fail
 refine gen_w (fun v=>Gr w v∧Vr v (w.heap.size) (pnt 0 0 false)) ⟨grA,vrA⟩ ?_;rintro x ⟨G,h⟩;refine wp_v false [.c (.int .i64 k),.E (.agg (cuK k)),.E (.agg (cuK k)),.c (.agg (cuK k)),.O,.a,.u,.O] [1] [⟨5,6,74,cu 0 0 0 0 0 0 0 0 0 false,fun _=>cuK k⟩] ⟨.z q.out,⟨⟩⟩ ⟨.k zCu (.t rfl),⟨⟩⟩ fun d A i h1 j=>?_;simp only[fzw,Kw.a];obtain⟨⟨l,f⟩,-⟩:(x.heap.size≤(d 5 0).2∧Vr A (d 5 0).2 (cuK k))∧True:=j;clear h1;replace G:=G.trans i;replace h:=h.gr i;clear i;generalize (d 5 0).2=C at *;have B:=h.al;clear h f
 go_wp2_with fail
 refine bo2 results12 (rd_pn (by rfl) ?_) ⟨rfl,?_⟩
 ·simp[go_sem, *]
 ·exact grB
theorem sget_form{k:Nat}(h1:1≤k)(h2:k≤15){s f r:ByteArray}{zz:Nat}(hs:s.toList.isEmpty=false)(hlo:∀w,(Instr.slice 9 (.string s) none (some (.int .i64 1)) none).run prog w=.ok (.string f) w)(hhi:∀w,(Instr.slice 9 (.string s) (some (.int .i64 1)) none none).run prog w=.ok (.string r) w)(hzz:IntKind.i64.wrap (2*(szN k:Int))=(zz:Int))(hq:f.toList=[4]∧¬f.toList=[2]∧¬f.toList=[3]∧((r.size:Int)==(zz:Int))=false∨¬f.toList=[4]∧f.toList=[2]∧¬f.toList=[3]∧((r.size:Int)==(szN k:Int))=false∨¬f.toList=[4]∧¬f.toList=[2]∧f.toList=[3]∧((r.size:Int)==(szN k:Int))=false∨¬f.toList=[4]∧¬f.toList=[2]∧¬f.toList=[3])(w:World):Cg 12 #[.int .i64 k,.string s] w (.tuple #[.agg (pnt 0 0 false),.int .i64 2102]):=by
 have X:Hid (∀w,Cg 32 #[.int .i64 k] w (.tuple #[.agg (cuK k),.int .i64 0])):=fun w=>get13_yes k h1 h2 w
 go_enter func12,ntmps12
 go_upto_region 1 with fail
 refine gen_w (fun v=>Gr w v∧Vr v (w.heap.size) (pnt 0 0 false)) ⟨grA,vrA⟩ ?_;rintro Y ⟨G,i⟩;refine wp_v false [.c (.int .i64 k),.E (.agg (cuK k)),.E (.agg (cuK k)),.c (.agg (cuK k)),.O,.a,.u,.O] [1] [⟨5,6,74,cu 0 0 0 0 0 0 0 0 0 false,fun _=>cuK k⟩] ⟨.z X.out,⟨⟩⟩ ⟨.k zCu (.t rfl),⟨⟩⟩ fun x Z h h1 L=>?_;simp only[fzw,Kw.a];obtain⟨⟨W,d⟩,-⟩:(Y.heap.size≤(x 5 0).2∧Vr Z (x 5 0).2 (cuK k))∧True:=L;clear h1;replace G:=G.trans h;replace i:=i.gr h;clear h;generalize (x 5 0).2=P at *
 go_upto_region 6 with fail
 refine wp_w [.c (.string s),.c (.string f),.c (.string s),.c (.string r),.c (.string f),.c (.string r)] [1,3] ⟨.s (.slice 9 (.const (.string s)) none (some (.const (.int .i64 1))) none) rfl fun j h=>by simp[go_sem,exI,hlo],.s (.slice 9 (.const (.string s)) (some (.const (.int .i64 1))) none none) rfl fun j h=>by simp[go_sem,exI,hhi],⟨⟩⟩ fun aa v2 h h6=>?_;simp only[fzw];clear h6;replace G:=G.trans h;replace i:=i.gr h;replace d:=d.gr h;clear h
 rcases hq with hq|hq|hq|hq
 ·obtain⟨A,B,C,Q⟩:=hq
  go_upto_region 7 with fail
  refine wp_wS [.c (.string f),.T,.T,.c (.string r),.c (.int .i64 (r.size:Int)),.c (pv P 57),.c (.int .i64 (szN k)),.c (.int .i64 zz),.F,.F,.F] [1,6,7,8] ⟨.s (.binOp .eql 9 (.const (.string f)) (.const (.string { data :=#[4] })) 9) rfl fun j h=>by simp[go_sem,exI,A],.o 3 57 d rfl (by exact cu_57 _ _ _ _ _ _ _ _ _ _),.s (.binOp .mul 3 (.const (.int .i64 2)) (.const (.int .i64 (szN k))) 3) rfl fun j h=>by simp[go_sem,exI,hzz],.s (.binOp .eql 3 (.const (.int .i64 (r.size:Int))) (.const (.int .i64 zz)) 3) rfl fun j h=>by simp[go_sem,exI,Q],⟨⟩⟩ fun D R h H=>?_;simp only[fzw];clear H;replace G:=G.trans h;replace i:=i.gr h;replace d:=d.gr h;clear h
  go_upto_region 9 with fail
  refine wp_wS [.c (.string f),.F,.F,.u,.u,.u,.u,.u,.F,.F] [1] ⟨.s (.binOp .eql 9 (.const (.string f)) (.const (.string { data :=#[2] })) 9) rfl fun j h=>by simp[go_sem,exI,B],⟨⟩⟩ fun I S h J=>?_;simp only[fzw];clear J;replace G:=G.trans h;replace i:=i.gr h;replace d:=d.gr h;clear h
  go_upto_region 11 with fail
  refine wp_wS [.c (.string f),.F,.F,.u,.u,.u,.u,.u,.F,.F] [1] ⟨.s (.binOp .eql 9 (.const (.string f)) (.const (.string { data :=#[3] })) 9) rfl fun j h=>by simp[go_sem,exI,C],⟨⟩⟩ fun q U h l=>?_;simp only[fzw];clear l;replace G:=G.trans h;replace i:=i.gr h;replace d:=d.gr h;clear h;have K:=i.al;clear i d
  go_wp2_with fail
  refine bo2 results12 (rd_pn (by rfl) ?_) ⟨rfl,?_⟩
  ·simp[go_sem, *]
  ·exact grB
 ·obtain⟨A,B,C,V⟩:=hq
  go_upto_region 7 with fail
  refine wp_wS [.c (.string f),.F,.F,.u,.u,.u,.u,.u,.u,.F,.F] [1] ⟨.s (.binOp .eql 9 (.const (.string f)) (.const (.string { data :=#[4] })) 9) rfl fun j h=>by simp[go_sem,exI,A],⟨⟩⟩ fun D R h H=>?_;simp only[fzw];clear H;replace G:=G.trans h;replace i:=i.gr h;replace d:=d.gr h;clear h
  go_upto_region 9 with fail
  refine wp_wS [.c (.string f),.T,.T,.c (.string r),.c (.int .i64 (r.size:Int)),.c (pv P 57),.c (.int .i64 (szN k)),.F,.F,.F] [1,6,7] ⟨.s (.binOp .eql 9 (.const (.string f)) (.const (.string { data :=#[2] })) 9) rfl fun j h=>by simp[go_sem,exI,B],.o 3 57 d rfl (by exact cu_57 _ _ _ _ _ _ _ _ _ _),.s (.binOp .eql 3 (.const (.int .i64 (r.size:Int))) (.const (.int .i64 (szN k))) 3) rfl fun j h=>by simp[go_sem,exI,V],⟨⟩⟩ fun I S h J=>?_;simp only[fzw];clear J;replace G:=G.trans h;replace i:=i.gr h;replace d:=d.gr h;clear h
  go_upto_region 11 with fail
  refine wp_wS [.c (.string f),.F,.F,.u,.u,.u,.u,.u,.F,.F] [1] ⟨.s (.binOp .eql 9 (.const (.string f)) (.const (.string { data :=#[3] })) 9) rfl fun j h=>by simp[go_sem,exI,C],⟨⟩⟩ fun q U h l=>?_;simp only[fzw];clear l;replace G:=G.trans h;replace i:=i.gr h;replace d:=d.gr h;clear h;have K:=i.al;clear i d
  go_wp2_with fail
  refine bo2 results12 (rd_pn (by rfl) ?_) ⟨rfl,?_⟩
  ·simp[go_sem, *]
  ·exact grB
 ·obtain⟨A,B,C,V⟩:=hq
  go_upto_region 7 with fail
  refine wp_wS [.c (.string f),.F,.F,.u,.u,.u,.u,.u,.u,.F,.F] [1] ⟨.s (.binOp .eql 9 (.const (.string f)) (.const (.string { data :=#[4] })) 9) rfl fun j h=>by simp[go_sem,exI,A],⟨⟩⟩ fun D R h H=>?_;simp only[fzw];clear H;replace G:=G.trans h;replace i:=i.gr h;replace d:=d.gr h;clear h
  go_upto_region 9 with fail
  refine wp_wS [.c (.string f),.F,.F,.u,.u,.u,.u,.u,.F,.F] [1] ⟨.s (.binOp .eql 9 (.const (.string f)) (.const (.string { data :=#[2] })) 9) rfl fun j h=>by simp[go_sem,exI,B],⟨⟩⟩ fun I S h J=>?_;simp only[fzw];clear J;replace G:=G.trans h;replace i:=i.gr h;replace d:=d.gr h;clear h
  go_upto_region 11 with fail
  refine wp_wS [.c (.string f),.T,.T,.c (.string r),.c (.int .i64 (r.size:Int)),.c (pv P 57),.c (.int .i64 (szN k)),.F,.F,.F] [1,6,7] ⟨.s (.binOp .eql 9 (.const (.string f)) (.const (.string { data :=#[3] })) 9) rfl fun j h=>by simp[go_sem,exI,C],.o 3 57 d rfl (by exact cu_57 _ _ _ _ _ _ _ _ _ _),.s (.binOp .eql 3 (.const (.int .i64 (r.size:Int))) (.const (.int .i64 (szN k))) 3) rfl fun j h=>by simp[go_sem,exI,V],⟨⟩⟩ fun q U h l=>?_;simp only[fzw];clear l;replace G:=G.trans h;replace i:=i.gr h;replace d:=d.gr h;clear h;have K:=i.al;clear i d
  go_wp2_with fail
  refine bo2 results12 (rd_pn (by rfl) ?_) ⟨rfl,?_⟩
  ·simp[go_sem, *]
  ·exact grB
 ·obtain⟨A,B,C⟩:=hq
  go_upto_region 7 with fail
  refine wp_wS [.c (.string f),.F,.F,.u,.u,.u,.u,.u,.u,.F,.F] [1] ⟨.s (.binOp .eql 9 (.const (.string f)) (.const (.string { data :=#[4] })) 9) rfl fun j h=>by simp[go_sem,exI,A],⟨⟩⟩ fun D R h H=>?_;simp only[fzw];clear H;replace G:=G.trans h;replace i:=i.gr h;replace d:=d.gr h;clear h
  go_upto_region 9 with fail
  refine wp_wS [.c (.string f),.F,.F,.u,.u,.u,.u,.u,.F,.F] [1] ⟨.s (.binOp .eql 9 (.const (.string f)) (.const (.string { data :=#[2] })) 9) rfl fun j h=>by simp[go_sem,exI,B],⟨⟩⟩ fun I S h J=>?_;simp only[fzw];clear J;replace G:=G.trans h;replace i:=i.gr h;replace d:=d.gr h;clear h
  go_upto_region 11 with fail
  refine wp_wS [.c (.string f),.F,.F,.u,.u,.u,.u,.u,.F,.F] [1] ⟨.s (.binOp .eql 9 (.const (.string f)) (.const (.string { data :=#[3] })) 9) rfl fun j h=>by simp[go_sem,exI,C],⟨⟩⟩ fun q U h l=>?_;simp only[fzw];clear l;replace G:=G.trans h;replace i:=i.gr h;replace d:=d.gr h;clear h;have K:=i.al;clear i d
  go_wp2_with fail
  refine bo2 results12 (rd_pn (by rfl) ?_) ⟨rfl,?_⟩
  ·simp[go_sem, *]
  ·exact grB
theorem sget_both{k:Nat}(h1:1≤k)(h2:k≤15){s f r:ByteArray}{zz:Nat}(hs:s.toList.isEmpty=false)(hlo:∀w,(Instr.slice 9 (.string s) none (some (.int .i64 1)) none).run prog w=.ok (.string f) w)(hhi:∀w,(Instr.slice 9 (.string s) (some (.int .i64 1)) none none).run prog w=.ok (.string r) w){t1 t2:ByteArray}{u v X Y:Nat}{E:Int}(hzz:IntKind.i64.wrap (2*(szN k:Int))=(zz:Int))(q4:f.toList=[4])(pzz:((r.size:Int)==(zz:Int))=true)(hs1:∀w,(Instr.slice 9 (.string r) none (some (.int .i64 (szN k:Int))) none).run prog w=.ok (.string t1) w)(hs2:∀w,(Instr.slice 9 (.string r) (some (.int .i64 (szN k:Int))) none none).run prog w=.ok (.string t2) w)(HU':∀w,Cg 36 #[.string t1] w (.agg (nw 9 u)))(HV':∀w,Cg 36 #[.string t2] w (.agg (nw 9 v)))(HB':∀w,Cg 35 #[.agg (cuK k),.agg (nw 9 u),.agg (nw 9 v)] w (.tuple #[.agg (pnt X Y false),.int .i64 E]))(w:World):Cg 12 #[.int .i64 k,.string s] w (.tuple #[.agg (pnt X Y false),.int .i64 E]):=by
 have H:Hid (∀w,Cg 32 #[.int .i64 k] w (.tuple #[.agg (cuK k),.int .i64 0])):=fun w=>get13_yes k h1 h2 w;have I:Hid _:=HU';have J:Hid _:=HV';have K:Hid _:=HB';clear HU' HV' HB'
 go_enter func12,ntmps12
 go_upto_region 1 with fail
 refine gen_w (fun v=>Gr w v∧Vr v (w.heap.size) (pnt 0 0 false)) ⟨grA,vrA⟩ ?_;rintro L ⟨G,j⟩;refine wp_v false [.c (.int .i64 k),.E (.agg (cuK k)),.E (.agg (cuK k)),.c (.agg (cuK k)),.O,.a,.u,.O] [1] [⟨5,6,74,cu 0 0 0 0 0 0 0 0 0 false,fun _=>cuK k⟩] ⟨.z H.out,⟨⟩⟩ ⟨.k zCu (.t rfl),⟨⟩⟩ fun q P i h1 B=>?_;simp only[fzw,Kw.a];obtain⟨⟨D,d⟩,-⟩:(L.heap.size≤(q 5 0).2∧Vr P (q 5 0).2 (cuK k))∧True:=B;clear h1;replace G:=G.trans i;replace j:=j.gr i;clear i;generalize (q 5 0).2=A at *
 go_upto_region 6 with fail
 refine wp_w [.c (.string s),.c (.string f),.c (.string s),.c (.string r),.c (.string f),.c (.string r)] [1,3] ⟨.s (.slice 9 (.const (.string s)) none (some (.const (.int .i64 1))) none) rfl fun x i=>by simp[go_sem,exI,hlo],.s (.slice 9 (.const (.string s)) (some (.const (.int .i64 1))) none none) rfl fun x i=>by simp[go_sem,exI,hhi],⟨⟩⟩ fun Q Z i R=>?_;simp only[fzw];clear R;replace G:=G.trans i;replace j:=j.gr i;replace d:=d.gr i;clear i
 go_upto_region 7 with fail
 refine wp_wS [.c (.string f),.T,.T,.c (.string r),.c (.int .i64 (r.size:Int)),.c (pv A 57),.c (.int .i64 (szN k)),.c (.int .i64 zz),.T,.T,.T] [1,6,7,8] ⟨.s (.binOp .eql 9 (.const (.string f)) (.const (.string { data :=#[4] })) 9) rfl fun x i=>by simp[go_sem,exI,q4],.o 3 57 d rfl (by exact cu_57 _ _ _ _ _ _ _ _ _ _),.s (.binOp .mul 3 (.const (.int .i64 2)) (.const (.int .i64 (szN k))) 3) rfl fun x i=>by simp[go_sem,exI,hzz],.s (.binOp .eql 3 (.const (.int .i64 (r.size:Int))) (.const (.int .i64 zz)) 3) rfl fun x i=>by simp[go_sem,exI,pzz],⟨⟩⟩ fun S C i U=>?_;simp only[fzw];clear U;replace G:=G.trans i;replace j:=j.gr i;replace d:=d.gr i;clear i
 go_upto_region 8 with fail
 have V:Hid (Gr w C∧Vr C (w.heap.size) (pnt 0 0 false)∧Vr C A (cuK k)):=⟨G,j,d⟩;clear G j d
 refine wp_x true [.c (.agg (cuK k)),.c (.string r),.c (pv A 57),.c (.int .i64 (szN k:Int)),.c (.string t1),.c (.agg (nw 9 u)),.c (.string r),.c (pv A 57),.c (.int .i64 (szN k:Int)),.c (.string t2),.c (.agg (nw 9 v)),.c (.tuple #[.agg (pnt X Y false),.int .i64 E]),.c (.agg (pnt X Y false)),.c (.int .i64 E),.u,.c (.int .i64 E)] [0,3,4,5,8,9,10] 11 14 (fun _ _=>True) (fun _ v=>Gr w v∧Vr v (w.heap.size) (pnt 0 0 false)∧Vr v A (cuK k)) (fun _ v=>Gr w v∧Vr v (w.heap.size) (pnt X Y false))
  35 (fun _ =>#[.agg (cuK k),.agg (nw 9 u),.agg (nw 9 v)]) 27 (fun _=>pv (w.heap.size) 0) (fun _=>.agg (pnt X Y false)) V.out ?x1 ?x2 ?x3 ?x4 ⟨fnc,fnc,fnc,fnc,fnc,fnc,fnc,fnc,fnc,fnc,fnc,fnc,fnc,fnc,fnu,fnc,trivial⟩ ?x5
 case x1=>exact fun _ _ _ ⟨G,j,l⟩ g=>⟨G.trans g,j.gr g,l.gr g⟩
 case x2=>
  rintro _ x ⟨G,j,l⟩;exact⟨.g 74 0 l rfl,.o 3 57 l rfl (by exact cu_57 _ _ _ _ _ _ _ _ _ _),.s (.slice 9 (.const (.string r)) none (some (.const (.int .i64 (szN k:Int)))) none) rfl fun x i=>by simp[go_sem,exI,hs1],.z I.out,.o 3 57 l rfl (by exact cu_57 _ _ _ _ _ _ _ _ _ _),.s (.slice 9 (.const (.string r)) (some (.const (.int .i64 (szN k:Int)))) none none) rfl fun x i=>by simp[go_sem,exI,hs2],.z J.out,⟨⟩⟩
 case x3=>
  rintro _ v ⟨G,j,l⟩ _;refine(K.out _).mono ?_;rintro e w' ⟨rfl,g⟩;exact⟨fun _=>(none,0),rfl,trivial,⟨G.trans g,j.gr g,l.gr g⟩,trivial⟩
 case x4=>
  rintro _ v ⟨G,j,l⟩ _;exact⟨setBlk v (w.heap.size) (pnt X Y false),by simp[go_sem,exI,j.h,j.f],gr_setNew G (by omega),j.set (by rw[pnt_size];decide) _⟩
 rintro _ v9 ⟨G,j⟩;have W:=j.h;simp only[fzw]
 go_wp2_with fail
 exact bo2 results12 (rd_pn (by rfl) W) ⟨rfl,G⟩
theorem sget_x0{k:Nat}(h1:1≤k)(h2:k≤15){s f r:ByteArray}(hs:s.toList.isEmpty=false)(hlo:∀w,(Instr.slice 9 (.string s) none (some (.int .i64 1)) none).run prog w=.ok (.string f) w)(hhi:∀w,(Instr.slice 9 (.string s) (some (.int .i64 1)) none none).run prog w=.ok (.string r) w){u X Y:Nat}{E:Int}(q4:¬f.toList=[4])(q2:f.toList=[2])(pz:((r.size:Int)==(szN k:Int))=true)(HU':∀w,Cg 36 #[.string r] w (.agg (nw 9 u)))(HX':∀w,Cg 37 #[.agg (cuK k),.agg (nw 9 u),.int .i64 0] w (.tuple #[.agg (pnt X Y false),.int .i64 E]))(w:World):Cg 12 #[.int .i64 k,.string s] w (.tuple #[.agg (pnt X Y false),.int .i64 E]):=by
 have H:Hid (∀w,Cg 32 #[.int .i64 k] w (.tuple #[.agg (cuK k),.int .i64 0])):=fun w=>get13_yes k h1 h2 w;have I:Hid _:=HU';have J:Hid _:=HX';clear HU' HX'
 go_enter func12,ntmps12
 go_upto_region 1 with fail
 refine gen_w (fun v=>Gr w v∧Vr v (w.heap.size) (pnt 0 0 false)) ⟨grA,vrA⟩ ?_;rintro K ⟨G,j⟩;refine wp_v false [.c (.int .i64 k),.E (.agg (cuK k)),.E (.agg (cuK k)),.c (.agg (cuK k)),.O,.a,.u,.O] [1] [⟨5,6,74,cu 0 0 0 0 0 0 0 0 0 false,fun _=>cuK k⟩] ⟨.z H.out,⟨⟩⟩ ⟨.k zCu (.t rfl),⟨⟩⟩ fun l L i h1 A=>?_;simp only[fzw,Kw.a];obtain⟨⟨D,d⟩,-⟩:(K.heap.size≤(l 5 0).2∧Vr L (l 5 0).2 (cuK k))∧True:=A;clear h1;replace G:=G.trans i;replace j:=j.gr i;clear i;generalize (l 5 0).2=B at *
 go_upto_region 6 with fail
 refine wp_w [.c (.string s),.c (.string f),.c (.string s),.c (.string r),.c (.string f),.c (.string r)] [1,3] ⟨.s (.slice 9 (.const (.string s)) none (some (.const (.int .i64 1))) none) rfl fun x i=>by simp[go_sem,exI,hlo],.s (.slice 9 (.const (.string s)) (some (.const (.int .i64 1))) none none) rfl fun x i=>by simp[go_sem,exI,hhi],⟨⟩⟩ fun P v2 i Q=>?_;simp only[fzw];clear Q;replace G:=G.trans i;replace j:=j.gr i;replace d:=d.gr i;clear i
 go_upto_region 7 with fail
 refine wp_wS [.c (.string f),.F,.F,.u,.u,.u,.u,.u,.u,.F,.F] [1] ⟨.s (.binOp .eql 9 (.const (.string f)) (.const (.string { data :=#[4] })) 9) rfl fun x i=>by simp[go_sem,exI,q4],⟨⟩⟩ fun R v3 i S=>?_;simp only[fzw];clear S;replace G:=G.trans i;replace j:=j.gr i;replace d:=d.gr i;clear i
 go_upto_region 9 with fail
 refine wp_wS [.c (.string f),.T,.T,.c (.string r),.c (.int .i64 (r.size:Int)),.c (pv B 57),.c (.int .i64 (szN k)),.T,.T,.T] [1,6,7] ⟨.s (.binOp .eql 9 (.const (.string f)) (.const (.string { data :=#[2] })) 9) rfl fun x i=>by simp[go_sem,exI,q2],.o 3 57 d rfl (by exact cu_57 _ _ _ _ _ _ _ _ _ _),.s (.binOp .eql 3 (.const (.int .i64 (r.size:Int))) (.const (.int .i64 (szN k))) 3) rfl fun x i=>by simp[go_sem,exI,pz],⟨⟩⟩ fun U C i V=>?_;simp only[fzw];clear V;replace G:=G.trans i;replace j:=j.gr i;replace d:=d.gr i;clear i
 go_upto_region 10 with fail
 have W:Hid (Gr w C∧Vr C (w.heap.size) (pnt 0 0 false)∧Vr C B (cuK k)):=⟨G,j,d⟩;clear G j d
 refine wp_x true [.c (.agg (cuK k)),.c (.string r),.c (.agg (nw 9 u)),.c (.tuple #[.agg (pnt X Y false),.int .i64 E]),.c (.agg (pnt X Y false)),.c (.int .i64 E),.u,.c (.int .i64 E)] [0,2] 3 6 (fun _ _=>True) (fun _ v=>Gr w v∧Vr v (w.heap.size) (pnt 0 0 false)∧Vr v B (cuK k)) (fun _ v=>Gr w v∧Vr v (w.heap.size) (pnt X Y false))
  37 (fun _ =>#[.agg (cuK k),.agg (nw 9 u),.int .i64 0]) 27 (fun _=>pv (w.heap.size) 0) (fun _=>.agg (pnt X Y false)) W.out ?x1 ?x2 ?x3 ?x4 ⟨fnc,fnc,fnc,fnc,fnc,fnc,fnu,fnc,trivial⟩ ?x5
 case x1=>exact fun _ _ _ ⟨G,j,q⟩ g=>⟨G.trans g,j.gr g,q.gr g⟩
 case x2=>
  rintro _ x ⟨G,j,q⟩;exact⟨.g 74 0 q rfl,.z I.out,⟨⟩⟩
 case x3=>
  rintro _ v ⟨G,j,q⟩ _;refine(J.out _).mono ?_;rintro e w' ⟨rfl,g⟩;exact⟨fun _=>(none,0),rfl,trivial,⟨G.trans g,j.gr g,q.gr g⟩,trivial⟩
 case x4=>
  rintro _ v ⟨G,j,q⟩ _;exact⟨setBlk v (w.heap.size) (pnt X Y false),by simp[go_sem,exI,j.h,j.f],gr_setNew G (by omega),j.set (by rw[pnt_size];decide) _⟩
 rintro _ v9 ⟨G,j⟩;have Z:=j.h;simp only[fzw]
 go_wp2_with fail
 exact bo2 results12 (rd_pn (by rfl) Z) ⟨rfl,G⟩
theorem sget_x1{k:Nat}(h1:1≤k)(h2:k≤15){s f r:ByteArray}(hs:s.toList.isEmpty=false)(hlo:∀w,(Instr.slice 9 (.string s) none (some (.int .i64 1)) none).run prog w=.ok (.string f) w)(hhi:∀w,(Instr.slice 9 (.string s) (some (.int .i64 1)) none none).run prog w=.ok (.string r) w){u X Y:Nat}{E:Int}(q4:¬f.toList=[4])(q2:¬f.toList=[2])(q3:f.toList=[3])(pz:((r.size:Int)==(szN k:Int))=true)(HU':∀w,Cg 36 #[.string r] w (.agg (nw 9 u)))(HX':∀w,Cg 37 #[.agg (cuK k),.agg (nw 9 u),.int .i64 1] w (.tuple #[.agg (pnt X Y false),.int .i64 E]))(w:World):Cg 12 #[.int .i64 k,.string s] w (.tuple #[.agg (pnt X Y false),.int .i64 E]):=by
 have J:Hid (∀w,Cg 32 #[.int .i64 k] w (.tuple #[.agg (cuK k),.int .i64 0])):=fun w=>get13_yes k h1 h2 w;have K:Hid _:=HU';have L:Hid _:=HX';clear HU' HX'
 go_enter func12,ntmps12
 go_upto_region 1 with fail
 refine gen_w (fun v=>Gr w v∧Vr v (w.heap.size) (pnt 0 0 false)) ⟨grA,vrA⟩ ?_;rintro P ⟨G,j⟩;refine wp_v false [.c (.int .i64 k),.E (.agg (cuK k)),.E (.agg (cuK k)),.c (.agg (cuK k)),.O,.a,.u,.O] [1] [⟨5,6,74,cu 0 0 0 0 0 0 0 0 0 false,fun _=>cuK k⟩] ⟨.z J.out,⟨⟩⟩ ⟨.k zCu (.t rfl),⟨⟩⟩ fun l Q i h1 A=>?_;simp only[fzw,Kw.a];obtain⟨⟨H,d⟩,-⟩:(P.heap.size≤(l 5 0).2∧Vr Q (l 5 0).2 (cuK k))∧True:=A;clear h1;replace G:=G.trans i;replace j:=j.gr i;clear i;generalize (l 5 0).2=B at *
 go_upto_region 6 with fail
 refine wp_w [.c (.string s),.c (.string f),.c (.string s),.c (.string r),.c (.string f),.c (.string r)] [1,3] ⟨.s (.slice 9 (.const (.string s)) none (some (.const (.int .i64 1))) none) rfl fun q i=>by simp[go_sem,exI,hlo],.s (.slice 9 (.const (.string s)) (some (.const (.int .i64 1))) none none) rfl fun q i=>by simp[go_sem,exI,hhi],⟨⟩⟩ fun R v2 i S=>?_;simp only[fzw];clear S;replace G:=G.trans i;replace j:=j.gr i;replace d:=d.gr i;clear i
 go_upto_region 7 with fail
 refine wp_wS [.c (.string f),.F,.F,.u,.u,.u,.u,.u,.u,.F,.F] [1] ⟨.s (.binOp .eql 9 (.const (.string f)) (.const (.string { data :=#[4] })) 9) rfl fun q i=>by simp[go_sem,exI,q4],⟨⟩⟩ fun U v3 i V=>?_;simp only[fzw];clear V;replace G:=G.trans i;replace j:=j.gr i;replace d:=d.gr i;clear i
 go_upto_region 9 with fail
 refine wp_wS [.c (.string f),.F,.F,.u,.u,.u,.u,.u,.F,.F] [1] ⟨.s (.binOp .eql 9 (.const (.string f)) (.const (.string { data :=#[2] })) 9) rfl fun q i=>by simp[go_sem,exI,q2],⟨⟩⟩ fun W v4 i Z=>?_;simp only[fzw];clear Z;replace G:=G.trans i;replace j:=j.gr i;replace d:=d.gr i;clear i
 go_upto_region 11 with fail
 refine wp_wS [.c (.string f),.T,.T,.c (.string r),.c (.int .i64 (r.size:Int)),.c (pv B 57),.c (.int .i64 (szN k)),.T,.T,.T] [1,6,7] ⟨.s (.binOp .eql 9 (.const (.string f)) (.const (.string { data :=#[3] })) 9) rfl fun q i=>by simp[go_sem,exI,q3],.o 3 57 d rfl (by exact cu_57 _ _ _ _ _ _ _ _ _ _),.s (.binOp .eql 3 (.const (.int .i64 (r.size:Int))) (.const (.int .i64 (szN k))) 3) rfl fun q i=>by simp[go_sem,exI,pz],⟨⟩⟩ fun I C i D=>?_;simp only[fzw];clear D;replace G:=G.trans i;replace j:=j.gr i;replace d:=d.gr i;clear i
 go_upto_region 12 with fail
 have HW:Hid (Gr w C∧Vr C (w.heap.size) (pnt 0 0 false)∧Vr C B (cuK k)):=⟨G,j,d⟩;clear G j d
 refine wp_x true [.c (.agg (cuK k)),.c (.string r),.c (.agg (nw 9 u)),.c (.tuple #[.agg (pnt X Y false),.int .i64 E]),.c (.agg (pnt X Y false)),.c (.int .i64 E),.u,.c (.int .i64 E)] [0,2] 3 6 (fun _ _=>True) (fun _ v=>Gr w v∧Vr v (w.heap.size) (pnt 0 0 false)∧Vr v B (cuK k)) (fun _ v=>Gr w v∧Vr v (w.heap.size) (pnt X Y false))
  37 (fun _ =>#[.agg (cuK k),.agg (nw 9 u),.int .i64 1]) 27 (fun _=>pv (w.heap.size) 0) (fun _=>.agg (pnt X Y false)) HW.out ?x1 ?x2 ?x3 ?x4 ⟨fnc,fnc,fnc,fnc,fnc,fnc,fnu,fnc,trivial⟩ ?x5
 case x1=>exact fun _ _ _ ⟨G,j,x⟩ g=>⟨G.trans g,j.gr g,x.gr g⟩
 case x2=>
  rintro _ q ⟨G,j,x⟩;exact⟨.g 74 0 x rfl,.z K.out,⟨⟩⟩
 case x3=>
  rintro _ v ⟨G,j,x⟩ _;refine(L.out _).mono ?_;rintro e w' ⟨rfl,g⟩;exact⟨fun _=>(none,0),rfl,trivial,⟨G.trans g,j.gr g,x.gr g⟩,trivial⟩
 case x4=>
  rintro _ v ⟨G,j,x⟩ _;exact⟨setBlk v (w.heap.size) (pnt X Y false),by simp[go_sem,exI,j.h,j.f],gr_setNew G (by omega),j.set (by rw[pnt_size];decide) _⟩
 rintro _ v9 ⟨G,j⟩;have hb:=j.h;simp only[fzw]
 go_wp2_with fail
 exact bo2 results12 (rd_pn (by rfl) hb) ⟨rfl,G⟩
end
end
section
theorem lt_pw(a n:Nat)(h:bl a≤64*n):a<pw n:=(bl_le a (64*n)).1 h
theorem bn_M{k:Nat}{l:List UInt8}(h:l.length=szN k):bn l<M:=
 lt_pw _ 9 (Nat.le_trans ((bl_le _ _).2 (bn_bd _ l h)) (by have:=szN_le k;omega))
theorem sget_any{k:Nat}(h1:1≤k)(h2:k≤15)(l:List UInt8){X Y:Nat}{E:Int}(h:gtL k l=(X,Y,E))(w:World):
 Cg 12 #[.int .i64 k,.string ⟨l.toArray⟩] w (.tuple #[.agg (pnt X Y false),.int .i64 E]):=by
 have H:=szN_le k
 cases l with
 | nil=>
  obtain⟨rfl,rfl,rfl⟩:0=X∧0=Y∧(2102:Int)=E:=by simpa [gtL]using h
  exact sget_empty h1 h2 w
 | cons f r=>
  have C:(⟨(f :: r).toArray⟩:ByteArray).toList.isEmpty=false:=by simp
  have i:∀w,(Instr.slice 9 (.string ⟨(f :: r).toArray⟩) none (some (.int .i64 1)) none).run prog w=.ok (.string ⟨[f].toArray⟩) w:=fun w=>by
   have:=slT_lo ⟨(f :: r).toArray⟩ 1 (by rw[sz_tx,List.length_cons];omega) w
   rwa [ex_tx]at this
  have j:∀w,(Instr.slice 9 (.string ⟨(f :: r).toArray⟩) (some (.int .i64 1)) none none).run prog w=.ok (.string ⟨r.toArray⟩) w:=fun w=>by
   have:=slT_hi ⟨(f :: r).toArray⟩ 1 (by rw[sz_tx,List.length_cons];omega) w
   rwa [ex_tx,sz_tx,List.drop_one,List.tail_cons,List.take_of_length_le (by rw[List.length_cons];omega)]at this
  have q:∀d,(⟨[f].toArray⟩:ByteArray).toList=[d]↔f=d:=fun d=>by simp
  have A:IntKind.i64.wrap (2*(szN k:Int))=((2*szN k:Nat):Int):=by rw[IntKind.wrap_i64];omega
  have D:∀n:Nat,(((⟨r.toArray⟩:ByteArray).size:Int)==(n:Int))=decide (r.length=n):=fun n=>by
   rw[sz_tx,Bool.eq_iff_iff,beq_iff_eq,decide_eq_true_eq]
   omega
  rw[gtL_cons]at h
  by_cases hf:f=4∧r.length=2*szN k
  ·rw[if_pos hf]at h
   have J:(r.take (szN k)).length=szN k:=by rw[List.length_take];omega
   have G:(r.drop (szN k)).length=szN k:=by rw[List.length_drop];omega
   obtain⟨c,B⟩:=exl (onB k (bn (r.take (szN k))) (bn (r.drop (szN k))) false);rw[B]at h
   refine sget_both h1 h2 C i j A ((q 4).2 hf.1) (by rw[D,decide_eq_true hf.2]) (t1:=⟨(r.take (szN k)).toArray⟩) (t2:=⟨(r.drop (szN k)).toArray⟩) (u:=bn (r.take (szN k))) (v:=bn (r.drop (szN k))) (fun w=>?_) (fun w=>?_) (number_of (by rw[sz_tx,J];exact H) rfl) (number_of (by rw[sz_tx,G];exact H) rfl) (fun w=>?_) w
   ·have:=slT_lo ⟨r.toArray⟩ (szN k) (by rw[sz_tx];omega) w
    rwa [ex_tx,List.drop_zero,Nat.sub_zero]at this
   ·have:=slT_hi ⟨r.toArray⟩ (szN k) (by rw[sz_tx];omega) w
    rwa [ex_tx,sz_tx,List.take_of_length_le (by rw[List.length_drop];omega)]at this
   ·have:=both_of h1 h2 (bn_M J) (bn_M G) B w
    cases c <;> (simp at h;obtain⟨rfl,rfl,rfl⟩:=h;exact this)
  ·rw[if_neg hf]at h
   by_cases hg:(f=2∨f=3)∧r.length=szN k
   ·rw[if_pos hg]at h;have K:=number_of (s:=⟨r.toArray⟩) (by rw[sz_tx,hg.2];exact H) rfl;have I:=fun b (G:b<2) w=>fromX_any h1 h2 (bn_M hg.2) G w;have x:=D (szN k);rw[decide_eq_true hg.2]at x;obtain⟨c,B⟩:=exl (isY k (bn r));rw[B]at h;rw[B]at I
    obtain rfl|rfl:=hg.1
    ·refine sget_x0 h1 h2 C i j (fun e=>absurd ((q 4).1 e) (by decide)) ((q 2).2 rfl) x K (fun w=>?_) w;have:=I 0 (by decide) w
     cases c <;> (simp at h;obtain⟨rfl,rfl,rfl⟩:=h;exact this)
    ·refine sget_x1 h1 h2 C i j (fun e=>absurd ((q 4).1 e) (by decide)) (fun e=>absurd ((q 2).1 e) (by decide)) ((q 3).2 rfl) x K (fun w=>?_) w;have:=I 1 (by decide) w
     cases c <;> (simp at h;obtain⟨rfl,rfl,rfl⟩:=h;exact this)
   ·rw[if_neg hg]at h
    obtain⟨rfl,rfl,rfl⟩:0=X∧0=Y∧(2102:Int)=E:=by simpa using h
    refine sget_form h1 h2 C i j A ?_ w;rw[q,q,q,D,D,decide_eq_false_iff_not,decide_eq_false_iff_not]
    by_cases e4:f=4
    ·subst e4;exact .inl ⟨rfl,by decide,by decide,fun e=>hf ⟨rfl,e⟩⟩
    ·by_cases e2:f=2
     ·subst e2;exact .inr (.inl ⟨by decide,rfl,by decide,fun e=>hg ⟨.inl rfl,e⟩⟩)
     ·by_cases e3:f=3
      ·subst e3;exact .inr (.inr (.inl ⟨by decide,by decide,rfl,fun e=>hg ⟨.inr rfl,e⟩⟩))
      ·exact .inr (.inr (.inr ⟨e4,e2,e3⟩))
end
end Go.Proofs.YtiigakdbabijhaaGreat