import Derived.Test.YtffhepbppiocbacGreatXMTB
import Derived.Test.YtffhepbppiocbacGreatXMVI
import Derived.Test.YtffhepbppiocbacGreatXMAQ
namespace Go.Proofs.YtffhepbppiocbacGreat
open Go.RowKit Go.Proofs.Tryz
set_option maxRecDepth 100000
set_option maxHeartbeats 8000000
section
def ent(x y z:Nat):Array Value:=nw 9 x++nw 9 y ++ #[.int .u64 z]
def bw(f:Bool):Nat:=if f then 1 else 0
abbrev enQ(Q:Q3):Array Value:=ent Q.1 Q.2.1 (bw Q.2.2)
section
variable (x y z:Nat)
theorem ent_size:(ent x y z).size=19:=by kernel_rfl
theorem ent_X:(ent x y z).extract 0 9=nw 9 x:=by kernel_rfl
theorem ent_Y:(ent x y z).extract 9 18=nw 9 y:=by kernel_rfl
theorem ent_18:(ent x y z)[18]? = some (.int .u64 z):=by kernel_rfl
theorem ent_set18:(ent x y z).setIfInBounds 18 (.int .u64 1)=ent x y 1:=by kernel_rfl
theorem ent_one:(ent x y z).all (·.oneCell')=true:=all_app _ _ (all_app _ _ (nw_one _ _) (nw_one _ _)) (by simp[Value.oneCell'])
end
theorem loadEn_is:LdI 121:=fun _=>rfl
theorem storeEn_is:StI 121:=fun _ _=>rfl
theorem zvEn_is:zeroValue 121=zvS 121:=rfl
theorem buildEn_is(p:Array (Nat×Value)):Instr.build 121 p=buildF 121 p:=rfl
theorem zvEn(w:World):(zvS 121).run prog w=.ok (.agg (ent 0 0 0)) w:=by kernel_rfl
theorem buildEn2(x y:Nat)(w:World):(buildF 121 #[(0,.agg (nw 9 x)),(1,.agg (nw 9 y))]).run prog w=.ok (.agg (ent x y 0)) w:=by kernel_rfl
theorem buildEn3(x y z:Nat)(w:World):(buildF 121 #[(0,.agg (nw 9 x)),(1,.agg (nw 9 y)),(2,.int .u64 z)]).run prog w=.ok (.agg (ent x y z)) w:=by kernel_rfl
theorem loadEn:LdS 121 19:=ldS
theorem loadPartE(w:World)(b o:Nat)(h:o+19≤(blk w b).size):(loadS 121 (.pointer (some ⟨b,o,none⟩))).run prog w=.ok (.agg ((blk w b).extract o (o+19))) w:=by
 have:=run_loadVar_mid w b o 121 ((blk w b).extract o (o+19)).toList _ (part_range w b o 19) underlying121 rfl (by
  have d:(prog.info? 121).map (·.size)=some 19:=by kernel_rfl
  rw[d];simp
  omega)
 simp only[loadS,Instr.loadAt,Instr.sureAddr,Sem.run_bind,Sem.run_pure,Result.andThen_ok];rw[Array.toArray_toList]at this;exact this
theorem storeEn(x y z:Nat):StS 121 19 (ent x y z):=stS (ent_size x y z) (ent_one x y z)
theorem rd_en{x y z:Nat}:RdC 121 (ent x y z):=rdC 19 (ent_size x y z)
theorem Vr.kp{S:Nat→Prop}{v v':World}{b:Nat}{c:Array Value}(h:Vr v b c)(k:Kp S v v')(hn:¬S b):Vr v' b c:=by
 have d:=k.block b h.p hn;exact⟨by rw[blk_of _ _ _ d];exact h.h,by rw[frz_of _ _ _ d];exact h.f,Nat.le_trans h.p k.size⟩
abbrev trp(t:Option Nat):Value:=.pointer (t.map fun b=>⟨b,0,none⟩)
def Lk(w:World)(t:Option Nat)(v:Value)(xs:List (Int×Int)):Prop:=∀b,t=some b→Tr w b v xs
def Ow(t:Option Nat)(v:Value)(b:Nat):Prop:=∃a,t=some a∧Own a v b
structure RecL(n:Nat)(w w':World)(t:Option Nat)(v v':Value)(xs:List (Int×Int)):Prop where
 lk:Lk w' t v' xs
 kp:Kp (Ow t v) w w'
 at':∀b,Ow t v' b→Ow t v b∨n≤b
theorem Lk.none(w:World)(v:Value)(xs:List (Int×Int)):Lk w none v xs:=fun _ h=>by cases h
theorem Ow.none{v:Value}{b:Nat}:¬Ow none v b:=fun⟨_,h,_⟩=>by cases h
theorem Lk.own{w:World}{t:Option Nat}{v:Value}{xs:List (Int×Int)}(h:Lk w t v xs){b:Nat}(hb:Ow t v b):b<w.heap.size:=by
 obtain⟨a,e,d⟩:=hb;exact((h a e).own b d).2
theorem Lk.kept{S:Nat→Prop}{w w':World}{t:Option Nat}{v:Value}{xs:List (Int×Int)}(h:Lk w t v xs)(k:Kp S w w')(hn:∀b,Ow t v b→¬S b):Lk w' t v xs:=
 fun b e=>(h b e).kept k fun c d=>hn c ⟨b,e,d⟩
theorem Lk.gr{w w':World}{t:Option Nat}{v:Value}{xs:List (Int×Int)}(h:Lk w t v xs)(g:Gr w w'):Lk w' t v xs:=h.kept (Kp.gr g fun _=>False) fun _ _ h=>h
theorem RecL.refl{w:World}{t:Option Nat}{v:Value}{xs:List (Int×Int)}(h:Lk w t v xs)(n:Nat):RecL n w w t v v xs:=⟨h,Kp.refl _ _,fun _ d=>Or.inl d⟩
theorem RecL.trans{n m:Nat}{w w1 w2:World}{t:Option Nat}{v v1 v2:Value}{xs ys:List (Int×Int)}(h:RecL n w w1 t v v1 xs)(k:RecL m w1 w2 t v1 v2 ys)(hn:w.heap.size≤n)(hm:n≤m):RecL n w w2 t v v2 ys:=by
 refine⟨k.lk,⟨k.kp.os.trans h.kp.os,k.kp.tape.trans h.kp.tape,k.kp.output.trans h.kp.output,Nat.le_trans h.kp.size k.kp.size,fun i f d=>?_⟩,fun b j=>?_⟩
 ·refine(k.kp.block i (Nat.lt_of_lt_of_le f h.kp.size) fun q=>?_).trans (h.kp.block i f d)
  rcases h.at' i q with h1|h1
  ·exact d h1
  ·omega
 ·rcases k.at' b j with h1|h1
  ·exact h.at' b h1
  ·exact Or.inr (by omega)
theorem RecL.gr{n:Nat}{w w1 w2:World}{t:Option Nat}{v v1:Value}{xs:List (Int×Int)}(h:RecL n w w1 t v v1 xs)(g:Gr w1 w2):RecL n w w2 t v v1 xs:=⟨h.lk.gr g,h.kp.trans (Kp.gr g _),h.at'⟩
theorem RecL.pre{n:Nat}{u w w1:World}{t:Option Nat}{v v1:Value}{xs:List (Int×Int)}(g:Gr u w)(h:RecL n w w1 t v v1 xs):RecL n u w1 t v v1 xs:=⟨h.lk,(Kp.gr g _).trans h.kp,h.at'⟩
theorem RecL.le{n m:Nat}{w w1:World}{t:Option Nat}{v v1:Value}{xs:List (Int×Int)}(h:RecL n w w1 t v v1 xs)(hm:m≤n):RecL m w w1 t v v1 xs:=⟨h.lk,h.kp,fun b d=>(h.at' b d).imp id fun h=>Nat.le_trans hm h⟩
theorem RecL.set{n:Nat}{w w1:World}{t:Option Nat}{v v1:Value}{xs:List (Int×Int)}(h:RecL n w w1 t v v1 xs)(b:Nat)(d:Array Value)(hb:w.heap.size≤b)(ho:¬Ow t v1 b):RecL n w (setBlk w1 b d) t v v1 xs:=by
 have f:Kp (fun k=>k=b) w1 (setBlk w1 b d):=(Kp.refl _ _).setBlk b d (Or.inl rfl);exact⟨h.lk.kept f fun c i e=>ho (e▸i),h.kp.setBlk b d (Or.inr hb),h.at'⟩
theorem RecL.no{n:Nat}{w w1:World}{t:Option Nat}{v v1:Value}{xs:List (Int×Int)}(h:RecL n w w1 t v v1 xs){b:Nat}(hb:¬Ow t v b)(hn:b<n):¬Ow t v1 b:=fun d=>(h.at' b d).elim hb fun h=>by omega
theorem Rec.l{w w':World}{t:Nat}{v v':Value}{xs:List (Int×Int)}(h:Rec w w' t v v' xs):RecL w.heap.size w w' (some t) v v' xs:=by
 refine⟨fun b e=>by cases e;exact h.tr,h.kp.mono fun b _ f=>⟨t,rfl,f⟩,fun b f=>?_⟩;obtain⟨a,e,d⟩:=f
 cases e
 rcases d with rfl|d
 ·exact Or.inl ⟨_,rfl,Or.inl rfl⟩
 ·rcases h.at' with e|⟨g,e,hg⟩
  ·exact Or.inl ⟨_,rfl,Or.inr (e▸d)⟩
  ·rw[e]at d;cases d;exact Or.inr hg
theorem look_any(w:World)(t:Option Nat)(v:Value)(xs:List (Int×Int))(i:Int)(h:Lk w t v xs)(hn:xs.length≤1000000):
 Calls prog 56 #[trp t,.int .i64 i] w fun e w'=>∃z v',e=.returned (.int .i64 z)∧RecL w.heap.size w w' t v v' (xs++[(2,i)]):=by
 cases t with
 | none=>exact(Index_nil w i).mono fun e w' ⟨d,g⟩=>⟨1,v,d,Lk.none _ _ _,Kp.gr g _,fun b f=>Or.inl f⟩
 | some b=>exact(Index_tr w b v xs i (h b rfl) hn).mono fun e w' ⟨d,v',j⟩=>⟨0,v',d,j.l⟩
def ixs(n:Nat):List (Int×Int):=(List.range n).map fun i:Nat=>(2,(i:Int))
theorem ixs_succ(n:Nat):ixs (n+1)=ixs n++[(2,(n:Int))]:=by simp[ixs,List.range_succ]
theorem ixs_length(n:Nat):(ixs n).length=n:=by simp[ixs]
structure Er(w:World)(g n:Nat)(f:Nat→Q3):Prop where
 lt:g<w.heap.size
 row:∀i,i<n→i*19+19≤(blk w g).size∧(blk w g).extract (i*19) (i*19+19)=enQ (f i)
theorem Er.kp{S:Nat→Prop}{w w':World}{g n:Nat}{f:Nat→Q3}(h:Er w g n f)(k:Kp S w w')(hn:¬S g):Er w' g n f:=
 ⟨Nat.lt_of_lt_of_le h.lt k.size,fun i d=>by rw[blk_of _ _ _ (k.block g h.lt hn)];exact h.row i d⟩
theorem Er.gr{w w':World}{g n:Nat}{f:Nat→Q3}(h:Er w g n f)(k:Gr w w'):Er w' g n f:=h.kp (Kp.gr k fun _=>False) fun h=>h
theorem Er.load{w:World}{g n:Nat}{f:Nat→Q3}(h:Er w g n f){i:Nat}(hi:i<n):(loadS 121 (.pointer (some ⟨g,i*19,none⟩))).run prog w=.ok (.agg (enQ (f i))) w:=by
 obtain⟨d,j⟩:=h.row i hi;rw[loadPartE w g (i*19) d,j]
structure Tb(w:World)(b g cap n:Nat)(f:Nat→Q3):Prop where
 vr:Vr w b #[.slice (some ⟨g,0,none⟩) n cap]
 row:Er w g n f
theorem Tb.kp{S:Nat→Prop}{w w':World}{b g cap n:Nat}{f:Nat→Q3}(h:Tb w b g cap n f)(k:Kp S w w')(h1:¬S b)(h2:¬S g):Tb w' b g cap n f:=⟨h.vr.kp k h1,h.row.kp k h2⟩
theorem Tb.gr{w w':World}{b g cap n:Nat}{f:Nat→Q3}(h:Tb w b g cap n f)(k:Gr w w'):Tb w' b g cap n f:=⟨h.vr.gr k,h.row.gr k⟩
def ens(f:Nat→Q3)(n:Nat):List Value:=(List.range n).flatMap fun i=>(enQ (f i)).toList
theorem ens_succ(f:Nat→Q3)(n:Nat):ens f (n+1)=ens f n++(enQ (f n)).toList:=by simp[ens,List.range_succ]
theorem ens_length(f:Nat→Q3):∀n,(ens f n).length=n*19
 | 0=>rfl
 | n+1=>by rw[ens_succ,List.length_append,ens_length f n,Array.length_toList,ent_size];omega
theorem ens_at(f:Nat→Q3):∀n i,i<n→((ens f n).drop (i*19)).take 19=(enQ (f i)).toList
 | 0,i,h=>by omega
 | n+1,i,h=>by
  rw[ens_succ];have hl:=ens_length f n
  by_cases e:i=n
  ·subst e;rw[List.drop_append_of_le_length (by omega),List.drop_of_length_le (by omega),List.nil_append,List.take_of_length_le (by rw[Array.length_toList,ent_size];omega)]
  ·rw[List.drop_append_of_le_length (by omega),List.take_append_of_le_length (by rw[List.length_drop];omega)];exact ens_at f n i (by omega)
theorem Er.of_owns{w:World}{base n:Nat}{v:Value}{f:Nat→Q3}(h:w.ownsRow base 121 19 v n (ens f n))(hn:0<n):∃g cap,v=.slice (some ⟨g,0,none⟩) n cap∧base≤g∧n≤cap∧Er w g n f:=by
 rcases h.2 with ⟨-,h0⟩|⟨g,cap,cur,rfl,hb,hg,h1,h2,h3,h4⟩
 ·omega
 ·refine⟨g,cap,rfl,hb,h1,(Array.getElem?_eq_some_iff.1 hg).1,fun i d=>?_⟩
  have j:blk w g=cur:=by unfold blk;rw[hg]
  rw[j];refine⟨by omega,?_⟩
  apply Array.toList_inj.1
  rw[←ens_at f n i d,←h4,Array.toList_extract,List.extract_eq_take_drop,show i*19+19-i*19=19 by omega,List.drop_take,List.take_take,show min 19 (n*19-i*19)=19 by omega]
theorem owns_first(w:World)(f:Nat→Q3):(w.alloc (.cells (enQ (f 0)) 121)).ownsRow w.heap.size 121 19 (.slice (some ⟨w.heap.size,0,none⟩) 1 1) 1 (ens f 1):=by
 refine⟨ens_length f 1,Or.inr ⟨w.heap.size,1,enQ (f 0),rfl,Nat.le_refl _,heap_alloc_new w _,Nat.le_refl _,by decide,ent_size _ _ _,?_⟩⟩;rw[ens_succ,show ens f 0=[] from rfl,List.nil_append,List.take_of_length_le (by rw[Array.length_toList,ent_size];omega)]
theorem Tryz.infoEn:(prog.info? 121).map (fun i=>(i.zero,i.size,i.bytes))=some (some (.agg (ent 0 0 0)),19,152):=by kernel_rfl
end
section
theorem ron_any(i:Nat)(h1:1≤i)(h2:i≤15)(x y:Nat)(f:Bool)(hx:x<M)(hy:y<M)(qc:Nat→Option Addr×Nat)(p q:Option Addr)(n m:Nat)(w:World)(HQ:∀k,Sl w (qc k).1 (nN i k))(Sx:Sl w p x)(Sy:Sl w q y):
 Calls prog 31 #[.agg (crA (i:Int) (nN i) qc),.agg (ptA p x n q y m f)] w (Rt (.c (.bool (onB i x y f))) w):=by
 have j:=pN_dl i h1 h2;have d:=dl_M x hx;have h:=dl_M y hy
 cases f with
 | true=>exact Rt.c (ron_inf i _ _ _ _ _ _ qc x y p q n m w HQ Sx Sy)
 | false=>
  by_cases lx:x<pN i
  ·by_cases ly:y<pN i
   ·have:=ron_ok i _ _ _ _ _ _ qc x y p q n m (by omega) (by omega) (by omega) lx ly (aN_lt i h1 h2) (bN_lt i h1 h2) w HQ Sx Sy;simp only[onB,lx,ly,decide_true,Bool.true_and,Bool.false_eq_true,if_false];exact Rt.c this
   ·have:=ron_y i _ _ _ _ _ _ qc x y p q n m (by omega) (by omega) (by omega) lx (by omega) w HQ Sx Sy;simp only[onB,ly,decide_false,Bool.false_and,Bool.and_false,Bool.false_eq_true,if_false];exact Rt.c this
  ·have:=ron_x i _ _ _ _ _ _ qc x y p q n m (by omega) (by omega) (by omega) w HQ Sx Sy;simp only[onB,lx,decide_false,Bool.false_and,Bool.false_eq_true,if_false];exact Rt.c this
theorem oN_dl(i:Nat):dl (oN i)≤18:=dl_M _ (oN_bd i)
end
section
theorem rplusQ(k:Nat)(h1:1≤k)(h2:k≤15)(qc:Nat→Option Addr×Nat){P Q:Q3}(hP:OnQ k P)(hQ:OnQ k Q){p1 q1 p2 q2:Option Addr}{n1 m1 n2 m2:Nat}{w:World}(HQ:∀j,Sl w (qc j).1 (nN k j))(Sx1:Sl w p1 P.1)(Sy1:Sl w q1 P.2.1)(Sx2:Sl w p2 Q.1)(Sy2:Sl w q2 Q.2.1):
 Calls prog 45 #[.agg (crA (k:Int) (nN k) qc),.agg (ptA p1 P.1 n1 q1 P.2.1 m1 P.2.2),.agg (ptA p2 Q.1 n2 q2 Q.2.1 m2 Q.2.2)] w (Rt (.pt (plQ k P Q).1 (plQ k P Q).2.1 (plQ k P Q).2.2) w):=by
 haveI:=EC.nzP k h1 h2
 have B:=pN_dl k h1 h2;obtain⟨d,f,x⟩:=dec3 hP;obtain⟨i,q,A⟩:=dec3 hQ;have h:=rplus_any (EC.curN k h1 h2) (by omega) (k:Int) (oN k) (xN k) (yN k) qc (decQ (pN k) P) (decQ (pN k) Q) p1 q1 n1 m1 p2 q2 n2 m2 w HQ (by rw[d];exact Sx1) (by rw[f];exact Sy1) (by rw[i];exact Sx2) (by rw[q];exact Sy2);rw[d,f,x,i,q,A]at h;rw[plQ_is h1 h2];exact h
theorem rnegQ(k:Nat)(h1:1≤k)(h2:k≤15)(qc:Nat→Option Addr×Nat){P:Q3}(hP:OnQ k P){p q:Option Addr}{n m:Nat}{w:World}(HQ:∀j,Sl w (qc j).1 (nN k j))(Sx:Sl w p P.1)(Sy:Sl w q P.2.1):
 Calls prog 41 #[.agg (crA (k:Int) (nN k) qc),.agg (ptA p P.1 n q P.2.1 m P.2.2)] w (Rt (.pt (ngQ k P).1 (ngQ k P).2.1 (ngQ k P).2.2) w):=by
 haveI:=EC.nzP k h1 h2
 have x:=pN_dl k h1 h2;obtain⟨d,f,i⟩:=dec3 hP;have h:=rneg_any (by omega) (k:Int) (aN k) (bN k) (oN k) (xN k) (yN k) qc (decQ (pN k) P) p q n m w HQ (by rw[d];exact Sx) (by rw[f];exact Sy);rw[d,f,i]at h;rw[ngQ_is h1 h2];exact h
theorem rtimesQ(k:Nat)(h1:1≤k)(h2:k≤15)(qc:Nat→Option Addr×Nat){P:Q3}(hP:OnQ k P){t nk:Nat}{pk:Option Addr}(ht:dl t≤400){p q:Option Addr}{n m:Nat}{w:World}(HQ:∀j,Sl w (qc j).1 (nN k j))(Sk:Sl w pk t)(Sx:Sl w p P.1)(Sy:Sl w q P.2.1):
 Calls prog 18 #[.agg (crA (k:Int) (nN k) qc),.slice pk (dl t) nk,.agg (ptA p P.1 n q P.2.1 m P.2.2)] w (Rt (.pt (mlQ k t P).1 (mlQ k t P).2.1 (mlQ k t P).2.2) w):=by
 haveI:=EC.nzP k h1 h2
 have x:=pN_dl k h1 h2;obtain⟨d,f,i⟩:=dec3 hP;have h:=rtimes_any (EC.curN k h1 h2) (by omega) (k:Int) (oN k) (xN k) (yN k) qc t nk pk ht (decQ (pN k) P) (on_dec h1 h2 hP) p q n m w HQ Sk (by rw[d];exact Sx) (by rw[f];exact Sy);rw[d,f,i]at h;rw[mlQ_is h1 h2];exact h
end
section
attribute [local go_sem ↓] uz1
attribute [local go_sem] uz2
section
attribute [local go_sem] uz8
attribute [local go_sem ↓] uz11 Go.wp_at_zero Go.wp_at_succ
attribute [local go_sem] uz12
abbrev pjT(T:T3):Array Value:=prj T.1 T.2.1 T.2.2
theorem jgf_yes{k:Nat}(h1:1≤k)(h2:k≤15)(n:Nat)(hn:n≤2)(F:Nat→T3)(c:Array Value)(hrow:∀i,i<n→c.extract (i*27) (i*27+27)=pjT (F i))(hsz:n*27≤c.size)(HO':∀i,i<n→∀w,Cg 144 #[.agg (cuK k),.agg (prj (F i).1 (F i).2.1 (F i).2.2)] w (.bool true))(b cap:Nat)(w:World)(hv:Vr w b c):
 Cg 113 #[.int .i64 k,.slice (some ⟨b,0,none⟩) n cap] w (.tuple #[.agg (cuK k),.int .i64 0]):=by
 have K:Hid (∀w,Cg 60 #[.int .i64 k] w (.tuple #[.agg (cuK k),.int .i64 0])):=fun w=>get13_yes k h1 h2 w;have U:Hu (n≤2):=fun _=>hn;have V:Hid _:=HO'
 have W:Hid (∀j,j<n→∀v,Gr w v→(loadS 144 (.pointer (some ⟨b,j*27,none⟩))).run prog v=.ok (.agg (prj (F j).1 (F j).2.1 (F j).2.2)) v):=fun j X v g=>by
  have L:=(hv.gr g).h;rw[loadPartJ v b (j*27) (by rw[L];omega),L,hrow j X]
 clear hn hrow hsz HO'
 go_enter func113,ntmps113
 go_wp2_with (go_at_call 60;refine(K.out _).mono ?_;rintro e d ⟨rfl,C⟩)
 obtain⟨q,f⟩:=exl (d.heap.size);simp only[f]
 refine gen_w (fun wr=>Hid (Gr w wr∧Vr wr (w.heap.size) (cu 0 0 0 0 0 0 0 0 0 false)∧Vr wr (q+1) (cuK k))) ?_ ?_
 ·subst f;have P:Gr d (d.alloc (.cells (cuK k) 96)):=(Gr.refl _).alloc _;have Q:Gr (d.alloc (.cells (cuK k) 96)) ((d.alloc (.cells (cuK k) 96)).alloc (.cells (cuK k) 170)):=(Gr.refl _).alloc _;have hn:=Vr.new (d.alloc (.cells (cuK k) 96)) (cuK k) 170;rw[show (d.alloc (.cells (cuK k) 96)).heap.size=d.heap.size+1 by simp]at hn;exact⟨((((Gr.refl w).alloc _).trans C).trans P).trans Q,(((Vr.new w _ _).gr C).gr P).gr Q,hn⟩
 have H:w.heap.size<q+1:=by have:=C.below.size;simp at this;omega
 have x:¬(w.heap.size=q+1):=by omega
 have A:¬(q+1=w.heap.size):=by omega
 clear f C K;obtain⟨Y,B⟩:=exl (q+1);simp only[B]at H x A ⊢;clear B;intro v0 D
 go_loopw [23] (fun ia wr=>∃j:Nat,ia=.int .i64 j∧Hu (j≤n)∧Hid (Gr w wr∧Vr wr (w.heap.size) (cu 0 0 0 0 0 0 0 0 0 false)∧Vr wr Y (cuK k))) (fun ia _=>(((n:Int))-intOf ia).toNat)
 case atStart=>exact⟨0,rfl,fun _=>Nat.zero_le _,D⟩
 case round=>
  clear D;obtain⟨j,rfl,HJ,D⟩:=hrel;obtain⟨G,S,Z⟩:=D.out
  have j0:(0:Int)≤j:=by omega
  have n4:(n:Int)≤2:=by have:=U.out ();omega
  have⟨aa,ab,ac⟩:=S;have⟨ae,af,ag⟩:=Z;have⟨ah,ai,aj,ak,ao,ap⟩:=S.pp
  by_cases hlt:j<n
  ·have I:j<n:=by exact hlt
   have aq:=W.out j I wr G;have J:Hid _:=V.out j hlt
   go_wp2_with (go_at_call 144;refine hkA J fun g=>?_)
   go_roundw
   case rel=>
    refine⟨j+1,by go_num,fun _=>hlt,?_,⟨by simp[go_sem, *],by simp[go_sem, *],by simp[go_sem, *]⟩,⟨by simp[go_sem, *],by simp[go_sem, *],by simp[go_sem, *]⟩⟩;exact grB
   case measure=>simp[intOf];omega
  ·skip
   go_wp2_with fail
   refine bo2 results113 (rd_jg (by rfl) ?_) ⟨rfl,?_⟩
   ·simp[go_sem, *]
   ·exact grB
end
section
attribute [local go_sem] uz8
attribute [local go_sem ↓] uz11 Go.wp_at_zero Go.wp_at_succ
attribute [local go_sem] uz12
theorem jto_yes{k:Nat}{T:T3}{R:Q3}(HG':∀w b,Vr w b (pjT T)→Cg 113 #[.int .i64 k,.slice (some ⟨b,0,none⟩) 1 1] w (.tuple #[.agg (cuK k),.int .i64 0]))(HA':∀w,Cg 115 #[.agg (cuK k),.agg (pjT T)] w (.agg (pnQ R)))(w:World):
 Cg 90 #[.int .i64 k,.agg (pjT T)] w (.tuple #[.agg (pnQ R),.int .i64 0]):=by
 have A:Hid _:=HG';have B:Hid _:=HA';clear HG' HA'
 go_enter func90,ntmps90
 go_upto_region 1 with fail
 refine gen_w (fun v=>Hid (Gr w v∧Vr v (w.heap.size) (pjT T)∧Vr v (w.heap.size+1) (pnt 0 0 false))) ⟨grA,vrA,vrA⟩ ?_;intro W q;obtain⟨G,h,i⟩:=q.out;clear q;refine wp_v false [.c (.int .i64 k),.c (.agg (pjT T)),.r 1 (pjT T),.E (.agg (cuK k)),.E (.agg (cuK k)),.c (.agg (cuK k)),.O,.a,.u,.O] [1,2,3] [⟨7,8,170,cu 0 0 0 0 0 0 0 0 0 false,fun _=>cuK k⟩] ⟨.g 144 0 h rfl,.r (.buildSlice 185 1 #[(0,.const (.agg (pjT T)))]) rfl (rowJ1 _ _ _),.k _ fun X Y f C=>RtW.of_c (Rt.c (A.out _ _ (C 2 rfl))),⟨⟩⟩ ⟨.k zCu ⟨fkc,fkc,fkr (by simp[cu_size,prj_size]),fkc,fkc,fkc,fkc,fka,fku,fkc,trivial⟩,⟨⟩⟩ fun D Z f H j=>?_;simp only[fzw,Kw.a,Kw.r];obtain⟨⟨x,d⟩,-⟩:=j;clear H;replace G:=G.trans f;replace h:=h.gr f;replace i:=i.gr f;clear f
 go_upto_region 2 with fail
 refine wp_wS [.O,.F] [] ⟨⟩ fun I v2 f J=>?_;simp only[fzw];clear J;replace G:=G.trans f;replace h:=h.gr f;replace i:=i.gr f;replace d:=d.gr f;have K:=h.al;have⟨L,P,Q⟩:=i;have⟨S,U,V⟩:=d
 go_wp2_with (go_at_call 115;refine hkA B fun g=>?_)
 refine bo2 results90 (rd_pn (by rfl) ?_) ⟨rfl,?_⟩
 ·simp[go_sem, *]
 ·exact grB
theorem jadd_yes{k:Nat}{S T:T3}{R:T3}(HG':∀w b,Vr w b (pjT S++pjT T)→Cg 113 #[.int .i64 k,.slice (some ⟨b,0,none⟩) 2 2] w (.tuple #[.agg (cuK k),.int .i64 0]))(HA':∀w,Cg 114 #[.agg (cuK k),.agg (pjT S),.agg (pjT T)] w (.agg (pjT R)))(w:World):
 Cg 89 #[.int .i64 k,.agg (pjT S),.agg (pjT T)] w (.tuple #[.agg (pjT R),.int .i64 0]):=by
 have B:Hid _:=HG';have C:Hid _:=HA';clear HG' HA'
 go_enter func89,ntmps89
 go_upto_region 1 with fail
 refine gen_w (fun v=>Hid (Gr w v∧Vr v (w.heap.size) (pjT S)∧Vr v (w.heap.size+1) (pjT T)∧Vr v (w.heap.size+1+1) (prj 0 0 0))) ⟨grA,vrA,vrA,vrA⟩ ?_;intro Z x;obtain⟨G,h,i,j⟩:=x.out;clear x;refine wp_v false [.c (.int .i64 k),.c (.agg (pjT S)),.c (.agg (pjT T)),.r 2 (pjT S++pjT T),.E (.agg (cuK k)),.E (.agg (cuK k)),.c (.agg (cuK k)),.O,.a,.u,.O] [1,2,3,4] [⟨8,9,170,cu 0 0 0 0 0 0 0 0 0 false,fun _=>cuK k⟩] ⟨.g 144 0 h rfl,.g 144 0 i rfl,.r (.buildSlice 185 2 #[(0,.const (.agg (pjT S))),(1,.const (.agg (pjT T)))]) rfl (rowJ2 _ _ _ _ _ _),.k _ fun yy vv d D=>RtW.of_c (Rt.c (B.out _ _ (D 3 rfl))),⟨⟩⟩ ⟨.k zCu ⟨fkc,fkc,fkc,fkr (by simp[cu_size,prj_size]),fkc,fkc,fkc,fkc,fka,fku,fkc,trivial⟩,⟨⟩⟩ fun H v1 d I q=>?_;simp only[fzw,Kw.a,Kw.r];obtain⟨⟨A,f⟩,-⟩:=q;clear I;replace G:=G.trans d;replace h:=h.gr d;replace i:=i.gr d;replace j:=j.gr d;clear d
 go_upto_region 2 with fail
 refine wp_wS [.O,.F] [] ⟨⟩ fun J v2 d K=>?_;simp only[fzw];clear K;replace G:=G.trans d;replace h:=h.gr d;replace i:=i.gr d;replace j:=j.gr d;replace f:=f.gr d;clear d;have L:=h.al;have⟨P,Q,U⟩:=i;have V:=j.al;have⟨W,X,Y⟩:=f
 go_wp2_with (go_at_call 114;refine hkA C fun g=>?_)
 refine bo2 results89 (rd_pj (by rfl) ?_) ⟨rfl,?_⟩
 ·simp[go_sem, *]
 ·exact grB
theorem jdouble_yes{k:Nat}{T:T3}{R:T3}(HG':∀w b,Vr w b (pjT T)→Cg 113 #[.int .i64 k,.slice (some ⟨b,0,none⟩) 1 1] w (.tuple #[.agg (cuK k),.int .i64 0]))(HA':∀w,Cg 114 #[.agg (cuK k),.agg (pjT T),.agg (pjT T)] w (.agg (pjT R)))(w:World):
 Cg 88 #[.int .i64 k,.agg (pjT T)] w (.tuple #[.agg (pjT R),.int .i64 0]):=by
 have A:Hid _:=HG';have B:Hid _:=HA';clear HG' HA'
 go_enter func88,ntmps88
 go_upto_region 1 with fail
 refine gen_w (fun v=>Hid (Gr w v∧Vr v (w.heap.size) (pjT T)∧Vr v (w.heap.size+1) (prj 0 0 0))) ⟨grA,vrA,vrA⟩ ?_;intro W q;obtain⟨G,h,i⟩:=q.out;clear q;refine wp_v false [.c (.int .i64 k),.c (.agg (pjT T)),.r 1 (pjT T),.E (.agg (cuK k)),.E (.agg (cuK k)),.c (.agg (cuK k)),.O,.a,.u,.O] [1,2,3] [⟨7,8,170,cu 0 0 0 0 0 0 0 0 0 false,fun _=>cuK k⟩] ⟨.g 144 0 h rfl,.r (.buildSlice 185 1 #[(0,.const (.agg (pjT T)))]) rfl (rowJ1 _ _ _),.k _ fun X Y f C=>RtW.of_c (Rt.c (A.out _ _ (C 2 rfl))),⟨⟩⟩ ⟨.k zCu ⟨fkc,fkc,fkr (by simp[cu_size,prj_size]),fkc,fkc,fkc,fkc,fka,fku,fkc,trivial⟩,⟨⟩⟩ fun D Z f H j=>?_;simp only[fzw,Kw.a,Kw.r];obtain⟨⟨x,d⟩,-⟩:=j;clear H;replace G:=G.trans f;replace h:=h.gr f;replace i:=i.gr f;clear f
 go_upto_region 2 with fail
 refine wp_wS [.O,.F] [] ⟨⟩ fun I v2 f J=>?_;simp only[fzw];clear J;replace G:=G.trans f;replace h:=h.gr f;replace i:=i.gr f;replace d:=d.gr f;have K:=h.al;have⟨L,P,Q⟩:=i;have⟨S,U,V⟩:=d
 go_wp2_with (go_at_call 114;refine hkA B fun g=>?_)
 refine bo2 results88 (rd_pj (by rfl) ?_) ⟨rfl,?_⟩
 ·simp[go_sem, *]
 ·exact grB
end
end
section
theorem eqF0{k:Nat}(h1:1≤k)(h2:k≤15)[NeZero (pN k)](a:Fin (pN k)):eqN 9 a.val 0=decide (a=0):=by
 rw[eqN9 _ _ (Nat.lt_trans a.isLt (pN_M k)) (Nat.lt_trans (Nat.lt_of_lt_of_le (by decide) (prm_pN k h1 h2).1) (pN_M k))];simp
theorem belowT{k:Nat}{N X Y:Nat}{s z:Int}{l:Bool}{A B X1 Y1 Z1:Fin (pN k)}(w:World)(q:Nat)(hv:Vr w q (nw 9 X1.val++nw 9 Y1.val++nw 9 Z1.val)):
 Cg 154 #[.agg (cu (k:Int) (pN k) A.val B.val N X Y s z l),.slice (some ⟨q,0,none⟩) 3 3] w (.bool true):=
 jbelow_yes (k:Int) (pN k) A.val B.val N X Y s z l (pN_M k) 3 (by decide) (fun i=>match i with|0=>X1.val|1=>Y1.val|_=>Z1.val)
  (fun i _=>match i with|0=>Nat.lt_trans X1.isLt (pN_M k)|1=>Nat.lt_trans Y1.isLt (pN_M k)|_+2=>Nat.lt_trans Z1.isLt (pN_M k)) _
  (fun i d=>by
   obtain rfl|rfl|rfl:i=0∨i=1∨i=2:=by omega
   ·kernel_rfl
   ·kernel_rfl
   ·kernel_rfl) (by simp[nw_size]) (fun i _=>match i with|0=>X1.isLt|1=>Y1.isLt|_+2=>Z1.isLt) q 3 w hv
theorem holdsT{k:Nat}(h1:1≤k)(h2:k≤15){T:T3}{Q:Q3}(h:TrQ k T Q)(w:World):
 Cg 144 #[.agg (cuN k),.agg (pjT T)] w (.bool true):=by
 haveI:=EC.nzP k h1 h2
 have f:=h;obtain⟨-,X,Y,Z,rfl,-⟩:=f;obtain⟨i,d⟩:=tr_tri h1 h2 h
 have e:Y*Y*Z=X*X*X+EC.aF k h1 h2*X*Z*Z+EC.bF k h1 h2*Z*Z*Z:=by rw[d];clear d h;grobner
 exact jholds_2 (A:=EC.aF k h1 h2) (B:=EC.bF k h1 h2) _ _ true (by
  rw[eqF0 h1 h2,eqF0 h1 h2,eqF0 h1 h2];simp only[Bool.and_eq_false_iff,decide_eq_false_iff_not]
  by_cases hx:X=0
  ·by_cases hy:Y=0
   ·exact .inr (.inr fun j=>i ⟨hx,hy,j⟩)
   ·exact .inr (.inl hy)
  ·exact .inl hx) (fun w q x=>belowT w q x) (fun w=>jleft h1 h2 rfl w) (fun w=>jright h1 h2 rfl rfl rfl rfl w) (by rw[e];exact eqN_self _ _) w
theorem rowT1{T:T3}(i:Nat)(hi:i<1):(pjT T).extract (i*27) (i*27+27)=pjT ((fun _=>T:Nat→T3) i):=by
 obtain rfl:i=0:=by omega
 kernel_rfl
theorem rowT2{S T:T3}(i:Nat)(hi:i<2):(pjT S++pjT T).extract (i*27) (i*27+27)=pjT ((fun i=>match i with|0=>S|_=>T:Nat→T3) i):=by
 obtain rfl|rfl:i=0∨i=1:=by omega
 ·kernel_rfl
 ·kernel_rfl
theorem jgf1{k:Nat}(h1:1≤k)(h2:k≤15){T:T3}{Q:Q3}(hT:TrQ k T Q)(w:World)(b:Nat)(hv:Vr w b (pjT T)):Cg 113 #[.int .i64 k,.slice (some ⟨b,0,none⟩) 1 1] w (.tuple #[.agg (cuN k),.int .i64 0]):=
 jgf_yes h1 h2 1 (by decide) (fun _=>T) _ rowT1 (by simp[prj_size]) (fun _ _ w=>holdsT h1 h2 hT w) b 1 w hv
theorem jgf2{k:Nat}(h1:1≤k)(h2:k≤15){S T:T3}{P Q:Q3}(hS:TrQ k S P)(hT:TrQ k T Q)(w:World)(b:Nat)(hv:Vr w b (pjT S++pjT T)):Cg 113 #[.int .i64 k,.slice (some ⟨b,0,none⟩) 2 2] w (.tuple #[.agg (cuN k),.int .i64 0]):=
 jgf_yes h1 h2 2 (by decide) (fun i=>match i with|0=>S|_=>T) _ rowT2 (by simp[prj_size]) (fun i _ w=>match i with|0=>holdsT h1 h2 hS w|_+1=>holdsT h1 h2 hT w) b 2 w hv
theorem pointQ{k:Nat}(h1:1≤k)(h2:k≤15){T:T3}{Q:Q3}(hT:TrQ k T Q)(w:World):Cg 115 #[.agg (cuN k),.agg (pjT T)] w (.agg (pnQ Q)):=by
 haveI:=EC.nzP k h1 h2
 have e:=hT.pt h1 h2;obtain⟨-,X,Y,Z,rfl,-⟩:=hT;rw[ptT_is]at e
 by_cases hz:Z=0
 ·rw[if_pos hz]at e;subst e hz;have h:=jpt_inf (k:=k) (A:=EC.aF k h1 h2) (B:=EC.bF k h1 h2) (N:=oN k) (X:=xN k) (Y:=yN k) (s:=bl (oN k)) (z:=szN k) (l:=lgN k) X.val Y.val w;rw[←Fin.val_zero (pN k)]at h;exact h
 ·rw[if_neg hz]at e;subst e;exact jpt_fin h1 h2 (A:=EC.aF k h1 h2) (B:=EC.bF k h1 h2) (by rw[eqF0 h1 h2];exact decide_eq_false hz) (fun w=>finvF h1 h2 Z hz w) rfl rfl w
theorem gaddT{k:Nat}(h1:1≤k)(h2:k≤15){S T R:T3}{P Q:Q3}(hS:TrQ k S P)(hT:TrQ k T Q)(hR:addT k S T=R)(w:World):Cg 114 #[.agg (cuN k),.agg (pjT S),.agg (pjT T)] w (.agg (pjT R)):=by
 haveI:=EC.nzP k h1 h2
 subst hR;obtain⟨-,d,f,h,rfl,-⟩:=hS;obtain⟨-,i,j,q,rfl,-⟩:=hT;rw[addT_is h1 h2]
 exact jadd_of h1 h2 (A:=EC.aF k h1 h2) (B:=EC.bF k h1 h2)
  rfl rfl rfl rfl rfl rfl rfl rfl rfl rfl rfl rfl rfl rfl rfl rfl rfl rfl rfl rfl rfl rfl rfl rfl rfl rfl (by unfold EC.pX;grobner) rfl rfl (by unfold EC.pY;grobner) rfl rfl (by unfold EC.pZ;grobner) w
def frT(P:Q3):T3:=cond P.2.2 (0,1,0) (P.1,P.2.1,1)
theorem frT_tr{k:Nat}(h1:1≤k)(h2:k≤15){P:Q3}(hP:OnQ k P):TrQ k (frT P) P:=by
 rcases hP.cases with rfl|⟨x,y,rfl,-⟩
 ·exact inf_tr h1 h2 (prm_pN k h1 h2).1 (by decide)
 ·exact one_tr h1 h2 hP
theorem toQ{k:Nat}(h1:1≤k)(h2:k≤15){T:T3}{Q:Q3}(hT:TrQ k T Q)(w:World):Cg 90 #[.int .i64 k,.agg (pjT T)] w (.tuple #[.agg (pnQ Q),.int .i64 0]):=
 jto_yes (jgf1 h1 h2 hT) (pointQ h1 h2 hT) w
theorem jaddQ{k:Nat}(h1:1≤k)(h2:k≤15){S T R:T3}{P Q:Q3}(hS:TrQ k S P)(hT:TrQ k T Q)(hR:addT k S T=R)(w:World):Cg 89 #[.int .i64 k,.agg (pjT S),.agg (pjT T)] w (.tuple #[.agg (pjT R),.int .i64 0]):=
 jadd_yes (jgf2 h1 h2 hS hT) (gaddT h1 h2 hS hT hR) w
theorem jdblQ{k:Nat}(h1:1≤k)(h2:k≤15){T R:T3}{Q:Q3}(hT:TrQ k T Q)(hR:addT k T T=R)(w:World):Cg 88 #[.int .i64 k,.agg (pjT T)] w (.tuple #[.agg (pjT R),.int .i64 0]):=
 jdouble_yes (jgf1 h1 h2 hT) (gaddT h1 h2 hT hT hR) w
end
section
attribute [local go_sem ↓] uz1
attribute [local go_sem] uz2
section
attribute [local go_sem] uz8
attribute [local go_sem ↓] uz17 Go.wp_at_zero Go.wp_at_succ
attribute [local go_sem] uz18
theorem rg_any{k:Nat}(qc:Nat→Option Addr×Nat)(w:World)(HQ:∀j,Sl w (qc j).1 (nN k j)):Calls prog 21 #[.agg (crA (k:Int) (nN k) qc)] w (Rt (.pt (xN k) (yN k) false) w):=by
 go_enter func21,ntmps21
 go_upto_region 1 with fail
 refine gen_w (fun v=>Gr w v∧Vr v (w.heap.size) (crA (k:Int) (nN k) qc)∧Vr v (w.heap.size+1) (ptA none 0 0 none 0 0 false)) ⟨grA,vrA,vrA⟩ ?_;rintro L ⟨G,D,H⟩;replace HQ:=fun k=>(HQ k).gr G;refine wp_wTS 5 [.c (pv (w.heap.size) 5),.c (.slice (qc 4).1 (dl (xN k)) (qc 4).2),.c (pv (w.heap.size) 6),.c (.slice (qc 5).1 (dl (yN k)) (qc 5).2),.pt (xN k) (yN k) false] [1,3,4] ⟨.o 25 5 D rfl rfl,.o 25 6 D rfl rfl,.p (fun q i=>match i with|0=>((qc 4).1,(qc 4).2)|_=>((qc 5).1,(qc 5).2)) fun q P x Q=>⟨((HQ 4).gr x),((HQ 5).gr x)⟩,⟨⟩⟩ (.s 38 (fun q=>pv (w.heap.size+1) 0) (fun q=>.agg (ptA (q 4 0).1 (xN k) (q 4 0).2 (q 4 1).1 (yN k) (q 4 1).2 false)) fun d I x J=>?_);have C:=(H.gr x).h;have K:=(H.gr x).f;refine⟨setBlk I (w.heap.size+1) (ptA (d 4 0).1 (xN k) (d 4 0).2 (d 4 1).1 (yN k) (d 4 1).2 false),by simp[go_sem,exI,C,K],?_⟩;simp only[fzw];obtain⟨A,B⟩:=J 4;replace G:=G.trans x
 go_wp2_with fail
 exact bo1 results21 (rd_pt _ _ _ _ _ _ _ (by rfl) (blk_setBlk _ _ _ (by rw[C];decide))) ⟨_,rfl,⟨_,_,_,_,rfl,Sl.set A (by rw[C];exact ptA_no _ _ _ _ _ _ _),Sl.set B (by rw[C];exact ptA_no _ _ _ _ _ _ _)⟩,gr_setNew G (by omega)⟩
end
end
section
theorem ron_is{k:Nat}(h1:1≤k)(h2:k≤15){P:Q3}{r:Bool}(lP:P.1<M∧P.2.1<M)(h:onB k P.1 P.2.1 P.2.2=r)(qc:Nat→Option Addr×Nat){p q:Option Addr}{n m:Nat}{w:World}(HQ:∀j,Sl w (qc j).1 (nN k j))(Sx:Sl w p P.1)(Sy:Sl w q P.2.1):
 Calls prog 31 #[.agg (crA (k:Int) (nN k) qc),.agg (ptA p P.1 n q P.2.1 m P.2.2)] w (Rt (.c (.bool r)) w):=by
 subst h;exact ron_any k h1 h2 _ _ _ lP.1 lP.2 qc p q n m w HQ Sx Sy
end
end Go.Proofs.YtffhepbppiocbacGreat