import Derived.Test.YtffhepbppiocbacGreatXTRT
import Derived.Test.YtffhepbppiocbacGreatXTTB
import Derived.Test.YtffhepbppiocbacGreatXTVI
namespace Go.Proofs.YtffhepbppiocbacGreat
open Go.RowKit Go.Proofs.Tryz
set_option maxRecDepth 100000
set_option maxHeartbeats 8000000
section
def ent(x y z:Nat):Array Value:=nw 9 x++nw 9 y ++ #[.int .u64 z]
def bw(f:Bool):Nat:=if f then 1 else 0
abbrev enQ(Q:Q3):Array Value:=ent Q.1 Q.2.1 (bw Q.2.2)
section
variable (x y z:Nat)
theorem ent_size:(ent x y z).size=19:=by kernel_rfl
theorem ent_X:(ent x y z).extract 0 9=nw 9 x:=by kernel_rfl
theorem ent_Y:(ent x y z).extract 9 18=nw 9 y:=by kernel_rfl
theorem ent_18:(ent x y z)[18]? = some (.int .u64 z):=by kernel_rfl
theorem ent_set18:(ent x y z).setIfInBounds 18 (.int .u64 1)=ent x y 1:=by kernel_rfl
theorem ent_one:(ent x y z).all (·.oneCell')=true:=all_app _ _ (all_app _ _ (nw_one _ _) (nw_one _ _)) (by simp[Value.oneCell'])
end
theorem loadEn_is:LdI 121:=fun _=>rfl
theorem storeEn_is:StI 121:=fun _ _=>rfl
theorem zvEn_is:zeroValue 121=zvS 121:=rfl
theorem buildEn_is(p:Array (Nat×Value)):Instr.build 121 p=buildF 121 p:=rfl
theorem zvEn(w:World):(zvS 121).run prog w=.ok (.agg (ent 0 0 0)) w:=by kernel_rfl
theorem buildEn2(x y:Nat)(w:World):(buildF 121 #[(0,.agg (nw 9 x)),(1,.agg (nw 9 y))]).run prog w=.ok (.agg (ent x y 0)) w:=by kernel_rfl
theorem buildEn3(x y z:Nat)(w:World):(buildF 121 #[(0,.agg (nw 9 x)),(1,.agg (nw 9 y)),(2,.int .u64 z)]).run prog w=.ok (.agg (ent x y z)) w:=by kernel_rfl
theorem loadEn:LdS 121 19:=ldS
theorem loadPartE(w:World)(b o:Nat)(h:o+19≤(blk w b).size):(loadS 121 (.pointer (some ⟨b,o,none⟩))).run prog w=.ok (.agg ((blk w b).extract o (o+19))) w:=by
 have:=run_loadVar_mid w b o 121 ((blk w b).extract o (o+19)).toList _ (part_range w b o 19) underlying121 rfl (by
  have d:(prog.info? 121).map (·.size)=some 19:=by kernel_rfl
  rw[d];simp
  omega)
 simp only[loadS,Instr.loadAt,Instr.sureAddr,Sem.run_bind,Sem.run_pure,Result.andThen_ok];rw[Array.toArray_toList]at this;exact this
theorem storeEn(x y z:Nat):StS 121 19 (ent x y z):=stS (ent_size x y z) (ent_one x y z)
theorem rd_en{x y z:Nat}:RdC 121 (ent x y z):=rdC 19 (ent_size x y z)
theorem Vr.kp{S:Nat→Prop}{v v':World}{b:Nat}{c:Array Value}(h:Vr v b c)(k:Kp S v v')(hn:¬S b):Vr v' b c:=by
 have d:=k.block b h.p hn;exact⟨by rw[blk_of _ _ _ d];exact h.h,by rw[frz_of _ _ _ d];exact h.f,Nat.le_trans h.p k.size⟩
abbrev trp(t:Option Nat):Value:=.pointer (t.map fun b=>⟨b,0,none⟩)
def Lk(w:World)(t:Option Nat)(v:Value)(xs:List (Int×Int)):Prop:=∀b,t=some b→Tr w b v xs
def Ow(t:Option Nat)(v:Value)(b:Nat):Prop:=∃a,t=some a∧Own a v b
structure RecL(n:Nat)(w w':World)(t:Option Nat)(v v':Value)(xs:List (Int×Int)):Prop where
 lk:Lk w' t v' xs
 kp:Kp (Ow t v) w w'
 at':∀b,Ow t v' b→Ow t v b∨n≤b
theorem Lk.none(w:World)(v:Value)(xs:List (Int×Int)):Lk w none v xs:=fun _ h=>by cases h
theorem Ow.none{v:Value}{b:Nat}:¬Ow none v b:=fun⟨_,h,_⟩=>by cases h
theorem Lk.own{w:World}{t:Option Nat}{v:Value}{xs:List (Int×Int)}(h:Lk w t v xs){b:Nat}(hb:Ow t v b):b<w.heap.size:=by
 obtain⟨a,e,d⟩:=hb;exact((h a e).own b d).2
theorem Lk.kept{S:Nat→Prop}{w w':World}{t:Option Nat}{v:Value}{xs:List (Int×Int)}(h:Lk w t v xs)(k:Kp S w w')(hn:∀b,Ow t v b→¬S b):Lk w' t v xs:=
 fun b e=>(h b e).kept k fun c d=>hn c ⟨b,e,d⟩
theorem Lk.gr{w w':World}{t:Option Nat}{v:Value}{xs:List (Int×Int)}(h:Lk w t v xs)(g:Gr w w'):Lk w' t v xs:=h.kept (Kp.gr g fun _=>False) fun _ _ h=>h
theorem RecL.refl{w:World}{t:Option Nat}{v:Value}{xs:List (Int×Int)}(h:Lk w t v xs)(n:Nat):RecL n w w t v v xs:=⟨h,Kp.refl _ _,fun _ d=>Or.inl d⟩
theorem RecL.trans{n m:Nat}{w w1 w2:World}{t:Option Nat}{v v1 v2:Value}{xs ys:List (Int×Int)}(h:RecL n w w1 t v v1 xs)(k:RecL m w1 w2 t v1 v2 ys)(hn:w.heap.size≤n)(hm:n≤m):RecL n w w2 t v v2 ys:=by
 refine⟨k.lk,⟨k.kp.os.trans h.kp.os,k.kp.tape.trans h.kp.tape,k.kp.output.trans h.kp.output,Nat.le_trans h.kp.size k.kp.size,fun i f d=>?_⟩,fun b j=>?_⟩
 ·refine(k.kp.block i (Nat.lt_of_lt_of_le f h.kp.size) fun q=>?_).trans (h.kp.block i f d)
  rcases h.at' i q with h1|h1
  ·exact d h1
  ·omega
 ·rcases k.at' b j with h1|h1
  ·exact h.at' b h1
  ·exact Or.inr (by omega)
theorem RecL.gr{n:Nat}{w w1 w2:World}{t:Option Nat}{v v1:Value}{xs:List (Int×Int)}(h:RecL n w w1 t v v1 xs)(g:Gr w1 w2):RecL n w w2 t v v1 xs:=⟨h.lk.gr g,h.kp.trans (Kp.gr g _),h.at'⟩
theorem RecL.pre{n:Nat}{u w w1:World}{t:Option Nat}{v v1:Value}{xs:List (Int×Int)}(g:Gr u w)(h:RecL n w w1 t v v1 xs):RecL n u w1 t v v1 xs:=⟨h.lk,(Kp.gr g _).trans h.kp,h.at'⟩
theorem RecL.le{n m:Nat}{w w1:World}{t:Option Nat}{v v1:Value}{xs:List (Int×Int)}(h:RecL n w w1 t v v1 xs)(hm:m≤n):RecL m w w1 t v v1 xs:=⟨h.lk,h.kp,fun b d=>(h.at' b d).imp id fun h=>Nat.le_trans hm h⟩
theorem RecL.set{n:Nat}{w w1:World}{t:Option Nat}{v v1:Value}{xs:List (Int×Int)}(h:RecL n w w1 t v v1 xs)(b:Nat)(d:Array Value)(hb:w.heap.size≤b)(ho:¬Ow t v1 b):RecL n w (setBlk w1 b d) t v v1 xs:=by
 have f:Kp (fun k=>k=b) w1 (setBlk w1 b d):=(Kp.refl _ _).setBlk b d (Or.inl rfl);exact⟨h.lk.kept f fun c i e=>ho (e▸i),h.kp.setBlk b d (Or.inr hb),h.at'⟩
theorem RecL.no{n:Nat}{w w1:World}{t:Option Nat}{v v1:Value}{xs:List (Int×Int)}(h:RecL n w w1 t v v1 xs){b:Nat}(hb:¬Ow t v b)(hn:b<n):¬Ow t v1 b:=fun d=>(h.at' b d).elim hb fun h=>by omega
theorem Rec.l{w w':World}{t:Nat}{v v':Value}{xs:List (Int×Int)}(h:Rec w w' t v v' xs):RecL w.heap.size w w' (some t) v v' xs:=by
 refine⟨fun b e=>by cases e;exact h.tr,h.kp.mono fun b _ f=>⟨t,rfl,f⟩,fun b f=>?_⟩;obtain⟨a,e,d⟩:=f
 cases e
 rcases d with rfl|d
 ·exact Or.inl ⟨_,rfl,Or.inl rfl⟩
 ·rcases h.at' with e|⟨g,e,hg⟩
  ·exact Or.inl ⟨_,rfl,Or.inr (e▸d)⟩
  ·rw[e]at d;cases d;exact Or.inr hg
theorem look_any(w:World)(t:Option Nat)(v:Value)(xs:List (Int×Int))(i:Int)(h:Lk w t v xs)(hn:xs.length≤1000000):
 Calls prog 56 #[trp t,.int .i64 i] w fun e w'=>∃z v',e=.returned (.int .i64 z)∧RecL w.heap.size w w' t v v' (xs++[(2,i)]):=by
 cases t with
 | none=>exact(Index_nil w i).mono fun e w' ⟨d,g⟩=>⟨1,v,d,Lk.none _ _ _,Kp.gr g _,fun b f=>Or.inl f⟩
 | some b=>exact(Index_tr w b v xs i (h b rfl) hn).mono fun e w' ⟨d,v',j⟩=>⟨0,v',d,j.l⟩
def ixs(n:Nat):List (Int×Int):=(List.range n).map fun i:Nat=>(2,(i:Int))
theorem ixs_succ(n:Nat):ixs (n+1)=ixs n++[(2,(n:Int))]:=by simp[ixs,List.range_succ]
theorem ixs_length(n:Nat):(ixs n).length=n:=by simp[ixs]
structure Er(w:World)(g n:Nat)(f:Nat→Q3):Prop where
 lt:g<w.heap.size
 row:∀i,i<n→i*19+19≤(blk w g).size∧(blk w g).extract (i*19) (i*19+19)=enQ (f i)
theorem Er.kp{S:Nat→Prop}{w w':World}{g n:Nat}{f:Nat→Q3}(h:Er w g n f)(k:Kp S w w')(hn:¬S g):Er w' g n f:=
 ⟨Nat.lt_of_lt_of_le h.lt k.size,fun i d=>by rw[blk_of _ _ _ (k.block g h.lt hn)];exact h.row i d⟩
theorem Er.gr{w w':World}{g n:Nat}{f:Nat→Q3}(h:Er w g n f)(k:Gr w w'):Er w' g n f:=h.kp (Kp.gr k fun _=>False) fun h=>h
theorem Er.load{w:World}{g n:Nat}{f:Nat→Q3}(h:Er w g n f){i:Nat}(hi:i<n):(loadS 121 (.pointer (some ⟨g,i*19,none⟩))).run prog w=.ok (.agg (enQ (f i))) w:=by
 obtain⟨d,j⟩:=h.row i hi;rw[loadPartE w g (i*19) d,j]
structure Tb(w:World)(b g cap n:Nat)(f:Nat→Q3):Prop where
 vr:Vr w b #[.slice (some ⟨g,0,none⟩) n cap]
 row:Er w g n f
theorem Tb.kp{S:Nat→Prop}{w w':World}{b g cap n:Nat}{f:Nat→Q3}(h:Tb w b g cap n f)(k:Kp S w w')(h1:¬S b)(h2:¬S g):Tb w' b g cap n f:=⟨h.vr.kp k h1,h.row.kp k h2⟩
theorem Tb.gr{w w':World}{b g cap n:Nat}{f:Nat→Q3}(h:Tb w b g cap n f)(k:Gr w w'):Tb w' b g cap n f:=⟨h.vr.gr k,h.row.gr k⟩
def ens(f:Nat→Q3)(n:Nat):List Value:=(List.range n).flatMap fun i=>(enQ (f i)).toList
theorem ens_succ(f:Nat→Q3)(n:Nat):ens f (n+1)=ens f n++(enQ (f n)).toList:=by simp[ens,List.range_succ]
theorem ens_length(f:Nat→Q3):∀n,(ens f n).length=n*19
 | 0=>rfl
 | n+1=>by rw[ens_succ,List.length_append,ens_length f n,Array.length_toList,ent_size];omega
theorem ens_at(f:Nat→Q3):∀n i,i<n→((ens f n).drop (i*19)).take 19=(enQ (f i)).toList
 | 0,i,h=>by omega
 | n+1,i,h=>by
  rw[ens_succ];have hl:=ens_length f n
  by_cases e:i=n
  ·subst e;rw[List.drop_append_of_le_length (by omega),List.drop_of_length_le (by omega),List.nil_append,List.take_of_length_le (by rw[Array.length_toList,ent_size];omega)]
  ·rw[List.drop_append_of_le_length (by omega),List.take_append_of_le_length (by rw[List.length_drop];omega)];exact ens_at f n i (by omega)
theorem Er.of_owns{w:World}{base n:Nat}{v:Value}{f:Nat→Q3}(h:w.ownsRow base 121 19 v n (ens f n))(hn:0<n):∃g cap,v=.slice (some ⟨g,0,none⟩) n cap∧base≤g∧n≤cap∧Er w g n f:=by
 rcases h.2 with ⟨-,h0⟩|⟨g,cap,cur,rfl,hb,hg,h1,h2,h3,h4⟩
 ·omega
 ·refine⟨g,cap,rfl,hb,h1,(Array.getElem?_eq_some_iff.1 hg).1,fun i d=>?_⟩
  have j:blk w g=cur:=by unfold blk;rw[hg]
  rw[j];refine⟨by omega,?_⟩
  apply Array.toList_inj.1
  rw[←ens_at f n i d,←h4,Array.toList_extract,List.extract_eq_take_drop,show i*19+19-i*19=19 by omega,List.drop_take,List.take_take,show min 19 (n*19-i*19)=19 by omega]
theorem owns_first(w:World)(f:Nat→Q3):(w.alloc (.cells (enQ (f 0)) 121)).ownsRow w.heap.size 121 19 (.slice (some ⟨w.heap.size,0,none⟩) 1 1) 1 (ens f 1):=by
 refine⟨ens_length f 1,Or.inr ⟨w.heap.size,1,enQ (f 0),rfl,Nat.le_refl _,heap_alloc_new w _,Nat.le_refl _,by decide,ent_size _ _ _,?_⟩⟩;rw[ens_succ,show ens f 0=[] from rfl,List.nil_append,List.take_of_length_le (by rw[Array.length_toList,ent_size];omega)]
theorem Tryz.infoEn:(prog.info? 121).map (fun i=>(i.zero,i.size,i.bytes))=some (some (.agg (ent 0 0 0)),19,152):=by kernel_rfl
end
section
theorem rtimesQ(k:Nat)(h1:1≤k)(h2:k≤15)(qc:Nat→Option Addr×Nat){P:Q3}(hP:OnQ k P){t nk:Nat}{pk:Option Addr}(ht:dl t≤400){p q:Option Addr}{n m:Nat}{w:World}(HQ:∀j,Sl w (qc j).1 (nN k j))(Sk:Sl w pk t)(Sx:Sl w p P.1)(Sy:Sl w q P.2.1):
 Calls prog 18 #[.agg (crA (k:Int) (nN k) qc),.slice pk (dl t) nk,.agg (ptA p P.1 n q P.2.1 m P.2.2)] w (Rt (.pt (mlQ k t P).1 (mlQ k t P).2.1 (mlQ k t P).2.2) w):=by
 haveI:=EC.nzP k h1 h2
 have x:=pN_dl k h1 h2;obtain⟨d,f,i⟩:=dec3 hP;have h:=rtimes_any (EC.curN k h1 h2) (by omega) (k:Int) (oN k) (xN k) (yN k) qc t nk pk ht (decQ (pN k) P) (on_dec h1 h2 hP) p q n m w HQ Sk (by rw[d];exact Sx) (by rw[f];exact Sy);rw[d,f,i]at h;rw[mlQ_is h1 h2];exact h
end
section
attribute [local go_sem ↓] uz1
attribute [local go_sem] uz2
section
attribute [local go_sem] uz7
attribute [local go_sem ↓] uz12 Go.wp_at_zero Go.wp_at_succ
attribute [local go_sem] uz13
theorem rg_any{k:Nat}(qc:Nat→Option Addr×Nat)(w:World)(HQ:∀j,Sl w (qc j).1 (nN k j)):Calls prog 21 #[.agg (crA (k:Int) (nN k) qc)] w (Rt (.pt (xN k) (yN k) false) w):=by
 go_enter func21,ntmps21
 go_upto_region 1 with fail
 refine gen_w (fun v=>Gr w v∧Vr v (w.heap.size) (crA (k:Int) (nN k) qc)∧Vr v (w.heap.size+1) (ptA none 0 0 none 0 0 false)) ⟨grA,vrA,vrA⟩ ?_;rintro L ⟨G,D,H⟩;replace HQ:=fun k=>(HQ k).gr G;refine wp_wTS 5 [.c (pv (w.heap.size) 5),.c (.slice (qc 4).1 (dl (xN k)) (qc 4).2),.c (pv (w.heap.size) 6),.c (.slice (qc 5).1 (dl (yN k)) (qc 5).2),.pt (xN k) (yN k) false] [1,3,4] ⟨.o 25 5 D rfl rfl,.o 25 6 D rfl rfl,.p (fun q i=>match i with|0=>((qc 4).1,(qc 4).2)|_=>((qc 5).1,(qc 5).2)) fun q P x Q=>⟨((HQ 4).gr x),((HQ 5).gr x)⟩,⟨⟩⟩ (.s 38 (fun q=>pv (w.heap.size+1) 0) (fun q=>.agg (ptA (q 4 0).1 (xN k) (q 4 0).2 (q 4 1).1 (yN k) (q 4 1).2 false)) fun d I x J=>?_);have C:=(H.gr x).h;have K:=(H.gr x).f;refine⟨setBlk I (w.heap.size+1) (ptA (d 4 0).1 (xN k) (d 4 0).2 (d 4 1).1 (yN k) (d 4 1).2 false),by simp[go_sem,exI,C,K],?_⟩;simp only[fzw];obtain⟨A,B⟩:=J 4;replace G:=G.trans x
 go_wp2_with fail
 exact bo1 results21 (rd_pt _ _ _ _ _ _ _ (by rfl) (blk_setBlk _ _ _ (by rw[C];decide))) ⟨_,rfl,⟨_,_,_,_,rfl,Sl.set A (by rw[C];exact ptA_no _ _ _ _ _ _ _),Sl.set B (by rw[C];exact ptA_no _ _ _ _ _ _ _)⟩,gr_setNew G (by omega)⟩
end
end
end Go.Proofs.YtffhepbppiocbacGreat