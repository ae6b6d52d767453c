import Derived.Test.YtpogpconfonljaaGreatXATB
import Derived.Test.YtpogpconfonljaaGreatXAVI
import Derived.Test.YtpogpconfonljaaGreatXAAQ
namespace Go.Proofs.YtpogpconfonljaaGreat
open Go.RowKit
set_option maxRecDepth 100000
set_option maxHeartbeats 8000000
section
def ent (x y z:Nat):Array Value:=nw 9 x++nw 9 y ++ #[.int .u64 (z:Int)]
def bw (f:Bool):Nat:=if f then 1 else 0
abbrev enQ (Q:Q3):Array Value:=ent Q.1 Q.2.1 (bw Q.2.2)
section
variable (x y z:Nat)
theorem ent_size:(ent x y z).size=19:=by kernel_rfl
theorem ent_X:(ent x y z).extract 0 9=nw 9 x:=by kernel_rfl
theorem ent_Y:(ent x y z).extract 9 18=nw 9 y:=by kernel_rfl
theorem ent_18:(ent x y z)[18]? = some (.int .u64 (z:Int)):=by kernel_rfl
theorem ent_set18:(ent x y z).setIfInBounds 18 (.int .u64 1)=ent x y 1:=by kernel_rfl
theorem ent_one:(ent x y z).all (·.oneCell')=true:=all_app _ _ (all_app _ _ (nw_one _ _) (nw_one _ _)) (by simp [Value.oneCell'])
end
theorem loadEn_is (v:Value):Instr.loadAt 171 v=loadS 171 v:=rfl
theorem storeEn_is (p v:Value):Instr.storeAt 171 p v=storeS 171 p v:=rfl
theorem zvEn_is:zeroValue 171=zvS 171:=rfl
theorem buildEn_is (p:Array (Nat×Value)):Instr.build 171 p=buildF 171 p:=rfl
theorem zvEn (w:World):(zvS 171).run Tryz.prog w=.ok (.agg (ent 0 0 0)) w:=by kernel_rfl
theorem buildEn2 (x y:Nat) (w:World):(buildF 171 #[(0,.agg (nw 9 x)),(1,.agg (nw 9 y))]).run Tryz.prog w=.ok (.agg (ent x y 0)) w:=by kernel_rfl
theorem buildEn3 (x y z:Nat) (w:World):(buildF 171 #[(0,.agg (nw 9 x)),(1,.agg (nw 9 y)),(2,.int .u64 (z:Int))]).run Tryz.prog w=.ok (.agg (ent x y z)) w:=by kernel_rfl
theorem loadEn (w:World) (b:Nat) (hs:(blk w b).size=19):(loadS 171 (.pointer (some ⟨b,0,none⟩))).run Tryz.prog w=.ok (.agg (blk w b)) w:=
 loadS_run 19 Tryz.underlying171 rfl (by kernel_rfl) w b hs
theorem loadPartE (w:World) (b o:Nat) (h:o+19≤(blk w b).size):(loadS 171 (.pointer (some ⟨b,o,none⟩))).run Tryz.prog w=.ok (.agg ((blk w b).extract o (o+19))) w:=by
 have:=run_loadVar_mid (P:=Tryz.prog) w b o 171 ((blk w b).extract o (o+19)).toList _ (part_range w b o 19) Tryz.underlying171 rfl (by
  have hi:(Tryz.prog.info? 171).map (·.size)=some 19:=by kernel_rfl
  rw [hi]
  simp
  omega)
 simp only [loadS,Instr.loadAt,Instr.sureAddr,Sem.run_bind,Sem.run_pure,Result.andThen_ok]
 rw [Array.toArray_toList] at this
 exact this
theorem storeEn (w:World) (b x y z:Nat) (hs:(blk w b).size=19) (hf:frz w b=(0,0)):(storeS 171 (.pointer (some ⟨b,0,none⟩)) (.agg (ent x y z))).run Tryz.prog w=.ok () (setBlk w b (ent x y z)):=
 storeS_run 19 (by decide) (by kernel_rfl) w b _ (ent_size x y z) (ent_one x y z) hs hf
theorem rd_en {tmps:Array Value} {t:Tmp} {w:World} {b x y z:Nat} (h:tmps.getD t undef=.pointer (some ⟨b,0,none⟩)) (hc:blk w b=ent x y z):(readR tmps (.cell t 171)).run Tryz.prog w=.ok (.agg (ent x y z)) w:=
 rd_cell 19 Tryz.underlying171 rfl (by kernel_rfl) h hc (ent_size x y z)
theorem Vr.kp {S:Nat→Prop} {v v':World} {b:Nat} {c:Array Value} (h:Vr v b c) (k:Kp S v v') (hn:¬ S b):Vr v' b c:=by
 have hb:=k.block b h.p hn
 exact ⟨by rw [blk_of _ _ _ hb]; exact h.h,by rw [frz_of _ _ _ hb]; exact h.f,Nat.le_trans h.p k.size⟩
abbrev trp (t:Option Nat):Value:=.pointer (t.map fun b=>⟨b,0,none⟩)
def Lk (w:World) (t:Option Nat) (v:Value) (xs:List (Int×Int)):Prop:=∀ b,t=some b→Tr w b v xs
def Ow (t:Option Nat) (v:Value) (b:Nat):Prop:=∃ a,t=some a∧Own a v b
structure RecL (n:Nat) (w w':World) (t:Option Nat) (v v':Value) (xs:List (Int×Int)):Prop where
 lk:Lk w' t v' xs
 kp:Kp (Ow t v) w w'
 at':∀ b,Ow t v' b→Ow t v b∨n≤b
theorem Lk.none (w:World) (v:Value) (xs:List (Int×Int)):Lk w none v xs:=fun _ h=>by cases h
theorem Ow.none {v:Value} {b:Nat}:¬ Ow none v b:=fun ⟨_,h,_⟩=>by cases h
theorem Lk.own {w:World} {t:Option Nat} {v:Value} {xs:List (Int×Int)} (h:Lk w t v xs) {b:Nat} (hb:Ow t v b):b<w.heap.size:=by
 obtain ⟨a,e,ho⟩:=hb
 exact ((h a e).own b ho).2
theorem Lk.kept {S:Nat→Prop} {w w':World} {t:Option Nat} {v:Value} {xs:List (Int×Int)} (h:Lk w t v xs) (k:Kp S w w') (hn:∀ b,Ow t v b→¬ S b):Lk w' t v xs:=
 fun b e=>(h b e).kept k fun c hc=>hn c ⟨b,e,hc⟩
theorem Lk.gr {w w':World} {t:Option Nat} {v:Value} {xs:List (Int×Int)} (h:Lk w t v xs) (g:Gr w w'):Lk w' t v xs:=h.kept (Kp.gr g fun _=>False) fun _ _ h=>h
theorem RecL.refl {w:World} {t:Option Nat} {v:Value} {xs:List (Int×Int)} (h:Lk w t v xs) (n:Nat):RecL n w w t v v xs:=⟨h,Kp.refl _ _,fun _ hb=>Or.inl hb⟩
theorem RecL.trans {n m:Nat} {w w1 w2:World} {t:Option Nat} {v v1 v2:Value} {xs ys:List (Int×Int)} (h:RecL n w w1 t v v1 xs) (k:RecL m w1 w2 t v1 v2 ys) (hn:w.heap.size≤n) (hm:n≤m):RecL n w w2 t v v2 ys:=by
 refine ⟨k.lk,⟨k.kp.os.trans h.kp.os,k.kp.tape.trans h.kp.tape,k.kp.output.trans h.kp.output,Nat.le_trans h.kp.size k.kp.size,fun i hi hn'=>?_⟩,fun b hb=>?_⟩
 ·refine (k.kp.block i (Nat.lt_of_lt_of_le hi h.kp.size) fun ho=>?_).trans (h.kp.block i hi hn')
  rcases h.at' i ho with h1 | h1
  ·exact hn' h1
  ·omega
 ·rcases k.at' b hb with h1 | h1
  ·exact h.at' b h1
  ·exact Or.inr (by omega)
theorem RecL.gr {n:Nat} {w w1 w2:World} {t:Option Nat} {v v1:Value} {xs:List (Int×Int)} (h:RecL n w w1 t v v1 xs) (g:Gr w1 w2):RecL n w w2 t v v1 xs:=⟨h.lk.gr g,h.kp.trans (Kp.gr g _),h.at'⟩
theorem RecL.pre {n:Nat} {u w w1:World} {t:Option Nat} {v v1:Value} {xs:List (Int×Int)} (g:Gr u w) (h:RecL n w w1 t v v1 xs):RecL n u w1 t v v1 xs:=⟨h.lk,(Kp.gr g _).trans h.kp,h.at'⟩
theorem RecL.le {n m:Nat} {w w1:World} {t:Option Nat} {v v1:Value} {xs:List (Int×Int)} (h:RecL n w w1 t v v1 xs) (hm:m≤n):RecL m w w1 t v v1 xs:=⟨h.lk,h.kp,fun b hb=>(h.at' b hb).imp id fun h=>Nat.le_trans hm h⟩
theorem RecL.set {n:Nat} {w w1:World} {t:Option Nat} {v v1:Value} {xs:List (Int×Int)} (h:RecL n w w1 t v v1 xs) (b:Nat) (d:Array Value) (hb:w.heap.size≤b) (ho:¬ Ow t v1 b):RecL n w (setBlk w1 b d) t v v1 xs:=by
 have k1:Kp (fun k=>k=b) w1 (setBlk w1 b d):=(Kp.refl _ _).setBlk b d (Or.inl rfl)
 exact ⟨h.lk.kept k1 fun c hc e=>ho (e ▸ hc),h.kp.setBlk b d (Or.inr hb),h.at'⟩
theorem RecL.no {n:Nat} {w w1:World} {t:Option Nat} {v v1:Value} {xs:List (Int×Int)} (h:RecL n w w1 t v v1 xs) {b:Nat} (hb:¬ Ow t v b) (hn:b<n):¬ Ow t v1 b:=fun ho=>(h.at' b ho).elim hb fun h=>by omega
theorem Rec.l {w w':World} {t:Nat} {v v':Value} {xs:List (Int×Int)} (h:Rec w w' t v v' xs):RecL w.heap.size w w' (some t) v v' xs:=by
 refine ⟨fun b e=>by cases e; exact h.tr,h.kp.mono fun b _ hb=>⟨t,rfl,hb⟩,fun b hb=>?_⟩
 obtain ⟨a,e,ho⟩:=hb
 cases e
 rcases ho with rfl | ho
 ·exact Or.inl ⟨_,rfl,Or.inl rfl⟩
 ·rcases h.at' with e | ⟨g,e,hg⟩
  ·exact Or.inl ⟨_,rfl,Or.inr (e ▸ ho)⟩
  ·rw [e] at ho; cases ho; exact Or.inr hg
theorem look_any (w:World) (t:Option Nat) (v:Value) (xs:List (Int×Int)) (i:Int) (h:Lk w t v xs) (hn:xs.length≤1000000):
 Calls Tryz.prog 89 #[trp t,.int .i64 i] w fun e w'=>∃ z v',e=.returned (.int .i64 z)∧RecL w.heap.size w w' t v v' (xs++[(2,i)]):=by
 cases t with
 | none=>exact (Index_nil w i).mono fun e w' ⟨he,g⟩=>⟨1,v,he,Lk.none _ _ _,Kp.gr g _,fun b hb=>Or.inl hb⟩
 | some b=>exact (Index_tr w b v xs i (h b rfl) hn).mono fun e w' ⟨he,v',hr⟩=>⟨0,v',he,hr.l⟩
def ixs (n:Nat):List (Int×Int):=(List.range n).map fun i:Nat=>(2,(i:Int))
theorem ixs_succ (n:Nat):ixs (n+1)=ixs n++[(2,(n:Int))]:=by simp [ixs,List.range_succ]
theorem ixs_length (n:Nat):(ixs n).length=n:=by simp [ixs]
structure Er (w:World) (g n:Nat) (f:Nat→Q3):Prop where
 lt:g<w.heap.size
 row:∀ i,i<n→i*19+19≤(blk w g).size∧(blk w g).extract (i*19) (i*19+19)=enQ (f i)
theorem Er.kp {S:Nat→Prop} {w w':World} {g n:Nat} {f:Nat→Q3} (h:Er w g n f) (k:Kp S w w') (hn:¬ S g):Er w' g n f:=
 ⟨Nat.lt_of_lt_of_le h.lt k.size,fun i hi=>by rw [blk_of _ _ _ (k.block g h.lt hn)]; exact h.row i hi⟩
theorem Er.gr {w w':World} {g n:Nat} {f:Nat→Q3} (h:Er w g n f) (k:Gr w w'):Er w' g n f:=h.kp (Kp.gr k fun _=>False) fun h=>h
theorem Er.load {w:World} {g n:Nat} {f:Nat→Q3} (h:Er w g n f) {i:Nat} (hi:i<n):(loadS 171 (.pointer (some ⟨g,i*19,none⟩))).run Tryz.prog w=.ok (.agg (enQ (f i))) w:=by
 obtain ⟨h1,h2⟩:=h.row i hi
 rw [loadPartE w g (i*19) h1,h2]
structure Tb (w:World) (b g cap n:Nat) (f:Nat→Q3):Prop where
 vr:Vr w b #[.slice (some ⟨g,0,none⟩) n cap]
 row:Er w g n f
theorem Tb.kp {S:Nat→Prop} {w w':World} {b g cap n:Nat} {f:Nat→Q3} (h:Tb w b g cap n f) (k:Kp S w w') (h1:¬ S b) (h2:¬ S g):Tb w' b g cap n f:=⟨h.vr.kp k h1,h.row.kp k h2⟩
theorem Tb.gr {w w':World} {b g cap n:Nat} {f:Nat→Q3} (h:Tb w b g cap n f) (k:Gr w w'):Tb w' b g cap n f:=⟨h.vr.gr k,h.row.gr k⟩
def ens (f:Nat→Q3) (n:Nat):List Value:=(List.range n).flatMap fun i=>(enQ (f i)).toList
theorem ens_succ (f:Nat→Q3) (n:Nat):ens f (n+1)=ens f n++(enQ (f n)).toList:=by simp [ens,List.range_succ]
theorem ens_length (f:Nat→Q3):∀ n,(ens f n).length=n*19
 | 0=>rfl
 | n+1=>by rw [ens_succ,List.length_append,ens_length f n,Array.length_toList,ent_size]; omega
theorem ens_at (f:Nat→Q3):∀ n i,i<n→((ens f n).drop (i*19)).take 19=(enQ (f i)).toList
 | 0,i,h=>by omega
 | n+1,i,h=>by
  rw [ens_succ]
  have hl:=ens_length f n
  by_cases e:i=n
  ·subst e
   rw [List.drop_append_of_le_length (by omega),List.drop_of_length_le (by omega),List.nil_append,List.take_of_length_le (by rw [Array.length_toList,ent_size]; omega)]
  ·rw [List.drop_append_of_le_length (by omega),List.take_append_of_le_length (by rw [List.length_drop]; omega)]
   exact ens_at f n i (by omega)
theorem Er.of_owns {w:World} {base n:Nat} {v:Value} {f:Nat→Q3} (h:w.ownsRow base 171 19 v n (ens f n)) (hn:0<n):∃ g cap,v=.slice (some ⟨g,0,none⟩) n cap∧base≤g∧n≤cap∧Er w g n f:=by
 rcases h.2 with ⟨-,h0⟩ | ⟨g,cap,cur,rfl,hb,hg,h1,h2,h3,h4⟩
 ·omega
 ·refine ⟨g,cap,rfl,hb,h1,(Array.getElem?_eq_some_iff.1 hg).1,fun i hi=>?_⟩
  have hc:blk w g=cur:=by unfold blk; rw [hg]
  rw [hc]
  have hle:i*19+19≤n*19:=by omega
  have hle2:n*19≤cap*19:=by omega
  refine ⟨by omega,?_⟩
  apply Array.toList_inj.1
  rw [← ens_at f n i hi,← h4,Array.toList_extract,List.extract_eq_take_drop,show i*19+19-i*19=19 by omega,List.drop_take,List.take_take,show min 19 (n*19-i*19)=19 by omega]
theorem owns_first (w:World) (f:Nat→Q3):(w.alloc (.cells (enQ (f 0)) 171)).ownsRow w.heap.size 171 19 (.slice (some ⟨w.heap.size,0,none⟩) 1 1) 1 (ens f 1):=by
 refine ⟨ens_length f 1,Or.inr ⟨w.heap.size,1,enQ (f 0),rfl,Nat.le_refl _,heap_alloc_new w _,Nat.le_refl _,by decide,ent_size _ _ _,?_⟩⟩
 rw [ens_succ,show ens f 0=[] from rfl,List.nil_append,List.take_of_length_le (by rw [Array.length_toList,ent_size]; omega)]
theorem Tryz.infoEn:(Tryz.prog.info? 171).map (fun i=>(i.zero,i.size,i.bytes))=some (some (.agg (ent 0 0 0)),19,152):=by kernel_rfl
end
section
theorem oN_dl (i:Nat):dl (oN i)≤18:=dl_M _ (oN_bd i)
end
section
theorem rplusQ (k:Nat) (h1:1≤k) (h2:k≤15) (qc:Nat→Option Addr×Nat) {P Q:Q3} (hP:OnQ k P) (hQ:OnQ k Q) {p1 q1 p2 q2:Option Addr} {n1 m1 n2 m2:Nat} {w:World}
 (HQ:∀ j,Sl w (qc j).1 (nN k j)) (Sx1:Sl w p1 P.1) (Sy1:Sl w q1 P.2.1) (Sx2:Sl w p2 Q.1) (Sy2:Sl w q2 Q.2.1):
 Calls Tryz.prog 33 #[.agg (crA (k:Int) (nN k) qc),.agg (ptA p1 P.1 n1 q1 P.2.1 m1 P.2.2),.agg (ptA p2 Q.1 n2 q2 Q.2.1 m2 Q.2.2)] w (Rt (.pt (plQ k P Q).1 (plQ k P Q).2.1 (plQ k P Q).2.2) w):=by
 haveI:=EC.nzP k h1 h2
 have hd:=pN_dl k h1 h2
 obtain ⟨a1,a2,a3⟩:=dec3 hP
 obtain ⟨b1,b2,b3⟩:=dec3 hQ
 have h:=rplus_any (EC.curN k h1 h2) (by omega) (k:Int) (oN k) (xN k) (yN k) qc (decQ (pN k) P) (decQ (pN k) Q) p1 q1 n1 m1 p2 q2 n2 m2 w HQ (by rw [a1]; exact Sx1) (by rw [a2]; exact Sy1) (by rw [b1]; exact Sx2) (by rw [b2]; exact Sy2)
 rw [a1,a2,a3,b1,b2,b3] at h
 rw [plQ_is h1 h2]
 exact h
theorem rtimesQ (k:Nat) (h1:1≤k) (h2:k≤15) (qc:Nat→Option Addr×Nat) {P:Q3} (hP:OnQ k P) {t nk:Nat} {pk:Option Addr} (ht:dl t≤400) {p q:Option Addr} {n m:Nat} {w:World}
 (HQ:∀ j,Sl w (qc j).1 (nN k j)) (Sk:Sl w pk t) (Sx:Sl w p P.1) (Sy:Sl w q P.2.1):
 Calls Tryz.prog 17 #[.agg (crA (k:Int) (nN k) qc),.slice pk (dl t) nk,.agg (ptA p P.1 n q P.2.1 m P.2.2)] w (Rt (.pt (mlQ k t P).1 (mlQ k t P).2.1 (mlQ k t P).2.2) w):=by
 haveI:=EC.nzP k h1 h2
 have hd:=pN_dl k h1 h2
 obtain ⟨a1,a2,a3⟩:=dec3 hP
 have h:=rtimes_any (EC.curN k h1 h2) (by omega) (k:Int) (oN k) (xN k) (yN k) qc t nk pk ht (decQ (pN k) P) (on_dec h1 h2 hP) p q n m w HQ Sk (by rw [a1]; exact Sx) (by rw [a2]; exact Sy)
 rw [a1,a2,a3] at h
 rw [mlQ_is h1 h2]
 exact h
end
section
attribute [local go_sem ↓] uz1
attribute [local go_sem] uz2
section
attribute [local go_sem] uz8
attribute [local go_sem ↓] uz11 Go.wp_at_zero Go.wp_at_succ
attribute [local go_sem] uz12
abbrev pjT (T:T3):Array Value:=prj T.1 T.2.1 T.2.2
theorem jgf_yes {k:Nat} (h1:1≤k) (h2:k≤15) (n:Nat) (hn:n≤2) (F:Nat→T3) (c:Array Value) (hrow:∀ i,i<n→c.extract (i*27) (i*27+27)=pjT (F i)) (hsz:n*27≤c.size) (HO':∀ i,i<n→∀ w,Cg 120 #[.agg (cu (k:Int) (pN k) (aN k) (bN k) (oN k) (xN k) (yN k) (bl (oN k)) (szN k) (lgN k)),.agg (prj (F i).1 (F i).2.1 (F i).2.2)] w (.bool true)) (b cap:Nat) (w:World) (hv:Vr w b c):
 Cg 83 #[.int .i64 (k:Int),.slice (some ⟨b,0,none⟩) n cap] w (.tuple #[.agg (cu (k:Int) (pN k) (aN k) (bN k) (oN k) (xN k) (yN k) (bl (oN k)) (szN k) (lgN k)),.int .i64 0]):=by
 have HG:Hid (∀ w,Cg 32 #[.int .i64 (k:Int)] w (.tuple #[.agg (cu (k:Int) (pN k) (aN k) (bN k) (oN k) (xN k) (yN k) (bl (oN k)) (szN k) (lgN k)),.int .i64 0])):=fun w=>get13_yes k h1 h2 w
 have HN:Hid (Unit→n≤2):=fun _=>hn
 have HO:Hid _:=HO'
 have HL:Hid (∀ j,j<n→∀ v,Gr w v→(loadS 111 (.pointer (some ⟨b,j*27,none⟩))).run Tryz.prog v=.ok (.agg (prj (F j).1 (F j).2.1 (F j).2.2)) v):=fun j hj v g=>by
  have hb:=(hv.gr g).h
  rw [loadPartJ v b (j*27) (by rw [hb]; omega),hb,hrow j hj]
 clear hn hrow hsz HO'
 go_enter Tryz.func83,Tryz.ntmps83
 go_wp2_with (go_at_call 32; refine (HG.out _).mono ?_; rintro e WA ⟨rfl,GA⟩)
 obtain ⟨e6,he6⟩:=exl (WA.heap.size)
 simp only [he6]
 refine gen_w (fun wr=>Hid (Gr w wr∧Vr wr (w.heap.size) (cu 0 0 0 0 0 0 0 0 0 false)∧Vr wr (e6+1) (cu (k:Int) (pN k) (aN k) (bN k) (oN k) (xN k) (yN k) (bl (oN k)) (szN k) (lgN k)))) ?_ ?_
 ·subst he6
  have g1:Gr WA (WA.alloc (.cells (cu (k:Int) (pN k) (aN k) (bN k) (oN k) (xN k) (yN k) (bl (oN k)) (szN k) (lgN k)) 71)):=(Gr.refl _).alloc _
  have g2:Gr (WA.alloc (.cells (cu (k:Int) (pN k) (aN k) (bN k) (oN k) (xN k) (yN k) (bl (oN k)) (szN k) (lgN k)) 71)) ((WA.alloc (.cells (cu (k:Int) (pN k) (aN k) (bN k) (oN k) (xN k) (yN k) (bl (oN k)) (szN k) (lgN k)) 71)).alloc (.cells (cu (k:Int) (pN k) (aN k) (bN k) (oN k) (xN k) (yN k) (bl (oN k)) (szN k) (lgN k)) 144)):=(Gr.refl _).alloc _
  have hn:=Vr.new (WA.alloc (.cells (cu (k:Int) (pN k) (aN k) (bN k) (oN k) (xN k) (yN k) (bl (oN k)) (szN k) (lgN k)) 71)) (cu (k:Int) (pN k) (aN k) (bN k) (oN k) (xN k) (yN k) (bl (oN k)) (szN k) (lgN k)) 144
  rw [show (WA.alloc (.cells (cu (k:Int) (pN k) (aN k) (bN k) (oN k) (xN k) (yN k) (bl (oN k)) (szN k) (lgN k)) 71)).heap.size=WA.heap.size+1 by simp] at hn
  exact ⟨((((Gr.refl w).alloc _).trans GA).trans g1).trans g2,(((Vr.new w _ _).gr GA).gr g1).gr g2,hn⟩
 have hne:w.heap.size<e6+1:=by have:=GA.below.size; simp at this; omega
 have hne2:¬ (w.heap.size=e6+1):=by omega
 have hne3:¬ (e6+1=w.heap.size):=by omega
 clear he6 GA HG
 obtain ⟨e8,he8⟩:=exl (e6+1)
 simp only [he8] at hne hne2 hne3 ⊢
 clear he8
 intro v0 HV
 go_loopw [23] (fun ia wr=>∃ j:Nat,ia=.int .i64 (j:Int)∧Hid (Unit→j≤n)∧Hid (Gr w wr∧Vr wr (w.heap.size) (cu 0 0 0 0 0 0 0 0 0 false)∧Vr wr e8 (cu (k:Int) (pN k) (aN k) (bN k) (oN k) (xN k) (yN k) (bl (oN k)) (szN k) (lgN k)))) (fun ia _=>(((n:Int))-intOf ia).toNat)
 case atStart=>exact ⟨0,rfl,fun _=>Nat.zero_le _,HV⟩
 case round=>
  clear HV
  obtain ⟨j,rfl,HJ,HV⟩:=hrel
  obtain ⟨G,c0,c6⟩:=HV.out
  have j0:(0:Int)≤(j:Int):=by omega
  have n4:(n:Int)≤2:=by have:=HN.out (); omega
  have ⟨hh0,ff0,pp0⟩:=c0
  have ⟨hh6,ff6,pp6⟩:=c6
  have ⟨p01,p02,p03,p04,p05,p06⟩:=c0.pp
  have ⟨p61,p62,p63,p64,p65,p66⟩:=c6.pp
  by_cases hlt:j<n
  ·have hjn:j<n:=by exact hlt
   have j1:(j:Int)<(n:Int):=by omega
   have ld0:=HL.out j hjn wr G
   have HO2:Hid (∀ w,Cg 120 #[.agg (cu (k:Int) (pN k) (aN k) (bN k) (oN k) (xN k) (yN k) (bl (oN k)) (szN k) (lgN k)),.agg (prj (F j).1 (F j).2.1 (F j).2.2)] w (.bool true)):=HO.out j hlt
   clear HV c0 c6 hjn
   go_wp2_with (go_at_call 120; refine (HO2.out _).mono ?_; rintro e w' ⟨rfl,g,rfl⟩)
   go_roundw
   case rel=>
    refine ⟨j+1,by go_num,fun _=>hlt,?_,⟨by simp [go_sem, *],by simp [go_sem, *],by simp [go_sem, *]⟩,⟨by simp [go_sem, *],by simp [go_sem, *],by simp [go_sem, *]⟩⟩
    exact grB
   case measure=>simp [intOf]; omega
  ·skip
   have j1:¬ (j:Int)<(n:Int):=by omega
   clear HV c0 c6 hlt
   go_wp2_with fail
   refine bodyPost_ret (res_two Tryz.results83 (rd_jg (by rfl) ?_) (rd_tmp (by rfl))) rfl ⟨rfl,?_⟩
   ·simp [go_sem, *]
   ·exact grB
end
section
attribute [local go_sem] uz8
attribute [local go_sem ↓] uz11 Go.wp_at_zero Go.wp_at_succ
attribute [local go_sem] uz12
theorem jto_yes {k:Nat} {T:T3} {R:Q3} (HG':∀ w b,Vr w b (prj T.1 T.2.1 T.2.2)→Cg 83 #[.int .i64 (k:Int),.slice (some ⟨b,0,none⟩) 1 1] w (.tuple #[.agg (cu (k:Int) (pN k) (aN k) (bN k) (oN k) (xN k) (yN k) (bl (oN k)) (szN k) (lgN k)),.int .i64 0])) (HA':∀ w,Cg 85 #[.agg (cu (k:Int) (pN k) (aN k) (bN k) (oN k) (xN k) (yN k) (bl (oN k)) (szN k) (lgN k)),.agg (prj T.1 T.2.1 T.2.2)] w (.agg (pnt R.1 R.2.1 R.2.2))) (w:World):
 Cg 62 #[.int .i64 (k:Int),.agg (prj T.1 T.2.1 T.2.2)] w (.tuple #[.agg (pnt R.1 R.2.1 R.2.2),.int .i64 0]):=by
 have HG:Hid _:=HG'
 have HA:Hid _:=HA'
 clear HG' HA'
 go_enter Tryz.func62,Tryz.ntmps62
 go_upto_region 1 with fail
 refine gen_w (fun v=>Hid (Gr w v∧Vr v (w.heap.size) (prj T.1 T.2.1 T.2.2)∧Vr v (w.heap.size+1) (pnt 0 0 false))) ⟨grA,vrA,vrA⟩ ?_
 intro v0 HV
 obtain ⟨G,c0,c1⟩:=HV.out
 clear HV
 refine wp_v false [.c (.int .i64 (k:Int)),.c (.agg (prj T.1 T.2.1 T.2.2)),.r 1 (prj T.1 T.2.1 T.2.2),.c (.tuple #[.agg (cu (k:Int) (pN k) (aN k) (bN k) (oN k) (xN k) (yN k) (bl (oN k)) (szN k) (lgN k)),.int .i64 0]),.c (.tuple #[.agg (cu (k:Int) (pN k) (aN k) (bN k) (oN k) (xN k) (yN k) (bl (oN k)) (szN k) (lgN k)),.int .i64 0]),.c (.agg (cu (k:Int) (pN k) (aN k) (bN k) (oN k) (xN k) (yN k) (bl (oN k)) (szN k) (lgN k))),.O,.a,.u,.O] [1,2,3] [⟨7,8,144,cu 0 0 0 0 0 0 0 0 0 false,fun _=>cu (k:Int) (pN k) (aN k) (bN k) (oN k) (xN k) (yN k) (bl (oN k)) (szN k) (lgN k)⟩] ?hs1 ?hv1 ?hf1
 case hs1=>
  exact .cons (.g 111 0 c0 rfl)<|.cons (.r (.buildSlice 166 1 #[(0,.const (.agg (prj T.1 T.2.1 T.2.2)))]) rfl (rowJ1 _ _ _))<|.cons (.k _ fun yy vv hg hh=>RtW.of_c (Rt.c (HG.out _ _ (hh 2 rfl)))) .nil
 case hv1=>
  refine .cons (.mk (fun _ _ _=>rfl) (fun _ v b H F=>by dsimp only at H ⊢; simp [go_sem,exI,H,F]) zCu ⟨fkc,fkc,fkr (by simp [cu_size,prj_size]),fkc,fkc,fkc,fkc,fka,fku,fkc,trivial⟩) .nil
 intro yw1 v1 hg h1 hV1
 simp only [fzw,Kw.a,Kw.r]
 obtain ⟨⟨N1_7,V1_7⟩, -⟩:(v0.heap.size≤(yw1 7 0).2∧Vr v1 (yw1 7 0).2 (cu (k:Int) (pN k) (aN k) (bN k) (oN k) (xN k) (yN k) (bl (oN k)) (szN k) (lgN k)))∧True:=hV1
 clear h1
 replace G:=G.trans hg
 replace c0:=c0.gr hg
 replace c1:=c1.gr hg
 clear hg
 go_upto_region 2 with fail
 refine wp_wS [.O,.F] [] ?hs2 ?hf2
 case hs2=>exact .nil
 intro yw2 v2 hg h2
 simp only [fzw]
 clear h2
 replace G:=G.trans hg
 replace c0:=c0.gr hg
 replace c1:=c1.gr hg
 replace V1_7:=V1_7.gr hg
 clear hg
 have hh0:=c0.al
 have hh1:=c1.al
 have hh2:=V1_7.al
 clear c0 c1 V1_7
 go_wp2_with (go_at_call 85; refine (HA.out _).mono ?_; rintro e w' ⟨rfl,g,rfl⟩)
 refine bodyPost_ret (res_two Tryz.results62 (rd_pn (by rfl) ?_) (rd_tmp (by rfl))) rfl ⟨rfl,?_⟩
 ·simp [go_sem, *]
 ·exact grB
theorem jadd_yes {k:Nat} {S T:T3} {R:T3} (HG':∀ w b,Vr w b (prj S.1 S.2.1 S.2.2++prj T.1 T.2.1 T.2.2)→Cg 83 #[.int .i64 (k:Int),.slice (some ⟨b,0,none⟩) 2 2] w (.tuple #[.agg (cu (k:Int) (pN k) (aN k) (bN k) (oN k) (xN k) (yN k) (bl (oN k)) (szN k) (lgN k)),.int .i64 0])) (HA':∀ w,Cg 84 #[.agg (cu (k:Int) (pN k) (aN k) (bN k) (oN k) (xN k) (yN k) (bl (oN k)) (szN k) (lgN k)),.agg (prj S.1 S.2.1 S.2.2),.agg (prj T.1 T.2.1 T.2.2)] w (.agg (prj R.1 R.2.1 R.2.2))) (w:World):
 Cg 61 #[.int .i64 (k:Int),.agg (prj S.1 S.2.1 S.2.2),.agg (prj T.1 T.2.1 T.2.2)] w (.tuple #[.agg (prj R.1 R.2.1 R.2.2),.int .i64 0]):=by
 have HG:Hid _:=HG'
 have HA:Hid _:=HA'
 clear HG' HA'
 go_enter Tryz.func61,Tryz.ntmps61
 go_upto_region 1 with fail
 refine gen_w (fun v=>Hid (Gr w v∧Vr v (w.heap.size) (prj S.1 S.2.1 S.2.2)∧Vr v (w.heap.size+1) (prj T.1 T.2.1 T.2.2)∧Vr v (w.heap.size+1+1) (prj 0 0 0))) ⟨grA,vrA,vrA,vrA⟩ ?_
 intro v0 HV
 obtain ⟨G,c0,c1,c2⟩:=HV.out
 clear HV
 refine wp_v false [.c (.int .i64 (k:Int)),.c (.agg (prj S.1 S.2.1 S.2.2)),.c (.agg (prj T.1 T.2.1 T.2.2)),.r 2 (prj S.1 S.2.1 S.2.2++prj T.1 T.2.1 T.2.2),.c (.tuple #[.agg (cu (k:Int) (pN k) (aN k) (bN k) (oN k) (xN k) (yN k) (bl (oN k)) (szN k) (lgN k)),.int .i64 0]),.c (.tuple #[.agg (cu (k:Int) (pN k) (aN k) (bN k) (oN k) (xN k) (yN k) (bl (oN k)) (szN k) (lgN k)),.int .i64 0]),.c (.agg (cu (k:Int) (pN k) (aN k) (bN k) (oN k) (xN k) (yN k) (bl (oN k)) (szN k) (lgN k))),.O,.a,.u,.O] [1,2,3,4] [⟨8,9,144,cu 0 0 0 0 0 0 0 0 0 false,fun _=>cu (k:Int) (pN k) (aN k) (bN k) (oN k) (xN k) (yN k) (bl (oN k)) (szN k) (lgN k)⟩] ?hs5 ?hv5 ?hf5
 case hs5=>
  exact .cons (.g 111 0 c0 rfl)<|.cons (.g 111 0 c1 rfl)<|.cons (.r (.buildSlice 166 2 #[(0,.const (.agg (prj S.1 S.2.1 S.2.2))),(1,.const (.agg (prj T.1 T.2.1 T.2.2)))]) rfl (rowJ2 _ _ _ _ _ _))<|.cons (.k _ fun yy vv hg hh=>RtW.of_c (Rt.c (HG.out _ _ (hh 3 rfl)))) .nil
 case hv5=>
  refine .cons (.mk (fun _ _ _=>rfl) (fun _ v b H F=>by dsimp only at H ⊢; simp [go_sem,exI,H,F]) zCu ⟨fkc,fkc,fkc,fkr (by simp [cu_size,prj_size]),fkc,fkc,fkc,fkc,fka,fku,fkc,trivial⟩) .nil
 intro yw1 v1 hg h1 hV1
 simp only [fzw,Kw.a,Kw.r]
 obtain ⟨⟨N1_8,V1_8⟩, -⟩:(v0.heap.size≤(yw1 8 0).2∧Vr v1 (yw1 8 0).2 (cu (k:Int) (pN k) (aN k) (bN k) (oN k) (xN k) (yN k) (bl (oN k)) (szN k) (lgN k)))∧True:=hV1
 clear h1
 replace G:=G.trans hg
 replace c0:=c0.gr hg
 replace c1:=c1.gr hg
 replace c2:=c2.gr hg
 clear hg
 go_upto_region 2 with fail
 refine wp_wS [.O,.F] [] ?hs6 ?hf6
 case hs6=>exact .nil
 intro yw2 v2 hg h2
 simp only [fzw]
 clear h2
 replace G:=G.trans hg
 replace c0:=c0.gr hg
 replace c1:=c1.gr hg
 replace c2:=c2.gr hg
 replace V1_8:=V1_8.gr hg
 clear hg
 have hh0:=c0.al
 have hh1:=c1.al
 have hh2:=c2.al
 have hh3:=V1_8.al
 clear c0 c1 c2 V1_8
 go_wp2_with (go_at_call 84; refine (HA.out _).mono ?_; rintro e w' ⟨rfl,g,rfl⟩)
 refine bodyPost_ret (res_two Tryz.results61 (rd_pj (by rfl) ?_) (rd_tmp (by rfl))) rfl ⟨rfl,?_⟩
 ·simp [go_sem, *]
 ·exact grB
theorem jdouble_yes {k:Nat} {T:T3} {R:T3} (HG':∀ w b,Vr w b (prj T.1 T.2.1 T.2.2)→Cg 83 #[.int .i64 (k:Int),.slice (some ⟨b,0,none⟩) 1 1] w (.tuple #[.agg (cu (k:Int) (pN k) (aN k) (bN k) (oN k) (xN k) (yN k) (bl (oN k)) (szN k) (lgN k)),.int .i64 0])) (HA':∀ w,Cg 84 #[.agg (cu (k:Int) (pN k) (aN k) (bN k) (oN k) (xN k) (yN k) (bl (oN k)) (szN k) (lgN k)),.agg (prj T.1 T.2.1 T.2.2),.agg (prj T.1 T.2.1 T.2.2)] w (.agg (prj R.1 R.2.1 R.2.2))) (w:World):
 Cg 60 #[.int .i64 (k:Int),.agg (prj T.1 T.2.1 T.2.2)] w (.tuple #[.agg (prj R.1 R.2.1 R.2.2),.int .i64 0]):=by
 have HG:Hid _:=HG'
 have HA:Hid _:=HA'
 clear HG' HA'
 go_enter Tryz.func60,Tryz.ntmps60
 go_upto_region 1 with fail
 refine gen_w (fun v=>Hid (Gr w v∧Vr v (w.heap.size) (prj T.1 T.2.1 T.2.2)∧Vr v (w.heap.size+1) (prj 0 0 0))) ⟨grA,vrA,vrA⟩ ?_
 intro v0 HV
 obtain ⟨G,c0,c1⟩:=HV.out
 clear HV
 refine wp_v false [.c (.int .i64 (k:Int)),.c (.agg (prj T.1 T.2.1 T.2.2)),.r 1 (prj T.1 T.2.1 T.2.2),.c (.tuple #[.agg (cu (k:Int) (pN k) (aN k) (bN k) (oN k) (xN k) (yN k) (bl (oN k)) (szN k) (lgN k)),.int .i64 0]),.c (.tuple #[.agg (cu (k:Int) (pN k) (aN k) (bN k) (oN k) (xN k) (yN k) (bl (oN k)) (szN k) (lgN k)),.int .i64 0]),.c (.agg (cu (k:Int) (pN k) (aN k) (bN k) (oN k) (xN k) (yN k) (bl (oN k)) (szN k) (lgN k))),.O,.a,.u,.O] [1,2,3] [⟨7,8,144,cu 0 0 0 0 0 0 0 0 0 false,fun _=>cu (k:Int) (pN k) (aN k) (bN k) (oN k) (xN k) (yN k) (bl (oN k)) (szN k) (lgN k)⟩] ?hs9 ?hv9 ?hf9
 case hs9=>
  exact .cons (.g 111 0 c0 rfl)<|.cons (.r (.buildSlice 166 1 #[(0,.const (.agg (prj T.1 T.2.1 T.2.2)))]) rfl (rowJ1 _ _ _))<|.cons (.k _ fun yy vv hg hh=>RtW.of_c (Rt.c (HG.out _ _ (hh 2 rfl)))) .nil
 case hv9=>
  refine .cons (.mk (fun _ _ _=>rfl) (fun _ v b H F=>by dsimp only at H ⊢; simp [go_sem,exI,H,F]) zCu ⟨fkc,fkc,fkr (by simp [cu_size,prj_size]),fkc,fkc,fkc,fkc,fka,fku,fkc,trivial⟩) .nil
 intro yw1 v1 hg h1 hV1
 simp only [fzw,Kw.a,Kw.r]
 obtain ⟨⟨N1_7,V1_7⟩, -⟩:(v0.heap.size≤(yw1 7 0).2∧Vr v1 (yw1 7 0).2 (cu (k:Int) (pN k) (aN k) (bN k) (oN k) (xN k) (yN k) (bl (oN k)) (szN k) (lgN k)))∧True:=hV1
 clear h1
 replace G:=G.trans hg
 replace c0:=c0.gr hg
 replace c1:=c1.gr hg
 clear hg
 go_upto_region 2 with fail
 refine wp_wS [.O,.F] [] ?hs10 ?hf10
 case hs10=>exact .nil
 intro yw2 v2 hg h2
 simp only [fzw]
 clear h2
 replace G:=G.trans hg
 replace c0:=c0.gr hg
 replace c1:=c1.gr hg
 replace V1_7:=V1_7.gr hg
 clear hg
 have hh0:=c0.al
 have hh1:=c1.al
 have hh2:=V1_7.al
 clear c0 c1 V1_7
 go_wp2_with (go_at_call 84; refine (HA.out _).mono ?_; rintro e w' ⟨rfl,g,rfl⟩)
 refine bodyPost_ret (res_two Tryz.results60 (rd_pj (by rfl) ?_) (rd_tmp (by rfl))) rfl ⟨rfl,?_⟩
 ·simp [go_sem, *]
 ·exact grB
end
end
section
theorem eqF0 {k:Nat} (h1:1≤k) (h2:k≤15) [NeZero (pN k)] (a:Fin (pN k)):eqN 9 a.val 0=decide (a=0):=by
 rw [eqN9 _ _ (Nat.lt_trans a.isLt (pN_M k)) (Nat.lt_trans (Nat.lt_of_lt_of_le (by decide) (prm_pN k h1 h2).1) (pN_M k))]
 exact decide_eq_decide.2 ⟨fun e=>Fin.ext (e.trans (Fin.val_zero _).symm),fun e=>by rw [e]; exact Fin.val_zero _⟩
theorem belowT {k:Nat} {N X Y:Nat} {s z:Int} {l:Bool} {A B X1 Y1 Z1:Fin (pN k)} (w:World) (q:Nat) (hv:Vr w q (nw 9 X1.val++nw 9 Y1.val++nw 9 Z1.val)):
 Cg 140 #[.agg (cu (k:Int) (pN k) A.val B.val N X Y s z l),.slice (some ⟨q,0,none⟩) 3 3] w (.bool true):=
 jbelow_yes (k:Int) (pN k) A.val B.val N X Y s z l (pN_M k) 3 (by decide) (fun i=>match i with | 0=>X1.val | 1=>Y1.val | _=>Z1.val)
  (fun i _=>match i with | 0=>Nat.lt_trans X1.isLt (pN_M k) | 1=>Nat.lt_trans Y1.isLt (pN_M k) | _+2=>Nat.lt_trans Z1.isLt (pN_M k)) _
  (fun i hi=>by
   obtain rfl | rfl | rfl:i=0∨i=1∨i=2:=by omega
   ·kernel_rfl
   ·kernel_rfl
   ·kernel_rfl) (by simp [nw_size]) (fun i _=>match i with | 0=>X1.isLt | 1=>Y1.isLt | _+2=>Z1.isLt) q 3 w hv
theorem holdsT {k:Nat} (h1:1≤k) (h2:k≤15) {T:T3} {Q:Q3} (h:TrQ k T Q) (w:World):
 Cg 120 #[.agg (cuN k),.agg (pjT T)] w (.bool true):=by
 haveI:=EC.nzP k h1 h2
 have h':=h
 obtain ⟨-,X,Y,Z,rfl, -⟩:=h'
 obtain ⟨t1,t2⟩:=tr_tri h1 h2 h
 have e:Y*Y*Z=X*X*X+EC.aF k h1 h2*X*Z*Z+EC.bF k h1 h2*Z*Z*Z:=by rw [t2]; clear t2 h; grobner
 exact jholds_2 (A:=EC.aF k h1 h2) (B:=EC.bF k h1 h2) _ _ true (by
  rw [eqF0 h1 h2,eqF0 h1 h2,eqF0 h1 h2]
  simp only [Bool.and_eq_false_iff,decide_eq_false_iff_not]
  by_cases hx:X=0
  ·by_cases hy:Y=0
   ·exact .inr (.inr fun hz=>t1 ⟨hx,hy,hz⟩)
   ·exact .inr (.inl hy)
  ·exact .inl hx) (fun w q hv=>belowT w q hv) (fun w=>jleft h1 h2 rfl w) (fun w=>jright h1 h2 rfl rfl rfl rfl w) (by rw [e]; exact eqN_self _ _) w
theorem rowT1 {T:T3} (i:Nat) (hi:i<1):(pjT T).extract (i*27) (i*27+27)=pjT ((fun _=>T:Nat→T3) i):=by
 obtain rfl:i=0:=by omega
 kernel_rfl
theorem rowT2 {S T:T3} (i:Nat) (hi:i<2):(pjT S++pjT T).extract (i*27) (i*27+27)=pjT ((fun i=>match i with | 0=>S | _=>T:Nat→T3) i):=by
 obtain rfl | rfl:i=0∨i=1:=by omega
 ·kernel_rfl
 ·kernel_rfl
theorem jgf1 {k:Nat} (h1:1≤k) (h2:k≤15) {T:T3} {Q:Q3} (hT:TrQ k T Q) (w:World) (b:Nat) (hv:Vr w b (pjT T)):Cg 83 #[.int .i64 (k:Int),.slice (some ⟨b,0,none⟩) 1 1] w (.tuple #[.agg (cuN k),.int .i64 0]):=
 jgf_yes h1 h2 1 (by decide) (fun _=>T) _ rowT1 (by simp [prj_size]) (fun _ _ w=>holdsT h1 h2 hT w) b 1 w hv
theorem jgf2 {k:Nat} (h1:1≤k) (h2:k≤15) {S T:T3} {P Q:Q3} (hS:TrQ k S P) (hT:TrQ k T Q) (w:World) (b:Nat) (hv:Vr w b (pjT S++pjT T)):Cg 83 #[.int .i64 (k:Int),.slice (some ⟨b,0,none⟩) 2 2] w (.tuple #[.agg (cuN k),.int .i64 0]):=
 jgf_yes h1 h2 2 (by decide) (fun i=>match i with | 0=>S | _=>T) _ rowT2 (by simp [prj_size]) (fun i _ w=>match i with | 0=>holdsT h1 h2 hS w | _+1=>holdsT h1 h2 hT w) b 2 w hv
theorem pointQ {k:Nat} (h1:1≤k) (h2:k≤15) {T:T3} {Q:Q3} (hT:TrQ k T Q) (w:World):Cg 85 #[.agg (cuN k),.agg (pjT T)] w (.agg (pnQ Q)):=by
 haveI:=EC.nzP k h1 h2
 have e:=hT.pt h1 h2
 obtain ⟨-,X,Y,Z,rfl, -⟩:=hT
 rw [ptT_is] at e
 by_cases hz:Z=0
 ·rw [if_pos hz] at e
  subst e hz
  have h:=jpt_inf (k:=k) (A:=EC.aF k h1 h2) (B:=EC.bF k h1 h2) (N:=oN k) (X:=xN k) (Y:=yN k) (s:=bl (oN k)) (z:=szN k) (l:=lgN k) X.val Y.val w
  rw [← Fin.val_zero (pN k)] at h
  exact h
 ·rw [if_neg hz] at e
  subst e
  exact jpt_fin h1 h2 (A:=EC.aF k h1 h2) (B:=EC.bF k h1 h2) (by rw [eqF0 h1 h2]; exact decide_eq_false hz) (fun w=>finvF h1 h2 Z hz w) rfl rfl w
theorem gaddT {k:Nat} (h1:1≤k) (h2:k≤15) {S T R:T3} {P Q:Q3} (hS:TrQ k S P) (hT:TrQ k T Q) (hR:addT k S T=R) (w:World):Cg 84 #[.agg (cuN k),.agg (pjT S),.agg (pjT T)] w (.agg (pjT R)):=by
 haveI:=EC.nzP k h1 h2
 subst hR
 obtain ⟨-,X1,Y1,Z1,rfl, -⟩:=hS
 obtain ⟨-,X2,Y2,Z2,rfl, -⟩:=hT
 rw [addT_is h1 h2]
 exact jadd_of h1 h2 (A:=EC.aF k h1 h2) (B:=EC.bF k h1 h2) (X3:=EC.pX (EC.aF k h1 h2) (EC.bF k h1 h2) X1 Y1 Z1 X2 Y2 Z2) (Y3:=EC.pY (EC.aF k h1 h2) (EC.bF k h1 h2) X1 Y1 Z1 X2 Y2 Z2) (Z3:=EC.pZ (EC.aF k h1 h2) (EC.bF k h1 h2) X1 Y1 Z1 X2 Y2 Z2)
  rfl rfl rfl rfl rfl rfl rfl rfl rfl rfl rfl rfl rfl rfl rfl rfl rfl rfl rfl rfl rfl rfl rfl rfl rfl rfl (by unfold EC.pX; grobner) rfl rfl (by unfold EC.pY; grobner) rfl rfl (by unfold EC.pZ; grobner) w
def frT (P:Q3):T3:=cond P.2.2 (0,1,0) (P.1,P.2.1,1)
theorem frT_tr {k:Nat} (h1:1≤k) (h2:k≤15) {P:Q3} (hP:OnQ k P):TrQ k (frT P) P:=by
 rcases hP.cases with rfl | ⟨x,y,rfl, -⟩
 ·exact inf_tr h1 h2 (prm_pN k h1 h2).1 (by decide)
 ·exact one_tr h1 h2 hP
theorem toQ {k:Nat} (h1:1≤k) (h2:k≤15) {T:T3} {Q:Q3} (hT:TrQ k T Q) (w:World):Cg 62 #[.int .i64 (k:Int),.agg (pjT T)] w (.tuple #[.agg (pnQ Q),.int .i64 0]):=
 jto_yes (jgf1 h1 h2 hT) (pointQ h1 h2 hT) w
theorem jaddQ {k:Nat} (h1:1≤k) (h2:k≤15) {S T R:T3} {P Q:Q3} (hS:TrQ k S P) (hT:TrQ k T Q) (hR:addT k S T=R) (w:World):Cg 61 #[.int .i64 (k:Int),.agg (pjT S),.agg (pjT T)] w (.tuple #[.agg (pjT R),.int .i64 0]):=
 jadd_yes (jgf2 h1 h2 hS hT) (gaddT h1 h2 hS hT hR) w
theorem jdblQ {k:Nat} (h1:1≤k) (h2:k≤15) {T R:T3} {Q:Q3} (hT:TrQ k T Q) (hR:addT k T T=R) (w:World):Cg 60 #[.int .i64 (k:Int),.agg (pjT T)] w (.tuple #[.agg (pjT R),.int .i64 0]):=
 jdouble_yes (jgf1 h1 h2 hT) (gaddT h1 h2 hT hT hR) w
end
section
attribute [local go_sem ↓] uz1
attribute [local go_sem] uz2
section
attribute [local go_sem] uz8
attribute [local go_sem ↓] uz17 Go.wp_at_zero Go.wp_at_succ
attribute [local go_sem] uz18
theorem rg_any {k:Nat} (qc:Nat→Option Addr×Nat) (w:World) (HQ:∀ j,Sl w (qc j).1 (nN k j)):Calls Tryz.prog 18 #[.agg (crA (k:Int) (nN k) qc)] w (Rt (.pt (xN k) (yN k) false) w):=by
 go_enter Tryz.func18,Tryz.ntmps18
 go_upto_region 1 with fail
 refine gen_w (fun v=>Gr w v∧Vr v (w.heap.size) (crA (k:Int) (nN k) qc)∧Vr v (w.heap.size+1) (ptA none 0 0 none 0 0 false)) ⟨grA,vrA,vrA⟩ ?_
 rintro v0 ⟨G,c1,c2⟩
 replace HQ:=fun k=>(HQ k).gr G
 refine wp_wTS 5 [.c (pv (w.heap.size) 5),.c (.slice (qc 4).1 (dl (xN k)) (qc 4).2),.c (pv (w.heap.size) 6),.c (.slice (qc 5).1 (dl (yN k)) (qc 5).2),.pt (xN k) (yN k) false] [1,3,4] ?hs1 ?hf1
 case hs1=>
  exact .cons (.o 27 5 c1 rfl rfl)<|.cons (.o 27 6 c1 rfl rfl)<|.cons (.p (fun yy i=>match i with | 0=>((qc 4).1,(qc 4).2) | _=>((qc 5).1,(qc 5).2)) fun yy vv hg hh=>⟨((HQ 4).gr hg),((HQ 5).gr hg)⟩) .nil
 refine .s 46 (fun yy=>.pointer (some ⟨w.heap.size+1,0,none⟩)) (fun yy=>.agg (ptA (yy 4 0).1 (xN k) (yy 4 0).2 (yy 4 1).1 (yN k) (yy 4 1).2 false)) fun yw1 v1 hg h1=>?_
 have HT:=(c2.gr hg).h
 have FT:=(c2.gr hg).f
 refine ⟨setBlk v1 (w.heap.size+1) (ptA (yw1 4 0).1 (xN k) (yw1 4 0).2 (yw1 4 1).1 (yN k) (yw1 4 1).2 false),by simp [go_sem,exI,HT,FT],?_⟩
 simp only [fzw]
 obtain ⟨S1_4,T1_4⟩:Sl v1 (yw1 4 0).1 (xN k)∧Sl v1 (yw1 4 1).1 (yN k):=h1 4
 clear h1
 replace G:=G.trans hg
 replace c1:=c1.gr hg
 replace c2:=c2.gr hg
 replace HQ:=fun k=>(HQ k).gr hg
 clear hg
 go_wp2_with fail
 exact bodyPost_ret (res_one Tryz.results18 (rd_pt _ _ _ _ _ _ _ (by rfl) (blk_setBlk _ _ _ (by rw [HT]; decide)))) rfl ⟨_,rfl,⟨_,_,_,_,rfl,Sl.set S1_4 (by rw [HT]; exact ptA_no _ _ _ _ _ _ _),Sl.set T1_4 (by rw [HT]; exact ptA_no _ _ _ _ _ _ _)⟩,gr_setNew G (by omega)⟩
end
end
end Go.Proofs.YtpogpconfonljaaGreat