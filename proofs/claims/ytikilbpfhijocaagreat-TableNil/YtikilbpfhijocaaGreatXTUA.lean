import Derived.Test.YtikilbpfhijocaaGreatXTIX
import Derived.Test.YtikilbpfhijocaaGreatXTAQ
import Derived.Test.YtikilbpfhijocaaGreatXTTB
namespace Go.Proofs.YtikilbpfhijocaaGreat
open Go.RowKit
set_option maxRecDepth 100000
set_option maxHeartbeats 8000000
section
def ent (x y z:Nat):Array Value:=nw 9 x++nw 9 y ++ #[.int .u64 (z:Int)]
def bw (f:Bool):Nat:=if f then 1 else 0
abbrev enQ (Q:Q3):Array Value:=ent Q.1 Q.2.1 (bw Q.2.2)
section
variable (x y z:Nat)
theorem ent_size:(ent x y z).size=19:=by kernel_rfl
theorem ent_X:(ent x y z).extract 0 9=nw 9 x:=by kernel_rfl
theorem ent_Y:(ent x y z).extract 9 18=nw 9 y:=by kernel_rfl
theorem ent_18:(ent x y z)[18]? = some (.int .u64 (z:Int)):=by kernel_rfl
theorem ent_set18:(ent x y z).setIfInBounds 18 (.int .u64 1)=ent x y 1:=by kernel_rfl
theorem ent_one:(ent x y z).all (·.oneCell')=true:=all_app _ _ (all_app _ _ (nw_one _ _) (nw_one _ _)) (by simp [Value.oneCell'])
end
theorem loadEn_is (v:Value):Instr.loadAt 106 v=loadS 106 v:=rfl
theorem storeEn_is (p v:Value):Instr.storeAt 106 p v=storeS 106 p v:=rfl
theorem zvEn_is:zeroValue 106=zvS 106:=rfl
theorem buildEn_is (p:Array (Nat×Value)):Instr.build 106 p=buildF 106 p:=rfl
theorem zvEn (w:World):(zvS 106).run Tryz.prog w=.ok (.agg (ent 0 0 0)) w:=by kernel_rfl
theorem buildEn2 (x y:Nat) (w:World):(buildF 106 #[(0,.agg (nw 9 x)),(1,.agg (nw 9 y))]).run Tryz.prog w=.ok (.agg (ent x y 0)) w:=by kernel_rfl
theorem buildEn3 (x y z:Nat) (w:World):(buildF 106 #[(0,.agg (nw 9 x)),(1,.agg (nw 9 y)),(2,.int .u64 (z:Int))]).run Tryz.prog w=.ok (.agg (ent x y z)) w:=by kernel_rfl
theorem loadEn (w:World) (b:Nat) (hs:(blk w b).size=19):(loadS 106 (.pointer (some ⟨b,0,none⟩))).run Tryz.prog w=.ok (.agg (blk w b)) w:=
 loadS_run 19 Tryz.underlying106 rfl (by kernel_rfl) w b hs
theorem loadPartE (w:World) (b o:Nat) (h:o+19≤(blk w b).size):(loadS 106 (.pointer (some ⟨b,o,none⟩))).run Tryz.prog w=.ok (.agg ((blk w b).extract o (o+19))) w:=by
 have:=run_loadVar_mid (P:=Tryz.prog) w b o 106 ((blk w b).extract o (o+19)).toList _ (part_range w b o 19) Tryz.underlying106 rfl (by
  have hi:(Tryz.prog.info? 106).map (·.size)=some 19:=by kernel_rfl
  rw [hi]
  simp
  omega)
 simp only [loadS,Instr.loadAt,Instr.sureAddr,Sem.run_bind,Sem.run_pure,Result.andThen_ok]
 rw [Array.toArray_toList] at this
 exact this
theorem storeEn (w:World) (b x y z:Nat) (hs:(blk w b).size=19) (hf:frz w b=(0,0)):(storeS 106 (.pointer (some ⟨b,0,none⟩)) (.agg (ent x y z))).run Tryz.prog w=.ok () (setBlk w b (ent x y z)):=
 storeS_run 19 (by decide) (by kernel_rfl) w b _ (ent_size x y z) (ent_one x y z) hs hf
theorem rd_en {tmps:Array Value} {t:Tmp} {w:World} {b x y z:Nat} (h:tmps.getD t undef=.pointer (some ⟨b,0,none⟩)) (hc:blk w b=ent x y z):(readR tmps (.cell t 106)).run Tryz.prog w=.ok (.agg (ent x y z)) w:=
 rd_cell 19 Tryz.underlying106 rfl (by kernel_rfl) h hc (ent_size x y z)
theorem gr_kp {S:Nat→Prop} {u v v':World} (g:Gr u v) (k:Kp S v v') (hs:∀ b,b<u.heap.size→¬ S b):Gr u v':=by
 have hk:Kp (fun _=>False) u v':=((Kp.gr g _).mono fun _ _ h=>h).trans (Kp.refl _ _) |> fun h=>⟨k.os.trans h.os,k.tape.trans h.tape,k.output.trans h.output,Nat.le_trans h.size k.size,fun i hi hn=>(k.block i (Nat.lt_of_lt_of_le hi h.size) (hs i hi)).trans (h.block i hi hn)⟩
 refine ⟨⟨(v'.heap.toList.drop u.heap.size),v'.drawn⟩,ext_world ?_ hk.tape rfl hk.os hk.output⟩
 apply Array.ext_getElem?
 intro i
 simp only [gro,Array.getElem?_append,List.getElem?_toArray,List.getElem?_drop,Array.getElem?_toList]
 split
 ·rename_i h; exact hk.block i h (fun h=>h)
 ·rename_i h; rw [show u.heap.size+(i-u.heap.size)=i by omega]
theorem Vr.kp {S:Nat→Prop} {v v':World} {b:Nat} {c:Array Value} (h:Vr v b c) (k:Kp S v v') (hn:¬ S b):Vr v' b c:=by
 have hb:=k.block b h.p hn
 exact ⟨by rw [blk_of _ _ _ hb]; exact h.h,by rw [frz_of _ _ _ hb]; exact h.f,Nat.le_trans h.p k.size⟩
theorem Kp.setBlk {S:Nat→Prop} {w w':World} (h:Kp S w w') (b:Nat) (d:Array Value) (hb:S b∨w.heap.size≤b):Kp S w (setBlk w' b d):=
 ⟨h.os,h.tape,h.output,by rw [size_setBlk]; exact h.size,fun k hk hn=>by
  refine Eq.trans ?_ (h.block k hk hn)
  have ne:b≠k:=fun e=>by subst e; rcases hb with hb | hb; exact hn hb; omega
  unfold Go.Proofs.YtikilbpfhijocaaGreat.setBlk
  simp [Array.getElem?_modify,ne]⟩
abbrev trp (t:Option Nat):Value:=.pointer (t.map fun b=>⟨b,0,none⟩)
def Lk (w:World) (t:Option Nat) (v:Value) (xs:List (Int×Int)):Prop:=∀ b,t=some b→Tr w b v xs
def Ow (t:Option Nat) (v:Value) (b:Nat):Prop:=∃ a,t=some a∧Own a v b
structure RecL (n:Nat) (w w':World) (t:Option Nat) (v v':Value) (xs:List (Int×Int)):Prop where
 lk:Lk w' t v' xs
 kp:Kp (Ow t v) w w'
 at':∀ b,Ow t v' b→Ow t v b∨n≤b
theorem Lk.none (w:World) (v:Value) (xs:List (Int×Int)):Lk w none v xs:=fun _ h=>by cases h
theorem Ow.none {v:Value} {b:Nat}:¬ Ow none v b:=fun ⟨_,h,_⟩=>by cases h
theorem Lk.own {w:World} {t:Option Nat} {v:Value} {xs:List (Int×Int)} (h:Lk w t v xs) {b:Nat} (hb:Ow t v b):b<w.heap.size:=by
 obtain ⟨a,e,ho⟩:=hb
 exact ((h a e).own b ho).2
theorem Lk.kept {S:Nat→Prop} {w w':World} {t:Option Nat} {v:Value} {xs:List (Int×Int)} (h:Lk w t v xs) (k:Kp S w w') (hn:∀ b,Ow t v b→¬ S b):Lk w' t v xs:=
 fun b e=>(h b e).kept k fun c hc=>hn c ⟨b,e,hc⟩
theorem Lk.gr {w w':World} {t:Option Nat} {v:Value} {xs:List (Int×Int)} (h:Lk w t v xs) (g:Gr w w'):Lk w' t v xs:=h.kept (Kp.gr g fun _=>False) fun _ _ h=>h
theorem RecL.refl {w:World} {t:Option Nat} {v:Value} {xs:List (Int×Int)} (h:Lk w t v xs) (n:Nat):RecL n w w t v v xs:=⟨h,Kp.refl _ _,fun _ hb=>Or.inl hb⟩
theorem RecL.trans {n m:Nat} {w w1 w2:World} {t:Option Nat} {v v1 v2:Value} {xs ys:List (Int×Int)} (h:RecL n w w1 t v v1 xs) (k:RecL m w1 w2 t v1 v2 ys) (hn:w.heap.size≤n) (hm:n≤m):RecL n w w2 t v v2 ys:=by
 refine ⟨k.lk,⟨k.kp.os.trans h.kp.os,k.kp.tape.trans h.kp.tape,k.kp.output.trans h.kp.output,Nat.le_trans h.kp.size k.kp.size,fun i hi hn'=>?_⟩,fun b hb=>?_⟩
 ·refine (k.kp.block i (Nat.lt_of_lt_of_le hi h.kp.size) fun ho=>?_).trans (h.kp.block i hi hn')
  rcases h.at' i ho with h1 | h1
  ·exact hn' h1
  ·omega
 ·rcases k.at' b hb with h1 | h1
  ·exact h.at' b h1
  ·exact Or.inr (by omega)
theorem RecL.gr {n:Nat} {w w1 w2:World} {t:Option Nat} {v v1:Value} {xs:List (Int×Int)} (h:RecL n w w1 t v v1 xs) (g:Gr w1 w2):RecL n w w2 t v v1 xs:=⟨h.lk.gr g,h.kp.trans (Kp.gr g _),h.at'⟩
theorem RecL.pre {n:Nat} {u w w1:World} {t:Option Nat} {v v1:Value} {xs:List (Int×Int)} (g:Gr u w) (h:RecL n w w1 t v v1 xs):RecL n u w1 t v v1 xs:=⟨h.lk,(Kp.gr g _).trans h.kp,h.at'⟩
theorem RecL.le {n m:Nat} {w w1:World} {t:Option Nat} {v v1:Value} {xs:List (Int×Int)} (h:RecL n w w1 t v v1 xs) (hm:m≤n):RecL m w w1 t v v1 xs:=⟨h.lk,h.kp,fun b hb=>(h.at' b hb).imp id fun h=>Nat.le_trans hm h⟩
theorem RecL.set {n:Nat} {w w1:World} {t:Option Nat} {v v1:Value} {xs:List (Int×Int)} (h:RecL n w w1 t v v1 xs) (b:Nat) (d:Array Value) (hb:w.heap.size≤b) (ho:¬ Ow t v1 b):RecL n w (setBlk w1 b d) t v v1 xs:=by
 have k1:Kp (fun k=>k=b) w1 (setBlk w1 b d):=(Kp.refl _ _).setBlk b d (Or.inl rfl)
 exact ⟨h.lk.kept k1 fun c hc e=>ho (e ▸ hc),h.kp.setBlk b d (Or.inr hb),h.at'⟩
theorem RecL.no {n:Nat} {w w1:World} {t:Option Nat} {v v1:Value} {xs:List (Int×Int)} (h:RecL n w w1 t v v1 xs) {b:Nat} (hb:¬ Ow t v b) (hn:b<n):¬ Ow t v1 b:=fun ho=>(h.at' b ho).elim hb fun h=>by omega
theorem Rec.l {w w':World} {t:Nat} {v v':Value} {xs:List (Int×Int)} (h:Rec w w' t v v' xs):RecL w.heap.size w w' (some t) v v' xs:=by
 refine ⟨fun b e=>by cases e; exact h.tr,h.kp.mono fun b _ hb=>⟨t,rfl,hb⟩,fun b hb=>?_⟩
 obtain ⟨a,e,ho⟩:=hb
 cases e
 rcases ho with rfl | ho
 ·exact Or.inl ⟨_,rfl,Or.inl rfl⟩
 ·rcases h.at' with e | ⟨g,e,hg⟩
  ·exact Or.inl ⟨_,rfl,Or.inr (e ▸ ho)⟩
  ·rw [e] at ho; cases ho; exact Or.inr hg
theorem look_any (w:World) (t:Option Nat) (v:Value) (xs:List (Int×Int)) (i:Int) (h:Lk w t v xs) (hn:xs.length≤1000000):
 Calls Tryz.prog 37 #[trp t,.int .i64 i] w fun e w'=>∃ z v',e=.returned (.int .i64 z)∧RecL w.heap.size w w' t v v' (xs++[(2,i)]):=by
 cases t with
 | none=>exact (Index_nil w i).mono fun e w' ⟨he,g⟩=>⟨1,v,he,Lk.none _ _ _,Kp.gr g _,fun b hb=>Or.inl hb⟩
 | some b=>exact (Index_tr w b v xs i (h b rfl) hn).mono fun e w' ⟨he,v',hr⟩=>⟨0,v',he,hr.l⟩
def ixs (n:Nat):List (Int×Int):=(List.range n).map fun i:Nat=>(2,(i:Int))
theorem ixs_succ (n:Nat):ixs (n+1)=ixs n++[(2,(n:Int))]:=by simp [ixs,List.range_succ]
theorem ixs_length (n:Nat):(ixs n).length=n:=by simp [ixs]
structure Er (w:World) (g n:Nat) (f:Nat→Q3):Prop where
 lt:g<w.heap.size
 row:∀ i,i<n→i*19+19≤(blk w g).size∧(blk w g).extract (i*19) (i*19+19)=enQ (f i)
theorem Er.kp {S:Nat→Prop} {w w':World} {g n:Nat} {f:Nat→Q3} (h:Er w g n f) (k:Kp S w w') (hn:¬ S g):Er w' g n f:=
 ⟨Nat.lt_of_lt_of_le h.lt k.size,fun i hi=>by rw [blk_of _ _ _ (k.block g h.lt hn)]; exact h.row i hi⟩
theorem Er.gr {w w':World} {g n:Nat} {f:Nat→Q3} (h:Er w g n f) (k:Gr w w'):Er w' g n f:=h.kp (Kp.gr k fun _=>False) fun h=>h
theorem Er.load {w:World} {g n:Nat} {f:Nat→Q3} (h:Er w g n f) {i:Nat} (hi:i<n):(loadS 106 (.pointer (some ⟨g,i*19,none⟩))).run Tryz.prog w=.ok (.agg (enQ (f i))) w:=by
 obtain ⟨h1,h2⟩:=h.row i hi
 rw [loadPartE w g (i*19) h1,h2]
structure Tb (w:World) (b g cap n:Nat) (f:Nat→Q3):Prop where
 vr:Vr w b #[.slice (some ⟨g,0,none⟩) n cap]
 row:Er w g n f
theorem Tb.gr {w w':World} {b g cap n:Nat} {f:Nat→Q3} (h:Tb w b g cap n f) (k:Gr w w'):Tb w' b g cap n f:=⟨h.vr.gr k,h.row.gr k⟩
def ens (f:Nat→Q3) (n:Nat):List Value:=(List.range n).flatMap fun i=>(enQ (f i)).toList
theorem ens_succ (f:Nat→Q3) (n:Nat):ens f (n+1)=ens f n++(enQ (f n)).toList:=by simp [ens,List.range_succ]
theorem ens_length (f:Nat→Q3):∀ n,(ens f n).length=n*19
 | 0=>rfl
 | n+1=>by rw [ens_succ,List.length_append,ens_length f n,Array.length_toList,ent_size]; omega
theorem ens_at (f:Nat→Q3):∀ n i,i<n→((ens f n).drop (i*19)).take 19=(enQ (f i)).toList
 | 0,i,h=>by omega
 | n+1,i,h=>by
  rw [ens_succ]
  have hl:=ens_length f n
  by_cases e:i=n
  ·subst e
   rw [List.drop_append_of_le_length (by omega),List.drop_of_length_le (by omega),List.nil_append,List.take_of_length_le (by rw [Array.length_toList,ent_size]; omega)]
  ·rw [List.drop_append_of_le_length (by omega),List.take_append_of_le_length (by rw [List.length_drop]; omega)]
   exact ens_at f n i (by omega)
theorem Er.of_owns {w:World} {base n:Nat} {v:Value} {f:Nat→Q3} (h:w.ownsRow base 106 19 v n (ens f n)) (hn:0<n):∃ g cap,v=.slice (some ⟨g,0,none⟩) n cap∧base≤g∧n≤cap∧Er w g n f:=by
 rcases h.2 with ⟨-,h0⟩ | ⟨g,cap,cur,rfl,hb,hg,h1,h2,h3,h4⟩
 ·omega
 ·refine ⟨g,cap,rfl,hb,h1,(Array.getElem?_eq_some_iff.1 hg).1,fun i hi=>?_⟩
  have hc:blk w g=cur:=by unfold blk; rw [hg]
  rw [hc]
  have hle:i*19+19≤n*19:=by omega
  have hle2:n*19≤cap*19:=by omega
  refine ⟨by omega,?_⟩
  apply Array.toList_inj.1
  rw [← ens_at f n i hi,← h4,Array.toList_extract,List.extract_eq_take_drop,show i*19+19-i*19=19 by omega,List.drop_take,List.take_take,show min 19 (n*19-i*19)=19 by omega]
theorem owns_first (w:World) (f:Nat→Q3):(w.alloc (.cells (enQ (f 0)) 106)).ownsRow w.heap.size 106 19 (.slice (some ⟨w.heap.size,0,none⟩) 1 1) 1 (ens f 1):=by
 refine ⟨ens_length f 1,Or.inr ⟨w.heap.size,1,enQ (f 0),rfl,Nat.le_refl _,heap_alloc_new w _,Nat.le_refl _,by decide,ent_size _ _ _,?_⟩⟩
 rw [ens_succ,show ens f 0=[] from rfl,List.nil_append,List.take_of_length_le (by rw [Array.length_toList,ent_size]; omega)]
theorem Tryz.infoEn:(Tryz.prog.info? 106).map (fun i=>(i.zero,i.size,i.bytes))=some (some (.agg (ent 0 0 0)),19,152):=by kernel_rfl
end
end Go.Proofs.YtikilbpfhijocaaGreat