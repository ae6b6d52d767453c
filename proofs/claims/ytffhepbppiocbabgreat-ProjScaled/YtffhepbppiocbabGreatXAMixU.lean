import Derived.Test.YtffhepbppiocbabGreatXAIX
namespace Go.Proofs.YtffhepbppiocbabGreat
open Go.RowKit Go.Proofs.Tryz
set_option maxRecDepth 100000
set_option maxHeartbeats 8000000
section
def prj(x y z:Nat):Array Value:=nw 9 x++nw 9 y++nw 9 z
section
variable (x y z:Nat)
theorem prj_size:(prj x y z).size=27:=by kernel_rfl
theorem prj_X:(prj x y z).extract 0 9=nw 9 x:=by kernel_rfl
theorem prj_Y:(prj x y z).extract 9 18=nw 9 y:=by kernel_rfl
theorem prj_Z:(prj x y z).extract 18 27=nw 9 z:=by kernel_rfl
theorem prj_one:(prj x y z).all (·.oneCell')=true:=all_app _ _ (all_app _ _ (nw_one _ _) (nw_one _ _)) (nw_one _ _)
end
theorem loadPj_is:LdI 53:=fun _=>rfl
theorem storePj_is:StI 53:=fun _ _=>rfl
theorem zvPj_is:zeroValue 53=zvS 53:=rfl
theorem buildPj_is(p:Array (Nat×Value)):Instr.build 53 p=buildF 53 p:=rfl
theorem zvPj(w:World):(zvS 53).run prog w=.ok (.agg (prj 0 0 0)) w:=by kernel_rfl
theorem buildPj0(w:World):(buildF 53 #[]).run prog w=.ok (.agg (prj 0 0 0)) w:=by kernel_rfl
theorem buildPj1(y:Nat)(w:World):(buildF 53 #[(1,.agg (nw 9 y))]).run prog w=.ok (.agg (prj 0 y 0)) w:=by kernel_rfl
theorem buildPj2(x y:Nat)(w:World):(buildF 53 #[(0,.agg (nw 9 x)),(1,.agg (nw 9 y))]).run prog w=.ok (.agg (prj x y 0)) w:=by kernel_rfl
theorem buildPj3(x y z:Nat)(w:World):(buildF 53 #[(0,.agg (nw 9 x)),(1,.agg (nw 9 y)),(2,.agg (nw 9 z))]).run prog w=.ok (.agg (prj x y z)) w:=by kernel_rfl
theorem loadPj:LdS 53 27:=ldS
theorem loadPartJ(w:World)(b o:Nat)(h:o+27≤(blk w b).size):(loadS 53 (.pointer (some ⟨b,o,none⟩))).run prog w=.ok (.agg ((blk w b).extract o (o+27))) w:=by
 have:=run_loadVar_mid w b o 53 ((blk w b).extract o (o+27)).toList _ (part_range w b o 27) underlying53 rfl (by
  have d:(prog.info? 53).map (·.size)=some 27:=by kernel_rfl
  rw[d];simp
  omega)
 simp only[loadS,Instr.loadAt,Instr.sureAddr,Sem.run_bind,Sem.run_pure,Result.andThen_ok];rw[Array.toArray_toList]at this;exact this
theorem loadJX(w:World)(b:Nat)(hs:(blk w b).size=27):(loadS 33 (.pointer (some ⟨b,0,none⟩))).run prog w=.ok (.agg ((blk w b).extract 0 9)) w:=loadPart w b 0 (by omega)
theorem loadJY(w:World)(b:Nat)(hs:(blk w b).size=27):(loadS 33 (.pointer (some ⟨b,9,none⟩))).run prog w=.ok (.agg ((blk w b).extract 9 18)) w:=loadPart w b 9 (by omega)
theorem loadJZ(w:World)(b:Nat)(hs:(blk w b).size=27):(loadS 33 (.pointer (some ⟨b,18,none⟩))).run prog w=.ok (.agg ((blk w b).extract 18 27)) w:=loadPart w b 18 (by omega)
theorem storePj(x y z:Nat):StS 53 27 (prj x y z):=stS (prj_size x y z) (prj_one x y z)
theorem rd_pj{x y z:Nat}:RdC 53 (prj x y z):=rdC 27 (prj_size x y z)
theorem loadJg_is:LdI 104:=fun _=>rfl
theorem storeJg_is:StI 104:=fun _ _=>rfl
theorem zvJg_is:zeroValue 104=zvS 104:=rfl
theorem buildJg_is(p:Array (Nat×Value)):Instr.build 104 p=buildF 104 p:=rfl
theorem zvJg(w:World):(zvS 104).run prog w=.ok (.agg (cu 0 0 0 0 0 0 0 0 0 false)) w:=by kernel_rfl
theorem buildJg0(w:World):(buildF 104 #[]).run prog w=.ok (.agg (cu 0 0 0 0 0 0 0 0 0 false)) w:=by kernel_rfl
theorem buildJg1(id:Int)(p a b n x y:Nat)(s z:Int)(l:Bool)(w:World):(buildF 104 #[(0,.agg (cu id p a b n x y s z l))]).run prog w=.ok (.agg (cu id p a b n x y s z l)) w:=by kernel_rfl
theorem loadJg:LdS 104 59:=ldS
theorem storeJg(id:Int)(p a bb n x y:Nat)(s z:Int)(l:Bool):StS 104 59 (cu id p a bb n x y s z l):=stS (cu_size id p a bb n x y s z l) (cu_one id p a bb n x y s z l)
theorem rd_jg{id:Int}{p a bb n x y:Nat}{s z:Int}{l:Bool}:RdC 104 (cu id p a bb n x y s z l):=rdC 59 (cu_size id p a bb n x y s z l)
section
variable (x y z x' y' z':Nat)
theorem eqPjIn(d:Nat)(w:World):(Op.equalIn (d+4) 53 (.agg (prj x y z)) (.agg (prj x' y' z'))).run prog w=.ok (eqN 9 x x'&&(eqN 9 y y'&&eqN 9 z z')) w:=by
 have f:prog.underlying 53=some (.struct (prog.fieldsOf 53)):=by kernel_rfl
 rw[run_equalIn_struct w (d+3) 53 _ _ f (by kernel_rfl)];simp[go_sem,Op.eqFields,Program.fieldsOf,part,prj_X,prj_Y,prj_Z,prj_size,eqNatIn]
 cases eqN 9 x x' <;> cases eqN 9 y y' <;> cases eqN 9 z z' <;> simp
theorem eqPj(w:World):(binOp .eql 53 (.agg (prj x y z)) (.agg (prj x' y' z'))).run prog w=.ok (.bool (eqN 9 x x'&&(eqN 9 y y'&&eqN 9 z z'))) w:=by
 rw[run_eql_struct,show (10000:Nat)=9996+4 from rfl,eqPjIn]
 rfl
theorem nePj(w:World):(binOp .neq 53 (.agg (prj x y z)) (.agg (prj x' y' z'))).run prog w=.ok (.bool (!(eqN 9 x x'&&(eqN 9 y y'&&eqN 9 z z')))) w:=by
 rw[run_neq_struct,show (10000:Nat)=9996+4 from rfl,eqPjIn]
 rfl
end
theorem bPj:Blank (prj 0 0 0):=blank_of (by decide +kernel)
theorem zPj:0<(prj 0 0 0).size:=by decide +kernel
theorem rowN1(a:Nat)(w:World):(exI (.buildSlice 170 1 #[(0,.const (.agg (nw 9 a)))])).run prog w=.ok (.value (.slice (some ⟨w.heap.size,0,none⟩) 1 1)) (w.alloc (.cells (nw 9 a) 33)):=by kernel_rfl
theorem rowN3(a b c:Nat)(w:World):(exI (.buildSlice 170 3 #[(0,.const (.agg (nw 9 a))),(1,.const (.agg (nw 9 b))),(2,.const (.agg (nw 9 c)))])).run prog w=.ok (.value (.slice (some ⟨w.heap.size,0,none⟩) 3 3)) (w.alloc (.cells (nw 9 a++nw 9 b++nw 9 c) 33)):=by kernel_rfl
theorem rowJ1(x y z:Nat)(w:World):(exI (.buildSlice 74 1 #[(0,.const (.agg (prj x y z)))])).run prog w=.ok (.value (.slice (some ⟨w.heap.size,0,none⟩) 1 1)) (w.alloc (.cells (prj x y z) 53)):=by kernel_rfl
theorem rowJ2(x y z x' y' z':Nat)(w:World):(exI (.buildSlice 74 2 #[(0,.const (.agg (prj x y z))),(1,.const (.agg (prj x' y' z')))])).run prog w=.ok (.value (.slice (some ⟨w.heap.size,0,none⟩) 2 2)) (w.alloc (.cells (prj x y z++prj x' y' z') 53)):=by kernel_rfl
abbrev uz14:=And.intro @loadJg_is<|And.intro @storeJg_is<|And.intro @zvJg_is<|And.intro @buildJg_is<|And.intro @loadPj_is<|And.intro @storePj_is<|And.intro @zvPj_is<|And.intro @buildPj_is<|And.intro @zvCu_is<|And.intro @storeCu_is<|And.intro @loadCu_is<|And.intro @loadPn_is<|And.intro @storePn_is<|And.intro @zvPn_is<|And.intro @buildCu_is @buildPn_is
abbrev uz15:=And.intro @loadJg<|And.intro @storeJg<|And.intro @zvJg<|And.intro @buildJg0<|And.intro @buildJg1<|And.intro @loadPj<|And.intro @storePj<|And.intro @zvPj<|And.intro @buildPj0<|And.intro @buildPj1<|And.intro @buildPj2<|And.intro @buildPj3<|And.intro @loadJX<|And.intro @loadJY<|And.intro @loadJZ<|And.intro @prj_size<|And.intro @prj_X<|And.intro @prj_Y<|And.intro @prj_Z<|And.intro @buildPn0<|And.intro @zvCu<|And.intro @storeCu<|And.intro @loadCu<|And.intro @loadPn<|And.intro @storePn<|And.intro @zvPn<|And.intro @loadCP<|And.intro @loadCA<|And.intro @loadCB<|And.intro @loadPX<|And.intro @loadPY<|And.intro @buildPnI<|And.intro @buildPn2<|And.intro @cu_size<|And.intro @cu_P<|And.intro @cu_A<|And.intro @cu_B<|And.intro @pnt_size<|And.intro @pnt_X<|And.intro @pnt_Y<|And.intro @frz_setBlk<|And.intro @blk_setBlk<|And.intro @setBlk_setBlk @blk_other
abbrev uz16:=And.intro @loadPj_is<|And.intro @storePj_is<|And.intro @zvPj_is @buildPj_is
abbrev uz17:=And.intro @loadPj<|And.intro @storePj<|And.intro @zvPj<|And.intro @buildPj0<|And.intro @buildPj1<|And.intro @buildPj2<|And.intro @buildPj3<|And.intro @loadJX<|And.intro @loadJY<|And.intro @loadJZ<|And.intro @prj_size<|And.intro @prj_X<|And.intro @prj_Y @prj_Z
end
section
def chkY(l:List Oper)(kp:List Kw)(rw:List Nat)(st:List Ent):Bool:=
 ((List.range l.length).all fun j=>rw.contains j || (st.map Ent.j).contains j || (kW kp j).cst != 0)&&(rw.all fun j => !(st.map Ent.j).contains j && !(st.map Ent.i).contains j)
theorem wp_y{P:Program}{l:List Oper}{Q:Exit→Act→World→Prop}{a0:Act}{W:World}(d:Bool){id:Nat}(kp:List Kw)(ex rw:List Nat)(st:List Ent)(ho:ObsW P l kp a0 W ex)(hr:ForY (ObR P l kp a0) rw)(hv:ForY (ObY P l kp a0) st)(hfin:∀x v,Gr W v→(∀j,(kW kp j).ok (x j) v)→NewV W x v st→Q .normal (FW l kp a0 x) v)(hm:(!d || P.follows .mixedOrders)=true:=by kernel_rfl)(hk:(chkW l kp (ExV (ex++rw) st) l.length&&chkV st&&chkY l kp rw st)=true:=by kernel_rfl)(hp:pureL P l kp a0 (ExV (ex++rw) st) l.length=pureR kp (ExV (ex++rw) st) l.length:=by kernel_rfl):(Code.region id l.toArray d).wp P Q a0 W:=by
 rw[Bool.and_eq_true]at hk;obtain⟨hk,D⟩:=hk;simp only[chkY,Bool.and_eq_true,List.all_eq_true,Bool.not_eq_true',List.mem_range]at D;obtain⟨q,A⟩:=D
 refine wp_g d kp ex rw st ho hr (fun e i=>hv.at e i) (fun e i j B=>?_) (fun j B e i=>?_) hfin hm hk hp
 ·have f:=q j B;simp only[Bool.or_eq_true,bne_iff_ne,ne_eq]at f
  rcases f with (f|f)|f
  ·exact .inl (List.contains_iff_mem.1 f)
  ·obtain⟨I,C,rfl⟩:=List.mem_map.1 (List.contains_iff_mem.1 f);rw[(hv.at I C).ka];exact .inr fka
  ·exact .inr fun y w b d _ _=>(kW kp j).hc f _ _
 ·obtain⟨G,H⟩:=A j B
  refine⟨fun h=>?_,fun h=>?_⟩
  ·rw[List.contains_iff_mem.2 (h▸List.mem_map_of_mem i)]at G
   cases G
  ·rw[List.contains_iff_mem.2 (h▸List.mem_map_of_mem i)]at H
   cases H
end
end Go.Proofs.YtffhepbppiocbabGreat
namespace Go.Proofs.YtffhepbppiocbabGreat.EC
section
variable {p:Nat} [NeZero p]
/-- A power. -/
def fpw(r:Fin p):Nat→Fin p
 | 0=>1
 | n+1=>fpw r n*r
theorem fpw_add(r:Fin p)(m:Nat):∀n,fpw r (m+n)=fpw r m*fpw r n
 | 0=>by show fpw r m=fpw r m*1;grobner
 | n+1=>by
  show fpw r (m+n)*r=fpw r m*(fpw r n*r)
  rw[fpw_add r m n]
  grobner
theorem fpw_val(r:Fin p):∀n,(fpw r n).val=r.val^n%p
 | 0=>rfl
 | n+1=>by
  show (fpw r n*r).val=_
  rw[Fin.val_mul,fpw_val r n,Nat.pow_succ,Nat.mul_mod,Nat.mod_mod,←Nat.mul_mod]
theorem fpw_p(hp:Prm p)(r:Fin p):fpw r p=r:=by
 apply Fin.ext
 rw[fpw_val]
 by_cases h:p∣r.val
 ·grind [Nat.eq_zero_of_dvd_of_lt,Nat.zero_pow,Nat.zero_mod]
 ·have d:=hp.fermat h;have:=hp.1
  have e:r.val^p=r.val^(p-1)*r.val:=by rw[←Nat.pow_succ,show Nat.succ (p-1)=p by omega]
  rw[e,Nat.mul_mod,d,Nat.one_mul,Nat.mod_mod,Nat.mod_eq_of_lt r.isLt]
/-- x to the n, modulo the cubic: from the highest bit down. -/
def qck(p A B n:Nat)(fin:Nat→Nat→Nat→Bool):Nat→Nat→Nat→Nat→Bool
 | 0,a,b,c=>fin a b c
 | k+1,a,b,c=>
  frc (ad p (mu p b c) (mu p b c)) fun u=>frc (mu p c c) fun v=>frc (su p (mu p a a) (mu p B u)) fun a1=>frc (su p (su p (ad p (mu p a b) (mu p a b)) (mu p A u)) (mu p B v)) fun b1=>
  frc (su p (ad p (ad p (mu p a c) (mu p a c)) (mu p b b)) (mu p A v)) fun c1=>
  bif n.testBit k then frc (su p 0 (mu p B c1)) fun a2=>frc (su p a1 (mu p A c1)) fun b2=>qck p A B n fin k a2 b2 b1
  else qck p A B n fin k a1 b1 c1
theorem qck_is{A B r:Fin p}(hr:B = -(r*r*r)-A*r)(n:Nat)(fin:Nat→Nat→Nat→Bool):∀(k:Nat) (a b c:Fin p),a+b*r+c*(r*r)=fpw r (n/2^k)→qck p A.val B.val n fin k a.val b.val c.val=true →
 ∃a' b' c':Fin p,fin a'.val b'.val c'.val=true∧a'+b'*r+c'*(r*r)=fpw r n
 | 0,a,b,c,h,hj=>⟨a,b,c,hj,by rw[Nat.pow_zero,Nat.div_one]at h;exact h⟩
 | k+1,a,b,c,h,hj=>by
  have hd:∀b:Nat,n/2^k%2=b→n/2^k=n/2^(k+1)+n/2^(k+1)+b:=fun b d=>by
   rw[Nat.pow_succ,←Nat.div_div_eq_div_mul];omega
  have i:=(Fin.val_zero p).symm;simp only[qck,frc_is]at hj;rw[i]at hj;simp only[v_mu,v_ad,v_su]at hj
  have f:(a*a-B*(b*c+b*c))+(a*b+a*b-A*(b*c+b*c)-B*(c*c))*r+(a*c+a*c+b*b-A*(c*c))*(r*r)=fpw r (n/2^(k+1)+n/2^(k+1)):=by
   rw[fpw_add,←h];subst hr
   grobner
  rw[Nat.testBit_eq_decide_div_mod_eq]at hj
  by_cases d:n/2^k%2=1
  ·rw[decide_eq_true d,cond_true]at hj;refine qck_is hr n fin k _ _ _ ?_ hj;rw[hd 1 d]
   show _=fpw r (n/2^(k+1)+n/2^(k+1))*r
   rw[←f];subst hr
   grobner
  ·rw[decide_eq_false d,cond_false]at hj;refine qck_is hr n fin k _ _ _ ?_ hj;rw[hd 0 (by omega)];exact f
/-- What both the cubic and g0 + g1 x + g2 x x divide, if they have a root in common. -/
def det(p A B a b c:Nat):Nat:=
 let m:=su p a (mu p A c)
 let q:=ad p (mu p B c) (mu p A b)
 su p (ad p (mu p a (ad p (mu p m m) (mu p q b))) (mu p (mu p B c) (ad p (mu p b m) (mu p q c)))) (mu p (mu p B b) (su p (mu p b b) (mu p m c)))
def noR(p A B a b c:Nat):Bool := !Nat.beq (det p A B a (su p b (1%p)) c) 0
theorem no_root(hp:Prm p){A B:Fin p}(k:Nat)(hk:p/2^k=1)(h:qck p A.val B.val p (noR p A.val B.val) k 0 (1%p) 0=true)(r:Fin p):r*r*r+A*r+B≠0:=fun e=>by
 have i:B = -(r*r*r)-A*r:=by grobner
 have j:=(Fin.val_zero p).symm;have q:1%p=(1:Fin p).val:=rfl
 have d:(0:Fin p)+1*r+0*(r*r)=fpw r (p/2^k):=by
  rw[hk]
  show _=1*r
  grobner
 rw[q]at h;have D:=j▸h;obtain⟨a,b,c,x,C⟩:=qck_is i p _ k 0 1 0 d D;rw[fpw_p hp]at C
 have f:¬det p A.val B.val a.val (su p b.val (1%p)) c.val=0:=fun e=>by
  rw[noR,e]at x
  cases x
 rw[q]at f;simp only[det,v_mu,v_ad,v_su]at f;refine f (j▸congrArg Fin.val (?_:_=(0:Fin p)))
 have G:a=a+b*r+c*(r*r)-b*r-c*(r*r):=by clear e i h D x C f j q d;grobner
 rw[C]at G;subst G i
 grobner
end
set_option maxRecDepth 100000
theorem nrt_1:qck (pN 1) (aN 1) (bN 1) (pN 1) (noR (pN 1) (aN 1) (bN 1)) 191 0 (1%pN 1) 0=true:=by decide +kernel
theorem ptop_1:pN 1/2^191=1:=by decide +kernel
theorem nrt_2:qck (pN 2) (aN 2) (bN 2) (pN 2) (noR (pN 2) (aN 2) (bN 2)) 223 0 (1%pN 2) 0=true:=by decide +kernel
theorem ptop_2:pN 2/2^223=1:=by decide +kernel
theorem nrt_3:qck (pN 3) (aN 3) (bN 3) (pN 3) (noR (pN 3) (aN 3) (bN 3)) 255 0 (1%pN 3) 0=true:=by decide +kernel
theorem ptop_3:pN 3/2^255=1:=by decide +kernel
theorem nrt_4:qck (pN 4) (aN 4) (bN 4) (pN 4) (noR (pN 4) (aN 4) (bN 4)) 383 0 (1%pN 4) 0=true:=by decide +kernel
theorem ptop_4:pN 4/2^383=1:=by decide +kernel
theorem nrt_5:qck (pN 5) (aN 5) (bN 5) (pN 5) (noR (pN 5) (aN 5) (bN 5)) 520 0 (1%pN 5) 0=true:=by decide +kernel
theorem ptop_5:pN 5/2^520=1:=by decide +kernel
theorem nrt_6:qck (pN 6) (aN 6) (bN 6) (pN 6) (noR (pN 6) (aN 6) (bN 6)) 255 0 (1%pN 6) 0=true:=by decide +kernel
theorem ptop_6:pN 6/2^255=1:=by decide +kernel
theorem nrt_7:qck (pN 7) (aN 7) (bN 7) (pN 7) (noR (pN 7) (aN 7) (bN 7)) 159 0 (1%pN 7) 0=true:=by decide +kernel
theorem ptop_7:pN 7/2^159=1:=by decide +kernel
theorem nrt_8:qck (pN 8) (aN 8) (bN 8) (pN 8) (noR (pN 8) (aN 8) (bN 8)) 223 0 (1%pN 8) 0=true:=by decide +kernel
theorem ptop_8:pN 8/2^223=1:=by decide +kernel
theorem nrt_9:qck (pN 9) (aN 9) (bN 9) (pN 9) (noR (pN 9) (aN 9) (bN 9)) 255 0 (1%pN 9) 0=true:=by decide +kernel
theorem ptop_9:pN 9/2^255=1:=by decide +kernel
theorem nrt_10:qck (pN 10) (aN 10) (bN 10) (pN 10) (noR (pN 10) (aN 10) (bN 10)) 319 0 (1%pN 10) 0=true:=by decide +kernel
theorem ptop_10:pN 10/2^319=1:=by decide +kernel
theorem nrt_11:qck (pN 11) (aN 11) (bN 11) (pN 11) (noR (pN 11) (aN 11) (bN 11)) 383 0 (1%pN 11) 0=true:=by decide +kernel
theorem ptop_11:pN 11/2^383=1:=by decide +kernel
theorem nrt_12:qck (pN 12) (aN 12) (bN 12) (pN 12) (noR (pN 12) (aN 12) (bN 12)) 511 0 (1%pN 12) 0=true:=by decide +kernel
theorem ptop_12:pN 12/2^511=1:=by decide +kernel
theorem nrt_13:qck (pN 13) (aN 13) (bN 13) (pN 13) (noR (pN 13) (aN 13) (bN 13)) 7 0 (1%pN 13) 0=true:=by decide +kernel
theorem ptop_13:pN 13/2^7=1:=by decide +kernel
theorem nrt_14:qck (pN 14) (aN 14) (bN 14) (pN 14) (noR (pN 14) (aN 14) (bN 14)) 7 0 (1%pN 14) 0=true:=by decide +kernel
theorem ptop_14:pN 14/2^7=1:=by decide +kernel
theorem nrt_15:qck (pN 15) (aN 15) (bN 15) (pN 15) (noR (pN 15) (aN 15) (bN 15)) 7 0 (1%pN 15) 0=true:=by decide +kernel
theorem ptop_15:pN 15/2^7=1:=by decide +kernel
/-- No point has a Y of 0. -/
theorem no_two(i:Nat)(h1:1≤i)(h2:i≤15)[NeZero (pN i)](x:Fin (pN i)):x*x*x+aF i h1 h2*x+bF i h1 h2≠0:=by
 have d:=prm_pN i h1 h2
 obtain rfl|rfl|rfl|rfl|rfl|rfl|rfl|rfl|rfl|rfl|rfl|rfl|rfl|rfl|rfl:i=1∨i=2∨i=3∨i=4∨i=5∨i=6∨i=7∨i=8∨i=9∨i=10∨i=11∨i=12∨i=13∨i=14∨i=15:=by omega
 ·exact no_root (A:=aF 1 h1 h2) (B:=bF 1 h1 h2) d 191 ptop_1 nrt_1 x
 ·exact no_root (A:=aF 2 h1 h2) (B:=bF 2 h1 h2) d 223 ptop_2 nrt_2 x
 ·exact no_root (A:=aF 3 h1 h2) (B:=bF 3 h1 h2) d 255 ptop_3 nrt_3 x
 ·exact no_root (A:=aF 4 h1 h2) (B:=bF 4 h1 h2) d 383 ptop_4 nrt_4 x
 ·exact no_root (A:=aF 5 h1 h2) (B:=bF 5 h1 h2) d 520 ptop_5 nrt_5 x
 ·exact no_root (A:=aF 6 h1 h2) (B:=bF 6 h1 h2) d 255 ptop_6 nrt_6 x
 ·exact no_root (A:=aF 7 h1 h2) (B:=bF 7 h1 h2) d 159 ptop_7 nrt_7 x
 ·exact no_root (A:=aF 8 h1 h2) (B:=bF 8 h1 h2) d 223 ptop_8 nrt_8 x
 ·exact no_root (A:=aF 9 h1 h2) (B:=bF 9 h1 h2) d 255 ptop_9 nrt_9 x
 ·exact no_root (A:=aF 10 h1 h2) (B:=bF 10 h1 h2) d 319 ptop_10 nrt_10 x
 ·exact no_root (A:=aF 11 h1 h2) (B:=bF 11 h1 h2) d 383 ptop_11 nrt_11 x
 ·exact no_root (A:=aF 12 h1 h2) (B:=bF 12 h1 h2) d 511 ptop_12 nrt_12 x
 ·exact no_root (A:=aF 13 h1 h2) (B:=bF 13 h1 h2) d 7 ptop_13 nrt_13 x
 ·exact no_root (A:=aF 14 h1 h2) (B:=bF 14 h1 h2) d 7 ptop_14 nrt_14 x
 ·exact no_root d 7 ptop_15 nrt_15 x
end Go.Proofs.YtffhepbppiocbabGreat.EC
namespace Go.Proofs.YtffhepbppiocbabGreat
open Go.RowKit
set_option maxRecDepth 100000
set_option maxHeartbeats 8000000
section
structure Sto where
 i:Nat
 t:TypeId
 b:Nat
 c:Array Value
def ObS(P:Program)(l:List Oper)(kp:List Kw)(a0:Act)(I:World→Prop)(e:Sto):Prop:=
 (∀v,I v→(exI (.store e.t (.const (.pointer (some ⟨e.b,0,none⟩))) (.const (.agg e.c)))).run P v=.ok .skip (setBlk v e.b e.c)∧I (setBlk v e.b e.c)∧0<(blk v e.b).size∧e.b<v.heap.size) ∧
 kW kp e.i=.u∧runW l kp a0 e.i=fun _=>some (exI (.store e.t (.const (.pointer (some ⟨e.b,0,none⟩))) (.const (.agg e.c))))
theorem ObS.mk{P:Program}{l:List Oper}{kp:List Kw}{a0:Act}{I:World→Prop}{e:Sto}(h:∀v,I v→(exI (.store e.t (.const (.pointer (some ⟨e.b,0,none⟩))) (.const (.agg e.c)))).run P v=.ok .skip (setBlk v e.b e.c)∧I (setBlk v e.b e.c)∧0<(blk v e.b).size∧e.b<v.heap.size)(ku:kW kp e.i=.u:=by rfl)(hr:runW l kp a0 e.i=fun _=>some (exI (.store e.t (.const (.pointer (some ⟨e.b,0,none⟩))) (.const (.agg e.c)))):=by kernel_rfl):ObS P l kp a0 I e:=⟨h,ku,hr⟩
abbrev w0:Wt:=fun _=>(none,0)
def ExS(ex:List Nat)(st:List Sto):List Nat:=ex++st.map Sto.i
def chkS(l:List Oper)(kp:List Kw):Bool:=(List.range l.length).all fun j=>(kW kp j).cst != 0
section
variable {P:Program} {l:List Oper} {Q:Exit→Act→World→Prop} {a0:Act} {kp:List Kw} {ex:List Nat} {st:List Sto} {I:World→Prop}
def RS3(I:World→Prop)(kp:List Kw)(st:List Sto)(listed:Array Bool)(vals:Nat→Value)(w:World):Prop:=
 I w∧(∀j,listed.getD j false=true→vals j=(kW kp j).val w0)∧∀e,e∈st→listed.getD e.i false=true→blk w e.b=e.c
theorem stepU(d:Bool)(hk:chkW l kp (ExS ex st) l.length=true)(hp:pureL P l kp a0 (ExS ex st) l.length=pureR kp (ExS ex st) l.length)(hc:chkS l kp=true)(hI:∀v v',I v→Gr v v'→I v')(ho:∀v,I v→ObsW P l kp a0 v ex)(hs:ForY (ObS P l kp a0 I) st)(hi1:(st.map Sto.i).Nodup)(hb1:(st.map Sto.b).Nodup)(hv1:∀i,i<l.length→i ∉ st.map Sto.i→∀y,(kW kp i).val y=(kW kp i).val w0):StepR d P l Q a0 (RS3 I kp st):=by
 intro q W a w i o hz hR hF hi hl hd _;obtain⟨h1,J,h3⟩:=hR
 have C:i<l.length:=by simpa using (Array.getElem?_eq_some_iff.1 hi).1
 have ac:=(chk_u hk).2;have U:=opW_is hi
 have aa:∀j,j<l.length→(kW kp j).cst≠0:=fun j B=>by
  have:=List.all_eq_true.1 hc j (List.mem_range.2 B)
  simpa using this
 have X:∀j,q.getD j false=true→j<l.length:=fun j B=>by
  rcases Nat.lt_or_ge j q.size with h|h
  ·rw[hz]at h;simpa using h
  ·simp[h]at B
 obtain⟨x,hx,K,ab⟩:=atW hk (fun j B=>(kz_W (by have:=X j B;omega) _ _).2 ⟨w0,J j B,(kW kp j).hc (aa j (X j B)) _ _⟩) hF hi C hd;rw[ab]
 by_cases hB:∃e,e∈st∧e.i=i
 ·obtain⟨e,D,rfl⟩:=hB;obtain⟨ob,ku,hr⟩:=hs.at e D;obtain⟨g1,g2⟩:=run_W hr;obtain⟨o1,o2,o3,o4⟩:=ob w h1
  refine Or.inl ⟨g1,wp_skip (by rw[K,←U,g2];exact o1) ⟨_,rfl,o2,fun j B=>?_,fun e' V G=>?_⟩⟩
  ·by_cases ee:j=e.i
   ·subst ee;rw[ku];simp only[upd,if_true];rfl
   ·rw[getD_set_other _ _ _ (Ne.symm ee)]at B;simp only[upd,ee,if_false];exact J j B
  ·by_cases ee:e'.i=e.i
   ·obtain rfl:=map_one Sto.i hi1 e' e V D ee;exact blk_setBlk _ _ _ o3
   ·rw[getD_set_other _ _ _ (Ne.symm ee)]at G;rw[blk_other _ _ _ _ fun eb=>ee (by rw[map_one Sto.b hb1 e' e V D eb.symm])];exact h3 e' V G
 have L:i ∉ st.map Sto.i:=fun h=>by
  obtain⟨e,D,h⟩:=List.mem_map.1 h;exact hB ⟨e,D,h⟩
 have nx:∀v w',Gr w w'→v=(kW kp i).val w0→RS3 I kp st (q.setIfInBounds i true) (upd W i v) w':=fun v w' S hv=>by
  refine⟨hI _ _ h1 S,fun j B=>?_,fun e D G=>?_⟩
  ·by_cases ee:j=i
   ·subst ee;simp only[upd,if_true];exact hv
   ·rw[getD_set_other _ _ _ (Ne.symm ee)]at B;simp only[upd,ee,if_false];exact J j B
  ·rw[getD_set_other _ _ _ (fun ee=>hB ⟨e,D,ee.symm⟩)]at G;rw[S.blk _ ((hs.at e D).1 w h1).2.2.2];exact h3 e D G
 by_cases hm:i∈ex
 ·obtain⟨g1,g2⟩:=(ho w h1).at i hm x w (Gr.refl _) fun j B=>(hx j B).2.2;refine Or.inl ⟨g1,?_⟩;rw[U]at g2
  obtain⟨y,w',H,S,Y⟩|⟨f,args,H,hc⟩:=g2
  ·exact wp_val _ (by rw[K];exact H) ⟨_,rfl,nx _ _ S (hv1 i C L y)⟩
  ·refine wp_retz (k:=(kW kp i).kz) (by rw[K];exact H) (hc.mono fun e w' ⟨y,D,Y,S⟩=>⟨_,D,⟨y,rfl,Y⟩,S⟩) fun u w' ⟨y,hy,_⟩ S=>⟨u,rfl,nx _ _ S (hy.trans (hv1 i C L y))⟩
 ·have Z:i∈others (ExS ex st) l.length:=by
   refine List.mem_filter.2 ⟨by simpa using C,?_⟩
   have:i ∉ ExS ex st:=fun h=>by
    rcases List.mem_append.1 h with h|h
    ·exact hm h
    ·exact L h
   simpa using this
  have A:=List.map_inj_left.1 (congrFun (congrFun hp x) w) i Z;simp only[resW,expW,U]at A
  cases hw:wnt l i (FW l kp a0 x) with
  | true=>
   rw[hw]at A;refine Or.inl ⟨rfl,?_⟩
   cases J:(kW kp i).cst==2 with
   | true=>rw[J]at A;cases A
   | false=>
    rw[J]at A;exact wp_val _ (by rw[K];exact Option.some.inj A) ⟨_,rfl,nx _ _ (Gr.refl _) (hv1 i C L _)⟩
  | false=>
   rw[hw]at A;refine Or.inr ⟨rfl,?_⟩
   cases J:(kW kp i).cst==2 with
   | true=>exact nx _ _ (Gr.refl _) ((kW kp i).hs (by simpa using J) _).symm
   | false=>rw[J]at A;cases A
theorem wp_u(d:Bool){id:Nat}{W:World}(kp:List Kw)(ex:List Nat)(st:List Sto)(I:World→Prop)(h0:I W)(hI:∀v v',I v→Gr v v'→I v')(ho:∀v,I v→ObsW P l kp a0 v ex)(hs:ForY (ObS P l kp a0 I) st)(hb1:(st.map Sto.b).Nodup)(hfin:∀v,I v→ForY (fun e=>blk v e.b=e.c) st→Q .normal (FW l kp a0 fun _=>w0) v)(hm:(!d || P.follows .mixedOrders)=true:=by kernel_rfl)(hk:(chkW l kp (ExS ex st) l.length&&chkS l kp&&decide (st.map Sto.i).Nodup)=true:=by kernel_rfl)(hp:pureL P l kp a0 (ExS ex st) l.length=pureR kp (ExS ex st) l.length:=by kernel_rfl)(hv:(fun y=>(List.range l.length).map fun i=>(kW kp i).val y)=fun _=>(List.range l.length).map fun i=>(kW kp i).val w0:=by kernel_rfl):(Code.region id l.toArray d).wp P Q a0 W:=by
 simp only[Bool.and_eq_true,decide_eq_true_eq]at hk;obtain⟨⟨hk,D⟩,A⟩:=hk;obtain⟨G,H⟩:=chk_u hk
 refine wp_region_ord d (fun h=>by subst h;simpa using hm) G (RS3 I kp st) (fun f w' V X=>?_) (stepU d hk hp D hI ho hs A hb1 fun i Y _ y=>List.map_inj_left.1 (congrFun hv y) i (List.mem_range.2 Y)) fun f J a v q Z hF=>?_
 ·have K:∀(i:Nat) (p:Prop),f.getD i false=true→p:=fun i p h=>by rw[V]at h;cases h
  exact⟨hI _ _ h0 X,fun j B=>K j _ B,fun e _ h=>K e.i _ h⟩
 ·rw[hF.final G q];obtain⟨h1,h2,L⟩:=Z;rw[putFrom_congr (vals':=wvals kp fun _=>w0) l 0 a0 fun j o B _=>by rw[Nat.zero_add];exact h2 j (q j (by simpa using (List.getElem?_eq_some_iff.1 B).1))];refine hfin v h1 ?_
  have:∀e,e∈st→blk v e.b=e.c:=fun e S=>by
   rcases Nat.lt_or_ge e.i l.length with h|h
   ·exact L e S (q e.i (by simpa using h))
   ·obtain⟨-,-,hr⟩:=hs.at e S;have U:=(run_W (x:=fun _=>w0) hr).2;rw[opW,List.getElem?_eq_none h]at U
    cases U
  clear L hs A hb1 hk D hp ho hfin
  induction st with
  | nil=>trivial
  | cons e r ih=>exact⟨this e (List.mem_cons_self ..),ih fun e' C=>this e' (List.mem_cons_of_mem _ C)⟩
end
def Vs(v:World)(b n:Nat):Prop:=(blk v b).size=n∧frz v b=(0,0)∧b+1≤v.heap.size
theorem Vr.vs{v:World}{b n:Nat}{c:Array Value}(h:Vr v b c)(hn:c.size=n):Vs v b n:=⟨by rw[h.h];exact hn,h.f,h.p⟩
theorem Vs.gr{v v':World}{b n:Nat}(h:Vs v b n)(g:Gr v v'):Vs v' b n:=⟨by rw[g.blk _ h.2.2];exact h.1,by rw[g.frz _ h.2.2];exact h.2.1,Nat.le_trans h.2.2 g.below.size⟩
theorem Vs.set{v:World}{b n:Nat}(h:Vs v b n){d:Array Value}(hd:d.size=n)(hn:0<n):Vs (setBlk v b d) b n:=⟨by rw[blk_setBlk _ _ _ (by rw[h.1];exact hn)];exact hd,by rw[frz_setBlk];exact h.2.1,by rw[size_setBlk];exact h.2.2⟩
theorem Vs.other{v:World}{b c n:Nat}{d:Array Value}(h:Vs v b n)(ne:c≠b):Vs (setBlk v c d) b n:=⟨by rw[blk_other _ _ _ _ ne];exact h.1,by rw[frz_setBlk];exact h.2.1,by rw[size_setBlk];exact h.2.2⟩
end
end Go.Proofs.YtffhepbppiocbabGreat