import Derived.Laws.IdiomCopy
import Derived.Test.YtffhepbppiocbadGreatXAAdd
import Derived.Test.YtffhepbppiocbadGreatXAMixG
namespace Go.Proofs.YtffhepbppiocbadGreat
open Go.RowKit Go.Proofs.Tryz
set_option maxRecDepth 100000
set_option maxHeartbeats 8000000
section
def dv(D k u:Nat):Array Value:=nw 9 D ++ #[.int .i64 k,.int .i64 u]
theorem dv_size(D k u:Nat):(dv D k u).size=11:=by simp[dv,nw_size]
theorem dv_get(D k u i:Nat)(h:i<9):(dv D k u)[i]? = some (.int .u64 ((wd D i:Nat):Int)):=by
 grind [dv,nw_size,nw_get]
theorem dv_9(D k u:Nat):(dv D k u)[9]? = some (.int .i64 k):=by
 grind [dv,nw_size]
theorem dv_10(D k u:Nat):(dv D k u)[10]? = some (.int .i64 u):=by
 grind [dv,nw_size]
theorem dv_e9(D k u:Nat)(h:9<(dv D k u).size):(dv D k u)[9]=.int .i64 k:=by
 grind [dv_9]
theorem dv_e10(D k u:Nat)(h:10<(dv D k u).size):(dv D k u)[10]=.int .i64 u:=by
 grind [dv_10]
theorem dv_elem(D k u i:Nat)(h:i<(dv D k u).size)(hi:i<9):(dv D k u)[i]=.int .u64 ((wd D i:Nat):Int):=by
 have:=dv_get D k u i hi
 grind
theorem dv_one(D k u:Nat):(dv D k u).all (·.oneCell')=true:=by
 grind [dv,nw_one,Value.oneCell']
theorem fold11 : #[Value.int .u64 0,Value.int .u64 0,Value.int .u64 0,Value.int .u64 0,Value.int .u64 0,Value.int .u64 0,Value.int .u64 0,Value.int .u64 0,Value.int .u64 0,Value.int .i64 0,Value.int .i64 0]=dv 0 0 0:=by
 unfold dv;rw[nw9_zero]
 rfl
theorem nw19_zero:nw 19 0 =#[Value.int .u64 0,Value.int .u64 0,Value.int .u64 0,Value.int .u64 0,Value.int .u64 0,Value.int .u64 0,Value.int .u64 0,Value.int .u64 0,Value.int .u64 0,Value.int .u64 0,Value.int .u64 0,Value.int .u64 0,Value.int .u64 0,Value.int .u64 0,Value.int .u64 0,Value.int .u64 0,Value.int .u64 0,Value.int .u64 0,Value.int .u64 0]:=by rw[nw_zero];rfl
theorem fold19 : #[Value.int .u64 0,Value.int .u64 0,Value.int .u64 0,Value.int .u64 0,Value.int .u64 0,Value.int .u64 0,Value.int .u64 0,Value.int .u64 0,Value.int .u64 0,Value.int .u64 0,Value.int .u64 0,Value.int .u64 0,Value.int .u64 0,Value.int .u64 0,Value.int .u64 0,Value.int .u64 0,Value.int .u64 0,Value.int .u64 0,Value.int .u64 0]=nw 19 0:=nw19_zero.symm
theorem loadDv_is:LdI 222:=fun _=>rfl
theorem load19_is:LdI 238:=fun _=>rfl
theorem storeDv_is:StI 222:=fun _ _=>rfl
theorem store19_is:StI 238:=fun _ _=>rfl
theorem loadDv:LdS 222 11:=ldS
theorem load19:LdS 238 19:=ldS
theorem storeDv(D k u:Nat):StS 222 11 (dv D k u):=stS (dv_size D k u) (dv_one D k u)
theorem store19(s:Nat):StS 238 19 (nw 19 s):=stS (nw_size 19 s) (nw_one 19 s)
attribute [local go_sem] nw_size nw_elem
theorem idx18(w:World)(a k:Nat)(h:k<18):(Instr.index 213 (.agg (nw 18 a)) (.int .i64 k)).run prog w=.ok (.int .u64 ((wd a k:Nat):Int)) w:=by
 simp[Instr.index,run_underlying underlying213,asIntOf,h,go_sem]
theorem setCell_in(w:World)(b i:Nat)(d:Array Value)(v:Value)(h:0<(blk w b).size):(setBlk w b d).setCell ⟨b,i,none⟩ v=setBlk w b (d.setIfInBounds i v):=by
 rw[setCell_setBlk,blk_setBlk w b d h,setBlk_setBlk]
theorem cell_in(w:World)(b i:Nat)(d:Array Value)(h:0<(blk w b).size):(setBlk w b d).cell? ⟨b,i,none⟩=d[i]?:=by
 rw[cell_blk,blk_setBlk w b d h]
theorem frozen_frz(w:World)(b i:Nat)(h:frz w b=(0,0)):w.frozen? ⟨b,i,none⟩=false:=by
 unfold frz at h;unfold World.frozen?
 split <;> simp_all
theorem frozen_in(w:World)(b i:Nat)(d:Array Value)(h:frz w b=(0,0)):(setBlk w b d).frozen? ⟨b,i,none⟩=false:=
 frozen_frz _ _ _ (by rw[frz_setBlk];exact h)
theorem blk_other(w:World)(b c:Nat)(d:Array Value)(h:¬b=c):blk (setBlk w b d) c=blk w c:=by
 refine blk_of _ _ _ ?_;simp[setBlk,Array.getElem?_modify,h]
theorem setBlk_self(w:World)(b:Nat)(d:Array Value)(h:blk w b=d):setBlk w b d=w:=by
 subst h;refine ext_world ?_ rfl rfl rfl rfl
 apply Array.ext_getElem?
 intro k;simp only[setBlk,Array.getElem?_modify]
 by_cases hk:b=k
 ·subst hk
  cases hw:w.heap[b]? with
  | none=>simp
  | some o=>cases o <;> simp[blk,hw]
 ·simp[hk]
def cpA(d s:Array Value)(k:Nat):Array Value:=setL d 0 (s.toList.take k)
def copyS(ty:TypeId)(d s:Value):Sem Value:=Builtin.copy_ #[208,208] ty #[d,s]
theorem copy_is(ty:TypeId)(d s:Value):Builtin.copy_ #[208,208] ty #[d,s]=copyS ty d s:=rfl
def Ones(c:Array Value):Prop:=c.all (·.oneCell')=true
theorem ones_nw(n a:Nat):Ones (nw n a):=nw_one n a
theorem copy_run(ty:TypeId)(w:World)(b a n m p q:Nat)(hb:min m n≤(blk w b).size)(ha:min m n≤(blk w a).size)(h0:0<(blk w b).size)(hf:frz w b=(0,0))(h1:Ones (blk w a)):
 (copyS ty (.slice (some ⟨b,0,none⟩) n p) (.slice (some ⟨a,0,none⟩) m q)).run prog w=.ok (goInt ((min m n:Nat):Int)) (setBlk w b (cpA (blk w b) (blk w a) (min m n))):=by
 unfold copyS cpA;unfold Ones at h1
 have i:((blk w a).toList.take (min m n)).length=min m n:=by rw[List.length_take];exact Nat.min_eq_left (by simpa using ha)
 have f:∀j,(⟨a,0,none⟩:Addr).add j=⟨a,0+j,none⟩:=fun j=>by unfold Addr.add;split <;> simp_all
 rw[run_copy_cells w 208 208 ty 22 b 0 n p ⟨a,0,none⟩ m q ((blk w a).toList.take (min m n)) underlying208 (by kernel_rfl) i
  (fun j v d=>?_) (fun j x=>?_) (fun j x=>?_) (fun v d=>?_),setCells_setBlk _ _ _ _ h0]
 ·rw[i]
 ·have x:j<min m n:=by
   by_cases h:j<min m n
   ·exact h
   ·rw[List.getElem?_eq_none (by rw[i];omega)]at d;cases d
  rw[List.getElem?_take_of_lt x]at d;rw[f,Nat.zero_add,cell_blk]
  simpa using d
 ·rw[i]at x;rw[Nat.zero_add,cell_blk,Array.getElem?_eq_getElem (by omega)]
  rfl
 ·exact frozen_frz _ _ _ hf
 ·have:=List.mem_of_mem_take d;rw[Array.all_eq_true_iff_forall_mem]at h1;exact h1 v (by simpa using this)
theorem cpA_nw(N N' x y k:Nat)(h:k≤N')(h2:k≤N):cpA (nw N x) (nw N' y) k=nw N (x/pw k*pw k+y%pw k):=by
 apply Array.ext_getElem?
 intro j;have i:y%pw k<pw k:=Nat.mod_lt _ (pw_pos k);unfold cpA;rw[setL_get]
 have f:((nw N' y).toList.take k).length=k:=by rw[List.length_take];simp[nw_size];omega
 rw[f,nw_size]
 by_cases hj:j<N
 ·rw[nw_get N (x/pw k*pw k+y%pw k) j hj]
  by_cases hk:j<k
  ·rw[if_pos ⟨by omega,by omega,hj⟩,Nat.sub_zero,List.getElem?_take_of_lt hk]
   have e:(nw N' y).toList[j]? = some (Value.int .u64 ((wd y j:Nat):Int)):=by
    have:=nw_get N' y j (by omega)
    simpa using this
   rw[e];refine congrArg some (congrArg (Value.int .u64) (congrArg Nat.cast ?_));obtain⟨d,rfl⟩:∃d,k=j+1+d:=⟨k-(j+1),by omega⟩;unfold wd;rw[pw_add,pow_succ64]
   have q:x/(pw j*18446744073709551616*pw d)*(pw j*18446744073709551616*pw d)=x/(pw j*18446744073709551616*pw d)*pw d*18446744073709551616*pw j:=by grind
   rw[q,Nat.add_comm,Nat.add_mul_div_right _ _ (pw_pos j),Nat.add_mul_mod_self_right,Nat.mul_assoc (pw j),Nat.mod_mul_right_div_self,Nat.mod_mul_right_mod]
  ·rw[if_neg (by omega),nw_get N x j hj];refine congrArg some (congrArg (Value.int .u64) (congrArg Nat.cast ?_));obtain⟨d,rfl⟩:∃d,j=k+d:=⟨j-k,by omega⟩;unfold wd;rw[pw_add,←Nat.div_div_eq_div_mul,←Nat.div_div_eq_div_mul,Nat.add_comm,Nat.add_mul_div_right _ _ (pw_pos k),Nat.div_eq_of_lt i,Nat.zero_add]
 ·rw[if_neg (by omega),Array.getElem?_eq_none (by rw[nw_size];omega),Array.getElem?_eq_none (by rw[nw_size];omega)]
theorem res_three{P:Program}{fn:Func}{r s t:ResultVar}{tmps:Array Value}{w:World}{v u x:Value}(h:fn.results =#[r,s,t])(h1:(readR tmps r).run P w=.ok v w)(h2:(readR tmps s).run P w=.ok u w)(h3:(readR tmps t).run P w=.ok x w):(results fn tmps).run P w=.ok (.tuple #[v,u,x]) w:=by
 have e:(results fn tmps)=(do let vs ←fn.results.mapM (readR tmps);pure (if h:vs.size=1 then vs[0] else .tuple vs)):=by
  first|rfl|(unfold results;congr 1)
 rw[e,h];simp[h1,h2,h3]
theorem rd_cell{P:Program}{d:TypeDesc}{ty:TypeId}(n:Nat)(hu:P.underlying ty=some d)(hd:d.isRow=true)(hi:(P.info? ty).map (·.size)=some n){tmps:Array Value}{t:Tmp}{w:World}{b:Nat}{c:Array Value}(h:tmps.getD t undef=.pointer (some ⟨b,0,none⟩))(hc:blk w b=c)(hs:c.size=n):(readR tmps (.cell t ty)).run P w=.ok (.agg c) w:=by
 subst hc
 show (do loadVar ty (←asAddr (tmps.getD t undef))).run P w=_
 rw[h];simp only[asAddr,Sem.run_bind,Sem.run_pure,Result.andThen_ok,load_blk n hu hd hi w b hs]
abbrev RdC(T:Nat)(c:Array Value):Prop:=∀{tmps:Array Value} {t:Tmp} {w:World} {b:Nat},tmps.getD t undef=.pointer (some ⟨b,0,none⟩)→blk w b=c→(readR tmps (.cell t T)).run prog w=.ok (.agg c) w
theorem rdC{T:Nat}{c:Array Value}(n:Nat)(hs:c.size=n)(h:rowT prog T n=true:=by kernel_rfl):RdC T c:=fun f i=>by
 obtain⟨d,j,q,x⟩:=rowT.out h;exact rd_cell n j q x f i hs
theorem rd_nat{x:Nat}:RdC 25 (nw 9 x):=rdC 9 (nw_size 9 x)
theorem rd_wide{x:Nat}:RdC 215 (nw 18 x):=rdC 18 (nw_size 18 x)
theorem rd_19{x:Nat}:RdC 238 (nw 19 x):=rdC 19 (nw_size 19 x)
theorem rd_dv{D k u:Nat}:RdC 222 (dv D k u):=rdC 11 (dv_size D k u)
abbrev uz3:=And.intro @loadDv_is<|And.intro @load19_is<|And.intro @storeDv_is<|And.intro @store19_is @copy_is
abbrev uz4:=And.intro @idx18<|And.intro @loadDv<|And.intro @load19<|And.intro @storeDv<|And.intro @store19<|And.intro @dv_size<|And.intro @dv_9<|And.intro @dv_10<|And.intro @dv_e9<|And.intro @dv_e10<|And.intro @dv_elem<|And.intro @fold11<|And.intro @fold19<|And.intro @setCell_in<|And.intro @cell_in<|And.intro @frozen_in<|And.intro @frz_setBlk<|And.intro @blk_setBlk<|And.intro @setBlk_setBlk<|And.intro @copy_run @cpA_nw
end
section
theorem loadMd_is:LdI 195:=fun _=>rfl
theorem storeMd_is:StI 195:=fun _ _=>rfl
theorem storeAr_is:StI 23:=fun _ _=>rfl
theorem loadMd:LdS 195 9:=ldS
theorem storeMd(s:Nat):StS 195 9 (nw 9 s):=stS (nw_size 9 s) (nw_one 9 s)
theorem storeAr(s:Nat):StS 23 9 (nw 9 s):=stS (nw_size 9 s) (nw_one 9 s)
def buildF(t:TypeId)(p:Array (Nat×Value)):Sem Value:=Instr.build t p
theorem buildMd_is(p:Array (Nat×Value)):Instr.build 195 p=buildF 195 p:=rfl
theorem buildAr_is(p:Array (Nat×Value)):Instr.build 23 p=buildF 23 p:=rfl
theorem buildMd0(w:World):(buildF 195 #[]).run prog w=.ok (.agg (nw 9 0)) w:=by
 rw[nw9_zero]
 kernel_rfl
theorem buildMd1(a:Nat)(w:World):(buildF 195 #[(0,.agg (nw 9 a))]).run prog w=.ok (.agg (nw 9 a)) w:=by
 kernel_rfl
theorem rd_md{x:Nat}:RdC 195 (nw 9 x):=rdC 9 (nw_size 9 x)
abbrev uz6:=And.intro @loadMd_is<|And.intro @storeMd_is @buildMd_is
end
section
def RO(W:World)(kV:Nat→Option Value)(st b:Nat)(r:Array Value)(listed:Array Bool)(vals:Nat→Value)(w:World):Prop:=
 (∀i v,listed.getD i false=true→kV i=some v→vals i=v)∧(listed.getD st false=false→Gr W w)∧(listed.getD st false=true→∃v,Gr W v∧Gr (setBlk v b r) w)
theorem RO.start(W:World)(kV:Nat→Option Value)(st b:Nat)(r:Array Value)(n:Nat)(vals:Nat→Value):RO W kV st b r (Array.replicate n false) vals W.drew:=by
 have h:∀i,(Array.replicate n false).getD i false=false:=fun i=>by by_cases h:i<n <;> simp[h]
 refine⟨fun i v d=>?_,fun _=>(Gr.refl _).drew,fun d=>?_⟩
 ·rw[h]at d;cases d
 grind
theorem RO.blk{W:World}{kV:Nat→Option Value}{st b:Nat}{r:Array Value}{listed:Array Bool}{vals:Nat→Value}{w:World}(h:RO W kV st b r listed vals w)(c:Nat)(hc:c<W.heap.size)(hb:b≠c):blk w c=blk W c:=by
 cases hl:listed.getD st false with
 | false=>exact(h.2.1 hl).blk c hc
 | true=>
  obtain⟨v,d,f⟩:=h.2.2 hl;have i:=d.below.size;rw[f.blk c (by rw[size_setBlk];omega),blk_other _ _ _ _ hb,d.blk c hc]
theorem RO.store{W:World}{kV:Nat→Option Value}{st b:Nat}{r:Array Value}{listed:Array Bool}{vals:Nat→Value}{w:World}(v:Value)(hi:st<listed.size)(hl:listed.getD st false=false)(hv:kV st=none)(h:RO W kV st b r listed vals w):RO W kV st b r (listed.setIfInBounds st true) (upd vals st v) (setBlk w b r):=by
 obtain⟨q,x,A⟩:=h
 refine⟨fun j u i f=>?_,fun d=>?_,fun _=>⟨w,x hl,Gr.refl _⟩⟩
 ·have e:j≠st:=fun e=>by subst e;rw[hv]at f;cases f
  rw[getD_set_other _ _ _ (Ne.symm e)]at i;simp only[upd,e,if_false];exact q j u i f
 ·rw[getD_set_same _ _ hi]at d
  cases d
def RO2(W:World)(kV:Nat→Option Value)(st b:Nat)(r:Array Value)(listed:Array Bool)(vals:Nat→Value)(w:World):Prop:=
 RO W kV st b r listed vals w∧(listed.getD st false=true→∀j,j<st→listed.getD j false=true)
theorem RO2.start(W:World)(kV:Nat→Option Value)(st b:Nat)(r:Array Value)(n:Nat)(vals:Nat→Value):RO2 W kV st b r (Array.replicate n false) vals W.drew:=by
 have h:∀i,(Array.replicate n false).getD i false=false:=fun i=>by by_cases h:i<n <;> simp[h]
 refine⟨RO.start W kV st b r n vals,fun d=>?_⟩;rw[h]at d;cases d
theorem RO2.ahead{W:World}{kV:Nat→Option Value}{st b:Nat}{r:Array Value}{listed:Array Bool}{vals:Nat→Value}{w:World}(h:RO2 W kV st b r listed vals w){i:Nat}(hi:i<st)(hl:listed.getD i false=false):Gr W w:=by
 cases hs:listed.getD st false with
 | false=>exact h.1.2.1 hs
 | true=>rw[h.2 hs i hi]at hl;cases hl
theorem RO2.store{W:World}{kV:Nat→Option Value}{st b:Nat}{r:Array Value}{listed:Array Bool}{vals:Nat→Value}{w:World}(v:Value)(hi:st<listed.size)(hl:listed.getD st false=false)(hv:kV st=none)(hd:∀j,j<st→listed.getD j false=true)(h:RO2 W kV st b r listed vals w):RO2 W kV st b r (listed.setIfInBounds st true) (upd vals st v) (setBlk w b r):=by
 refine⟨RO.store v hi hl hv h.1,fun _ j d=>?_⟩;rw[getD_set_other _ _ _ (by omega)];exact hd j d
end
section
attribute [local go_sem ↓] uz1
attribute [local go_sem] uz2
section
attribute [local go_sem ↓] storeAr_is buildAr_is
attribute [local go_sem] storeAr frz_setBlk blk_setBlk setBlk_setBlk
def pN:Nat→Nat
 | 1=>6277101735386680763835789423207666416083908700390324961279
 | 2=>26959946667150639794667015087019630673557916260026308143510066298881
 | 3=>115792089210356248762697446949407573530086143415290314195533631308867097853951
 | 4=>39402006196394479212279040100143613805079739270465446667948293404245721771496870329047266088258938001861606973112319
 | 5=>6864797660130609714981900799081393217269435300143305409394463459185543183397656052122559640661454554977296311391480858037121987999716643812574028291115057151
 | 6=>115792089237316195423570985008687907853269984665640564039457584007908834671663
 | 7=>1332297598440044874827085558802491743757193798159
 | 8=>22721622932454352787552537995910928073340732145944992304435472941311
 | 9=>76884956397045344220809746629001649093037950200943055203735601445031516197751
 | 10=>1763593322239166354161909842446019520889512772719515192772960415288640868802149818095501499903527
 | 11=>21659270770119316173069236842332604979796116387017648600081618503821089934025961822236561982844534088440708417973331
 | 12=>8948962207650232551656602815159153422162609644098354511344597187200057010413552439917934304191956942765446530386427345937963894309923928536070534607816947
 | 13=>251
 | 14=>241
 | 15=>239
 | _=>0
theorem row1(w:World):(buildF 23 #[(0,.int .u64 18446744073709551615),(1,.int .u64 18446744073709551614),(2,.int .u64 18446744073709551615)]).run prog w=.ok (.agg (nw 9 (pN 1))) w:=by kernel_rfl
theorem row2(w:World):(buildF 23 #[(0,.int .u64 1),(1,.int .u64 18446744069414584320),(2,.int .u64 18446744073709551615),(3,.int .u64 4294967295)]).run prog w=.ok (.agg (nw 9 (pN 2))) w:=by kernel_rfl
theorem row3(w:World):(buildF 23 #[(0,.int .u64 18446744073709551615),(1,.int .u64 4294967295),(2,.int .u64 0),(3,.int .u64 18446744069414584321)]).run prog w=.ok (.agg (nw 9 (pN 3))) w:=by kernel_rfl
theorem row4(w:World):(buildF 23 #[(0,.int .u64 4294967295),(1,.int .u64 18446744069414584320),(2,.int .u64 18446744073709551614),(3,.int .u64 18446744073709551615),(4,.int .u64 18446744073709551615),(5,.int .u64 18446744073709551615)]).run prog w=.ok (.agg (nw 9 (pN 4))) w:=by kernel_rfl
theorem row5(w:World):(buildF 23 #[(0,.int .u64 18446744073709551615),(1,.int .u64 18446744073709551615),(2,.int .u64 18446744073709551615),(3,.int .u64 18446744073709551615),(4,.int .u64 18446744073709551615),(5,.int .u64 18446744073709551615),(6,.int .u64 18446744073709551615),(7,.int .u64 18446744073709551615),(8,.int .u64 511)]).run prog w=.ok (.agg (nw 9 (pN 5))) w:=by kernel_rfl
theorem row6(w:World):(buildF 23 #[(0,.int .u64 18446744069414583343),(1,.int .u64 18446744073709551615),(2,.int .u64 18446744073709551615),(3,.int .u64 18446744073709551615)]).run prog w=.ok (.agg (nw 9 (pN 6))) w:=by kernel_rfl
theorem row7(w:World):(buildF 23 #[(0,.int .u64 10787203111099654671),(1,.int .u64 8318247314806261677),(2,.int .u64 3915270751)]).run prog w=.ok (.agg (nw 9 (pN 7))) w:=by kernel_rfl
theorem row8(w:World):(buildF 23 #[(0,.int .u64 10942209932137119999),(1,.int .u64 8489803750353864535),(2,.int .u64 2757160123298754597),(3,.int .u64 3619763370)]).run prog w=.ok (.agg (nw 9 (pN 8))) w:=by kernel_rfl
theorem row9(w:World):(buildF 23 #[(0,.int .u64 2311270323689771895),(1,.int .u64 7943213001558335528),(2,.int .u64 4496292894210231666),(3,.int .u64 12248480212390422972)]).run prog w=.ok (.agg (nw 9 (pN 9))) w:=by kernel_rfl
theorem row10(w:World):(buildF 23 #[(0,.int .u64 18218206948094062119),(1,.int .u64 5733849700882443304),(2,.int .u64 17982820153128390127),(3,.int .u64 16229979505782022245),(4,.int .u64 15230689193496432567)]).run prog w=.ok (.agg (nw 9 (pN 10))) w:=by kernel_rfl
theorem row11(w:World):(buildF 23 #[(0,.int .u64 9747760000893709395),(1,.int .u64 12453481191562877553),(2,.int .u64 1347097566612230435),(3,.int .u64 1526563086152259252),(4,.int .u64 1107163671716839903),(5,.int .u64 10140169582434348328)]).run prog w=.ok (.agg (nw 9 (pN 11))) w:=by kernel_rfl
theorem row12(w:World):(buildF 23 #[(0,.int .u64 2930260431521597683),(1,.int .u64 2918894611604883077),(2,.int .u64 12595900938455318758),(3,.int .u64 9029043254863489090),(4,.int .u64 15448363540090652785),(5,.int .u64 14641358191536493070),(6,.int .u64 4599554755319692295),(7,.int .u64 12312170373589877899)]).run prog w=.ok (.agg (nw 9 (pN 12))) w:=by kernel_rfl
theorem row13(w:World):(buildF 23 #[(0,.int .u64 251)]).run prog w=.ok (.agg (nw 9 (pN 13))) w:=by kernel_rfl
theorem row14(w:World):(buildF 23 #[(0,.int .u64 241)]).run prog w=.ok (.agg (nw 9 (pN 14))) w:=by kernel_rfl
theorem row15(w:World):(buildF 23 #[(0,.int .u64 239)]).run prog w=.ok (.agg (nw 9 (pN 15))) w:=by kernel_rfl
attribute [local go_sem] row1 row2 row3 row4 row5 row6 row7 row8 row9 row10 row11 row12 row13 row14 row15
theorem of_yes(i:Nat)(h1:1≤i)(h2:i≤15)(w:World):Cg 83 #[.int .i64 i] w (.tuple #[.agg (nw 9 (pN i)),.bool true]):=by
 obtain rfl|rfl|rfl|rfl|rfl|rfl|rfl|rfl|rfl|rfl|rfl|rfl|rfl|rfl|rfl:i=1∨i=2∨i=3∨i=4∨i=5∨i=6∨i=7∨i=8∨i=9∨i=10∨i=11∨i=12∨i=13∨i=14∨i=15:=by omega
 all_goals
  go_enter func83,ntmps83
  go_wp2
  refine bo2 results83 (rd_nat (by rfl) ?_) ⟨rfl,grA⟩;simp[go_sem]
end
end
section
def aN:Nat→Nat
 | 1=>6277101735386680763835789423207666416083908700390324961276
 | 2=>26959946667150639794667015087019630673557916260026308143510066298878
 | 3=>115792089210356248762697446949407573530086143415290314195533631308867097853948
 | 4=>39402006196394479212279040100143613805079739270465446667948293404245721771496870329047266088258938001861606973112316
 | 5=>6864797660130609714981900799081393217269435300143305409394463459185543183397656052122559640661454554977296311391480858037121987999716643812574028291115057148
 | 6=>0
 | 7=>297190522446607939568481567949428902921613329152
 | 8=>11020725272625742361946480833014344015343456918668456061589001510723
 | 9=>56698187605326110043627228396178346077120614539475214109386828188763884139993
 | 10=>524709318439392693105919717518043758943240164412117372990311331314771510648804065756354311491252
 | 11=>19048979039598244295279281525021548448223459855185222892089532512446337024935426033638342846977861914875721218402342
 | 12=>6294860557973063227666421306476379324074715770622746227136910445450301914281276098027990968407983962691151853678563877834221834027439718238065725844264138
 | 13=>248
 | 14=>0
 | 15=>117
 | _=>0
def bN:Nat→Nat
 | 1=>2455155546008943817740293915197451784769108058161191238065
 | 2=>18958286285566608000408668544493926415504680968679321075787234672564
 | 3=>41058363725152142129326129780047268409114441015993725554835256314039467401291
 | 4=>27580193559959705877849011840389048093056905856361568521428707301988689241309860865136260764883745107765439761230575
 | 5=>1093849038073734274511112390766805569936207598951683748994586394495953116150735016013708737573759623248592132296706313309438452531591012912142327488478985984
 | 6=>7
 | 7=>173245649450172891208247283053495198538671808088
 | 8=>3949606626053374030787926457695139766118442946052311411513528958987
 | 9=>17577232497321838841075697789794520262950426058923084567046852300633325438902
 | 10=>684460840191207052139729091116995410883497412720006364295713596062999867796741135919289734394278
 | 11=>717131854892629093329172042053689661426642816397448020844407951239049616491589607702456460799758882466071646850065
 | 12=>3245789008328967059274849584342077916531909009637501918328323668736179176583263496463525128488282611559800773506973771797764811498834995234341530862286627
 | 13=>26
 | 14=>13
 | 15=>8
 | _=>0
def oN:Nat→Nat
 | 1=>6277101735386680763835789423176059013767194773182842284081
 | 2=>26959946667150639794667015087019625940457807714424391721682722368061
 | 3=>115792089210356248762697446949407573529996955224135760342422259061068512044369
 | 4=>39402006196394479212279040100143613805079739270465446667946905279627659399113263569398956308152294913554433653942643
 | 5=>6864797660130609714981900799081393217269435300143305409394463459185543183397655394245057746333217197532963996371363321113864768612440380340372808892707005449
 | 6=>115792089237316195423570985008687907852837564279074904382605163141518161494337
 | 7=>1332297598440044874827085038830181364212942568457
 | 8=>22721622932454352787552537995910923612567546342330757191396560966559
 | 9=>76884956397045344220809746629001649092737531784414529538755519063063536359079
 | 10=>1763593322239166354161909842446019520889512772717686063760686124016784784845843468355685258203921
 | 11=>21659270770119316173069236842332604979796116387017648600075645274821611501358515537962695117368903252229601718723941
 | 12=>8948962207650232551656602815159153422162609644098354511344597187200057010413418528378981730643524959857451398370029280583094215613882043973354392115544169
 | 13=>223
 | 14=>211
 | 15=>229
 | _=>0
def xN:Nat→Nat
 | 1=>602046282375688656758213480587526111916698976636884684818
 | 2=>19277929113566293071110308034699488026831934219452440156649784352033
 | 3=>48439561293906451759052585252797914202762949526041747995844080717082404635286
 | 4=>26247035095799689268623156744566981891852923491109213387815615900925518854738050089022388053975719786650872476732087
 | 5=>2661740802050217063228768716723360960729859168756973147706671368418802944996427808491545080627771902352094241225065558662157113545570916814161637315895999846
 | 6=>55066263022277343669578718895168534326250603453777594175500187360389116729240
 | 7=>1089473557631435284577962539738532515920566082499
 | 8=>1428364927244201726431498207475486496993067267318520844137448783997
 | 9=>63243729749562333355292243550312970334778175571054726587095381623627144114786
 | 10=>565203972584199378547773331021708157952136817703497461781479793049434111597020229546183313458705
 | 11=>4480579927441533893329522230328287337018133311029754539518372936441756157459087304048546502931308754738349656551198
 | 12=>6792059140424575174435640431269195087843153390102521881468023012732047482579853077545647446272866794936371522410774532686582484617946013928874296844351522
 | 13=>2
 | 14=>3
 | 15=>0
 | _=>0
def yN:Nat→Nat
 | 1=>174050332293622031404857552280219410364023488927386650641
 | 2=>19926808758034470970197974370888749184205991990603949537637343198772
 | 3=>36134250956749795798585127919587881956611106672985015071877198253568414405109
 | 4=>8325710961489029985546751289520108179287853048861315594709205902480503199884419224438643760392947333078086511627871
 | 5=>3757180025770020463545507224491183603594455134769762486694567779615544477440556316691234405012945539562144444537289428522585666729196580810124344277578376784
 | 6=>32670510020758816978083085130507043184471273380659243275938904335757337482424
 | 7=>127912481829969033206777085249718746721365418785
 | 8=>9337555360448823227812410753177468631215558779020518084752618816205
 | 9=>38218615093753523893122277964030810387585405539772602581557831887485717997975
 | 10=>175146432689526447697480803229621572834859050903464782210773312572877763380340633688906597830369
 | 11=>21354446258743982691371413536748675410974765754620216137225614281636810686961198361153695003859088327367976229294869
 | 12=>6592244555240112873324748381429610341312712940326266331327445066687010545415256461097707483288650216992613090185042957716318301180159234788504307628509330
 | 13=>84
 | 14=>47
 | 15=>41
 | _=>0
end
end Go.Proofs.YtffhepbppiocbadGreat
namespace Go.Proofs.YtffhepbppiocbadGreat.EC
set_option maxRecDepth 100000
theorem run_1:jck (pN 1) (aN 1) (xN 1) (yN 1) (oN 1-1) (opp (pN 1) (xN 1) (yN 1)) 191 (xN 1) (yN 1) (1%pN 1)=true:=by decide +kernel
theorem top_1:(oN 1-1)/2^191=1:=by decide +kernel
theorem run_2:jck (pN 2) (aN 2) (xN 2) (yN 2) (oN 2-1) (opp (pN 2) (xN 2) (yN 2)) 223 (xN 2) (yN 2) (1%pN 2)=true:=by decide +kernel
theorem top_2:(oN 2-1)/2^223=1:=by decide +kernel
theorem run_3:jck (pN 3) (aN 3) (xN 3) (yN 3) (oN 3-1) (opp (pN 3) (xN 3) (yN 3)) 255 (xN 3) (yN 3) (1%pN 3)=true:=by decide +kernel
theorem top_3:(oN 3-1)/2^255=1:=by decide +kernel
theorem run_4:jck (pN 4) (aN 4) (xN 4) (yN 4) (oN 4-1) (opp (pN 4) (xN 4) (yN 4)) 383 (xN 4) (yN 4) (1%pN 4)=true:=by decide +kernel
theorem top_4:(oN 4-1)/2^383=1:=by decide +kernel
theorem run_5:jck (pN 5) (aN 5) (xN 5) (yN 5) (oN 5-1) (opp (pN 5) (xN 5) (yN 5)) 520 (xN 5) (yN 5) (1%pN 5)=true:=by decide +kernel
theorem top_5:(oN 5-1)/2^520=1:=by decide +kernel
theorem run_6:jck (pN 6) (aN 6) (xN 6) (yN 6) (oN 6-1) (opp (pN 6) (xN 6) (yN 6)) 255 (xN 6) (yN 6) (1%pN 6)=true:=by decide +kernel
theorem top_6:(oN 6-1)/2^255=1:=by decide +kernel
theorem run_7:jck (pN 7) (aN 7) (xN 7) (yN 7) (oN 7-1) (opp (pN 7) (xN 7) (yN 7)) 159 (xN 7) (yN 7) (1%pN 7)=true:=by decide +kernel
theorem top_7:(oN 7-1)/2^159=1:=by decide +kernel
theorem run_8:jck (pN 8) (aN 8) (xN 8) (yN 8) (oN 8-1) (opp (pN 8) (xN 8) (yN 8)) 223 (xN 8) (yN 8) (1%pN 8)=true:=by decide +kernel
theorem top_8:(oN 8-1)/2^223=1:=by decide +kernel
theorem run_9:jck (pN 9) (aN 9) (xN 9) (yN 9) (oN 9-1) (opp (pN 9) (xN 9) (yN 9)) 255 (xN 9) (yN 9) (1%pN 9)=true:=by decide +kernel
theorem top_9:(oN 9-1)/2^255=1:=by decide +kernel
theorem run_10:jck (pN 10) (aN 10) (xN 10) (yN 10) (oN 10-1) (opp (pN 10) (xN 10) (yN 10)) 319 (xN 10) (yN 10) (1%pN 10)=true:=by decide +kernel
theorem top_10:(oN 10-1)/2^319=1:=by decide +kernel
theorem run_11:jck (pN 11) (aN 11) (xN 11) (yN 11) (oN 11-1) (opp (pN 11) (xN 11) (yN 11)) 383 (xN 11) (yN 11) (1%pN 11)=true:=by decide +kernel
theorem top_11:(oN 11-1)/2^383=1:=by decide +kernel
theorem run_12:jck (pN 12) (aN 12) (xN 12) (yN 12) (oN 12-1) (opp (pN 12) (xN 12) (yN 12)) 511 (xN 12) (yN 12) (1%pN 12)=true:=by decide +kernel
theorem top_12:(oN 12-1)/2^511=1:=by decide +kernel
theorem run_13:jck (pN 13) (aN 13) (xN 13) (yN 13) (oN 13-1) (opp (pN 13) (xN 13) (yN 13)) 7 (xN 13) (yN 13) (1%pN 13)=true:=by decide +kernel
theorem top_13:(oN 13-1)/2^7=1:=by decide +kernel
theorem run_14:jck (pN 14) (aN 14) (xN 14) (yN 14) (oN 14-1) (opp (pN 14) (xN 14) (yN 14)) 7 (xN 14) (yN 14) (1%pN 14)=true:=by decide +kernel
theorem top_14:(oN 14-1)/2^7=1:=by decide +kernel
theorem run_15:jck (pN 15) (aN 15) (xN 15) (yN 15) (oN 15-1) (opp (pN 15) (xN 15) (yN 15)) 7 (xN 15) (yN 15) (1%pN 15)=true:=by decide +kernel
theorem top_15:(oN 15-1)/2^7=1:=by decide +kernel
end Go.Proofs.YtffhepbppiocbadGreat.EC
namespace Go.Proofs.YtffhepbppiocbadGreat
open Go.RowKit
set_option maxRecDepth 100000
set_option maxHeartbeats 8000000
section
set_option maxRecDepth 100000
abbrev Cert:=Nat×Nat×List (Nat×Nat×Nat)
def cOk(pre:List Nat)(c:Cert):Bool:=
 Nat.ble 2 c.1&&match c.2.2 with
  | []=>Nat.ble (c.1+1) ((c.2.1+2)*(c.2.1+2))&&noDiv c.1 c.2.1
  | r=>Nat.ble (c.1+1) (2^c.2.1)&&(rowsOk c.2.1 c.1 1 (r.map fun x=>(pre.getD x.1 0,x.2))&&r.all fun x=>Nat.ble (x.1+1) pre.length)
def csOk:List Nat→List Cert→Bool
 | _,[]=>true
 | pre,c :: l=>cOk pre c&&csOk (pre++[c.1]) l
theorem cOk_is{pre:List Nat}{c:Cert}(h:cOk pre c=true)(hp:∀q∈pre,Prm q):Prm c.1:=by
 obtain⟨n,f,r⟩:=c;rw[cOk,Bool.and_eq_true]at h;obtain⟨d,h⟩:=h
 cases r with
 | nil=>
  rw[Bool.and_eq_true]at h;exact prm_small f (Nat.le_of_ble_eq_true d) (Nat.le_of_ble_eq_true h.1) h.2
 | cons a r=>
  simp only[Bool.and_eq_true]at h;refine prm_of _ (Nat.le_of_ble_eq_true h.1) (Nat.le_of_ble_eq_true d) h.2.1 fun q j=>?_;obtain⟨x,A,rfl⟩:=List.mem_map.1 j;have i:x.1<pre.length:=Nat.le_of_ble_eq_true (List.all_eq_true.1 h.2.2 x A)
  show Prm (pre.getD x.1 0)
  rw[List.getD_eq_getElem?_getD,List.getElem?_eq_getElem i];exact hp _ (List.getElem_mem i)
theorem csOk_is:∀(l:List Cert) (pre:List Nat),csOk pre l=true→(∀q∈pre,Prm q)→∀c∈l,Prm c.1
 | [],_,_,_,_,h=>by cases h
 | a :: l,pre,h,hp,c,hc=>by
  rw[csOk,Bool.and_eq_true]at h;have ha:=cOk_is h.1 hp
  rcases List.mem_cons.1 hc with rfl|hc
  ·exact ha
  ·refine csOk_is l _ h.2 (fun q d=>?_) c hc
   rcases List.mem_append.1 d with d|d
   ·exact hp q d
   ·rw[List.mem_singleton.1 d];exact ha
def certs:List Cert:=[(11,2,[]),(83,8,[]),(750487,20,[(0,0,2),(1,0,2)]),(2273,46,[]),(4547,13,[(3,0,2)]),(27283,15,[(4,0,2)]),(436529,19,[(5,0,2)]),(23572567,25,[(6,0,2)]),(136095069548351808925828417,87,[(2,0,2),(7,0,2)]),(1332297598440044874827085558802491743757193798159,160,[(8,0,2)]),(7,1,[]),(137,10,[]),(311,16,[]),(1942793987,31,[(10,0,2),(11,0,2),(12,0,2)]),(273564821309471,48,[(13,0,2)]),(18114915337470550679,64,[(14,0,2)]),(1685556642320959799579593,81,[(15,0,2)]),(13036179062997789943375385313119191,114,[(16,0,2)]),(22721622932454352787552537995910928073340732145944992304435472941311,224,[(17,0,2)]),(1109,32,[]),(13309,14,[(19,0,2)]),(10434257,24,[(20,0,2)]),(187816627,28,[(21,0,2)]),(3,0,[]),(5,1,[]),(13,2,[]),(2851,52,[]),(151499460061,38,[(23,1,2),(24,0,2),(25,0,2),(26,0,2)]),(49712609355733181957277501974736893,116,[(22,0,2),(27,0,2)]),(3059213862715144055733503214373292934438943635608167530247,191,[(28,0,2)]),(76884956397045344220809746629001649093037950200943055203735601445031516197751,256,[(29,0,2)]),(2,0,[]),(10513,14,[(31,3,5),(23,1,2)]),(546677,20,[(32,0,2)]),(161422784561,38,[(33,0,2)]),(2905610122099,42,[(34,0,2)]),(1197111370304789,51,[(35,0,2)]),(14365336443657469,54,[(36,0,2)]),(3943,61,[]),(151,11,[]),(6947,13,[(39,0,2)]),(547948229735387969,59,[(31,5,3),(38,0,2),(40,0,2)]),(2307908307480288228542246803936276549862379769663891118114524423,211,[(37,0,2),(41,0,2)]),(1763593322239166354161909842446019520889512772719515192772960415288640868802149818095501499903527,320,[(42,0,2)]),(1627,39,[]),(2657,50,[]),(67,7,[]),(4423,13,[(46,0,2)]),(41201,16,[(31,3,3),(24,1,3)]),(101,9,[]),(96557,17,[(31,1,2),(49,0,2)]),(255515944373312847190720520512484175977,128,[(44,0,2),(45,0,2),(47,0,2),(48,0,2),(50,0,2)]),(205115282021455665897114700593932402728804164701536103180137503955397371,237,[(51,0,2)]),(115792089237316195423570985008687907853269984665640564039457584007908834671663,256,[(52,0,2)]),(163,11,[]),(149309,18,[(31,1,2),(54,0,2)]),(61,6,[]),(379787,19,[(0,0,2),(56,0,2)]),(11393611,24,[(57,0,2)]),(43,5,[]),(2477,48,[]),(54251,16,[(31,0,2),(24,2,2)]),(108341181769254293,57,[(59,0,2),(60,0,2),(61,0,2)]),(6277101735386680763835789423207666416083908700390324961279,192,[(55,0,2),(58,0,2),(62,0,2)]),(23,3,[]),(107,9,[]),(204061199,28,[(0,0,3),(64,0,2),(65,0,2)]),(34282281433,35,[(66,0,2)]),(53,6,[]),(173,12,[]),(197,13,[]),(66417393611,36,[(68,0,2),(69,0,2),(70,0,2)]),(11290956913871,44,[(71,0,2)]),(774023187263532362759620327192479577272145303,150,[(67,0,2),(72,0,2)]),(835945042244614951780389953367877943453916927241,160,[(73,0,2)]),(115792089210356248762697446949407573530086143415290314195533631308867097853951,256,[(74,0,2)]),(233,14,[]),(8389,14,[(76,0,2)]),(38557,16,[(31,1,2),(23,3,2)]),(3253,56,[]),(312289,19,[(79,0,2)]),(59,6,[]),(599,23,[]),(513928823,29,[(81,0,2),(82,0,2)]),(53448597593,36,[(83,0,2)]),(1357291859799823621,61,[(84,0,2)]),(181,12,[]),(19,3,[]),(211,13,[]),(105957871,27,[(24,0,2),(87,0,2),(88,0,2)]),(529709925838459440593,69,[(10,0,2),(86,0,2),(89,0,2)]),(19173790298027098165721053155794528970226934547887232785722672956982046098136719667167519737147526097,334,[(77,0,2),(78,0,2),(80,0,2),(85,0,2),(90,0,2)]),(39402006196394479212279040100143613805079739270465446667948293404245721771496870329047266088258938001861606973112319,384,[(91,0,2)]),(17,3,[]),(31,4,[]),(41,5,[]),(131,10,[]),(157,11,[]),(521,21,[]),(1613,39,[]),(2731,51,[]),(8191,13,[(23,1,7),(24,0,3),(10,0,3)]),(42641,16,[(31,3,3),(25,0,2)]),(51481,16,[(31,2,7),(23,1,3),(24,0,2)]),(257,15,[]),(61681,16,[(104,0,3)]),(1051,31,[]),(409891,19,[(106,0,3)]),(858001,20,[(31,3,17),(24,2,3)]),(5746001,23,[(24,2,5),(25,1,3)]),(37,5,[]),(7623851,23,[(24,1,3),(25,0,2),(110,0,3)]),(34110701,26,[(24,1,5),(25,0,2),(87,0,3)]),(1237,34,[]),(49481,16,[(113,0,2)]),(308761441,29,[(114,0,3)]),(6864797660130609714981900799081393217269435300143305409394463459185543183397656052122559640661454554977296311391480858037121987999716643812574028291115057151,521,[(93,0,3),(94,0,3),(95,0,3),(68,0,3),(96,0,3),(97,0,3),(98,0,2),(99,0,3),(100,0,3),(101,0,3),(102,0,3),(103,0,3),(105,0,3),(107,0,3),(108,0,3),(109,0,3),(111,0,3),(112,0,3),(115,0,3)]),(2543,49,[]),(71,7,[]),(123606883,27,[(10,0,2),(95,0,2),(118,0,2)]),(13843970897,34,[(119,0,2)]),(8076987940436711,53,[(120,0,2)]),(726928914639303991,60,[(121,0,2)]),(12811352796235023217778801482819,104,[(122,0,2)]),(13857381403312519376221497559214358876512960238914501360589056738895920081,243,[(25,0,2),(59,0,2),(117,0,2),(123,0,2)]),(21659270770119316173069236842332604979796116387017648600081618503821089934025961822236561982844534088440708417973331,384,[(124,0,2)]),(1429,36,[]),(5717,13,[(126,0,2)]),(239,14,[]),(24379,15,[(128,0,2)]),(3571,58,[]),(1064159,21,[(130,0,2)]),(2128319,22,[(131,0,2)]),(4256639,23,[(132,0,2)]),(1913,42,[]),(15511,14,[(23,0,2),(24,0,2),(0,0,2)]),(2234757903503,42,[(134,0,2),(135,0,2)]),(57034811399347976721726973543287819857845741391551,166,[(127,0,2),(129,0,2),(133,0,2),(136,0,2)]),(297968944203544716575901889872036237935261750341463572996351910423,218,[(137,0,2)]),(14435454750020088047685444818571282397270727096595623715684950293729763357371155607979,283,[(138,0,2)]),(8948962207650232551656602815159153422162609644098354511344597187200057010413552439917934304191956942765446530386427345937963894309923928536070534607816947,512,[(139,0,2)]),(47,5,[]),(373,18,[]),(67280421310721,46,[(31,7,3),(24,0,3),(141,0,3),(142,0,3)]),(26959946667150639794667015087019630673557916260026308143510066298881,224,[(31,95,11),(143,0,2)]),(251,15,[]),(241,15,[])]
theorem certs_ok:csOk [] certs=true:=by decide +kernel
theorem prm_pN(i:Nat)(h1:1≤i)(h2:i≤15):Prm (pN i):=by
 have h:∀k n:Nat,(certs[k]?).map Prod.fst=some n→Prm n:=fun k n h=>by
  obtain⟨c,d,rfl⟩:=Option.map_eq_some_iff.1 h;exact csOk_is certs [] certs_ok (fun _ h=>by cases h) c (List.mem_of_getElem? d)
 refine h ([63,144,75,92,116,53,9,18,30,43,125,140,145,146,128].getD (i-1) 0) _ ?_
 obtain rfl|rfl|rfl|rfl|rfl|rfl|rfl|rfl|rfl|rfl|rfl|rfl|rfl|rfl|rfl:i=1∨i=2∨i=3∨i=4∨i=5∨i=6∨i=7∨i=8∨i=9∨i=10∨i=11∨i=12∨i=13∨i=14∨i=15:=by omega
 all_goals decide +kernel
end
end Go.Proofs.YtffhepbppiocbadGreat