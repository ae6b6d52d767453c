import Derived.Laws.IdiomCopy
import Derived.Test.YtpogpconfonljaaGreatXAAdd
import Derived.Test.YtpogpconfonljaaGreatXAMixG
namespace Go.Proofs.YtpogpconfonljaaGreat
open Go.RowKit
set_option maxRecDepth 100000
set_option maxHeartbeats 8000000
section
def dv (D k u:Nat):Array Value:=nw 9 D ++ #[.int .i64 (k:Int),.int .i64 (u:Int)]
theorem dv_size (D k u:Nat):(dv D k u).size=11:=by simp [dv,nw_size]
theorem dv_get (D k u i:Nat) (h:i<9):(dv D k u)[i]? = some (.int .u64 ((wd D i:Nat):Int)):=by
 unfold dv
 rw [Array.getElem?_append_left (by rw [nw_size]; exact h),nw_get 9 D i h]
theorem dv_9 (D k u:Nat):(dv D k u)[9]? = some (.int .i64 (k:Int)):=by
 unfold dv
 rw [Array.getElem?_append_right (by rw [nw_size]; decide),nw_size]
 rfl
theorem dv_10 (D k u:Nat):(dv D k u)[10]? = some (.int .i64 (u:Int)):=by
 unfold dv
 rw [Array.getElem?_append_right (by rw [nw_size]; decide),nw_size]
 rfl
theorem dv_e9 (D k u:Nat) (h:9<(dv D k u).size):(dv D k u)[9]=.int .i64 (k:Int):=by
 have:=dv_9 D k u
 rw [Array.getElem?_eq_getElem h] at this
 exact Option.some.inj this
theorem dv_e10 (D k u:Nat) (h:10<(dv D k u).size):(dv D k u)[10]=.int .i64 (u:Int):=by
 have:=dv_10 D k u
 rw [Array.getElem?_eq_getElem h] at this
 exact Option.some.inj this
theorem dv_elem (D k u i:Nat) (h:i<(dv D k u).size) (hi:i<9):(dv D k u)[i]=.int .u64 ((wd D i:Nat):Int):=by
 have:=dv_get D k u i hi
 rw [Array.getElem?_eq_getElem h] at this
 exact Option.some.inj this
theorem dv_one (D k u:Nat):(dv D k u).all (·.oneCell')=true:=by
 unfold dv
 rw [Array.all_append,nw_one,Bool.true_and]
 simp [Value.oneCell']
theorem fold11 : #[Value.int .u64 0,Value.int .u64 0,Value.int .u64 0,Value.int .u64 0,Value.int .u64 0,Value.int .u64 0,Value.int .u64 0,Value.int .u64 0,Value.int .u64 0,Value.int .i64 0,Value.int .i64 0]=dv 0 0 0:=by
 unfold dv
 rw [nw9_zero]
 rfl
theorem nw19_zero:nw 19 0 = #[Value.int .u64 0,Value.int .u64 0,Value.int .u64 0,Value.int .u64 0,Value.int .u64 0,Value.int .u64 0,Value.int .u64 0,Value.int .u64 0,Value.int .u64 0,Value.int .u64 0,Value.int .u64 0,Value.int .u64 0,Value.int .u64 0,Value.int .u64 0,Value.int .u64 0,Value.int .u64 0,Value.int .u64 0,Value.int .u64 0,Value.int .u64 0]:=by rw [nw_zero]; rfl
theorem fold19 : #[Value.int .u64 0,Value.int .u64 0,Value.int .u64 0,Value.int .u64 0,Value.int .u64 0,Value.int .u64 0,Value.int .u64 0,Value.int .u64 0,Value.int .u64 0,Value.int .u64 0,Value.int .u64 0,Value.int .u64 0,Value.int .u64 0,Value.int .u64 0,Value.int .u64 0,Value.int .u64 0,Value.int .u64 0,Value.int .u64 0,Value.int .u64 0]=nw 19 0:=nw19_zero.symm
theorem loadDv_is (v:Value):Instr.loadAt 210 v=loadS 210 v:=rfl
theorem load19_is (v:Value):Instr.loadAt 224 v=loadS 224 v:=rfl
theorem storeDv_is (p v:Value):Instr.storeAt 210 p v=storeS 210 p v:=rfl
theorem store19_is (p v:Value):Instr.storeAt 224 p v=storeS 224 p v:=rfl
theorem loadDv (w:World) (b:Nat) (hs:(blk w b).size=11):(loadS 210 (.pointer (some ⟨b,0,none⟩))).run Tryz.prog w=.ok (.agg (blk w b)) w:=
 loadS_run 11 Tryz.underlying210 rfl (by kernel_rfl) w b hs
theorem load19 (w:World) (b:Nat) (hs:(blk w b).size=19):(loadS 224 (.pointer (some ⟨b,0,none⟩))).run Tryz.prog w=.ok (.agg (blk w b)) w:=
 loadS_run 19 Tryz.underlying224 rfl (by kernel_rfl) w b hs
theorem storeDv (w:World) (b D k u:Nat) (hs:(blk w b).size=11) (hf:frz w b=(0,0)):(storeS 210 (.pointer (some ⟨b,0,none⟩)) (.agg (dv D k u))).run Tryz.prog w=.ok () (setBlk w b (dv D k u)):=
 storeS_run 11 (by decide) (by kernel_rfl) w b (dv D k u) (dv_size D k u) (dv_one D k u) hs hf
theorem store19 (w:World) (b s:Nat) (hs:(blk w b).size=19) (hf:frz w b=(0,0)):(storeS 224 (.pointer (some ⟨b,0,none⟩)) (.agg (nw 19 s))).run Tryz.prog w=.ok () (setBlk w b (nw 19 s)):=
 storeS_run 19 (by decide) (by kernel_rfl) w b (nw 19 s) (nw_size 19 s) (nw_one 19 s) hs hf
attribute [local go_sem] nw_size nw_elem
theorem idx18 (w:World) (a k:Nat) (h:k<18):(Instr.index 199 (.agg (nw 18 a)) (.int .i64 (k:Int))).run Tryz.prog w=.ok (.int .u64 ((wd a k:Nat):Int)) w:=by
 simp [Instr.index,run_underlying Tryz.underlying199,asIntOf,h,go_sem]
theorem setCell_in (w:World) (b i:Nat) (d:Array Value) (v:Value) (h:0<(blk w b).size):(setBlk w b d).setCell ⟨b,i,none⟩ v=setBlk w b (d.setIfInBounds i v):=by
 rw [setCell_setBlk,blk_setBlk w b d h,setBlk_setBlk]
theorem cell_in (w:World) (b i:Nat) (d:Array Value) (h:0<(blk w b).size):(setBlk w b d).cell? ⟨b,i,none⟩=d[i]?:=by
 rw [cell_blk,blk_setBlk w b d h]
theorem frozen_frz (w:World) (b i:Nat) (h:frz w b=(0,0)):w.frozen? ⟨b,i,none⟩=false:=by
 unfold frz at h
 unfold World.frozen?
 split <;> simp_all
theorem frozen_in (w:World) (b i:Nat) (d:Array Value) (h:frz w b=(0,0)):(setBlk w b d).frozen? ⟨b,i,none⟩=false:=
 frozen_frz _ _ _ (by rw [frz_setBlk]; exact h)
theorem blk_other (w:World) (b c:Nat) (d:Array Value) (h:¬ b=c):blk (setBlk w b d) c=blk w c:=by
 refine blk_of _ _ _ ?_
 simp [setBlk,Array.getElem?_modify,h]
theorem setBlk_self (w:World) (b:Nat) (d:Array Value) (h:blk w b=d):setBlk w b d=w:=by
 subst h
 refine ext_world ?_ rfl rfl rfl rfl
 apply Array.ext_getElem?
 intro k
 simp only [setBlk,Array.getElem?_modify]
 by_cases hk:b=k
 ·subst hk
  cases hw:w.heap[b]? with
  | none=>simp
  | some o=>cases o <;> simp [blk,hw]
 ·simp [hk]
def cpA (d s:Array Value) (k:Nat):Array Value:=setL d 0 (s.toList.take k)
def copyS (ty:TypeId) (d s:Value):Sem Value:=Builtin.copy_ #[193,193] ty #[d,s]
theorem copy_is (ty:TypeId) (d s:Value):Builtin.copy_ #[193,193] ty #[d,s]=copyS ty d s:=rfl
def Ones (c:Array Value):Prop:=c.all (·.oneCell')=true
theorem ones_nw (n a:Nat):Ones (nw n a):=nw_one n a
theorem copy_run (ty:TypeId) (w:World) (b a n m p q:Nat) (hb:min m n≤(blk w b).size) (ha:min m n≤(blk w a).size) (h0:0<(blk w b).size) (hf:frz w b=(0,0)) (h1:Ones (blk w a)):
 (copyS ty (.slice (some ⟨b,0,none⟩) n p) (.slice (some ⟨a,0,none⟩) m q)).run Tryz.prog w=.ok (goInt ((min m n:Nat):Int)) (setBlk w b (cpA (blk w b) (blk w a) (min m n))):=by
 unfold copyS cpA
 unfold Ones at h1
 have hl:((blk w a).toList.take (min m n)).length=min m n:=by rw [List.length_take]; exact Nat.min_eq_left (by simpa using ha)
 have hadd:∀ j,(⟨a,0,none⟩:Addr).add j=⟨a,0+j,none⟩:=fun j=>by unfold Addr.add; split <;> simp_all
 rw [run_copy_cells w 193 193 ty 22 b 0 n p ⟨a,0,none⟩ m q ((blk w a).toList.take (min m n)) Tryz.underlying193 (by kernel_rfl) hl
  (fun j v hv=>?_) (fun j hj=>?_) (fun j hj=>?_) (fun v hv=>?_),setCells_setBlk _ _ _ _ h0]
 ·rw [hl]
 ·have hj:j<min m n:=by
   by_cases h:j<min m n
   ·exact h
   ·rw [List.getElem?_eq_none (by rw [hl]; omega)] at hv; cases hv
  rw [List.getElem?_take_of_lt hj] at hv
  rw [hadd,Nat.zero_add,cell_blk]
  simpa using hv
 ·rw [hl] at hj
  rw [Nat.zero_add,cell_blk,Array.getElem?_eq_getElem (by omega)]
  rfl
 ·exact frozen_frz _ _ _ hf
 ·have:=List.mem_of_mem_take hv
  rw [Array.all_eq_true_iff_forall_mem] at h1
  exact h1 v (by simpa using this)
theorem cpA_nw (N N' x y k:Nat) (h:k≤N') (h2:k≤N):cpA (nw N x) (nw N' y) k=nw N (x/pw k*pw k+y%pw k):=by
 apply Array.ext_getElem?
 intro j
 have hlt:y%pw k<pw k:=Nat.mod_lt _ (pw_pos k)
 unfold cpA
 rw [setL_get]
 have hlen:((nw N' y).toList.take k).length=k:=by rw [List.length_take]; simp [nw_size]; omega
 rw [hlen,nw_size]
 by_cases hj:j<N
 ·rw [nw_get N (x/pw k*pw k+y%pw k) j hj]
  by_cases hk:j<k
  ·rw [if_pos ⟨by omega,by omega,hj⟩,Nat.sub_zero,List.getElem?_take_of_lt hk]
   have e:(nw N' y).toList[j]? = some (Value.int .u64 ((wd y j:Nat):Int)):=by
    have:=nw_get N' y j (by omega)
    simpa using this
   rw [e]
   refine congrArg some (congrArg (Value.int .u64) (congrArg Nat.cast ?_))
   obtain ⟨d,rfl⟩:∃ d,k=j+1+d:=⟨k-(j+1),by omega⟩
   unfold wd
   rw [pw_add,pow_succ64]
   have e1:x/(pw j*18446744073709551616*pw d)*(pw j*18446744073709551616*pw d)=x/(pw j*18446744073709551616*pw d)*pw d*18446744073709551616*pw j:=by grind
   rw [e1,Nat.add_comm,Nat.add_mul_div_right _ _ (pw_pos j),Nat.add_mul_mod_self_right,Nat.mul_assoc (pw j),Nat.mod_mul_right_div_self,Nat.mod_mul_right_mod]
  ·rw [if_neg (by omega),nw_get N x j hj]
   refine congrArg some (congrArg (Value.int .u64) (congrArg Nat.cast ?_))
   obtain ⟨d,rfl⟩:∃ d,j=k+d:=⟨j-k,by omega⟩
   unfold wd
   rw [pw_add,← Nat.div_div_eq_div_mul,← Nat.div_div_eq_div_mul,Nat.add_comm,Nat.add_mul_div_right _ _ (pw_pos k),Nat.div_eq_of_lt hlt,Nat.zero_add]
 ·rw [if_neg (by omega),Array.getElem?_eq_none (by rw [nw_size]; omega),Array.getElem?_eq_none (by rw [nw_size]; omega)]
theorem res_three {P:Program} {fn:Func} {r s t:ResultVar} {tmps:Array Value} {w:World} {v u x:Value} (h:fn.results = #[r,s,t]) (h1:(readR tmps r).run P w=.ok v w) (h2:(readR tmps s).run P w=.ok u w)
 (h3:(readR tmps t).run P w=.ok x w):(results fn tmps).run P w=.ok (.tuple #[v,u,x]) w:=by
 have e:(results fn tmps)=(do let vs ← fn.results.mapM (readR tmps); pure (if h:vs.size=1 then vs[0] else .tuple vs)):=by
  first | rfl | (unfold results; congr 1)
 rw [e,h]
 simp [h1,h2,h3]
theorem rd_cell {P:Program} {d:TypeDesc} {ty:TypeId} (n:Nat) (hu:P.underlying ty=some d) (hd:d.isRow=true) (hi:(P.info? ty).map (·.size)=some n) {tmps:Array Value} {t:Tmp} {w:World} {b:Nat} {c:Array Value}
 (h:tmps.getD t undef=.pointer (some ⟨b,0,none⟩)) (hc:blk w b=c) (hs:c.size=n):(readR tmps (.cell t ty)).run P w=.ok (.agg c) w:=by
 subst hc
 show (do loadVar ty (← asAddr (tmps.getD t undef))).run P w=_
 rw [h]
 simp only [asAddr,Sem.run_bind,Sem.run_pure,Result.andThen_ok,load_blk n hu hd hi w b hs]
theorem rd_nat {tmps:Array Value} {t:Tmp} {w:World} {b x:Nat} (h:tmps.getD t undef=.pointer (some ⟨b,0,none⟩)) (hc:blk w b=nw 9 x):(readR tmps (.cell t 25)).run Tryz.prog w=.ok (.agg (nw 9 x)) w:=
 rd_cell 9 Tryz.underlying25 rfl (by kernel_rfl) h hc (nw_size 9 x)
theorem rd_wide {tmps:Array Value} {t:Tmp} {w:World} {b x:Nat} (h:tmps.getD t undef=.pointer (some ⟨b,0,none⟩)) (hc:blk w b=nw 18 x):(readR tmps (.cell t 201)).run Tryz.prog w=.ok (.agg (nw 18 x)) w:=
 rd_cell 18 Tryz.underlying201 rfl (by kernel_rfl) h hc (nw_size 18 x)
theorem rd_19 {tmps:Array Value} {t:Tmp} {w:World} {b x:Nat} (h:tmps.getD t undef=.pointer (some ⟨b,0,none⟩)) (hc:blk w b=nw 19 x):(readR tmps (.cell t 224)).run Tryz.prog w=.ok (.agg (nw 19 x)) w:=
 rd_cell 19 Tryz.underlying224 rfl (by kernel_rfl) h hc (nw_size 19 x)
theorem rd_dv {tmps:Array Value} {t:Tmp} {w:World} {b D k u:Nat} (h:tmps.getD t undef=.pointer (some ⟨b,0,none⟩)) (hc:blk w b=dv D k u):(readR tmps (.cell t 210)).run Tryz.prog w=.ok (.agg (dv D k u)) w:=
 rd_cell 11 Tryz.underlying210 rfl (by kernel_rfl) h hc (dv_size D k u)
abbrev uz3:=And.intro @loadDv_is<|And.intro @load19_is<|And.intro @storeDv_is<|And.intro @store19_is @copy_is
abbrev uz4:=And.intro @idx18<|And.intro @loadDv<|And.intro @load19<|And.intro @storeDv<|And.intro @store19<|And.intro @dv_size<|And.intro @dv_9<|And.intro @dv_10<|And.intro @dv_e9<|And.intro @dv_e10<|And.intro @dv_elem<|And.intro @fold11<|And.intro @fold19<|And.intro @setCell_in<|And.intro @cell_in<|And.intro @frozen_in<|And.intro @frz_setBlk<|And.intro @blk_setBlk<|And.intro @setBlk_setBlk<|And.intro @copy_run @cpA_nw
end
section
theorem loadMd_is (v:Value):Instr.loadAt 187 v=loadS 187 v:=rfl
theorem storeMd_is (p v:Value):Instr.storeAt 187 p v=storeS 187 p v:=rfl
theorem storeAr_is (p v:Value):Instr.storeAt 23 p v=storeS 23 p v:=rfl
theorem loadMd (w:World) (b:Nat) (hs:(blk w b).size=9):(loadS 187 (.pointer (some ⟨b,0,none⟩))).run Tryz.prog w=.ok (.agg (blk w b)) w:=
 loadS_run 9 Tryz.underlying187 rfl (by kernel_rfl) w b hs
theorem storeMd (w:World) (b s:Nat) (hs:(blk w b).size=9) (hf:frz w b=(0,0)):(storeS 187 (.pointer (some ⟨b,0,none⟩)) (.agg (nw 9 s))).run Tryz.prog w=.ok () (setBlk w b (nw 9 s)):=
 storeS_run 9 (by decide) (by kernel_rfl) w b (nw 9 s) (nw_size 9 s) (nw_one 9 s) hs hf
theorem storeAr (w:World) (b s:Nat) (hs:(blk w b).size=9) (hf:frz w b=(0,0)):(storeS 23 (.pointer (some ⟨b,0,none⟩)) (.agg (nw 9 s))).run Tryz.prog w=.ok () (setBlk w b (nw 9 s)):=
 storeS_run 9 (by decide) (by kernel_rfl) w b (nw 9 s) (nw_size 9 s) (nw_one 9 s) hs hf
def buildF (t:TypeId) (p:Array (Nat×Value)):Sem Value:=Instr.build t p
theorem buildMd_is (p:Array (Nat×Value)):Instr.build 187 p=buildF 187 p:=rfl
theorem buildAr_is (p:Array (Nat×Value)):Instr.build 23 p=buildF 23 p:=rfl
theorem buildMd0 (w:World):(buildF 187 #[]).run Tryz.prog w=.ok (.agg (nw 9 0)) w:=by
 rw [nw9_zero]
 kernel_rfl
theorem buildMd1 (a:Nat) (w:World):(buildF 187 #[(0,.agg (nw 9 a))]).run Tryz.prog w=.ok (.agg (nw 9 a)) w:=by
 kernel_rfl
theorem rd_md {tmps:Array Value} {t:Tmp} {w:World} {b x:Nat} (h:tmps.getD t undef=.pointer (some ⟨b,0,none⟩)) (hc:blk w b=nw 9 x):(readR tmps (.cell t 187)).run Tryz.prog w=.ok (.agg (nw 9 x)) w:=
 rd_cell 9 Tryz.underlying187 rfl (by kernel_rfl) h hc (nw_size 9 x)
abbrev uz6:=And.intro @loadMd_is<|And.intro @storeMd_is @buildMd_is
end
section
attribute [local go_sem ↓] uz1
attribute [local go_sem] uz2
section
attribute [local go_sem ↓] storeAr_is buildAr_is
attribute [local go_sem] storeAr frz_setBlk blk_setBlk setBlk_setBlk
def pN:Nat→Nat
 | 1=>6277101735386680763835789423207666416083908700390324961279
 | 2=>26959946667150639794667015087019630673557916260026308143510066298881
 | 3=>115792089210356248762697446949407573530086143415290314195533631308867097853951
 | 4=>39402006196394479212279040100143613805079739270465446667948293404245721771496870329047266088258938001861606973112319
 | 5=>6864797660130609714981900799081393217269435300143305409394463459185543183397656052122559640661454554977296311391480858037121987999716643812574028291115057151
 | 6=>115792089237316195423570985008687907853269984665640564039457584007908834671663
 | 7=>1332297598440044874827085558802491743757193798159
 | 8=>22721622932454352787552537995910928073340732145944992304435472941311
 | 9=>76884956397045344220809746629001649093037950200943055203735601445031516197751
 | 10=>1763593322239166354161909842446019520889512772719515192772960415288640868802149818095501499903527
 | 11=>21659270770119316173069236842332604979796116387017648600081618503821089934025961822236561982844534088440708417973331
 | 12=>8948962207650232551656602815159153422162609644098354511344597187200057010413552439917934304191956942765446530386427345937963894309923928536070534607816947
 | 13=>251
 | 14=>241
 | 15=>239
 | _=>0
theorem row1 (w:World):(buildF 23 #[(0,.int .u64 18446744073709551615),(1,.int .u64 18446744073709551614),(2,.int .u64 18446744073709551615)]).run Tryz.prog w=.ok (.agg (nw 9 (pN 1))) w:=by kernel_rfl
theorem row2 (w:World):(buildF 23 #[(0,.int .u64 1),(1,.int .u64 18446744069414584320),(2,.int .u64 18446744073709551615),(3,.int .u64 4294967295)]).run Tryz.prog w=.ok (.agg (nw 9 (pN 2))) w:=by kernel_rfl
theorem row3 (w:World):(buildF 23 #[(0,.int .u64 18446744073709551615),(1,.int .u64 4294967295),(2,.int .u64 0),(3,.int .u64 18446744069414584321)]).run Tryz.prog w=.ok (.agg (nw 9 (pN 3))) w:=by kernel_rfl
theorem row4 (w:World):(buildF 23 #[(0,.int .u64 4294967295),(1,.int .u64 18446744069414584320),(2,.int .u64 18446744073709551614),(3,.int .u64 18446744073709551615),(4,.int .u64 18446744073709551615),(5,.int .u64 18446744073709551615)]).run Tryz.prog w=.ok (.agg (nw 9 (pN 4))) w:=by kernel_rfl
theorem row5 (w:World):(buildF 23 #[(0,.int .u64 18446744073709551615),(1,.int .u64 18446744073709551615),(2,.int .u64 18446744073709551615),(3,.int .u64 18446744073709551615),(4,.int .u64 18446744073709551615),(5,.int .u64 18446744073709551615),(6,.int .u64 18446744073709551615),(7,.int .u64 18446744073709551615),(8,.int .u64 511)]).run Tryz.prog w=.ok (.agg (nw 9 (pN 5))) w:=by kernel_rfl
theorem row6 (w:World):(buildF 23 #[(0,.int .u64 18446744069414583343),(1,.int .u64 18446744073709551615),(2,.int .u64 18446744073709551615),(3,.int .u64 18446744073709551615)]).run Tryz.prog w=.ok (.agg (nw 9 (pN 6))) w:=by kernel_rfl
theorem row7 (w:World):(buildF 23 #[(0,.int .u64 10787203111099654671),(1,.int .u64 8318247314806261677),(2,.int .u64 3915270751)]).run Tryz.prog w=.ok (.agg (nw 9 (pN 7))) w:=by kernel_rfl
theorem row8 (w:World):(buildF 23 #[(0,.int .u64 10942209932137119999),(1,.int .u64 8489803750353864535),(2,.int .u64 2757160123298754597),(3,.int .u64 3619763370)]).run Tryz.prog w=.ok (.agg (nw 9 (pN 8))) w:=by kernel_rfl
theorem row9 (w:World):(buildF 23 #[(0,.int .u64 2311270323689771895),(1,.int .u64 7943213001558335528),(2,.int .u64 4496292894210231666),(3,.int .u64 12248480212390422972)]).run Tryz.prog w=.ok (.agg (nw 9 (pN 9))) w:=by kernel_rfl
theorem row10 (w:World):(buildF 23 #[(0,.int .u64 18218206948094062119),(1,.int .u64 5733849700882443304),(2,.int .u64 17982820153128390127),(3,.int .u64 16229979505782022245),(4,.int .u64 15230689193496432567)]).run Tryz.prog w=.ok (.agg (nw 9 (pN 10))) w:=by kernel_rfl
theorem row11 (w:World):(buildF 23 #[(0,.int .u64 9747760000893709395),(1,.int .u64 12453481191562877553),(2,.int .u64 1347097566612230435),(3,.int .u64 1526563086152259252),(4,.int .u64 1107163671716839903),(5,.int .u64 10140169582434348328)]).run Tryz.prog w=.ok (.agg (nw 9 (pN 11))) w:=by kernel_rfl
theorem row12 (w:World):(buildF 23 #[(0,.int .u64 2930260431521597683),(1,.int .u64 2918894611604883077),(2,.int .u64 12595900938455318758),(3,.int .u64 9029043254863489090),(4,.int .u64 15448363540090652785),(5,.int .u64 14641358191536493070),(6,.int .u64 4599554755319692295),(7,.int .u64 12312170373589877899)]).run Tryz.prog w=.ok (.agg (nw 9 (pN 12))) w:=by kernel_rfl
theorem row13 (w:World):(buildF 23 #[(0,.int .u64 251)]).run Tryz.prog w=.ok (.agg (nw 9 (pN 13))) w:=by kernel_rfl
theorem row14 (w:World):(buildF 23 #[(0,.int .u64 241)]).run Tryz.prog w=.ok (.agg (nw 9 (pN 14))) w:=by kernel_rfl
theorem row15 (w:World):(buildF 23 #[(0,.int .u64 239)]).run Tryz.prog w=.ok (.agg (nw 9 (pN 15))) w:=by kernel_rfl
attribute [local go_sem] row1 row2 row3 row4 row5 row6 row7 row8 row9 row10 row11 row12 row13 row14 row15
theorem of_yes (i:Nat) (h1:1≤i) (h2:i≤15) (w:World):Cg 70 #[.int .i64 (i:Int)] w (.tuple #[.agg (nw 9 (pN i)),.bool true]):=by
 obtain rfl | rfl | rfl | rfl | rfl | rfl | rfl | rfl | rfl | rfl | rfl | rfl | rfl | rfl | rfl:i=1∨i=2∨i=3∨i=4∨i=5∨i=6∨i=7∨i=8∨i=9∨i=10∨i=11∨i=12∨i=13∨i=14∨i=15:=by omega
 all_goals
  go_enter Tryz.func70,Tryz.ntmps70
  go_wp2
  refine bodyPost_ret (res_two Tryz.results70 (rd_nat (x:=pN _) (by rfl) ?_) (rd_tmp (by rfl))) rfl ⟨rfl,grA⟩
  simp [go_sem]
end
end
section
def aN:Nat→Nat
 | 1=>6277101735386680763835789423207666416083908700390324961276
 | 2=>26959946667150639794667015087019630673557916260026308143510066298878
 | 3=>115792089210356248762697446949407573530086143415290314195533631308867097853948
 | 4=>39402006196394479212279040100143613805079739270465446667948293404245721771496870329047266088258938001861606973112316
 | 5=>6864797660130609714981900799081393217269435300143305409394463459185543183397656052122559640661454554977296311391480858037121987999716643812574028291115057148
 | 6=>0
 | 7=>297190522446607939568481567949428902921613329152
 | 8=>11020725272625742361946480833014344015343456918668456061589001510723
 | 9=>56698187605326110043627228396178346077120614539475214109386828188763884139993
 | 10=>524709318439392693105919717518043758943240164412117372990311331314771510648804065756354311491252
 | 11=>19048979039598244295279281525021548448223459855185222892089532512446337024935426033638342846977861914875721218402342
 | 12=>6294860557973063227666421306476379324074715770622746227136910445450301914281276098027990968407983962691151853678563877834221834027439718238065725844264138
 | 13=>248
 | 14=>0
 | 15=>117
 | _=>0
def bN:Nat→Nat
 | 1=>2455155546008943817740293915197451784769108058161191238065
 | 2=>18958286285566608000408668544493926415504680968679321075787234672564
 | 3=>41058363725152142129326129780047268409114441015993725554835256314039467401291
 | 4=>27580193559959705877849011840389048093056905856361568521428707301988689241309860865136260764883745107765439761230575
 | 5=>1093849038073734274511112390766805569936207598951683748994586394495953116150735016013708737573759623248592132296706313309438452531591012912142327488478985984
 | 6=>7
 | 7=>173245649450172891208247283053495198538671808088
 | 8=>3949606626053374030787926457695139766118442946052311411513528958987
 | 9=>17577232497321838841075697789794520262950426058923084567046852300633325438902
 | 10=>684460840191207052139729091116995410883497412720006364295713596062999867796741135919289734394278
 | 11=>717131854892629093329172042053689661426642816397448020844407951239049616491589607702456460799758882466071646850065
 | 12=>3245789008328967059274849584342077916531909009637501918328323668736179176583263496463525128488282611559800773506973771797764811498834995234341530862286627
 | 13=>26
 | 14=>13
 | 15=>8
 | _=>0
def oN:Nat→Nat
 | 1=>6277101735386680763835789423176059013767194773182842284081
 | 2=>26959946667150639794667015087019625940457807714424391721682722368061
 | 3=>115792089210356248762697446949407573529996955224135760342422259061068512044369
 | 4=>39402006196394479212279040100143613805079739270465446667946905279627659399113263569398956308152294913554433653942643
 | 5=>6864797660130609714981900799081393217269435300143305409394463459185543183397655394245057746333217197532963996371363321113864768612440380340372808892707005449
 | 6=>115792089237316195423570985008687907852837564279074904382605163141518161494337
 | 7=>1332297598440044874827085038830181364212942568457
 | 8=>22721622932454352787552537995910923612567546342330757191396560966559
 | 9=>76884956397045344220809746629001649092737531784414529538755519063063536359079
 | 10=>1763593322239166354161909842446019520889512772717686063760686124016784784845843468355685258203921
 | 11=>21659270770119316173069236842332604979796116387017648600075645274821611501358515537962695117368903252229601718723941
 | 12=>8948962207650232551656602815159153422162609644098354511344597187200057010413418528378981730643524959857451398370029280583094215613882043973354392115544169
 | 13=>223
 | 14=>211
 | 15=>229
 | _=>0
def xN:Nat→Nat
 | 1=>602046282375688656758213480587526111916698976636884684818
 | 2=>19277929113566293071110308034699488026831934219452440156649784352033
 | 3=>48439561293906451759052585252797914202762949526041747995844080717082404635286
 | 4=>26247035095799689268623156744566981891852923491109213387815615900925518854738050089022388053975719786650872476732087
 | 5=>2661740802050217063228768716723360960729859168756973147706671368418802944996427808491545080627771902352094241225065558662157113545570916814161637315895999846
 | 6=>55066263022277343669578718895168534326250603453777594175500187360389116729240
 | 7=>1089473557631435284577962539738532515920566082499
 | 8=>1428364927244201726431498207475486496993067267318520844137448783997
 | 9=>63243729749562333355292243550312970334778175571054726587095381623627144114786
 | 10=>565203972584199378547773331021708157952136817703497461781479793049434111597020229546183313458705
 | 11=>4480579927441533893329522230328287337018133311029754539518372936441756157459087304048546502931308754738349656551198
 | 12=>6792059140424575174435640431269195087843153390102521881468023012732047482579853077545647446272866794936371522410774532686582484617946013928874296844351522
 | 13=>2
 | 14=>3
 | 15=>0
 | _=>0
def yN:Nat→Nat
 | 1=>174050332293622031404857552280219410364023488927386650641
 | 2=>19926808758034470970197974370888749184205991990603949537637343198772
 | 3=>36134250956749795798585127919587881956611106672985015071877198253568414405109
 | 4=>8325710961489029985546751289520108179287853048861315594709205902480503199884419224438643760392947333078086511627871
 | 5=>3757180025770020463545507224491183603594455134769762486694567779615544477440556316691234405012945539562144444537289428522585666729196580810124344277578376784
 | 6=>32670510020758816978083085130507043184471273380659243275938904335757337482424
 | 7=>127912481829969033206777085249718746721365418785
 | 8=>9337555360448823227812410753177468631215558779020518084752618816205
 | 9=>38218615093753523893122277964030810387585405539772602581557831887485717997975
 | 10=>175146432689526447697480803229621572834859050903464782210773312572877763380340633688906597830369
 | 11=>21354446258743982691371413536748675410974765754620216137225614281636810686961198361153695003859088327367976229294869
 | 12=>6592244555240112873324748381429610341312712940326266331327445066687010545415256461097707483288650216992613090185042957716318301180159234788504307628509330
 | 13=>84
 | 14=>47
 | 15=>41
 | _=>0
end
end Go.Proofs.YtpogpconfonljaaGreat
namespace Go.Proofs.YtpogpconfonljaaGreat.EC
set_option maxRecDepth 100000
theorem run_1:jck (pN 1) (aN 1) (xN 1) (yN 1) (oN 1-1) (opp (pN 1) (xN 1) (yN 1)) 191 (xN 1) (yN 1) (1%pN 1)=true:=by decide +kernel
theorem top_1:(oN 1-1)/2 ^ 191=1:=by decide +kernel
theorem run_2:jck (pN 2) (aN 2) (xN 2) (yN 2) (oN 2-1) (opp (pN 2) (xN 2) (yN 2)) 223 (xN 2) (yN 2) (1%pN 2)=true:=by decide +kernel
theorem top_2:(oN 2-1)/2 ^ 223=1:=by decide +kernel
theorem run_3:jck (pN 3) (aN 3) (xN 3) (yN 3) (oN 3-1) (opp (pN 3) (xN 3) (yN 3)) 255 (xN 3) (yN 3) (1%pN 3)=true:=by decide +kernel
theorem top_3:(oN 3-1)/2 ^ 255=1:=by decide +kernel
theorem run_4:jck (pN 4) (aN 4) (xN 4) (yN 4) (oN 4-1) (opp (pN 4) (xN 4) (yN 4)) 383 (xN 4) (yN 4) (1%pN 4)=true:=by decide +kernel
theorem top_4:(oN 4-1)/2 ^ 383=1:=by decide +kernel
theorem run_5:jck (pN 5) (aN 5) (xN 5) (yN 5) (oN 5-1) (opp (pN 5) (xN 5) (yN 5)) 520 (xN 5) (yN 5) (1%pN 5)=true:=by decide +kernel
theorem top_5:(oN 5-1)/2 ^ 520=1:=by decide +kernel
theorem run_6:jck (pN 6) (aN 6) (xN 6) (yN 6) (oN 6-1) (opp (pN 6) (xN 6) (yN 6)) 255 (xN 6) (yN 6) (1%pN 6)=true:=by decide +kernel
theorem top_6:(oN 6-1)/2 ^ 255=1:=by decide +kernel
theorem run_7:jck (pN 7) (aN 7) (xN 7) (yN 7) (oN 7-1) (opp (pN 7) (xN 7) (yN 7)) 159 (xN 7) (yN 7) (1%pN 7)=true:=by decide +kernel
theorem top_7:(oN 7-1)/2 ^ 159=1:=by decide +kernel
theorem run_8:jck (pN 8) (aN 8) (xN 8) (yN 8) (oN 8-1) (opp (pN 8) (xN 8) (yN 8)) 223 (xN 8) (yN 8) (1%pN 8)=true:=by decide +kernel
theorem top_8:(oN 8-1)/2 ^ 223=1:=by decide +kernel
theorem run_9:jck (pN 9) (aN 9) (xN 9) (yN 9) (oN 9-1) (opp (pN 9) (xN 9) (yN 9)) 255 (xN 9) (yN 9) (1%pN 9)=true:=by decide +kernel
theorem top_9:(oN 9-1)/2 ^ 255=1:=by decide +kernel
theorem run_10:jck (pN 10) (aN 10) (xN 10) (yN 10) (oN 10-1) (opp (pN 10) (xN 10) (yN 10)) 319 (xN 10) (yN 10) (1%pN 10)=true:=by decide +kernel
theorem top_10:(oN 10-1)/2 ^ 319=1:=by decide +kernel
theorem run_11:jck (pN 11) (aN 11) (xN 11) (yN 11) (oN 11-1) (opp (pN 11) (xN 11) (yN 11)) 383 (xN 11) (yN 11) (1%pN 11)=true:=by decide +kernel
theorem top_11:(oN 11-1)/2 ^ 383=1:=by decide +kernel
theorem run_12:jck (pN 12) (aN 12) (xN 12) (yN 12) (oN 12-1) (opp (pN 12) (xN 12) (yN 12)) 511 (xN 12) (yN 12) (1%pN 12)=true:=by decide +kernel
theorem top_12:(oN 12-1)/2 ^ 511=1:=by decide +kernel
theorem run_13:jck (pN 13) (aN 13) (xN 13) (yN 13) (oN 13-1) (opp (pN 13) (xN 13) (yN 13)) 7 (xN 13) (yN 13) (1%pN 13)=true:=by decide +kernel
theorem top_13:(oN 13-1)/2 ^ 7=1:=by decide +kernel
theorem run_14:jck (pN 14) (aN 14) (xN 14) (yN 14) (oN 14-1) (opp (pN 14) (xN 14) (yN 14)) 7 (xN 14) (yN 14) (1%pN 14)=true:=by decide +kernel
theorem top_14:(oN 14-1)/2 ^ 7=1:=by decide +kernel
theorem run_15:jck (pN 15) (aN 15) (xN 15) (yN 15) (oN 15-1) (opp (pN 15) (xN 15) (yN 15)) 7 (xN 15) (yN 15) (1%pN 15)=true:=by decide +kernel
theorem top_15:(oN 15-1)/2 ^ 7=1:=by decide +kernel
end Go.Proofs.YtpogpconfonljaaGreat.EC
namespace Go.Proofs.YtpogpconfonljaaGreat
open Go.RowKit
set_option maxRecDepth 100000
set_option maxHeartbeats 8000000
section
set_option maxRecDepth 100000
def AllP:List (Nat×Nat×Nat)→Prop
 | []=>True
 | r :: l=>Prm r.1∧AllP l
theorem AllP.at:∀ {l:List (Nat×Nat×Nat)},AllP l→∀ r∈l,Prm r.1
 | [],_,_,h=>by cases h
 | a :: _,h,r,hr=>by
  rcases List.mem_cons.1 hr with rfl | hr
  ·exact h.1
  ·exact AllP.at h.2 r hr
theorem pS {n:Nat} (k:Nat) (h2:2≤n:=by decide +kernel) (hk:n<(k+2)*(k+2):=by decide +kernel) (h:noDiv n k=true:=by decide +kernel):Prm n:=prm_small k h2 hk h
theorem pO {N:Nat} (f:Nat) (l:List (Nat×Nat×Nat)) (hq:AllP l) (hf:N<2 ^ f:=by decide +kernel) (N2:2≤N:=by decide +kernel) (h:rowsOk f N 1 l=true:=by decide +kernel):Prm N:=prm_of l hf N2 h hq.at
theorem zq0:Prm 11:=pS 2
theorem zq1:Prm 83:=pS 8
theorem zq2:Prm 750487:=pO 20 [(11,0,2),(83,0,2)] ⟨zq0,zq1,trivial⟩
theorem zq3:Prm 2273:=pS 46
theorem zq4:Prm 4547:=pO 13 [(2273,0,2)] ⟨zq3,trivial⟩
theorem zq5:Prm 27283:=pO 15 [(4547,0,2)] ⟨zq4,trivial⟩
theorem zq6:Prm 436529:=pO 19 [(27283,0,2)] ⟨zq5,trivial⟩
theorem zq7:Prm 23572567:=pO 25 [(436529,0,2)] ⟨zq6,trivial⟩
theorem zq8:Prm 136095069548351808925828417:=pO 87 [(750487,0,2),(23572567,0,2)] ⟨zq2,zq7,trivial⟩
theorem zq9:Prm 1332297598440044874827085558802491743757193798159:=pO 160 [(136095069548351808925828417,0,2)] ⟨zq8,trivial⟩
theorem zq10:Prm 7:=pS 1
theorem zq11:Prm 137:=pS 10
theorem zq12:Prm 311:=pS 16
theorem zq13:Prm 1942793987:=pO 31 [(7,0,2),(137,0,2),(311,0,2)] ⟨zq10,zq11,zq12,trivial⟩
theorem zq14:Prm 273564821309471:=pO 48 [(1942793987,0,2)] ⟨zq13,trivial⟩
theorem zq15:Prm 18114915337470550679:=pO 64 [(273564821309471,0,2)] ⟨zq14,trivial⟩
theorem zq16:Prm 1685556642320959799579593:=pO 81 [(18114915337470550679,0,2)] ⟨zq15,trivial⟩
theorem zq17:Prm 13036179062997789943375385313119191:=pO 114 [(1685556642320959799579593,0,2)] ⟨zq16,trivial⟩
theorem zq18:Prm 22721622932454352787552537995910928073340732145944992304435472941311:=pO 224 [(13036179062997789943375385313119191,0,2)] ⟨zq17,trivial⟩
theorem zq19:Prm 1109:=pS 32
theorem zq20:Prm 13309:=pO 14 [(1109,0,2)] ⟨zq19,trivial⟩
theorem zq21:Prm 10434257:=pO 24 [(13309,0,2)] ⟨zq20,trivial⟩
theorem zq22:Prm 187816627:=pO 28 [(10434257,0,2)] ⟨zq21,trivial⟩
theorem zq23:Prm 3:=pS 0
theorem zq24:Prm 5:=pS 1
theorem zq25:Prm 13:=pS 2
theorem zq26:Prm 2851:=pS 52
theorem zq27:Prm 151499460061:=pO 38 [(3,1,2),(5,0,2),(13,0,2),(2851,0,2)] ⟨zq23,zq24,zq25,zq26,trivial⟩
theorem zq28:Prm 49712609355733181957277501974736893:=pO 116 [(187816627,0,2),(151499460061,0,2)] ⟨zq22,zq27,trivial⟩
theorem zq29:Prm 3059213862715144055733503214373292934438943635608167530247:=pO 191 [(49712609355733181957277501974736893,0,2)] ⟨zq28,trivial⟩
theorem zq30:Prm 76884956397045344220809746629001649093037950200943055203735601445031516197751:=pO 256 [(3059213862715144055733503214373292934438943635608167530247,0,2)] ⟨zq29,trivial⟩
theorem zq31:Prm 2:=pS 0
theorem zq32:Prm 10513:=pO 14 [(2,3,5),(3,1,2)] ⟨zq31,zq23,trivial⟩
theorem zq33:Prm 546677:=pO 20 [(10513,0,2)] ⟨zq32,trivial⟩
theorem zq34:Prm 161422784561:=pO 38 [(546677,0,2)] ⟨zq33,trivial⟩
theorem zq35:Prm 2905610122099:=pO 42 [(161422784561,0,2)] ⟨zq34,trivial⟩
theorem zq36:Prm 1197111370304789:=pO 51 [(2905610122099,0,2)] ⟨zq35,trivial⟩
theorem zq37:Prm 14365336443657469:=pO 54 [(1197111370304789,0,2)] ⟨zq36,trivial⟩
theorem zq38:Prm 3943:=pS 61
theorem zq39:Prm 151:=pS 11
theorem zq40:Prm 6947:=pO 13 [(151,0,2)] ⟨zq39,trivial⟩
theorem zq41:Prm 547948229735387969:=pO 59 [(2,5,3),(3943,0,2),(6947,0,2)] ⟨zq31,zq38,zq40,trivial⟩
theorem zq42:Prm 2307908307480288228542246803936276549862379769663891118114524423:=pO 211 [(14365336443657469,0,2),(547948229735387969,0,2)] ⟨zq37,zq41,trivial⟩
theorem zq43:Prm 1763593322239166354161909842446019520889512772719515192772960415288640868802149818095501499903527:=pO 320 [(2307908307480288228542246803936276549862379769663891118114524423,0,2)] ⟨zq42,trivial⟩
theorem zq44:Prm 1627:=pS 39
theorem zq45:Prm 2657:=pS 50
theorem zq46:Prm 67:=pS 7
theorem zq47:Prm 4423:=pO 13 [(67,0,2)] ⟨zq46,trivial⟩
theorem zq48:Prm 41201:=pO 16 [(2,3,3),(5,1,3)] ⟨zq31,zq24,trivial⟩
theorem zq49:Prm 101:=pS 9
theorem zq50:Prm 96557:=pO 17 [(2,1,2),(101,0,2)] ⟨zq31,zq49,trivial⟩
theorem zq51:Prm 255515944373312847190720520512484175977:=pO 128 [(1627,0,2),(2657,0,2),(4423,0,2),(41201,0,2),(96557,0,2)] ⟨zq44,zq45,zq47,zq48,zq50,trivial⟩
theorem zq52:Prm 205115282021455665897114700593932402728804164701536103180137503955397371:=pO 237 [(255515944373312847190720520512484175977,0,2)] ⟨zq51,trivial⟩
theorem zq53:Prm 115792089237316195423570985008687907853269984665640564039457584007908834671663:=pO 256 [(205115282021455665897114700593932402728804164701536103180137503955397371,0,2)] ⟨zq52,trivial⟩
theorem zq54:Prm 163:=pS 11
theorem zq55:Prm 149309:=pO 18 [(2,1,2),(163,0,2)] ⟨zq31,zq54,trivial⟩
theorem zq56:Prm 61:=pS 6
theorem zq57:Prm 379787:=pO 19 [(11,0,2),(61,0,2)] ⟨zq0,zq56,trivial⟩
theorem zq58:Prm 11393611:=pO 24 [(379787,0,2)] ⟨zq57,trivial⟩
theorem zq59:Prm 43:=pS 5
theorem zq60:Prm 2477:=pS 48
theorem zq61:Prm 54251:=pO 16 [(2,0,2),(5,2,2)] ⟨zq31,zq24,trivial⟩
theorem zq62:Prm 108341181769254293:=pO 57 [(43,0,2),(2477,0,2),(54251,0,2)] ⟨zq59,zq60,zq61,trivial⟩
theorem zq63:Prm 6277101735386680763835789423207666416083908700390324961279:=pO 192 [(149309,0,2),(11393611,0,2),(108341181769254293,0,2)] ⟨zq55,zq58,zq62,trivial⟩
theorem zq64:Prm 23:=pS 3
theorem zq65:Prm 107:=pS 9
theorem zq66:Prm 204061199:=pO 28 [(11,0,3),(23,0,2),(107,0,2)] ⟨zq0,zq64,zq65,trivial⟩
theorem zq67:Prm 34282281433:=pO 35 [(204061199,0,2)] ⟨zq66,trivial⟩
theorem zq68:Prm 53:=pS 6
theorem zq69:Prm 173:=pS 12
theorem zq70:Prm 197:=pS 13
theorem zq71:Prm 66417393611:=pO 36 [(53,0,2),(173,0,2),(197,0,2)] ⟨zq68,zq69,zq70,trivial⟩
theorem zq72:Prm 11290956913871:=pO 44 [(66417393611,0,2)] ⟨zq71,trivial⟩
theorem zq73:Prm 774023187263532362759620327192479577272145303:=pO 150 [(34282281433,0,2),(11290956913871,0,2)] ⟨zq67,zq72,trivial⟩
theorem zq74:Prm 835945042244614951780389953367877943453916927241:=pO 160 [(774023187263532362759620327192479577272145303,0,2)] ⟨zq73,trivial⟩
theorem zq75:Prm 115792089210356248762697446949407573530086143415290314195533631308867097853951:=pO 256 [(835945042244614951780389953367877943453916927241,0,2)] ⟨zq74,trivial⟩
theorem zq76:Prm 233:=pS 14
theorem zq77:Prm 8389:=pO 14 [(233,0,2)] ⟨zq76,trivial⟩
theorem zq78:Prm 38557:=pO 16 [(2,1,2),(3,3,2)] ⟨zq31,zq23,trivial⟩
theorem zq79:Prm 3253:=pS 56
theorem zq80:Prm 312289:=pO 19 [(3253,0,2)] ⟨zq79,trivial⟩
theorem zq81:Prm 59:=pS 6
theorem zq82:Prm 599:=pS 23
theorem zq83:Prm 513928823:=pO 29 [(59,0,2),(599,0,2)] ⟨zq81,zq82,trivial⟩
theorem zq84:Prm 53448597593:=pO 36 [(513928823,0,2)] ⟨zq83,trivial⟩
theorem zq85:Prm 1357291859799823621:=pO 61 [(53448597593,0,2)] ⟨zq84,trivial⟩
theorem zq86:Prm 181:=pS 12
theorem zq87:Prm 19:=pS 3
theorem zq88:Prm 211:=pS 13
theorem zq89:Prm 105957871:=pO 27 [(5,0,2),(19,0,2),(211,0,2)] ⟨zq24,zq87,zq88,trivial⟩
theorem zq90:Prm 529709925838459440593:=pO 69 [(7,0,2),(181,0,2),(105957871,0,2)] ⟨zq10,zq86,zq89,trivial⟩
theorem zq91:Prm 19173790298027098165721053155794528970226934547887232785722672956982046098136719667167519737147526097:=pO 334 [(8389,0,2),(38557,0,2),(312289,0,2),(1357291859799823621,0,2),(529709925838459440593,0,2)] ⟨zq77,zq78,zq80,zq85,zq90,trivial⟩
theorem zq92:Prm 39402006196394479212279040100143613805079739270465446667948293404245721771496870329047266088258938001861606973112319:=pO 384 [(19173790298027098165721053155794528970226934547887232785722672956982046098136719667167519737147526097,0,2)] ⟨zq91,trivial⟩
theorem zq93:Prm 17:=pS 3
theorem zq94:Prm 31:=pS 4
theorem zq95:Prm 41:=pS 5
theorem zq96:Prm 131:=pS 10
theorem zq97:Prm 157:=pS 11
theorem zq98:Prm 521:=pS 21
theorem zq99:Prm 1613:=pS 39
theorem zq100:Prm 2731:=pS 51
theorem zq101:Prm 8191:=pO 13 [(3,1,7),(5,0,3),(7,0,3)] ⟨zq23,zq24,zq10,trivial⟩
theorem zq102:Prm 42641:=pO 16 [(2,3,3),(13,0,2)] ⟨zq31,zq25,trivial⟩
theorem zq103:Prm 51481:=pO 16 [(2,2,7),(3,1,3),(5,0,2)] ⟨zq31,zq23,zq24,trivial⟩
theorem zq104:Prm 257:=pS 15
theorem zq105:Prm 61681:=pO 16 [(257,0,3)] ⟨zq104,trivial⟩
theorem zq106:Prm 1051:=pS 31
theorem zq107:Prm 409891:=pO 19 [(1051,0,3)] ⟨zq106,trivial⟩
theorem zq108:Prm 858001:=pO 20 [(2,3,17),(5,2,3)] ⟨zq31,zq24,trivial⟩
theorem zq109:Prm 5746001:=pO 23 [(5,2,5),(13,1,3)] ⟨zq24,zq25,trivial⟩
theorem zq110:Prm 37:=pS 5
theorem zq111:Prm 7623851:=pO 23 [(5,1,3),(13,0,2),(37,0,3)] ⟨zq24,zq25,zq110,trivial⟩
theorem zq112:Prm 34110701:=pO 26 [(5,1,5),(13,0,2),(19,0,3)] ⟨zq24,zq25,zq87,trivial⟩
theorem zq113:Prm 1237:=pS 34
theorem zq114:Prm 49481:=pO 16 [(1237,0,2)] ⟨zq113,trivial⟩
theorem zq115:Prm 308761441:=pO 29 [(49481,0,3)] ⟨zq114,trivial⟩
theorem zq116:Prm 6864797660130609714981900799081393217269435300143305409394463459185543183397656052122559640661454554977296311391480858037121987999716643812574028291115057151:=pO 521 [(17,0,3),(31,0,3),(41,0,3),(53,0,3),(131,0,3),(157,0,3),(521,0,2),(1613,0,3),(2731,0,3),(8191,0,3),(42641,0,3),(51481,0,3),(61681,0,3),(409891,0,3),(858001,0,3),(5746001,0,3),(7623851,0,3),(34110701,0,3),(308761441,0,3)] ⟨zq93,zq94,zq95,zq68,zq96,zq97,zq98,zq99,zq100,zq101,zq102,zq103,zq105,zq107,zq108,zq109,zq111,zq112,zq115,trivial⟩
theorem zq117:Prm 2543:=pS 49
theorem zq118:Prm 71:=pS 7
theorem zq119:Prm 123606883:=pO 27 [(7,0,2),(41,0,2),(71,0,2)] ⟨zq10,zq95,zq118,trivial⟩
theorem zq120:Prm 13843970897:=pO 34 [(123606883,0,2)] ⟨zq119,trivial⟩
theorem zq121:Prm 8076987940436711:=pO 53 [(13843970897,0,2)] ⟨zq120,trivial⟩
theorem zq122:Prm 726928914639303991:=pO 60 [(8076987940436711,0,2)] ⟨zq121,trivial⟩
theorem zq123:Prm 12811352796235023217778801482819:=pO 104 [(726928914639303991,0,2)] ⟨zq122,trivial⟩
theorem zq124:Prm 13857381403312519376221497559214358876512960238914501360589056738895920081:=pO 243 [(13,0,2),(43,0,2),(2543,0,2),(12811352796235023217778801482819,0,2)] ⟨zq25,zq59,zq117,zq123,trivial⟩
theorem zq125:Prm 21659270770119316173069236842332604979796116387017648600081618503821089934025961822236561982844534088440708417973331:=pO 384 [(13857381403312519376221497559214358876512960238914501360589056738895920081,0,2)] ⟨zq124,trivial⟩
theorem zq126:Prm 1429:=pS 36
theorem zq127:Prm 5717:=pO 13 [(1429,0,2)] ⟨zq126,trivial⟩
theorem zq128:Prm 239:=pS 14
theorem zq129:Prm 24379:=pO 15 [(239,0,2)] ⟨zq128,trivial⟩
theorem zq130:Prm 3571:=pS 58
theorem zq131:Prm 1064159:=pO 21 [(3571,0,2)] ⟨zq130,trivial⟩
theorem zq132:Prm 2128319:=pO 22 [(1064159,0,2)] ⟨zq131,trivial⟩
theorem zq133:Prm 4256639:=pO 23 [(2128319,0,2)] ⟨zq132,trivial⟩
theorem zq134:Prm 1913:=pS 42
theorem zq135:Prm 15511:=pO 14 [(3,0,2),(5,0,2),(11,0,2)] ⟨zq23,zq24,zq0,trivial⟩
theorem zq136:Prm 2234757903503:=pO 42 [(1913,0,2),(15511,0,2)] ⟨zq134,zq135,trivial⟩
theorem zq137:Prm 57034811399347976721726973543287819857845741391551:=pO 166 [(5717,0,2),(24379,0,2),(4256639,0,2),(2234757903503,0,2)] ⟨zq127,zq129,zq133,zq136,trivial⟩
theorem zq138:Prm 297968944203544716575901889872036237935261750341463572996351910423:=pO 218 [(57034811399347976721726973543287819857845741391551,0,2)] ⟨zq137,trivial⟩
theorem zq139:Prm 14435454750020088047685444818571282397270727096595623715684950293729763357371155607979:=pO 283 [(297968944203544716575901889872036237935261750341463572996351910423,0,2)] ⟨zq138,trivial⟩
theorem zq140:Prm 8948962207650232551656602815159153422162609644098354511344597187200057010413552439917934304191956942765446530386427345937963894309923928536070534607816947:=pO 512 [(14435454750020088047685444818571282397270727096595623715684950293729763357371155607979,0,2)] ⟨zq139,trivial⟩
theorem zq141:Prm 47:=pS 5
theorem zq142:Prm 373:=pS 18
theorem zq143:Prm 67280421310721:=pO 46 [(2,7,3),(5,0,3),(47,0,3),(373,0,3)] ⟨zq31,zq24,zq141,zq142,trivial⟩
theorem zq144:Prm 26959946667150639794667015087019630673557916260026308143510066298881:=pO 224 [(2,95,11),(67280421310721,0,2)] ⟨zq31,zq143,trivial⟩
theorem zq145:Prm 251:=pS 15
theorem zq146:Prm 241:=pS 15
theorem prm_pN (i:Nat) (h1:1≤i) (h2:i≤15):Prm (pN i):=by
 obtain rfl | rfl | rfl | rfl | rfl | rfl | rfl | rfl | rfl | rfl | rfl | rfl | rfl | rfl | rfl:i=1∨i=2∨i=3∨i=4∨i=5∨i=6∨i=7∨i=8∨i=9∨i=10∨i=11∨i=12∨i=13∨i=14∨i=15:=by omega
 ·exact zq63
 ·exact zq144
 ·exact zq75
 ·exact zq92
 ·exact zq116
 ·exact zq53
 ·exact zq9
 ·exact zq18
 ·exact zq30
 ·exact zq43
 ·exact zq125
 ·exact zq140
 ·exact zq145
 ·exact zq146
 ·exact zq128
end
end Go.Proofs.YtpogpconfonljaaGreat