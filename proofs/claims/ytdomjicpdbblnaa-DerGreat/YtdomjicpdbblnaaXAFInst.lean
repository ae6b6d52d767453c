import Derived.Laws.IdiomCopy
import Derived.Test.YtdomjicpdbblnaaXASmA
import Derived.Test.YtdomjicpdbblnaaXAMixG
namespace Go.Proofs.Ytdomjicpdbblnaa
open Go.RowKit Go.Proofs.Try
set_option maxRecDepth 100000
set_option maxHeartbeats 8000000
section
def dv(D k u:Nat):Array Value:=nw 9 D ++ #[.int .i64 k,.int .i64 u]
theorem dv_size(D k u:Nat):(dv D k u).size=11:=by simp[dv,nw_size]
theorem dv_get(D k u i:Nat)(h:i<9):(dv D k u)[i]? = some (.int .u64 ((wd D i:Nat):Int)):=by
 grind [dv,nw_size,nw_get]
theorem dv_9(D k u:Nat):(dv D k u)[9]? = some (.int .i64 k):=by
 grind [dv,nw_size]
theorem dv_10(D k u:Nat):(dv D k u)[10]? = some (.int .i64 u):=by
 grind [dv,nw_size]
theorem dv_e9(D k u:Nat)(h:9<(dv D k u).size):(dv D k u)[9]=.int .i64 k:=by
 grind [dv_9]
theorem dv_e10(D k u:Nat)(h:10<(dv D k u).size):(dv D k u)[10]=.int .i64 u:=by
 grind [dv_10]
theorem dv_elem(D k u i:Nat)(h:i<(dv D k u).size)(hi:i<9):(dv D k u)[i]=.int .u64 ((wd D i:Nat):Int):=by
 have:=dv_get D k u i hi
 grind
theorem fold11 : #[Value.int .u64 0,Value.int .u64 0,Value.int .u64 0,Value.int .u64 0,Value.int .u64 0,Value.int .u64 0,Value.int .u64 0,Value.int .u64 0,Value.int .u64 0,Value.int .i64 0,Value.int .i64 0]=dv 0 0 0:=by
 unfold dv;rw[nw9_zero]
 rfl
theorem nw19_zero:nw 19 0 =#[Value.int .u64 0,Value.int .u64 0,Value.int .u64 0,Value.int .u64 0,Value.int .u64 0,Value.int .u64 0,Value.int .u64 0,Value.int .u64 0,Value.int .u64 0,Value.int .u64 0,Value.int .u64 0,Value.int .u64 0,Value.int .u64 0,Value.int .u64 0,Value.int .u64 0,Value.int .u64 0,Value.int .u64 0,Value.int .u64 0,Value.int .u64 0]:=by rw[nw_zero];rfl
theorem fold19 : #[Value.int .u64 0,Value.int .u64 0,Value.int .u64 0,Value.int .u64 0,Value.int .u64 0,Value.int .u64 0,Value.int .u64 0,Value.int .u64 0,Value.int .u64 0,Value.int .u64 0,Value.int .u64 0,Value.int .u64 0,Value.int .u64 0,Value.int .u64 0,Value.int .u64 0,Value.int .u64 0,Value.int .u64 0,Value.int .u64 0,Value.int .u64 0]=nw 19 0:=nw19_zero.symm
attribute [local go_sem] nw_size nw_elem
theorem setCell_in(w:World)(b i:Nat)(d:Array Value)(v:Value)(h:0<(blk w b).size):(setBlk w b d).setCell ⟨b,i,none⟩ v=setBlk w b (d.setIfInBounds i v):=by
 rw[setCell_setBlk,blk_setBlk w b d h,setBlk_setBlk]
theorem cell_in(w:World)(b i:Nat)(d:Array Value)(h:0<(blk w b).size):(setBlk w b d).cell? ⟨b,i,none⟩=d[i]?:=by
 rw[cell_blk,blk_setBlk w b d h]
theorem frozen_frz(w:World)(b i:Nat)(h:frz w b=(0,0)):w.frozen? ⟨b,i,none⟩=false:=by
 unfold frz at h;unfold World.frozen?
 split <;> simp_all
theorem frozen_in(w:World)(b i:Nat)(d:Array Value)(h:frz w b=(0,0)):(setBlk w b d).frozen? ⟨b,i,none⟩=false:=
 frozen_frz _ _ _ (by rw[frz_setBlk];exact h)
theorem blk_other(w:World)(b c:Nat)(d:Array Value)(h:¬b=c):blk (setBlk w b d) c=blk w c:=by
 refine blk_of _ _ _ ?_;simp[setBlk,Array.getElem?_modify,h]
def cpA(d s:Array Value)(k:Nat):Array Value:=setL d 0 (s.toList.take k)
def Ones(c:Array Value):Prop:=c.all (·.oneCell')=true
theorem ones_nw(n a:Nat):Ones (nw n a):=nw_one n a
theorem cpA_nw(N N' x y k:Nat)(h:k≤N')(h2:k≤N):cpA (nw N x) (nw N' y) k=nw N (x/pw k*pw k+y%pw k):=by
 apply Array.ext_getElem?
 intro j;have f:y%pw k<pw k:=Nat.mod_lt _ (pw_pos k);unfold cpA;rw[setL_get]
 have b:((nw N' y).toList.take k).length=k:=by rw[List.length_take];simp[nw_size];omega
 rw[b,nw_size]
 by_cases hj:j<N
 ·rw[nw_get N (x/pw k*pw k+y%pw k) j hj]
  by_cases hk:j<k
  ·rw[if_pos ⟨by omega,by omega,hj⟩,Nat.sub_zero,List.getElem?_take_of_lt hk]
   have e:(nw N' y).toList[j]? = some (Value.int .u64 ((wd y j:Nat):Int)):=by
    have:=nw_get N' y j (by omega)
    simpa using this
   rw[e];refine congrArg some (congrArg (Value.int .u64) (congrArg Nat.cast ?_));obtain⟨d,rfl⟩:∃d,k=j+1+d:=⟨k-(j+1),by omega⟩;unfold wd;rw[pw_add,pow_succ64]
   have i:x/(pw j*18446744073709551616*pw d)*(pw j*18446744073709551616*pw d)=x/(pw j*18446744073709551616*pw d)*pw d*18446744073709551616*pw j:=by grind
   rw[i,Nat.add_comm,Nat.add_mul_div_right _ _ (pw_pos j),Nat.add_mul_mod_self_right,Nat.mul_assoc (pw j),Nat.mod_mul_right_div_self,Nat.mod_mul_right_mod]
  ·rw[if_neg (by omega),nw_get N x j hj];refine congrArg some (congrArg (Value.int .u64) (congrArg Nat.cast ?_));obtain⟨d,rfl⟩:∃d,j=k+d:=⟨j-k,by omega⟩;unfold wd;rw[pw_add,←Nat.div_div_eq_div_mul,←Nat.div_div_eq_div_mul,Nat.add_comm,Nat.add_mul_div_right _ _ (pw_pos k),Nat.div_eq_of_lt f,Nat.zero_add]
 ·rw[if_neg (by omega),Array.getElem?_eq_none (by rw[nw_size];omega),Array.getElem?_eq_none (by rw[nw_size];omega)]
theorem rd_cell{P:Program}{d:TypeDesc}{ty:TypeId}(n:Nat)(hu:P.underlying ty=some d)(hd:d.isRow=true)(hi:(P.info? ty).map (·.size)=some n){tmps:Array Value}{t:Tmp}{w:World}{b:Nat}{c:Array Value}(h:tmps.getD t undef=.pointer (some ⟨b,0,none⟩))(hc:blk w b=c)(hs:c.size=n):(readR tmps (.cell t ty)).run P w=.ok (.agg c) w:=by
 subst hc
 show (do loadVar ty (←asAddr (tmps.getD t undef))).run P w=_
 rw[h];simp only[asAddr,Sem.run_bind,Sem.run_pure,Result.andThen_ok,load_blk n hu hd hi w b hs]
abbrev RdC(T:Nat)(c:Array Value):Prop:=∀{tmps:Array Value} {t:Tmp} {w:World} {b:Nat},tmps.getD t undef=.pointer (some ⟨b,0,none⟩)→blk w b=c→(readR tmps (.cell t T)).run prog w=.ok (.agg c) w
theorem rdC{T:Nat}{c:Array Value}(n:Nat)(hs:c.size=n)(h:rowT prog T n=true:=by kernel_rfl):RdC T c:=fun b f=>by
 obtain⟨d,i,j,l⟩:=rowT.out h;exact rd_cell n i j l b f hs
theorem rd_nat{x:Nat}:RdC 25 (nw 9 x):=rdC 9 (nw_size 9 x)
abbrev uz3:=And.intro @dv_size<|And.intro @dv_9<|And.intro @dv_10<|And.intro @dv_e9<|And.intro @dv_e10<|And.intro @dv_elem<|And.intro @fold11<|And.intro @fold19<|And.intro @setCell_in<|And.intro @cell_in<|And.intro @frozen_in<|And.intro @frz_setBlk<|And.intro @blk_setBlk<|And.intro @setBlk_setBlk @cpA_nw
end
section
def buildF(t:TypeId)(p:Array (Nat×Value)):Sem Value:=Instr.build t p
end
end Go.Proofs.Ytdomjicpdbblnaa