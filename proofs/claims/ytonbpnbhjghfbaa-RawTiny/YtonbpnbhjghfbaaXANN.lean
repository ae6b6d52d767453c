import Derived.Laws.IdiomCopy
import Derived.Test.YtonbpnbhjghfbaaXAAdd
import Derived.Test.YtonbpnbhjghfbaaXAMixG
namespace Go.Proofs.Ytonbpnbhjghfbaa
open Go.RowKit Go.Proofs.Try
set_option maxRecDepth 100000
set_option maxHeartbeats 8000000
section
def dv(D k u:Nat):Array Value:=nw 9 D ++ #[.int .i64 k,.int .i64 u]
theorem dv_size(D k u:Nat):(dv D k u).size=11:=by simp[dv,nw_size]
theorem dv_get(D k u i:Nat)(h:i<9):(dv D k u)[i]? = some (.int .u64 ((wd D i:Nat):Int)):=by
 grind [dv,nw_size,nw_get]
theorem dv_9(D k u:Nat):(dv D k u)[9]? = some (.int .i64 k):=by
 grind [dv,nw_size]
theorem dv_10(D k u:Nat):(dv D k u)[10]? = some (.int .i64 u):=by
 grind [dv,nw_size]
theorem dv_e9(D k u:Nat)(h:9<(dv D k u).size):(dv D k u)[9]=.int .i64 k:=by
 grind [dv_9]
theorem dv_e10(D k u:Nat)(h:10<(dv D k u).size):(dv D k u)[10]=.int .i64 u:=by
 grind [dv_10]
theorem dv_elem(D k u i:Nat)(h:i<(dv D k u).size)(hi:i<9):(dv D k u)[i]=.int .u64 ((wd D i:Nat):Int):=by
 have:=dv_get D k u i hi
 grind
theorem fold11 : #[Value.int .u64 0,Value.int .u64 0,Value.int .u64 0,Value.int .u64 0,Value.int .u64 0,Value.int .u64 0,Value.int .u64 0,Value.int .u64 0,Value.int .u64 0,Value.int .i64 0,Value.int .i64 0]=dv 0 0 0:=by
 unfold dv;rw[nw9_zero]
 rfl
theorem nw19_zero:nw 19 0 =#[Value.int .u64 0,Value.int .u64 0,Value.int .u64 0,Value.int .u64 0,Value.int .u64 0,Value.int .u64 0,Value.int .u64 0,Value.int .u64 0,Value.int .u64 0,Value.int .u64 0,Value.int .u64 0,Value.int .u64 0,Value.int .u64 0,Value.int .u64 0,Value.int .u64 0,Value.int .u64 0,Value.int .u64 0,Value.int .u64 0,Value.int .u64 0]:=by rw[nw_zero];rfl
theorem fold19 : #[Value.int .u64 0,Value.int .u64 0,Value.int .u64 0,Value.int .u64 0,Value.int .u64 0,Value.int .u64 0,Value.int .u64 0,Value.int .u64 0,Value.int .u64 0,Value.int .u64 0,Value.int .u64 0,Value.int .u64 0,Value.int .u64 0,Value.int .u64 0,Value.int .u64 0,Value.int .u64 0,Value.int .u64 0,Value.int .u64 0,Value.int .u64 0]=nw 19 0:=nw19_zero.symm
attribute [local go_sem] nw_size nw_elem
theorem setCell_in(w:World)(b i:Nat)(d:Array Value)(v:Value)(h:0<(blk w b).size):(setBlk w b d).setCell ⟨b,i,none⟩ v=setBlk w b (d.setIfInBounds i v):=by
 rw[setCell_setBlk,blk_setBlk w b d h,setBlk_setBlk]
theorem cell_in(w:World)(b i:Nat)(d:Array Value)(h:0<(blk w b).size):(setBlk w b d).cell? ⟨b,i,none⟩=d[i]?:=by
 rw[cell_blk,blk_setBlk w b d h]
theorem frozen_frz(w:World)(b i:Nat)(h:frz w b=(0,0)):w.frozen? ⟨b,i,none⟩=false:=by
 unfold frz at h;unfold World.frozen?
 split <;> simp_all
theorem frozen_in(w:World)(b i:Nat)(d:Array Value)(h:frz w b=(0,0)):(setBlk w b d).frozen? ⟨b,i,none⟩=false:=
 frozen_frz _ _ _ (by rw[frz_setBlk];exact h)
theorem blk_other(w:World)(b c:Nat)(d:Array Value)(h:¬b=c):blk (setBlk w b d) c=blk w c:=by
 refine blk_of _ _ _ ?_;simp[setBlk,Array.getElem?_modify,h]
theorem setBlk_self(w:World)(b:Nat)(d:Array Value)(h:blk w b=d):setBlk w b d=w:=by
 subst h;refine ext_world ?_ rfl rfl rfl rfl
 apply Array.ext_getElem?
 intro k;simp only[setBlk,Array.getElem?_modify]
 by_cases hk:b=k
 ·subst hk
  cases hw:w.heap[b]? with
  | none=>simp
  | some o=>cases o <;> simp[blk,hw]
 ·simp[hk]
def cpA(d s:Array Value)(k:Nat):Array Value:=setL d 0 (s.toList.take k)
def copyS(ty:TypeId)(d s:Value):Sem Value:=Builtin.copy_ #[102,102] ty #[d,s]
theorem copy_is(ty:TypeId)(d s:Value):Builtin.copy_ #[102,102] ty #[d,s]=copyS ty d s:=rfl
def Ones(c:Array Value):Prop:=c.all (·.oneCell')=true
theorem ones_nw(n a:Nat):Ones (nw n a):=nw_one n a
theorem copy_run(ty:TypeId)(w:World)(b a n m p q:Nat)(hb:min m n≤(blk w b).size)(ha:min m n≤(blk w a).size)(h0:0<(blk w b).size)(hf:frz w b=(0,0))(h1:Ones (blk w a)):
 (copyS ty (.slice (some ⟨b,0,none⟩) n p) (.slice (some ⟨a,0,none⟩) m q)).run prog w=.ok (goInt ((min m n:Nat):Int)) (setBlk w b (cpA (blk w b) (blk w a) (min m n))):=by
 unfold copyS cpA;unfold Ones at h1
 have i:((blk w a).toList.take (min m n)).length=min m n:=by rw[List.length_take];exact Nat.min_eq_left (by simpa using ha)
 have f:∀j,(⟨a,0,none⟩:Addr).add j=⟨a,0+j,none⟩:=fun j=>by unfold Addr.add;split <;> simp_all
 rw[run_copy_cells w 102 102 ty 22 b 0 n p ⟨a,0,none⟩ m q ((blk w a).toList.take (min m n)) underlying102 (by kernel_rfl) i
  (fun j v d=>?_) (fun j l=>?_) (fun j l=>?_) (fun v d=>?_),setCells_setBlk _ _ _ _ h0]
 ·rw[i]
 ·have l:j<min m n:=by
   by_cases h:j<min m n
   ·exact h
   ·rw[List.getElem?_eq_none (by rw[i];omega)]at d;cases d
  rw[List.getElem?_take_of_lt l]at d;rw[f,Nat.zero_add,cell_blk]
  simpa using d
 ·rw[i]at l;rw[Nat.zero_add,cell_blk,Array.getElem?_eq_getElem (by omega)]
  rfl
 ·exact frozen_frz _ _ _ hf
 ·have:=List.mem_of_mem_take d;rw[Array.all_eq_true_iff_forall_mem]at h1;exact h1 v (by simpa using this)
theorem cpA_nw(N N' x y k:Nat)(h:k≤N')(h2:k≤N):cpA (nw N x) (nw N' y) k=nw N (x/pw k*pw k+y%pw k):=by
 apply Array.ext_getElem?
 intro j;have i:y%pw k<pw k:=Nat.mod_lt _ (pw_pos k);unfold cpA;rw[setL_get]
 have f:((nw N' y).toList.take k).length=k:=by rw[List.length_take];simp[nw_size];omega
 rw[f,nw_size]
 by_cases hj:j<N
 ·rw[nw_get N (x/pw k*pw k+y%pw k) j hj]
  by_cases hk:j<k
  ·rw[if_pos ⟨by omega,by omega,hj⟩,Nat.sub_zero,List.getElem?_take_of_lt hk]
   have e:(nw N' y).toList[j]? = some (Value.int .u64 ((wd y j:Nat):Int)):=by
    have:=nw_get N' y j (by omega)
    simpa using this
   rw[e];refine congrArg some (congrArg (Value.int .u64) (congrArg Nat.cast ?_));obtain⟨d,rfl⟩:∃d,k=j+1+d:=⟨k-(j+1),by omega⟩;unfold wd;rw[pw_add,pow_succ64]
   have l:x/(pw j*18446744073709551616*pw d)*(pw j*18446744073709551616*pw d)=x/(pw j*18446744073709551616*pw d)*pw d*18446744073709551616*pw j:=by grind
   rw[l,Nat.add_comm,Nat.add_mul_div_right _ _ (pw_pos j),Nat.add_mul_mod_self_right,Nat.mul_assoc (pw j),Nat.mod_mul_right_div_self,Nat.mod_mul_right_mod]
  ·rw[if_neg (by omega),nw_get N x j hj];refine congrArg some (congrArg (Value.int .u64) (congrArg Nat.cast ?_));obtain⟨d,rfl⟩:∃d,j=k+d:=⟨j-k,by omega⟩;unfold wd;rw[pw_add,←Nat.div_div_eq_div_mul,←Nat.div_div_eq_div_mul,Nat.add_comm,Nat.add_mul_div_right _ _ (pw_pos k),Nat.div_eq_of_lt i,Nat.zero_add]
 ·rw[if_neg (by omega),Array.getElem?_eq_none (by rw[nw_size];omega),Array.getElem?_eq_none (by rw[nw_size];omega)]
theorem rd_cell{P:Program}{d:TypeDesc}{ty:TypeId}(n:Nat)(hu:P.underlying ty=some d)(hd:d.isRow=true)(hi:(P.info? ty).map (·.size)=some n){tmps:Array Value}{t:Tmp}{w:World}{b:Nat}{c:Array Value}(h:tmps.getD t undef=.pointer (some ⟨b,0,none⟩))(hc:blk w b=c)(hs:c.size=n):(readR tmps (.cell t ty)).run P w=.ok (.agg c) w:=by
 subst hc
 show (do loadVar ty (←asAddr (tmps.getD t undef))).run P w=_
 rw[h];simp only[asAddr,Sem.run_bind,Sem.run_pure,Result.andThen_ok,load_blk n hu hd hi w b hs]
abbrev RdC(T:Nat)(c:Array Value):Prop:=∀{tmps:Array Value} {t:Tmp} {w:World} {b:Nat},tmps.getD t undef=.pointer (some ⟨b,0,none⟩)→blk w b=c→(readR tmps (.cell t T)).run prog w=.ok (.agg c) w
theorem rdC{T:Nat}{c:Array Value}(n:Nat)(hs:c.size=n)(h:rowT prog T n=true:=by kernel_rfl):RdC T c:=fun f i=>by
 obtain⟨d,j,l,q⟩:=rowT.out h;exact rd_cell n j l q f i hs
theorem rd_nat{x:Nat}:RdC 25 (nw 9 x):=rdC 9 (nw_size 9 x)
abbrev uz3:=And.intro @dv_size<|And.intro @dv_9<|And.intro @dv_10<|And.intro @dv_e9<|And.intro @dv_e10<|And.intro @dv_elem<|And.intro @fold11<|And.intro @fold19<|And.intro @setCell_in<|And.intro @cell_in<|And.intro @frozen_in<|And.intro @frz_setBlk<|And.intro @blk_setBlk<|And.intro @setBlk_setBlk<|And.intro @copy_run @cpA_nw
end
section
theorem storeAr_is:StI 23:=fun _ _=>rfl
theorem storeAr(s:Nat):StS 23 9 (nw 9 s):=stS (nw_size 9 s) (nw_one 9 s)
def buildF(t:TypeId)(p:Array (Nat×Value)):Sem Value:=Instr.build t p
theorem buildAr_is(p:Array (Nat×Value)):Instr.build 23 p=buildF 23 p:=rfl
end
section
attribute [local go_sem ↓] uz1
attribute [local go_sem] uz2
section
attribute [local go_sem ↓] storeAr_is buildAr_is
attribute [local go_sem] storeAr frz_setBlk blk_setBlk setBlk_setBlk
def pN:Nat→Nat
 | 1=>6277101735386680763835789423207666416083908700390324961279
 | 2=>26959946667150639794667015087019630673557916260026308143510066298881
 | 3=>115792089210356248762697446949407573530086143415290314195533631308867097853951
 | 4=>39402006196394479212279040100143613805079739270465446667948293404245721771496870329047266088258938001861606973112319
 | 5=>6864797660130609714981900799081393217269435300143305409394463459185543183397656052122559640661454554977296311391480858037121987999716643812574028291115057151
 | 6=>115792089237316195423570985008687907853269984665640564039457584007908834671663
 | 7=>1332297598440044874827085558802491743757193798159
 | 8=>22721622932454352787552537995910928073340732145944992304435472941311
 | 9=>76884956397045344220809746629001649093037950200943055203735601445031516197751
 | 10=>1763593322239166354161909842446019520889512772719515192772960415288640868802149818095501499903527
 | 11=>21659270770119316173069236842332604979796116387017648600081618503821089934025961822236561982844534088440708417973331
 | 12=>8948962207650232551656602815159153422162609644098354511344597187200057010413552439917934304191956942765446530386427345937963894309923928536070534607816947
 | 13=>251
 | 14=>241
 | 15=>239
 | _=>0
theorem row1(w:World):(buildF 23 #[(0,.int .u64 18446744073709551615),(1,.int .u64 18446744073709551614),(2,.int .u64 18446744073709551615)]).run prog w=.ok (.agg (nw 9 (pN 1))) w:=by kernel_rfl
theorem row2(w:World):(buildF 23 #[(0,.int .u64 1),(1,.int .u64 18446744069414584320),(2,.int .u64 18446744073709551615),(3,.int .u64 4294967295)]).run prog w=.ok (.agg (nw 9 (pN 2))) w:=by kernel_rfl
theorem row3(w:World):(buildF 23 #[(0,.int .u64 18446744073709551615),(1,.int .u64 4294967295),(2,.int .u64 0),(3,.int .u64 18446744069414584321)]).run prog w=.ok (.agg (nw 9 (pN 3))) w:=by kernel_rfl
theorem row4(w:World):(buildF 23 #[(0,.int .u64 4294967295),(1,.int .u64 18446744069414584320),(2,.int .u64 18446744073709551614),(3,.int .u64 18446744073709551615),(4,.int .u64 18446744073709551615),(5,.int .u64 18446744073709551615)]).run prog w=.ok (.agg (nw 9 (pN 4))) w:=by kernel_rfl
theorem row5(w:World):(buildF 23 #[(0,.int .u64 18446744073709551615),(1,.int .u64 18446744073709551615),(2,.int .u64 18446744073709551615),(3,.int .u64 18446744073709551615),(4,.int .u64 18446744073709551615),(5,.int .u64 18446744073709551615),(6,.int .u64 18446744073709551615),(7,.int .u64 18446744073709551615),(8,.int .u64 511)]).run prog w=.ok (.agg (nw 9 (pN 5))) w:=by kernel_rfl
theorem row6(w:World):(buildF 23 #[(0,.int .u64 18446744069414583343),(1,.int .u64 18446744073709551615),(2,.int .u64 18446744073709551615),(3,.int .u64 18446744073709551615)]).run prog w=.ok (.agg (nw 9 (pN 6))) w:=by kernel_rfl
theorem row7(w:World):(buildF 23 #[(0,.int .u64 10787203111099654671),(1,.int .u64 8318247314806261677),(2,.int .u64 3915270751)]).run prog w=.ok (.agg (nw 9 (pN 7))) w:=by kernel_rfl
theorem row8(w:World):(buildF 23 #[(0,.int .u64 10942209932137119999),(1,.int .u64 8489803750353864535),(2,.int .u64 2757160123298754597),(3,.int .u64 3619763370)]).run prog w=.ok (.agg (nw 9 (pN 8))) w:=by kernel_rfl
theorem row9(w:World):(buildF 23 #[(0,.int .u64 2311270323689771895),(1,.int .u64 7943213001558335528),(2,.int .u64 4496292894210231666),(3,.int .u64 12248480212390422972)]).run prog w=.ok (.agg (nw 9 (pN 9))) w:=by kernel_rfl
theorem row10(w:World):(buildF 23 #[(0,.int .u64 18218206948094062119),(1,.int .u64 5733849700882443304),(2,.int .u64 17982820153128390127),(3,.int .u64 16229979505782022245),(4,.int .u64 15230689193496432567)]).run prog w=.ok (.agg (nw 9 (pN 10))) w:=by kernel_rfl
theorem row11(w:World):(buildF 23 #[(0,.int .u64 9747760000893709395),(1,.int .u64 12453481191562877553),(2,.int .u64 1347097566612230435),(3,.int .u64 1526563086152259252),(4,.int .u64 1107163671716839903),(5,.int .u64 10140169582434348328)]).run prog w=.ok (.agg (nw 9 (pN 11))) w:=by kernel_rfl
theorem row12(w:World):(buildF 23 #[(0,.int .u64 2930260431521597683),(1,.int .u64 2918894611604883077),(2,.int .u64 12595900938455318758),(3,.int .u64 9029043254863489090),(4,.int .u64 15448363540090652785),(5,.int .u64 14641358191536493070),(6,.int .u64 4599554755319692295),(7,.int .u64 12312170373589877899)]).run prog w=.ok (.agg (nw 9 (pN 12))) w:=by kernel_rfl
theorem row13(w:World):(buildF 23 #[(0,.int .u64 251)]).run prog w=.ok (.agg (nw 9 (pN 13))) w:=by kernel_rfl
theorem row14(w:World):(buildF 23 #[(0,.int .u64 241)]).run prog w=.ok (.agg (nw 9 (pN 14))) w:=by kernel_rfl
theorem row15(w:World):(buildF 23 #[(0,.int .u64 239)]).run prog w=.ok (.agg (nw 9 (pN 15))) w:=by kernel_rfl
attribute [local go_sem] row1 row2 row3 row4 row5 row6 row7 row8 row9 row10 row11 row12 row13 row14 row15
theorem of_yes(i:Nat)(h1:1≤i)(h2:i≤15)(w:World):Cg 44 #[.int .i64 i] w (.tuple #[.agg (nw 9 (pN i)),.bool true]):=by
 obtain rfl|rfl|rfl|rfl|rfl|rfl|rfl|rfl|rfl|rfl|rfl|rfl|rfl|rfl|rfl:i=1∨i=2∨i=3∨i=4∨i=5∨i=6∨i=7∨i=8∨i=9∨i=10∨i=11∨i=12∨i=13∨i=14∨i=15:=by omega
 all_goals
  go_enter func44,ntmps44
  go_wp2
  refine bo2 results44 (rd_nat (by rfl) ?_) ⟨rfl,grA⟩;simp[go_sem]
end
end
section
def aN:Nat→Nat
 | 1=>6277101735386680763835789423207666416083908700390324961276
 | 2=>26959946667150639794667015087019630673557916260026308143510066298878
 | 3=>115792089210356248762697446949407573530086143415290314195533631308867097853948
 | 4=>39402006196394479212279040100143613805079739270465446667948293404245721771496870329047266088258938001861606973112316
 | 5=>6864797660130609714981900799081393217269435300143305409394463459185543183397656052122559640661454554977296311391480858037121987999716643812574028291115057148
 | 6=>0
 | 7=>297190522446607939568481567949428902921613329152
 | 8=>11020725272625742361946480833014344015343456918668456061589001510723
 | 9=>56698187605326110043627228396178346077120614539475214109386828188763884139993
 | 10=>524709318439392693105919717518043758943240164412117372990311331314771510648804065756354311491252
 | 11=>19048979039598244295279281525021548448223459855185222892089532512446337024935426033638342846977861914875721218402342
 | 12=>6294860557973063227666421306476379324074715770622746227136910445450301914281276098027990968407983962691151853678563877834221834027439718238065725844264138
 | 13=>248
 | 14=>0
 | 15=>117
 | _=>0
def bN:Nat→Nat
 | 1=>2455155546008943817740293915197451784769108058161191238065
 | 2=>18958286285566608000408668544493926415504680968679321075787234672564
 | 3=>41058363725152142129326129780047268409114441015993725554835256314039467401291
 | 4=>27580193559959705877849011840389048093056905856361568521428707301988689241309860865136260764883745107765439761230575
 | 5=>1093849038073734274511112390766805569936207598951683748994586394495953116150735016013708737573759623248592132296706313309438452531591012912142327488478985984
 | 6=>7
 | 7=>173245649450172891208247283053495198538671808088
 | 8=>3949606626053374030787926457695139766118442946052311411513528958987
 | 9=>17577232497321838841075697789794520262950426058923084567046852300633325438902
 | 10=>684460840191207052139729091116995410883497412720006364295713596062999867796741135919289734394278
 | 11=>717131854892629093329172042053689661426642816397448020844407951239049616491589607702456460799758882466071646850065
 | 12=>3245789008328967059274849584342077916531909009637501918328323668736179176583263496463525128488282611559800773506973771797764811498834995234341530862286627
 | 13=>26
 | 14=>13
 | 15=>8
 | _=>0
def oN:Nat→Nat
 | 1=>6277101735386680763835789423176059013767194773182842284081
 | 2=>26959946667150639794667015087019625940457807714424391721682722368061
 | 3=>115792089210356248762697446949407573529996955224135760342422259061068512044369
 | 4=>39402006196394479212279040100143613805079739270465446667946905279627659399113263569398956308152294913554433653942643
 | 5=>6864797660130609714981900799081393217269435300143305409394463459185543183397655394245057746333217197532963996371363321113864768612440380340372808892707005449
 | 6=>115792089237316195423570985008687907852837564279074904382605163141518161494337
 | 7=>1332297598440044874827085038830181364212942568457
 | 8=>22721622932454352787552537995910923612567546342330757191396560966559
 | 9=>76884956397045344220809746629001649092737531784414529538755519063063536359079
 | 10=>1763593322239166354161909842446019520889512772717686063760686124016784784845843468355685258203921
 | 11=>21659270770119316173069236842332604979796116387017648600075645274821611501358515537962695117368903252229601718723941
 | 12=>8948962207650232551656602815159153422162609644098354511344597187200057010413418528378981730643524959857451398370029280583094215613882043973354392115544169
 | 13=>223
 | 14=>211
 | 15=>229
 | _=>0
def xN:Nat→Nat
 | 1=>602046282375688656758213480587526111916698976636884684818
 | 2=>19277929113566293071110308034699488026831934219452440156649784352033
 | 3=>48439561293906451759052585252797914202762949526041747995844080717082404635286
 | 4=>26247035095799689268623156744566981891852923491109213387815615900925518854738050089022388053975719786650872476732087
 | 5=>2661740802050217063228768716723360960729859168756973147706671368418802944996427808491545080627771902352094241225065558662157113545570916814161637315895999846
 | 6=>55066263022277343669578718895168534326250603453777594175500187360389116729240
 | 7=>1089473557631435284577962539738532515920566082499
 | 8=>1428364927244201726431498207475486496993067267318520844137448783997
 | 9=>63243729749562333355292243550312970334778175571054726587095381623627144114786
 | 10=>565203972584199378547773331021708157952136817703497461781479793049434111597020229546183313458705
 | 11=>4480579927441533893329522230328287337018133311029754539518372936441756157459087304048546502931308754738349656551198
 | 12=>6792059140424575174435640431269195087843153390102521881468023012732047482579853077545647446272866794936371522410774532686582484617946013928874296844351522
 | 13=>2
 | 14=>3
 | 15=>0
 | _=>0
def yN:Nat→Nat
 | 1=>174050332293622031404857552280219410364023488927386650641
 | 2=>19926808758034470970197974370888749184205991990603949537637343198772
 | 3=>36134250956749795798585127919587881956611106672985015071877198253568414405109
 | 4=>8325710961489029985546751289520108179287853048861315594709205902480503199884419224438643760392947333078086511627871
 | 5=>3757180025770020463545507224491183603594455134769762486694567779615544477440556316691234405012945539562144444537289428522585666729196580810124344277578376784
 | 6=>32670510020758816978083085130507043184471273380659243275938904335757337482424
 | 7=>127912481829969033206777085249718746721365418785
 | 8=>9337555360448823227812410753177468631215558779020518084752618816205
 | 9=>38218615093753523893122277964030810387585405539772602581557831887485717997975
 | 10=>175146432689526447697480803229621572834859050903464782210773312572877763380340633688906597830369
 | 11=>21354446258743982691371413536748675410974765754620216137225614281636810686961198361153695003859088327367976229294869
 | 12=>6592244555240112873324748381429610341312712940326266331327445066687010545415256461097707483288650216992613090185042957716318301180159234788504307628509330
 | 13=>84
 | 14=>47
 | 15=>41
 | _=>0
end
end Go.Proofs.Ytonbpnbhjghfbaa