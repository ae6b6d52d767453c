import Derived.Test.YtffhepbppiocbaaXBBits
import Derived.Test.YtffhepbppiocbaaXBLdS
import Derived.Test.YtffhepbppiocbaaXBEC
namespace Go.Proofs.Ytffhepbppiocbaa
open Go.RowKit Go.Proofs.Try
set_option maxRecDepth 100000
set_option maxHeartbeats 8000000
section
theorem loadNat_is:LdI 25:=fun _=>rfl
theorem loadArr_is:LdI 23:=fun _=>rfl
theorem loadWide_is:LdI 119:=fun _=>rfl
theorem loadArrW_is:LdI 117:=fun _=>rfl
theorem storeNat_is:StI 25:=fun _ _=>rfl
theorem storeWide_is:StI 119:=fun _ _=>rfl
theorem loadS_run{P:Program}{d:TypeDesc}{ty:TypeId}(n:Nat)(hu:P.underlying ty=some d)(hd:d.isRow=true)(hi:(P.info? ty).map (·.size)=some n)(w:World)(b:Nat)(hs:(blk w b).size=n):
 (loadS ty (.pointer (some ⟨b,0,none⟩))).run P w=.ok (.agg (blk w b)) w:=by
 simp only[loadS,Instr.loadAt,Instr.sureAddr,Sem.run_bind,Sem.run_pure,Result.andThen_ok,load_blk n hu hd hi w b hs]
theorem storeS_run{P:Program}{ty:TypeId}(n:Nat)(hn:0<n)(hi:(P.info? ty).map (·.size)=some n)(w:World)(b:Nat)(d:Array Value)(hd:d.size=n)(h1:d.all (·.oneCell')=true)(hs:(blk w b).size=n)(hf:frz w b=(0,0)):
 (storeS ty (.pointer (some ⟨b,0,none⟩)) (.agg d)).run P w=.ok () (setBlk w b d):=by
 simp only[storeS,Instr.storeAt,Instr.sureAddr,Sem.run_bind,Sem.run_pure,Result.andThen_ok,store_blk n hn hi w b d hd h1 hs hf]
def rowT(P:Program)(T n:Nat):Bool:=match P.underlying T with
 | some d=>d.isRow&&(P.info? T).map (·.size)==some n
 | none=>false
theorem rowT.out{P:Program}{T n:Nat}(h:rowT P T n=true):∃d,P.underlying T=some d∧d.isRow=true∧(P.info? T).map (·.size)=some n:=by
 unfold rowT at h
 cases e:P.underlying T with
 | none=>rw[e]at h;cases h
 | some d=>rw[e,Bool.and_eq_true]at h;exact⟨d,rfl,h.1,eq_of_beq h.2⟩
abbrev LdS(T n:Nat):Prop:=∀(w:World) (b:Nat),(blk w b).size=n→(loadS T (.pointer (some ⟨b,0,none⟩))).run prog w=.ok (.agg (blk w b)) w
theorem ldS{T n:Nat}(h:rowT prog T n=true:=by kernel_rfl):LdS T n:=fun w b f=>by
 obtain⟨d,i,j,l⟩:=rowT.out h;exact loadS_run n i j l w b f
abbrev StS(T n:Nat)(c:Array Value):Prop:=∀(w:World) (b:Nat),(blk w b).size=n→frz w b=(0,0)→(storeS T (.pointer (some ⟨b,0,none⟩)) (.agg c)).run prog w=.ok () (setBlk w b c)
theorem stS{T n:Nat}{c:Array Value}(hd:c.size=n)(h1:c.all (·.oneCell')=true)(hn:0<n:=by decide)(hi:(prog.info? T).map (·.size)=some n:=by kernel_rfl):StS T n c:=fun w b d f=>storeS_run n hn hi w b c hd h1 d f
theorem loadNat:LdS 25 9:=ldS
theorem loadArr:LdS 23 9:=ldS
theorem loadWide:LdS 119 18:=ldS
theorem loadArrW:LdS 117 18:=ldS
theorem storeNat(s:Nat):StS 25 9 (nw 9 s):=stS (nw_size 9 s) (nw_one 9 s)
theorem storeWide(s:Nat):StS 119 18 (nw 18 s):=stS (nw_size 18 s) (nw_one 18 s)
attribute [local go_sem] nw_size nw_elem
theorem idxArr(w:World)(a k:Nat)(h:k<9):(Instr.index 23 (.agg (nw 9 a)) (.int .i64 k)).run prog w=.ok (.int .u64 ((wd a k:Nat):Int)) w:=by
 simp[Instr.index,run_underlying underlying23,asIntOf,h,go_sem]
abbrev uz1:=And.intro @loadNat_is<|And.intro @loadArr_is<|And.intro @loadWide_is<|And.intro @loadArrW_is<|And.intro @storeNat_is @storeWide_is
abbrev uz2:=And.intro @loadNat<|And.intro @loadArr<|And.intro @loadWide<|And.intro @loadArrW<|And.intro @storeNat<|And.intro @storeWide<|And.intro @idxArr<|And.intro @fold9<|And.intro @fold18<|And.intro @nw_size<|And.intro @nw_elem<|And.intro @pre_0<|And.intro @pre_1<|And.intro @pre_2<|And.intro @pre_3<|And.intro @pre_4<|And.intro @pre_5<|And.intro @pre_6<|And.intro @pre_7<|And.intro @pre_8<|And.intro @pre_9<|And.intro @pre_10<|And.intro @pre_11<|And.intro @pre_12<|And.intro @pre_13<|And.intro @pre_14<|And.intro @pre_15<|And.intro @pre_16<|And.intro @pre_17<|And.intro @pre_18<|And.intro @pre_19<|And.intro @pre_20<|And.intro @pre_21<|And.intro @pre_22<|And.intro @pre_23<|And.intro @pre_24<|And.intro @pre_25<|And.intro @pre_26<|And.intro @pre_27<|And.intro @pre_28<|And.intro @pre_29<|And.intro @pre_30<|And.intro @pre_31<|And.intro @pre_32<|And.intro @pre_33<|And.intro @pre_34<|And.intro @pre_35<|And.intro @pre_36<|And.intro @pre_37<|And.intro @pre_38<|And.intro @pre_39<|And.intro @pre_40<|And.intro @gro_size<|And.intro @gro_drew<|And.intro @gro_drewN<|And.intro @drew_gro<|And.intro @drewN_gro<|And.intro @gro_gro<|And.intro @blk_gro<|And.intro @frz_gro<|And.intro @blk_drew<|And.intro @frz_drew<|And.intro @blk_drewN<|And.intro @frz_drewN<|And.intro @blk_alloc_at<|And.intro @frz_alloc_at<|And.intro @blk_alloc<|And.intro @frz_alloc<|And.intro @cell_gro<|And.intro @frozen_gro<|And.intro @cell_alloc_pre<|And.intro @frozen_alloc_pre<|And.intro @setCell_drewN<|And.intro @alloc_drewN<|And.intro @setBlk_drew<|And.intro @setBlk_drewN<|And.intro @setBlk_alloc_at<|And.intro @setBlk_alloc<|And.intro @setBlk_gro<|And.intro @setCell_gro<|And.intro @setCell_alloc_pre<|And.intro @size_setBlk @size_setCell
end
section
attribute [local go_sem ↓] uz1
attribute [local go_sem] uz2
section
theorem small_set(x:Int)(h0:0≤x)(h1:x<18446744073709551616):(nw 9 0).setIfInBounds 0 (Value.int .u64 x)=nw 9 x.toNat:=by
 obtain⟨n,rfl⟩:=Int.eq_ofNat_of_zero_le h0;rw[nw_set_top 9 0 0 n (by omega) (pw_pos 0),pw_zero,Nat.zero_add,Nat.mul_one,Int.toNat_natCast]
theorem small_any(x:Int)(hx:x≤9223372036854775807)(w:World):
 Cg 76 #[.int .i64 x] w (.agg (nw 9 x.toNat)):=by
 by_cases h:0<x
 ·have f:IntKind.u64.wrap x=x:=wuA;have i:=small_set x (by omega) (by omega)
  go_enter func76,ntmps76
  go_wp2
  exact bodyPost_ret (by simp[results,results76,go_sem,nw9_lit]) rfl ⟨rfl,((Gr.refl w).alloc _).alloc _⟩
 ·have d:x.toNat=0:=by omega
  rw[d]
  go_enter func76,ntmps76
  go_wp2
  exact bodyPost_ret (by simp[results,results76,go_sem,nw9_lit]) rfl ⟨rfl,((Gr.refl w).alloc _).alloc _⟩
theorem one_any(x:Nat)(hx:x<18446744073709551616)(w:World):
 Cg 34 #[.int .u64 x] w (.agg (nw 9 x)):=by
 have d:=small_set (x:Int) (by omega) (by omega);rw[Int.toNat_natCast]at d
 go_enter func34,ntmps34
 go_wp2
 exact bodyPost_ret (by simp[results,results34,go_sem,nw9_lit]) rfl ⟨rfl,((Gr.refl w).alloc _).alloc _⟩
theorem num_any(x:Int)(w:World):
 Calls prog 13 #[.int .i64 x] w fun e w'=>e=.returned (.int .i64 x)∧w'=w:=by
 go_enter func13,ntmps13
 go_wp2
 go_ret
 exact⟨rfl,rfl⟩
theorem fits_yes(x:Int)(h0:0≤x)(h1:x≤576)(w:World):
 Calls prog 100 #[.int .i64 x] w fun e w'=>e=.returned (.bool true)∧w'=w:=by
 go_enter func100,ntmps100
 go_wp2
 go_ret
 exact⟨rfl,rfl⟩
end
section
theorem shl_raw(a s p:Nat)(hs:s≤9)(hp:p<64)(h:64*s+p≤576)(w:World):
 Cg 98 #[.agg (nw 9 a),.int .i64 ((64*s+p:Nat):Int)] w (.tuple #[.agg (nw 9 (a*2^(64*s+p)%M)),.int .i64 0]):=by
 obtain⟨R,f⟩:∃R:Nat,a*2^(64*s+p)%M=R:=⟨_,rfl⟩;rw[f];have B:Hid _:=f;obtain⟨K,x⟩:∃K:Int,K=((64*s+p:Nat):Int):=⟨_,rfl⟩;rw[←x]
 have C:0≤K:=by omega
 have D:K≤576:=by omega
 have G:K/64=(s:Int):=by omega
 have S:K%64=(p:Int):=by omega
 have V:(0:Int)≤s:=by omega
 have W:(s:Int)≤9:=by omega
 have X:(0:Int)≤p:=by omega
 have Y:(p:Int)<64:=by omega
 clear h x f
 go_enter func98,ntmps98
 go_wp2_with (go_at_call 100;refine(fits_yes K C D _).mono ?_;rintro e Z ⟨rfl,rfl⟩)
 go_loopw [9,10] (fun c i wr=>∃j d U:Nat,s+j≤9∧i=.int .i64 ((s+j:Nat):Int)∧c=.int .u64 d∧d<2^p∧U<pw (s+j)∧U+d*pw (s+j)=(a%pw j)*(pw s*2^p)∧wr=((w.alloc (.cells (nw 9 a) 25)).alloc (.cells (nw 9 0) 25)).alloc (.cells (nw 9 U) 25)) (fun _ i _=>9-(intOf i).toNat)
 case atStart=>exact⟨0,0,0,by omega,by rw[G];rfl,rfl,Nat.two_pow_pos p,pw_pos _,by rw[pw_zero,Nat.mod_one,Nat.zero_mul,Nat.zero_mul],rfl⟩
 case round=>
  obtain⟨j,d,U,hn,rfl,rfl,H,I,J,rfl⟩:=hrel;have l:Hid _:=H;have q:Hid _:=I;have A:Hid _:=J
  by_cases hlt:s+j<9
  ·have L:(s:Int)≤((s+j:Nat):Int):=by omega
   have hj:j<9:=by omega
   go_wp2
   go_roundw
   case rel=>
    refine⟨j+1,wd a j*2^p/18446744073709551616,U+(wd a j*2^p%18446744073709551616+d)*pw (s+j),by omega,by go_num,by rw[shl_carry _ _ hp],shl_carry_lt _ _ (wd_lt _ _),shl_next_lt _ _ _ q.out (shl_lt _ _ _ (by omega) l.out),shl_step _ _ _ _ _ _ A.out,?_⟩;rw[shl_word _ _ _ hp l.out,nw_set_top 9 U (s+j) _ (shl_lt _ _ _ (by omega) l.out) q.out]
   case measure=>simp[intOf];omega
  ·have P:Hid _:=show s+j=9 from by omega
   have Q:Hid _:=show R=U from by rw[←B.out];exact shl_end a s p j U d P.out q.out A.out
   go_wp2
   exact bodyPost_ret (v:=.tuple #[.agg (nw 9 U),.int .i64 0]) (by simp[results,results98,go_sem,nw9_lit]) rfl ⟨by rw[Q.out],grA⟩
theorem shl_any(a k:Nat)(hk:k≤576)(w:World):
 Cg 98 #[.agg (nw 9 a),.int .i64 k] w (.tuple #[.agg (nw 9 (a*2^k%M)),.int .i64 0]):=by
 have e:k=64*(k/64)+k%64:=by omega
 have h:=shl_raw a (k/64) (k%64) (by omega) (by omega) (by omega) w;rw[←e]at h;exact h
end
section
theorem add_raw(a b:Nat)(w:World):
 Cg 88 #[.agg (nw 9 a),.agg (nw 9 b)] w (.tuple #[.agg (nw 9 (addS a b 9)),.bool (((addC a b 9:Nat):Int) != 0)]):=by
 go_enter func88,ntmps88
 go_wp2
 go_loopw [7,9] (fun c i wr=>∃k n:Nat,k≤9∧i=.int .i64 k∧c=.int .u64 (addC a b k)∧wr=(((((w.alloc (.cells (nw 9 a) 25)).alloc (.cells (nw 9 b) 25)).alloc (.cells (nw 9 0) 25)).alloc (.cells (nw 9 (addS a b k)) 25)).drewN n)) (fun _ i _=>9-(intOf i).toNat)
 case atStart=>exact⟨0,0,by omega,rfl,by rw[addC_zero];rfl,by rw[addS_zero,nw9_zero];rfl⟩
 case round=>
  obtain⟨k,n,A,rfl,rfl,rfl⟩:=hrel
  by_cases hlt:k<9
  ·have h:(0:Int)≤k:=by omega
   have j:(0:Int)≤((addC a b k:Nat):Int):=by omega
   have l:((addC a b k:Nat):Int)≤1:=by have:=addC_le a b k;omega
   have q:(0:Int)≤((wd a k:Nat):Int):=by omega
   have x:(0:Int)≤((wd b k:Nat):Int):=by omega
   go_wp2
   go_region_held3 (fun f=>f.cell? ⟨w.heap.size,k,none⟩=some (.int .u64 ((wd a k:Nat):Int))∧f.cell? ⟨w.heap.size+1,k,none⟩=some (.int .u64 ((wd b k:Nat):Int))) (simp[go_sem, *]) (simp only[add64 _ _ _ q x j l])
   go_wp2
   go_roundw
   case rel=>
    refine⟨k+1,n+1,by omega,by go_num,?_,?_⟩
    ·rw[addC_int]
    ·simp[go_sem,addS_set]
   case measure=>simp[intOf];omega
  ·have d:Hid _:=show k=9 from by omega
   go_wp2
   exact bodyPost_ret (v:=.tuple #[.agg (nw 9 (addS a b k)),.bool (((addC a b k:Nat):Int) != 0)]) (by simp[results,results88,go_sem,nw9_lit]) rfl ⟨by rw[d.out],(((((Gr.refl w).alloc _).alloc _).alloc _).alloc _).drewN _⟩
theorem add_any(a b:Nat)(ha:a<M)(hb:b<M)(w:World):
 Cg 88 #[.agg (nw 9 a),.agg (nw 9 b)] w (.tuple #[.agg (nw 9 ((a+b)%M)),.bool (decide (M≤a+b))]):=by
 refine(add_raw a b w).mono fun e d h=>⟨?_,h.2⟩;rw[h.1,addS_M a b ha hb,addC_M a b ha hb]
theorem sub64w(a b k:Nat)(w:World):(callFunc 82 #[.int .u64 ((wd a k:Nat):Int),.int .u64 ((wd b k:Nat):Int),.int .u64 ((subC a b k:Nat):Int)]).run prog w =
 .ok (.value (.tuple #[.int .u64 (((wd a k:Nat)-(wd b k:Nat)-(subC a b k:Nat):Int)%18446744073709551616),.int .u64 ((subC a b (k+1):Nat):Int)])) w:=by
 have d:=wd_lt b k;have f:=subC_le a b k;rw[sub64 _ _ _ (by omega) (by omega) (by omega) (by omega) (by omega),subC_int]
theorem sub_raw(a b:Nat)(w:World):
 Cg 80 #[.agg (nw 9 a),.agg (nw 9 b)] w (.tuple #[.agg (nw 9 (subS a b 9)),.bool (((subC a b 9:Nat):Int) != 0)]):=by
 go_enter func80,ntmps80
 go_wp2
 go_loopw [7,9] (fun c i wr=>∃k n:Nat,k≤9∧i=.int .i64 k∧c=.int .u64 (subC a b k)∧wr=(((((w.alloc (.cells (nw 9 a) 25)).alloc (.cells (nw 9 b) 25)).alloc (.cells (nw 9 0) 25)).alloc (.cells (nw 9 (subS a b k)) 25)).drewN n)) (fun _ i _=>9-(intOf i).toNat)
 case atStart=>exact⟨0,0,by omega,rfl,by rw[subC_zero];rfl,by rw[subS_zero,nw9_zero];rfl⟩
 case round=>
  obtain⟨k,n,j,rfl,rfl,rfl⟩:=hrel
  by_cases hlt:k<9
  ·have h:(0:Int)≤k:=by omega
   go_wp2
   go_region_held3 (fun f=>f.cell? ⟨w.heap.size,k,none⟩=some (.int .u64 ((wd a k:Nat):Int))∧f.cell? ⟨w.heap.size+1,k,none⟩=some (.int .u64 ((wd b k:Nat):Int))) (simp[go_sem, *]) (simp only[sub64w])
   go_wp2
   go_roundw
   case rel=>
    refine⟨k+1,n+1,by omega,by go_num,rfl,?_⟩;simp[go_sem,subS_set]
   case measure=>simp[intOf];omega
  ·have d:Hid _:=show k=9 from by omega
   go_wp2
   exact bodyPost_ret (v:=.tuple #[.agg (nw 9 (subS a b k)),.bool (((subC a b k:Nat):Int) != 0)]) (by simp[results,results80,go_sem,nw9_lit]) rfl ⟨by rw[d.out],(((((Gr.refl w).alloc _).alloc _).alloc _).alloc _).drewN _⟩
theorem sub_any(a b:Nat)(ha:a<M)(hb:b<M)(w:World):
 Cg 80 #[.agg (nw 9 a),.agg (nw 9 b)] w (.tuple #[.agg (nw 9 ((a+M-b)%M)),.bool (decide (a<b))]):=by
 refine(sub_raw a b w).mono fun e d h=>⟨?_,h.2⟩;rw[h.1,subS_M a b ha hb,subC_M a b ha hb]
end
end
end Go.Proofs.Ytffhepbppiocbaa