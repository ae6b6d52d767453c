import Derived.Test.YtonbpnbhjghfbaaXABits
import Derived.Test.YtonbpnbhjghfbaaXALdS
namespace Go.Proofs.Ytonbpnbhjghfbaa
open Go.RowKit Go.Proofs.Try
set_option maxRecDepth 100000
set_option maxHeartbeats 8000000
section
theorem loadNat_is:LdI 25:=fun _=>rfl
theorem loadArr_is:LdI 23:=fun _=>rfl
theorem storeNat_is:StI 25:=fun _ _=>rfl
theorem loadS_run{P:Program}{d:TypeDesc}{ty:TypeId}(n:Nat)(hu:P.underlying ty=some d)(hd:d.isRow=true)(hi:(P.info? ty).map (·.size)=some n)(w:World)(b:Nat)(hs:(blk w b).size=n):
 (loadS ty (.pointer (some ⟨b,0,none⟩))).run P w=.ok (.agg (blk w b)) w:=by
 simp only[loadS,Instr.loadAt,Instr.sureAddr,Sem.run_bind,Sem.run_pure,Result.andThen_ok,load_blk n hu hd hi w b hs]
theorem storeS_run{P:Program}{ty:TypeId}(n:Nat)(hn:0<n)(hi:(P.info? ty).map (·.size)=some n)(w:World)(b:Nat)(d:Array Value)(hd:d.size=n)(h1:d.all (·.oneCell')=true)(hs:(blk w b).size=n)(hf:frz w b=(0,0)):
 (storeS ty (.pointer (some ⟨b,0,none⟩)) (.agg d)).run P w=.ok () (setBlk w b d):=by
 simp only[storeS,Instr.storeAt,Instr.sureAddr,Sem.run_bind,Sem.run_pure,Result.andThen_ok,store_blk n hn hi w b d hd h1 hs hf]
def rowT(P:Program)(T n:Nat):Bool:=match P.underlying T with
 | some d=>d.isRow&&(P.info? T).map (·.size)==some n
 | none=>false
theorem rowT.out{P:Program}{T n:Nat}(h:rowT P T n=true):∃d,P.underlying T=some d∧d.isRow=true∧(P.info? T).map (·.size)=some n:=by
 unfold rowT at h
 cases e:P.underlying T with
 | none=>rw[e]at h;cases h
 | some d=>rw[e,Bool.and_eq_true]at h;exact⟨d,rfl,h.1,eq_of_beq h.2⟩
abbrev LdS(T n:Nat):Prop:=∀(w:World) (b:Nat),(blk w b).size=n→(loadS T (.pointer (some ⟨b,0,none⟩))).run prog w=.ok (.agg (blk w b)) w
theorem ldS{T n:Nat}(h:rowT prog T n=true:=by kernel_rfl):LdS T n:=fun w b f=>by
 obtain⟨d,i,j,l⟩:=rowT.out h;exact loadS_run n i j l w b f
abbrev StS(T n:Nat)(c:Array Value):Prop:=∀(w:World) (b:Nat),(blk w b).size=n→frz w b=(0,0)→(storeS T (.pointer (some ⟨b,0,none⟩)) (.agg c)).run prog w=.ok () (setBlk w b c)
theorem stS{T n:Nat}{c:Array Value}(hd:c.size=n)(h1:c.all (·.oneCell')=true)(hn:0<n:=by decide)(hi:(prog.info? T).map (·.size)=some n:=by kernel_rfl):StS T n c:=fun w b d f=>storeS_run n hn hi w b c hd h1 d f
theorem loadNat:LdS 25 9:=ldS
theorem loadArr:LdS 23 9:=ldS
theorem storeNat(s:Nat):StS 25 9 (nw 9 s):=stS (nw_size 9 s) (nw_one 9 s)
attribute [local go_sem] nw_size nw_elem
theorem idxArr(w:World)(a k:Nat)(h:k<9):(Instr.index 23 (.agg (nw 9 a)) (.int .i64 k)).run prog w=.ok (.int .u64 ((wd a k:Nat):Int)) w:=by
 simp[Instr.index,run_underlying underlying23,asIntOf,h,go_sem]
abbrev uz1:=And.intro @loadNat_is<|And.intro @loadArr_is @storeNat_is
abbrev uz2:=And.intro @loadNat<|And.intro @loadArr<|And.intro @storeNat<|And.intro @idxArr<|And.intro @fold9<|And.intro @fold18<|And.intro @nw_size<|And.intro @nw_elem<|And.intro @pre_0<|And.intro @pre_1<|And.intro @pre_2<|And.intro @pre_3<|And.intro @pre_4<|And.intro @pre_5<|And.intro @pre_6<|And.intro @pre_7<|And.intro @pre_8<|And.intro @pre_9<|And.intro @pre_10<|And.intro @pre_11<|And.intro @pre_12<|And.intro @pre_13<|And.intro @pre_14<|And.intro @pre_15<|And.intro @pre_16<|And.intro @pre_17<|And.intro @pre_18<|And.intro @pre_19<|And.intro @pre_20<|And.intro @pre_21<|And.intro @pre_22<|And.intro @pre_23<|And.intro @pre_24<|And.intro @pre_25<|And.intro @pre_26<|And.intro @pre_27<|And.intro @pre_28<|And.intro @pre_29<|And.intro @pre_30<|And.intro @pre_31<|And.intro @pre_32<|And.intro @pre_33<|And.intro @pre_34<|And.intro @pre_35<|And.intro @pre_36<|And.intro @pre_37<|And.intro @pre_38<|And.intro @pre_39<|And.intro @pre_40<|And.intro @gro_size<|And.intro @gro_drew<|And.intro @gro_drewN<|And.intro @drew_gro<|And.intro @drewN_gro<|And.intro @gro_gro<|And.intro @blk_gro<|And.intro @frz_gro<|And.intro @blk_drew<|And.intro @frz_drew<|And.intro @blk_drewN<|And.intro @frz_drewN<|And.intro @blk_alloc_at<|And.intro @frz_alloc_at<|And.intro @blk_alloc<|And.intro @frz_alloc<|And.intro @cell_gro<|And.intro @frozen_gro<|And.intro @cell_alloc_pre<|And.intro @frozen_alloc_pre<|And.intro @setCell_drewN<|And.intro @alloc_drewN<|And.intro @setBlk_drew<|And.intro @setBlk_drewN<|And.intro @setBlk_alloc_at<|And.intro @setBlk_alloc<|And.intro @setBlk_gro<|And.intro @setCell_gro<|And.intro @setCell_alloc_pre<|And.intro @size_setBlk @size_setCell
end
section
attribute [local go_sem ↓] uz1
attribute [local go_sem] uz2
section
theorem small_set(x:Int)(h0:0≤x)(h1:x<18446744073709551616):(nw 9 0).setIfInBounds 0 (Value.int .u64 x)=nw 9 x.toNat:=by
 obtain⟨n,rfl⟩:=Int.eq_ofNat_of_zero_le h0;rw[nw_set_top 9 0 0 n (by omega) (pw_pos 0),pw_zero,Nat.zero_add,Nat.mul_one,Int.toNat_natCast]
theorem small_any(x:Int)(hx:x≤9223372036854775807)(w:World):
 Cg 64 #[.int .i64 x] w (.agg (nw 9 x.toNat)):=by
 by_cases h:0<x
 ·have f:IntKind.u64.wrap x=x:=wuA;have i:=small_set x (by omega) (by omega)
  go_enter func64,ntmps64
  go_wp2
  exact bodyPost_ret (by simp[results,results64,go_sem,nw9_lit]) rfl ⟨rfl,((Gr.refl w).alloc _).alloc _⟩
 ·have d:x.toNat=0:=by omega
  rw[d]
  go_enter func64,ntmps64
  go_wp2
  exact bodyPost_ret (by simp[results,results64,go_sem,nw9_lit]) rfl ⟨rfl,((Gr.refl w).alloc _).alloc _⟩
theorem one_any(x:Nat)(hx:x<18446744073709551616)(w:World):
 Cg 19 #[.int .u64 x] w (.agg (nw 9 x)):=by
 have d:=small_set (x:Int) (by omega) (by omega);rw[Int.toNat_natCast]at d
 go_enter func19,ntmps19
 go_wp2
 exact bodyPost_ret (by simp[results,results19,go_sem,nw9_lit]) rfl ⟨rfl,((Gr.refl w).alloc _).alloc _⟩
theorem num_any(x:Int)(w:World):
 Calls prog 10 #[.int .i64 x] w fun e w'=>e=.returned (.int .i64 x)∧w'=w:=by
 go_enter func10,ntmps10
 go_wp2
 go_ret
 exact⟨rfl,rfl⟩
end
section
theorem sub64w(a b k:Nat)(w:World):(callFunc 66 #[.int .u64 ((wd a k:Nat):Int),.int .u64 ((wd b k:Nat):Int),.int .u64 ((subC a b k:Nat):Int)]).run prog w =
 .ok (.value (.tuple #[.int .u64 (((wd a k:Nat)-(wd b k:Nat)-(subC a b k:Nat):Int)%18446744073709551616),.int .u64 ((subC a b (k+1):Nat):Int)])) w:=by
 have d:=wd_lt b k;have f:=subC_le a b k;rw[sub64 _ _ _ (by omega) (by omega) (by omega) (by omega) (by omega),subC_int]
theorem sub_raw(a b:Nat)(w:World):
 Cg 65 #[.agg (nw 9 a),.agg (nw 9 b)] w (.tuple #[.agg (nw 9 (subS a b 9)),.bool (((subC a b 9:Nat):Int) != 0)]):=by
 go_enter func65,ntmps65
 go_wp2
 go_loopw [7,9] (fun c i wr=>∃k n:Nat,k≤9∧i=.int .i64 k∧c=.int .u64 (subC a b k)∧wr=(((((w.alloc (.cells (nw 9 a) 25)).alloc (.cells (nw 9 b) 25)).alloc (.cells (nw 9 0) 25)).alloc (.cells (nw 9 (subS a b k)) 25)).drewN n)) (fun _ i _=>9-(intOf i).toNat)
 case atStart=>exact⟨0,0,by omega,rfl,by rw[subC_zero];rfl,by rw[subS_zero,nw9_zero];rfl⟩
 case round=>
  obtain⟨k,n,j,rfl,rfl,rfl⟩:=hrel
  by_cases hlt:k<9
  ·have h:(0:Int)≤k:=by omega
   go_wp2
   go_region_held3 (fun f=>f.cell? ⟨w.heap.size,k,none⟩=some (.int .u64 ((wd a k:Nat):Int))∧f.cell? ⟨w.heap.size+1,k,none⟩=some (.int .u64 ((wd b k:Nat):Int))) (simp[go_sem, *]) (simp only[sub64w])
   go_wp2
   go_roundw
   case rel=>
    refine⟨k+1,n+1,by omega,by go_num,rfl,?_⟩;simp[go_sem,subS_set]
   case measure=>simp[intOf];omega
  ·have d:Hid _:=show k=9 from by omega
   go_wp2
   exact bodyPost_ret (v:=.tuple #[.agg (nw 9 (subS a b k)),.bool (((subC a b k:Nat):Int) != 0)]) (by simp[results,results65,go_sem,nw9_lit]) rfl ⟨by rw[d.out],(((((Gr.refl w).alloc _).alloc _).alloc _).alloc _).drewN _⟩
theorem sub_any(a b:Nat)(ha:a<M)(hb:b<M)(w:World):
 Cg 65 #[.agg (nw 9 a),.agg (nw 9 b)] w (.tuple #[.agg (nw 9 ((a+M-b)%M)),.bool (decide (a<b))]):=by
 refine(sub_raw a b w).mono fun e d h=>⟨?_,h.2⟩;rw[h.1,subS_M a b ha hb,subC_M a b ha hb]
end
end
end Go.Proofs.Ytonbpnbhjghfbaa