import Derived.Test.YtdomjicpdbblnaaXAZW
namespace Go.Proofs.Ytdomjicpdbblnaa
open Go.RowKit Go.Proofs.Try
set_option maxRecDepth 100000
set_option maxHeartbeats 8000000
section
attribute [local go_sem ↓] uz1
attribute [local go_sem] uz2
section
attribute [local go_sem] uz4
attribute [local go_sem ↓] uz5 Go.wp_at_zero Go.wp_at_succ
attribute [local go_sem] uz6
attribute [local go_sem ↓] cvU_is
theorem ne_cell22{w:World}{g:Nat}{v:Value}(h:w.cell? ⟨g,0,none⟩=some v):blk w g ≠ #[]:=fun e=>by
 rw[cell_blk,e]at h
 cases h
theorem cvT_cells22{w:World}{g cap:Nat}{l:List UInt8}(h:∀i,i<l.length→w.cell? ⟨g,i,none⟩=some (uF l i)):(cvT (.slice (some ⟨g,0,none⟩) l.length cap)).run prog w=.ok (.string ⟨l.toArray⟩) w:=by
 rw[←nums_tx];refine run_convert_bytes_arg w 42 5 underlying42 underlying5 g 0 l.length cap _ (by simp) (fun i b=>?_) 9 underlying9;rw[Nat.zero_add,h i b,uF];simp[b]
theorem xor48:∀z:Fin 256,bits BinOp.xor IntKind.u8 48 (z.val:Int)=((UInt8.ofNat (48^^^z.val)).toNat:Int):=by decide +kernel
theorem xor48_ne:∀z:Fin 256,z.val≠0→UInt8.ofNat (48^^^z.val)≠48:=by decide +kernel
theorem lzspoilt_any{r s:Nat}(hr:r<M)(hs:s<M)(ct mo:Int)(w:World):Cg 5 #[.agg (sgA r s),.int .i64 ct,.int .i64 mo] w (.bool true):=by
 have hD:isD (derD r s) r s:=⟨hr,hs,rfl⟩;have kr:=kD_le hr;have ks:=kD_le hs;have hb:=bodD_length r s;obtain⟨R,H⟩:=derD_head r s;rw[H]at hD
 have ab:R.length≤200:=by
  have:=congrArg List.length H;unfold derD at this
  split at this <;> simp at this <;> omega
 obtain⟨a,J⟩:∃t:ByteArray,⟨((48:UInt8) :: R).toArray⟩=t:=⟨_,rfl⟩;obtain⟨L,Q⟩:=exl (((48:UInt8) :: R).length)
 have ac:L=R.length+1:=by rw[←Q,List.length_cons]
 have la:a.size=L:=by rw[←J,sz_tx,Q]
 have ne:a.toList.isEmpty=false:=by rw[←J];simp
 obtain⟨c,hc,ad⟩:∃c:Nat,IntKind.u64.wrap ct=(c:Int)∧(c:Int)<18446744073709551616:=⟨(IntKind.u64.wrap ct).toNat,by rw[IntKind.wrap_u64];omega,by rw[IntKind.wrap_u64];omega⟩;obtain⟨m,em⟩:=exl (c%L);have mL:m<L:=em▸Nat.mod_lt _ (by omega);have hL:IntKind.u64.wrap (L:Int)=L:=wuA
 have ae:¬L=0:=by omega
 have aA:0<L:=by omega
 have hm:(c:Int).tmod (L:Int)=m:=by rw[Int.tmod_eq_emod_of_nonneg (by omega)];omega
 have af:IntKind.i64.wrap (m:Int)=m:=wiA;obtain⟨pa,K⟩:∃t:ByteArray,⟨(((48:UInt8) :: R).take m).toArray⟩=t:=⟨_,rfl⟩
 have ag:∀w,(Instr.slice 9 (.string a) none (some (.int .i64 m)) none).run prog w=.ok (.string pa) w:=fun w=>by
  have t:=slT_lo a m (by omega) w
  rwa [←J,ex_tx,List.drop_zero,Nat.sub_zero,K,J]at t
 obtain⟨y,hy,ah⟩:∃y:Nat,IntKind.u8.wrap mo=(y:Int)∧y<256:=⟨(IntKind.u8.wrap mo).toNat,by rw[IntKind.wrap_u8];omega,by rw[IntKind.wrap_u8];omega⟩;obtain⟨x,ex⟩:∃x:ByteArray,⟨[UInt8.ofNat y].toArray⟩=x:=⟨_,rfl⟩;have aB:∀v g,blk v g =#[.int .u8 y]→(cvT (.slice (some ⟨g,0,none⟩) 1 1)).run prog v=.ok (.string x) v:=fun v g h=>ex▸cvT_blk [UInt8.ofNat y] v g (by rw[h];simp;omega)
 have ai:x.size=1:=by rw[←ex,sz_tx];rfl
 have aC:a.size+x.size≤9223372036854775807:=by omega
 have U:(⟨(((48:UInt8) :: R)++[UInt8.ofNat y]).toArray⟩:ByteArray)=a++x:=by rw[←J,←ex,app_tx]
 obtain⟨u,hu,aj⟩:∃c:Nat,IntKind.u64.wrap mo=(c:Int)∧(c:Int)<18446744073709551616:=⟨(IntKind.u64.wrap mo).toNat,by rw[IntKind.wrap_u64];omega,by rw[IntKind.wrap_u64];omega⟩;obtain⟨q,eq⟩:=exl (u%255)
 have q1:(u:Int).tmod 255=(q:Int):=by rw[Int.tmod_eq_emod_of_nonneg (by omega)];omega
 have q2:IntKind.i64.wrap (q:Int)=q:=wiA;obtain⟨z,ez⟩:=exl (1+q)
 have q3:IntKind.i64.wrap (1+(q:Int))=(z:Int):=by rw[IntKind.wrap_i64];omega
 have q4:IntKind.u8.wrap (z:Int)=z:=by rw[IntKind.wrap_u8];omega
 have q5:=xor48 ⟨z,by omega⟩;have hd:=xor48_ne ⟨z,by omega⟩ (by show z≠0;omega);dsimp only at q5 hd;obtain⟨d2,V⟩:=exl (UInt8.ofNat (48^^^z));rw[V]at q5 hd;obtain⟨tT,W⟩:∃t:ByteArray,⟨(d2 :: R).toArray⟩=t:=⟨_,rfl⟩
 have ak:(d2 :: R).length=L:=by rw[←Q,List.length_cons,List.length_cons]
 have HP:Hid (∀w,Cg 11 #[.agg (sgA r s)] w (.string a)):=fun w=>by have t:=dput_any hr hs w;rwa [H,J]at t
 have ao:Hid (∀w,Cg 9 #[.string pa] w (.tuple #[.agg (sgA 0 0),.int .i64 2200])):=fun w=>by have t:=dget_any (getA_no fun r2 s2=>isD_cut hD (m:=m) (by rw[Q];exact mL)) w;rwa [K]at t
 have ap:Hid (∀w,Cg 9 #[.string (a++x)] w (.tuple #[.agg (sgA 0 0),.int .i64 2200])):=fun w=>by have t:=dget_any (getA_no fun r2 s2=>isD_more hD (b:=UInt8.ofNat y)) w;rwa [U]at t
 have aq:Hid (∀w,Cg 9 #[.string tT] w (.tuple #[.agg (sgA 0 0),.int .i64 2200])):=fun w=>by have t:=dget_any (l:=d2 :: R) (getA_no fun r2 s2 h=>by obtain⟨R2,e2⟩:=derD_head r2 s2;have:=h.2.2;rw[e2]at this;exact hd (List.cons.inj this).1) w;rwa [W]at t
 have ar:Hid (∀w,Cg 15 #[] w (.bool true)):=fun w=>awake22_any w;clear ai ac H hD hr hs kr ks hb ab em mL ad K ex U aj eq ez hd V ah
 go_enter func5,ntmps5
 go_upto_region 1 with fail
 refine gen_w (fun v=>Gr w v∧Vr v (w.heap.size) (sgA r s)) ⟨grA,vrA⟩ ?_;rintro v0 ⟨G,B⟩;refine wp_wS [.T,.F] [0] ⟨.z ar.out,⟨⟩⟩ fun aD v1 f h1=>?_;simp only[fzw];clear h1;have C:=f;clear f
 go_upto_region 3 with fail
 refine wp_wS [.c (.agg (sgA r s)),.c (.string a),.c (.string a)] [0,1] ⟨.g 27 0 (B.gr C) rfl,.z HP.out,⟨⟩⟩ fun aE v2 f h3=>?_;simp only[fzw];clear h3;replace C:=C.trans f;clear f
 go_upto_region 4 with fail
 refine wp_wS [.c (.string a),.F] [1] ⟨.s (.binOp .eql 9 (.const (.string a)) (.const (.string { data :=#[] })) 9) rfl fun X f=>by simp[go_sem,exI,ne],⟨⟩⟩ fun aF v3 f h4=>?_;simp only[fzw];clear h4;replace C:=C.trans f;clear f
 go_upto_region 6 with fail
 refine wp_v false [.c (.string a),.c (.int .i64 ct),.c (.int .u64 c),.c (.string a),.c (.int .i64 (a.size:Int)),.c (.int .u64 L),.c (.int .u64 m),.c (.int .i64 m),.c (.string pa),.c (.tuple #[.agg (sgA 0 0),.int .i64 2200]),.c (.tuple #[.agg (sgA 0 0),.int .i64 2200]),.c (.agg (sgA 0 0)),.c (.int .i64 2200),.a,.u,.c (.int .i64 2200)] [2,5,6,7,8,9] [⟨13,14,27,sgA 0 0,fun _=>sgA 0 0⟩] ⟨.s (.convert 3 41 (.const (.int .i64 ct))) rfl fun X f=>by simp[go_sem,exI,hc],.s (.convert 3 41 (.const (.int .i64 (a.size:Int)))) rfl fun X f=>by simp[go_sem,exI,la,hL],.s (.binOp .rem 41 (.const (.int .u64 c)) (.const (.int .u64 L)) 41) rfl fun X f=>by simp[go_sem,exI,hm,ae],.s (.convert 41 3 (.const (.int .u64 m))) rfl fun X f=>by simp[go_sem,exI,af],.s (.slice 9 (.const (.string a)) none (some (.const (.int .i64 m))) none) rfl fun X f=>by simp[go_sem,exI,ag],.z ao.out,⟨⟩⟩ ⟨.k zSg (.t rfl),⟨⟩⟩ fun Y v4 f h6 au=>?_;simp only[fzw,Kw.a];obtain⟨⟨av,d⟩,-⟩:(v3.heap.size≤(Y 13 0).2∧Vr v4 (Y 13 0).2 (sgA 0 0))∧True:=au;clear h6;replace C:=C.trans f;clear f;replace G:=G.trans C;replace B:=B.gr C;clear C
 go_upto_region 8 with (go_at_call 9;refine(ap.out _).mono ?_;rintro e wB ⟨rfl,o⟩)
 obtain⟨aw,P⟩:=exl (wB.heap.size);simp only[P];refine gen_w (fun I=>Gr v4 I∧Vr I aw (sgA 0 0)) ⟨(((Gr.refl _).alloc _).trans o).alloc _,by subst P;exact Vr.new _ _ _⟩ ?_;clear P o;rintro u7 ⟨o,p⟩;replace G:=G.trans o;replace B:=B.gr o;replace d:=d.gr o;clear o;obtain⟨gR,H⟩:=exl (u7.heap.size);obtain⟨cap,wU,D,S,gU⟩:=cvU_run u7 (48 :: R);rw[J,Q,H]at D;rw[Q,H]at S
 go_upto_region 9 with fail
 clear D
 have k0:wU.cell? ⟨gR,0,none⟩=some (.int .u8 48):=by rw[S.cell 0 (by omega)];rfl
 have z0:wU.frozen? ⟨gR,0,none⟩=false:=(S.room 0 (by have:=S.le;omega)).2
 have i0:(0:Int)<L:=by omega
 go_upto_region 10 with fail
 refine gen_w (fun I=>Gr u7 I∧∀i,i<L→I.cell? ⟨gR,i,none⟩=some (uF (d2 :: R) i)) ⟨by rw[setCell_setBlk];exact gr_setNew gU (by omega),fun i hi=>?_⟩ ?_
 ·rw[setCell_setBlk,cell_blk,blk_setBlk _ _ _ (Array.size_pos_iff.2 (ne_cell22 k0)),Array.getElem?_setIfInBounds]
  by_cases e:0=i
  ·subst e;rw[if_pos rfl,if_pos (Array.size_pos_iff.2 (ne_cell22 k0))];rfl
  ·rw[if_neg e,←cell_blk,S.cell i hi];obtain⟨j,rfl⟩:∃j,i=j+1:=⟨i-1,by omega⟩
   rfl
 clear k0 z0 S gU H;rintro uT ⟨Z,hC⟩;replace G:=G.trans Z;replace B:=B.gr Z;replace d:=d.gr Z;replace p:=p.gr Z;clear Z
 have D:(cvT (.slice (some ⟨gR,0,none⟩) L cap)).run prog uT=.ok (.string tT) uT:=by
  have t:=cvT_cells22 (cap:=cap) (fun i hi=>hC i (by omega))
  rwa [ak,W]at t
 go_upto_region 11 with (go_at_call 9;refine(aq.out _).mono ?_;rintro e wB ⟨rfl,o⟩)
 obtain⟨ax,P⟩:=exl (wB.heap.size);simp only[P];refine gen_w (fun I=>Gr uT I∧Vr I ax (sgA 0 0)) ⟨(o).alloc _,by subst P;exact Vr.new _ _ _⟩ ?_;clear P o;rintro aG ⟨o,aa⟩;replace G:=G.trans o;replace B:=B.gr o;replace d:=d.gr o;replace p:=p.gr o;clear o;clear D hC
 go_upto_region 11 with fail
 refine wp_wS [.c (.int .i64 2200),.c (.int .i64 2200),.T,.T,.c (.int .i64 2200),.c (.int .i64 2200),.T,.T,.T,.c (.int .i64 2200),.c (.int .i64 2200),.T,.T,.T] [1,5,10] ⟨.y (num_any _),.y (num_any _),.y (num_any _),⟨⟩⟩ fun az v5 f ay=>?_;simp only[fzw];clear ay;have A:=f;clear f;replace G:=G.trans A;replace B:=B.gr A;replace d:=d.gr A;replace p:=p.gr A;replace aa:=aa.gr A;clear A
 go_wp2_with fail
 go_ret
 exact⟨rfl,G⟩
end
end
end Go.Proofs.Ytdomjicpdbblnaa