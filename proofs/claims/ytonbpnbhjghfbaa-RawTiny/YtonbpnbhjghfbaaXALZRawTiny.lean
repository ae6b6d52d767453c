import Derived.Test.YtonbpnbhjghfbaaXAZYu
import Derived.Test.YtonbpnbhjghfbaaXAZF
import Derived.Test.YtonbpnbhjghfbaaXAIT
namespace Go.Proofs.Ytonbpnbhjghfbaa
open Go.RowKit Go.Proofs.Try
set_option maxRecDepth 100000
set_option maxHeartbeats 8000000
section
attribute [local go_sem ↓] uz1
attribute [local go_sem] uz2
section
theorem u8t{x:Nat}(h:x<256):(UInt8.ofNat x).toNat=x:=by
 rw[UInt8.toNat_ofNat']
 omega
theorem bn_t{x:Nat}(h:x<256):bn [UInt8.ofNat x]=x:=by
 show 0*256+(UInt8.ofNat x).toNat=x
 rw[u8t h]
 omega
theorem rawG_tiny{N a y:Nat}(hn:nzB N=1)(ha:a<256)(hy:y<256):rawG N [UInt8.ofNat a,UInt8.ofNat y]=if a<N∧y<N then(a,y,0) else(0,0,2302):=by
 rw[rawG,hn,if_pos (show [UInt8.ofNat a,UInt8.ofNat y].length=2*1 from rfl)]
 show (if bn [UInt8.ofNat a]<N∧bn [UInt8.ofNat y]<N then(bn [UInt8.ofNat a],bn [UInt8.ofNat y],(0:Int)) else(0,0,2302))=_
 rw[bn_t ha,bn_t hy]
theorem tiny_nz(k:Nat)(h1:13≤k)(h2:k≤15):nzB (oN k)=1:=by
 obtain rfl|rfl|rfl:k=13∨k=14∨k=15:=by omega
 all_goals decide +kernel
theorem cv2t{x y:Nat}{S:ByteArray}(hx:x<256)(hy:y<256)(hS:⟨[UInt8.ofNat x,UInt8.ofNat y].toArray⟩=S)(v:World)(b:Nat)(h:blk v b =#[.int .u8 x,.int .u8 y]):(cvT (.slice (some ⟨b,0,none⟩) 2 2)).run prog v=.ok (.string S) v:=
 hS▸cvT_blk [UInt8.ofNat x,UInt8.ofNat y] v b (by rw[h,List.map_cons,List.map_cons,List.map_nil,u8t hx,u8t hy])
theorem neNt(x z:Nat)(w:World):(binOp .neq 25 (.agg (nw 9 x)) (.agg (nw 9 z))).run prog w=.ok (.bool (!(eqN 9 x z))) w:=by
 have h:=eqNat x z w;rw[run_eql_struct]at h;rw[run_neq_struct]
 cases hr:(Op.equalIn 10000 25 (.agg (nw 9 x)) (.agg (nw 9 z))).run prog w with
 | ok b w'=>
  rw[hr]at h;simp[Result.andThen]at h ⊢;exact⟨by rw[h.1],h.2⟩
 | _=>rw[hr]at h;simp[Result.andThen]at h
attribute [local go_sem] uz4
attribute [local go_sem ↓] cvT_is bsB_is bsl_is loadC_is storeC_is loadSg_is storeSg_is zvSg_is buildSg_is loadCu_is storeCu_is zvCu_is Go.wp_at_zero Go.wp_at_succ
attribute [local go_sem] bsB2 loadC storeC0 storeCr crA_size loadSg storeSg zvSg sgA_size buildSg0 buildSg1 buildSg2 loadSR loadSS sgA_R sgA_S loadCu storeCu zvCu cu_size loadCN cu_N frz_setBlk blk_setBlk setBlk_setBlk blk_other
theorem lzrawtiny_any(id b:Int)(w:World):Cg 6 #[.int .i64 id,.int .i64 b] w (.bool true):=by
 obtain⟨u,hu,ai,hk⟩:=idxT_conv id;have ac:=idxT_bd id;obtain⟨k,ad⟩:=exl (idxT id);rw[ad]at hk ac;obtain⟨i,V⟩:=ac
 have h1:1≤k:=by omega
 have u0:(0:Int)≤u:=by omega
 have aj:(13:Int)+u%3=k:=by omega
 have ak:IntKind.i64.wrap ((u:Int)%3)=(u:Int)%3:=by rw[IntKind.wrap_i64];omega
 have al:IntKind.u64.wrap ((u:Int)%3)=(u:Int)%3:=by rw[IntKind.wrap_u64];omega
 have ao:(u:Int).tmod 3=(u:Int)%3:=by rw[Int.tmod_eq_emod_of_nonneg (by omega)]
 have k0:(1:Int)≤k:=by omega
 have k1:(k:Int)≤15:=by omega
 have ap:id%18446744073709551616=(u:Int):=by rw[←hu,IntKind.wrap_u64]
 clear ad hk;have ae:Hid (∀w,Calls prog 7 #[.int .i64 k] w (GetQ k w)):=fun w=>getq_yes k h1 V w;have af:Hid (∀w,Cg 11 #[] w (.bool true)):=fun w=>awake23_any w
 go_enter func6,ntmps6
 go_upto_region 1 with fail
 refine gen_w (fun v=>Hid (Gr w v)) (by exact grA) ?_;intro u0 J
 go_upto_region 6 with (first
  | (go_at_call 11;refine(af.out _).mono ?_;rintro e WA ⟨rfl,GA⟩)
  | (go_at_call 7;refine(ae.out _).mono ?_;rintro e WB ⟨L,rfl,HQ,GB⟩))
 obtain⟨K,W⟩:=exl (WB.heap.size);simp only[W]
 refine gen_w (fun v=>Gr w v∧Vr v K (crA (k:Int) (nN k) L)∧∀j,Sl v (L j).1 (nN k j)) ?_ ?_
 ·subst W;have G:=J.out;have g1:Gr WB (WB.alloc (.cells (crA (k:Int) (nN k) L) 31)):=(Gr.refl _).alloc _;have g:=(GA.trans GB).trans g1;exact⟨G.trans g,Vr.new _ _ _,fun j=>(HQ j).gr g1⟩
 clear W GB ae J GA af HQ hu ai aj ak al ao ap u0 k0 k1;rintro v0 ⟨G,f,HQ⟩;obtain⟨m,P⟩:=exl (oN k);have hb:=tinyP k i V;rw[P]at hb;have Q:dl (oN k)=1:=tiny_dl k i V;obtain⟨bp,ag,-,ah⟩:=HQ 3 0 (by show 0<dl (oN k);rw[Q];decide)
 have aq:v0.cell? ⟨bp,0,none⟩=some (.int .u32 m):=by
  rw[cell_blk,ah]
  show some (Value.int .u32 ((dg (oN k) 0:Nat):Int))=_
  rw[P,show dg m 0=m by unfold dg;rw[pq_zero,Nat.div_one];exact Nat.mod_eq_of_lt (by omega)]
 have k4:v0.cell? ⟨K,4,none⟩=some (.slice (some ⟨bp,0,none⟩) 1 (L 3).2):=by
  rw[f.cell,←ag,←Q];rfl
 have m1:(200:Int)≤m:=by omega
 have m2:(m:Int)≤255:=by omega
 obtain⟨y,A,hy⟩:∃y:Nat,IntKind.u8.wrap b=(y:Int)∧y<256:=⟨(IntKind.u8.wrap b).toNat,by rw[IntKind.wrap_u8];omega,by rw[IntKind.wrap_u8];omega⟩;have C:IntKind.u64.wrap (y:Int)=y:=wuA
 have wy:y<18446744073709551616:=by omega
 have X:Hid (IntKind.u8.wrap b=(y:Int)):=A;have Y:=tiny_nz k i V;have J:Hid (Gr w v0∧Vr v0 K (crA (k:Int) (nN k) L)):=⟨G,f⟩;clear G f HQ
 go_wp2_with fail
 clear k4 aq ah ag
 go_loopw [8] (fun ia wr=>∃a:Nat,ia=.int .i64 a∧Hu (a≤256)∧Hid (Gr w wr∧Vr wr K (crA (k:Int) (nN k) L))) (fun ia _=>256-(intOf ia).toNat)
 case atStart=>exact⟨0,rfl,fun _=>by decide,J⟩
 case round=>
  clear J;obtain⟨a,rfl,HX,J⟩:=hrel
  have a0:(0:Int)≤a:=by omega
  by_cases hx:a<256
  ·have a1:(a:Int)<256:=by omega
   have ar:IntKind.u8.wrap (a:Int)=a:=by rw[IntKind.wrap_u8];omega
   have B:IntKind.u64.wrap (a:Int)=a:=wuA
   have wa:a<18446744073709551616:=by omega
   obtain⟨S,Z⟩:∃S:ByteArray,⟨[UInt8.ofNat a,UInt8.ofNat y].toArray⟩=S:=⟨_,rfl⟩;have aa:=cv2t hx hy Z;have⟨G,f⟩:=J.out;clear J
   by_cases hxa:a<m
   ·by_cases hya:y<m
    ·skip
     have ha:a<m:=by omega
     have ab:y<m:=by omega
     have l:Hid (∀w,Cg 9 #[.int .i64 k,.string S] w (.tuple #[.agg (sgA a y),.int .i64 0])):=fun w=>rwget h1 V S (by rw[←Z,P];exact(rawG_tiny (P▸Y) hx hy).trans (if_pos ⟨hxa,hya⟩)) w;clear Z hya hxa
     have k9:(wr.alloc (.cells #[.int .u8 a,.int .u8 y] 5)).cell? ⟨K,0,none⟩=some (.int .i64 k):=by rw[(f.gr ((Gr.refl _).alloc _)).cell];rfl
     go_upto_region 12 with (go_at_call 9;refine(l.out _).mono ?_;rintro e WG ⟨rfl,D⟩)
     obtain⟨e8,h⟩:=exl (WG.heap.size);simp only[h];refine gen_w (fun H=>Gr w H∧Vr H K (crA (k:Int) (nN k) L)∧Vr H e8 (sgA a y)) ⟨((G.alloc _).trans D).alloc _,((f.gr ((Gr.refl _).alloc _)).gr D).gr ((Gr.refl _).alloc _),by subst h;exact Vr.new _ _ _⟩ ?_;clear h D k9 aa l G f;rintro v5 ⟨G,f,q⟩;have A:=X.out;refine wp_wS [.c (.int .i64 a),.c (.int .u64 a),.c (.int .u64 m),.T,.T,.c (.int .i64 b),.c (.int .u8 y),.c (.int .u64 y),.c (.int .u64 m),.T,.T,.T] [1,3,6,7,9] ⟨.s (.convert 3 22 (.const (.int .i64 a))) rfl fun x d=>by simp[go_sem,exI,B],.s (.binOp .lss 22 (.const (.int .u64 a)) (.const (.int .u64 m)) 22) rfl fun x d=>by simp[go_sem,exI,ha],.s (.convert 3 5 (.const (.int .i64 b))) rfl fun x d=>by simp[go_sem,exI,A],.s (.convert 5 22 (.const (.int .u8 y))) rfl fun x d=>by simp[go_sem,exI,C],.s (.binOp .lss 22 (.const (.int .u64 y)) (.const (.int .u64 m)) 22) rfl fun x d=>by simp[go_sem,exI,ab],⟨⟩⟩ fun R v1 d I=>?_;simp only[fzw];clear I;replace G:=G.trans d;replace q:=q.gr d;replace f:=f.gr d;clear d
     go_upto_region 13 with fail
     refine wp_w [.O,.O,.T,.T,.F,.F,.T,.T,.c (pv e8 0),.N a,.c (.int .i64 a),.c (.int .u64 a),.N a,.F,.F,.c (pv e8 9),.N y,.c (.int .i64 b),.c (.int .u8 y),.c (.int .u64 y),.N y,.F,.F,.F,.F,.F,.T,.F,.F,.u,.u,.u,.F,.F] [1,9,11,12,13,16,18,19,20,21] ?hs2 ?hf2
     case hs2=>
      exact⟨.y (num_any _),.g 25 0 q rfl,.s (.convert 3 22 (.const (.int .i64 a))) rfl fun x d=>by simp[go_sem,exI,B],.z (one_any _ wa),.s (.binOp .neq 25 (.const (.agg (nw 9 a))) (.const (.agg (nw 9 a))) 25) rfl fun x d=>by simp[go_sem,exI,neNt,eqN_self],.g 25 9 q rfl,.s (.convert 3 5 (.const (.int .i64 b))) rfl fun x d=>by simp[go_sem,exI,A],.s (.convert 5 22 (.const (.int .u8 y))) rfl fun x d=>by simp[go_sem,exI,C],.z (one_any _ wy),.s (.binOp .neq 25 (.const (.agg (nw 9 y))) (.const (.agg (nw 9 y))) 25) rfl fun x d=>by simp[go_sem,exI,neNt,eqN_self],⟨⟩⟩
     intro U v2 d i;simp only[fzw];clear i;replace G:=G.trans d;replace q:=q.gr d;replace f:=f.gr d;clear d
     go_wp2_with fail
     go_roundw
     case rel=>exact⟨a+1,by go_num,fun _=>hx,G,f⟩
     case measure=>simp[intOf];omega
    ·skip
     have ha:a<m:=by omega
     have ab:m≤y:=by omega
     have l:Hid (∀w,Cg 9 #[.int .i64 k,.string S] w (.tuple #[.agg (sgA 0 0),.int .i64 2302])):=fun w=>rwget h1 V S (by rw[←Z,P];exact(rawG_tiny (P▸Y) hx hy).trans (if_neg fun e=>hya e.2)) w;clear Z hya hxa
     have k9:(wr.alloc (.cells #[.int .u8 a,.int .u8 y] 5)).cell? ⟨K,0,none⟩=some (.int .i64 k):=by rw[(f.gr ((Gr.refl _).alloc _)).cell];rfl
     go_upto_region 12 with (go_at_call 9;refine(l.out _).mono ?_;rintro e WG ⟨rfl,D⟩)
     obtain⟨e8,h⟩:=exl (WG.heap.size);simp only[h];refine gen_w (fun H=>Gr w H∧Vr H K (crA (k:Int) (nN k) L)∧Vr H e8 (sgA 0 0)) ⟨((G.alloc _).trans D).alloc _,((f.gr ((Gr.refl _).alloc _)).gr D).gr ((Gr.refl _).alloc _),by subst h;exact Vr.new _ _ _⟩ ?_;clear h D k9 aa l G f;rintro v5 ⟨G,f,q⟩;have A:=X.out;refine wp_wS [.c (.int .i64 a),.c (.int .u64 a),.c (.int .u64 m),.T,.T,.c (.int .i64 b),.c (.int .u8 y),.c (.int .u64 y),.c (.int .u64 m),.F,.F,.F] [1,3,6,7,9] ⟨.s (.convert 3 22 (.const (.int .i64 a))) rfl fun x d=>by simp[go_sem,exI,B],.s (.binOp .lss 22 (.const (.int .u64 a)) (.const (.int .u64 m)) 22) rfl fun x d=>by simp[go_sem,exI,ha],.s (.convert 3 5 (.const (.int .i64 b))) rfl fun x d=>by simp[go_sem,exI,A],.s (.convert 5 22 (.const (.int .u8 y))) rfl fun x d=>by simp[go_sem,exI,C],.s (.binOp .lss 22 (.const (.int .u64 y)) (.const (.int .u64 m)) 22) rfl fun x d=>by simp[go_sem,exI,ab],⟨⟩⟩ fun R v1 d I=>?_;simp only[fzw];clear I;replace G:=G.trans d;replace q:=q.gr d;replace f:=f.gr d;clear d
     go_upto_region 13 with fail
     refine wp_w [.c (.int .i64 2302),.c (.int .i64 2302),.F,.F,.F,.F,.F,.F,.u,.u,.u,.u,.u,.u,.u,.u,.u,.u,.u,.u,.u,.u,.u,.F,.F,.F,.F,.T,.T,.c (.int .i64 2302),.c (.int .i64 2302),.F,.F,.F] [1,30] ?hs4 ?hf4
     case hs4=>
      exact⟨.y (num_any _),.y (num_any _),⟨⟩⟩
     intro U v2 d i;simp only[fzw];clear i;replace G:=G.trans d;replace q:=q.gr d;replace f:=f.gr d;clear d
     go_wp2_with fail
     go_roundw
     case rel=>exact⟨a+1,by go_num,fun _=>hx,G,f⟩
     case measure=>simp[intOf];omega
   ·skip
    have ha:m≤a:=by omega
    have l:Hid (∀w,Cg 9 #[.int .i64 k,.string S] w (.tuple #[.agg (sgA 0 0),.int .i64 2302])):=fun w=>rwget h1 V S (by rw[←Z,P];exact(rawG_tiny (P▸Y) hx hy).trans (if_neg fun e=>hxa e.1)) w;clear Z hxa
    have k9:(wr.alloc (.cells #[.int .u8 a,.int .u8 y] 5)).cell? ⟨K,0,none⟩=some (.int .i64 k):=by rw[(f.gr ((Gr.refl _).alloc _)).cell];rfl
    go_upto_region 12 with (go_at_call 9;refine(l.out _).mono ?_;rintro e WG ⟨rfl,D⟩)
    obtain⟨e8,h⟩:=exl (WG.heap.size);simp only[h];refine gen_w (fun H=>Gr w H∧Vr H K (crA (k:Int) (nN k) L)∧Vr H e8 (sgA 0 0)) ⟨((G.alloc _).trans D).alloc _,((f.gr ((Gr.refl _).alloc _)).gr D).gr ((Gr.refl _).alloc _),by subst h;exact Vr.new _ _ _⟩ ?_;clear h D k9 aa l G f;rintro v5 ⟨G,f,q⟩;have A:=X.out;refine wp_wS [.c (.int .i64 a),.c (.int .u64 a),.c (.int .u64 m),.F,.F,.u,.u,.u,.u,.u,.F,.F] [1,3] ⟨.s (.convert 3 22 (.const (.int .i64 a))) rfl fun x d=>by simp[go_sem,exI,B],.s (.binOp .lss 22 (.const (.int .u64 a)) (.const (.int .u64 m)) 22) rfl fun x d=>by simp[go_sem,exI,ha],⟨⟩⟩ fun R v1 d I=>?_;simp only[fzw];clear I;replace G:=G.trans d;replace q:=q.gr d;replace f:=f.gr d;clear d
    go_upto_region 13 with fail
    refine wp_w [.c (.int .i64 2302),.c (.int .i64 2302),.F,.F,.F,.F,.F,.F,.u,.u,.u,.u,.u,.u,.u,.u,.u,.u,.u,.u,.u,.u,.u,.F,.F,.F,.F,.T,.T,.c (.int .i64 2302),.c (.int .i64 2302),.F,.F,.F] [1,30] ?hs6 ?hf6
    case hs6=>
     exact⟨.y (num_any _),.y (num_any _),⟨⟩⟩
    intro U v2 d i;simp only[fzw];clear i;replace G:=G.trans d;replace q:=q.gr d;replace f:=f.gr d;clear d
    go_wp2_with fail
    go_roundw
    case rel=>exact⟨a+1,by go_num,fun _=>hx,G,f⟩
    case measure=>simp[intOf];omega
  ·have a1:¬(a:Int)<256:=by omega
   have⟨G,f⟩:=J.out;clear J
   go_wp2_with fail
   go_ret
   exact⟨rfl,G⟩
end
end
end Go.Proofs.Ytonbpnbhjghfbaa