import Derived.Test.YtiigakdbabijhaaGreatXALZWhole
namespace Go.Proofs.YtiigakdbabijhaaGreat
open Go.RowKit Go.Proofs.Tryz
set_option maxRecDepth 100000
set_option maxHeartbeats 8000000
section
attribute [local go_sem ↓] uz1
attribute [local go_sem] uz2
section
def twoT(k:Nat):Nat→Nat
 | 0=>0
 | n+1=>twoT k n+2*cond (isY k n) 1 0
theorem rowT_some(k x y:Nat)(ho:onB k x y false=true):∀n,y<n→rowTy k x n≠0
 | n+1,hy=>by
  rw[rowTy]
  by_cases e:y=n
  ·subst e;rw[ho];simp
  ·have:=rowT_some k x y ho n (by omega)
   omega
theorem isY_row{k x:Nat}(h1:13≤k)(h2:k≤15):isY k x=decide (rowTy k x 256≠0):=by
 have l:=tinyP k h1 h2
 cases h:isY k x with
 | true=>
  have f:=(ysN_on (b:=0) (by omega) h2 h (by decide)).1;refine(decide_eq_true (rowT_some k x _ f 256 ?_)).symm;have:=f;simp only[OnQ,onB,Bool.false_eq_true,if_false,Bool.and_eq_true,decide_eq_true_eq]at this
  show ysN k 0 x<256
  omega
 | false=>
  refine(decide_eq_false fun e=>?_).symm;refine e (Nat.eq_zero_of_not_pos fun i=>?_)
  by_cases he:∃y,y<256∧onB k x y false=true
  ·obtain⟨y,-,j⟩:=he;rw[(ysN_of (P:=(x,y,false)) (by omega) h2 j rfl).1]at h
   cases h
  ·have d:∀n,n≤256→rowTy k x n=0:=fun n=>by
    induction n with
    | zero=>exact fun _=>rfl
    | succ n ih=>
     intro q;rw[rowTy,ih (by omega)]
     cases hb:onB k x n false with
     | false=>rfl
     | true=>exact absurd ⟨n,by omega,hb⟩ he
   exact e (d 256 (Nat.le_refl _))
def twoC(p a b:Nat):Nat→Nat
 | 0=>0
 | n+1=>twoC p a b n+2*cond (Nat.beq (rowQ p a b n 256) 0) 0 1
theorem twoT_C{k:Nat}(h1:13≤k)(h2:k≤15)(n:Nat):twoT k n=twoC (pN k) (aN k) (bN k) n:=by
 induction n with
 | zero=>rfl
 | succ n ih=>
  rw[twoT,twoC,ih,isY_row h1 h2,rowT_Q]
  cases h:Nat.beq (rowQ (pN k) (aN k) (bN k) n 256) 0 with
  | true=>rw[Nat.eq_of_beq_eq_true h];rfl
  | false=>
   have d:rowQ (pN k) (aN k) (bN k) n 256≠0:=fun e=>by rw[e]at h;cases h
   rw[decide_eq_true d]
   rfl
theorem two13:twoC 251 248 26 256=222:=by decide +kernel
theorem two14:twoC 241 0 13 256=210:=by decide +kernel
theorem two15:twoC 239 117 8 256=228:=by decide +kernel
theorem two_all{k:Nat}(h1:13≤k)(h2:k≤15):twoT k 256+1=oN k:=by
 rw[twoT_C h1 h2]
 obtain rfl|rfl|rfl:k=13∨k=14∨k=15:=by omega
 ·rw[show pN 13=251 from by decide +kernel,show aN 13=248 from by decide +kernel,show bN 13=26 from by decide +kernel,two13];decide +kernel
 ·rw[show pN 14=241 from by decide +kernel,show aN 14=0 from by decide +kernel,show bN 14=13 from by decide +kernel,two14];decide +kernel
 ·rw[show pN 15=239 from by decide +kernel,show aN 15=117 from by decide +kernel,show bN 15=8 from by decide +kernel,two15];decide +kernel
theorem ysN_bd{k b x:Nat}(h1:13≤k)(h2:k≤15)(h:isY k x=true)(hb:b<2):ysN k b x<256∧ysN k b x%2=b:=by
 have f:=tinyP k h1 h2;have d:=ysN_on (by omega) h2 h hb;refine⟨?_,d.2⟩;have:=d.1;simp only[OnQ,onB,Bool.false_eq_true,if_false,Bool.and_eq_true,decide_eq_true_eq]at this
 omega
theorem gt_tiny2{k x:Nat}{r:Bool}(h1:13≤k)(h2:k≤15)(hx:x<256)(hr:isY k x=r){b:Nat}(hb:b<2){Y:Nat}(hY:ysN k b x=Y):gtL k [UInt8.ofNat (2+b),UInt8.ofNat x]=bif r then(x,Y,0) else(0,0,2101):=by
 have e:[UInt8.ofNat x].length=szN k:=by rw[tiny_sz h1 h2];rfl
 obtain rfl|rfl:b=0∨b=1:=by omega
 ·rw[gtL_cons,if_neg (fun h=>absurd h.1 (by decide)),if_pos ⟨.inl rfl,e⟩,bn_one hx,hr,←hY]
  rfl
 ·rw[gtL_cons,if_neg (fun h=>absurd h.1 (by decide)),if_pos ⟨.inr rfl,e⟩,bn_one hx,hr,←hY]
  rfl
theorem neN9(x z:Nat)(w:World):(binOp .neq 25 (.agg (nw 9 x)) (.agg (nw 9 z))).run prog w=.ok (.bool (!(eqN 9 x z))) w:=by
 have h:=eqNat x z w;rw[run_eql_struct]at h;rw[run_neq_struct]
 cases hr:(Op.equalIn 10000 25 (.agg (nw 9 x)) (.agg (nw 9 z))).run prog w with
 | ok b w'=>
  rw[hr]at h;simp[Result.andThen]at h ⊢;exact⟨by rw[h.1],h.2⟩
 | _=>rw[hr]at h;simp[Result.andThen]at h
theorem and_127(n:Int):bits .and .i64 n 127=n%128:=by
 have d:(BitVec.ofInt 64 127).toNat=2^7-1:=by decide
 have f:(BitVec.ofInt 64 n&&&BitVec.ofInt 64 127).toNat=(n%((2^64:Nat):Int)).toNat%2^7:=by
  rw[BitVec.toNat_and,BitVec.toNat_ofInt,d,Nat.and_two_pow_sub_one_eq_mod]
 show IntKind.i64.wrap ((BitVec.ofInt 64 n&&&BitVec.ofInt 64 127).toNat:Nat)=n%128
 rw[f,IntKind.wrap_i64]
 omega
theorem twoT_le(k n:Nat):twoT k n≤2*n:=by
 induction n with
 | zero=>exact Nat.le_refl _
 | succ n ih=>
  rw[twoT]
  cases isY k n <;> simp <;> omega
attribute [local go_sem] uz8
attribute [local go_sem ↓] cvT_is bsB_is bsl_is loadC_is storeC_is loadPt_is storePt_is zvPt_is buildPt_is loadPn_is storePn_is zvPn_is loadCu_is storeCu_is zvCu_is buildCu_is buildPn_is Go.wp_at_zero Go.wp_at_succ
attribute [local go_sem] bsB2 bsB3 loadC storeC0 storeCr crA_size loadPt storePt zvPt ptA_size loadPn loadPX pnt_X storePn zvPn pnt_size loadCu storeCu zvCu cu_size buildCu0 buildPnI buildPn2 loadCP loadCA loadCB loadCN loadCG loadCX loadCY cu_P cu_A cu_B cu_N cu_G cu_X cu_Y frz_setBlk blk_setBlk setBlk_setBlk blk_other
theorem lztiny_any(id fs:Int)(w:World):Cg 5 #[.int .i64 id,.int .i64 fs] w (.bool true):=by
 obtain⟨u,hu,ay,hk⟩:=idxT_conv id;have aj:=idxT_bd id;obtain⟨k,ak⟩:=exl (idxT id);rw[ak]at hk aj;obtain⟨A,P⟩:=aj
 have h1:1≤k:=by omega
 have u0:(0:Int)≤u:=by omega
 have az:(13:Int)+u%3=k:=by omega
 have aA:IntKind.i64.wrap ((u:Int)%3)=(u:Int)%3:=by rw[IntKind.wrap_i64];omega
 have aB:IntKind.u64.wrap ((u:Int)%3)=(u:Int)%3:=by rw[IntKind.wrap_u64];omega
 have aC:(u:Int).tmod 3=(u:Int)%3:=by rw[Int.tmod_eq_emod_of_nonneg (by omega)]
 have k0:(1:Int)≤k:=by omega
 have k1:(k:Int)≤15:=by omega
 have aD:id%18446744073709551616=(u:Int):=by rw[←hu,IntKind.wrap_u64]
 clear ak hk;have ao:Hid (∀w,Calls prog 10 #[.int .i64 k] w (GetQ k w)):=fun w=>getq_yes k h1 P w;have ap:Hid (∀w,Cg 14 #[] w (.bool true)):=fun w=>awake21_any w
 go_enter func5,ntmps5
 go_upto_region 6 with (first
  | (go_at_call 14;refine(ap.out _).mono ?_;rintro e WA ⟨rfl,GA⟩)
  | (go_at_call 10;refine(ao.out _).mono ?_;rintro e WB ⟨U,rfl,HQ,GB⟩))
 obtain⟨K,ac⟩:=exl (WB.heap.size);simp only[ac]
 refine gen_w (fun v=>Gr w v∧Vr v K (crA (k:Int) (nN k) U)∧∀j,Sl v (U j).1 (nN k j)) ?_ ?_
 ·subst ac;exact⟨(GA.trans GB).alloc _,Vr.new _ _ _,fun j=>(HQ j).gr ((Gr.refl _).alloc _)⟩
 clear ac GA GB HQ ap ao hu ay az aA aB aC aD u0 k0 k1;rintro Q ⟨G,i,HQ⟩;obtain⟨m,hm⟩:=exl (oN k);have hb:=tinyP k A P;have aq:=tinyT_bd k A P;rw[hm]at hb aq;have V:dl (oN k)=1:=tiny_dl k A P;obtain⟨bp,aa,-,ar⟩:=HQ 3 0 (by show 0<dl (oN k);rw[V];decide)
 have ae:Q.cell? ⟨bp,0,none⟩=some (.int .u32 m):=by
  rw[cell_blk,ar]
  show some (Value.int .u32 ((dg (oN k) 0:Nat):Int))=_
  rw[hm,show dg m 0=m by unfold dg;rw[pq_zero,Nat.div_one];exact Nat.mod_eq_of_lt (by omega)]
 have k4:Q.cell? ⟨K,4,none⟩=some (.slice (some ⟨bp,0,none⟩) 1 (U 3).2):=by
  rw[i.cell,←aa,←V];rfl
 have m1:(200:Int)≤m:=by omega
 have m2:(m:Int)≤255:=by omega
 have au:Hu (twoT k 256+1=m):=fun _=>hm▸two_all A P
 have av:bp<Q.heap.size:=by
  have:=(HQ 3 0 (by show 0<dl (oN k);rw[V];decide));obtain⟨b',e',p',-⟩:=this;rw[aa]at e'
  cases e'
  exact p'
 have HN:Hid (∀v,Gr Q v→Vr v K (crA (k:Int) (nN k) U)→v.cell? ⟨bp,0,none⟩=some (.int .u32 m)∧v.cell? ⟨K,4,none⟩=some (.slice (some ⟨bp,0,none⟩) 1 (U 3).2)):=fun v g c=>⟨by rw[cell_blk,g.blk bp av,←cell_blk];exact ae,by rw[c.cell,←aa,←V];rfl⟩;clear aq;have B:Hid (Gr Q Q∧Vr Q K (crA (k:Int) (nN k) U)):=⟨Gr.refl _,i⟩;have aE:Hid (Gr w Q):=G;clear i HQ ae k4 ar aa av G
 go_wp2_with fail
 go_loopw [7,8] (fun a7 a8 wr=>∃x c:Nat,a7=.int .i64 c∧a8=.int .i64 x∧Hu (x≤256∧twoT k x=c)∧Hid (Gr Q wr∧Vr wr K (crA (k:Int) (nN k) U))) (fun _ a8 _=>256-(intOf a8).toNat)
 case atStart=>exact⟨0,0,rfl,rfl,fun _=>⟨by decide,rfl⟩,B⟩
 case round=>
  clear B;obtain⟨x,c,rfl,rfl,HX,B⟩:=hrel
  have x0:(0:Int)≤x:=by omega
  have c0:(0:Int)≤c:=by omega
  have aH:c≤512:=by have:=HX.out ();have:=twoT_le k x;omega
  by_cases hx:x<256
  ·have x1:(x:Int)<256:=by omega
   have aI:IntKind.u8.wrap (x:Int)=x:=by rw[IntKind.wrap_u8];omega
   have ab:IntKind.u64.wrap (x:Int)=x:=wuA
   cases hr:isY k x with
   | false=>
    have af:Hu (x+1≤256∧twoT k (x+1)=c):=fun _=>⟨hx,by rw[twoT,(HX.out ()).2,hr];rfl⟩
    go_wp2_with fail
    go_loopw [7,9] (fun a7 a9 wr=>∃(d:Nat) (b:Int),a7=.int .i64 d∧a9=.int .i64 b∧(b=2∧d=c∨b=3∧d=c∨b=4∧d=c)∧Hid (Gr Q wr∧Vr wr K (crA (k:Int) (nN k) U))) (fun _ a9 _=>4-(intOf a9).toNat)
    case atStart=>exact⟨c,2,rfl,rfl,.inl ⟨rfl,rfl⟩,B⟩
    case round=>
     clear B;obtain⟨d,b,rfl,rfl,HB,B⟩:=hrel
     rcases HB with ⟨rfl,rfl⟩|⟨rfl,rfl⟩|⟨rfl,rfl⟩
     ·skip
      obtain⟨S,C⟩:∃S:ByteArray,⟨[2,UInt8.ofNat x].toArray⟩=S:=⟨_,rfl⟩;have D:∀v g,blk v g =#[.int .u8 2,.int .u8 x]→(cvT (.slice (some ⟨g,0,none⟩) 2 2)).run prog v=.ok (.string S) v:=fun v g h=>C▸cvT_blk [2,UInt8.ofNat x] v g (by rw[h,List.map_cons,List.map_cons,List.map_nil,u8n hx];rfl)
      have l:Hid (∀w,Cg 12 #[.int .i64 k,.string S] w (.tuple #[.agg (pnt 0 0 false),.int .i64 2101])):=fun w=>by have t:=sget_any h1 P [2,UInt8.ofNat x] (gt_tiny2 A P hx hr (b:=0) (by decide) rfl) w;rwa [C]at t
      have⟨G,i⟩:=B.out;clear B C
      have k9:wr.cell? ⟨K,0,none⟩=some (.int .i64 k):=by rw[i.cell];rfl
      go_upto_region 14 with (go_at_call 12;refine(l.out _).mono ?_;rintro e WG ⟨rfl,H⟩)
      obtain⟨L,f⟩:=exl (WG.heap.size);simp only[f];refine gen_w (fun I=>Gr Q I∧Vr I K (crA (k:Int) (nN k) U)∧Vr I L (pnt 0 0 false)) ⟨((G.alloc _).trans H).alloc _,((i.gr ((Gr.refl _).alloc _)).gr H).gr ((Gr.refl _).alloc _),by subst f;exact Vr.new _ _ _⟩ ?_;clear f H k9 D l G i;rintro v5 ⟨G,i,W⟩
      go_wp2_with (go_at_call 13;refine(num_any _ _).mono ?_;rintro e w' ⟨rfl,J⟩;replace J:=J.symm;subst J)
      go_roundw
      case rel=>exact⟨_,3,rfl,rfl,.inr (.inl ⟨rfl,rfl⟩),G,i⟩
      case measure=>decide
     ·skip
      obtain⟨S,C⟩:∃S:ByteArray,⟨[3,UInt8.ofNat x].toArray⟩=S:=⟨_,rfl⟩;have D:∀v g,blk v g =#[.int .u8 3,.int .u8 x]→(cvT (.slice (some ⟨g,0,none⟩) 2 2)).run prog v=.ok (.string S) v:=fun v g h=>C▸cvT_blk [3,UInt8.ofNat x] v g (by rw[h,List.map_cons,List.map_cons,List.map_nil,u8n hx];rfl)
      have l:Hid (∀w,Cg 12 #[.int .i64 k,.string S] w (.tuple #[.agg (pnt 0 0 false),.int .i64 2101])):=fun w=>by have t:=sget_any h1 P [3,UInt8.ofNat x] (gt_tiny2 A P hx hr (b:=1) (by decide) rfl) w;rwa [C]at t
      have⟨G,i⟩:=B.out;clear B C
      have k9:wr.cell? ⟨K,0,none⟩=some (.int .i64 k):=by rw[i.cell];rfl
      go_upto_region 14 with (go_at_call 12;refine(l.out _).mono ?_;rintro e WG ⟨rfl,H⟩)
      obtain⟨L,f⟩:=exl (WG.heap.size);simp only[f];refine gen_w (fun I=>Gr Q I∧Vr I K (crA (k:Int) (nN k) U)∧Vr I L (pnt 0 0 false)) ⟨((G.alloc _).trans H).alloc _,((i.gr ((Gr.refl _).alloc _)).gr H).gr ((Gr.refl _).alloc _),by subst f;exact Vr.new _ _ _⟩ ?_;clear f H k9 D l G i;rintro v5 ⟨G,i,W⟩
      go_wp2_with (go_at_call 13;refine(num_any _ _).mono ?_;rintro e w' ⟨rfl,J⟩;replace J:=J.symm;subst J)
      go_roundw
      case rel=>exact⟨_,4,rfl,rfl,.inr (.inr ⟨rfl,rfl⟩),G,i⟩
      case measure=>decide
     ·clear hr
      go_wp2_with fail
      go_roundw
      case rel=>exact⟨x+1,_,rfl,by go_num,af.out,B⟩
      case measure=>simp[intOf];omega
   | true=>
    have af:Hu (x+1≤256∧twoT k (x+1)=c+2):=fun _=>⟨hx,by rw[twoT,(HX.out ()).2,hr];rfl⟩
    go_wp2_with fail
    go_loopw [7,9] (fun a7 a9 wr=>∃(d:Nat) (b:Int),a7=.int .i64 d∧a9=.int .i64 b∧(b=2∧d=c∨b=3∧d=c+1∨b=4∧d=c+2)∧Hid (Gr Q wr∧Vr wr K (crA (k:Int) (nN k) U))) (fun _ a9 _=>4-(intOf a9).toNat)
    case atStart=>exact⟨c,2,rfl,rfl,.inl ⟨rfl,rfl⟩,B⟩
    case round=>
     clear B;obtain⟨d,b,rfl,rfl,HB,B⟩:=hrel
     rcases HB with ⟨rfl,rfl⟩|⟨rfl,rfl⟩|⟨rfl,rfl⟩
     ·skip
      obtain⟨S,C⟩:∃S:ByteArray,⟨[2,UInt8.ofNat x].toArray⟩=S:=⟨_,rfl⟩;have D:∀v g,blk v g =#[.int .u8 2,.int .u8 x]→(cvT (.slice (some ⟨g,0,none⟩) 2 2)).run prog v=.ok (.string S) v:=fun v g h=>C▸cvT_blk [2,UInt8.ofNat x] v g (by rw[h,List.map_cons,List.map_cons,List.map_nil,u8n hx];rfl);obtain⟨Y,hY⟩:=exl (ysN k 0 x);have Z:=ysN_bd A P hr (b:=0) (by decide);rw[hY]at Z
      have ag:(pnt x Y false)[9]? = some (.int .u64 Y):=by rw[show (pnt x Y false)[9]? = some (.int .u64 ((wd Y 0:Nat):Int)) by kernel_rfl,wd_small _ (by omega)]
      have ah:bits .and .u64 (Y:Int) 1=0:=by rw[and_one_u64 _ (by omega) (by omega)];omega
      have wx:x<18446744073709551616:=by omega
      have l:Hid (∀w,Cg 12 #[.int .i64 k,.string S] w (.tuple #[.agg (pnt x Y false),.int .i64 0])):=fun w=>by have t:=sget_any h1 P [2,UInt8.ofNat x] (gt_tiny2 A P hx hr (b:=0) (by decide) hY) w;rwa [C]at t
      have⟨G,i⟩:=B.out;clear B C hY Z
      have k9:wr.cell? ⟨K,0,none⟩=some (.int .i64 k):=by rw[i.cell];rfl
      go_upto_region 14 with (go_at_call 12;refine(l.out _).mono ?_;rintro e WG ⟨rfl,H⟩)
      obtain⟨L,f⟩:=exl (WG.heap.size);simp only[f];refine gen_w (fun I=>Gr Q I∧Vr I K (crA (k:Int) (nN k) U)∧Vr I L (pnt x Y false)) ⟨((G.alloc _).trans H).alloc _,((i.gr ((Gr.refl _).alloc _)).gr H).gr ((Gr.refl _).alloc _),by subst f;exact Vr.new _ _ _⟩ ?_;clear f H k9 D l G i;rintro v5 ⟨G,i,W⟩
      go_upto_region 16 with (go_at_call 13;refine(num_any _ _).mono ?_;rintro e w' ⟨rfl,J⟩;replace J:=J.symm;subst J)
      go_upto_region 16 with fail
      refine wp_w [.c (pv L 0),.N x,.c (.int .i64 x),.c (.int .u64 x),.N x,.F,.F,.c (pv L 9),.c (pv L 9),.c (pv L 9),.c (.int .u64 Y),.c (.int .u64 0),.c (.int .i64 2),.O,.c (.int .u64 0),.F,.F] [1,3,4,5,10,11] ⟨.g 25 0 W rfl,.s (.convert 3 22 (.const (.int .i64 x))) rfl fun vv R=>by simp[go_sem,exI,ab],.z (one_any _ wx),.s (.binOp .neq 25 (.const (.agg (nw 9 x))) (.const (.agg (nw 9 x))) 25) rfl fun vv R=>by simp[go_sem,exI,neN9,eqN_self],.o 22 9 W rfl (by exact ag),.s (.binOp .and 22 (.const (.int .u64 Y)) (.const (.int .u64 1)) 22) rfl fun vv R=>by simp[go_sem,exI,ah],⟨⟩⟩ fun aw v1 R ai=>?_;simp only[fzw];clear ai;replace G:=G.trans R;replace W:=W.gr R;replace i:=i.gr R;clear R
      go_wp2_with fail
      go_roundw
      case rel=>exact⟨_,3,by go_num,rfl,.inr (.inl ⟨rfl,rfl⟩),G,i⟩
      case measure=>decide
     ·skip
      obtain⟨S,C⟩:∃S:ByteArray,⟨[3,UInt8.ofNat x].toArray⟩=S:=⟨_,rfl⟩;have D:∀v g,blk v g =#[.int .u8 3,.int .u8 x]→(cvT (.slice (some ⟨g,0,none⟩) 2 2)).run prog v=.ok (.string S) v:=fun v g h=>C▸cvT_blk [3,UInt8.ofNat x] v g (by rw[h,List.map_cons,List.map_cons,List.map_nil,u8n hx];rfl);obtain⟨Y,hY⟩:=exl (ysN k 1 x);have Z:=ysN_bd A P hr (b:=1) (by decide);rw[hY]at Z
      have ag:(pnt x Y false)[9]? = some (.int .u64 Y):=by rw[show (pnt x Y false)[9]? = some (.int .u64 ((wd Y 0:Nat):Int)) by kernel_rfl,wd_small _ (by omega)]
      have ah:bits .and .u64 (Y:Int) 1=1:=by rw[and_one_u64 _ (by omega) (by omega)];omega
      have wx:x<18446744073709551616:=by omega
      have l:Hid (∀w,Cg 12 #[.int .i64 k,.string S] w (.tuple #[.agg (pnt x Y false),.int .i64 0])):=fun w=>by have t:=sget_any h1 P [3,UInt8.ofNat x] (gt_tiny2 A P hx hr (b:=1) (by decide) hY) w;rwa [C]at t
      have⟨G,i⟩:=B.out;clear B C hY Z
      have k9:wr.cell? ⟨K,0,none⟩=some (.int .i64 k):=by rw[i.cell];rfl
      go_upto_region 14 with (go_at_call 12;refine(l.out _).mono ?_;rintro e WG ⟨rfl,H⟩)
      obtain⟨L,f⟩:=exl (WG.heap.size);simp only[f];refine gen_w (fun I=>Gr Q I∧Vr I K (crA (k:Int) (nN k) U)∧Vr I L (pnt x Y false)) ⟨((G.alloc _).trans H).alloc _,((i.gr ((Gr.refl _).alloc _)).gr H).gr ((Gr.refl _).alloc _),by subst f;exact Vr.new _ _ _⟩ ?_;clear f H k9 D l G i;rintro v5 ⟨G,i,W⟩
      go_upto_region 16 with (go_at_call 13;refine(num_any _ _).mono ?_;rintro e w' ⟨rfl,J⟩;replace J:=J.symm;subst J)
      go_upto_region 16 with fail
      refine wp_w [.c (pv L 0),.N x,.c (.int .i64 x),.c (.int .u64 x),.N x,.F,.F,.c (pv L 9),.c (pv L 9),.c (pv L 9),.c (.int .u64 Y),.c (.int .u64 1),.c (.int .i64 3),.c (.int .i64 1),.c (.int .u64 1),.F,.F] [1,3,4,5,10,11] ⟨.g 25 0 W rfl,.s (.convert 3 22 (.const (.int .i64 x))) rfl fun vv R=>by simp[go_sem,exI,ab],.z (one_any _ wx),.s (.binOp .neq 25 (.const (.agg (nw 9 x))) (.const (.agg (nw 9 x))) 25) rfl fun vv R=>by simp[go_sem,exI,neN9,eqN_self],.o 22 9 W rfl (by exact ag),.s (.binOp .and 22 (.const (.int .u64 Y)) (.const (.int .u64 1)) 22) rfl fun vv R=>by simp[go_sem,exI,ah],⟨⟩⟩ fun aw v1 R ai=>?_;simp only[fzw];clear ai;replace G:=G.trans R;replace W:=W.gr R;replace i:=i.gr R;clear R
      go_wp2_with fail
      go_roundw
      case rel=>exact⟨_,4,by go_num,rfl,.inr (.inr ⟨rfl,rfl⟩),G,i⟩
      case measure=>decide
     ·clear hr
      go_wp2_with fail
      go_roundw
      case rel=>exact⟨x+1,_,rfl,by go_num,af.out,B⟩
      case measure=>simp[intOf];omega
  ·have ax:x=256:=by have:=(HX.out ()).1;omega
   have x1:¬(x:Int)<256:=by omega
   have⟨G,i⟩:=B.out
   have hc:(c:Int)=m-1:=by
    have t:c+1=m:=by rw[←(HX.out ()).2,ax];exact au.out ()
    omega
   clear ax B HX;obtain⟨q,hq,aJ,aK⟩:∃q:Nat,bits .and .i64 fs 127=(q:Int)∧0≤(q:Int)∧q<128:=⟨(fs%128).toNat,by rw[and_127];omega,by omega,by omega⟩;obtain⟨p,hp⟩:=exl (q+5)
   have aL:(q:Int)+5=p:=by omega
   have aM:IntKind.u8.wrap (p:Int)=p:=by rw[IntKind.wrap_u8];omega
   have aG:IntKind.i64.wrap (p:Int)=p:=wiA;obtain⟨S,C⟩:∃S:ByteArray,⟨[UInt8.ofNat p,2,84].toArray⟩=S:=⟨_,rfl⟩;have D:∀v g,blk v g =#[.int .u8 p,.int .u8 2,.int .u8 84]→(cvT (.slice (some ⟨g,0,none⟩) 3 3)).run prog v=.ok (.string S) v:=fun v g h=>C▸cvT_blk [UInt8.ofNat p,2,84] v g (by rw[h,List.map_cons,List.map_cons,List.map_cons,List.map_nil,u8n (by omega)];rfl)
   have l:Hid (∀w,Cg 12 #[.int .i64 k,.string S] w (.tuple #[.agg (pnt 0 0 false),.int .i64 2102])):=fun w=>by
    have t:=sget_any h1 P [UInt8.ofNat p,2,84] (X:=0) (Y:=0) (E:=2102) (by
     have ne:∀d:Nat,d<5→UInt8.ofNat p≠UInt8.ofNat d:=fun d hd e=>by
      have:=congrArg UInt8.toNat e;rw[u8n (by omega),u8n (by omega)]at this
      omega
     rw[gtL_cons,if_neg (fun e=>ne 4 (by decide) e.1),if_neg (fun e=>e.1.elim (ne 2 (by decide)) (ne 3 (by decide)))]) w
    rwa [C]at t
   clear hp C
   have k9:wr.cell? ⟨K,0,none⟩=some (.int .i64 k):=by rw[i.cell];rfl
   go_upto_region 19 with (go_at_call 12;refine(l.out _).mono ?_;rintro e WG ⟨rfl,H⟩)
   obtain⟨L,f⟩:=exl (WG.heap.size);simp only[f];refine gen_w (fun I=>Gr Q I∧Vr I K (crA (k:Int) (nN k) U)∧Vr I L (pnt 0 0 false)) ⟨((G.alloc _).trans H).alloc _,((i.gr ((Gr.refl _).alloc _)).gr H).gr ((Gr.refl _).alloc _),by subst f;exact Vr.new _ _ _⟩ ?_;clear f H k9 D l G i;rintro v5 ⟨G,i,W⟩;obtain⟨ae,k4⟩:=HN.out v5 G i;have m4:IntKind.i64.wrap (m:Int)=m:=wiA
   go_wp2_with (go_at_call 13;refine(num_any _ _).mono ?_;rintro e w' ⟨rfl,J⟩;replace J:=J.symm;subst J)
   go_ret
   exact⟨rfl,aE.out.trans G⟩
end
end
end Go.Proofs.YtiigakdbabijhaaGreat