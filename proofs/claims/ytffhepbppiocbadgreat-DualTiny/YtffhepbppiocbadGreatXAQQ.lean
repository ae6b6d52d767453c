import Derived.Test.YtffhepbppiocbadGreatXAQM
import Derived.Test.YtffhepbppiocbadGreatXAQD
namespace Go.Proofs.YtffhepbppiocbadGreat
open Go.RowKit Go.Proofs.Tryz
set_option maxRecDepth 100000
set_option maxHeartbeats 8000000
section
attribute [local go_sem ↓] uz1
attribute [local go_sem] uz2
section
theorem loadSm_is:LdI 95:=fun _=>rfl
theorem storeSm_is:StI 95:=fun _ _=>rfl
theorem zvSm_is:zeroValue 95=zvS 95:=rfl
theorem zvSm(w:World):(zvS 95).run prog w=.ok (.agg (pjs (fun _=>(0,0,0)) 16)) w:=by kernel_rfl
theorem loadSm:LdS 95 432:=ldS
theorem storeSm(w:World)(b:Nat)(f:Nat→T3)(hs:(blk w b).size=432)(hf:frz w b=(0,0)):(storeS 95 (.pointer (some ⟨b,0,none⟩)) (.agg (pjs (f) 16))).run prog w=.ok () (setBlk w b (pjs (f) 16)):=
 storeS_run 432 (by decide) (by kernel_rfl) w b _ (pjs_size f 16) (pjs_one f 16) hs hf
theorem rd_sm{tmps:Array Value}{t:Tmp}{w:World}{b:Nat}{f:Nat→T3}(h:tmps.getD t undef=.pointer (some ⟨b,0,none⟩))(hc:blk w b=pjs (f) 16):(readR tmps (.cell t 95)).run prog w=.ok (.agg (pjs (f) 16)) w:=
 rd_cell 432 underlying95 rfl (by kernel_rfl) h hc (pjs_size f 16)
theorem ldJ{w:World}{b i:Nat}{f:Nat→T3}(h:Vr w b (pjs (f) 16))(hi:i<16):(loadS 93 (.pointer (some ⟨b,i*27,none⟩))).run prog w=.ok (.agg (pjT (f i))) w:=by
 rw[loadPartJ w b (i*27) (by rw[h.h,pjs_size];omega),h.h,pjs_get f hi]
theorem stJ{w:World}{b i:Nat}{f:Nat→T3}(h:Vr w b (pjs (f) 16))(hi:i<16)(x y z:Nat):(storeS 93 (.pointer (some ⟨b,i*27,none⟩)) (.agg (prj x y z))).run prog w=.ok () (setBlk w b (pjs (fun j=>if j=i then(x,y,z) else f j) 16)):=by
 have e:=pjs_set f 16 i (x,y,z)
 have d:(blk w b).size=432:=by rw[h.h,pjs_size]
 rw[store_mid 27 (by kernel_rfl) w b (i*27) _ (prj_size x y z) (prj_one x y z) (by omega) (by omega) h.f,h.h,←e]
def tbU(k:Nat)(Q:Q3)(n i:Nat):T3:=if i<n then tbT k Q i else(0,0,0)
theorem tbU_0(k:Nat)(Q:Q3):pjs (tbU k Q 0) 16=pjs (fun _=>(0,0,0)) 16:=pjs_congr fun i _=>if_neg (Nat.not_lt_zero i)
theorem tbU_all(k:Nat)(Q:Q3):pjs (tbU k Q 16) 16=pjs (tbT k Q) 16:=pjs_congr fun _ h=>if_pos h
theorem tbU_succ(k:Nat)(Q:Q3){n:Nat}:pjs (fun j=>if j=n then tbT k Q n else tbU k Q n j) 16=pjs (tbU k Q (n+1)) 16:=pjs_congr fun i _=>by
 unfold tbU
 by_cases e:i=n
 ·rw[if_pos e,if_pos (by omega),e]
 ·by_cases h:i<n
  ·rw[if_neg e,if_pos h,if_pos (by omega)]
  ·rw[if_neg e,if_neg h,if_neg (by omega)]
attribute [local go_sem] uz8
attribute [local go_sem ↓] uz19 Go.wp_at_zero Go.wp_at_succ
attribute [local go_sem] uz20
attribute [local go_sem ↓] uz13
attribute [local go_sem] uz14
attribute [local go_sem ↓] loadSm_is storeSm_is zvSm_is
attribute [local go_sem] loadSm storeSm zvSm
theorem sums_any{k:Nat}(h1:1≤k)(h2:k≤15){Q:Q3}(oQ:OnQ k Q)(w:World):Cg 46 #[.agg (cuK k),.agg (pnQ Q)] w (.agg (pjs (tbT k Q) 16)):=by
 obtain⟨A,hA⟩:=exl (frT Q);obtain⟨D,hD⟩:=exl (frT (gQ k));have oG:=gQ_on h1 h2;have ag:TrQ k A Q:=hA▸frT_tr h1 h2 oQ;have ah:TrQ k D (gQ k):=hD▸frT_tr h1 h2 oG;have HA:Hid _:=fromQ h1 h2 oQ hA;have HD:Hid (∀w,Cg 70 #[.int .i64 k,.agg (pnt (xN k) (yN k) false)] w (.tuple #[.agg (pjT D),.int .i64 0])):=fun w=>fromQ h1 h2 oG hD w;have HI:Hid (∀w,Cg 70 #[.int .i64 k,.agg (pnt 0 0 true)] w (.tuple #[.agg (prj 0 1 0),.int .i64 0])):=fun w=>fromQ h1 h2 (inf_on k) rfl w;have ab:Hid _:=tbT_tr h1 h2 oQ;have HR:Hid (∀n m,n%4=0→m+4=n→addT k (tbT k Q m) D=tbT k Q n):=fun n m q hm=>hD▸tbT_row k Q q hm;have HC:Hid (∀n m,n%4≠0→m+1=n→addT k (tbT k Q m) A=tbT k Q n):=fun n m q hm=>hA▸tbT_col k Q q hm;clear hA hD oG oQ
 go_enter func46,ntmps46
 go_upto_region 1 with fail
 refine gen_w (fun v=>Gr w v∧Vr v (w.heap.size) (cuK k)∧Vr v (w.heap.size+1) (pnQ Q)∧Vr v (w.heap.size+1+1) (pjs (fun _=>(0,0,0)) 16)) ⟨grA,vrA,vrA,vrA⟩ ?_;rintro v0 ⟨G,x,c1,B⟩;have L0:w.heap.size+1+1<v0.heap.size:=B.p;refine wp_v false [.c (pv (w.heap.size) 0),.c (.int .i64 k),.c (.agg (pnQ Q)),.E (.agg (pjT A)),.E (.agg (pjT A)),.c (.agg (pjT A)),.O,.a,.u,.O] [1,2,3] [⟨7,8,93,prj 0 0 0,fun _=>pjT A⟩] ⟨.o 3 0 x rfl (by exact cu_0 _ _ _ _ _ _ _ _ _ _),.g 38 0 c1 rfl,.z HA.out,⟨⟩⟩ ⟨.k zPj (.t rfl),⟨⟩⟩ fun U L j h1 ai=>?_;simp only[fzw,Kw.a];obtain⟨⟨ak,I⟩,-⟩:(v0.heap.size≤(U 7 0).2∧Vr L (U 7 0).2 (pjT A))∧True:=ai;clear h1;replace G:=G.trans j;replace x:=x.gr j;replace c1:=c1.gr j;replace B:=B.gr j;clear j;have La:(U 7 0).2<L.heap.size:=I.p
 go_upto_region 2 with fail
 refine wp_v false [.c (pv (w.heap.size) 0),.c (.int .i64 k),.c (pv (w.heap.size) 37),.c (.agg (pnt (xN k) (yN k) false)),.E (.agg (pjT D)),.E (.agg (pjT D)),.c (.agg (pjT D)),.O,.a,.u,.O] [1,3,4] [⟨8,9,93,prj 0 0 0,fun _=>pjT D⟩] ⟨.o 3 0 x rfl (by exact cu_0 _ _ _ _ _ _ _ _ _ _),.g 38 37 x rfl,.z HD.out,⟨⟩⟩ ⟨.k zPj (.t rfl),⟨⟩⟩ fun V v2 j h2 aj=>?_;simp only[fzw,Kw.a];obtain⟨⟨ac,W⟩,-⟩:(L.heap.size≤(V 8 0).2∧Vr v2 (V 8 0).2 (pjT D))∧True:=aj;clear h2;replace G:=G.trans j;replace x:=x.gr j;replace c1:=c1.gr j;replace B:=B.gr j;replace I:=I.gr j;clear j;have L1:=I.p;have L2:(V 8 0).2<v2.heap.size:=W.p
 have L3:(U 7 0).2<(V 8 0).2:=by have:=ac;omega
 go_upto_region 4 with fail
 obtain⟨i,Z⟩:=exl (v2.heap.size);rw[Z]at L1 L2;simp only[Z];generalize (U 7 0).2=bA at *;generalize (V 8 0).2=bD at *;refine gen_w (fun v=>Gr w v∧Vr v (w.heap.size) (cuK k)∧Vr v (w.heap.size+1+1) (pjs (fun _=>(0,0,0)) 16)∧Vr v bA (pjT A)∧Vr v bD (pjT D)∧Vr v i (pjs (tbU k Q 0) 16)) ⟨G.alloc _,x.gr ((Gr.refl _).alloc _),B.gr ((Gr.refl _).alloc _),I.gr ((Gr.refl _).alloc _),W.gr ((Gr.refl _).alloc _),by rw[tbU_0,←Z];exact Vr.new _ _ _⟩ ?_;clear G x c1 B I W Z;rintro v3 ⟨G,x,B,J,K,C⟩;have ae:∀{v:World},Gr v3 v→(storeS 93 (.pointer (some ⟨i,0,none⟩)) (.agg (prj 0 1 0))).run prog v=.ok () (setBlk v i (pjs (tbU k Q 1) 16)):=fun g=>(stJ (C.gr g) (by decide) 0 1 0).trans (congrArg (fun d=>Result.ok () (setBlk _ i d)) (tbU_succ k Q))
 go_upto_region 4 with fail
 refine wp_wTS 8 [.c (pv (w.heap.size) 0),.c (.int .i64 k),.c (.agg (pnt 0 0 true)),.E (.agg (prj 0 1 0)),.E (.agg (prj 0 1 0)),.c (.agg (prj 0 1 0)),.O,.c (pv i 0)] [1,3] ⟨.o 3 0 x rfl (by exact cu_0 _ _ _ _ _ _ _ _ _ _),.z HI.out,⟨⟩⟩ (.s 93 (fun yy=>pv i 0) (fun yy=>.agg (prj 0 1 0)) fun ap L j h4=>?_);have HT:=(C.gr j).h;have FT:=(C.gr j).f;refine⟨setBlk L (i) (pjs (tbU k Q 1) 16),by simp[go_sem,exI,ae j],?_⟩;simp only[fzw];clear h4;replace G:=G.trans j;replace x:=x.gr j;replace J:=J.gr j;replace K:=K.gr j;replace B:=B.gr j;replace C:=C.gr j;clear j;clear ae HT FT;have P:Hid (Gr w (setBlk L i (pjs (tbU k Q 1) 16))∧Vr (setBlk L i (pjs (tbU k Q 1) 16)) (w.heap.size) (cuK k)∧Vr (setBlk L i (pjs (tbU k Q 1) 16)) (w.heap.size+1+1) (pjs (fun _=>(0,0,0)) 16)∧Vr (setBlk L i (pjs (tbU k Q 1) 16)) bA (pjT A)∧Vr (setBlk L i (pjs (tbU k Q 1) 16)) bD (pjT D)∧Vr (setBlk L i (pjs (tbU k Q 1) 16)) i (pjs (tbU k Q 1) 16)):=⟨gr_setNew G (by omega),x.other (by omega),B.other (by omega),J.other (by omega),K.other (by omega),C.set (by rw[pjs_size];decide) _⟩;clear G x B J K C
 go_wp2_with fail
 go_loopw [10] (fun ia wr=>∃n:Nat,ia=.int .i64 n∧Hu (1≤n∧n≤16)∧Hid (Gr w wr∧Vr wr (w.heap.size) (cuK k)∧Vr wr (w.heap.size+1+1) (pjs (fun _=>(0,0,0)) 16)∧Vr wr bA (pjT A)∧Vr wr bD (pjT D)∧Vr wr i (pjs (tbU k Q n) 16))) (fun ia _=>16-(intOf ia).toNat)
 case atStart=>exact⟨1,rfl,fun _=>⟨by decide,by decide⟩,P⟩
 case round=>
  clear P;obtain⟨n,rfl,HJ,P⟩:=hrel
  have n0:(0:Int)≤n:=by omega
  have aq:=(HJ.out ()).1
  by_cases hlt:n<16
  ·have n1:(n:Int)<16:=by omega
   obtain⟨R,hR⟩:=exl (tbT k Q n);have af:∀{v:World},Vr v i (pjs (tbU k Q n) 16)→(storeS 93 (.pointer (some ⟨i,n*27,none⟩)) (.agg (pjT R))).run prog v=.ok () (setBlk v i (pjs (tbU k Q (n+1)) 16)):=fun h=>(stJ h hlt R.1 R.2.1 R.2.2).trans (congrArg (fun d=>Result.ok () (setBlk _ i d)) (hR▸tbU_succ k Q))
   by_cases q:n%4=0
   ·have q4:(n:Int).tmod 4=0:=by rw[Int.tmod_eq_emod_of_nonneg (by omega)];omega
    obtain⟨m,hm⟩:∃m,m+4=n:=⟨n-4,by omega⟩
    have m0:(0:Int)≤m:=by omega
    have m1:(m:Int)<16:=by omega
    have hs:IntKind.i64.wrap ((n:Int)-4)=(m:Int):=by rw[IntKind.wrap_i64];omega
    obtain⟨S,hS⟩:=exl (tbT k Q m);have X:tbU k Q n m=S:=(if_pos (by omega)).trans hS;have Y:Hid _:=jaddQ h1 h2 (hS▸ab.out m) ah (R:=R) (by rw[←hS,←hR];exact HR.out n m q hm)
    have aa:∀{v:World},Vr v i (pjs (tbU k Q n) 16)→(loadS 93 (.pointer (some ⟨i,m*27,none⟩))).run prog v=.ok (.agg (pjT S)) v:=fun h=>by rw[ldJ h (by omega),X]
    clear hS X
    go_upto_region 9 with fail
    refine wp_x true [.c (.int .i64 n),.c (pv (w.heap.size) 0),.c (.int .i64 k),.c (.int .i64 n),.c (.int .i64 m),.c (pv i (m*27)),.c (.agg (pjT S)),.c (.agg (pjT D)),.c (.tuple #[.agg (pjT R),.int .i64 0]),.c (.tuple #[.agg (pjT R),.int .i64 0]),.c (.agg (pjT R)),.c (.int .i64 0),.c (pv i (n*27)),.u] [2,4,5,6,7,12] 8 13 (fun _ _=>True) (fun _ v=>Gr w v∧Vr v (w.heap.size) (cuK k)∧Vr v (w.heap.size+1+1) (pjs (fun _=>(0,0,0)) 16)∧Vr v bA (pjT A)∧Vr v bD (pjT D)∧Vr v i (pjs (tbU k Q n) 16)) (fun _ v=>Gr w v∧Vr v (w.heap.size) (cuK k)∧Vr v (w.heap.size+1+1) (pjs (fun _=>(0,0,0)) 16)∧Vr v bA (pjT A)∧Vr v bD (pjT D)∧Vr v i (pjs (tbU k Q (n+1)) 16)) 68 (fun _ =>#[.int .i64 k,.agg (pjT S),.agg (pjT D)]) 93 (fun _=>pv (i) (n*27)) (fun _=>.agg (pjT R)) P.out ?x1 ?x2 ?x3 ?x4 ⟨fnc,fnc,fnc,fnc,fnc,fnc,fnc,fnc,fnc,fnc,fnc,fnc,fnc,fnu,trivial⟩ ?x5
    case x1=>exact fun _ _ _ ⟨G,x,B,J,K,C⟩ g=>⟨G.trans g,x.gr g,B.gr g,J.gr g,K.gr g,C.gr g⟩
    case x2=>
     rintro _ v ⟨G,x,B,J,K,C⟩;refine .cons (.o 3 0 x rfl (by exact cu_0 _ _ _ _ _ _ _ _ _ _)) ?_;refine .cons (.s (.binOp .sub 3 (.const (.int .i64 n)) (.const (.int .i64 4)) 3) rfl fun vv j=>by simp[go_sem,exI,hs]) ?_;refine .cons (.s (.indexAddr 95 (.const (pv i 0)) (.const (.int .i64 m))) rfl fun vv j=>by simp[go_sem,exI,m0,m1]) ?_;refine .cons (.s (.load 93 (.const (pv i (m*27)))) rfl fun vv j=>by simp[go_sem,exI,aa (C.gr j)]) ?_;refine .cons (.g 93 0 K rfl) ?_;exact .cons (.s (.indexAddr 95 (.const (pv i 0)) (.const (.int .i64 n))) rfl fun vv j=>by simp[go_sem,exI,n0,n1]) .nil
    case x3=>
     rintro _ v ⟨G,x,B,J,K,C⟩ _;refine(Y.out _).mono ?_;rintro e w' ⟨rfl,g⟩;exact⟨fun _=>(none,0),rfl,trivial,⟨G.trans g,x.gr g,B.gr g,J.gr g,K.gr g,C.gr g⟩,trivial⟩
    case x4=>
     rintro _ v ⟨G,x,B,J,K,C⟩ _;exact⟨setBlk v (i) (pjs (tbU k Q (n+1)) 16),by simp[go_sem,exI,af C],gr_setNew G (by omega),x.other (by omega),B.other (by omega),J.other (by omega),K.other (by omega),C.set (by rw[pjs_size];decide) _⟩
    case x5=>
     clear P;rintro _ v P;simp only[fzw]
     go_wp2_with fail
     go_roundw
     case rel=>exact⟨n+1,by go_num,fun _=>⟨by omega,hlt⟩,P⟩
     case measure=>simp[intOf];omega
   ·have q4:¬(n:Int).tmod 4=0:=by rw[Int.tmod_eq_emod_of_nonneg (by omega)];omega
    obtain⟨m,hm⟩:∃m,m+1=n:=⟨n-1,by omega⟩
    have m0:(0:Int)≤m:=by omega
    have m1:(m:Int)<16:=by omega
    have hs:IntKind.i64.wrap ((n:Int)-1)=(m:Int):=by rw[IntKind.wrap_i64];omega
    obtain⟨S,hS⟩:=exl (tbT k Q m);have X:tbU k Q n m=S:=(if_pos (by omega)).trans hS;have Y:Hid _:=jaddQ h1 h2 (hS▸ab.out m) ag (R:=R) (by rw[←hS,←hR];exact HC.out n m q hm)
    have aa:∀{v:World},Vr v i (pjs (tbU k Q n) 16)→(loadS 93 (.pointer (some ⟨i,m*27,none⟩))).run prog v=.ok (.agg (pjT S)) v:=fun h=>by rw[ldJ h (by omega),X]
    clear hS X
    go_upto_region 10 with fail
    refine wp_x true [.c (.int .i64 n),.c (pv (w.heap.size) 0),.c (.int .i64 k),.c (.int .i64 n),.c (.int .i64 m),.c (pv i (m*27)),.c (.agg (pjT S)),.c (.agg (pjT A)),.c (.tuple #[.agg (pjT R),.int .i64 0]),.c (.tuple #[.agg (pjT R),.int .i64 0]),.c (.agg (pjT R)),.c (.int .i64 0),.c (pv i (n*27)),.u] [2,4,5,6,7,12] 8 13 (fun _ _=>True) (fun _ v=>Gr w v∧Vr v (w.heap.size) (cuK k)∧Vr v (w.heap.size+1+1) (pjs (fun _=>(0,0,0)) 16)∧Vr v bA (pjT A)∧Vr v bD (pjT D)∧Vr v i (pjs (tbU k Q n) 16)) (fun _ v=>Gr w v∧Vr v (w.heap.size) (cuK k)∧Vr v (w.heap.size+1+1) (pjs (fun _=>(0,0,0)) 16)∧Vr v bA (pjT A)∧Vr v bD (pjT D)∧Vr v i (pjs (tbU k Q (n+1)) 16)) 68 (fun _ =>#[.int .i64 k,.agg (pjT S),.agg (pjT A)]) 93 (fun _=>pv (i) (n*27)) (fun _=>.agg (pjT R)) P.out ?x1 ?x2 ?x3 ?x4 ⟨fnc,fnc,fnc,fnc,fnc,fnc,fnc,fnc,fnc,fnc,fnc,fnc,fnc,fnu,trivial⟩ ?x5
    case x1=>exact fun _ _ _ ⟨G,x,B,J,K,C⟩ g=>⟨G.trans g,x.gr g,B.gr g,J.gr g,K.gr g,C.gr g⟩
    case x2=>
     rintro _ v ⟨G,x,B,J,K,C⟩;refine .cons (.o 3 0 x rfl (by exact cu_0 _ _ _ _ _ _ _ _ _ _)) ?_;refine .cons (.s (.binOp .sub 3 (.const (.int .i64 n)) (.const (.int .i64 1)) 3) rfl fun vv j=>by simp[go_sem,exI,hs]) ?_;refine .cons (.s (.indexAddr 95 (.const (pv i 0)) (.const (.int .i64 m))) rfl fun vv j=>by simp[go_sem,exI,m0,m1]) ?_;refine .cons (.s (.load 93 (.const (pv i (m*27)))) rfl fun vv j=>by simp[go_sem,exI,aa (C.gr j)]) ?_;refine .cons (.g 93 0 J rfl) ?_;exact .cons (.s (.indexAddr 95 (.const (pv i 0)) (.const (.int .i64 n))) rfl fun vv j=>by simp[go_sem,exI,n0,n1]) .nil
    case x3=>
     rintro _ v ⟨G,x,B,J,K,C⟩ _;refine(Y.out _).mono ?_;rintro e w' ⟨rfl,g⟩;exact⟨fun _=>(none,0),rfl,trivial,⟨G.trans g,x.gr g,B.gr g,J.gr g,K.gr g,C.gr g⟩,trivial⟩
    case x4=>
     rintro _ v ⟨G,x,B,J,K,C⟩ _;exact⟨setBlk v (i) (pjs (tbU k Q (n+1)) 16),by simp[go_sem,exI,af C],gr_setNew G (by omega),x.other (by omega),B.other (by omega),J.other (by omega),K.other (by omega),C.set (by rw[pjs_size];decide) _⟩
    case x5=>
     clear P;rintro _ v P;simp only[fzw]
     go_wp2_with fail
     go_roundw
     case rel=>exact⟨n+1,by go_num,fun _=>⟨by omega,hlt⟩,P⟩
     case measure=>simp[intOf];omega
  ·have n1:¬(n:Int)<16:=by omega
   obtain rfl:n=16:=by have:=(HJ.out ()).2;omega
   obtain⟨G,x,B,J,K,C⟩:=P.out;rw[tbU_all]at C;clear P
   go_upto_region 11 with fail
   refine wp_wTS 1 [.c (.agg (pjs (tbT k Q) 16))] [0] ⟨.g 95 0 C rfl fun vv H=>by simp[go_sem,exI,H,pjs_size],⟨⟩⟩ (.s 95 (fun yy=>pv (w.heap.size+1+1) 0) (fun yy=>.agg (pjs (tbT k Q) 16)) fun ao L j ar=>?_);have HT:=(B.gr j).h;have FT:=(B.gr j).f;refine⟨setBlk L (w.heap.size+1+1) (pjs (tbT k Q) 16),by simp[go_sem,exI,HT,FT,pjs_size],?_⟩;simp only[fzw];replace G:=G.trans j
   go_wp2_with fail
   exact bo1 results46 (rd_sm (by rfl) (blk_setBlk _ _ _ (by rw[HT,pjs_size];decide))) ⟨rfl,gr_setNew G (by omega)⟩
end
section
attribute [local go_sem] uz8
attribute [local go_sem ↓] uz19 Go.wp_at_zero Go.wp_at_succ
attribute [local go_sem] uz20
attribute [local go_sem ↓] uz13
attribute [local go_sem] uz14
attribute [local go_sem ↓] loadSm_is storeSm_is zvSm_is
attribute [local go_sem] loadSm storeSm zvSm
theorem dwalk_any{k:Nat}(h1:1≤k)(h2:k≤15){Q:Q3}(oQ:OnQ k Q){T:Nat→T3}(hT:∀i,TrQ k (T i) (twQ k Q (i/4) (i%4))){x y:Nat}(lx:x<oN k)(ly:y<oN k)(w:World):
 Cg 45 #[.agg (cuK k),.agg (nw 9 x),.agg (nw 9 y),.agg (pjs (T) 16)] w (.agg (pnQ (twQ k Q x y))):=by
 have hx:=Nat.lt_trans lx (lt_bl (oN k));have hy:=Nat.lt_trans ly (lt_bl (oN k));have b1:=bl_pos (Nat.lt_of_le_of_lt (Nat.zero_le _) lx);have HX:Hid _:=fun w=>wdig_any (W:=2) (Nat.lt_trans lx (oN_bd k)) (by decide) (by decide) b1 (bl_576 _ (oN_bd k)) hx w;have HY:Hid _:=fun w=>wdig_any (W:=2) (Nat.lt_trans ly (oN_bd k)) (by decide) (by decide) b1 (bl_576 _ (oN_bd k)) hy w;have HM:=mnN_le (W:=2) (by decide) (bl_576 _ (oN_bd k));obtain⟨F,hF⟩:∃F:Nat→Nat,tn (dF 2 x (mnN 2 (bl (oN k))))=F:=⟨_,rfl⟩;obtain⟨H,hH⟩:∃F:Nat→Nat,tn (dF 2 y (mnN 2 (bl (oN k))))=F:=⟨_,rfl⟩;have HE:Hid (hor 2 F (mnN 2 (bl (oN k)))=x∧hor 2 H (mnN 2 (bl (oN k)))=y):=⟨hF▸hor_dF (many_lt (by decide) hx),hH▸hor_dF (many_lt (by decide) hy)⟩;have HF:Hid (∀j,∃D:Nat,dF 2 x (mnN 2 (bl (oN k))) j=(D:Int)∧F j=D∧D<4):=fun j=>⟨F j,by rw[←hF];unfold tn dF;omega,rfl,by rw[←hF,tn_dF];exact dgw_lt 2 x _⟩;have HH:Hid (∀j,∃D:Nat,dF 2 y (mnN 2 (bl (oN k))) j=(D:Int)∧H j=D∧D<4):=fun j=>⟨H j,by rw[←hH];unfold tn dF;omega,rfl,by rw[←hH,tn_dF];exact dgw_lt 2 y _⟩;obtain⟨m,hm⟩:=exl (mnN 2 (bl (oN k)));rw[hm]at HX HY HM HE HF HH;obtain⟨P,hP⟩:=exl (twQ k Q x y);rw[hP];have HP:Hid _:=hP;have ak:Hid _:=hT;obtain⟨A,aa⟩:=exl (T 0);have ae:Hid _:=aa▸hT 0;clear hP hT hF hH hm hx hy b1 lx ly
 go_enter func45,ntmps45
 go_upto_region 1 with fail
 refine gen_w (fun v=>Gr w v∧Vr v (w.heap.size) (cuK k)∧Vr v (w.heap.size+1) (nw 9 x)∧Vr v (w.heap.size+1+1) (nw 9 y)∧Vr v (w.heap.size+1+1+1) (pjs (T) 16)∧Vr v (w.heap.size+1+1+1+1) (pnt 0 0 false)) ⟨grA,vrA,vrA,vrA,vrA,vrA⟩ ?_;rintro v0 ⟨G,q,c1,c2,J,C⟩;have L0:w.heap.size+1+1+1+1<v0.heap.size:=C.p;refine wp_wS [.N x,.c (pv (w.heap.size) 56),.c (.int .i64 (bl (oN k))),.it (v0.heap.size) m (dF 2 x m),.it (v0.heap.size) m (dF 2 x m),.ix (v0.heap.size) m (dF 2 x m),.O,.ix (v0.heap.size) m (dF 2 x m),.O] [0,2,3,4,5,6,7] ⟨.g 25 0 c1 rfl,.o 3 56 q rfl (by exact cu_56 _ _ _ _ _ _ _ _ _ _),.k _ fun yy vv d hh =>  ((RtW.it d (HX.out _))),.m 3,.m 4,.m 4,.m 5,⟨⟩⟩ fun af v1 d h1=>?_;simp only[fzw,Kw.it,Kw.ix];obtain⟨az,B⟩:=h1 7;clear h1;replace G:=G.trans d;replace q:=q.gr d;replace c1:=c1.gr d;replace c2:=c2.gr d;replace J:=J.gr d;replace C:=C.gr d;clear d
 go_upto_region 2 with fail
 refine wp_wS [.N y,.c (pv (w.heap.size) 56),.c (.int .i64 (bl (oN k))),.it (v1.heap.size) m (dF 2 y m),.it (v1.heap.size) m (dF 2 y m),.ix (v1.heap.size) m (dF 2 y m),.O,.ix (v1.heap.size) m (dF 2 y m),.O] [0,2,3,4,5,6,7] ⟨.g 25 0 c2 rfl,.o 3 56 q rfl (by exact cu_56 _ _ _ _ _ _ _ _ _ _),.k _ fun yy vv d hh =>  ((RtW.it d (HY.out _))),.m 3,.m 4,.m 4,.m 5,⟨⟩⟩ fun ao v2 d h2=>?_;simp only[fzw,Kw.it,Kw.ix];obtain⟨aA,K⟩:=h2 7;clear h2;replace G:=G.trans d;replace q:=q.gr d;replace c1:=c1.gr d;replace c2:=c2.gr d;replace J:=J.gr d;replace C:=C.gr d;replace B:=B.gr d;clear d;have L1:=B.lt;have L2:=K.lt;have ag:∀{v:World},Gr v2 v→(loadS 93 (.pointer (some ⟨w.heap.size+1+1+1,0,none⟩))).run prog v=.ok (.agg (pjT A)) v:=fun g=>(ldJ (i:=0) (J.gr g) (by decide)).trans (by rw[aa])
 go_upto_region 3 with fail
 refine wp_v false [.c (pv (w.heap.size+1+1+1) 0),.c (.agg (pjT A)),.a,.u] [1] [⟨2,3,93,prj 0 0 0,fun _=>pjT A⟩] ⟨.s (.load 93 (.const (pv (w.heap.size+1+1+1) 0))) rfl fun vv d=>by simp[go_sem,exI,ag d],⟨⟩⟩ ⟨.k zPj (.t rfl),⟨⟩⟩ fun ap v3 d h3 aq=>?_;simp only[fzw,Kw.a];obtain⟨⟨aB,U⟩,-⟩:=aq;clear h3;replace G:=G.trans d;replace q:=q.gr d;replace c1:=c1.gr d;replace c2:=c2.gr d;replace J:=J.gr d;replace C:=C.gr d;replace B:=B.gr d;replace K:=K.gr d;clear d;clear ag
 go_upto_region 4 with fail
 refine wp_wS [.c (.slice (some ⟨(af 7 0).2,0,none⟩) m m),.c (.int .i64 (m:Nat)),.O] [] ⟨⟩ fun aE v4 d h4=>?_;simp only[fzw];clear h4;replace G:=G.trans d;replace q:=q.gr d;replace c1:=c1.gr d;replace c2:=c2.gr d;replace J:=J.gr d;replace C:=C.gr d;replace U:=U.gr d;replace B:=B.gr d;replace K:=K.gr d;clear d;have L3:=U.p;generalize (ap 2 0).2=b9 at *;generalize (af 7 0).2=g1 at *;generalize (ao 7 0).2=g2 at *;have Y:Hid (Gr w v4∧Vr v4 (w.heap.size) (cuK k)∧Vr v4 (w.heap.size+1+1+1) (pjs (T) 16)∧Vr v4 (w.heap.size+1+1+1+1) (pnt 0 0 false)∧Vr v4 b9 (pjT A)∧Rx v4 g1 m m (iF (dF 2 x m))∧Rx v4 g2 m m (iF (dF 2 y m))):=⟨G,q,J,C,U,B,K⟩;clear G q c1 c2 J C U B K HX HY aa
 go_wp2_with fail
 go_loopw [35] (fun ia wr=>∃(j:Nat) (S:T3),ia=.int .i64 j∧Hu (j≤m)∧Hid (TrQ k S (twQ k Q (hor 2 F j) (hor 2 H j)))∧Hid (Gr w wr∧Vr wr (w.heap.size) (cuK k)∧Vr wr (w.heap.size+1+1+1) (pjs (T) 16)∧Vr wr (w.heap.size+1+1+1+1) (pnt 0 0 false)∧Vr wr b9 (pjT S)∧Rx wr g1 m m (iF (dF 2 x m))∧Rx wr g2 m m (iF (dF 2 y m)))) (fun ia _=>m-(intOf ia).toNat)
 case atStart=>exact⟨0,A,rfl,fun _=>Nat.zero_le _,ae,Y⟩
 case round=>
  clear Y ae;obtain⟨j,S,rfl,HJ,X,Y⟩:=hrel
  have j0:(0:Int)≤j:=by omega
  by_cases hlt:j<m
  ·have j1:(j:Int)<m:=by omega
   go_wp2_with fail
   go_loopw [38] (fun ia wr2=>∃(i:Nat) (S:T3),ia=.int .i64 i∧Hu (i≤2)∧Hid (TrQ k S (twQ k Q (2^i*hor 2 F j) (2^i*hor 2 H j)))∧Hid (Gr w wr2∧Vr wr2 (w.heap.size) (cuK k)∧Vr wr2 (w.heap.size+1+1+1) (pjs (T) 16)∧Vr wr2 (w.heap.size+1+1+1+1) (pnt 0 0 false)∧Vr wr2 b9 (pjT S)∧Rx wr2 g1 m m (iF (dF 2 x m))∧Rx wr2 g2 m m (iF (dF 2 y m)))) (fun ia _=>2-(intOf ia).toNat)
   case atStart=>exact⟨0,S,rfl,fun _=>by decide,by rw[Nat.pow_zero,Nat.one_mul,Nat.one_mul];exact X,Y⟩
   case round=>
    clear Y X;obtain⟨i,S,rfl,HI,X,Y⟩:=hrel
    have i0:(0:Int)≤i:=by omega
    by_cases hi:i<2
    ·have i1:(i:Int)<2:=by omega
     obtain⟨R,hR⟩:=exl (addT k S S);have ar:Hid _:=jdblQ h1 h2 X.out hR
     have ab:Hid (TrQ k R (twQ k Q (2^(i+1)*hor 2 F j) (2^(i+1)*hor 2 H j))):=by
      have h:=addT_tr h1 h2 X.out X.out
      rwa [hR,twQ_add h1 h2 oQ,←Nat.mul_two,←Nat.mul_two,Nat.mul_right_comm,Nat.mul_right_comm _ _ 2,←Nat.pow_succ]at h
     obtain⟨G,q,J,C,L,Z,SY⟩:=Y.out;clear hR Y
     go_upto_region 9 with fail
     refine wp_wTS 7 [.c (pv (w.heap.size) 0),.c (.int .i64 k),.c (.agg (pjT S)),.E (.agg (pjT R)),.E (.agg (pjT R)),.c (.agg (pjT R)),.O] [1,2,3] ⟨.o 3 0 q rfl (by exact cu_0 _ _ _ _ _ _ _ _ _ _),.g 93 0 L rfl,.z ar.out,⟨⟩⟩ (.s 93 (fun yy=>pv b9 0) (fun yy=>.agg (pjT R)) fun aG v1 d h9=>?_);have X:=(L.gr d).h;have FT:=(L.gr d).f;refine⟨setBlk v1 (b9) (pjT R),by simp[go_sem,exI,X,FT],?_⟩;simp only[fzw];clear h9;replace G:=G.trans d;replace q:=q.gr d;replace J:=J.gr d;replace C:=C.gr d;replace L:=L.gr d;replace Z:=Z.gr d;replace SY:=SY.gr d;clear d
     go_wp2_with fail
     go_roundw
     case rel=>exact⟨i+1,R,by go_num,fun _=>hi,ab,gr_setNew G (by omega),q.other (by omega),J.other (by omega),C.other (by omega),L.set (by rw[prj_size];decide) _,Z.oth (by omega) _,SY.oth (by omega) _⟩
     case measure=>simp[intOf];omega
    ·have i1:¬(i:Int)<2:=by omega
     obtain rfl:i=2:=by have:=HI.out ();omega
     obtain⟨D,hD,ah,lD⟩:=HF.out j;obtain⟨E,hE,ai,lE⟩:=HH.out j
     have kx:∀{v:World},Rx v g1 m m (iF (dF 2 x m))→v.cell? ⟨g1,j,none⟩=some (.int .i64 D):=fun h=>by rw[h.cell j hlt,←hD]
     have ky:∀{v:World},Rx v g2 m m (iF (dF 2 y m))→v.cell? ⟨g2,j,none⟩=some (.int .i64 E):=fun h=>by rw[h.cell j hlt,←hE]
     obtain⟨D4,e4⟩:=exl (4*D);obtain⟨I,eI⟩:=exl (D4+E)
     have au:IntKind.i64.wrap ((D:Int)*4)=(D4:Int):=by rw[IntKind.wrap_i64];omega
     have hI:IntKind.i64.wrap ((D4:Int)+E)=(I:Int):=by rw[IntKind.wrap_i64];omega
     have I0:(0:Int)≤I:=by omega
     have I1:(I:Int)<16:=by omega
     obtain⟨V,hV⟩:=exl (T I)
     have av:∀{v:World},Vr v (w.heap.size+1+1+1) (pjs (T) 16)→(loadS 93 (.pointer (some ⟨w.heap.size+1+1+1,I*27,none⟩))).run prog v=.ok (.agg (pjT V)) v:=fun h=>by rw[ldJ h (by omega),hV]
     have tV:=ak.out I;obtain⟨R,hR⟩:=exl (addT k S V)
     have ab:Hid (TrQ k R (twQ k Q (hor 2 F (j+1)) (hor 2 H (j+1)))):=by
      have h:=addT_tr h1 h2 X.out tV;rw[hV,hR,twQ_add h1 h2 oQ]at h
      rwa [hor,hor,ah,ai,Nat.mul_comm (hor 2 F j),Nat.mul_comm (hor 2 H j),←show I/4=D by omega,←show I%4=E by omega]
     have HA:Hid _:=jaddQ h1 h2 X.out (hV▸tV) hR;clear hV hR tV hD hE ah ai
     go_upto_region 11 with fail
     refine wp_x true [.c (pv (w.heap.size) 0),.c (.int .i64 k),.c (.agg (pjT S)),.c (.slice (some ⟨g1,0,none⟩) m m),.c (.int .i64 j),.c (pv g1 j),.c (.int .i64 D),.c (.int .i64 D4),.c (.slice (some ⟨g2,0,none⟩) m m),.c (.int .i64 j),.c (pv g2 j),.c (.int .i64 E),.c (.int .i64 I),.c (pv (w.heap.size+1+1+1) (I*27)),.c (.agg (pjT V)),.c (.tuple #[.agg (pjT R),.int .i64 0]),.c (.tuple #[.agg (pjT R),.int .i64 0]),.c (.agg (pjT R)),.c (.int .i64 0),.u] [1,2,5,6,7,10,11,12,13,14] 15 19 (fun _ _=>True) (fun _ v=>Gr w v∧Vr v (w.heap.size) (cuK k)∧Vr v (w.heap.size+1+1+1) (pjs (T) 16)∧Vr v (w.heap.size+1+1+1+1) (pnt 0 0 false)∧Vr v b9 (pjT S)∧Rx v g1 m m (iF (dF 2 x m))∧Rx v g2 m m (iF (dF 2 y m))) (fun _ v=>Gr w v∧Vr v (w.heap.size) (cuK k)∧Vr v (w.heap.size+1+1+1) (pjs (T) 16)∧Vr v (w.heap.size+1+1+1+1) (pnt 0 0 false)∧Vr v b9 (pjT R)∧Rx v g1 m m (iF (dF 2 x m))∧Rx v g2 m m (iF (dF 2 y m))) 68 (fun _ =>#[.int .i64 k,.agg (pjT S),.agg (pjT V)]) 93 (fun _=>pv (b9) (0)) (fun _=>.agg (pjT R)) Y.out ?x1 ?x2 ?x3 ?x4 ⟨fnc,fnc,fnc,fnc,fnc,fnc,fnc,fnc,fnc,fnc,fnc,fnc,fnc,fnc,fnc,fnc,fnc,fnc,fnc,fnu,trivial⟩ ?x5
     case x1=>exact fun _ _ _ ⟨G,q,J,C,L,Z,SY⟩ g=>⟨G.trans g,q.gr g,J.gr g,C.gr g,L.gr g,Z.gr g,SY.gr g⟩
     case x2=>
      rintro _ v ⟨G,q,J,C,L,Z,SY⟩;refine .cons (.o 3 0 q rfl (by exact cu_0 _ _ _ _ _ _ _ _ _ _)) ?_;refine .cons (.g 93 0 L rfl) ?_;refine .cons (.s (.indexAddr 118 (.const (.slice (some ⟨g1,0,none⟩) m m)) (.const (.int .i64 j))) rfl fun vv d=>by simp[go_sem,exI,j0,j1]) ?_;refine .cons (.s (.load 3 (.const (pv g1 j))) rfl fun vv d=>by simp[go_sem,exI,kx (Z.gr d)]) ?_;refine .cons (.s (.binOp .mul 3 (.const (.int .i64 D)) (.const (.int .i64 4)) 3) rfl fun vv d=>by simp[go_sem,exI,au]) ?_;refine .cons (.s (.indexAddr 118 (.const (.slice (some ⟨g2,0,none⟩) m m)) (.const (.int .i64 j))) rfl fun vv d=>by simp[go_sem,exI,j0,j1]) ?_;refine .cons (.s (.load 3 (.const (pv g2 j))) rfl fun vv d=>by simp[go_sem,exI,ky (SY.gr d)]) ?_;refine .cons (.s (.binOp .add 3 (.const (.int .i64 D4)) (.const (.int .i64 E)) 3) rfl fun vv d=>by simp[go_sem,exI,hI]) ?_;refine .cons (.s (.indexAddr 95 (.const (pv (w.heap.size+1+1+1) 0)) (.const (.int .i64 I))) rfl fun vv d=>by simp[go_sem,exI,I0,I1]) ?_;exact .cons (.s (.load 93 (.const (pv (w.heap.size+1+1+1) (I*27)))) rfl fun vv d=>by simp[go_sem,exI,av (J.gr d)]) .nil
     case x3=>
      rintro _ v ⟨G,q,J,C,L,Z,SY⟩ _;refine(HA.out _).mono ?_;rintro e w' ⟨rfl,g⟩;exact⟨fun _=>(none,0),rfl,trivial,⟨G.trans g,q.gr g,J.gr g,C.gr g,L.gr g,Z.gr g,SY.gr g⟩,trivial⟩
     case x4=>
      rintro _ v ⟨G,q,J,C,L,Z,SY⟩ _;exact⟨setBlk v (b9) (pjT R),by simp[go_sem,exI,L.h,L.f],gr_setNew G (by omega),q.other (by omega),J.other (by omega),C.other (by omega),L.set (by rw[prj_size];decide) _,Z.oth (by omega) _,SY.oth (by omega) _⟩
     case x5=>
      clear Y;rintro _ v Y;simp only[fzw]
      go_wp2_with fail
      go_roundw
      case rel=>exact⟨j+1,R,by go_num,fun _=>hlt,ab,Y⟩
      case measure=>simp[intOf];omega
  ·have j1:¬(j:Int)<m:=by omega
   obtain rfl:j=m:=by have:=HJ.out ();omega
   obtain⟨G,q,J,C,L,Z,SY⟩:=Y.out
   have aw:Hid _:=fun w=>by
    have h:=X.out;rw[HE.out.1,HE.out.2,HP.out]at h;exact toQ h1 h2 h w
   clear Y X
   go_upto_region 13 with fail
   refine wp_v false [.c (pv (w.heap.size) 0),.c (.int .i64 k),.c (.agg (pjT S)),.E (.agg (pnQ P)),.E (.agg (pnQ P)),.c (.agg (pnQ P)),.O,.a,.u,.O] [1,2,3] [⟨7,8,38,pnt 0 0 false,fun _=>pnQ P⟩] ⟨.o 3 0 q rfl (by exact cu_0 _ _ _ _ _ _ _ _ _ _),.g 93 0 L rfl,.z aw.out,⟨⟩⟩ ⟨.k zPnt (.t rfl),⟨⟩⟩ fun aC v1 d ax aj=>?_;simp only[fzw,Kw.a];obtain⟨⟨ay,ac⟩,-⟩:=aj;clear ax;replace G:=G.trans d;replace q:=q.gr d;replace J:=J.gr d;replace C:=C.gr d;replace L:=L.gr d;replace Z:=Z.gr d;replace SY:=SY.gr d;clear d
   go_upto_region 14 with fail
   refine wp_wTS 1 [.c (.agg (pnQ P))] [0] ⟨.g 38 0 ac rfl,⟨⟩⟩ (.s 38 (fun yy=>pv (w.heap.size+1+1+1+1) 0) (fun yy=>.agg (pnQ P)) fun aD v2 d aH=>?_);have X:=(C.gr d).h;have FT:=(C.gr d).f;refine⟨setBlk v2 (w.heap.size+1+1+1+1) (pnQ P),by simp[go_sem,exI,X,FT],?_⟩;simp only[fzw];replace G:=G.trans d
   go_wp2_with fail
   exact bo1 results45 (rd_pn (by rfl) (blk_setBlk _ _ _ (by rw[X];decide +kernel))) ⟨rfl,gr_setNew G (by omega)⟩
end
section
attribute [local go_sem] uz8
attribute [local go_sem ↓] uz19 Go.wp_at_zero Go.wp_at_succ
attribute [local go_sem] uz20
attribute [local go_sem ↓] uz13
attribute [local go_sem] uz14
attribute [local go_sem ↓] loadSm_is storeSm_is zvSm_is
attribute [local go_sem] loadSm storeSm zvSm
theorem dmul_all{Y i e0 z1 z2 sb sz:Int}{p a b n gx gy x y:Nat}{lg f:Bool}{Q R:Q3}{V:Nat→T3}{res:Value}(HG':∀w,Cg 40 #[.int .i64 Y] w (.tuple #[.agg (cu i p a b n gx gy sb sz lg),.int .i64 e0]))(HO':e0=0→∀w,Cg 43 #[.int .i64 Y,.agg (pnQ Q)] w (.bool f))(HX':e0=0→f=true→∀w,Cg 44 #[.agg (nw 9 x),.agg (nw 9 n)] w (.int .i64 z1))(HY':e0=0→f=true→¬0≤z1→∀w,Cg 44 #[.agg (nw 9 y),.agg (nw 9 n)] w (.int .i64 z2))(HS':e0=0→f=true→¬0≤z1→¬0≤z2→(∀w,Cg 46 #[.agg (cu i p a b n gx gy sb sz lg),.agg (pnQ Q)] w (.agg (pjs (V) 16)))∧∀w,Cg 45 #[.agg (cu i p a b n gx gy sb sz lg),.agg (nw 9 x),.agg (nw 9 y),.agg (pjs (V) 16)] w (.agg (pnQ R)))(r0:¬e0=0→.tuple #[.agg (pnt 0 0 false),.int .i64 2000]=res)(r1:e0=0→f=false→.tuple #[.agg (pnt 0 0 false),.int .i64 2001]=res)(r2:e0=0→f=true→0≤z1∨¬0≤z1∧0≤z2→.tuple #[.agg (pnt 0 0 false),.int .i64 2002]=res)(r3:e0=0→f=true→¬0≤z1→¬0≤z2→.tuple #[.agg (pnQ R),.int .i64 0]=res)(w:World):
 Cg 22 #[.int .i64 Y,.agg (nw 9 x),.agg (nw 9 y),.agg (pnQ Q)] w (res):=by
 have HG:Hid _:=HG';have R0:Hid _:=r0;have R1:Hid _:=r1;have R2:Hid _:=r2;have R3:Hid _:=r3;clear r0 r1 r2 r3
 go_enter func22,ntmps22
 go_upto_region 1 with fail
 refine gen_w (fun v=>Gr w v∧Vr v (w.heap.size) (nw 9 x)∧Vr v (w.heap.size+1) (nw 9 y)∧Vr v (w.heap.size+1+1) (pnQ Q)∧Vr v (w.heap.size+1+1+1) (pnt 0 0 false)) ⟨grA,vrA,vrA,vrA,vrA⟩ ?_;rintro v0 ⟨G,A,B,C,q⟩;have L0:w.heap.size+1+1+1<v0.heap.size:=q.p;refine wp_v false [.c (.int .i64 Y),.c (.tuple #[.agg (cu i p a b n gx gy sb sz lg),.int .i64 e0]),.c (.tuple #[.agg (cu i p a b n gx gy sb sz lg),.int .i64 e0]),.c (.agg (cu i p a b n gx gy sb sz lg)),.c (.int .i64 e0),.a,.u,.c (.int .i64 e0)] [1] [⟨5,6,78,cu 0 0 0 0 0 0 0 0 0 false,fun _=>cu i p a b n gx gy sb sz lg⟩] ⟨.z HG.out,⟨⟩⟩ ⟨.k zCu (.t rfl),⟨⟩⟩ fun H v1 j h1 U=>?_;simp only[fzw,Kw.a];obtain⟨⟨aa,d⟩,-⟩:(v0.heap.size≤(H 5 0).2∧Vr v1 (H 5 0).2 (cu i p a b n gx gy sb sz lg))∧True:=U;clear h1;replace G:=G.trans j;replace A:=A.gr j;replace B:=B.gr j;replace C:=C.gr j;replace q:=q.gr j;clear j;generalize (H 5 0).2=I at *
 by_cases he:e0=0
 ·subst he;have HO:Hid _:=HO' rfl
  go_upto_region 2 with fail
  refine wp_wS [.O,.F] [] ⟨⟩ fun W v2 j X=>?_;simp only[fzw];clear X;replace G:=G.trans j;replace A:=A.gr j;replace B:=B.gr j;replace C:=C.gr j;replace q:=q.gr j;replace d:=d.gr j;clear j
  go_upto_region 4 with fail
  refine wp_wS [.c (.int .i64 Y),.c (.agg (pnQ Q)),.c (.bool f),.c (.bool (!f))] [1,2,3] ⟨.g 38 0 C rfl,.z HO.out,.s (.unOp .not 4 (.const (.bool f))) rfl fun L j=>by simp[go_sem,exI],⟨⟩⟩ fun ab v3 j h4=>?_;simp only[fzw];clear h4;replace G:=G.trans j;replace A:=A.gr j;replace B:=B.gr j;replace C:=C.gr j;replace q:=q.gr j;replace d:=d.gr j;clear j
  cases f with
  | false=>
   have J:=q.al;clear A B C q d
   go_wp2_with fail
   refine bo2 results22 (rd_pn (by rfl) ?_) ⟨congrArg _ (R1.out (by simp) (by simp)),?_⟩
   ·simp[go_sem, *]
   ·exact grB
  | true=>
   have Z:Hid _:=HX' rfl rfl
   by_cases q1:0≤z1
   ·skip
    go_upto_region 6 with fail
    refine wp_wS [.N x,.c (pv I 28),.N n,.c (.int .i64 z1),.T,.T,.u,.u,.u,.u,.u,.T] [0,2,3,4] ⟨.g 25 0 A rfl,.g 25 28 d rfl,.z Z.out,.s (.binOp .geq 3 (.const (.int .i64 z1)) (.const (.int .i64 0)) 3) rfl fun L j=>by simp[go_sem,exI,q1],⟨⟩⟩ fun P D j S=>?_;simp only[fzw];clear S;replace G:=G.trans j;replace A:=A.gr j;replace B:=B.gr j;replace C:=C.gr j;replace q:=q.gr j;replace d:=d.gr j;clear j;have J:=q.al;clear A B C q d
    go_wp2_with fail
    refine bo2 results22 (rd_pn (by rfl) ?_) ⟨congrArg _ (R2.out (by simp) (by simp) (.inl q1)),?_⟩
    ·simp[go_sem, *]
    ·exact grB
   ·have HY:Hid _:=HY' rfl rfl q1
    by_cases q2:0≤z2
    ·skip
     go_upto_region 6 with fail
     refine wp_wS [.N x,.c (pv I 28),.N n,.c (.int .i64 z1),.F,.F,.N y,.c (pv I 28),.N n,.c (.int .i64 z2),.T,.T] [0,2,3,4,6,8,9,10] ⟨.g 25 0 A rfl,.g 25 28 d rfl,.z Z.out,.s (.binOp .geq 3 (.const (.int .i64 z1)) (.const (.int .i64 0)) 3) rfl fun L j=>by simp[go_sem,exI,q1],.g 25 0 B rfl,.g 25 28 d rfl,.z HY.out,.s (.binOp .geq 3 (.const (.int .i64 z2)) (.const (.int .i64 0)) 3) rfl fun L j=>by simp[go_sem,exI,q2],⟨⟩⟩ fun P D j S=>?_;simp only[fzw];clear S;replace G:=G.trans j;replace A:=A.gr j;replace B:=B.gr j;replace C:=C.gr j;replace q:=q.gr j;replace d:=d.gr j;clear j;have J:=q.al;clear A B C q d
     go_wp2_with fail
     refine bo2 results22 (rd_pn (by rfl) ?_) ⟨congrArg _ (R2.out (by simp) (by simp) (.inr ⟨q1,q2⟩)),?_⟩
     ·simp[go_sem, *]
     ·exact grB
    ·have HS:Hid _:=HS' rfl rfl q1 q2
     go_upto_region 6 with fail
     refine wp_wS [.N x,.c (pv I 28),.N n,.c (.int .i64 z1),.F,.F,.N y,.c (pv I 28),.N n,.c (.int .i64 z2),.F,.F] [0,2,3,4,6,8,9,10] ⟨.g 25 0 A rfl,.g 25 28 d rfl,.z Z.out,.s (.binOp .geq 3 (.const (.int .i64 z1)) (.const (.int .i64 0)) 3) rfl fun L j=>by simp[go_sem,exI,q1],.g 25 0 B rfl,.g 25 28 d rfl,.z HY.out,.s (.binOp .geq 3 (.const (.int .i64 z2)) (.const (.int .i64 0)) 3) rfl fun L j=>by simp[go_sem,exI,q2],⟨⟩⟩ fun P D j S=>?_;simp only[fzw];clear S;replace G:=G.trans j;replace A:=A.gr j;replace B:=B.gr j;replace C:=C.gr j;replace q:=q.gr j;replace d:=d.gr j;clear j;have HV:Hid (Gr w D∧Vr D (w.heap.size) (nw 9 x)∧Vr D (w.heap.size+1) (nw 9 y)∧Vr D (w.heap.size+1+1) (pnQ Q)∧Vr D (w.heap.size+1+1+1) (pnt 0 0 false)∧Vr D I (cu i p a b n gx gy sb sz lg)):=⟨G,A,B,C,q,d⟩;clear G A B C q d
     go_upto_region 8 with fail
     refine wp_x true [.c (.agg (cu i p a b n gx gy sb sz lg)),.c (.agg (nw 9 x)),.c (.agg (nw 9 y)),.c (.agg (cu i p a b n gx gy sb sz lg)),.c (.agg (pnQ Q)),.c (.agg (pjs (V) 16)),.c (.agg (pnQ R)),.u,.c (.int .i64 0)] [0,1,2,3,4,5] 6 7 (fun _ _=>True)
      (fun _ v=>Gr w v∧Vr v (w.heap.size) (nw 9 x)∧Vr v (w.heap.size+1) (nw 9 y)∧Vr v (w.heap.size+1+1) (pnQ Q)∧Vr v (w.heap.size+1+1+1) (pnt 0 0 false)∧Vr v I (cu i p a b n gx gy sb sz lg)) (fun _ v=>Gr w v∧Vr v (w.heap.size+1+1+1) (pnQ R))
      45 (fun _ =>#[.agg (cu i p a b n gx gy sb sz lg),.agg (nw 9 x),.agg (nw 9 y),.agg (pjs (V) 16)]) 38 (fun _=>pv (w.heap.size+1+1+1) 0) (fun _=>.agg (pnQ R)) HV.out ?x1 ?x2 ?x3 ?x4 ⟨fnc,fnc,fnc,fnc,fnc,fnc,fnc,fnu,fnc,trivial⟩ ?x5
     case x1=>exact fun _ _ _ ⟨G,A,B,C,q,K⟩ g=>⟨G.trans g,A.gr g,B.gr g,C.gr g,q.gr g,K.gr g⟩
     case x2=>
      rintro _ v ⟨G,A,B,C,q,K⟩;refine .cons (.g 78 0 K rfl) ?_;refine .cons (.g 25 0 A rfl) ?_;refine .cons (.g 25 0 B rfl) ?_;refine .cons (.g 78 0 K rfl) ?_;refine .cons (.g 38 0 C rfl) ?_;exact .cons (.z HS.out.1) .nil
     case x3=>
      rintro x v ⟨G,A,B,C,q,K⟩ hy;refine(HS.out.2 _).mono ?_;rintro e w' ⟨rfl,g⟩;exact⟨fun _=>(none,0),rfl,trivial,⟨G.trans g,A.gr g,B.gr g,C.gr g,q.gr g,K.gr g⟩,trivial⟩
     case x4=>
      rintro _ v ⟨G,A,B,C,q,K⟩ _;exact⟨setBlk v (w.heap.size+1+1+1) (pnQ R),by simp[go_sem,exI,q.h,q.f],gr_setNew G (by omega),q.set (by rw[pnt_size];decide) _⟩
     case x5=>
      rintro _ v ⟨G,q⟩;simp only[fzw];have hh:=q.h;clear q
      go_wp2_with fail
      exact bo2 results22 (rd_pn (by rfl) hh) ⟨congrArg _ (R3.out (by simp) (by simp) q1 q2),G⟩
 ·skip
  go_upto_region 2 with fail
  refine wp_wS [.c (.int .i64 e0),.T] [1] ⟨.s (.binOp .neq 39 (.const (.int .i64 e0)) (.const (.int .i64 0)) 39) rfl fun L j=>by simp[go_sem,exI,he],⟨⟩⟩ fun W v2 j X=>?_;simp only[fzw];clear X;replace G:=G.trans j;replace A:=A.gr j;replace B:=B.gr j;replace C:=C.gr j;replace q:=q.gr j;replace d:=d.gr j;clear j;have J:=q.al;clear A B C q d
  go_wp2_with fail
  refine bo2 results22 (rd_pn (by rfl) ?_) ⟨congrArg _ (R0.out he),?_⟩
  ·simp[go_sem, *]
  ·exact grB
theorem dmul_no(id:Int)(h:id<1∨15<id){Q:Q3}{x y:Nat}(w:World):Cg 22 #[.int .i64 id,.agg (nw 9 x),.agg (nw 9 y),.agg (pnQ Q)] w (.tuple #[.agg (pnt 0 0 false),.int .i64 2000]):=
 dmul_all (f:=true) (R:=inf) (V:=fun _=>(0,0,0)) (z1:=0) (z2:=0) (get13_no id h) (absurd · (by decide)) (absurd · (by decide)) (absurd · (by decide)) (absurd · (by decide)) (fun _=>rfl) (absurd · (by decide)) (absurd · (by decide)) (absurd · (by decide)) w
theorem dmul_off{k:Nat}(h1:1≤k)(h2:k≤15){Q:Q3}(lQ:Q.1<M∧Q.2.1<M)(oQ:onB k Q.1 Q.2.1 Q.2.2=false){x y:Nat}(w:World):Cg 22 #[.int .i64 k,.agg (nw 9 x),.agg (nw 9 y),.agg (pnQ Q)] w (.tuple #[.agg (pnt 0 0 false),.int .i64 2001]):=
 dmul_all (f:=false) (R:=inf) (V:=fun _=>(0,0,0)) (z1:=0) (z2:=0) (get13_yes k h1 h2) (fun _ w=>oQ▸on13_yes k h1 h2 _ _ Q.2.2 lQ.1 lQ.2 w) (fun _ h=>nomatch h) (fun _ h=>nomatch h) (fun _ h=>nomatch h) (absurd rfl ·) (fun _ _=>rfl) (fun _ h=>nomatch h) (fun _ h=>nomatch h) w
theorem dmul_bigu{k:Nat}(h1:1≤k)(h2:k≤15){Q:Q3}(oQ:OnQ k Q){x y:Nat}(lx:x<M)(g:oN k≤x)(w:World):Cg 22 #[.int .i64 k,.agg (nw 9 x),.agg (nw 9 y),.agg (pnQ Q)] w (.tuple #[.agg (pnt 0 0 false),.int .i64 2002]):=
 have q:=(show 0≤cmpZ x (oN k) by unfold cmpZ;rw[if_neg (Nat.not_lt.2 g)];split <;> decide)
 dmul_all (f:=true) (R:=inf) (V:=fun _=>(0,0,0)) (z2:=0) (get13_yes k h1 h2) (fun _ w=>(show onB k Q.1 Q.2.1 Q.2.2=true from oQ)▸on13_yes k h1 h2 _ _ Q.2.2 oQ.lt.1 oQ.lt.2 w) (fun _ _=>cmp_any x (oN k) lx (oN_bd k)) (fun _ _ h=>absurd q h) (fun _ _ h=>absurd q h) (absurd rfl ·) (fun _ h=>nomatch h) (fun _ _ _=>rfl) (fun _ _ h=>absurd q h) w
theorem dmul_bigv{k:Nat}(h1:1≤k)(h2:k≤15){Q:Q3}(oQ:OnQ k Q){x y:Nat}(lx:x<oN k)(ly:y<M)(g:oN k≤y)(w:World):Cg 22 #[.int .i64 k,.agg (nw 9 x),.agg (nw 9 y),.agg (pnQ Q)] w (.tuple #[.agg (pnt 0 0 false),.int .i64 2002]):=
 have q:=(show 0≤cmpZ y (oN k) by unfold cmpZ;rw[if_neg (Nat.not_lt.2 g)];split <;> decide)
 dmul_all (f:=true) (R:=inf) (V:=fun _=>(0,0,0)) (get13_yes k h1 h2) (fun _ w=>(show onB k Q.1 Q.2.1 Q.2.2=true from oQ)▸on13_yes k h1 h2 _ _ Q.2.2 oQ.lt.1 oQ.lt.2 w) (fun _ _=>cmp_any x (oN k) (Nat.lt_trans lx (oN_bd k)) (oN_bd k)) (fun _ _ _=>cmp_any y (oN k) ly (oN_bd k)) (fun _ _ _ h=>absurd q h) (absurd rfl ·) (fun _ h=>nomatch h) (fun _ _ _=>rfl) (fun _ _ _ h=>absurd q h) w
theorem dmul_yes{k:Nat}(h1:1≤k)(h2:k≤15){Q:Q3}(oQ:OnQ k Q){x y:Nat}(lx:x<oN k)(ly:y<oN k){R:Q3}(hR:twQ k Q x y=R)(w:World):Cg 22 #[.int .i64 k,.agg (nw 9 x),.agg (nw 9 y),.agg (pnQ Q)] w (.tuple #[.agg (pnQ R),.int .i64 0]):=
 have d:=(show ¬0≤cmpZ x (oN k) by unfold cmpZ;rw[if_pos lx];decide);have i:=(show ¬0≤cmpZ y (oN k) by unfold cmpZ;rw[if_pos ly];decide)
 dmul_all (f:=true) (get13_yes k h1 h2) (fun _ w=>(show onB k Q.1 Q.2.1 Q.2.2=true from oQ)▸on13_yes k h1 h2 _ _ Q.2.2 oQ.lt.1 oQ.lt.2 w) (fun _ _=>cmp_any x (oN k) (Nat.lt_trans lx (oN_bd k)) (oN_bd k)) (fun _ _ _=>cmp_any y (oN k) (Nat.lt_trans ly (oN_bd k)) (oN_bd k)) (fun _ _ _ _=>⟨sums_any h1 h2 oQ,hR▸dwalk_any h1 h2 oQ (tbT_tr h1 h2 oQ) lx ly⟩) (absurd rfl ·) (fun _ h=>nomatch h) (fun _ _ h=>h.elim (absurd · d) fun h=>absurd h.2 i) (fun _ _ _ _=>rfl) w
end
section
attribute [local go_sem] uz8
attribute [local go_sem ↓] uz17 Go.wp_at_zero Go.wp_at_succ
attribute [local go_sem] uz18
theorem awake20_any(w:World):Cg 24 #[] w (.bool true):=by
 have H:1≤13:=by decide
 have A:13≤15:=by decide
 obtain⟨P,K⟩:=exl (gQ 13);have L:=K▸gQ_on H A;obtain⟨D,hD⟩:=exl (twQ 13 P 1 1)
 have hS:plQ 13 P P=D:=by rw[←hD,twQ,K,mlQ_one H A L]
 have U:Hid _:=getq_yes 13 H A;have HD:Hid _:=dmul_yes H A L (by decide +kernel) (by decide +kernel) hD;have HB:Hid (∀w,Cg 22 #[.int .i64 13,.agg (nw 9 223),.agg (nw 9 1),.agg (pnQ P)] w (.tuple #[.agg (pnt 0 0 false),.int .i64 2002])):=fun w=>dmul_bigu H A L (by decide +kernel) (by decide +kernel) w;have HN:Hid (∀w,Cg 22 #[.int .i64 0,.agg (nw 9 1),.agg (nw 9 1),.agg (pnQ P)] w (.tuple #[.agg (pnt 0 0 false),.int .i64 2000])):=fun w=>dmul_no 0 (by decide) w
 go_enter func24,ntmps24
 go_upto_region 2 with (go_at_call 10;refine(U.out _).mono ?_;rintro e WB ⟨q,rfl,B,GB⟩)
 obtain⟨e1,C⟩:=exl (WB.heap.size);simp only[C]
 refine gen_w (fun v=>Gr w v∧Vr v e1 (crA 13 (nN 13) q)∧∀j,Sl v (q j).1 (nN 13 j)) ?_ ?_
 ·subst C;exact⟨GB.alloc _,Vr.new _ _ _,fun j=>(B j).gr ((Gr.refl _).alloc _)⟩
 clear C GB B;rintro v0 ⟨G,S,B⟩;refine wp_v false [.c (.agg (crA 13 (nN 13) q)),.pt (P.1) (P.2.1) P.2.2,.c (.agg (pnQ P)),.a,.u] [0,1,2] [⟨3,4,38,pnt 0 0 false,fun _=>pnQ P⟩] ⟨.g 30 0 S rfl,.k _ fun f I d i=>RtW.of_pt (rgQ K q _ (fun j=>(B j).gr d)),.k (fun f =>#[.agg (ptA (f 1 0).1 (P.1) (f 1 0).2 (f 1 1).1 (P.2.1) (f 1 1).2 P.2.2)]) fun f I d i=>RtW.of_c (Rt.c (rout_any _ _ _ _ _ _ _ _ (i 1 rfl).1 (i 1 rfl).2)),⟨⟩⟩ ⟨.k zPnt ⟨fkc,fkp bPnt,fkc,fka,fku,trivial⟩,⟨⟩⟩ fun ah v1 d A V=>?_;simp only[fzw,Kw.a];obtain⟨⟨aa,x⟩,-⟩:=V;clear A;have h:=d;clear d
 go_upto_region 3 with fail
 refine wp_v true [.N 1,.N 1,.c (.agg (pnQ P)),.E (.agg (pnQ D)),.E (.agg (pnQ D)),.c (.agg (pnQ D)),.O,.a,.u,.O] [0,1,2,3] [⟨7,8,38,pnt 0 0 false,fun _=>pnQ D⟩] ⟨.z (one_any 1 (by decide)),.z (one_any 1 (by decide)),.g 38 0 x rfl,.z HD.out,⟨⟩⟩ ⟨.k zPnt (.t rfl),⟨⟩⟩ fun ai v2 d h3 W=>?_;simp only[fzw,Kw.a];obtain⟨⟨ab,Q⟩,-⟩:=W;clear h3;replace h:=h.trans d;have J:=d;clear d
 go_upto_region 4 with fail
 refine wp_v true [.N 223,.N 1,.c (.agg (pnQ P)),.c (.tuple #[.agg (pnt 0 0 false),.int .i64 2002]),.c (.tuple #[.agg (pnt 0 0 false),.int .i64 2002]),.c (.agg (pnt 0 0 false)),.c (.int .i64 2002),.a,.u,.c (.int .i64 2002)] [0,1,2,3] [⟨7,8,38,pnt 0 0 false,fun _=>pnt 0 0 false⟩] ⟨.z (one_any 223 (by decide)),.z (one_any 1 (by decide)),.g 38 0 (x.gr J) rfl,.z HB.out,⟨⟩⟩ ⟨.k zPnt (.t rfl),⟨⟩⟩ fun aj v3 d h4 X=>?_;simp only[fzw,Kw.a];obtain⟨⟨ac,ae⟩,-⟩:=X;clear h4;replace h:=h.trans d;replace J:=J.trans d;have Y:=d;clear d
 go_upto_region 5 with fail
 refine wp_v true [.N 1,.N 1,.c (.agg (pnQ P)),.c (.tuple #[.agg (pnt 0 0 false),.int .i64 2000]),.c (.tuple #[.agg (pnt 0 0 false),.int .i64 2000]),.c (.agg (pnt 0 0 false)),.c (.int .i64 2000),.a,.u,.c (.int .i64 2000)] [0,1,2,3] [⟨7,8,38,pnt 0 0 false,fun _=>pnt 0 0 false⟩] ⟨.z (one_any 1 (by decide)),.z (one_any 1 (by decide)),.g 38 0 (x.gr J) rfl,.z HN.out,⟨⟩⟩ ⟨.k zPnt (.t rfl),⟨⟩⟩ fun ak v4 d h5 Z=>?_;simp only[fzw,Kw.a];obtain⟨⟨af,ag⟩,-⟩:=Z;clear h5;replace h:=h.trans d;replace J:=J.trans d;replace Y:=Y.trans d;have g5:=d;clear d
 go_upto_region 6 with fail
 refine wp_w [.O,.O,.T,.T,.c (.agg (pnQ D)),.c (.agg (crA 13 (nN 13) q)),.c (.agg (crA 13 (nN 13) q)),.pt (P.1) (P.2.1) P.2.2,.c (.agg (crA 13 (nN 13) q)),.pt (P.1) (P.2.1) P.2.2,.pt (D.1) (D.2.1) D.2.2,.c (.agg (pnQ D)),.T,.T,.T,.c (.int .i64 2002),.c (.int .i64 2002),.T,.T,.T,.c (.int .i64 2000),.c (.int .i64 2000),.T,.T,.T] [1,4,5,6,7,8,9,10,11,12,16,21] ⟨.y (num_any _),.g 38 0 (Q.gr Y) rfl,.g 30 0 (S.gr h) rfl,.g 30 0 (S.gr h) rfl,.k _ fun f I d i=>RtW.of_pt (rgQ K q _ (fun j=>(B j).gr (h.trans d))),.g 30 0 (S.gr h) rfl,.k _ fun f I d i=>RtW.of_pt (rgQ K q _ (fun j=>(B j).gr (h.trans d))),.k (fun f =>#[.agg (crA 13 (nN 13) q),.agg (ptA (f 7 0).1 (P.1) (f 7 0).2 (f 7 1).1 (P.2.1) (f 7 1).2 P.2.2),.agg (ptA (f 9 0).1 (P.1) (f 9 0).2 (f 9 1).1 (P.2.1) (f 9 1).2 P.2.2)]) fun f I d i=>RtW.of_pt (hS▸rplusQ 13 H A q L L (fun j=>(B j).gr (h.trans d)) (i 7 rfl).1 (i 7 rfl).2 (i 9 rfl).1 (i 9 rfl).2),.k (fun f =>#[.agg (ptA (f 10 0).1 (D.1) (f 10 0).2 (f 10 1).1 (D.2.1) (f 10 1).2 D.2.2)]) fun f I d i=>RtW.of_c (Rt.c (rout_any _ _ _ _ _ _ _ _ (i 10 rfl).1 (i 10 rfl).2)),.s (.binOp .eql 38 (.const (.agg (pnQ D))) (.const (.agg (pnQ D))) 38) rfl fun I d=>by simp[go_sem,exI,eqPn,eqN_self],.y (num_any _),.y (num_any _),⟨⟩⟩ fun ao v5 d h6=>?_;simp only[fzw];clear h6;replace h:=h.trans d;replace G:=G.trans h
 go_wp2_with fail
 go_ret
 exact⟨rfl,G⟩
end
end
end Go.Proofs.YtffhepbppiocbadGreat