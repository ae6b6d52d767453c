import Derived.Test.YtiigakdbabijhaaGreatXAZE
import Derived.Test.YtiigakdbabijhaaGreatXAZF
import Derived.Test.YtiigakdbabijhaaGreatXAAU
import Derived.Test.YtiigakdbabijhaaGreatXARRead
namespace Go.Proofs.YtiigakdbabijhaaGreat
open Go.RowKit Go.Proofs.Tryz
set_option maxRecDepth 100000
set_option maxHeartbeats 8000000
section
attribute [local go_sem ↓] uz1
attribute [local go_sem] uz2
section
attribute [local go_sem] uz8
attribute [local go_sem ↓] bsB_is cvT_is bsl_is loadC_is storeC_is loadPt_is storePt_is zvPt_is buildPt_is loadPn_is storePn_is zvPn_is loadCu_is storeCu_is zvCu_is buildCu_is buildPn_is Go.wp_at_zero Go.wp_at_succ
attribute [local go_sem] bsB1 loadC storeC0 storeCr crA_size loadPt storePt zvPt ptA_size loadPn storePn zvPn pnt_size loadCu storeCu zvCu cu_size buildCu0 buildPnI buildPn2 loadCP loadCA loadCB loadCN loadCG loadCX loadCY cu_P cu_A cu_B cu_N cu_G cu_X cu_Y frz_setBlk blk_setBlk setBlk_setBlk blk_other
theorem rput_off{k:Nat}(h1:1≤k)(h2:k≤15){x y:Nat}{f:Bool}(hx:x<M)(hy:y<M)(h:onB k x y f=false)(sh:Bool)(qc:Nat→Option Addr×Nat){p q:Option Addr}{n m:Nat}{w:World}(HQ:∀j,Sl w (qc j).1 (nN k j))(Sx:Sl w p x)(Sy:Sl w q y):
 Cg 15 #[.agg (crA (k:Int) (nN k) qc),.agg (ptA p x n q y m f),.bool sh] w (.tuple #[.string ⟨#[]⟩,.int .i64 2101]):=by
 have A:onB k x y f=false:=h
 go_enter func15,ntmps15
 go_upto_region 1 with fail
 refine gen_w (fun v=>Gr w v∧Vr v (w.heap.size) (crA (k:Int) (nN k) qc)∧Vr v (w.heap.size+1) (ptA p x n q y m f)) ⟨grA,vrA,vrA⟩ ?_;rintro D ⟨G,i,l⟩;replace HQ:=fun j=>(HQ j).gr G;replace Sx:=Sx.gr G;replace Sy:=Sy.gr G;refine wp_wS [.c (.agg (crA (k:Int) (nN k) qc)),.c (.agg (ptA p (x) n q (y) m f)),.F,.T,.T,.u,.u,.T] [0,1,2] ⟨.g 31 0 i rfl,.g 44 0 l rfl,.k (fun B =>#[.agg (crA (k:Int) (nN k) qc),.agg (ptA p (x) n q (y) m f)]) fun B H d I=>RtW.of_c (ron_is (P:=(x,y,f)) h1 h2 ⟨hx,hy⟩ A qc (fun j=>(HQ j).gr d) (Sx.gr d) (Sy.gr d)),⟨⟩⟩ fun C J d h1=>?_;simp only[fzw];clear h1;replace G:=G.trans d;replace i:=i.gr d;replace l:=l.gr d;replace HQ:=fun k=>(HQ k).gr d;replace Sx:=Sx.gr d;replace Sy:=Sy.gr d;clear d
 go_wp2_with fail
 exact bo2 results15 (rd_tmp (by rfl)) ⟨rfl,G⟩
theorem rput_inf{k:Nat}(h1:1≤k)(h2:k≤15){x y:Nat}(hx:x<M)(hy:y<M)(h:onB k x y true=true)(sh:Bool)(qc:Nat→Option Addr×Nat){p q:Option Addr}{n m:Nat}{w:World}(HQ:∀j,Sl w (qc j).1 (nN k j))(Sx:Sl w p x)(Sy:Sl w q y):
 Cg 15 #[.agg (crA (k:Int) (nN k) qc),.agg (ptA p x n q y m true),.bool sh] w (.tuple #[.string ⟨#[]⟩,.int .i64 2101]):=by
 have l:onB k x y true=true:=h
 go_enter func15,ntmps15
 go_upto_region 1 with fail
 refine gen_w (fun v=>Gr w v∧Vr v (w.heap.size) (crA (k:Int) (nN k) qc)∧Vr v (w.heap.size+1) (ptA p x n q y m true)) ⟨grA,vrA,vrA⟩ ?_;rintro C ⟨G,i,f⟩;replace HQ:=fun j=>(HQ j).gr G;replace Sx:=Sx.gr G;replace Sy:=Sy.gr G;refine wp_wS [.c (.agg (crA (k:Int) (nN k) qc)),.c (.agg (ptA p (x) n q (y) m true)),.T,.F,.F,.c (pv (w.heap.size+1) 2),.T,.T] [0,1,2,6] ⟨.g 31 0 i rfl,.g 44 0 f rfl,.k (fun A =>#[.agg (crA (k:Int) (nN k) qc),.agg (ptA p (x) n q (y) m true)]) fun A D d H=>RtW.of_c (ron_is (P:=(x,y,true)) h1 h2 ⟨hx,hy⟩ l qc (fun j=>(HQ j).gr d) (Sx.gr d) (Sy.gr d)),.o 4 2 f rfl rfl,⟨⟩⟩ fun B I d h1=>?_;simp only[fzw];clear h1;replace G:=G.trans d;replace i:=i.gr d;replace f:=f.gr d;replace HQ:=fun k=>(HQ k).gr d;replace Sx:=Sx.gr d;replace Sy:=Sy.gr d;clear d
 go_wp2_with fail
 exact bo2 results15 (rd_tmp (by rfl)) ⟨rfl,G⟩
theorem rput_short{k:Nat}(h1:1≤k)(h2:k≤15){x y:Nat}(h:OnQ k (x,y,false))(qc:Nat→Option Addr×Nat){p q:Option Addr}{n m:Nat}{w:World}(HQ:∀j,Sl w (qc j).1 (nN k j))(Sx:Sl w p x)(Sy:Sl w q y):
 Cg 15 #[.agg (crA (k:Int) (nN k) qc),.agg (ptA p x n q y m false),.bool true] w (.tuple #[.string ⟨(putL k (x,y,false) true).toArray⟩,.int .i64 0]):=by
 have ho:onB k x y false=true:=h
 have l:x<pN k∧y<pN k:=by
  simp only[OnQ,onB,Bool.false_eq_true,if_false,Bool.and_eq_true,decide_eq_true_eq]at h;exact⟨h.1,h.2.1⟩
 have V:x<M:=Nat.lt_trans l.1 (pN_M k);have W:y<M:=Nat.lt_trans l.2 (pN_M k);have X:=szN_le k;have K:=szN_bl l.1;have L:=szN_bl l.2
 have Q:dl x≤50000:=by have:=dl_M x V;omega
 have R:dl y≤50000:=by have:=dl_M y W;omega
 obtain⟨D,A⟩:∃t:ByteArray,⟨(bs (szN k) x).toArray⟩=t:=⟨_,rfl⟩;obtain⟨H,S⟩:∃t:ByteArray,⟨(bs (szN k) y).toArray⟩=t:=⟨_,rfl⟩;obtain⟨b,Y⟩:∃b:Nat,y%2=b:=⟨_,rfl⟩
 have aa:b<2:=by omega
 have HB:Hid (∀w n p,Sl w p y→Calls prog 39 #[.slice p (dl y) n,.int .i64 0] w fun e Z=>e=.returned (.int .i64 b)∧Z=w):=fun w n p h=>by
  have:=rbit_any y n 0 p w h (by decide)
  rwa [show bitN y 0=b by rw[bitN,Nat.pow_zero,Nat.div_one];exact Y]at this
 obtain⟨U,B⟩:∃t:ByteArray,⟨[UInt8.ofNat (2+b)].toArray⟩=t:=⟨_,rfl⟩
 have eA:(⟨(putL k (x,y,false) true).toArray⟩:ByteArray)=U++D:=by rw[←A,←B,app_tx,←Y];rfl
 rw[eA]
 have z1:U.size+D.size≤9223372036854775807:=by rw[←A,←B,sz_tx,sz_tx,bs_length,List.length_singleton];omega
 have wb:IntKind.i64.wrap (2+(b:Int))=2+(b:Int):=by rw[IntKind.wrap_i64];omega
 have wu:IntKind.u8.wrap (2+(b:Int))=2+(b:Int):=by rw[IntKind.wrap_u8];omega
 have ab:∀v g,blk v g =#[.int .u8 (2+(b:Int))]→(cvT (.slice (some ⟨g,0,none⟩) 1 1)).run prog v=.ok (.string U) v:=fun v g h=>B▸cvT_blk [UInt8.ofNat (2+b)] v g (by
  rw[h,List.map_cons,List.map_nil,UInt8.toNat_ofNat'];rw[show ((2+b)%2^8:Nat)=2+b by omega]
  rfl)
 go_enter func15,ntmps15
 go_upto_region 1 with fail
 refine gen_w (fun v=>Gr w v∧Vr v (w.heap.size) (crA (k:Int) (nN k) qc)∧Vr v (w.heap.size+1) (ptA p x n q y m false)) ⟨grA,vrA,vrA⟩ ?_;rintro v0 ⟨G,i,f⟩;replace HQ:=fun j=>(HQ j).gr G;replace Sx:=Sx.gr G;replace Sy:=Sy.gr G;refine wp_wS [.c (.agg (crA (k:Int) (nN k) qc)),.c (.agg (ptA p (x) n q (y) m false)),.T,.F,.F,.c (pv (w.heap.size+1) 2),.F,.F] [0,1,2,6] ⟨.g 31 0 i rfl,.g 44 0 f rfl,.k (fun C =>#[.agg (crA (k:Int) (nN k) qc),.agg (ptA p (x) n q (y) m false)]) fun C I d J=>RtW.of_c (ron_is (P:=(x,y,false)) h1 h2 ⟨V,W⟩ ho qc (fun j=>(HQ j).gr d) (Sx.gr d) (Sy.gr d)),.o 4 2 f rfl rfl,⟨⟩⟩ fun ac v1 d h1=>?_;simp only[fzw];clear h1;replace G:=G.trans d;replace i:=i.gr d;replace f:=f.gr d;replace HQ:=fun k=>(HQ k).gr d;replace Sx:=Sx.gr d;replace Sy:=Sy.gr d;clear d
 go_upto_region 3 with fail
 refine wp_w [.c (pv (w.heap.size+1) 0),.c (.slice p (dl (x)) n),.c (.agg (crA (k:Int) (nN k) qc)),.c (.int .i64 (szN k:Int)),.c (.tuple #[.string D,.bool true]),.c (.tuple #[.string D,.bool true]),.c (.string D),.T,.c (.string D),.T] [1,2,3,4] ⟨.o 29 0 f rfl rfl,.g 31 0 i rfl,.k _ fun C I d J=>RtW.of_c (rsize_yes k h1 h2 qc _ (fun j=>(HQ j).gr d)),.k (fun C =>#[.slice p (dl (x)) n,.int .i64 (szN k:Int)]) fun C I d J=>RtW.of_c (Rt.c (A▸rbytes_any x _ (szN k) _ _ (Sx.gr d) Q X K)),⟨⟩⟩ fun ae v2 d h3=>?_;simp only[fzw];clear h3;replace G:=G.trans d;replace i:=i.gr d;replace f:=f.gr d;replace HQ:=fun k=>(HQ k).gr d;replace Sx:=Sx.gr d;replace Sy:=Sy.gr d;clear d
 go_upto_region 4 with fail
 refine wp_w [.c (pv (w.heap.size+1) 1),.c (.slice q (dl (y)) m),.c (.agg (crA (k:Int) (nN k) qc)),.c (.int .i64 (szN k:Int)),.c (.tuple #[.string H,.bool true]),.c (.tuple #[.string H,.bool true]),.c (.string H),.T,.c (.string H),.T] [1,2,3,4] ⟨.o 29 1 f rfl rfl,.g 31 0 i rfl,.k _ fun C I d J=>RtW.of_c (rsize_yes k h1 h2 qc _ (fun j=>(HQ j).gr d)),.k (fun C =>#[.slice q (dl (y)) m,.int .i64 (szN k:Int)]) fun C I d J=>RtW.of_c (Rt.c (S▸rbytes_any y _ (szN k) _ _ (Sy.gr d) R X L)),⟨⟩⟩ fun af v3 d h4=>?_;simp only[fzw];clear h4;replace G:=G.trans d;replace i:=i.gr d;replace f:=f.gr d;replace HQ:=fun k=>(HQ k).gr d;replace Sx:=Sx.gr d;replace Sy:=Sy.gr d;clear d
 have k1:v3.cell? ⟨w.heap.size+1,1,none⟩=some (.slice q (dl y) m):=by rw[cell_blk,f.h];rfl
 clear i f
 go_wp2_with (go_at_call 39;refine(HB.out _ _ _ Sy).mono ?_;rintro e Z ⟨rfl,rfl⟩)
 exact bo2 results15 (rd_tmp (by rfl)) ⟨rfl,by exact grB⟩
theorem rput_whole{k:Nat}(h1:1≤k)(h2:k≤15){x y:Nat}(h:OnQ k (x,y,false))(qc:Nat→Option Addr×Nat){p q:Option Addr}{n m:Nat}{w:World}(HQ:∀j,Sl w (qc j).1 (nN k j))(Sx:Sl w p x)(Sy:Sl w q y):
 Cg 15 #[.agg (crA (k:Int) (nN k) qc),.agg (ptA p x n q y m false),.bool false] w (.tuple #[.string ⟨(putL k (x,y,false) false).toArray⟩,.int .i64 0]):=by
 have W:onB k x y false=true:=h
 have B:x<pN k∧y<pN k:=by
  simp only[OnQ,onB,Bool.false_eq_true,if_false,Bool.and_eq_true,decide_eq_true_eq]at h;exact⟨h.1,h.2.1⟩
 have S:x<M:=Nat.lt_trans B.1 (pN_M k);have U:y<M:=Nat.lt_trans B.2 (pN_M k);have V:=szN_le k;have K:=szN_bl B.1;have L:=szN_bl B.2
 have Q:dl x≤50000:=by have:=dl_M x S;omega
 have R:dl y≤50000:=by have:=dl_M y U;omega
 obtain⟨f,C⟩:∃t:ByteArray,⟨(bs (szN k) x).toArray⟩=t:=⟨_,rfl⟩;obtain⟨A,D⟩:∃t:ByteArray,⟨(bs (szN k) y).toArray⟩=t:=⟨_,rfl⟩
 have X:(⟨(putL k (x,y,false) false).toArray⟩:ByteArray)=⟨#[4]⟩++f++A:=by rw[←C,←D,app_tx [4],app_tx];rfl
 rw[X]
 have Y:1+f.size≤9223372036854775807:=by rw[←C,sz_tx,bs_length];omega
 have Z:1+f.size+A.size≤9223372036854775807:=by rw[←C,←D,sz_tx,sz_tx,bs_length,bs_length];omega
 go_enter func15,ntmps15
 go_upto_region 1 with fail
 refine gen_w (fun v=>Gr w v∧Vr v (w.heap.size) (crA (k:Int) (nN k) qc)∧Vr v (w.heap.size+1) (ptA p x n q y m false)) ⟨grA,vrA,vrA⟩ ?_;rintro v0 ⟨G,l,i⟩;replace HQ:=fun j=>(HQ j).gr G;replace Sx:=Sx.gr G;replace Sy:=Sy.gr G;refine wp_wS [.c (.agg (crA (k:Int) (nN k) qc)),.c (.agg (ptA p (x) n q (y) m false)),.T,.F,.F,.c (pv (w.heap.size+1) 2),.F,.F] [0,1,2,6] ⟨.g 31 0 l rfl,.g 44 0 i rfl,.k (fun H =>#[.agg (crA (k:Int) (nN k) qc),.agg (ptA p (x) n q (y) m false)]) fun H I d J=>RtW.of_c (ron_is (P:=(x,y,false)) h1 h2 ⟨S,U⟩ W qc (fun j=>(HQ j).gr d) (Sx.gr d) (Sy.gr d)),.o 4 2 i rfl rfl,⟨⟩⟩ fun aa v1 d h1=>?_;simp only[fzw];clear h1;replace G:=G.trans d;replace l:=l.gr d;replace i:=i.gr d;replace HQ:=fun k=>(HQ k).gr d;replace Sx:=Sx.gr d;replace Sy:=Sy.gr d;clear d
 go_upto_region 3 with fail
 refine wp_w [.c (pv (w.heap.size+1) 0),.c (.slice p (dl (x)) n),.c (.agg (crA (k:Int) (nN k) qc)),.c (.int .i64 (szN k:Int)),.c (.tuple #[.string f,.bool true]),.c (.tuple #[.string f,.bool true]),.c (.string f),.T,.c (.string f),.T] [1,2,3,4] ⟨.o 29 0 i rfl rfl,.g 31 0 l rfl,.k _ fun H I d J=>RtW.of_c (rsize_yes k h1 h2 qc _ (fun j=>(HQ j).gr d)),.k (fun H =>#[.slice p (dl (x)) n,.int .i64 (szN k:Int)]) fun H I d J=>RtW.of_c (Rt.c (C▸rbytes_any x _ (szN k) _ _ (Sx.gr d) Q V K)),⟨⟩⟩ fun ab v2 d h3=>?_;simp only[fzw];clear h3;replace G:=G.trans d;replace l:=l.gr d;replace i:=i.gr d;replace HQ:=fun k=>(HQ k).gr d;replace Sx:=Sx.gr d;replace Sy:=Sy.gr d;clear d
 go_upto_region 4 with fail
 refine wp_w [.c (pv (w.heap.size+1) 1),.c (.slice q (dl (y)) m),.c (.agg (crA (k:Int) (nN k) qc)),.c (.int .i64 (szN k:Int)),.c (.tuple #[.string A,.bool true]),.c (.tuple #[.string A,.bool true]),.c (.string A),.T,.c (.string A),.T] [1,2,3,4] ⟨.o 29 1 i rfl rfl,.g 31 0 l rfl,.k _ fun H I d J=>RtW.of_c (rsize_yes k h1 h2 qc _ (fun j=>(HQ j).gr d)),.k (fun H =>#[.slice q (dl (y)) m,.int .i64 (szN k:Int)]) fun H I d J=>RtW.of_c (Rt.c (D▸rbytes_any y _ (szN k) _ _ (Sy.gr d) R V L)),⟨⟩⟩ fun ac v3 d h4=>?_;simp only[fzw];clear h4;replace G:=G.trans d;replace l:=l.gr d;replace i:=i.gr d;replace HQ:=fun k=>(HQ k).gr d;replace Sx:=Sx.gr d;replace Sy:=Sy.gr d;clear d
 go_upto_region 7 with fail
 refine wp_wS [.c (.string f),.c (.string (⟨#[4]⟩++f)),.c (.string A),.c (.string (⟨#[4]⟩++f++A)),.c (.string (⟨#[4]⟩++f++A)),.O] [1,3] ⟨.s (.binOp .add 9 (.const (.string { data :=#[4] })) (.const (.string f)) 9) rfl fun I d=>by simp[go_sem,exI,Y],.s (.binOp .add 9 (.const (.string (⟨#[4]⟩++f))) (.const (.string A)) 9) rfl fun I d=>by simp[go_sem,exI,Z],⟨⟩⟩ fun ae v4 d h7=>?_;simp only[fzw];clear h7;replace G:=G.trans d;replace l:=l.gr d;replace i:=i.gr d;replace HQ:=fun k=>(HQ k).gr d;replace Sx:=Sx.gr d;replace Sy:=Sy.gr d;clear d
 go_wp2_with fail
 exact bo2 results15 (rd_tmp (by rfl)) ⟨rfl,G⟩
theorem rput_any{k:Nat}(h1:1≤k)(h2:k≤15){P:Q3}(lP:P.1<M∧P.2.1<M)(sh:Bool)(qc:Nat→Option Addr×Nat){p q:Option Addr}{n m:Nat}{w:World}(HQ:∀j,Sl w (qc j).1 (nN k j))(Sx:Sl w p P.1)(Sy:Sl w q P.2.1):
 Cg 15 #[.agg (crA (k:Int) (nN k) qc),.agg (ptA p P.1 n q P.2.1 m P.2.2),.bool sh] w (.tuple #[.string ⟨(putA k P sh).1.toArray⟩,.int .i64 (putA k P sh).2]):=by
 obtain⟨x,y,f⟩:=P
 cases h:onB k x y f with
 | false=>
  rw[show putA k (x,y,f) sh=([],2101) by cases f <;> simp[putA,h]];exact rput_off h1 h2 lP.1 lP.2 h sh qc HQ Sx Sy
 | true=>
  cases f with
  | true=>exact rput_inf h1 h2 lP.1 lP.2 h sh qc HQ Sx Sy
  | false=>
   rw[show putA k (x,y,false) sh=(putL k (x,y,false) sh,0) by simp[putA,h]]
   cases sh with
   | true=>exact rput_short h1 h2 h qc HQ Sx Sy
   | false=>exact rput_whole h1 h2 h qc HQ Sx Sy
end
section
def Kw.pe(x z:Nat)(E:Int):Kw:=⟨fun y=>.tuple #[.agg (ptA (y 0).1 x (y 0).2 (y 1).1 z (y 1).2 false),.int .i64 E],fun y w=>Sl w (y 0).1 x∧Sl w (y 1).1 z,fun _ _ _ h g=>⟨h.1.gr g,h.2.gr g⟩,0,fun h=>absurd rfl h,fun h=>absurd h (by decide)⟩
theorem fkpe{z:Array Value}{x y:Nat}{E:Int}(h:Blank z):FarK z (.pe x y E):=fun _ _ _ _ e k=>⟨Sl.set k.1 (e▸h),Sl.set k.2 (e▸h)⟩
theorem ptA_1(p:Option Addr)(x n:Nat)(q:Option Addr)(y m:Nat)(f:Bool):(ptA p x n q y m f)[1]? = some (.slice q (dl y) m):=rfl
theorem ptA_set(p:Option Addr)(x n:Nat)(q:Option Addr)(y m:Nat)(f:Bool)(q':Option Addr)(y' m':Nat):(ptA p x n q y m f).setIfInBounds 1 (.slice q' (dl y') m')=ptA p x n q' y' m' f:=rfl
theorem buildPt0z(w:World):(buildF 44 #[]).run prog w=.ok (.agg (ptA none 0 0 none 0 0 false)) w:=by kernel_rfl
theorem rright_k{k x R:Nat}(h1:1≤k)(h2:k≤15)(hx:x<pN k)(eR:rhN k x=R)(qc:Nat→Option Addr×Nat){p:Option Addr}{n:Nat}{w:World}(HQ:∀j,Sl w (qc j).1 (nN k j))(Sa:Sl w p x):
 Calls prog 43 #[.agg (crA (k:Int) (nN k) qc),.slice p (dl x) n] w (Nm R w):=by
 subst eR;exact rright_any (k:Int) (pN k) (aN k) (bN k) (oN k) (xN k) (yN k) qc x n p hx (aN_lt k h1 h2) (bN_lt k h1 h2) (by have:=dl_M (pN k) (pN_M k);omega) w HQ Sa
theorem rsq_yes{k x R Y:Nat}(h1:1≤k)(h2:k≤15)(hy:isY k x=true)(eR:rhN k x=R)(eY:sqR k R=Y)(w:World)(pa p:Option Addr)(na n:Nat)(sa:Sl w pa R)(sp:Sl w p (pN k)):
 Calls prog 42 #[.slice pa (dl R) na,.slice p (dl (pN k)) n] w (Rt (.nb Y true) w):=by
 have h:=pN_bd k h1 h2;have s:=isY_spec h1 h2 hy;have d:=rh_ne h1 h2 s.1;have i:=rh_lt h1 h2 x;rw[eR]at s d i;rw[eY]at s;obtain⟨q,S,z,j⟩:=rp_any k h1 h2
 have f:dl (pN k)≤18:=by have:=dl_M (pN k) (pN_M k);omega
 refine(sqrt_pN R (pN k) Y j (prm_pN k h1 h2) h.2.2 f d i (of_sq (prm_pN k h1 h2) h.2.2 d s.2.2.2.2.2) s.2.2.2.1 s.2.2.2.2.1 s.2.2.2.2.2 pa p na n w sa sp).mono ?_;rintro e D ⟨l,v,A,B,C⟩;exact⟨_,A,⟨l,v,rfl,B⟩,C⟩
theorem rsq_no{k x R:Nat}(h1:1≤k)(h2:k≤15)(hx:x<pN k)(hy:isY k x=false)(eR:rhN k x=R)(w:World)(pa p:Option Addr)(na n:Nat)(sa:Sl w pa R)(sp:Sl w p (pN k)):
 Cg 42 #[.slice pa (dl R) na,.slice p (dl (pN k)) n] w (.tuple #[.slice none 0 0,.bool false]):=by
 have i:=pN_bd k h1 h2;have d:=rh_ne h1 h2 hx;have f:=rh_lt h1 h2 x;rw[eR]at d f
 have h:dl (pN k)≤18:=by have:=dl_M (pN k) (pN_M k);omega
 refine sqrt_none_pN R (pN k) (prm_pN k h1 h2) i.2.2 h d f (fun e=>?_) pa p na n w sa sp;have:=(sq_spec k R h1 h2 ((sq_iff k R h1 h2 d f).2 e)).1;simp[isY,hx,eR,this]at hy
attribute [local go_sem] uz8
attribute [local go_sem ↓] uz13 Go.wp_at_zero Go.wp_at_succ
attribute [local go_sem] loadC storeC0 storeCr crA_size loadPt storePt zvPt buildPt0z ptA_size loadPn storePn zvPn pnt_size loadCu storeCu zvCu cu_size buildCu0 buildPnI buildPn2 loadCP loadCA loadCB loadCN loadCG loadCX loadCY cu_P cu_A cu_B cu_N cu_G cu_X cu_Y frz_setBlk blk_setBlk setBlk_setBlk blk_other
theorem rpoint_form{k:Nat}(h1:1≤k)(h2:k≤15){s:ByteArray}{zz z1 z3:Nat}(hzz:IntKind.i64.wrap (2*(szN k:Int))=(zz:Int))(hz1:IntKind.i64.wrap (1+(szN k:Int))=(z1:Int))(hz3:IntKind.i64.wrap (1+(zz:Int))=(z3:Int)){fi:Int}(hq:((s.size:Int)==(z3:Int))=false∧((s.size:Int) != (z1:Int))=true∨((s.size:Int)==(z3:Int))=true∧((s.size:Int) != (z1:Int))=true∧(∀w,(Instr.index 9 (.string s) (.int .i64 0)).run prog w=.ok (.int .u8 fi) w)∧(fi==4)=false∨((s.size:Int)==(z3:Int))=false∧((s.size:Int) != (z1:Int))=false∧(∀w,(Instr.index 9 (.string s) (.int .i64 0)).run prog w=.ok (.int .u8 fi) w)∧(fi != 2)=true∧(fi != 3)=true)(qc:Nat→Option Addr×Nat)(w:World)(HQ:∀j,Sl w (qc j).1 (nN k j)):
 Calls prog 17 #[.agg (crA (k:Int) (nN k) qc),.string s] w (RtW (.pe 0 0 2102) w):=by
 go_enter func17,ntmps17
 go_upto_region 1 with fail
 refine gen_w (fun v=>Gr w v∧Vr v (w.heap.size) (crA (k:Int) (nN k) qc)∧Vr v (w.heap.size+1) (ptA none 0 0 none 0 0 false)) ⟨grA,vrA,vrA⟩ ?_;rintro J ⟨G,i,f⟩;have R:w.heap.size+1<J.heap.size:=f.p;replace HQ:=fun j=>(HQ j).gr G;refine wp_wS [.c (.agg (crA (k:Int) (nN k) qc)),.c (.int .i64 (szN k:Int)),.c (.int .i64 (szN k:Int))] [0,1] ⟨.g 31 0 i rfl,.k _ fun S h d U=>RtW.of_c (rsize_yes k h1 h2 qc _ (fun j=>(HQ j).gr d)),⟨⟩⟩ fun K V d h1=>?_;simp only[fzw];clear h1;replace G:=G.trans d;replace i:=i.gr d;replace f:=f.gr d;replace HQ:=fun k=>(HQ k).gr d;clear d
 rcases hq with hq|hq|hq
 ·obtain⟨q,x⟩:=hq
  go_upto_region 2 with fail
  refine wp_wS [.c (.string s),.c (.int .i64 (s.size:Int)),.c (.int .i64 (szN k:Int)),.c (.int .i64 zz),.c (.int .i64 z3),.F,.F,.u,.u,.u,.F,.F] [3,4,5] ⟨.s (.binOp .mul 3 (.const (.int .i64 2)) (.const (.int .i64 (szN k:Int))) 3) rfl fun h d=>by simp[go_sem,exI,hzz],.s (.binOp .add 3 (.const (.int .i64 1)) (.const (.int .i64 zz)) 3) rfl fun h d=>by simp[go_sem,exI,hz3],.s (.binOp .eql 3 (.const (.int .i64 (s.size:Int))) (.const (.int .i64 z3)) 3) rfl fun h d=>by simp[go_sem,exI,q],⟨⟩⟩ fun A H d h2=>?_;simp only[fzw];clear h2;replace G:=G.trans d;replace i:=i.gr d;replace f:=f.gr d;replace HQ:=fun k=>(HQ k).gr d;clear d
  go_upto_region 3 with fail
  refine wp_wS [.F,.T,.T,.c (.string s),.c (.int .i64 (s.size:Int)),.c (.int .i64 (szN k:Int)),.c (.int .i64 z1),.T,.T,.u,.u,.u,.u,.u,.u,.u,.u,.T,.T] [6,7] ⟨.s (.binOp .add 3 (.const (.int .i64 1)) (.const (.int .i64 (szN k:Int))) 3) rfl fun h d=>by simp[go_sem,exI,hz1],.s (.binOp .neq 3 (.const (.int .i64 (s.size:Int))) (.const (.int .i64 z1)) 3) rfl fun h d=>by simp[go_sem,exI,x],⟨⟩⟩ fun B I d C=>?_;simp only[fzw];clear C;replace G:=G.trans d;replace i:=i.gr d;replace f:=f.gr d;replace HQ:=fun k=>(HQ k).gr d;clear d;have D:=f.al;clear i f
  go_wp2_with fail
  refine bo2 results17 (rd_pt _ _ _ _ _ _ _ (by rfl) ?_) ⟨fun _=>(none,0),rfl,⟨Sl.zero _ _,Sl.zero _ _⟩,?_⟩
  ·simp[go_sem, *]
  ·exact grB
 ·obtain⟨q,x,l,L⟩:=hq
  go_upto_region 2 with fail
  refine wp_wS [.c (.string s),.c (.int .i64 (s.size:Int)),.c (.int .i64 (szN k:Int)),.c (.int .i64 zz),.c (.int .i64 z3),.T,.T,.c (.string s),.c (.int .u8 fi),.F,.F,.F] [3,4,5,8,9] ⟨.s (.binOp .mul 3 (.const (.int .i64 2)) (.const (.int .i64 (szN k:Int))) 3) rfl fun h d=>by simp[go_sem,exI,hzz],.s (.binOp .add 3 (.const (.int .i64 1)) (.const (.int .i64 zz)) 3) rfl fun h d=>by simp[go_sem,exI,hz3],.s (.binOp .eql 3 (.const (.int .i64 (s.size:Int))) (.const (.int .i64 z3)) 3) rfl fun h d=>by simp[go_sem,exI,q],.s (.index 9 (.const (.string s)) (.const (.int .i64 0))) rfl fun h d=>by simp[go_sem,exI,l],.s (.binOp .eql 5 (.const (.int .u8 fi)) (.const (.int .u8 4)) 5) rfl fun h d=>by simp[go_sem,exI,L],⟨⟩⟩ fun A H d h2=>?_;simp only[fzw];clear h2;replace G:=G.trans d;replace i:=i.gr d;replace f:=f.gr d;replace HQ:=fun k=>(HQ k).gr d;clear d
  go_upto_region 3 with fail
  refine wp_wS [.F,.T,.T,.c (.string s),.c (.int .i64 (s.size:Int)),.c (.int .i64 (szN k:Int)),.c (.int .i64 z1),.T,.T,.u,.u,.u,.u,.u,.u,.u,.u,.T,.T] [6,7] ⟨.s (.binOp .add 3 (.const (.int .i64 1)) (.const (.int .i64 (szN k:Int))) 3) rfl fun h d=>by simp[go_sem,exI,hz1],.s (.binOp .neq 3 (.const (.int .i64 (s.size:Int))) (.const (.int .i64 z1)) 3) rfl fun h d=>by simp[go_sem,exI,x],⟨⟩⟩ fun B I d C=>?_;simp only[fzw];clear C;replace G:=G.trans d;replace i:=i.gr d;replace f:=f.gr d;replace HQ:=fun k=>(HQ k).gr d;clear d;have D:=f.al;clear i f
  go_wp2_with fail
  refine bo2 results17 (rd_pt _ _ _ _ _ _ _ (by rfl) ?_) ⟨fun _=>(none,0),rfl,⟨Sl.zero _ _,Sl.zero _ _⟩,?_⟩
  ·simp[go_sem, *]
  ·exact grB
 ·obtain⟨q,x,l,P,Q⟩:=hq
  go_upto_region 2 with fail
  refine wp_wS [.c (.string s),.c (.int .i64 (s.size:Int)),.c (.int .i64 (szN k:Int)),.c (.int .i64 zz),.c (.int .i64 z3),.F,.F,.u,.u,.u,.F,.F] [3,4,5] ⟨.s (.binOp .mul 3 (.const (.int .i64 2)) (.const (.int .i64 (szN k:Int))) 3) rfl fun h d=>by simp[go_sem,exI,hzz],.s (.binOp .add 3 (.const (.int .i64 1)) (.const (.int .i64 zz)) 3) rfl fun h d=>by simp[go_sem,exI,hz3],.s (.binOp .eql 3 (.const (.int .i64 (s.size:Int))) (.const (.int .i64 z3)) 3) rfl fun h d=>by simp[go_sem,exI,q],⟨⟩⟩ fun A H d h2=>?_;simp only[fzw];clear h2;replace G:=G.trans d;replace i:=i.gr d;replace f:=f.gr d;replace HQ:=fun k=>(HQ k).gr d;clear d
  go_upto_region 3 with fail
  refine wp_wS [.F,.T,.T,.c (.string s),.c (.int .i64 (s.size:Int)),.c (.int .i64 (szN k:Int)),.c (.int .i64 z1),.F,.F,.c (.string s),.c (.int .u8 fi),.T,.T,.c (.string s),.c (.int .u8 fi),.T,.T,.T,.T] [6,7,10,11,14,15] ⟨.s (.binOp .add 3 (.const (.int .i64 1)) (.const (.int .i64 (szN k:Int))) 3) rfl fun h d=>by simp[go_sem,exI,hz1],.s (.binOp .neq 3 (.const (.int .i64 (s.size:Int))) (.const (.int .i64 z1)) 3) rfl fun h d=>by simp[go_sem,exI,x],.s (.index 9 (.const (.string s)) (.const (.int .i64 0))) rfl fun h d=>by simp[go_sem,exI,l],.s (.binOp .neq 5 (.const (.int .u8 fi)) (.const (.int .u8 2)) 5) rfl fun h d=>by simp[go_sem,exI,P],.s (.index 9 (.const (.string s)) (.const (.int .i64 0))) rfl fun h d=>by simp[go_sem,exI,l],.s (.binOp .neq 5 (.const (.int .u8 fi)) (.const (.int .u8 3)) 5) rfl fun h d=>by simp[go_sem,exI,Q],⟨⟩⟩ fun B I d C=>?_;simp only[fzw];clear C;replace G:=G.trans d;replace i:=i.gr d;replace f:=f.gr d;replace HQ:=fun k=>(HQ k).gr d;clear d;have D:=f.al;clear i f
  go_wp2_with fail
  refine bo2 results17 (rd_pt _ _ _ _ _ _ _ (by rfl) ?_) ⟨fun _=>(none,0),rfl,⟨Sl.zero _ _,Sl.zero _ _⟩,?_⟩
  ·simp[go_sem, *]
  ·exact grB
theorem rpoint_full{k:Nat}(h1:1≤k)(h2:k≤15){s:ByteArray}{zz z1 z3:Nat}(hzz:IntKind.i64.wrap (2*(szN k:Int))=(zz:Int))(hz1:IntKind.i64.wrap (1+(szN k:Int))=(z1:Int))(hz3:IntKind.i64.wrap (1+(zz:Int))=(z3:Int))(p3:((s.size:Int)==(z3:Int))=true)(hix:∀w,(Instr.index 9 (.string s) (.int .i64 0)).run prog w=.ok (.int .u8 4) w){t1:ByteArray}(hs1:∀w,(Instr.slice 9 (.string s) (some (.int .i64 1)) (some (.int .i64 z1)) none).run prog w=.ok (.string t1) w){x:Nat}(HR1':∀w,Calls prog 40 #[.string t1] w (Nm x w)){t2:ByteArray}(hs2:∀w,(Instr.slice 9 (.string s) (some (.int .i64 z1)) none none).run prog w=.ok (.string t2) w){y:Nat}(HR2':∀w,Calls prog 40 #[.string t2] w (Nm y w))(hx:x<M)(hy:y<M){r:Bool}(ho:onB k x y false=r)(qc:Nat→Option Addr×Nat)(w:World)(HQ:∀j,Sl w (qc j).1 (nN k j)):
 Calls prog 17 #[.agg (crA (k:Int) (nN k) qc),.string s] w (RtW (.pe (bif r then x else 0) (bif r then y else 0) (bif r then 0 else 2101)) w):=by
 have V:dl x≤400:=by have:=dl_M x hx;omega
 have hd:dl (pN k)≤400:=by have:=dl_M (pN k) (pN_M k);omega
 obtain⟨S,Y⟩:=exl (cmpZ x (pN k));have aa:Hid _:=HR1';have ab:Hid _:=HR2';clear HR1' HR2'
 go_enter func17,ntmps17
 go_upto_region 1 with fail
 refine gen_w (fun v=>Gr w v∧Vr v (w.heap.size) (crA (k:Int) (nN k) qc)∧Vr v (w.heap.size+1) (ptA none 0 0 none 0 0 false)) ⟨grA,vrA,vrA⟩ ?_;rintro v0 ⟨G,C,B⟩;have L0:w.heap.size+1<v0.heap.size:=B.p;replace HQ:=fun j=>(HQ j).gr G;refine wp_wS [.c (.agg (crA (k:Int) (nN k) qc)),.c (.int .i64 (szN k:Int)),.c (.int .i64 (szN k:Int))] [0,1] ⟨.g 31 0 C rfl,.k _ fun I K d R=>RtW.of_c (rsize_yes k h1 h2 qc _ (fun j=>(HQ j).gr d)),⟨⟩⟩ fun ak v1 d h1=>?_;simp only[fzw];clear h1;replace G:=G.trans d;replace C:=C.gr d;replace B:=B.gr d;replace HQ:=fun k=>(HQ k).gr d;clear d
 go_upto_region 2 with fail
 refine wp_wS [.c (.string s),.c (.int .i64 (s.size:Int)),.c (.int .i64 (szN k:Int)),.c (.int .i64 zz),.c (.int .i64 z3),.T,.T,.c (.string s),.c (.int .u8 4),.T,.T,.T] [3,4,5,8] ⟨.s (.binOp .mul 3 (.const (.int .i64 2)) (.const (.int .i64 (szN k:Int))) 3) rfl fun K d=>by simp[go_sem,exI,hzz],.s (.binOp .add 3 (.const (.int .i64 1)) (.const (.int .i64 zz)) 3) rfl fun K d=>by simp[go_sem,exI,hz3],.s (.binOp .eql 3 (.const (.int .i64 (s.size:Int))) (.const (.int .i64 z3)) 3) rfl fun K d=>by simp[go_sem,exI,p3],.s (.index 9 (.const (.string s)) (.const (.int .i64 0))) rfl fun K d=>by simp[go_sem,exI,hix],⟨⟩⟩ fun ao v2 d h2=>?_;simp only[fzw];clear h2;replace G:=G.trans d;replace C:=C.gr d;replace B:=B.gr d;replace HQ:=fun k=>(HQ k).gr d;clear d
 go_upto_region 3 with fail
 refine wp_wS [.T,.F,.F,.u,.u,.u,.u,.u,.u,.u,.u,.u,.u,.u,.u,.u,.u,.u,.F] [] ⟨⟩ fun ap v3 d h3=>?_;simp only[fzw];clear h3;replace G:=G.trans d;replace C:=C.gr d;replace B:=B.gr d;replace HQ:=fun k=>(HQ k).gr d;clear d;have L5:w.heap.size+1<v3.heap.size:=B.p
 go_upto_region 5 with fail
 refine wp_v false [.c (.string s),.c (.int .i64 (szN k:Int)),.c (.int .i64 z1),.c (.string t1),.n (x),.pt (x) (0) false,.a,.u] [2,3,4,5] [⟨6,7,44,ptA none 0 0 none 0 0 false,fun I=>ptA (I 5 0).1 (x) (I 5 0).2 (I 5 1).1 (0) (I 5 1).2 false⟩] ⟨.s (.binOp .add 3 (.const (.int .i64 1)) (.const (.int .i64 (szN k:Int))) 3) rfl fun K d=>by simp[go_sem,exI,hz1],.s (.slice 9 (.const (.string s)) (some (.const (.int .i64 1))) (some (.const (.int .i64 z1))) none) rfl fun K d=>by simp[go_sem,exI,hs1],.k _ fun I K d R=>RtW.of_n (Rt.n (aa.out _)),.p (fun I i=>match i with|0=>I 4 0|_=>(none,0)) fun I K d R=>⟨R 4 rfl,Sl.zero _ _⟩,⟨⟩⟩ ⟨.mk (fun _ _ h=>Value.agg.inj (h 5 rfl)) (fun _ v b H F=>by dsimp only at H ⊢;simp[go_sem,exI,H,F]) zPt ⟨fkc,fkc,fkc,fkc,fkn bPt,fkp bPt,fka,fku,trivial⟩,⟨⟩⟩ fun l v4 d h5 ac=>?_;simp only[fzw,Kw.a];obtain⟨A,J⟩:Sl v4 (l 5 0).1 (x)∧Sl v4 (l 5 1).1 (0):=h5 5;obtain⟨⟨ai,q⟩,-⟩:(v3.heap.size≤(l 6 0).2∧Vr v4 (l 6 0).2 (ptA (l 5 0).1 (x) (l 5 0).2 (l 5 1).1 (0) (l 5 1).2 false))∧True:=ac;clear h5;replace G:=G.trans d;replace C:=C.gr d;replace B:=B.gr d;replace HQ:=fun k=>(HQ k).gr d;clear d;generalize (l 6 0).2=U at *
 by_cases hl:x<pN k
 ·have bz:decide (0≤S)=false:=by rw[←Y];unfold cmpZ;rw[if_pos hl];decide
  go_upto_region 6 with fail
  refine wp_wS [.c (pv U 0),.c (.slice (l 5 0).1 (dl (x)) (l 5 0).2),.c (pv (w.heap.size) 1),.c (.slice (qc 0).1 (dl (pN k)) (qc 0).2),.c (.int .i64 S),.F] [1,3,4,5] ⟨.o 29 0 q rfl rfl,.o 29 1 C rfl rfl,.k (fun I =>#[.slice (l 5 0).1 (dl (x)) (l 5 0).2,.slice (qc 0).1 (dl (pN k)) (qc 0).2]) fun I K d R=>RtW.of_c (cz_any (A.gr d) ((HQ 0).gr d) V hd Y),.s (.binOp .geq 3 (.const (.int .i64 S)) (.const (.int .i64 0)) 3) rfl fun K d=>by simp[go_sem,exI,bz],⟨⟩⟩ fun ae v5 d h6=>?_;simp only[fzw];clear h6;replace G:=G.trans d;replace C:=C.gr d;replace B:=B.gr d;replace q:=q.gr d;replace HQ:=fun k=>(HQ k).gr d;replace A:=A.gr d;replace J:=J.gr d;clear d
  go_upto_region 9 with fail
  refine wp_wTS 6 [.c (.string s),.c (.int .i64 (szN k:Int)),.c (.int .i64 z1),.c (.string t2),.n (y),.c (pv U 1)] [2,3,4] ⟨.s (.binOp .add 3 (.const (.int .i64 1)) (.const (.int .i64 (szN k:Int))) 3) rfl fun K d=>by simp[go_sem,exI,hz1],.s (.slice 9 (.const (.string s)) (some (.const (.int .i64 z1))) none none) rfl fun K d=>by simp[go_sem,exI,hs2],.k _ fun I K d R=>RtW.of_n (Rt.n (ab.out _)),⟨⟩⟩ (.s 29 (fun I=>pv U 1) (fun I=>.slice (I 4 0).1 (dl (y)) (I 4 0).2) fun D v6 d h9=>?_);have W:=(q.gr d).h;have FT:=(q.gr d).f;refine⟨setBlk v6 (U) (ptA (l 5 0).1 x (l 5 0).2 (D 4 0).1 y (D 4 0).2 false),by simp[go_sem,exI,W,cell_blk,frz_at _ _ _ FT,setCell_setBlk,ptA_1,ptA_set],?_⟩;simp only[fzw];have Q:Sl v6 (D 4 0).1 (y):=h9 4;clear h9;replace G:=G.trans d;replace C:=C.gr d;replace B:=B.gr d;replace q:=q.gr d;replace HQ:=fun k=>(HQ k).gr d;replace A:=A.gr d;replace J:=J.gr d;clear d
  go_upto_region 10 with fail
  refine gen_w (fun u=>Gr w u∧Vr u (w.heap.size) (crA (k:Int) (nN k) qc)∧Vr u (w.heap.size+1) (ptA none 0 0 none 0 0 false)∧Vr u U (ptA (l 5 0).1 x (l 5 0).2 (D 4 0).1 y (D 4 0).2 false)∧(∀j,Sl u (qc j).1 (nN k j))∧Sl u (l 5 0).1 x∧Sl u (D 4 0).1 y) ⟨gr_setNew G (by omega),C.other (by omega),B.other (by omega),q.set (by rw[ptA_size];decide) _,fun j=>Sl.set (HQ j) (by rw[W];exact ptA_no _ _ _ _ _ _ _),Sl.set A (by rw[W];exact ptA_no _ _ _ _ _ _ _),Sl.set Q (by rw[W];exact ptA_no _ _ _ _ _ _ _)⟩ ?_;clear G C B q HQ W FT A Q;rintro u ⟨G,C,B,X,HQ,Z,Sy⟩
  go_upto_region 10 with fail
  refine wp_wS [.c (.agg (crA (k:Int) (nN k) qc)),.c (.agg (ptA (l 5 0).1 (x) (l 5 0).2 (D 4 0).1 (y) (D 4 0).2 false)),.c (.bool r),.c (.bool (!r))] [0,1,2,3] ⟨.g 31 0 C rfl,.g 44 0 X rfl,.k (fun I =>#[.agg (crA (k:Int) (nN k) qc),.agg (ptA (l 5 0).1 (x) (l 5 0).2 (D 4 0).1 (y) (D 4 0).2 false)]) fun I K d R=>RtW.of_c (ron_is (P:=(x,y,false)) h1 h2 ⟨hx,hy⟩ ho qc (fun j=>(HQ j).gr d) (Z.gr d) (Sy.gr d)),.s (.unOp .not 4 (.const (.bool r))) rfl fun K d=>by simp[go_sem,exI],⟨⟩⟩ fun aj v7 d af=>?_;simp only[fzw];clear af;replace G:=G.trans d;replace C:=C.gr d;replace B:=B.gr d;replace X:=X.gr d;replace HQ:=fun k=>(HQ k).gr d;replace Z:=Z.gr d;replace Sy:=Sy.gr d;clear d
  cases r
  ·have⟨L,ag,ah⟩:=B;have⟨aq,ar,au,av,aw,ax⟩:=B.pp;clear C B
   go_wp2_with fail
   refine bo2 results17 (rd_pt _ _ _ _ _ _ _ (by rfl) ?_) ⟨fun _=>(none,0),rfl,⟨Sl.zero _ _,Sl.zero _ _⟩,?_⟩
   ·simp[go_sem, *]
   ·exact grB
  ·have⟨L,ag,ah⟩:=B;have⟨ay,az,aA⟩:=X;clear C B X
   go_wp2_with fail
   refine bo2 results17 (rd_pt _ _ _ _ _ _ _ (by rfl) ?_) ⟨fun i=>if i=0 then((l 5 0).1,(l 5 0).2) else((D 4 0).1,(D 4 0).2),rfl,⟨Sl.set Z (by rw[L];exact ptA_no _ _ _ _ _ _ _),Sl.set Sy (by rw[L];exact ptA_no _ _ _ _ _ _ _)⟩,?_⟩
   ·simp[go_sem, *]
   ·exact grB
 ·obtain rfl:r=false:=by rw[←ho];simp[onB,hl]
  have bz:decide (0≤S)=true:=by rw[←Y];unfold cmpZ;rw[if_neg (by omega)];split <;> decide
  go_upto_region 6 with fail
  refine wp_wS [.c (pv U 0),.c (.slice (l 5 0).1 (dl (x)) (l 5 0).2),.c (pv (w.heap.size) 1),.c (.slice (qc 0).1 (dl (pN k)) (qc 0).2),.c (.int .i64 S),.T] [1,3,4,5] ⟨.o 29 0 q rfl rfl,.o 29 1 C rfl rfl,.k (fun I =>#[.slice (l 5 0).1 (dl (x)) (l 5 0).2,.slice (qc 0).1 (dl (pN k)) (qc 0).2]) fun I K d R=>RtW.of_c (cz_any (A.gr d) ((HQ 0).gr d) V hd Y),.s (.binOp .geq 3 (.const (.int .i64 S)) (.const (.int .i64 0)) 3) rfl fun K d=>by simp[go_sem,exI,bz],⟨⟩⟩ fun ae v5 d h6=>?_;simp only[fzw];clear h6;replace G:=G.trans d;replace C:=C.gr d;replace B:=B.gr d;replace q:=q.gr d;replace HQ:=fun k=>(HQ k).gr d;replace A:=A.gr d;replace J:=J.gr d;clear d;have L:=B.al;clear C B
  go_wp2_with fail
  refine bo2 results17 (rd_pt _ _ _ _ _ _ _ (by rfl) ?_) ⟨fun _=>(none,0),rfl,⟨Sl.zero _ _,Sl.zero _ _⟩,?_⟩
  ·simp[go_sem, *]
  ·exact grB
theorem rpoint_x0{k:Nat}(h1:1≤k)(h2:k≤15){s:ByteArray}{zz z1 z3:Nat}(hzz:IntKind.i64.wrap (2*(szN k:Int))=(zz:Int))(hz1:IntKind.i64.wrap (1+(szN k:Int))=(z1:Int))(hz3:IntKind.i64.wrap (1+(zz:Int))=(z3:Int))(p3:((s.size:Int)==(z3:Int))=false)(p1:((s.size:Int) != (z1:Int))=false)(hix:∀w,(Instr.index 9 (.string s) (.int .i64 0)).run prog w=.ok (.int .u8 2) w){t1:ByteArray}(hs1:∀w,(Instr.slice 9 (.string s) (some (.int .i64 1)) (some (.int .i64 z1)) none).run prog w=.ok (.string t1) w){x:Nat}(HR1':∀w,Calls prog 40 #[.string t1] w (Nm x w))(hx:x<M){c:Bool}(hy:isY k x=c){Yd:Nat}(hYd:ysN k 0 x=Yd)(qc:Nat→Option Addr×Nat)(w:World)(HQ:∀j,Sl w (qc j).1 (nN k j)):
 Calls prog 17 #[.agg (crA (k:Int) (nN k) qc),.string s] w (RtW (.pe (bif c then x else 0) (bif c then Yd else 0) (bif c then 0 else 2101)) w):=by
 have aa:dl x≤400:=by have:=dl_M x hx;omega
 have hd:dl (pN k)≤400:=by have:=dl_M (pN k) (pN_M k);omega
 obtain⟨X,ez⟩:=exl (cmpZ x (pN k));have ac:Hid _:=HR1';clear HR1';obtain⟨R,Z⟩:=exl (rhN k x)
 go_enter func17,ntmps17
 go_upto_region 1 with fail
 refine gen_w (fun v=>Gr w v∧Vr v (w.heap.size) (crA (k:Int) (nN k) qc)∧Vr v (w.heap.size+1) (ptA none 0 0 none 0 0 false)) ⟨grA,vrA,vrA⟩ ?_;rintro v0 ⟨G,I,J⟩;have L0:w.heap.size+1<v0.heap.size:=J.p;replace HQ:=fun j=>(HQ j).gr G;refine wp_wS [.c (.agg (crA (k:Int) (nN k) qc)),.c (.int .i64 (szN k:Int)),.c (.int .i64 (szN k:Int))] [0,1] ⟨.g 31 0 I rfl,.k _ fun K L d P=>RtW.of_c (rsize_yes k h1 h2 qc _ (fun j=>(HQ j).gr d)),⟨⟩⟩ fun aj v1 d h1=>?_;simp only[fzw];clear h1;replace G:=G.trans d;replace I:=I.gr d;replace J:=J.gr d;replace HQ:=fun k=>(HQ k).gr d;clear d
 go_upto_region 2 with fail
 refine wp_wS [.c (.string s),.c (.int .i64 (s.size:Int)),.c (.int .i64 (szN k:Int)),.c (.int .i64 zz),.c (.int .i64 z3),.F,.F,.u,.u,.u,.F,.F] [3,4,5] ⟨.s (.binOp .mul 3 (.const (.int .i64 2)) (.const (.int .i64 (szN k:Int))) 3) rfl fun L d=>by simp[go_sem,exI,hzz],.s (.binOp .add 3 (.const (.int .i64 1)) (.const (.int .i64 zz)) 3) rfl fun L d=>by simp[go_sem,exI,hz3],.s (.binOp .eql 3 (.const (.int .i64 (s.size:Int))) (.const (.int .i64 z3)) 3) rfl fun L d=>by simp[go_sem,exI,p3],⟨⟩⟩ fun ak v2 d h2=>?_;simp only[fzw];clear h2;replace G:=G.trans d;replace I:=I.gr d;replace J:=J.gr d;replace HQ:=fun k=>(HQ k).gr d;clear d
 go_upto_region 3 with fail
 refine wp_wS [.F,.T,.T,.c (.string s),.c (.int .i64 (s.size:Int)),.c (.int .i64 (szN k:Int)),.c (.int .i64 z1),.F,.F,.c (.string s),.c (.int .u8 2),.F,.F,.u,.u,.u,.F,.F,.F] [6,7,10] ⟨.s (.binOp .add 3 (.const (.int .i64 1)) (.const (.int .i64 (szN k:Int))) 3) rfl fun L d=>by simp[go_sem,exI,hz1],.s (.binOp .neq 3 (.const (.int .i64 (s.size:Int))) (.const (.int .i64 z1)) 3) rfl fun L d=>by simp[go_sem,exI,p1],.s (.index 9 (.const (.string s)) (.const (.int .i64 0))) rfl fun L d=>by simp[go_sem,exI,hix],⟨⟩⟩ fun ao v3 d h3=>?_;simp only[fzw];clear h3;replace G:=G.trans d;replace I:=I.gr d;replace J:=J.gr d;replace HQ:=fun k=>(HQ k).gr d;clear d;have L5:w.heap.size+1<v3.heap.size:=J.p
 go_upto_region 5 with fail
 refine wp_v false [.c (.string s),.c (.int .i64 (szN k:Int)),.c (.int .i64 z1),.c (.string t1),.n (x),.pt (x) (0) false,.a,.u] [2,3,4,5] [⟨6,7,44,ptA none 0 0 none 0 0 false,fun K=>ptA (K 5 0).1 (x) (K 5 0).2 (K 5 1).1 (0) (K 5 1).2 false⟩] ⟨.s (.binOp .add 3 (.const (.int .i64 1)) (.const (.int .i64 (szN k:Int))) 3) rfl fun L d=>by simp[go_sem,exI,hz1],.s (.slice 9 (.const (.string s)) (some (.const (.int .i64 1))) (some (.const (.int .i64 z1))) none) rfl fun L d=>by simp[go_sem,exI,hs1],.k _ fun K L d P=>RtW.of_n (Rt.n (ac.out _)),.p (fun K i=>match i with|0=>K 4 0|_=>(none,0)) fun K L d P=>⟨P 4 rfl,Sl.zero _ _⟩,⟨⟩⟩ ⟨.mk (fun _ _ h=>Value.agg.inj (h 5 rfl)) (fun _ v b H F=>by dsimp only at H ⊢;simp[go_sem,exI,H,F]) zPt ⟨fkc,fkc,fkc,fkc,fkn bPt,fkp bPt,fka,fku,trivial⟩,⟨⟩⟩ fun q v4 d h5 ae=>?_;simp only[fzw,Kw.a];obtain⟨A,C⟩:Sl v4 (q 5 0).1 (x)∧Sl v4 (q 5 1).1 (0):=h5 5;obtain⟨⟨ah,l⟩,-⟩:(v3.heap.size≤(q 6 0).2∧Vr v4 (q 6 0).2 (ptA (q 5 0).1 (x) (q 5 0).2 (q 5 1).1 (0) (q 5 1).2 false))∧True:=ae;clear h5;replace G:=G.trans d;replace I:=I.gr d;replace J:=J.gr d;replace HQ:=fun k=>(HQ k).gr d;clear d;generalize (q 6 0).2=U at *
 by_cases hl:x<pN k
 ·have bz:decide (0≤X)=false:=by rw[←ez];unfold cmpZ;rw[if_pos hl];decide
  go_upto_region 6 with fail
  refine wp_wS [.c (pv U 0),.c (.slice (q 5 0).1 (dl (x)) (q 5 0).2),.c (pv (w.heap.size) 1),.c (.slice (qc 0).1 (dl (pN k)) (qc 0).2),.c (.int .i64 X),.F] [1,3,4,5] ⟨.o 29 0 l rfl rfl,.o 29 1 I rfl rfl,.k (fun K =>#[.slice (q 5 0).1 (dl (x)) (q 5 0).2,.slice (qc 0).1 (dl (pN k)) (qc 0).2]) fun K L d P=>RtW.of_c (cz_any (A.gr d) ((HQ 0).gr d) aa hd ez),.s (.binOp .geq 3 (.const (.int .i64 X)) (.const (.int .i64 0)) 3) rfl fun L d=>by simp[go_sem,exI,bz],⟨⟩⟩ fun af v5 d h6=>?_;simp only[fzw];clear h6;replace G:=G.trans d;replace I:=I.gr d;replace J:=J.gr d;replace l:=l.gr d;replace HQ:=fun k=>(HQ k).gr d;replace A:=A.gr d;replace C:=C.gr d;clear d
  cases c with
  | false=>
   have V:Hid (∀w pa p na n,Sl w pa R→Sl w p (pN k)→Cg 42 #[.slice pa (dl R) na,.slice p (dl (pN k)) n] w (.tuple #[.slice none 0 0,.bool false])):=fun w pa p na n sa sp=>rsq_no h1 h2 hl hy Z w pa p na n sa sp
   go_upto_region 13 with fail
   refine wp_w [.c (.agg (crA (k:Int) (nN k) qc)),.c (pv U 0),.c (.slice (q 5 0).1 (dl (x)) (q 5 0).2),.n (R),.c (pv (w.heap.size) 1),.c (.slice (qc 0).1 (dl (pN k)) (qc 0).2),.c (.tuple #[.slice none 0 0,.bool false]),.c (.tuple #[.slice none 0 0,.bool false]),.c (.slice none 0 0),.F,.c (.slice none 0 0),.F] [0,2,3,5,6] ⟨.g 31 0 I rfl,.o 29 0 l rfl rfl,.k (fun K =>#[.agg (crA (k:Int) (nN k) qc),.slice (q 5 0).1 (dl (x)) (q 5 0).2]) fun K L d P=>RtW.of_n (Rt.n (rright_k h1 h2 hl Z qc (fun j=>(HQ j).gr d) (A.gr d))),.o 29 1 I rfl rfl,.k (fun K =>#[.slice (K 3 0).1 (dl (R)) (K 3 0).2,.slice (qc 0).1 (dl (pN k)) (qc 0).2]) fun K L d P=>RtW.of_c (Rt.c (V.out _ _ _ _ _ (P 3 rfl) ((HQ 0).gr d))),⟨⟩⟩ fun B v6 d Q=>?_;simp only[fzw];clear Q;replace G:=G.trans d;replace I:=I.gr d;replace J:=J.gr d;replace l:=l.gr d;replace HQ:=fun k=>(HQ k).gr d;replace A:=A.gr d;replace C:=C.gr d;clear d
   go_upto_region 14 with fail
   refine wp_w [.F,.F,.u,.u,.u,.u,.u,.u,.u,.F] [] ⟨⟩ fun ab v7 d W=>?_;simp only[fzw];clear W;replace G:=G.trans d;replace I:=I.gr d;replace J:=J.gr d;replace l:=l.gr d;replace HQ:=fun k=>(HQ k).gr d;replace A:=A.gr d;replace C:=C.gr d;clear d;have S:=J.al;clear I J
   go_wp2_with fail
   refine bo2 results17 (rd_pt _ _ _ _ _ _ _ (by rfl) ?_) ⟨fun _=>(none,0),rfl,⟨Sl.zero _ _,Sl.zero _ _⟩,?_⟩
   ·simp[go_sem, *]
   ·exact grB
  | true=>
   obtain⟨Y,eY⟩:=exl (sqR k R);have sp:=isY_spec h1 h2 hy;rw[Z,eY]at sp;have V:Hid (∀w pa p na n,Sl w pa R→Sl w p (pN k)→Calls prog 42 #[.slice pa (dl R) na,.slice p (dl (pN k)) n] w (Rt (.nb Y true) w)):=fun w pa p na n sa sp=>rsq_yes h1 h2 hy Z eY w pa p na n sa sp
   have HB:Hid (∀w n p,Sl w p Y→Calls prog 39 #[.slice p (dl Y) n,.int .i64 0] w fun e w'=>e=.returned (.int .i64 0)∧w'=w):=fun w n p h=>by
    have:=rbit_any Y n 0 p w h (by decide)
    rwa [show bitN Y 0=0 by rw[bitN,Nat.pow_zero,Nat.div_one];exact sp.2.2.2.2.1]at this
   obtain rfl:Y=Yd:=by rw[←hYd,ysN,if_pos rfl,Z,eY]
   go_upto_region 13 with fail
   refine wp_w [.c (.agg (crA (k:Int) (nN k) qc)),.c (pv U 0),.c (.slice (q 5 0).1 (dl (x)) (q 5 0).2),.n (R),.c (pv (w.heap.size) 1),.c (.slice (qc 0).1 (dl (pN k)) (qc 0).2),.nb (Y) true,.nb (Y) true,.n (Y),.T,.n (Y),.T] [0,2,3,5,6,7,8,9,10] ⟨.g 31 0 I rfl,.o 29 0 l rfl rfl,.k (fun K =>#[.agg (crA (k:Int) (nN k) qc),.slice (q 5 0).1 (dl (x)) (q 5 0).2]) fun K L d P=>RtW.of_n (Rt.n (rright_k h1 h2 hl Z qc (fun j=>(HQ j).gr d) (A.gr d))),.o 29 1 I rfl rfl,.k (fun K =>#[.slice (K 3 0).1 (dl (R)) (K 3 0).2,.slice (qc 0).1 (dl (pN k)) (qc 0).2]) fun K L d P=>RtW.of_nb ((V.out _ _ _ _ _ (P 3 rfl) ((HQ 0).gr d))),.m 6,.m 7,.m 7,.m 8,⟨⟩⟩ fun B v6 d Q=>?_;simp only[fzw];have D:Sl v6 (B 10 0).1 (Y):=Q 10;clear Q;replace G:=G.trans d;replace I:=I.gr d;replace J:=J.gr d;replace l:=l.gr d;replace HQ:=fun k=>(HQ k).gr d;replace A:=A.gr d;replace C:=C.gr d;clear d
   go_upto_region 14 with fail
   refine wp_w [.T,.T,.c (.slice (B 10 0).1 (dl (Y)) (B 10 0).2),.O,.c (.string s),.c (.int .u8 2),.c (.int .i64 2),.O,.F,.F] [3,5] ⟨.k (fun K =>#[.slice (B 10 0).1 (dl (Y)) (B 10 0).2,.int .i64 0]) fun K L d P=>RtW.of_c (Rt.same (HB.out _ _ _ (D.gr d))),.s (.index 9 (.const (.string s)) (.const (.int .i64 0))) rfl fun L d=>by simp[go_sem,exI,hix],⟨⟩⟩ fun ab v7 d W=>?_;simp only[fzw];clear W;replace G:=G.trans d;replace I:=I.gr d;replace J:=J.gr d;replace l:=l.gr d;replace HQ:=fun k=>(HQ k).gr d;replace A:=A.gr d;replace C:=C.gr d;replace D:=D.gr d;clear d
   go_upto_region 20 with fail
   refine wp_wTS 2 [.c (.slice (B 10 0).1 (dl (Y)) (B 10 0).2),.c (pv U 1)] [] ⟨⟩ (.s 29 (fun K=>pv U 1) (fun K=>.slice (B 10 0).1 (dl (Y)) (B 10 0).2) fun ai v8 d ag=>?_);have HT:=(l.gr d).h;have FT:=(l.gr d).f;refine⟨setBlk v8 (U) (ptA (q 5 0).1 x (q 5 0).2 (B 10 0).1 Y (B 10 0).2 false),by simp[go_sem,exI,HT,cell_blk,frz_at _ _ _ FT,setCell_setBlk,ptA_1,ptA_set],?_⟩;simp only[fzw];clear ag;replace G:=G.trans d;replace I:=I.gr d;replace J:=J.gr d;replace l:=l.gr d;replace HQ:=fun k=>(HQ k).gr d;replace A:=A.gr d;replace C:=C.gr d;replace D:=D.gr d;clear d
   go_upto_region 21 with fail
   refine gen_w (fun u=>Gr w u∧Vr u (w.heap.size) (crA (k:Int) (nN k) qc)∧Vr u (w.heap.size+1) (ptA none 0 0 none 0 0 false)∧Vr u U (ptA (q 5 0).1 x (q 5 0).2 (B 10 0).1 Y (B 10 0).2 false)∧(∀j,Sl u (qc j).1 (nN k j))∧Sl u (q 5 0).1 x∧Sl u (B 10 0).1 Y) ⟨gr_setNew G (by omega),I.other (by omega),J.other (by omega),l.set (by rw[ptA_size];decide) _,fun j=>Sl.set (HQ j) (by rw[HT];exact ptA_no _ _ _ _ _ _ _),Sl.set A (by rw[HT];exact ptA_no _ _ _ _ _ _ _),Sl.set D (by rw[HT];exact ptA_no _ _ _ _ _ _ _)⟩ ?_;clear G I J l HQ HT FT A D;rintro u ⟨G,I,J,c8,HQ,Sx,Sy⟩;have⟨S,ap,aq⟩:=J;have⟨ar,au,av⟩:=c8;clear I J c8
   go_wp2_with fail
   refine bo2 results17 (rd_pt _ _ _ _ _ _ _ (by rfl) ?_) ⟨fun i=>if i=0 then((q 5 0).1,(q 5 0).2) else((B 10 0).1,(B 10 0).2),rfl,⟨Sl.set Sx (by rw[S];exact ptA_no _ _ _ _ _ _ _),Sl.set Sy (by rw[S];exact ptA_no _ _ _ _ _ _ _)⟩,?_⟩
   ·simp[go_sem, *]
   ·exact grB
 ·obtain rfl:c=false:=by rw[←hy];simp[isY,hl]
  have bz:decide (0≤X)=true:=by rw[←ez];unfold cmpZ;rw[if_neg (by omega)];split <;> decide
  go_upto_region 6 with fail
  refine wp_wS [.c (pv U 0),.c (.slice (q 5 0).1 (dl (x)) (q 5 0).2),.c (pv (w.heap.size) 1),.c (.slice (qc 0).1 (dl (pN k)) (qc 0).2),.c (.int .i64 X),.T] [1,3,4,5] ⟨.o 29 0 l rfl rfl,.o 29 1 I rfl rfl,.k (fun K =>#[.slice (q 5 0).1 (dl (x)) (q 5 0).2,.slice (qc 0).1 (dl (pN k)) (qc 0).2]) fun K L d P=>RtW.of_c (cz_any (A.gr d) ((HQ 0).gr d) aa hd ez),.s (.binOp .geq 3 (.const (.int .i64 X)) (.const (.int .i64 0)) 3) rfl fun L d=>by simp[go_sem,exI,bz],⟨⟩⟩ fun af v5 d h6=>?_;simp only[fzw];clear h6;replace G:=G.trans d;replace I:=I.gr d;replace J:=J.gr d;replace l:=l.gr d;replace HQ:=fun k=>(HQ k).gr d;replace A:=A.gr d;replace C:=C.gr d;clear d;have S:=J.al;clear I J
  go_wp2_with fail
  refine bo2 results17 (rd_pt _ _ _ _ _ _ _ (by rfl) ?_) ⟨fun _=>(none,0),rfl,⟨Sl.zero _ _,Sl.zero _ _⟩,?_⟩
  ·simp[go_sem, *]
  ·exact grB
theorem rpoint_x1{k:Nat}(h1:1≤k)(h2:k≤15){s:ByteArray}{zz z1 z3:Nat}(hzz:IntKind.i64.wrap (2*(szN k:Int))=(zz:Int))(hz1:IntKind.i64.wrap (1+(szN k:Int))=(z1:Int))(hz3:IntKind.i64.wrap (1+(zz:Int))=(z3:Int))(p3:((s.size:Int)==(z3:Int))=false)(p1:((s.size:Int) != (z1:Int))=false)(hix:∀w,(Instr.index 9 (.string s) (.int .i64 0)).run prog w=.ok (.int .u8 3) w){t1:ByteArray}(hs1:∀w,(Instr.slice 9 (.string s) (some (.int .i64 1)) (some (.int .i64 z1)) none).run prog w=.ok (.string t1) w){x:Nat}(HR1':∀w,Calls prog 40 #[.string t1] w (Nm x w))(hx:x<M){c:Bool}(hy:isY k x=c){Yd:Nat}(hYd:ysN k 1 x=Yd)(qc:Nat→Option Addr×Nat)(w:World)(HQ:∀j,Sl w (qc j).1 (nN k j)):
 Calls prog 17 #[.agg (crA (k:Int) (nN k) qc),.string s] w (RtW (.pe (bif c then x else 0) (bif c then Yd else 0) (bif c then 0 else 2101)) w):=by
 have aa:dl x≤400:=by have:=dl_M x hx;omega
 have hd:dl (pN k)≤400:=by have:=dl_M (pN k) (pN_M k);omega
 obtain⟨Z,ez⟩:=exl (cmpZ x (pN k));have ac:Hid _:=HR1';clear HR1';obtain⟨R,eR⟩:=exl (rhN k x)
 go_enter func17,ntmps17
 go_upto_region 1 with fail
 refine gen_w (fun v=>Gr w v∧Vr v (w.heap.size) (crA (k:Int) (nN k) qc)∧Vr v (w.heap.size+1) (ptA none 0 0 none 0 0 false)) ⟨grA,vrA,vrA⟩ ?_;rintro v0 ⟨G,C,I⟩;have L0:w.heap.size+1<v0.heap.size:=I.p;replace HQ:=fun j=>(HQ j).gr G;refine wp_wS [.c (.agg (crA (k:Int) (nN k) qc)),.c (.int .i64 (szN k:Int)),.c (.int .i64 (szN k:Int))] [0,1] ⟨.g 31 0 C rfl,.k _ fun J L d P=>RtW.of_c (rsize_yes k h1 h2 qc _ (fun j=>(HQ j).gr d)),⟨⟩⟩ fun ap v1 d h1=>?_;simp only[fzw];clear h1;replace G:=G.trans d;replace C:=C.gr d;replace I:=I.gr d;replace HQ:=fun k=>(HQ k).gr d;clear d
 go_upto_region 2 with fail
 refine wp_wS [.c (.string s),.c (.int .i64 (s.size:Int)),.c (.int .i64 (szN k:Int)),.c (.int .i64 zz),.c (.int .i64 z3),.F,.F,.u,.u,.u,.F,.F] [3,4,5] ⟨.s (.binOp .mul 3 (.const (.int .i64 2)) (.const (.int .i64 (szN k:Int))) 3) rfl fun L d=>by simp[go_sem,exI,hzz],.s (.binOp .add 3 (.const (.int .i64 1)) (.const (.int .i64 zz)) 3) rfl fun L d=>by simp[go_sem,exI,hz3],.s (.binOp .eql 3 (.const (.int .i64 (s.size:Int))) (.const (.int .i64 z3)) 3) rfl fun L d=>by simp[go_sem,exI,p3],⟨⟩⟩ fun aq v2 d h2=>?_;simp only[fzw];clear h2;replace G:=G.trans d;replace C:=C.gr d;replace I:=I.gr d;replace HQ:=fun k=>(HQ k).gr d;clear d
 go_upto_region 3 with fail
 refine wp_wS [.F,.T,.T,.c (.string s),.c (.int .i64 (s.size:Int)),.c (.int .i64 (szN k:Int)),.c (.int .i64 z1),.F,.F,.c (.string s),.c (.int .u8 3),.T,.T,.c (.string s),.c (.int .u8 3),.F,.F,.F,.F] [6,7,10,14] ⟨.s (.binOp .add 3 (.const (.int .i64 1)) (.const (.int .i64 (szN k:Int))) 3) rfl fun L d=>by simp[go_sem,exI,hz1],.s (.binOp .neq 3 (.const (.int .i64 (s.size:Int))) (.const (.int .i64 z1)) 3) rfl fun L d=>by simp[go_sem,exI,p1],.s (.index 9 (.const (.string s)) (.const (.int .i64 0))) rfl fun L d=>by simp[go_sem,exI,hix],.s (.index 9 (.const (.string s)) (.const (.int .i64 0))) rfl fun L d=>by simp[go_sem,exI,hix],⟨⟩⟩ fun ar v3 d h3=>?_;simp only[fzw];clear h3;replace G:=G.trans d;replace C:=C.gr d;replace I:=I.gr d;replace HQ:=fun k=>(HQ k).gr d;clear d;have L5:w.heap.size+1<v3.heap.size:=I.p
 go_upto_region 5 with fail
 refine wp_v false [.c (.string s),.c (.int .i64 (szN k:Int)),.c (.int .i64 z1),.c (.string t1),.n (x),.pt (x) (0) false,.a,.u] [2,3,4,5] [⟨6,7,44,ptA none 0 0 none 0 0 false,fun J=>ptA (J 5 0).1 (x) (J 5 0).2 (J 5 1).1 (0) (J 5 1).2 false⟩] ⟨.s (.binOp .add 3 (.const (.int .i64 1)) (.const (.int .i64 (szN k:Int))) 3) rfl fun L d=>by simp[go_sem,exI,hz1],.s (.slice 9 (.const (.string s)) (some (.const (.int .i64 1))) (some (.const (.int .i64 z1))) none) rfl fun L d=>by simp[go_sem,exI,hs1],.k _ fun J L d P=>RtW.of_n (Rt.n (ac.out _)),.p (fun J i=>match i with|0=>J 4 0|_=>(none,0)) fun J L d P=>⟨P 4 rfl,Sl.zero _ _⟩,⟨⟩⟩ ⟨.mk (fun _ _ h=>Value.agg.inj (h 5 rfl)) (fun _ v b H F=>by dsimp only at H ⊢;simp[go_sem,exI,H,F]) zPt ⟨fkc,fkc,fkc,fkc,fkn bPt,fkp bPt,fka,fku,trivial⟩,⟨⟩⟩ fun A v4 d h5 ae=>?_;simp only[fzw,Kw.a];obtain⟨q,B⟩:Sl v4 (A 5 0).1 (x)∧Sl v4 (A 5 1).1 (0):=h5 5;obtain⟨⟨aj,l⟩,-⟩:(v3.heap.size≤(A 6 0).2∧Vr v4 (A 6 0).2 (ptA (A 5 0).1 (x) (A 5 0).2 (A 5 1).1 (0) (A 5 1).2 false))∧True:=ae;clear h5;replace G:=G.trans d;replace C:=C.gr d;replace I:=I.gr d;replace HQ:=fun k=>(HQ k).gr d;clear d;generalize (A 6 0).2=U at *
 by_cases hl:x<pN k
 ·have bz:decide (0≤Z)=false:=by rw[←ez];unfold cmpZ;rw[if_pos hl];decide
  go_upto_region 6 with fail
  refine wp_wS [.c (pv U 0),.c (.slice (A 5 0).1 (dl (x)) (A 5 0).2),.c (pv (w.heap.size) 1),.c (.slice (qc 0).1 (dl (pN k)) (qc 0).2),.c (.int .i64 Z),.F] [1,3,4,5] ⟨.o 29 0 l rfl rfl,.o 29 1 C rfl rfl,.k (fun J =>#[.slice (A 5 0).1 (dl (x)) (A 5 0).2,.slice (qc 0).1 (dl (pN k)) (qc 0).2]) fun J L d P=>RtW.of_c (cz_any (q.gr d) ((HQ 0).gr d) aa hd ez),.s (.binOp .geq 3 (.const (.int .i64 Z)) (.const (.int .i64 0)) 3) rfl fun L d=>by simp[go_sem,exI,bz],⟨⟩⟩ fun af v5 d h6=>?_;simp only[fzw];clear h6;replace G:=G.trans d;replace C:=C.gr d;replace I:=I.gr d;replace l:=l.gr d;replace HQ:=fun k=>(HQ k).gr d;replace q:=q.gr d;replace B:=B.gr d;clear d
  cases c with
  | false=>
   have W:Hid (∀w pa p na n,Sl w pa R→Sl w p (pN k)→Cg 42 #[.slice pa (dl R) na,.slice p (dl (pN k)) n] w (.tuple #[.slice none 0 0,.bool false])):=fun w pa p na n sa V=>rsq_no h1 h2 hl hy eR w pa p na n sa V
   go_upto_region 13 with fail
   refine wp_w [.c (.agg (crA (k:Int) (nN k) qc)),.c (pv U 0),.c (.slice (A 5 0).1 (dl (x)) (A 5 0).2),.n (R),.c (pv (w.heap.size) 1),.c (.slice (qc 0).1 (dl (pN k)) (qc 0).2),.c (.tuple #[.slice none 0 0,.bool false]),.c (.tuple #[.slice none 0 0,.bool false]),.c (.slice none 0 0),.F,.c (.slice none 0 0),.F] [0,2,3,5,6] ⟨.g 31 0 C rfl,.o 29 0 l rfl rfl,.k (fun J =>#[.agg (crA (k:Int) (nN k) qc),.slice (A 5 0).1 (dl (x)) (A 5 0).2]) fun J L d P=>RtW.of_n (Rt.n (rright_k h1 h2 hl eR qc (fun j=>(HQ j).gr d) (q.gr d))),.o 29 1 C rfl rfl,.k (fun J =>#[.slice (J 3 0).1 (dl (R)) (J 3 0).2,.slice (qc 0).1 (dl (pN k)) (qc 0).2]) fun J L d P=>RtW.of_c (Rt.c (W.out _ _ _ _ _ (P 3 rfl) ((HQ 0).gr d))),⟨⟩⟩ fun K v6 d Q=>?_;simp only[fzw];clear Q;replace G:=G.trans d;replace C:=C.gr d;replace I:=I.gr d;replace l:=l.gr d;replace HQ:=fun k=>(HQ k).gr d;replace q:=q.gr d;replace B:=B.gr d;clear d
   go_upto_region 14 with fail
   refine wp_w [.F,.F,.u,.u,.u,.u,.u,.u,.u,.F] [] ⟨⟩ fun ab v7 d X=>?_;simp only[fzw];clear X;replace G:=G.trans d;replace C:=C.gr d;replace I:=I.gr d;replace l:=l.gr d;replace HQ:=fun k=>(HQ k).gr d;replace q:=q.gr d;replace B:=B.gr d;clear d;have S:=I.al;clear C I
   go_wp2_with fail
   refine bo2 results17 (rd_pt _ _ _ _ _ _ _ (by rfl) ?_) ⟨fun _=>(none,0),rfl,⟨Sl.zero _ _,Sl.zero _ _⟩,?_⟩
   ·simp[go_sem, *]
   ·exact grB
  | true=>
   obtain⟨Y,eY⟩:=exl (sqR k R);have V:=isY_spec h1 h2 hy;rw[eR,eY]at V;have W:Hid (∀w pa p na n,Sl w pa R→Sl w p (pN k)→Calls prog 42 #[.slice pa (dl R) na,.slice p (dl (pN k)) n] w (Rt (.nb Y true) w)):=fun w pa p na n sa V=>rsq_yes h1 h2 hy eR eY w pa p na n sa V
   have HB:Hid (∀w n p,Sl w p Y→Calls prog 39 #[.slice p (dl Y) n,.int .i64 0] w fun e w'=>e=.returned (.int .i64 0)∧w'=w):=fun w n p h=>by
    have:=rbit_any Y n 0 p w h (by decide)
    rwa [show bitN Y 0=0 by rw[bitN,Nat.pow_zero,Nat.div_one];exact V.2.2.2.2.1]at this
   have ag:=V.2.2.2.1
   have zy:((dl Y:Int)==0)=false:=by rw[dl_nought,decide_eq_false (Nat.pos_iff_ne_zero.1 V.2.2.1)]
   have hU:pN k-Y=Yd:=by rw[←hYd,ysN,if_neg (by decide),eR,eY]
   go_upto_region 13 with fail
   refine wp_w [.c (.agg (crA (k:Int) (nN k) qc)),.c (pv U 0),.c (.slice (A 5 0).1 (dl (x)) (A 5 0).2),.n (R),.c (pv (w.heap.size) 1),.c (.slice (qc 0).1 (dl (pN k)) (qc 0).2),.nb (Y) true,.nb (Y) true,.n (Y),.T,.n (Y),.T] [0,2,3,5,6,7,8,9,10] ⟨.g 31 0 C rfl,.o 29 0 l rfl rfl,.k (fun J =>#[.agg (crA (k:Int) (nN k) qc),.slice (A 5 0).1 (dl (x)) (A 5 0).2]) fun J L d P=>RtW.of_n (Rt.n (rright_k h1 h2 hl eR qc (fun j=>(HQ j).gr d) (q.gr d))),.o 29 1 C rfl rfl,.k (fun J =>#[.slice (J 3 0).1 (dl (R)) (J 3 0).2,.slice (qc 0).1 (dl (pN k)) (qc 0).2]) fun J L d P=>RtW.of_nb ((W.out _ _ _ _ _ (P 3 rfl) ((HQ 0).gr d))),.m 6,.m 7,.m 7,.m 8,⟨⟩⟩ fun K v6 d Q=>?_;simp only[fzw];have D:Sl v6 (K 10 0).1 (Y):=Q 10;clear Q;replace G:=G.trans d;replace C:=C.gr d;replace I:=I.gr d;replace l:=l.gr d;replace HQ:=fun k=>(HQ k).gr d;replace q:=q.gr d;replace B:=B.gr d;clear d
   go_upto_region 14 with fail
   refine wp_w [.T,.T,.c (.slice (K 10 0).1 (dl (Y)) (K 10 0).2),.O,.c (.string s),.c (.int .u8 3),.c (.int .i64 3),.c (.int .i64 1),.T,.T] [3,5] ⟨.k (fun J =>#[.slice (K 10 0).1 (dl (Y)) (K 10 0).2,.int .i64 0]) fun J L d P=>RtW.of_c (Rt.same (HB.out _ _ _ (D.gr d))),.s (.index 9 (.const (.string s)) (.const (.int .i64 0))) rfl fun L d=>by simp[go_sem,exI,hix],⟨⟩⟩ fun ab v7 d X=>?_;simp only[fzw];clear X;replace G:=G.trans d;replace C:=C.gr d;replace I:=I.gr d;replace l:=l.gr d;replace HQ:=fun k=>(HQ k).gr d;replace q:=q.gr d;replace B:=B.gr d;replace D:=D.gr d;clear d
   go_upto_region 15 with fail
   refine wp_wS [.c (.slice (K 10 0).1 (dl (Y)) (K 10 0).2),.c (.int .i64 (dl (Y))),.F] [2] ⟨.s (.binOp .eql 3 (.const (.int .i64 (dl (Y)))) (.const (.int .i64 0)) 3) rfl fun L d=>by simp[go_sem,exI,zy],⟨⟩⟩ fun ak v8 d ah=>?_;simp only[fzw];clear ah;replace G:=G.trans d;replace C:=C.gr d;replace I:=I.gr d;replace l:=l.gr d;replace HQ:=fun k=>(HQ k).gr d;replace q:=q.gr d;replace B:=B.gr d;replace D:=D.gr d;clear d
   have k1:v8.cell? ⟨w.heap.size,1,none⟩=some (.slice (qc 0).1 (dl (pN k)) (qc 0).2):=by rw[C.cell];rfl
   go_upto_region 20 with (go_at_call 31;refine(sb_any (HQ 0) D hd (Nat.le_of_lt ag) hU).mono ?_;rintro e u2 ⟨_,rfl,⟨pU,nU,rfl,SU⟩,GU⟩)
   clear k1 D;replace G:=G.trans GU;replace C:=C.gr GU;replace I:=I.gr GU;replace l:=l.gr GU;replace q:=q.gr GU;replace HQ:=fun j=>(HQ j).gr GU;refine wp_wTS 2 [.c (.slice pU (dl (Yd)) nU),.c (pv U 1)] [] ⟨⟩ (.s 29 (fun J=>pv U 1) (fun J=>.slice pU (dl (Yd)) nU) fun ao v9 d ai=>?_);have HT:=(l.gr d).h;have FT:=(l.gr d).f;refine⟨setBlk v9 (U) (ptA (A 5 0).1 x (A 5 0).2 pU Yd nU false),by simp[go_sem,exI,HT,cell_blk,frz_at _ _ _ FT,setCell_setBlk,ptA_1,ptA_set],?_⟩;simp only[fzw];clear ai;replace G:=G.trans d;replace C:=C.gr d;replace I:=I.gr d;replace l:=l.gr d;replace HQ:=fun k=>(HQ k).gr d;replace q:=q.gr d;replace SU:=SU.gr d;clear d
   go_upto_region 21 with fail
   refine gen_w (fun u=>Gr w u∧Vr u (w.heap.size) (crA (k:Int) (nN k) qc)∧Vr u (w.heap.size+1) (ptA none 0 0 none 0 0 false)∧Vr u U (ptA (A 5 0).1 x (A 5 0).2 pU Yd nU false)∧(∀j,Sl u (qc j).1 (nN k j))∧Sl u (A 5 0).1 x∧Sl u pU Yd) ⟨gr_setNew G (by omega),C.other (by omega),I.other (by omega),l.set (by rw[ptA_size];decide) _,fun j=>Sl.set (HQ j) (by rw[HT];exact ptA_no _ _ _ _ _ _ _),Sl.set q (by rw[HT];exact ptA_no _ _ _ _ _ _ _),Sl.set SU (by rw[HT];exact ptA_no _ _ _ _ _ _ _)⟩ ?_;clear G C I l HQ HT FT q SU;rintro u ⟨G,C,I,c8,HQ,Sx,Sy⟩;have⟨S,au,av⟩:=I;have⟨aw,ax,ay⟩:=c8;clear C I c8
   go_wp2_with fail
   refine bo2 results17 (rd_pt _ _ _ _ _ _ _ (by rfl) ?_) ⟨fun i=>if i=0 then((A 5 0).1,(A 5 0).2) else(pU,nU),rfl,⟨Sl.set Sx (by rw[S];exact ptA_no _ _ _ _ _ _ _),Sl.set Sy (by rw[S];exact ptA_no _ _ _ _ _ _ _)⟩,?_⟩
   ·simp[go_sem, *]
   ·exact grB
 ·obtain rfl:c=false:=by rw[←hy];simp[isY,hl]
  have bz:decide (0≤Z)=true:=by rw[←ez];unfold cmpZ;rw[if_neg (by omega)];split <;> decide
  go_upto_region 6 with fail
  refine wp_wS [.c (pv U 0),.c (.slice (A 5 0).1 (dl (x)) (A 5 0).2),.c (pv (w.heap.size) 1),.c (.slice (qc 0).1 (dl (pN k)) (qc 0).2),.c (.int .i64 Z),.T] [1,3,4,5] ⟨.o 29 0 l rfl rfl,.o 29 1 C rfl rfl,.k (fun J =>#[.slice (A 5 0).1 (dl (x)) (A 5 0).2,.slice (qc 0).1 (dl (pN k)) (qc 0).2]) fun J L d P=>RtW.of_c (cz_any (q.gr d) ((HQ 0).gr d) aa hd ez),.s (.binOp .geq 3 (.const (.int .i64 Z)) (.const (.int .i64 0)) 3) rfl fun L d=>by simp[go_sem,exI,bz],⟨⟩⟩ fun af v5 d h6=>?_;simp only[fzw];clear h6;replace G:=G.trans d;replace C:=C.gr d;replace I:=I.gr d;replace l:=l.gr d;replace HQ:=fun k=>(HQ k).gr d;replace q:=q.gr d;replace B:=B.gr d;clear d;have S:=I.al;clear C I
  go_wp2_with fail
  refine bo2 results17 (rd_pt _ _ _ _ _ _ _ (by rfl) ?_) ⟨fun _=>(none,0),rfl,⟨Sl.zero _ _,Sl.zero _ _⟩,?_⟩
  ·simp[go_sem, *]
  ·exact grB
end
end
section
theorem rpoint_any{k:Nat}(h1:1≤k)(h2:k≤15)(l:List UInt8){X Y:Nat}{E:Int}(h:gtL k l=(X,Y,E))(qc:Nat→Option Addr×Nat)(w:World)(HQ:∀j,Sl w (qc j).1 (nN k j)):
 Calls prog 17 #[.agg (crA (k:Int) (nN k) qc),.string ⟨l.toArray⟩] w (RtW (.pe X Y E) w):=by
 have L:=szN_le k;have S:=szN_pos h1 h2
 have i:IntKind.i64.wrap (2*(szN k:Int))=((2*szN k:Nat):Int):=by rw[IntKind.wrap_i64];omega
 have q:IntKind.i64.wrap (1+(szN k:Int))=((1+szN k:Nat):Int):=by rw[IntKind.wrap_i64];omega
 have v:IntKind.i64.wrap (1+((2*szN k:Nat):Int))=((1+2*szN k:Nat):Int):=by rw[IntKind.wrap_i64];omega
 have H:∀n:Nat,(((⟨l.toArray⟩:ByteArray).size:Int)==(n:Int))=decide (l.length=n):=fun n=>by
  rw[sz_tx,Bool.eq_iff_iff,beq_iff_eq,decide_eq_true_eq]
  omega
 have P:∀n:Nat,(((⟨l.toArray⟩:ByteArray).size:Int) != (n:Int)) = !decide (l.length=n):=fun n=>by rw[bne,H]
 cases l with
 | nil=>
  obtain⟨rfl,rfl,rfl⟩:0=X∧0=Y∧(2102:Int)=E:=by simpa [gtL]using h
  refine rpoint_form h1 h2 i q v (fi:=0) (.inl ⟨?_,?_⟩) qc w HQ
  ·rw[H,decide_eq_false];rw[List.length_nil];omega
  ·rw[P,decide_eq_false];rfl;rw[List.length_nil];omega
 | cons f r=>
  have A:=ixT f r
  have B:(((⟨(f :: r).toArray⟩:ByteArray).size:Int)==((1+2*szN k:Nat):Int))=decide (r.length=2*szN k):=by rw[H,List.length_cons,decide_eq_decide];omega
  have C:(((⟨(f :: r).toArray⟩:ByteArray).size:Int) != ((1+szN k:Nat):Int)) = !decide (r.length=szN k):=by rw[P,List.length_cons];congr 1;rw[decide_eq_decide];omega
  have G:∀n m:Nat,n=1+m→m≤r.length→∀w,(Instr.slice 9 (.string ⟨(f :: r).toArray⟩) (some (.int .i64 1)) (some (.int .i64 n)) none).run prog w=.ok (.string ⟨(r.take m).toArray⟩) w:=fun n m e U w=>by
   subst e;have:=slT_mid ⟨(f :: r).toArray⟩ 1 (1+m) (by omega) (by rw[sz_tx,List.length_cons];omega) w
   rwa [ex_tx,List.drop_one,List.tail_cons,Nat.add_sub_cancel_left]at this
  have I:∀d:UInt8,((f.toNat:Int)==(d.toNat:Int))=decide (f=d):=fun d=>by
   rw[Bool.eq_iff_iff,beq_iff_eq,decide_eq_true_eq,←UInt8.toNat_inj]
   omega
  rw[gtL_cons]at h
  by_cases hL:r.length=2*szN k
  ·have x:¬r.length=szN k:=by omega
   rw[decide_eq_true hL]at B;rw[decide_eq_false x]at C
   by_cases e4:f=4
   ·subst e4;rw[if_pos ⟨rfl,hL⟩]at h
    have Q:(r.take (szN k)).length=szN k:=by rw[List.length_take];omega
    have R:(r.drop (szN k)).length=szN k:=by rw[List.length_drop];omega
    obtain⟨c,D⟩:=exl (onB k (bn (r.take (szN k))) (bn (r.drop (szN k))) false);rw[D]at h
    have:=rpoint_full h1 h2 i q v B A (G _ _ rfl (by omega)) (rread_any _ (by rw[sz_tx,Q];exact L)) (t2:=⟨(r.drop (szN k)).toArray⟩) (fun w=>by
     have:=slT_hi ⟨((4:UInt8) :: r).toArray⟩ (1+szN k) (by rw[sz_tx,List.length_cons];omega) w
     rwa [ex_tx,sz_tx,List.take_of_length_le (by rw[List.length_drop,List.length_cons];omega),show ((4:UInt8) :: r).drop (1+szN k)=r.drop (szN k) by rw[Nat.add_comm 1];rfl]at this) (rread_any _ (by rw[sz_tx,R];exact L)) (bn_M Q) (bn_M R) D qc w HQ
    cases c <;> (simp at h;obtain⟨rfl,rfl,rfl⟩:=h;exact this)
   ·rw[if_neg (fun e=>e4 e.1),if_neg (fun e=>x e.2)]at h
    obtain⟨rfl,rfl,rfl⟩:0=X∧0=Y∧(2102:Int)=E:=by simpa using h
    exact rpoint_form h1 h2 i q v (.inr (.inl ⟨B,C,A,(I 4).trans (decide_eq_false e4)⟩)) qc w HQ
  ·rw[decide_eq_false hL]at B;rw[if_neg (fun e=>hL e.2)]at h
   by_cases x:r.length=szN k
   ·rw[decide_eq_true x]at C;have J:=rread_any ⟨(r.take (szN k)).toArray⟩ (by rw[sz_tx,List.length_take];omega);have K:=G _ _ rfl (Nat.le_of_eq x.symm);rw[List.take_of_length_le (Nat.le_of_eq x)]at J K
    by_cases e2:f=2
    ·subst e2;rw[if_pos ⟨.inl rfl,x⟩]at h;obtain⟨c,D⟩:=exl (isY k (bn r));rw[D]at h;have:=rpoint_x0 h1 h2 i q v B C A K J (bn_M x) D rfl qc w HQ
     cases c <;> (simp at h;obtain⟨rfl,rfl,rfl⟩:=h;exact this)
    ·by_cases e3:f=3
     ·subst e3;rw[if_pos ⟨.inr rfl,x⟩]at h;obtain⟨c,D⟩:=exl (isY k (bn r));rw[D]at h;have:=rpoint_x1 h1 h2 i q v B C A K J (bn_M x) D rfl qc w HQ
      cases c <;> (simp at h;obtain⟨rfl,rfl,rfl⟩:=h;exact this)
     ·rw[if_neg (fun e=>e.1.elim e2 e3)]at h
      obtain⟨rfl,rfl,rfl⟩:0=X∧0=Y∧(2102:Int)=E:=by simpa using h
      exact rpoint_form h1 h2 i q v (.inr (.inr ⟨B,C,A,congrArg (!·) ((I 2).trans (decide_eq_false e2)),congrArg (!·) ((I 3).trans (decide_eq_false e3))⟩)) qc w HQ
   ·rw[decide_eq_false x]at C;rw[if_neg (fun e=>x e.2)]at h
    obtain⟨rfl,rfl,rfl⟩:0=X∧0=Y∧(2102:Int)=E:=by simpa using h
    exact rpoint_form h1 h2 i q v (fi:=0) (.inl ⟨B,C⟩) qc w HQ
end
section
attribute [local go_sem ↓] uz1
attribute [local go_sem] uz2
section
attribute [local go_sem] uz8
attribute [local go_sem ↓] uz13 Go.wp_at_zero Go.wp_at_succ
attribute [local go_sem] uz14
theorem awake21_any(w:World):Cg 14 #[] w (.bool true):=by
 have D:Hid (∀w,Cg 11 #[.int .i64 13,.agg (pnt 2 84 false),.bool false] w (.tuple #[.string ⟨#[4,2,84]⟩,.int .i64 0])):=fun w=>by have t:=sput_any (k:=13) (P:=(2,84,false)) (by decide) (by decide) ⟨by decide +kernel,by decide +kernel⟩ false w;rwa [show putA 13 (2,84,false) false=([4,2,84],0) by decide +kernel]at t
 have H:Hid (∀w,Cg 11 #[.int .i64 13,.agg (pnt 0 0 true),.bool true] w (.tuple #[.string ⟨#[]⟩,.int .i64 2101])):=fun w=>sput_inf (k:=13) (by decide) (by decide) 0 0 true w;have I:Hid (∀w,Cg 12 #[.int .i64 13,.string ⟨#[2,2]⟩] w (.tuple #[.agg (pnt 2 84 false),.int .i64 0])):=fun w=>sget_any (k:=13) (by decide) (by decide) [2,2] (by decide +kernel) w;have J:Hid (∀w,Cg 12 #[.int .i64 13,.string ⟨#[4,2,85]⟩] w (.tuple #[.agg (pnt 0 0 false),.int .i64 2101])):=fun w=>sget_any (k:=13) (by decide) (by decide) [4,2,85] (by decide +kernel) w;have K:Hid (∀w,Cg 12 #[.int .i64 13,.string ⟨#[]⟩] w (.tuple #[.agg (pnt 0 0 false),.int .i64 2102])):=fun w=>sget_any (k:=13) (by decide) (by decide) [] (by decide +kernel) w
 go_enter func14,ntmps14
 go_upto_region 1 with fail
 refine gen_w (fun v=>Gr w v) (by exact grA) ?_;intro v0 G;refine wp_wS [.N 2,.N 84,.c (.agg (pnt 2 84 false)),.E (.string ⟨#[4,2,84]⟩),.E (.string ⟨#[4,2,84]⟩),.c (.string ⟨#[4,2,84]⟩),.O,.c (.string ⟨#[4,2,84]⟩),.O] [0,1,3] ⟨.z (one_any 2 (by decide)),.z (one_any 84 (by decide)),.z D.out,⟨⟩⟩ fun Y Z d h1=>?_;simp only[fzw];clear h1;have f:=d;clear d
 go_upto_region 2 with fail
 refine wp_v false [.E (.agg (pnt 2 84 false)),.E (.agg (pnt 2 84 false)),.c (.agg (pnt 2 84 false)),.O,.a,.u,.O] [0] [⟨4,5,27,pnt 0 0 false,fun _=>pnt 2 84 false⟩] ⟨.z I.out,⟨⟩⟩ ⟨.k zPnt (.t rfl),⟨⟩⟩ fun x S d h2 L=>?_;simp only[fzw,Kw.a];obtain⟨⟨U,h⟩,-⟩:(Z.heap.size≤(x 4 0).2∧Vr S (x 4 0).2 (pnt 2 84 false))∧True:=L;clear h2;replace f:=f.trans d;clear d
 go_upto_region 3 with fail
 refine wp_v false [.c (.tuple #[.agg (pnt 0 0 false),.int .i64 2101]),.c (.tuple #[.agg (pnt 0 0 false),.int .i64 2101]),.c (.agg (pnt 0 0 false)),.c (.int .i64 2101),.a,.u,.c (.int .i64 2101)] [0] [⟨4,5,27,pnt 0 0 false,fun _=>pnt 0 0 false⟩] ⟨.z J.out,⟨⟩⟩ ⟨.k zPnt (.t rfl),⟨⟩⟩ fun A V d h3 Q=>?_;simp only[fzw,Kw.a];obtain⟨⟨W,j⟩,-⟩:(S.heap.size≤(A 4 0).2∧Vr V (A 4 0).2 (pnt 0 0 false))∧True:=Q;clear h3;replace f:=f.trans d;have i:=d;clear d
 go_upto_region 4 with fail
 refine wp_v false [.c (.tuple #[.agg (pnt 0 0 false),.int .i64 2102]),.c (.tuple #[.agg (pnt 0 0 false),.int .i64 2102]),.c (.agg (pnt 0 0 false)),.c (.int .i64 2102),.a,.u,.c (.int .i64 2102)] [0] [⟨4,5,27,pnt 0 0 false,fun _=>pnt 0 0 false⟩] ⟨.z K.out,⟨⟩⟩ ⟨.k zPnt (.t rfl),⟨⟩⟩ fun B v4 d h4 R=>?_;simp only[fzw,Kw.a];obtain⟨⟨X,l⟩,-⟩:(V.heap.size≤(B 4 0).2∧Vr v4 (B 4 0).2 (pnt 0 0 false))∧True:=R;clear h4;replace f:=f.trans d;replace i:=i.trans d;have q:=d;clear d
 go_upto_region 5 with fail
 refine wp_wS [.c (.agg (pnt 0 0 true)),.c (.tuple #[.string ⟨#[]⟩,.int .i64 2101]),.c (.tuple #[.string ⟨#[]⟩,.int .i64 2101]),.c (.string ⟨#[]⟩),.c (.int .i64 2101),.c (.string ⟨#[]⟩),.c (.int .i64 2101)] [1] ⟨.z H.out,⟨⟩⟩ fun aa v5 d h5=>?_;simp only[fzw];clear h5;replace f:=f.trans d;replace i:=i.trans d;replace q:=q.trans d;have C:=d;clear d
 go_upto_region 6 with fail
 refine wp_w [.c (.string ⟨#[4,2,84]⟩),.T,.T,.O,.O,.T,.T,.T,.c (.agg (pnt 2 84 false)),.N 2,.N 84,.c (.agg (pnt 2 84 false)),.T,.T,.T,.O,.O,.T,.T,.T,.c (.int .i64 2101),.c (.int .i64 2101),.T,.T,.T,.c (.int .i64 2102),.c (.int .i64 2102),.T,.T,.T,.c (.int .i64 2101),.c (.int .i64 2101),.T,.T,.T] [1,4,8,9,10,12,16,21,26,31] ?hs6 ?hf6
 case hs6=>
  exact⟨.s (.binOp .eql 9 (.const (.string ⟨#[4,2,84]⟩)) (.const (.string { data :=#[4,2,84] })) 9) rfl fun vv d=>by simp[go_sem,exI],.y (num_any _),.g 27 0 (h.gr i) rfl,.z (one_any 2 (by decide)),.z (one_any 84 (by decide)),.s (.binOp .eql 27 (.const (.agg (pnt 2 84 false))) (.const (.agg (pnt 2 84 false))) 27) rfl fun vv d=>by simp[go_sem,exI,eqPn,eqN_self],.y (num_any _),.y (num_any _),.y (num_any _),.y (num_any _),⟨⟩⟩
 intro ab v6 d h6;simp only[fzw];clear h6;replace f:=f.trans d;replace i:=i.trans d;replace q:=q.trans d;replace C:=C.trans d;clear d;replace G:=G.trans f;replace h:=h.gr i;replace j:=j.gr q;replace l:=l.gr C;clear f i q C
 go_wp2_with fail
 go_ret
 exact⟨rfl,G⟩
end
end
end Go.Proofs.YtiigakdbabijhaaGreat