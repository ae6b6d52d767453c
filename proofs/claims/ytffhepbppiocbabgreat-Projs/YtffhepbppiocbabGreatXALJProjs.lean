import Derived.Test.YtffhepbppiocbabGreatXAJH
import Derived.Test.YtffhepbppiocbabGreatXAAU
namespace Go.Proofs.YtffhepbppiocbabGreat
open Go.RowKit Go.Proofs.Tryz
set_option maxRecDepth 100000
set_option maxHeartbeats 8000000
section
attribute [local go_sem ↓] uz1
attribute [local go_sem] uz2
section
attribute [local go_sem] uz7
attribute [local go_sem ↓] uz12 Go.wp_at_zero Go.wp_at_succ
attribute [local go_sem] uz13
attribute [local go_sem ↓] uz16
attribute [local go_sem] uz17
def Kw.tb(x z:Nat)(f r:Bool):Kw:=⟨fun y=>.tuple #[.agg (ptA (y 0).1 x (y 0).2 (y 1).1 z (y 1).2 f),.bool r],fun y w=>Sl w (y 0).1 x∧Sl w (y 1).1 z,fun _ _ _ h g=>⟨h.1.gr g,h.2.gr g⟩,0,fun h=>absurd rfl h,fun h=>absurd h (by decide)⟩
theorem fkt{z:Array Value}{x y:Nat}{f r:Bool}(h:Blank z):FarK z (.tb x y f r):=fun _ _ _ _ e k=>⟨Sl.set k.1 (e▸h),Sl.set k.2 (e▸h)⟩
theorem buildPt0(w:World):(buildF 43 #[]).run prog w=.ok (.agg (ptA none 0 0 none 0 0 false)) w:=by kernel_rfl
attribute [local go_sem] buildPtI buildPt0
theorem trip_a{k:Nat}{x y z:Nat}(lx:x<M)(ly:y<M)(lz:z<M)(gx:pN k≤x)(qc:Nat→Option Addr×Nat)(w:World)(HQ:∀j,Sl w (qc j).1 (nN k j)):
 Calls prog 31 #[.agg (crA (k:Int) (nN k) qc),.agg (prj x y z)] w (RtW (.tb (0) (0) false false) w):=by
 have K:dl (pN k)≤400:=by have:=dl_M (pN k) (pN_M k);omega
 have L:dl x≤400:=by have:=dl_M x lx;omega
 have V:dl y≤400:=by have:=dl_M y ly;omega
 have W:dl z≤400:=by have:=dl_M z lz;omega
 obtain⟨P,D⟩:=exl (cmpZ x (pN k))
 have Q:0≤P:=by rw[←D];unfold cmpZ;rw[if_neg (Nat.not_lt.2 gx)];split <;> omega
 go_enter func31,ntmps31
 go_upto_region 1 with fail
 refine gen_w (fun v=>Gr w v∧Vr v (w.heap.size) (crA (k:Int) (nN k) qc)∧Vr v (w.heap.size+1) (prj x y z)∧Vr v (w.heap.size+1+1) (ptA none 0 0 none 0 0 false)) ⟨grA,vrA,vrA,vrA⟩ ?_;rintro v0 ⟨G,B,A,C⟩;replace HQ:=fun k=>(HQ k).gr G;refine wp_w [.c (pv (w.heap.size+1) 0),.N x,.n (x),.c (pv (w.heap.size+1) 9),.N y,.n (y),.c (pv (w.heap.size+1) 18),.N z,.n (z),.n (x),.n (y),.n (z)] [1,2,4,5,7,8,9,10,11] ⟨.g 33 0 A rfl,.k _ fun H I d S=>RtW.of_n (fm_any lx),.g 33 9 A rfl,.k _ fun H I d S=>RtW.of_n (fm_any ly),.g 33 18 A rfl,.k _ fun H I d S=>RtW.of_n (fm_any lz),.m 2,.m 5,.m 8,⟨⟩⟩ fun f U d J=>?_;simp only[fzw];have h:Sl U (f 9 0).1 (x):=J 9;have i:Sl U (f 10 0).1 (y):=J 10;have q:Sl U (f 11 0).1 (z):=J 11;clear J;replace G:=G.trans d;replace B:=B.gr d;replace A:=A.gr d;replace C:=C.gr d;replace HQ:=fun k=>(HQ k).gr d;clear d
 go_upto_region 2 with fail
 refine wp_wS [.c (.slice (f 9 0).1 (dl (x)) (f 9 0).2),.c (pv (w.heap.size) 1),.c (.slice (qc 0).1 (dl (pN k)) (qc 0).2),.c (.int .i64 P),.T,.T,.u,.u,.u,.u,.u,.T,.T,.u,.u,.u,.u,.u,.T,.T,.u,.u,.u,.u,.u,.u,.u,.u,.u,.T] [2,3,4] ⟨.o 25 1 B rfl rfl,.k (fun H =>#[.slice (f 9 0).1 (dl (x)) (f 9 0).2,.slice (qc 0).1 (dl (pN k)) (qc 0).2]) fun H I d S=>RtW.of_c (cz_any (h.gr d) ((HQ 0).gr d) L K D),.s (.binOp .geq 3 (.const (.int .i64 P)) (.const (.int .i64 0)) 3) rfl fun I d=>by simp[go_sem,exI,Q],⟨⟩⟩ fun X v2 d Y=>?_;simp only[fzw];clear Y;replace G:=G.trans d;replace B:=B.gr d;replace A:=A.gr d;replace C:=C.gr d;replace HQ:=fun k=>(HQ k).gr d;replace h:=h.gr d;replace i:=i.gr d;replace q:=q.gr d;clear d;have Z:=B.al;have aa:=A.al;have ab:=C.al;clear B A C
 go_wp2_with fail
 refine bo2 results31 (rd_pt none 0 0 none 0 0 false (by rfl) ?_) ⟨fun _=>(none,0),rfl,⟨Sl.zero _ _,Sl.zero _ _⟩,?_⟩
 ·simp[go_sem, *]
 ·exact grB
theorem trip_b{k:Nat}{x y z:Nat}(lx:x<M)(ly:y<M)(lz:z<M)(bx:x<pN k)(gy:pN k≤y)(qc:Nat→Option Addr×Nat)(w:World)(HQ:∀j,Sl w (qc j).1 (nN k j)):
 Calls prog 31 #[.agg (crA (k:Int) (nN k) qc),.agg (prj x y z)] w (RtW (.tb (0) (0) false false) w):=by
 have H:dl (pN k)≤400:=by have:=dl_M (pN k) (pN_M k);omega
 have P:dl x≤400:=by have:=dl_M x lx;omega
 have Q:dl y≤400:=by have:=dl_M y ly;omega
 have X:dl z≤400:=by have:=dl_M z lz;omega
 have S:cmpZ x (pN k) = -1:=by unfold cmpZ;rw[if_pos bx]
 obtain⟨U,I⟩:=exl (cmpZ y (pN k))
 have V:0≤U:=by rw[←I];unfold cmpZ;rw[if_neg (Nat.not_lt.2 gy)];split <;> omega
 go_enter func31,ntmps31
 go_upto_region 1 with fail
 refine gen_w (fun v=>Gr w v∧Vr v (w.heap.size) (crA (k:Int) (nN k) qc)∧Vr v (w.heap.size+1) (prj x y z)∧Vr v (w.heap.size+1+1) (ptA none 0 0 none 0 0 false)) ⟨grA,vrA,vrA,vrA⟩ ?_;rintro v0 ⟨G,B,A,C⟩;replace HQ:=fun k=>(HQ k).gr G;refine wp_w [.c (pv (w.heap.size+1) 0),.N x,.n (x),.c (pv (w.heap.size+1) 9),.N y,.n (y),.c (pv (w.heap.size+1) 18),.N z,.n (z),.n (x),.n (y),.n (z)] [1,2,4,5,7,8,9,10,11] ⟨.g 33 0 A rfl,.k _ fun D J d K=>RtW.of_n (fm_any lx),.g 33 9 A rfl,.k _ fun D J d K=>RtW.of_n (fm_any ly),.g 33 18 A rfl,.k _ fun D J d K=>RtW.of_n (fm_any lz),.m 2,.m 5,.m 8,⟨⟩⟩ fun f W d L=>?_;simp only[fzw];have i:Sl W (f 9 0).1 (x):=L 9;have h:Sl W (f 10 0).1 (y):=L 10;have q:Sl W (f 11 0).1 (z):=L 11;clear L;replace G:=G.trans d;replace B:=B.gr d;replace A:=A.gr d;replace C:=C.gr d;replace HQ:=fun k=>(HQ k).gr d;clear d
 go_upto_region 2 with fail
 refine wp_wS [.c (.slice (f 9 0).1 (dl (x)) (f 9 0).2),.c (pv (w.heap.size) 1),.c (.slice (qc 0).1 (dl (pN k)) (qc 0).2),.c (.int .i64 (-1)),.F,.F,.c (.slice (f 10 0).1 (dl (y)) (f 10 0).2),.c (pv (w.heap.size) 1),.c (.slice (qc 0).1 (dl (pN k)) (qc 0).2),.c (.int .i64 U),.T,.T,.T,.u,.u,.u,.u,.u,.T,.T,.u,.u,.u,.u,.u,.u,.u,.u,.u,.T] [2,3,8,9,10] ⟨.o 25 1 B rfl rfl,.k (fun D =>#[.slice (f 9 0).1 (dl (x)) (f 9 0).2,.slice (qc 0).1 (dl (pN k)) (qc 0).2]) fun D J d K=>RtW.of_c (cz_any (i.gr d) ((HQ 0).gr d) P H S),.o 25 1 B rfl rfl,.k (fun D =>#[.slice (f 10 0).1 (dl (y)) (f 10 0).2,.slice (qc 0).1 (dl (pN k)) (qc 0).2]) fun D J d K=>RtW.of_c (cz_any (h.gr d) ((HQ 0).gr d) Q H I),.s (.binOp .geq 3 (.const (.int .i64 U)) (.const (.int .i64 0)) 3) rfl fun J d=>by simp[go_sem,exI,V],⟨⟩⟩ fun Y v2 d Z=>?_;simp only[fzw];clear Z;replace G:=G.trans d;replace B:=B.gr d;replace A:=A.gr d;replace C:=C.gr d;replace HQ:=fun k=>(HQ k).gr d;replace i:=i.gr d;replace h:=h.gr d;replace q:=q.gr d;clear d;have aa:=B.al;have ab:=A.al;have ac:=C.al;clear B A C
 go_wp2_with fail
 refine bo2 results31 (rd_pt none 0 0 none 0 0 false (by rfl) ?_) ⟨fun _=>(none,0),rfl,⟨Sl.zero _ _,Sl.zero _ _⟩,?_⟩
 ·simp[go_sem, *]
 ·exact grB
theorem trip_c{k:Nat}{x y z:Nat}(lx:x<M)(ly:y<M)(lz:z<M)(bx:x<pN k)(by':y<pN k)(gz:pN k≤z)(qc:Nat→Option Addr×Nat)(w:World)(HQ:∀j,Sl w (qc j).1 (nN k j)):
 Calls prog 31 #[.agg (crA (k:Int) (nN k) qc),.agg (prj x y z)] w (RtW (.tb (0) (0) false false) w):=by
 have D:dl (pN k)≤400:=by have:=dl_M (pN k) (pN_M k);omega
 have P:dl x≤400:=by have:=dl_M x lx;omega
 have Q:dl y≤400:=by have:=dl_M y ly;omega
 have S:dl z≤400:=by have:=dl_M z lz;omega
 have U:cmpZ x (pN k) = -1:=by unfold cmpZ;rw[if_pos bx]
 have V:cmpZ y (pN k) = -1:=by unfold cmpZ;rw[if_pos by']
 obtain⟨W,J⟩:=exl (cmpZ z (pN k))
 have X:0≤W:=by rw[←J];unfold cmpZ;rw[if_neg (Nat.not_lt.2 gz)];split <;> omega
 go_enter func31,ntmps31
 go_upto_region 1 with fail
 refine gen_w (fun v=>Gr w v∧Vr v (w.heap.size) (crA (k:Int) (nN k) qc)∧Vr v (w.heap.size+1) (prj x y z)∧Vr v (w.heap.size+1+1) (ptA none 0 0 none 0 0 false)) ⟨grA,vrA,vrA,vrA⟩ ?_;rintro v0 ⟨G,A,B,H⟩;replace HQ:=fun k=>(HQ k).gr G;refine wp_w [.c (pv (w.heap.size+1) 0),.N x,.n (x),.c (pv (w.heap.size+1) 9),.N y,.n (y),.c (pv (w.heap.size+1) 18),.N z,.n (z),.n (x),.n (y),.n (z)] [1,2,4,5,7,8,9,10,11] ⟨.g 33 0 B rfl,.k _ fun C I f K=>RtW.of_n (fm_any lx),.g 33 9 B rfl,.k _ fun C I f K=>RtW.of_n (fm_any ly),.g 33 18 B rfl,.k _ fun C I f K=>RtW.of_n (fm_any lz),.m 2,.m 5,.m 8,⟨⟩⟩ fun d Y f L=>?_;simp only[fzw];have q:Sl Y (d 9 0).1 (x):=L 9;have h:Sl Y (d 10 0).1 (y):=L 10;have i:Sl Y (d 11 0).1 (z):=L 11;clear L;replace G:=G.trans f;replace A:=A.gr f;replace B:=B.gr f;replace H:=H.gr f;replace HQ:=fun k=>(HQ k).gr f;clear f
 go_upto_region 2 with fail
 refine wp_wS [.c (.slice (d 9 0).1 (dl (x)) (d 9 0).2),.c (pv (w.heap.size) 1),.c (.slice (qc 0).1 (dl (pN k)) (qc 0).2),.c (.int .i64 (-1)),.F,.F,.c (.slice (d 10 0).1 (dl (y)) (d 10 0).2),.c (pv (w.heap.size) 1),.c (.slice (qc 0).1 (dl (pN k)) (qc 0).2),.c (.int .i64 (-1)),.F,.F,.F,.c (.slice (d 11 0).1 (dl (z)) (d 11 0).2),.c (pv (w.heap.size) 1),.c (.slice (qc 0).1 (dl (pN k)) (qc 0).2),.c (.int .i64 W),.T,.T,.T,.u,.u,.u,.u,.u,.u,.u,.u,.u,.T] [2,3,8,9,15,16,17] ⟨.o 25 1 A rfl rfl,.k (fun C =>#[.slice (d 9 0).1 (dl (x)) (d 9 0).2,.slice (qc 0).1 (dl (pN k)) (qc 0).2]) fun C I f K=>RtW.of_c (cz_any (q.gr f) ((HQ 0).gr f) P D U),.o 25 1 A rfl rfl,.k (fun C =>#[.slice (d 10 0).1 (dl (y)) (d 10 0).2,.slice (qc 0).1 (dl (pN k)) (qc 0).2]) fun C I f K=>RtW.of_c (cz_any (h.gr f) ((HQ 0).gr f) Q D V),.o 25 1 A rfl rfl,.k (fun C =>#[.slice (d 11 0).1 (dl (z)) (d 11 0).2,.slice (qc 0).1 (dl (pN k)) (qc 0).2]) fun C I f K=>RtW.of_c (cz_any (i.gr f) ((HQ 0).gr f) S D J),.s (.binOp .geq 3 (.const (.int .i64 W)) (.const (.int .i64 0)) 3) rfl fun I f=>by simp[go_sem,exI,X],⟨⟩⟩ fun Z v2 f h2=>?_;simp only[fzw];clear h2;replace G:=G.trans f;replace A:=A.gr f;replace B:=B.gr f;replace H:=H.gr f;replace HQ:=fun k=>(HQ k).gr f;replace q:=q.gr f;replace h:=h.gr f;replace i:=i.gr f;clear f;have aa:=A.al;have ab:=B.al;have ac:=H.al;clear A B H
 go_wp2_with fail
 refine bo2 results31 (rd_pt none 0 0 none 0 0 false (by rfl) ?_) ⟨fun _=>(none,0),rfl,⟨Sl.zero _ _,Sl.zero _ _⟩,?_⟩
 ·simp[go_sem, *]
 ·exact grB
theorem trip_d{k:Nat}{x y z:Nat}(lx:x<M)(ly:y<M)(lz:z<M)(bx:x<pN k)(by':y<pN k)(bz:z<pN k)(hx0:x=0)(hy0:y=0)(hz0:z=0)(qc:Nat→Option Addr×Nat)(w:World)(HQ:∀j,Sl w (qc j).1 (nN k j)):
 Calls prog 31 #[.agg (crA (k:Int) (nN k) qc),.agg (prj x y z)] w (RtW (.tb (0) (0) false false) w):=by
 have H:dl (pN k)≤400:=by have:=dl_M (pN k) (pN_M k);omega
 have U:dl x≤400:=by have:=dl_M x lx;omega
 have V:dl y≤400:=by have:=dl_M y ly;omega
 have W:dl z≤400:=by have:=dl_M z lz;omega
 have X:cmpZ x (pN k) = -1:=by unfold cmpZ;rw[if_pos bx]
 have Y:cmpZ y (pN k) = -1:=by unfold cmpZ;rw[if_pos by']
 have Z:cmpZ z (pN k) = -1:=by unfold cmpZ;rw[if_pos bz]
 obtain⟨J,K⟩:∃u:Int,(dl x:Int)+(dl y:Int)=u:=⟨_,rfl⟩
 have aa:IntKind.i64.wrap ((dl x:Int)+(dl y:Int))=J:=by rw[IntKind.wrap_i64];omega
 obtain⟨Q,L⟩:∃u:Int,J+(dl z:Int)=u:=⟨_,rfl⟩
 have ab:IntKind.i64.wrap (J+(dl z:Int))=Q:=by rw[IntKind.wrap_i64];omega
 have ac:Q=0:=by rw[←L,←K,hx0,hy0,hz0];rfl
 clear K L hx0 hy0 hz0
 go_enter func31,ntmps31
 go_upto_region 1 with fail
 refine gen_w (fun v=>Gr w v∧Vr v (w.heap.size) (crA (k:Int) (nN k) qc)∧Vr v (w.heap.size+1) (prj x y z)∧Vr v (w.heap.size+1+1) (ptA none 0 0 none 0 0 false)) ⟨grA,vrA,vrA,vrA⟩ ?_;rintro v0 ⟨G,A,B,I⟩;replace HQ:=fun k=>(HQ k).gr G;refine wp_w [.c (pv (w.heap.size+1) 0),.N x,.n (x),.c (pv (w.heap.size+1) 9),.N y,.n (y),.c (pv (w.heap.size+1) 18),.N z,.n (z),.n (x),.n (y),.n (z)] [1,2,4,5,7,8,9,10,11] ⟨.g 33 0 B rfl,.k _ fun C D f P=>RtW.of_n (fm_any lx),.g 33 9 B rfl,.k _ fun C D f P=>RtW.of_n (fm_any ly),.g 33 18 B rfl,.k _ fun C D f P=>RtW.of_n (fm_any lz),.m 2,.m 5,.m 8,⟨⟩⟩ fun d v1 f S=>?_;simp only[fzw];have q:Sl v1 (d 9 0).1 (x):=S 9;have h:Sl v1 (d 10 0).1 (y):=S 10;have i:Sl v1 (d 11 0).1 (z):=S 11;clear S;replace G:=G.trans f;replace A:=A.gr f;replace B:=B.gr f;replace I:=I.gr f;replace HQ:=fun k=>(HQ k).gr f;clear f
 go_upto_region 2 with fail
 refine wp_wS [.c (.slice (d 9 0).1 (dl (x)) (d 9 0).2),.c (pv (w.heap.size) 1),.c (.slice (qc 0).1 (dl (pN k)) (qc 0).2),.c (.int .i64 (-1)),.F,.F,.c (.slice (d 10 0).1 (dl (y)) (d 10 0).2),.c (pv (w.heap.size) 1),.c (.slice (qc 0).1 (dl (pN k)) (qc 0).2),.c (.int .i64 (-1)),.F,.F,.F,.c (.slice (d 11 0).1 (dl (z)) (d 11 0).2),.c (pv (w.heap.size) 1),.c (.slice (qc 0).1 (dl (pN k)) (qc 0).2),.c (.int .i64 (-1)),.F,.F,.F,.c (.slice (d 9 0).1 (dl (x)) (d 9 0).2),.c (.int .i64 (dl (x))),.c (.slice (d 10 0).1 (dl (y)) (d 10 0).2),.c (.int .i64 (dl (y))),.c (.int .i64 J),.c (.slice (d 11 0).1 (dl (z)) (d 11 0).2),.c (.int .i64 (dl (z))),.c (.int .i64 Q),.T,.T] [2,3,8,9,15,16,24,27,28] ⟨.o 25 1 A rfl rfl,.k (fun C =>#[.slice (d 9 0).1 (dl (x)) (d 9 0).2,.slice (qc 0).1 (dl (pN k)) (qc 0).2]) fun C D f P=>RtW.of_c (cz_any (q.gr f) ((HQ 0).gr f) U H X),.o 25 1 A rfl rfl,.k (fun C =>#[.slice (d 10 0).1 (dl (y)) (d 10 0).2,.slice (qc 0).1 (dl (pN k)) (qc 0).2]) fun C D f P=>RtW.of_c (cz_any (h.gr f) ((HQ 0).gr f) V H Y),.o 25 1 A rfl rfl,.k (fun C =>#[.slice (d 11 0).1 (dl (z)) (d 11 0).2,.slice (qc 0).1 (dl (pN k)) (qc 0).2]) fun C D f P=>RtW.of_c (cz_any (i.gr f) ((HQ 0).gr f) W H Z),.s (.binOp .add 3 (.const (.int .i64 (dl (x)))) (.const (.int .i64 (dl (y)))) 3) rfl fun D f=>by simp[go_sem,exI,aa],.s (.binOp .add 3 (.const (.int .i64 J)) (.const (.int .i64 (dl (z)))) 3) rfl fun D f=>by simp[go_sem,exI,ab],.s (.binOp .eql 3 (.const (.int .i64 Q)) (.const (.int .i64 0)) 3) rfl fun D f=>by simp[go_sem,exI,ac],⟨⟩⟩ fun ae v2 f h2=>?_;simp only[fzw];clear h2;replace G:=G.trans f;replace A:=A.gr f;replace B:=B.gr f;replace I:=I.gr f;replace HQ:=fun k=>(HQ k).gr f;replace q:=q.gr f;replace h:=h.gr f;replace i:=i.gr f;clear f;have af:=A.al;have ag:=B.al;have ah:=I.al;clear A B I
 go_wp2_with fail
 refine bo2 results31 (rd_pt none 0 0 none 0 0 false (by rfl) ?_) ⟨fun _=>(none,0),rfl,⟨Sl.zero _ _,Sl.zero _ _⟩,?_⟩
 ·simp[go_sem, *]
 ·exact grB
theorem trip_e1{k:Nat}{x y z:Nat}(lx:x<M)(ly:y<M)(lz:z<M)(bx:x<pN k)(by':y<pN k)(bz:z<pN k)(hn:¬(x=0∧y=0∧z=0))(hz0:z=0)(hx0:x=0)(qc:Nat→Option Addr×Nat)(w:World)(HQ:∀j,Sl w (qc j).1 (nN k j)):
 Calls prog 31 #[.agg (crA (k:Int) (nN k) qc),.agg (prj x y z)] w (RtW (.tb (0) (0) true true) w):=by
 have I:dl (pN k)≤400:=by have:=dl_M (pN k) (pN_M k);omega
 have Q:dl x≤400:=by have:=dl_M x lx;omega
 have S:dl y≤400:=by have:=dl_M y ly;omega
 have U:dl z≤400:=by have:=dl_M z lz;omega
 have V:cmpZ x (pN k) = -1:=by unfold cmpZ;rw[if_pos bx]
 have W:cmpZ y (pN k) = -1:=by unfold cmpZ;rw[if_pos by']
 have X:cmpZ z (pN k) = -1:=by unfold cmpZ;rw[if_pos bz]
 obtain⟨J,Y⟩:∃u:Int,(dl x:Int)+(dl y:Int)=u:=⟨_,rfl⟩
 have Z:IntKind.i64.wrap ((dl x:Int)+(dl y:Int))=J:=by rw[IntKind.wrap_i64];omega
 obtain⟨L,aa⟩:∃u:Int,J+(dl z:Int)=u:=⟨_,rfl⟩
 have ab:IntKind.i64.wrap (J+(dl z:Int))=L:=by rw[IntKind.wrap_i64];omega
 have ac:¬L=0:=fun e=>hn ⟨dl_eq_zero x (by omega),dl_eq_zero y (by omega),dl_eq_zero z (by omega)⟩;clear Y aa
 have ae:dl z=0:=by rw[hz0];rfl
 have af:dl x=0:=by rw[hx0];rfl
 clear hx0 hz0
 go_enter func31,ntmps31
 go_upto_region 1 with fail
 refine gen_w (fun v=>Gr w v∧Vr v (w.heap.size) (crA (k:Int) (nN k) qc)∧Vr v (w.heap.size+1) (prj x y z)∧Vr v (w.heap.size+1+1) (ptA none 0 0 none 0 0 false)) ⟨grA,vrA,vrA,vrA⟩ ?_;rintro v0 ⟨G,A,B,D⟩;replace HQ:=fun k=>(HQ k).gr G;refine wp_w [.c (pv (w.heap.size+1) 0),.N x,.n (x),.c (pv (w.heap.size+1) 9),.N y,.n (y),.c (pv (w.heap.size+1) 18),.N z,.n (z),.n (x),.n (y),.n (z)] [1,2,4,5,7,8,9,10,11] ⟨.g 33 0 B rfl,.k _ fun H C f K=>RtW.of_n (fm_any lx),.g 33 9 B rfl,.k _ fun H C f K=>RtW.of_n (fm_any ly),.g 33 18 B rfl,.k _ fun H C f K=>RtW.of_n (fm_any lz),.m 2,.m 5,.m 8,⟨⟩⟩ fun d v1 f P=>?_;simp only[fzw];have q:Sl v1 (d 9 0).1 (x):=P 9;have h:Sl v1 (d 10 0).1 (y):=P 10;have i:Sl v1 (d 11 0).1 (z):=P 11;clear P;replace G:=G.trans f;replace A:=A.gr f;replace B:=B.gr f;replace D:=D.gr f;replace HQ:=fun k=>(HQ k).gr f;clear f
 go_upto_region 2 with fail
 refine wp_wS [.c (.slice (d 9 0).1 (dl (x)) (d 9 0).2),.c (pv (w.heap.size) 1),.c (.slice (qc 0).1 (dl (pN k)) (qc 0).2),.c (.int .i64 (-1)),.F,.F,.c (.slice (d 10 0).1 (dl (y)) (d 10 0).2),.c (pv (w.heap.size) 1),.c (.slice (qc 0).1 (dl (pN k)) (qc 0).2),.c (.int .i64 (-1)),.F,.F,.F,.c (.slice (d 11 0).1 (dl (z)) (d 11 0).2),.c (pv (w.heap.size) 1),.c (.slice (qc 0).1 (dl (pN k)) (qc 0).2),.c (.int .i64 (-1)),.F,.F,.F,.c (.slice (d 9 0).1 (dl (x)) (d 9 0).2),.c (.int .i64 (dl (x))),.c (.slice (d 10 0).1 (dl (y)) (d 10 0).2),.c (.int .i64 (dl (y))),.c (.int .i64 J),.c (.slice (d 11 0).1 (dl (z)) (d 11 0).2),.c (.int .i64 (dl (z))),.c (.int .i64 L),.F,.F] [2,3,8,9,15,16,24,27,28] ⟨.o 25 1 A rfl rfl,.k (fun H =>#[.slice (d 9 0).1 (dl (x)) (d 9 0).2,.slice (qc 0).1 (dl (pN k)) (qc 0).2]) fun H C f K=>RtW.of_c (cz_any (q.gr f) ((HQ 0).gr f) Q I V),.o 25 1 A rfl rfl,.k (fun H =>#[.slice (d 10 0).1 (dl (y)) (d 10 0).2,.slice (qc 0).1 (dl (pN k)) (qc 0).2]) fun H C f K=>RtW.of_c (cz_any (h.gr f) ((HQ 0).gr f) S I W),.o 25 1 A rfl rfl,.k (fun H =>#[.slice (d 11 0).1 (dl (z)) (d 11 0).2,.slice (qc 0).1 (dl (pN k)) (qc 0).2]) fun H C f K=>RtW.of_c (cz_any (i.gr f) ((HQ 0).gr f) U I X),.s (.binOp .add 3 (.const (.int .i64 (dl (x)))) (.const (.int .i64 (dl (y)))) 3) rfl fun C f=>by simp[go_sem,exI,Z],.s (.binOp .add 3 (.const (.int .i64 J)) (.const (.int .i64 (dl (z)))) 3) rfl fun C f=>by simp[go_sem,exI,ab],.s (.binOp .eql 3 (.const (.int .i64 L)) (.const (.int .i64 0)) 3) rfl fun C f=>by simp[go_sem,exI,ac],⟨⟩⟩ fun ag v2 f h2=>?_;simp only[fzw];clear h2;replace G:=G.trans f;replace A:=A.gr f;replace B:=B.gr f;replace D:=D.gr f;replace HQ:=fun k=>(HQ k).gr f;replace q:=q.gr f;replace h:=h.gr f;replace i:=i.gr f;clear f
 go_upto_region 4 with fail
 refine wp_wS [.c (.slice (d 11 0).1 (dl (z)) (d 11 0).2),.c (.int .i64 (dl (z))),.T] [2] ⟨.s (.binOp .eql 3 (.const (.int .i64 (dl (z)))) (.const (.int .i64 0)) 3) rfl fun C f=>by simp[go_sem,exI,ae],⟨⟩⟩ fun ah v3 f h4=>?_;simp only[fzw];clear h4;replace G:=G.trans f;replace A:=A.gr f;replace B:=B.gr f;replace D:=D.gr f;replace HQ:=fun k=>(HQ k).gr f;replace q:=q.gr f;replace h:=h.gr f;replace i:=i.gr f;clear f;have ai:=A.al;have aj:=B.al;have ak:=D.al;clear A B D
 go_wp2_with fail
 refine bo2 results31 (rd_pt none 0 0 none 0 0 true (by rfl) ?_) ⟨fun _=>(none,0),?_,⟨Sl.zero _ _,Sl.zero _ _⟩,?_⟩
 ·simp[go_sem, *]
 ·simp[Kw.tb,af]
 ·exact grB
theorem trip_e2{k:Nat}{x y z:Nat}(lx:x<M)(ly:y<M)(lz:z<M)(bx:x<pN k)(by':y<pN k)(bz:z<pN k)(hn:¬(x=0∧y=0∧z=0))(hz0:z=0)(hx0:¬x=0)(qc:Nat→Option Addr×Nat)(w:World)(HQ:∀j,Sl w (qc j).1 (nN k j)):
 Calls prog 31 #[.agg (crA (k:Int) (nN k) qc),.agg (prj x y z)] w (RtW (.tb (0) (0) true false) w):=by
 have I:dl (pN k)≤400:=by have:=dl_M (pN k) (pN_M k);omega
 have Q:dl x≤400:=by have:=dl_M x lx;omega
 have S:dl y≤400:=by have:=dl_M y ly;omega
 have U:dl z≤400:=by have:=dl_M z lz;omega
 have V:cmpZ x (pN k) = -1:=by unfold cmpZ;rw[if_pos bx]
 have W:cmpZ y (pN k) = -1:=by unfold cmpZ;rw[if_pos by']
 have X:cmpZ z (pN k) = -1:=by unfold cmpZ;rw[if_pos bz]
 obtain⟨J,Y⟩:∃u:Int,(dl x:Int)+(dl y:Int)=u:=⟨_,rfl⟩
 have Z:IntKind.i64.wrap ((dl x:Int)+(dl y:Int))=J:=by rw[IntKind.wrap_i64];omega
 obtain⟨L,aa⟩:∃u:Int,J+(dl z:Int)=u:=⟨_,rfl⟩
 have ab:IntKind.i64.wrap (J+(dl z:Int))=L:=by rw[IntKind.wrap_i64];omega
 have ac:¬L=0:=fun e=>hn ⟨dl_eq_zero x (by omega),dl_eq_zero y (by omega),dl_eq_zero z (by omega)⟩;clear Y aa
 have ae:dl z=0:=by rw[hz0];rfl
 have af:¬dl x=0:=fun e=>hx0 (dl_eq_zero x e);clear hz0
 go_enter func31,ntmps31
 go_upto_region 1 with fail
 refine gen_w (fun v=>Gr w v∧Vr v (w.heap.size) (crA (k:Int) (nN k) qc)∧Vr v (w.heap.size+1) (prj x y z)∧Vr v (w.heap.size+1+1) (ptA none 0 0 none 0 0 false)) ⟨grA,vrA,vrA,vrA⟩ ?_;rintro v0 ⟨G,A,B,D⟩;replace HQ:=fun k=>(HQ k).gr G;refine wp_w [.c (pv (w.heap.size+1) 0),.N x,.n (x),.c (pv (w.heap.size+1) 9),.N y,.n (y),.c (pv (w.heap.size+1) 18),.N z,.n (z),.n (x),.n (y),.n (z)] [1,2,4,5,7,8,9,10,11] ⟨.g 33 0 B rfl,.k _ fun H C f K=>RtW.of_n (fm_any lx),.g 33 9 B rfl,.k _ fun H C f K=>RtW.of_n (fm_any ly),.g 33 18 B rfl,.k _ fun H C f K=>RtW.of_n (fm_any lz),.m 2,.m 5,.m 8,⟨⟩⟩ fun d v1 f P=>?_;simp only[fzw];have q:Sl v1 (d 9 0).1 (x):=P 9;have h:Sl v1 (d 10 0).1 (y):=P 10;have i:Sl v1 (d 11 0).1 (z):=P 11;clear P;replace G:=G.trans f;replace A:=A.gr f;replace B:=B.gr f;replace D:=D.gr f;replace HQ:=fun k=>(HQ k).gr f;clear f
 go_upto_region 2 with fail
 refine wp_wS [.c (.slice (d 9 0).1 (dl (x)) (d 9 0).2),.c (pv (w.heap.size) 1),.c (.slice (qc 0).1 (dl (pN k)) (qc 0).2),.c (.int .i64 (-1)),.F,.F,.c (.slice (d 10 0).1 (dl (y)) (d 10 0).2),.c (pv (w.heap.size) 1),.c (.slice (qc 0).1 (dl (pN k)) (qc 0).2),.c (.int .i64 (-1)),.F,.F,.F,.c (.slice (d 11 0).1 (dl (z)) (d 11 0).2),.c (pv (w.heap.size) 1),.c (.slice (qc 0).1 (dl (pN k)) (qc 0).2),.c (.int .i64 (-1)),.F,.F,.F,.c (.slice (d 9 0).1 (dl (x)) (d 9 0).2),.c (.int .i64 (dl (x))),.c (.slice (d 10 0).1 (dl (y)) (d 10 0).2),.c (.int .i64 (dl (y))),.c (.int .i64 J),.c (.slice (d 11 0).1 (dl (z)) (d 11 0).2),.c (.int .i64 (dl (z))),.c (.int .i64 L),.F,.F] [2,3,8,9,15,16,24,27,28] ⟨.o 25 1 A rfl rfl,.k (fun H =>#[.slice (d 9 0).1 (dl (x)) (d 9 0).2,.slice (qc 0).1 (dl (pN k)) (qc 0).2]) fun H C f K=>RtW.of_c (cz_any (q.gr f) ((HQ 0).gr f) Q I V),.o 25 1 A rfl rfl,.k (fun H =>#[.slice (d 10 0).1 (dl (y)) (d 10 0).2,.slice (qc 0).1 (dl (pN k)) (qc 0).2]) fun H C f K=>RtW.of_c (cz_any (h.gr f) ((HQ 0).gr f) S I W),.o 25 1 A rfl rfl,.k (fun H =>#[.slice (d 11 0).1 (dl (z)) (d 11 0).2,.slice (qc 0).1 (dl (pN k)) (qc 0).2]) fun H C f K=>RtW.of_c (cz_any (i.gr f) ((HQ 0).gr f) U I X),.s (.binOp .add 3 (.const (.int .i64 (dl (x)))) (.const (.int .i64 (dl (y)))) 3) rfl fun C f=>by simp[go_sem,exI,Z],.s (.binOp .add 3 (.const (.int .i64 J)) (.const (.int .i64 (dl (z)))) 3) rfl fun C f=>by simp[go_sem,exI,ab],.s (.binOp .eql 3 (.const (.int .i64 L)) (.const (.int .i64 0)) 3) rfl fun C f=>by simp[go_sem,exI,ac],⟨⟩⟩ fun ag v2 f h2=>?_;simp only[fzw];clear h2;replace G:=G.trans f;replace A:=A.gr f;replace B:=B.gr f;replace D:=D.gr f;replace HQ:=fun k=>(HQ k).gr f;replace q:=q.gr f;replace h:=h.gr f;replace i:=i.gr f;clear f
 go_upto_region 4 with fail
 refine wp_wS [.c (.slice (d 11 0).1 (dl (z)) (d 11 0).2),.c (.int .i64 (dl (z))),.T] [2] ⟨.s (.binOp .eql 3 (.const (.int .i64 (dl (z)))) (.const (.int .i64 0)) 3) rfl fun C f=>by simp[go_sem,exI,ae],⟨⟩⟩ fun ah v3 f h4=>?_;simp only[fzw];clear h4;replace G:=G.trans f;replace A:=A.gr f;replace B:=B.gr f;replace D:=D.gr f;replace HQ:=fun k=>(HQ k).gr f;replace q:=q.gr f;replace h:=h.gr f;replace i:=i.gr f;clear f;have ai:=A.al;have aj:=B.al;have ak:=D.al;clear A B D
 go_wp2_with fail
 refine bo2 results31 (rd_pt none 0 0 none 0 0 true (by rfl) ?_) ⟨fun _=>(none,0),?_,⟨Sl.zero _ _,Sl.zero _ _⟩,?_⟩
 ·simp[go_sem, *]
 ·simp[Kw.tb,af]
 ·exact grB
theorem trip_f{k:Nat}(h1:1≤k)(h2:k≤15){x y z:Nat}(lx:x<M)(ly:y<M)(lz:z<M)(bx:x<pN k)(by':y<pN k)(bz:z<pN k)(hn:¬(x=0∧y=0∧z=0))(hz0:¬z=0){i X Y:Nat}{r:Bool}(li:i<pN k)(hi:z*i%pN k=1)(hX:x*i%pN k=X)(hY:y*i%pN k=Y)(hr:onB k X Y false=r)(qc:Nat→Option Addr×Nat)(w:World)(HQ:∀j,Sl w (qc j).1 (nN k j)):
 Calls prog 31 #[.agg (crA (k:Int) (nN k) qc),.agg (prj x y z)] w (RtW (.tb (X) (Y) false r) w):=by
 have V:dl (pN k)≤400:=by have:=dl_M (pN k) (pN_M k);omega
 have ah:dl x≤400:=by have:=dl_M x lx;omega
 have ai:dl y≤400:=by have:=dl_M y ly;omega
 have aj:dl z≤400:=by have:=dl_M z lz;omega
 have ak:cmpZ x (pN k) = -1:=by unfold cmpZ;rw[if_pos bx]
 have ao:cmpZ y (pN k) = -1:=by unfold cmpZ;rw[if_pos by']
 have ap:cmpZ z (pN k) = -1:=by unfold cmpZ;rw[if_pos bz]
 obtain⟨s1,aq⟩:∃u:Int,(dl x:Int)+(dl y:Int)=u:=⟨_,rfl⟩
 have ar:IntKind.i64.wrap ((dl x:Int)+(dl y:Int))=s1:=by rw[IntKind.wrap_i64];omega
 obtain⟨s2,au⟩:∃u:Int,s1+(dl z:Int)=u:=⟨_,rfl⟩
 have av:IntKind.i64.wrap (s1+(dl z:Int))=s2:=by rw[IntKind.wrap_i64];omega
 have aw:¬s2=0:=fun e=>hn ⟨dl_eq_zero x (by omega),dl_eq_zero y (by omega),dl_eq_zero z (by omega)⟩;clear aq au;have ax:¬dl z=0:=fun e=>hz0 (dl_eq_zero z e);have ay:=(prm_pN k h1 h2).1;have az:X<M∧Y<M:=⟨Nat.lt_trans (hX▸Nat.mod_lt _ (by omega)) (pN_M k),Nat.lt_trans (hY▸Nat.mod_lt _ (by omega)) (pN_M k)⟩
 go_enter func31,ntmps31
 go_upto_region 1 with fail
 refine gen_w (fun v=>Gr w v∧Vr v (w.heap.size) (crA (k:Int) (nN k) qc)∧Vr v (w.heap.size+1) (prj x y z)∧Vr v (w.heap.size+1+1) (ptA none 0 0 none 0 0 false)) ⟨grA,vrA,vrA,vrA⟩ ?_;rintro v0 ⟨G,K,W,S⟩;have aA:=S.p;replace HQ:=fun k=>(HQ k).gr G;refine wp_w [.c (pv (w.heap.size+1) 0),.N x,.n (x),.c (pv (w.heap.size+1) 9),.N y,.n (y),.c (pv (w.heap.size+1) 18),.N z,.n (z),.n (x),.n (y),.n (z)] [1,2,4,5,7,8,9,10,11] ⟨.g 33 0 W rfl,.k _ fun J Q q Z=>RtW.of_n (fm_any lx),.g 33 9 W rfl,.k _ fun J Q q Z=>RtW.of_n (fm_any ly),.g 33 18 W rfl,.k _ fun J Q q Z=>RtW.of_n (fm_any lz),.m 2,.m 5,.m 8,⟨⟩⟩ fun B v1 q h1=>?_;simp only[fzw];have I:Sl v1 (B 9 0).1 (x):=h1 9;have C:Sl v1 (B 10 0).1 (y):=h1 10;have D:Sl v1 (B 11 0).1 (z):=h1 11;clear h1;replace G:=G.trans q;replace K:=K.gr q;replace W:=W.gr q;replace S:=S.gr q;replace HQ:=fun k=>(HQ k).gr q;clear q
 go_upto_region 2 with fail
 refine wp_wS [.c (.slice (B 9 0).1 (dl (x)) (B 9 0).2),.c (pv (w.heap.size) 1),.c (.slice (qc 0).1 (dl (pN k)) (qc 0).2),.c (.int .i64 (-1)),.F,.F,.c (.slice (B 10 0).1 (dl (y)) (B 10 0).2),.c (pv (w.heap.size) 1),.c (.slice (qc 0).1 (dl (pN k)) (qc 0).2),.c (.int .i64 (-1)),.F,.F,.F,.c (.slice (B 11 0).1 (dl (z)) (B 11 0).2),.c (pv (w.heap.size) 1),.c (.slice (qc 0).1 (dl (pN k)) (qc 0).2),.c (.int .i64 (-1)),.F,.F,.F,.c (.slice (B 9 0).1 (dl (x)) (B 9 0).2),.c (.int .i64 (dl (x))),.c (.slice (B 10 0).1 (dl (y)) (B 10 0).2),.c (.int .i64 (dl (y))),.c (.int .i64 s1),.c (.slice (B 11 0).1 (dl (z)) (B 11 0).2),.c (.int .i64 (dl (z))),.c (.int .i64 s2),.F,.F] [2,3,8,9,15,16,24,27,28] ⟨.o 25 1 K rfl rfl,.k (fun J =>#[.slice (B 9 0).1 (dl (x)) (B 9 0).2,.slice (qc 0).1 (dl (pN k)) (qc 0).2]) fun J Q q Z=>RtW.of_c (cz_any (I.gr q) ((HQ 0).gr q) ah V ak),.o 25 1 K rfl rfl,.k (fun J =>#[.slice (B 10 0).1 (dl (y)) (B 10 0).2,.slice (qc 0).1 (dl (pN k)) (qc 0).2]) fun J Q q Z=>RtW.of_c (cz_any (C.gr q) ((HQ 0).gr q) ai V ao),.o 25 1 K rfl rfl,.k (fun J =>#[.slice (B 11 0).1 (dl (z)) (B 11 0).2,.slice (qc 0).1 (dl (pN k)) (qc 0).2]) fun J Q q Z=>RtW.of_c (cz_any (D.gr q) ((HQ 0).gr q) aj V ap),.s (.binOp .add 3 (.const (.int .i64 (dl (x)))) (.const (.int .i64 (dl (y)))) 3) rfl fun Q q=>by simp[go_sem,exI,ar],.s (.binOp .add 3 (.const (.int .i64 s1)) (.const (.int .i64 (dl (z)))) 3) rfl fun Q q=>by simp[go_sem,exI,av],.s (.binOp .eql 3 (.const (.int .i64 s2)) (.const (.int .i64 0)) 3) rfl fun Q q=>by simp[go_sem,exI,aw],⟨⟩⟩ fun aE v2 q h2=>?_;simp only[fzw];clear h2;replace G:=G.trans q;replace K:=K.gr q;replace W:=W.gr q;replace S:=S.gr q;replace HQ:=fun k=>(HQ k).gr q;replace I:=I.gr q;replace C:=C.gr q;replace D:=D.gr q;clear q
 go_upto_region 4 with fail
 refine wp_wS [.c (.slice (B 11 0).1 (dl (z)) (B 11 0).2),.c (.int .i64 (dl (z))),.F] [2] ⟨.s (.binOp .eql 3 (.const (.int .i64 (dl (z)))) (.const (.int .i64 0)) 3) rfl fun Q q=>by simp[go_sem,exI,ax],⟨⟩⟩ fun aG v3 q h4=>?_;simp only[fzw];clear h4;replace G:=G.trans q;replace K:=K.gr q;replace W:=W.gr q;replace S:=S.gr q;replace HQ:=fun k=>(HQ k).gr q;replace I:=I.gr q;replace C:=C.gr q;replace D:=D.gr q;clear q
 go_upto_region 6 with fail
 refine wp_wS [.c (.slice (B 11 0).1 (dl (z)) (B 11 0).2),.c (pv (w.heap.size) 1),.c (.slice (qc 0).1 (dl (pN k)) (qc 0).2),.nb (i) true,.nb (i) true,.n (i),.T,.n (i),.T] [2,3,4,5,6,7] ⟨.o 25 1 K rfl rfl,.k (fun J =>#[.slice (B 11 0).1 (dl (z)) (B 11 0).2,.slice (qc 0).1 (dl (pN k)) (qc 0).2]) fun J Q q Z=>RtW.of_nb (iv_any (D.gr q) ((HQ 0).gr q) bz V ay li hi),.m 3,.m 4,.m 4,.m 5,⟨⟩⟩ fun L v4 q h6=>?_;simp only[fzw];have U:Sl v4 (L 7 0).1 (i):=h6 7;clear h6;replace G:=G.trans q;replace K:=K.gr q;replace W:=W.gr q;replace S:=S.gr q;replace HQ:=fun k=>(HQ k).gr q;replace I:=I.gr q;replace C:=C.gr q;replace D:=D.gr q;clear q;have aB:w.heap.size+1+1+1≤v4.heap.size:=S.p
 go_upto_region 7 with fail
 refine wp_v true [.c (.slice (B 9 0).1 (dl (x)) (B 9 0).2),.c (.slice (L 7 0).1 (dl (i)) (L 7 0).2),.c (pv (w.heap.size) 1),.c (.slice (qc 0).1 (dl (pN k)) (qc 0).2),.n (X),.c (.slice (B 10 0).1 (dl (y)) (B 10 0).2),.c (.slice (L 7 0).1 (dl (i)) (L 7 0).2),.c (pv (w.heap.size) 1),.c (.slice (qc 0).1 (dl (pN k)) (qc 0).2),.n (Y),.pt (X) (Y) false,.a,.u] [3,4,8,9,10] [⟨11,12,43,ptA none 0 0 none 0 0 false,fun J=>ptA (J 10 0).1 (X) (J 10 0).2 (J 10 1).1 (Y) (J 10 1).2 false⟩] ⟨.o 25 1 K rfl rfl,.k (fun J =>#[.slice (B 9 0).1 (dl (x)) (B 9 0).2,.slice (L 7 0).1 (dl (i)) (L 7 0).2,.slice (qc 0).1 (dl (pN k)) (qc 0).2]) fun J Q q Z=>RtW.of_n (mm_any (I.gr q) (U.gr q) ((HQ 0).gr q) bx li V hX),.o 25 1 K rfl rfl,.k (fun J =>#[.slice (B 10 0).1 (dl (y)) (B 10 0).2,.slice (L 7 0).1 (dl (i)) (L 7 0).2,.slice (qc 0).1 (dl (pN k)) (qc 0).2]) fun J Q q Z=>RtW.of_n (mm_any (C.gr q) (U.gr q) ((HQ 0).gr q) by' li V hY),.p (fun J i=>match i with|0=>J 4 0|_=>J 9 0) fun J Q q Z=>⟨Z 4 rfl,Z 9 rfl⟩,⟨⟩⟩ ⟨.mk (fun _ _ h=>Value.agg.inj (h 10 rfl)) (fun _ v b H F=>by dsimp only at H ⊢;simp[go_sem,exI,H,F]) zPt ⟨fkc,fkc,fkc,fkc,fkn bPt,fkc,fkc,fkc,fkc,fkn bPt,fkp bPt,fka,fku,trivial⟩,⟨⟩⟩ fun A v5 q h7 aC=>?_;simp only[fzw,Kw.a];obtain⟨ac,ae⟩:Sl v5 (A 10 0).1 (X)∧Sl v5 (A 10 1).1 (Y):=h7 10;obtain⟨⟨af,ag⟩,-⟩:(v4.heap.size≤(A 11 0).2∧Vr v5 (A 11 0).2 (ptA (A 10 0).1 (X) (A 10 0).2 (A 10 1).1 (Y) (A 10 1).2 false))∧True:=aC;clear h7;replace G:=G.trans q;replace K:=K.gr q;replace W:=W.gr q;replace S:=S.gr q;replace HQ:=fun k=>(HQ k).gr q;replace I:=I.gr q;replace C:=C.gr q;replace D:=D.gr q;replace U:=U.gr q;clear q
 have aH:w.heap.size+1+1<(A 11 0).2:=by have:w.heap.size+1+1+1≤v0.heap.size:=aA;have:=af;have:=aB;omega
 go_upto_region 8 with fail
 simp only[Nat.zero_add,Nat.reduceAdd];refine wp_u true [.c (.agg (ptA (A 10 0).1 (X) (A 10 0).2 (A 10 1).1 (Y) (A 10 1).2 false)),.c (.agg (crA (k:Int) (nN k) qc)),.c (.agg (ptA (A 10 0).1 (X) (A 10 0).2 (A 10 1).1 (Y) (A 10 1).2 false)),.c (.bool r),.u,.c (.bool r)] [0,1,2,3] [⟨4,43,w.heap.size+1+1,ptA (A 10 0).1 (X) (A 10 0).2 (A 10 1).1 (Y) (A 10 1).2 false⟩] (fun v=>Gr w v∧Vr v (w.heap.size) (crA (k:Int) (nN k) qc)∧(∀j,Sl v (qc j).1 (nN k j))∧Vr v ((A 11 0).2) (ptA (A 10 0).1 (X) (A 10 0).2 (A 10 1).1 (Y) (A 10 1).2 false)∧Sl v (A 10 0).1 X∧Sl v (A 10 1).1 Y∧Vs v (w.heap.size+1+1) 3∧∀(i:Nat) (n:Int),(blk v (w.heap.size+1+1))[i]? ≠ some (Value.int .u32 n)) ⟨G,K,HQ,ag,ac,ae,S.vs (ptA_size _ _ _ _ _ _ _),fun i n=>by rw[S.h];exact ptA_no _ _ _ _ _ _ _ i n⟩ (fun _ _ ⟨a,b,c,d,e,f,g,h⟩ gg=>⟨a.trans gg,b.gr gg,fun j=>(c j).gr gg,d.gr gg,e.gr gg,f.gr gg,g.gr gg,fun i n=>by rw[gg.blk _ g.2.2];exact h i n⟩) ?hs ?hu (by simp) ?hf
 case hs=>
  rintro Q ⟨G,K,HQ,aa,S1,S2,s4,ab⟩;exact⟨.g 43 0 aa rfl,.g 27 0 K rfl,.g 43 0 aa rfl,.k (fun _ =>#[.agg (crA (k:Int) (nN k) qc),.agg (ptA (A 10 0).1 (X) (A 10 0).2 (A 10 1).1 (Y) (A 10 1).2 false)]) fun J Q q Z=>RtW.of_c (ron_is h1 h2 (P:=(X,Y,false)) az hr qc (fun j=>(HQ j).gr q) (S1.gr q) (S2.gr q)),⟨⟩⟩
 case hu=>
  refine .cons (.mk fun v ⟨G,K,HQ,aa,S1,S2,s4,ab⟩=>?_) .nil;have H:=s4.1;have F:=s4.2.1;exact⟨by dsimp only;simp[go_sem,exI,H,F],⟨gr_setNew G (by dsimp only;omega),K.other (by dsimp only;omega),fun j=>Sl.set (HQ j) ab,aa.other (by dsimp only;omega),Sl.set S1 ab,Sl.set S2 ab,s4.set (ptA_size _ _ _ _ _ _ _) (by decide),fun i n=>by dsimp only;rw[blk_setBlk _ _ _ (by rw[H];decide)];exact ptA_no _ _ _ _ _ _ _ i n⟩,by dsimp only;rw[H];decide,s4.2.2⟩
 rintro v9 ⟨G9,-,-,-,S1,S2,-,-⟩ ⟨aD,-⟩;simp only[fzw]
 go_wp2_with fail
 exact bo2 results31 (rd_pt _ _ _ _ _ _ _ (by rfl) aD) ⟨fun i=>match i with|0=>((A 10 0).1,(A 10 0).2)|_=>((A 10 1).1,(A 10 1).2),rfl,⟨S1,S2⟩,G9⟩
end
end
section
theorem tripT{k:Nat}(h1:1≤k)(h2:k≤15){T:T3}{Q:Q3}(h:TrQ k T Q)(qc:Nat→Option Addr×Nat)(w:World)(HQ:∀j,Sl w (qc j).1 (nN k j)):
 Calls prog 31 #[.agg (crA (k:Int) (nN k) qc),.agg (pjT T)] w (RtW (.tb Q.1 Q.2.1 Q.2.2 true) w):=by
 haveI:=EC.nzP k h1 h2
 have q:=prm_pN k h1 h2;have d:=h.pt h1 h2;have A:=h;obtain⟨o,X,Y,Z,rfl,-⟩:=A;have t:=tr_tri h1 h2 h;have f:∀a:Fin (pN k),a.val<M:=fun a=>Nat.lt_trans a.isLt (pN_M k);have i:∀a:Fin (pN k),a.val=0→a=0:=fun a e=>Fin.ext (e.trans (Fin.val_zero _).symm);have x:¬(X.val=0∧Y.val=0∧Z.val=0):=fun⟨a,b,c⟩=>t.1 ⟨i X a,i Y b,i Z c⟩;rw[ptT_is]at d
 by_cases hz:Z=0
 ·obtain⟨-,s⟩:=EC.tri_std (EC.curN k h1 h2) t;rw[if_pos hz]at d s;subst d;exact trip_e1 (f X) (f Y) (f Z) X.isLt Y.isLt Z.isLt x (by rw[hz];exact Fin.val_zero _) (by rw[s.1];exact Fin.val_zero _) qc w HQ
 ·rw[if_neg hz]at d;subst d;exact trip_f h1 h2 (f X) (f Y) (f Z) X.isLt Y.isLt Z.isLt x (fun e=>hz (i Z e)) (EC.iP (pN k) Z).isLt (inv_val q.1 (EC.iP_is q Z hz)) (Fin.val_mul X (EC.iP (pN k) Z)).symm (Fin.val_mul Y (EC.iP (pN k) Z)).symm o qc w HQ
theorem tripF{k:Nat}(h1:1≤k)(h2:k≤15){T:T3}(lT:T.1<M∧T.2.1<M∧T.2.2<M)(h:∀Q,¬TrQ k T Q):∃x y f,∀(qc:Nat→Option Addr×Nat) (w:World) (_:∀j,Sl w (qc j).1 (nN k j)),
 Calls prog 31 #[.agg (crA (k:Int) (nN k) qc),.agg (pjT T)] w (RtW (.tb x y f false) w):=by
 haveI:=EC.nzP k h1 h2
 have G:=prm_pN k h1 h2;obtain⟨x,y,z⟩:=T;obtain⟨q,A,B⟩:=lT
 by_cases bx:x<pN k
 ·by_cases by':y<pN k
  ·by_cases bz:z<pN k
   ·by_cases hn:x=0∧y=0∧z=0
    ·exact⟨0,0,false,fun qc w d=>trip_d q A B bx by' bz hn.1 hn.2.1 hn.2.2 qc w d⟩
    ·by_cases hz:z=0
     ·by_cases hx:x=0
      ·refine absurd (?_:TrQ k (x,y,z) inf) (h inf);rw[hx,hz];exact inf_tr h1 h2 by' (Nat.pos_of_ne_zero fun e=>hn ⟨hx,e,hz⟩)
      ·exact⟨0,0,true,fun qc w d=>trip_e2 q A B bx by' bz hn hz hx qc w d⟩
     ·obtain⟨X,rfl⟩:∃X:Fin (pN k),x=X.val:=⟨⟨x,bx⟩,rfl⟩;obtain⟨Y,rfl⟩:∃Y:Fin (pN k),y=Y.val:=⟨⟨y,by'⟩,rfl⟩;obtain⟨Z,rfl⟩:∃Z:Fin (pN k),z=Z.val:=⟨⟨z,bz⟩,rfl⟩;have C:Z≠0:=fun e=>hz (by rw[e];exact Fin.val_zero _);have i:=EC.iP_is G Z C;refine⟨_,_,false,fun qc w d=>trip_f h1 h2 q A B bx by' bz hn hz (EC.iP (pN k) Z).isLt (inv_val G.1 i) (Fin.val_mul X (EC.iP (pN k) Z)).symm (Fin.val_mul Y (EC.iP (pN k) Z)).symm (Bool.eq_false_iff.2 fun o=>?_) qc w d⟩;refine h ((X*EC.iP (pN k) Z).val,(Y*EC.iP (pN k) Z).val,false) ⟨o,X,Y,Z,rfl,fun {_}=>?_⟩;have e:decQ (pN k) ((X*EC.iP (pN k) Z).val,(Y*EC.iP (pN k) Z).val,false)=some (X*EC.iP (pN k) Z,Y*EC.iP (pN k) Z):=dec_enc (some (X*EC.iP (pN k) Z,Y*EC.iP (pN k) Z));rw[e];generalize EC.iP (pN k) Z=j at i
      refine⟨C,?_,?_⟩
      ·have D:X*j*Z=X*(j*Z):=by clear i;grobner
       rw[D,i];clear i D;grobner
      ·have D:Y*j*Z=Y*(j*Z):=by clear i;grobner
       rw[D,i];clear i D;grobner
   ·exact⟨0,0,false,fun qc w d=>trip_c q A B bx by' (Nat.le_of_not_lt bz) qc w d⟩
  ·exact⟨0,0,false,fun qc w d=>trip_b q A B bx (Nat.le_of_not_lt by') qc w d⟩
 ·exact⟨0,0,false,fun qc w d=>trip_a q A B (Nat.le_of_not_lt bx) qc w d⟩
theorem tripA{k:Nat}(h1:1≤k)(h2:k≤15){T:T3}(lT:T.1<M∧T.2.1<M∧T.2.2<M):∃x y f r,∀(qc:Nat→Option Addr×Nat) (w:World) (_:∀j,Sl w (qc j).1 (nN k j)),
 Calls prog 31 #[.agg (crA (k:Int) (nN k) qc),.agg (pjT T)] w (RtW (.tb x y f r) w):=by
 by_cases h:∃Q,TrQ k T Q
 ·obtain⟨Q,h⟩:=h;exact⟨_,_,_,_,fun qc w d=>tripT h1 h2 h qc w d⟩
 ·obtain⟨x,y,f,h⟩:=tripF h1 h2 lT fun Q g=>h ⟨Q,g⟩;exact⟨x,y,f,false,h⟩
end
section
attribute [local go_sem ↓] uz1
attribute [local go_sem] uz2
section
attribute [local go_sem] uz7
attribute [local go_sem ↓] uz12 Go.wp_at_zero Go.wp_at_succ
attribute [local go_sem] uz13
attribute [local go_sem ↓] uz16
attribute [local go_sem] uz17
theorem ljprojs_0(id:Int)(h:id<1∨15<id)(S T:T3)(w:World):Cg 6 #[.int .i64 id,.agg (pjT S),.agg (pjT T)] w (.bool true):=by
 have D:Hid (∀w,Cg 16 #[.int .i64 id] w (.tuple #[.agg #[.int .i64 0,.slice none 0 0,.slice none 0 0,.slice none 0 0,.slice none 0 0,.slice none 0 0,.slice none 0 0],.bool false])):=fun w=>get_no id h w;have Q:Hid (∀w,Cg 30 #[] w (.bool true)):=fun w=>awake15_any w
 go_enter func6,ntmps6
 go_upto_region 1 with fail
 refine gen_w (fun v=>Hid (Gr w v∧Vr v (w.heap.size) (pjT S)∧Vr v (w.heap.size+1) (pjT T))) ⟨grA,vrA,vrA⟩ ?_;intro u0 Z
 go_upto_region 2 with (go_at_call 16;refine(D.out _).mono ?_;rintro e U ⟨rfl,L⟩)
 obtain⟨e7,A⟩:=exl (U.heap.size);simp only[A]
 refine gen_w (fun v=>Gr w v∧Vr v (w.heap.size) (pjT S)∧Vr v (w.heap.size+1) (pjT T)) ?_ ?_
 ·subst A;obtain⟨G,B,H⟩:=Z.out;have V:Gr U (U.alloc (.cells (#[.int .i64 0,.slice none 0 0,.slice none 0 0,.slice none 0 0,.slice none 0 0,.slice none 0 0,.slice none 0 0]) 27)):=(Gr.refl _).alloc _;exact⟨(G.trans L).trans V,(B.gr L).gr V,(H.gr L).gr V⟩
 clear A L D Z;rintro v0 ⟨G,B,H⟩;refine wp_v false [.c (.int .i64 id),.c (.agg (pjT S)),.c (.tuple #[.agg (pnt 0 0 false),.int .i64 1500]),.c (.tuple #[.agg (pnt 0 0 false),.int .i64 1500]),.c (.agg (pnt 0 0 false)),.c (.int .i64 1500),.a,.u,.c (.int .i64 1500)] [1,2] [⟨6,7,35,pnt 0 0 false,fun _=>pnt 0 0 false⟩] ⟨.g 53 0 B rfl,.z (to_no id h S),⟨⟩⟩ ⟨.k zPnt (.t rfl),⟨⟩⟩ fun I v1 d h2 W=>?_;simp only[fzw,Kw.a];obtain⟨⟨aa,j⟩,-⟩:(v0.heap.size≤(I 6 0).2∧Vr v1 (I 6 0).2 (pnt 0 0 false))∧True:=W;clear h2;have f:=d;clear d
 go_upto_region 3 with fail
 refine wp_v false [.c (.int .i64 id),.c (.agg (pjT S)),.c (.agg (pjT T)),.c (.tuple #[.agg (prj 0 0 0),.int .i64 1500]),.c (.tuple #[.agg (prj 0 0 0),.int .i64 1500]),.c (.agg (prj 0 0 0)),.c (.int .i64 1500),.a,.u,.c (.int .i64 1500)] [1,2,3] [⟨7,8,53,prj 0 0 0,fun _=>prj 0 0 0⟩] ⟨.g 53 0 (B.gr f) rfl,.g 53 0 (H.gr f) rfl,.z (jadd_no id h S T),⟨⟩⟩ ⟨.k zPj (.t rfl),⟨⟩⟩ fun J v2 d h3 X=>?_;simp only[fzw,Kw.a];obtain⟨⟨ab,i⟩,-⟩:(v1.heap.size≤(J 7 0).2∧Vr v2 (J 7 0).2 (prj 0 0 0))∧True:=X;clear h3;replace f:=f.trans d;have q:=d;clear d
 go_upto_region 4 with fail
 refine wp_v false [.c (.int .i64 id),.c (.agg (pjT S)),.c (.tuple #[.agg (prj 0 0 0),.int .i64 1500]),.c (.tuple #[.agg (prj 0 0 0),.int .i64 1500]),.c (.agg (prj 0 0 0)),.c (.int .i64 1500),.a,.u,.c (.int .i64 1500)] [1,2] [⟨6,7,53,prj 0 0 0,fun _=>prj 0 0 0⟩] ⟨.g 53 0 (B.gr f) rfl,.z (jdbl_no id h S),⟨⟩⟩ ⟨.k zPj (.t rfl),⟨⟩⟩ fun K v3 d h4 Y=>?_;simp only[fzw,Kw.a];obtain⟨⟨ac,x⟩,-⟩:(v2.heap.size≤(K 6 0).2∧Vr v3 (K 6 0).2 (prj 0 0 0))∧True:=Y;clear h4;replace f:=f.trans d;replace q:=q.trans d;have C:=d;clear d
 go_upto_region 5 with fail
 refine wp_wS [.F,.T] [] ⟨⟩ fun ae v4 d h5=>?_;simp only[fzw];clear h5;replace f:=f.trans d;replace q:=q.trans d;replace C:=C.trans d;have P:=d;clear d
 go_upto_region 6 with fail
 refine wp_wS [.c (.int .i64 1500),.c (.int .i64 1500),.T,.T,.c (.int .i64 1500),.c (.int .i64 1500),.T,.T,.T,.c (.int .i64 1500),.c (.int .i64 1500),.T,.T,.T,.c (.agg (prj 0 0 0)),.c (.agg (prj 0 0 0)),.T,.T,.T,.T,.T,.T] [1,5,10,14,16,19] ⟨.y (num_any _),.y (num_any _),.y (num_any _),.g 53 0 (i.gr C) rfl,.s (.binOp .eql 53 (.const (.agg (prj 0 0 0))) (.const (.agg (prj 0 0 0))) 53) rfl fun vv d=>by simp[go_sem,exI,eqPj,eqN_self],.z Q.out,⟨⟩⟩ fun af v5 d h6=>?_;simp only[fzw];clear h6;replace f:=f.trans d;replace q:=q.trans d;replace C:=C.trans d;replace P:=P.trans d;clear d;replace G:=G.trans f;replace B:=B.gr f;replace H:=H.gr f;replace j:=j.gr q;replace i:=i.gr C;replace x:=x.gr P;clear f q C P
 go_wp2_with fail
 go_ret
 exact⟨rfl,G⟩
theorem ljprojs_1{k:Nat}(h1:1≤k)(h2:k≤15){S T:T3}(lS:S.1<M∧S.2.1<M∧S.2.2<M)(lT:T.1<M∧T.2.1<M∧T.2.2<M)(nS:∀Q,¬TrQ k S Q)(w:World):Cg 6 #[.int .i64 k,.agg (pjT S),.agg (pjT T)] w (.bool true):=by
 have ab:Hid (∀w,Calls prog 16 #[.int .i64 k] w (GetQ k w)):=fun w=>getq_yes k h1 h2 w;have ag:Hid (∀w,Cg 30 #[] w (.bool true)):=fun w=>awake15_any w;obtain⟨xS,yS,fS,HS⟩:=tripF h1 h2 lS nS;obtain⟨xT,yT,fT,rT,HT⟩:=tripA h1 h2 lT
 go_enter func6,ntmps6
 go_upto_region 1 with fail
 refine gen_w (fun v=>Hid (Gr w v∧Vr v (w.heap.size) (pjT S)∧Vr v (w.heap.size+1) (pjT T))) ⟨grA,vrA,vrA⟩ ?_;intro u0 HV
 go_upto_region 2 with (go_at_call 16;refine(ab.out _).mono ?_;rintro e WB ⟨Z,rfl,HQ,GB⟩)
 obtain⟨e7,aa⟩:=exl (WB.heap.size);simp only[aa]
 refine gen_w (fun v=>Gr w v∧Vr v (w.heap.size) (pjT S)∧Vr v (w.heap.size+1) (pjT T)∧Vr v e7 (crA (k:Int) (nN k) Z)∧∀j,Sl v (Z j).1 (nN k j)) ?_ ?_
 ·subst aa;obtain⟨G,K,c1⟩:=HV.out;have g1:Gr WB (WB.alloc (.cells (crA (k:Int) (nN k) Z) 27)):=(Gr.refl _).alloc _;exact⟨(G.trans GB).trans g1,(K.gr GB).gr g1,(c1.gr GB).gr g1,Vr.new _ _ _,fun j=>(HQ j).gr g1⟩
 clear aa GB ab HV HQ;rintro v0 ⟨G,K,c1,c7,HQ⟩;refine wp_v false [.c (.int .i64 k),.c (.agg (pjT S)),.c (.tuple #[.agg (pnt 0 0 false),.int .i64 1501]),.c (.tuple #[.agg (pnt 0 0 false),.int .i64 1501]),.c (.agg (pnt 0 0 false)),.c (.int .i64 1501),.a,.u,.c (.int .i64 1501)] [1,2] [⟨6,7,35,pnt 0 0 false,fun _=>pnt 0 0 false⟩] ⟨.g 53 0 K rfl,.z (to_off h1 h2 lS nS),⟨⟩⟩ ⟨.k zPnt (.t rfl),⟨⟩⟩ fun ac v1 d h2 ah=>?_;simp only[fzw,Kw.a];obtain⟨⟨aq,B⟩,-⟩:(v0.heap.size≤(ac 6 0).2∧Vr v1 (ac 6 0).2 (pnt 0 0 false))∧True:=ah;clear h2;have f:=d;clear d
 go_upto_region 3 with fail
 refine wp_v false [.c (.int .i64 k),.c (.agg (pjT S)),.c (.agg (pjT T)),.c (.tuple #[.agg (prj 0 0 0),.int .i64 1501]),.c (.tuple #[.agg (prj 0 0 0),.int .i64 1501]),.c (.agg (prj 0 0 0)),.c (.int .i64 1501),.a,.u,.c (.int .i64 1501)] [1,2,3] [⟨7,8,53,prj 0 0 0,fun _=>prj 0 0 0⟩] ⟨.g 53 0 (K.gr f) rfl,.g 53 0 (c1.gr f) rfl,.z (jadd_off h1 h2 lS lT (.inl nS)),⟨⟩⟩ ⟨.k zPj (.t rfl),⟨⟩⟩ fun ae v2 d h3 ai=>?_;simp only[fzw,Kw.a];obtain⟨⟨ar,C⟩,-⟩:(v1.heap.size≤(ae 7 0).2∧Vr v2 (ae 7 0).2 (prj 0 0 0))∧True:=ai;clear h3;replace f:=f.trans d;have x:=d;clear d
 go_upto_region 4 with fail
 refine wp_v false [.c (.int .i64 k),.c (.agg (pjT S)),.c (.tuple #[.agg (prj 0 0 0),.int .i64 1501]),.c (.tuple #[.agg (prj 0 0 0),.int .i64 1501]),.c (.agg (prj 0 0 0)),.c (.int .i64 1501),.a,.u,.c (.int .i64 1501)] [1,2] [⟨6,7,53,prj 0 0 0,fun _=>prj 0 0 0⟩] ⟨.g 53 0 (K.gr f) rfl,.z (jdbl_off h1 h2 lS nS),⟨⟩⟩ ⟨.k zPj (.t rfl),⟨⟩⟩ fun af v3 d h4 aj=>?_;simp only[fzw,Kw.a];obtain⟨⟨au,D⟩,-⟩:(v2.heap.size≤(af 6 0).2∧Vr v3 (af 6 0).2 (prj 0 0 0))∧True:=aj;clear h4;replace f:=f.trans d;replace x:=x.trans d;have A:=d;clear d
 go_upto_region 5 with fail
 refine wp_wS [.T,.F] [] ⟨⟩ fun ay v4 d h5=>?_;simp only[fzw];clear h5;replace f:=f.trans d;replace x:=x.trans d;replace A:=A.trans d;have I:=d;clear d
 go_upto_region 7 with fail
 refine wp_v false [.c (.agg (crA (k:Int) (nN k) Z)),.c (.agg (pjT S)),.tb (xS) (yS) fS false,.tb (xS) (yS) fS false,.pt (xS) (yS) fS,.F,.a,.u,.F] [0,1,2,3,4,5] [⟨6,7,43,ptA none 0 0 none 0 0 false,fun J=>ptA (J 4 0).1 (xS) (J 4 0).2 (J 4 1).1 (yS) (J 4 1).2 fS⟩] ⟨.g 27 0 (c7.gr f) rfl,.g 53 0 (K.gr f) rfl,.k _ fun J vv d hh =>  (HS Z _ (fun j=>(HQ j).gr (f.trans d))),.m 2,.m 3,.m 3,⟨⟩⟩ ⟨.mk (fun _ _ h=>Value.agg.inj (h 4 rfl)) (fun _ v b H F=>by dsimp only at H ⊢;simp[go_sem,exI,H,F]) zPt ⟨fkc,fkc,fkt bPt,fkt bPt,fkp bPt,fkc,fka,fku,fkc,trivial⟩,⟨⟩⟩ fun i v5 d h7 ak=>?_;simp only[fzw,Kw.a,Kw.tb];obtain⟨L,P⟩:Sl v5 (i 4 0).1 (xS)∧Sl v5 (i 4 1).1 (yS):=h7 4;obtain⟨⟨av,U⟩,-⟩:(v4.heap.size≤(i 6 0).2∧Vr v5 (i 6 0).2 (ptA (i 4 0).1 (xS) (i 4 0).2 (i 4 1).1 (yS) (i 4 1).2 fS))∧True:=ak;clear h7;replace f:=f.trans d;replace x:=x.trans d;replace A:=A.trans d;replace I:=I.trans d;clear d
 go_upto_region 8 with fail
 refine wp_v false [.c (.agg (crA (k:Int) (nN k) Z)),.c (.agg (pjT T)),.tb (xT) (yT) fT rT,.tb (xT) (yT) fT rT,.pt (xT) (yT) fT,.c (.bool rT),.a,.u,.c (.bool rT)] [0,1,2,3,4,5] [⟨6,7,43,ptA none 0 0 none 0 0 false,fun J=>ptA (J 4 0).1 (xT) (J 4 0).2 (J 4 1).1 (yT) (J 4 1).2 fT⟩] ⟨.g 27 0 (c7.gr f) rfl,.g 53 0 (c1.gr f) rfl,.k _ fun J vv d hh =>  (HT Z _ (fun j=>(HQ j).gr (f.trans d))),.m 2,.m 3,.m 3,⟨⟩⟩ ⟨.mk (fun _ _ h=>Value.agg.inj (h 4 rfl)) (fun _ v b H F=>by dsimp only at H ⊢;simp[go_sem,exI,H,F]) zPt ⟨fkc,fkc,fkt bPt,fkt bPt,fkp bPt,fkc,fka,fku,fkc,trivial⟩,⟨⟩⟩ fun q v6 d h8 ao=>?_;simp only[fzw,Kw.a,Kw.tb];obtain⟨V,W⟩:Sl v6 (q 4 0).1 (xT)∧Sl v6 (q 4 1).1 (yT):=h8 4;obtain⟨⟨aw,X⟩,-⟩:(v5.heap.size≤(q 6 0).2∧Vr v6 (q 6 0).2 (ptA (q 4 0).1 (xT) (q 4 0).2 (q 4 1).1 (yT) (q 4 1).2 fT))∧True:=ao;clear h8;replace f:=f.trans d;replace x:=x.trans d;replace A:=A.trans d;replace I:=I.trans d;have Y:=d;clear d
 go_upto_region 9 with fail
 refine wp_wS [.F,.T] [] ⟨⟩ fun az v7 d h9=>?_;simp only[fzw];clear h9;replace f:=f.trans d;replace x:=x.trans d;replace A:=A.trans d;replace I:=I.trans d;replace Y:=Y.trans d;have g9:=d;clear d
 go_upto_region 10 with fail
 refine wp_wS [.c (.int .i64 1501),.c (.int .i64 1501),.T,.T,.c (.int .i64 1501),.c (.int .i64 1501),.T,.T,.T,.c (.int .i64 1501),.c (.int .i64 1501),.T,.T,.T,.c (.agg (pnt 0 0 false)),.c (.agg (pnt 0 0 false)),.T,.T,.T,.c (.agg (prj 0 0 0)),.c (.agg (prj 0 0 0)),.T,.T,.T,.c (.agg (prj 0 0 0)),.c (.agg (prj 0 0 0)),.T,.T,.T,.T,.T,.T] [1,5,10,14,16,19,21,24,26,29] ?hs13 ?hf13
 case hs13=>
  exact⟨.y (num_any _),.y (num_any _),.y (num_any _),.g 35 0 (B.gr x) rfl,.s (.binOp .eql 35 (.const (.agg (pnt 0 0 false))) (.const (.agg (pnt 0 0 false))) 35) rfl fun vv d=>by simp[go_sem,exI,eqPn,eqN_self],.g 53 0 (C.gr A) rfl,.s (.binOp .eql 53 (.const (.agg (prj 0 0 0))) (.const (.agg (prj 0 0 0))) 53) rfl fun vv d=>by simp[go_sem,exI,eqPj,eqN_self],.g 53 0 (D.gr I) rfl,.s (.binOp .eql 53 (.const (.agg (prj 0 0 0))) (.const (.agg (prj 0 0 0))) 53) rfl fun vv d=>by simp[go_sem,exI,eqPj,eqN_self],.z ag.out,⟨⟩⟩
 intro ax v8 d ap;simp only[fzw];clear ap;replace f:=f.trans d;replace x:=x.trans d;replace A:=A.trans d;replace I:=I.trans d;replace Y:=Y.trans d;replace g9:=g9.trans d;clear d;replace G:=G.trans f;replace K:=K.gr f;replace c1:=c1.gr f;replace c7:=c7.gr f;replace HQ:=fun k=>(HQ k).gr f;replace B:=B.gr x;replace C:=C.gr A;replace D:=D.gr I;replace U:=U.gr Y;replace L:=L.gr Y;replace P:=P.gr Y;replace X:=X.gr g9;replace V:=V.gr g9;replace W:=W.gr g9;clear f x A I Y g9
 go_wp2_with fail
 go_ret
 exact⟨rfl,G⟩
theorem ljprojs_2{k:Nat}(h1:1≤k)(h2:k≤15){S T:T3}(lS:S.1<M∧S.2.1<M∧S.2.2<M)(lT:T.1<M∧T.2.1<M∧T.2.2<M){P:Q3}(trS:TrQ k S P)(nT:∀Q,¬TrQ k T Q)(w:World):Cg 6 #[.int .i64 k,.agg (pjT S),.agg (pjT T)] w (.bool true):=by
 have ai:Hid (∀w,Calls prog 16 #[.int .i64 k] w (GetQ k w)):=fun w=>getq_yes k h1 h2 w;have au:Hid (∀w,Cg 30 #[] w (.bool true)):=fun w=>awake15_any w;obtain⟨xT,yT,fT,HT⟩:=tripF h1 h2 lT nT;have oP:=trS.on;obtain⟨D,hD⟩:=exl (addT k S S);obtain⟨x,aj⟩:=exl (plQ k P P);have av:TrQ k D x:=hD▸aj▸addT_tr h1 h2 trS trS
 go_enter func6,ntmps6
 go_upto_region 1 with fail
 refine gen_w (fun v=>Hid (Gr w v∧Vr v (w.heap.size) (pjT S)∧Vr v (w.heap.size+1) (pjT T))) ⟨grA,vrA,vrA⟩ ?_;intro u0 HV
 go_upto_region 2 with (go_at_call 16;refine(ai.out _).mono ?_;rintro e WB ⟨qc,rfl,HQ,GB⟩)
 obtain⟨e7,ah⟩:=exl (WB.heap.size);simp only[ah]
 refine gen_w (fun v=>Gr w v∧Vr v (w.heap.size) (pjT S)∧Vr v (w.heap.size+1) (pjT T)∧Vr v e7 (crA (k:Int) (nN k) qc)∧∀j,Sl v (qc j).1 (nN k j)) ?_ ?_
 ·subst ah;obtain⟨G,c0,c1⟩:=HV.out;have g1:Gr WB (WB.alloc (.cells (crA (k:Int) (nN k) qc) 27)):=(Gr.refl _).alloc _;exact⟨(G.trans GB).trans g1,(c0.gr GB).gr g1,(c1.gr GB).gr g1,Vr.new _ _ _,fun j=>(HQ j).gr g1⟩
 clear ah GB ai HV HQ;rintro v0 ⟨G,c0,c1,c7,HQ⟩;refine wp_v false [.c (.int .i64 k),.c (.agg (pjT S)),.E (.agg (pnQ P)),.E (.agg (pnQ P)),.c (.agg (pnQ P)),.O,.a,.u,.O] [1,2] [⟨6,7,35,pnt 0 0 false,fun _=>pnQ P⟩] ⟨.g 53 0 c0 rfl,.z (toQ h1 h2 trS),⟨⟩⟩ ⟨.k zPnt (.t rfl),⟨⟩⟩ fun ak v1 d h2 aw=>?_;simp only[fzw,Kw.a];obtain⟨⟨aG,aa⟩,-⟩:(v0.heap.size≤(ak 6 0).2∧Vr v1 (ak 6 0).2 (pnQ P))∧True:=aw;clear h2;have q:=d;clear d
 go_upto_region 3 with fail
 refine wp_v false [.c (.int .i64 k),.c (.agg (pjT S)),.c (.agg (pjT T)),.c (.tuple #[.agg (prj 0 0 0),.int .i64 1501]),.c (.tuple #[.agg (prj 0 0 0),.int .i64 1501]),.c (.agg (prj 0 0 0)),.c (.int .i64 1501),.a,.u,.c (.int .i64 1501)] [1,2,3] [⟨7,8,53,prj 0 0 0,fun _=>prj 0 0 0⟩] ⟨.g 53 0 (c0.gr q) rfl,.g 53 0 (c1.gr q) rfl,.z (jadd_off h1 h2 lS lT (.inr nT)),⟨⟩⟩ ⟨.k zPj (.t rfl),⟨⟩⟩ fun ao v2 d h3 ax=>?_;simp only[fzw,Kw.a];obtain⟨⟨aH,ab⟩,-⟩:(v1.heap.size≤(ao 7 0).2∧Vr v2 (ao 7 0).2 (prj 0 0 0))∧True:=ax;clear h3;replace q:=q.trans d;have C:=d;clear d
 go_upto_region 4 with fail
 refine wp_v false [.c (.int .i64 k),.c (.agg (pjT S)),.E (.agg (pjT D)),.E (.agg (pjT D)),.c (.agg (pjT D)),.O,.a,.u,.O] [1,2] [⟨6,7,53,prj 0 0 0,fun _=>pjT D⟩] ⟨.g 53 0 (c0.gr q) rfl,.z (jdblQ h1 h2 trS hD),⟨⟩⟩ ⟨.k zPj (.t rfl),⟨⟩⟩ fun ap v3 d h4 ay=>?_;simp only[fzw,Kw.a];obtain⟨⟨aI,ac⟩,-⟩:(v2.heap.size≤(ap 6 0).2∧Vr v3 (ap 6 0).2 (pjT D))∧True:=ay;clear h4;replace q:=q.trans d;replace C:=C.trans d;have I:=d;clear d
 go_upto_region 5 with fail
 refine wp_wS [.T,.F] [] ⟨⟩ fun aP v4 d h5=>?_;simp only[fzw];clear h5;replace q:=q.trans d;replace C:=C.trans d;replace I:=I.trans d;have J:=d;clear d
 go_upto_region 7 with fail
 refine wp_v false [.c (.agg (crA (k:Int) (nN k) qc)),.c (.agg (pjT S)),.tb (P.1) (P.2.1) P.2.2 true,.tb (P.1) (P.2.1) P.2.2 true,.pt (P.1) (P.2.1) P.2.2,.T,.a,.u,.T] [0,1,2,3,4,5] [⟨6,7,43,ptA none 0 0 none 0 0 false,fun A=>ptA (A 4 0).1 (P.1) (A 4 0).2 (A 4 1).1 (P.2.1) (A 4 1).2 P.2.2⟩] ⟨.g 27 0 (c7.gr q) rfl,.g 53 0 (c0.gr q) rfl,.k _ fun A vv d hh =>  (tripT h1 h2 trS qc _ (fun j=>(HQ j).gr (q.trans d))),.m 2,.m 3,.m 3,⟨⟩⟩ ⟨.mk (fun _ _ h=>Value.agg.inj (h 4 rfl)) (fun _ v b H F=>by dsimp only at H ⊢;simp[go_sem,exI,H,F]) zPt ⟨fkc,fkc,fkt bPt,fkt bPt,fkp bPt,fkc,fka,fku,fkc,trivial⟩,⟨⟩⟩ fun f v5 d h7 az=>?_;simp only[fzw,Kw.a,Kw.tb];obtain⟨K,L⟩:Sl v5 (f 4 0).1 (P.1)∧Sl v5 (f 4 1).1 (P.2.1):=h7 4;obtain⟨⟨aJ,U⟩,-⟩:(v4.heap.size≤(f 6 0).2∧Vr v5 (f 6 0).2 (ptA (f 4 0).1 (P.1) (f 4 0).2 (f 4 1).1 (P.2.1) (f 4 1).2 P.2.2))∧True:=az;clear h7;replace q:=q.trans d;replace C:=C.trans d;replace I:=I.trans d;replace J:=J.trans d;clear d
 go_upto_region 8 with fail
 refine wp_v false [.c (.agg (crA (k:Int) (nN k) qc)),.c (.agg (pjT T)),.tb (xT) (yT) fT false,.tb (xT) (yT) fT false,.pt (xT) (yT) fT,.F,.a,.u,.F] [0,1,2,3,4,5] [⟨6,7,43,ptA none 0 0 none 0 0 false,fun A=>ptA (A 4 0).1 (xT) (A 4 0).2 (A 4 1).1 (yT) (A 4 1).2 fT⟩] ⟨.g 27 0 (c7.gr q) rfl,.g 53 0 (c1.gr q) rfl,.k _ fun A vv d hh =>  (HT qc _ (fun j=>(HQ j).gr (q.trans d))),.m 2,.m 3,.m 3,⟨⟩⟩ ⟨.mk (fun _ _ h=>Value.agg.inj (h 4 rfl)) (fun _ v b H F=>by dsimp only at H ⊢;simp[go_sem,exI,H,F]) zPt ⟨fkc,fkc,fkt bPt,fkt bPt,fkp bPt,fkc,fka,fku,fkc,trivial⟩,⟨⟩⟩ fun V v6 d h8 aA=>?_;simp only[fzw,Kw.a,Kw.tb];obtain⟨ae,af⟩:Sl v6 (V 4 0).1 (xT)∧Sl v6 (V 4 1).1 (yT):=h8 4;obtain⟨⟨aK,ag⟩,-⟩:(v5.heap.size≤(V 6 0).2∧Vr v6 (V 6 0).2 (ptA (V 4 0).1 (xT) (V 4 0).2 (V 4 1).1 (yT) (V 4 1).2 fT))∧True:=aA;clear h8;replace q:=q.trans d;replace C:=C.trans d;replace I:=I.trans d;replace J:=J.trans d;have B:=d;clear d
 go_upto_region 9 with fail
 refine wp_wS [.T,.F] [] ⟨⟩ fun aQ v7 d h9=>?_;simp only[fzw];clear h9;replace q:=q.trans d;replace C:=C.trans d;replace I:=I.trans d;replace J:=J.trans d;replace B:=B.trans d;have g9:=d;clear d
 go_upto_region 11 with fail
 refine wp_v false [.c (.agg (crA (k:Int) (nN k) qc)),.c (.agg (pjT D)),.tb (x.1) (x.2.1) x.2.2 true,.tb (x.1) (x.2.1) x.2.2 true,.pt (x.1) (x.2.1) x.2.2,.T,.a,.u,.T] [0,1,2,3,4,5] [⟨6,7,43,ptA none 0 0 none 0 0 false,fun A=>ptA (A 4 0).1 (x.1) (A 4 0).2 (A 4 1).1 (x.2.1) (A 4 1).2 x.2.2⟩] ⟨.g 27 0 (c7.gr q) rfl,.g 53 0 (ac.gr J) rfl,.k _ fun A vv d hh =>  (tripT h1 h2 av qc _ (fun j=>(HQ j).gr (q.trans d))),.m 2,.m 3,.m 3,⟨⟩⟩ ⟨.mk (fun _ _ h=>Value.agg.inj (h 4 rfl)) (fun _ v b H F=>by dsimp only at H ⊢;simp[go_sem,exI,H,F]) zPt ⟨fkc,fkc,fkt bPt,fkt bPt,fkp bPt,fkc,fka,fku,fkc,trivial⟩,⟨⟩⟩ fun i v8 d aq ar=>?_;simp only[fzw,Kw.a,Kw.tb];obtain⟨X,Y⟩:Sl v8 (i 4 0).1 (x.1)∧Sl v8 (i 4 1).1 (x.2.1):=aq 4;obtain⟨⟨aB,Z⟩,-⟩:(v7.heap.size≤(i 6 0).2∧Vr v8 (i 6 0).2 (ptA (i 4 0).1 (x.1) (i 4 0).2 (i 4 1).1 (x.2.1) (i 4 1).2 x.2.2))∧True:=ar;clear aq;replace q:=q.trans d;replace C:=C.trans d;replace I:=I.trans d;replace J:=J.trans d;replace B:=B.trans d;replace g9:=g9.trans d;clear d
 go_upto_region 12 with fail
 refine wp_w [.O,.O,.F,.F,.c (.agg (pnQ P)),.c (.agg (ptA (f 4 0).1 (P.1) (f 4 0).2 (f 4 1).1 (P.2.1) (f 4 1).2 P.2.2)),.c (.agg (pnQ P)),.F,.F,.F,.O,.O,.F,.F,.F,.T,.F,.F,.F,.c (.agg (ptA (i 4 0).1 (x.1) (i 4 0).2 (i 4 1).1 (x.2.1) (i 4 1).2 x.2.2)),.c (.agg (pnQ x)),.c (.agg (crA (k:Int) (nN k) qc)),.c (.agg (ptA (f 4 0).1 (P.1) (f 4 0).2 (f 4 1).1 (P.2.1) (f 4 1).2 P.2.2)),.c (.agg (ptA (f 4 0).1 (P.1) (f 4 0).2 (f 4 1).1 (P.2.1) (f 4 1).2 P.2.2)),.pt (x.1) (x.2.1) x.2.2,.c (.agg (pnQ x)),.F,.F] [1,4,5,6,7,11,19,20,21,22,23,24,25,26] ⟨.y (num_any _),.g 35 0 (aa.gr C) rfl,.g 43 0 (U.gr B) rfl,.k (fun A =>#[.agg (ptA (f 4 0).1 (P.1) (f 4 0).2 (f 4 1).1 (P.2.1) (f 4 1).2 P.2.2)]) fun A vv d hh=>RtW.of_c (Rt.c (rout_any _ _ _ _ _ _ _ _ (K.gr (B.trans d)) (L.gr (B.trans d)))),.s (.binOp .neq 35 (.const (.agg (pnQ P))) (.const (.agg (pnQ P))) 35) rfl fun vv d=>by simp[go_sem,exI,nePn,eqN_self],.y (num_any _),.g 43 0 Z rfl,.k (fun A =>#[.agg (ptA (i 4 0).1 (x.1) (i 4 0).2 (i 4 1).1 (x.2.1) (i 4 1).2 x.2.2)]) fun A vv d hh=>RtW.of_c (Rt.c (rout_any _ _ _ _ _ _ _ _ (X.gr d) (Y.gr d))),.g 27 0 (c7.gr q) rfl,.g 43 0 (U.gr B) rfl,.g 43 0 (U.gr B) rfl,.k (fun A =>#[.agg (crA (k:Int) (nN k) qc),.agg (ptA (f 4 0).1 (P.1) (f 4 0).2 (f 4 1).1 (P.2.1) (f 4 1).2 P.2.2),.agg (ptA (f 4 0).1 (P.1) (f 4 0).2 (f 4 1).1 (P.2.1) (f 4 1).2 P.2.2)]) fun A vv d hh=>RtW.of_pt (aj▸rplusQ k h1 h2 qc oP oP (fun j=>(HQ j).gr (q.trans d)) (K.gr (B.trans d)) (L.gr (B.trans d)) (K.gr (B.trans d)) (L.gr (B.trans d))),.k (fun A =>#[.agg (ptA (A 24 0).1 (x.1) (A 24 0).2 (A 24 1).1 (x.2.1) (A 24 1).2 x.2.2)]) fun A vv d hh=>RtW.of_c (Rt.c (rout_any _ _ _ _ _ _ _ _ (hh 24 rfl).1 (hh 24 rfl).2)),.s (.binOp .neq 35 (.const (.agg (pnQ x))) (.const (.agg (pnQ x))) 35) rfl fun vv d=>by simp[go_sem,exI,nePn,eqN_self],⟨⟩⟩ fun aL v9 d aC=>?_;simp only[fzw];clear aC;replace q:=q.trans d;replace C:=C.trans d;replace I:=I.trans d;replace J:=J.trans d;replace B:=B.trans d;replace g9:=g9.trans d;have W:=d;clear d
 go_upto_region 14 with fail
 refine wp_wS [.F,.T] [] ⟨⟩ fun aM aR d aD=>?_;simp only[fzw];clear aD;replace W:=W.trans d;replace q:=q.trans d;replace C:=C.trans d;replace I:=I.trans d;replace J:=J.trans d;replace B:=B.trans d;replace g9:=g9.trans d;clear d
 go_upto_region 15 with fail
 refine wp_wS [.c (.int .i64 1501),.c (.int .i64 1501),.T,.T,.c (.agg (prj 0 0 0)),.c (.agg (prj 0 0 0)),.T,.T,.T,.T,.T,.T] [1,4,6,9] ⟨.y (num_any _),.g 53 0 (ab.gr I) rfl,.s (.binOp .eql 53 (.const (.agg (prj 0 0 0))) (.const (.agg (prj 0 0 0))) 53) rfl fun vv d=>by simp[go_sem,exI,eqPj,eqN_self],.z au.out,⟨⟩⟩ fun aO aS d aE=>?_;simp only[fzw];clear aE;replace W:=W.trans d;replace q:=q.trans d;replace C:=C.trans d;replace I:=I.trans d;replace J:=J.trans d;replace B:=B.trans d;replace g9:=g9.trans d;clear d;replace G:=G.trans q;replace c0:=c0.gr q;replace c1:=c1.gr q;replace c7:=c7.gr q;replace HQ:=fun k=>(HQ k).gr q;replace aa:=aa.gr C;replace ab:=ab.gr I;replace ac:=ac.gr J;replace U:=U.gr B;replace K:=K.gr B;replace L:=L.gr B;replace ag:=ag.gr g9;replace ae:=ae.gr g9;replace af:=af.gr g9;replace Z:=Z.gr W;replace X:=X.gr W;replace Y:=Y.gr W;clear W q C I J B g9
 go_wp2_with fail
 go_ret
 exact⟨rfl,G⟩
theorem ljprojs_3{k:Nat}(h1:1≤k)(h2:k≤15){S T:T3}{P Q:Q3}(trS:TrQ k S P)(trT:TrQ k T Q)(w:World):Cg 6 #[.int .i64 k,.agg (pjT S),.agg (pjT T)] w (.bool true):=by
 have av:Hid (∀w,Calls prog 16 #[.int .i64 k] w (GetQ k w)):=fun w=>getq_yes k h1 h2 w;have aE:Hid (∀w,Cg 30 #[] w (.bool true)):=fun w=>awake15_any w;have oP:=trS.on;obtain⟨D,hD⟩:=exl (addT k S S);obtain⟨B,aw⟩:=exl (plQ k P P);have aG:TrQ k D B:=hD▸aw▸addT_tr h1 h2 trS trS;have oQ:=trT.on;obtain⟨R,hR⟩:=exl (addT k S T);obtain⟨X,hX⟩:=exl (plQ k P Q);have aH:TrQ k R X:=hR▸hX▸addT_tr h1 h2 trS trT
 go_enter func6,ntmps6
 go_upto_region 1 with fail
 refine gen_w (fun v=>Hid (Gr w v∧Vr v (w.heap.size) (pjT S)∧Vr v (w.heap.size+1) (pjT T))) ⟨grA,vrA,vrA⟩ ?_;intro u0 HV
 go_upto_region 2 with (go_at_call 16;refine(av.out _).mono ?_;rintro e WB ⟨Z,rfl,HQ,GB⟩)
 obtain⟨e7,ar⟩:=exl (WB.heap.size);simp only[ar]
 refine gen_w (fun v=>Gr w v∧Vr v (w.heap.size) (pjT S)∧Vr v (w.heap.size+1) (pjT T)∧Vr v e7 (crA (k:Int) (nN k) Z)∧∀j,Sl v (Z j).1 (nN k j)) ?_ ?_
 ·subst ar;obtain⟨G,c0,c1⟩:=HV.out;have g1:Gr WB (WB.alloc (.cells (crA (k:Int) (nN k) Z) 27)):=(Gr.refl _).alloc _;exact⟨(G.trans GB).trans g1,(c0.gr GB).gr g1,(c1.gr GB).gr g1,Vr.new _ _ _,fun j=>(HQ j).gr g1⟩
 clear ar GB av HV HQ;rintro v0 ⟨G,c0,c1,c7,HQ⟩;refine wp_v false [.c (.int .i64 k),.c (.agg (pjT S)),.E (.agg (pnQ P)),.E (.agg (pnQ P)),.c (.agg (pnQ P)),.O,.a,.u,.O] [1,2] [⟨6,7,35,pnt 0 0 false,fun _=>pnQ P⟩] ⟨.g 53 0 c0 rfl,.z (toQ h1 h2 trS),⟨⟩⟩ ⟨.k zPnt (.t rfl),⟨⟩⟩ fun ax v1 d h2 aI=>?_;simp only[fzw,Kw.a];obtain⟨⟨aU,ah⟩,-⟩:(v0.heap.size≤(ax 6 0).2∧Vr v1 (ax 6 0).2 (pnQ P))∧True:=aI;clear h2;have x:=d;clear d
 go_upto_region 3 with fail
 refine wp_v false [.c (.int .i64 k),.c (.agg (pjT S)),.c (.agg (pjT T)),.E (.agg (pjT R)),.E (.agg (pjT R)),.c (.agg (pjT R)),.O,.a,.u,.O] [1,2,3] [⟨7,8,53,prj 0 0 0,fun _=>pjT R⟩] ⟨.g 53 0 (c0.gr x) rfl,.g 53 0 (c1.gr x) rfl,.z (jaddQ h1 h2 trS trT hR),⟨⟩⟩ ⟨.k zPj (.t rfl),⟨⟩⟩ fun ay v2 d h3 aJ=>?_;simp only[fzw,Kw.a];obtain⟨⟨aV,ai⟩,-⟩:(v1.heap.size≤(ay 7 0).2∧Vr v2 (ay 7 0).2 (pjT R))∧True:=aJ;clear h3;replace x:=x.trans d;have J:=d;clear d
 go_upto_region 4 with fail
 refine wp_v false [.c (.int .i64 k),.c (.agg (pjT S)),.E (.agg (pjT D)),.E (.agg (pjT D)),.c (.agg (pjT D)),.O,.a,.u,.O] [1,2] [⟨6,7,53,prj 0 0 0,fun _=>pjT D⟩] ⟨.g 53 0 (c0.gr x) rfl,.z (jdblQ h1 h2 trS hD),⟨⟩⟩ ⟨.k zPj (.t rfl),⟨⟩⟩ fun az v3 d h4 aK=>?_;simp only[fzw,Kw.a];obtain⟨⟨aW,aj⟩,-⟩:(v2.heap.size≤(az 6 0).2∧Vr v3 (az 6 0).2 (pjT D))∧True:=aK;clear h4;replace x:=x.trans d;replace J:=J.trans d;have K:=d;clear d
 go_upto_region 5 with fail
 refine wp_wS [.T,.F] [] ⟨⟩ fun a5 v4 d h5=>?_;simp only[fzw];clear h5;replace x:=x.trans d;replace J:=J.trans d;replace K:=K.trans d;have Y:=d;clear d
 go_upto_region 7 with fail
 refine wp_v false [.c (.agg (crA (k:Int) (nN k) Z)),.c (.agg (pjT S)),.tb (P.1) (P.2.1) P.2.2 true,.tb (P.1) (P.2.1) P.2.2 true,.pt (P.1) (P.2.1) P.2.2,.T,.a,.u,.T] [0,1,2,3,4,5] [⟨6,7,43,ptA none 0 0 none 0 0 false,fun A=>ptA (A 4 0).1 (P.1) (A 4 0).2 (A 4 1).1 (P.2.1) (A 4 1).2 P.2.2⟩] ⟨.g 27 0 (c7.gr x) rfl,.g 53 0 (c0.gr x) rfl,.k _ fun A vv d hh =>  (tripT h1 h2 trS Z _ (fun j=>(HQ j).gr (x.trans d))),.m 2,.m 3,.m 3,⟨⟩⟩ ⟨.mk (fun _ _ h=>Value.agg.inj (h 4 rfl)) (fun _ v b H F=>by dsimp only at H ⊢;simp[go_sem,exI,H,F]) zPt ⟨fkc,fkc,fkt bPt,fkt bPt,fkp bPt,fkc,fka,fku,fkc,trivial⟩,⟨⟩⟩ fun f v5 d h7 aL=>?_;simp only[fzw,Kw.a,Kw.tb];obtain⟨U,V⟩:Sl v5 (f 4 0).1 (P.1)∧Sl v5 (f 4 1).1 (P.2.1):=h7 4;obtain⟨⟨a0,W⟩,-⟩:(v4.heap.size≤(f 6 0).2∧Vr v5 (f 6 0).2 (ptA (f 4 0).1 (P.1) (f 4 0).2 (f 4 1).1 (P.2.1) (f 4 1).2 P.2.2))∧True:=aL;clear h7;replace x:=x.trans d;replace J:=J.trans d;replace K:=K.trans d;replace Y:=Y.trans d;clear d
 go_upto_region 8 with fail
 refine wp_v false [.c (.agg (crA (k:Int) (nN k) Z)),.c (.agg (pjT T)),.tb (Q.1) (Q.2.1) Q.2.2 true,.tb (Q.1) (Q.2.1) Q.2.2 true,.pt (Q.1) (Q.2.1) Q.2.2,.T,.a,.u,.T] [0,1,2,3,4,5] [⟨6,7,43,ptA none 0 0 none 0 0 false,fun A=>ptA (A 4 0).1 (Q.1) (A 4 0).2 (A 4 1).1 (Q.2.1) (A 4 1).2 Q.2.2⟩] ⟨.g 27 0 (c7.gr x) rfl,.g 53 0 (c1.gr x) rfl,.k _ fun A vv d hh =>  (tripT h1 h2 trT Z _ (fun j=>(HQ j).gr (x.trans d))),.m 2,.m 3,.m 3,⟨⟩⟩ ⟨.mk (fun _ _ h=>Value.agg.inj (h 4 rfl)) (fun _ v b H F=>by dsimp only at H ⊢;simp[go_sem,exI,H,F]) zPt ⟨fkc,fkc,fkt bPt,fkt bPt,fkp bPt,fkc,fka,fku,fkc,trivial⟩,⟨⟩⟩ fun C v6 d h8 aM=>?_;simp only[fzw,Kw.a,Kw.tb];obtain⟨ak,ao⟩:Sl v6 (C 4 0).1 (Q.1)∧Sl v6 (C 4 1).1 (Q.2.1):=h8 4;obtain⟨⟨a1,ap⟩,-⟩:(v5.heap.size≤(C 6 0).2∧Vr v6 (C 6 0).2 (ptA (C 4 0).1 (Q.1) (C 4 0).2 (C 4 1).1 (Q.2.1) (C 4 1).2 Q.2.2))∧True:=aM;clear h8;replace x:=x.trans d;replace J:=J.trans d;replace K:=K.trans d;replace Y:=Y.trans d;have I:=d;clear d
 go_upto_region 9 with fail
 refine wp_wS [.T,.F] [] ⟨⟩ fun a6 v7 d h9=>?_;simp only[fzw];clear h9;replace x:=x.trans d;replace J:=J.trans d;replace K:=K.trans d;replace Y:=Y.trans d;replace I:=I.trans d;have g9:=d;clear d
 go_upto_region 11 with fail
 refine wp_v false [.c (.agg (crA (k:Int) (nN k) Z)),.c (.agg (pjT D)),.tb (B.1) (B.2.1) B.2.2 true,.tb (B.1) (B.2.1) B.2.2 true,.pt (B.1) (B.2.1) B.2.2,.T,.a,.u,.T] [0,1,2,3,4,5] [⟨6,7,43,ptA none 0 0 none 0 0 false,fun A=>ptA (A 4 0).1 (B.1) (A 4 0).2 (A 4 1).1 (B.2.1) (A 4 1).2 B.2.2⟩] ⟨.g 27 0 (c7.gr x) rfl,.g 53 0 (aj.gr Y) rfl,.k _ fun A vv d hh =>  (tripT h1 h2 aG Z _ (fun j=>(HQ j).gr (x.trans d))),.m 2,.m 3,.m 3,⟨⟩⟩ ⟨.mk (fun _ _ h=>Value.agg.inj (h 4 rfl)) (fun _ v b H F=>by dsimp only at H ⊢;simp[go_sem,exI,H,F]) zPt ⟨fkc,fkc,fkt bPt,fkt bPt,fkp bPt,fkc,fka,fku,fkc,trivial⟩,⟨⟩⟩ fun i v8 d aA aB=>?_;simp only[fzw,Kw.a,Kw.tb];obtain⟨aa,ab⟩:Sl v8 (i 4 0).1 (B.1)∧Sl v8 (i 4 1).1 (B.2.1):=aA 4;obtain⟨⟨aO,ac⟩,-⟩:(v7.heap.size≤(i 6 0).2∧Vr v8 (i 6 0).2 (ptA (i 4 0).1 (B.1) (i 4 0).2 (i 4 1).1 (B.2.1) (i 4 1).2 B.2.2))∧True:=aB;clear aA;replace x:=x.trans d;replace J:=J.trans d;replace K:=K.trans d;replace Y:=Y.trans d;replace I:=I.trans d;replace g9:=g9.trans d;clear d
 go_upto_region 12 with fail
 refine wp_w [.O,.O,.F,.F,.c (.agg (pnQ P)),.c (.agg (ptA (f 4 0).1 (P.1) (f 4 0).2 (f 4 1).1 (P.2.1) (f 4 1).2 P.2.2)),.c (.agg (pnQ P)),.F,.F,.F,.O,.O,.F,.F,.F,.T,.F,.F,.F,.c (.agg (ptA (i 4 0).1 (B.1) (i 4 0).2 (i 4 1).1 (B.2.1) (i 4 1).2 B.2.2)),.c (.agg (pnQ B)),.c (.agg (crA (k:Int) (nN k) Z)),.c (.agg (ptA (f 4 0).1 (P.1) (f 4 0).2 (f 4 1).1 (P.2.1) (f 4 1).2 P.2.2)),.c (.agg (ptA (f 4 0).1 (P.1) (f 4 0).2 (f 4 1).1 (P.2.1) (f 4 1).2 P.2.2)),.pt (B.1) (B.2.1) B.2.2,.c (.agg (pnQ B)),.F,.F] [1,4,5,6,7,11,19,20,21,22,23,24,25,26] ⟨.y (num_any _),.g 35 0 (ah.gr J) rfl,.g 43 0 (W.gr I) rfl,.k (fun A =>#[.agg (ptA (f 4 0).1 (P.1) (f 4 0).2 (f 4 1).1 (P.2.1) (f 4 1).2 P.2.2)]) fun A vv d hh=>RtW.of_c (Rt.c (rout_any _ _ _ _ _ _ _ _ (U.gr (I.trans d)) (V.gr (I.trans d)))),.s (.binOp .neq 35 (.const (.agg (pnQ P))) (.const (.agg (pnQ P))) 35) rfl fun vv d=>by simp[go_sem,exI,nePn,eqN_self],.y (num_any _),.g 43 0 ac rfl,.k (fun A =>#[.agg (ptA (i 4 0).1 (B.1) (i 4 0).2 (i 4 1).1 (B.2.1) (i 4 1).2 B.2.2)]) fun A vv d hh=>RtW.of_c (Rt.c (rout_any _ _ _ _ _ _ _ _ (aa.gr d) (ab.gr d))),.g 27 0 (c7.gr x) rfl,.g 43 0 (W.gr I) rfl,.g 43 0 (W.gr I) rfl,.k (fun A =>#[.agg (crA (k:Int) (nN k) Z),.agg (ptA (f 4 0).1 (P.1) (f 4 0).2 (f 4 1).1 (P.2.1) (f 4 1).2 P.2.2),.agg (ptA (f 4 0).1 (P.1) (f 4 0).2 (f 4 1).1 (P.2.1) (f 4 1).2 P.2.2)]) fun A vv d hh=>RtW.of_pt (aw▸rplusQ k h1 h2 Z oP oP (fun j=>(HQ j).gr (x.trans d)) (U.gr (I.trans d)) (V.gr (I.trans d)) (U.gr (I.trans d)) (V.gr (I.trans d))),.k (fun A =>#[.agg (ptA (A 24 0).1 (B.1) (A 24 0).2 (A 24 1).1 (B.2.1) (A 24 1).2 B.2.2)]) fun A vv d hh=>RtW.of_c (Rt.c (rout_any _ _ _ _ _ _ _ _ (hh 24 rfl).1 (hh 24 rfl).2)),.s (.binOp .neq 35 (.const (.agg (pnQ B))) (.const (.agg (pnQ B))) 35) rfl fun vv d=>by simp[go_sem,exI,nePn,eqN_self],⟨⟩⟩ fun a2 v9 d aP=>?_;simp only[fzw];clear aP;replace x:=x.trans d;replace J:=J.trans d;replace K:=K.trans d;replace Y:=Y.trans d;replace I:=I.trans d;replace g9:=g9.trans d;have L:=d;clear d
 go_upto_region 14 with fail
 refine wp_wS [.T,.F] [] ⟨⟩ fun a3 aQ d aR=>?_;simp only[fzw];clear aR;replace L:=L.trans d;replace x:=x.trans d;replace J:=J.trans d;replace K:=K.trans d;replace Y:=Y.trans d;replace I:=I.trans d;replace g9:=g9.trans d;clear d
 go_upto_region 16 with fail
 refine wp_v false [.c (.agg (crA (k:Int) (nN k) Z)),.c (.agg (pjT R)),.tb (X.1) (X.2.1) X.2.2 true,.tb (X.1) (X.2.1) X.2.2 true,.pt (X.1) (X.2.1) X.2.2,.T,.a,.u,.T] [0,1,2,3,4,5] [⟨6,7,43,ptA none 0 0 none 0 0 false,fun A=>ptA (A 4 0).1 (X.1) (A 4 0).2 (A 4 1).1 (X.2.1) (A 4 1).2 X.2.2⟩] ⟨.g 27 0 (c7.gr x) rfl,.g 53 0 (ai.gr K) rfl,.k _ fun A vv d hh =>  (tripT h1 h2 aH Z _ (fun j=>(HQ j).gr (x.trans d))),.m 2,.m 3,.m 3,⟨⟩⟩ ⟨.mk (fun _ _ h=>Value.agg.inj (h 4 rfl)) (fun _ v b H F=>by dsimp only at H ⊢;simp[go_sem,exI,H,F]) zPt ⟨fkc,fkc,fkt bPt,fkt bPt,fkp bPt,fkc,fka,fku,fkc,trivial⟩,⟨⟩⟩ fun q au d aC aD=>?_;simp only[fzw,Kw.a,Kw.tb];obtain⟨ae,af⟩:Sl au (q 4 0).1 (X.1)∧Sl au (q 4 1).1 (X.2.1):=aC 4;obtain⟨⟨aS,ag⟩,-⟩:(aQ.heap.size≤(q 6 0).2∧Vr au (q 6 0).2 (ptA (q 4 0).1 (X.1) (q 4 0).2 (q 4 1).1 (X.2.1) (q 4 1).2 X.2.2))∧True:=aD;clear aC;replace L:=L.trans d;replace x:=x.trans d;replace J:=J.trans d;replace K:=K.trans d;replace Y:=Y.trans d;replace I:=I.trans d;replace g9:=g9.trans d;clear d
 go_upto_region 17 with fail
 refine wp_w [.O,.O,.T,.T,.T,.T,.T,.c (.agg (ptA (q 4 0).1 (X.1) (q 4 0).2 (q 4 1).1 (X.2.1) (q 4 1).2 X.2.2)),.c (.agg (pnQ X)),.c (.agg (crA (k:Int) (nN k) Z)),.c (.agg (ptA (f 4 0).1 (P.1) (f 4 0).2 (f 4 1).1 (P.2.1) (f 4 1).2 P.2.2)),.c (.agg (ptA (C 4 0).1 (Q.1) (C 4 0).2 (C 4 1).1 (Q.2.1) (C 4 1).2 Q.2.2)),.pt (X.1) (X.2.1) X.2.2,.c (.agg (pnQ X)),.T,.T,.T,.T,.T,.T] [1,7,8,9,10,11,12,13,14,17] ⟨.y (num_any _),.g 43 0 ag rfl,.k (fun A =>#[.agg (ptA (q 4 0).1 (X.1) (q 4 0).2 (q 4 1).1 (X.2.1) (q 4 1).2 X.2.2)]) fun A vv d hh=>RtW.of_c (Rt.c (rout_any _ _ _ _ _ _ _ _ (ae.gr d) (af.gr d))),.g 27 0 (c7.gr x) rfl,.g 43 0 (W.gr I) rfl,.g 43 0 (ap.gr g9) rfl,.k (fun A =>#[.agg (crA (k:Int) (nN k) Z),.agg (ptA (f 4 0).1 (P.1) (f 4 0).2 (f 4 1).1 (P.2.1) (f 4 1).2 P.2.2),.agg (ptA (C 4 0).1 (Q.1) (C 4 0).2 (C 4 1).1 (Q.2.1) (C 4 1).2 Q.2.2)]) fun A vv d hh=>RtW.of_pt (hX▸rplusQ k h1 h2 Z oP oQ (fun j=>(HQ j).gr (x.trans d)) (U.gr (I.trans d)) (V.gr (I.trans d)) (ak.gr (g9.trans d)) (ao.gr (g9.trans d))),.k (fun A =>#[.agg (ptA (A 12 0).1 (X.1) (A 12 0).2 (A 12 1).1 (X.2.1) (A 12 1).2 X.2.2)]) fun A vv d hh=>RtW.of_c (Rt.c (rout_any _ _ _ _ _ _ _ _ (hh 12 rfl).1 (hh 12 rfl).2)),.s (.binOp .eql 35 (.const (.agg (pnQ X))) (.const (.agg (pnQ X))) 35) rfl fun vv d=>by simp[go_sem,exI,eqPn,eqN_self],.z aE.out,⟨⟩⟩ fun a4 a7 d aT=>?_;simp only[fzw];clear aT;replace L:=L.trans d;replace x:=x.trans d;replace J:=J.trans d;replace K:=K.trans d;replace Y:=Y.trans d;replace I:=I.trans d;replace g9:=g9.trans d;have aq:=d;clear d;replace G:=G.trans x;replace c0:=c0.gr x;replace c1:=c1.gr x;replace c7:=c7.gr x;replace HQ:=fun k=>(HQ k).gr x;replace ah:=ah.gr J;replace ai:=ai.gr K;replace aj:=aj.gr Y;replace W:=W.gr I;replace U:=U.gr I;replace V:=V.gr I;replace ap:=ap.gr g9;replace ak:=ak.gr g9;replace ao:=ao.gr g9;replace ac:=ac.gr L;replace aa:=aa.gr L;replace ab:=ab.gr L;replace ag:=ag.gr aq;replace ae:=ae.gr aq;replace af:=af.gr aq;clear L aq x J K Y I g9
 go_wp2_with fail
 go_ret
 exact⟨rfl,G⟩
theorem ljprojs_any(id:Int)(S T:T3)(lS:S.1<M∧S.2.1<M∧S.2.2<M)(lT:T.1<M∧T.2.1<M∧T.2.2<M)(w:World):Cg 6 #[.int .i64 id,.agg (pjT S),.agg (pjT T)] w (.bool true):=by
 by_cases h:1≤id∧id≤15
 ·obtain⟨k,rfl⟩:∃k:Nat,id=(k:Int):=⟨id.toNat,by omega⟩
  have d:1≤k:=by omega
  have f:k≤15:=by omega
  by_cases tS:∃P,TrQ k S P
  ·obtain⟨P,tS⟩:=tS
   by_cases tT:∃Q,TrQ k T Q
   ·obtain⟨Q,tT⟩:=tT;exact ljprojs_3 d f tS tT w
   ·exact ljprojs_2 d f lS lT tS (fun Q g=>tT ⟨Q,g⟩) w
  ·exact ljprojs_1 d f lS lT (fun Q g=>tS ⟨Q,g⟩) w
 ·exact ljprojs_0 id (by omega) S T w
end
end
end Go.Proofs.YtffhepbppiocbabGreat