import Derived.Test.YtghidgcekieljaaGreatXAQG
import Derived.Test.YtghidgcekieljaaGreatXALQTn
import Derived.Test.YtghidgcekieljaaGreatXACT
namespace Go.Proofs.YtghidgcekieljaaGreat
open Go.RowKit Go.Proofs.Tryz
set_option maxRecDepth 100000
set_option maxHeartbeats 8000000
section
attribute [local go_sem ↓] uz1
attribute [local go_sem] uz2
section
attribute [local go_sem] uz8
attribute [local go_sem ↓] uz17 Go.wp_at_zero Go.wp_at_succ
attribute [local go_sem] uz18
theorem tiny_inv:∀i,i<3→∀t,t<201→t=0∨t*(t^(oN (13+i)-2)%oN (13+i))%oN (13+i)=1:=by decide +kernel
theorem twQ_ml{k:Nat}(h1:1≤k)(h2:k≤15){t:Nat}{P:Q3}(hP:mlQ k t (gQ k)=P)(u v:Nat):twQ k P u v=mlQ k (u+v*t) (gQ k):=by
 rw[twQ,←hP,←mlQ_mul h1 h2 _ _ (gQ_on h1 h2),←mlQ_add h1 h2 _ _ (gQ_on h1 h2)]
theorem tiny_root{k t u:Nat}(h1:13≤k)(h2:k≤15)(t0:0<t)(t1:t<201)(hu:u<oN k):∃v,v<oN k∧∀j,j<oN k→((u+j*t)%oN k=0↔j=v):=by
 obtain⟨i,rfl⟩:∃i,k=13+i:=⟨k-13,by omega⟩;have h:=(tiny_inv i (by omega) t t1).resolve_left (by omega);obtain⟨s,hs⟩:=exl (t^(oN (13+i)-2)%oN (13+i));rw[hs]at h;obtain⟨N,hN⟩:=exl (oN (13+i));rw[hN]at h hu ⊢
 have n0:0<N:=by omega
 have key:∀a,a*t*s%N=a%N:=fun a=>by rw[Nat.mul_assoc,Nat.mul_mod,h,Nat.mul_one,Nat.mod_mod]
 refine⟨(N-u)*s%N,Nat.mod_lt _ n0,fun j hj=>⟨fun e=>?_,fun e=>?_⟩⟩
 ·have e2:j*t%N=(N-u)%N:=by
   have e3:(j*t%N+u)%N=0:=by rw[Nat.mod_add_mod,Nat.add_comm];exact e
   have:=Nat.mod_lt (j*t) n0
   by_cases hz:u=0
   ·subst hz;rw[Nat.add_zero,Nat.mod_mod]at e3;rw[e3,Nat.sub_zero,Nat.mod_self]
   ·rw[Nat.mod_eq_of_lt (a:=N-u) (by omega)]
    by_cases hl:j*t%N+u<N
    ·rw[Nat.mod_eq_of_lt hl]at e3
     omega
    ·rw[Nat.mod_eq_sub_mod (by omega),Nat.mod_eq_of_lt (by omega)]at e3
     omega
  rw[Nat.mul_mod,←e2,←Nat.mul_mod,key,Nat.mod_eq_of_lt hj]
 ·subst e
  have e2:(N-u)*s%N*t%N=(N-u)%N:=by rw[Nat.mod_mul_mod,Nat.mul_right_comm,key]
  rw[Nat.add_mod,e2,←Nat.add_mod,show u+(N-u)=N by omega,Nat.mod_self]
attribute [local go_sem ↓] bslU_is
theorem lstiny_any(id:Int)(n1 n3:Nat)(bn1:n1<18446744073709551616)(bn3:n3<18446744073709551616)(w:World):Cg 6 #[.int .i64 id,.int .u64 (n1:Int),.int .u64 (n3:Int)] w (.bool true):=by
 obtain⟨u,hu,hu2,hk⟩:=idxT_conv id;have hbd:=idxT_bd id;obtain⟨k,hkk⟩:=exl (idxT id);rw[hkk]at hk hbd;obtain⟨h13,h2⟩:=hbd
 have h1:1≤k:=by omega
 have u0:(0:Int)≤(u:Int):=by omega
 have hk2:(13:Int)+(u:Int)%3=(k:Int):=by omega
 have hk3:IntKind.i64.wrap ((u:Int)%3)=(u:Int)%3:=by rw[IntKind.wrap_i64];omega
 have hk4:IntKind.u64.wrap ((u:Int)%3)=(u:Int)%3:=by rw[IntKind.wrap_u64];omega
 have hk5:(u:Int).tmod 3=(u:Int)%3:=by rw[Int.tmod_eq_emod_of_nonneg (by omega)]
 have k0:(1:Int)≤(k:Int):=by omega
 have k1:(k:Int)≤15:=by omega
 have hu3:id%18446744073709551616=(u:Int):=by rw[←hu,IntKind.wrap_u64]
 clear hkk hk;have HGR:Hid (∀w,Calls prog 7 #[.int .i64 (k:Int)] w (GetQ k w)):=fun w=>getq_yes k h1 h2 w;have HAW:Hid (∀w,Cg 12 #[] w (.bool true)):=fun w=>awake20_any w
 go_enter func6,ntmps6
 go_upto_region 6 with (first
  | (go_at_call 12;refine(HAW.out _).mono ?_;rintro e WA ⟨rfl,GA⟩)
  | (go_at_call 7;refine(HGR.out _).mono ?_;rintro e WB ⟨qc,rfl,HQ,GB⟩))
 obtain⟨e9,he9⟩:=exl (WB.heap.size);simp only[he9]
 refine gen_w (fun v=>Gr w v∧Vr v e9 (crA (k:Int) (nN k) qc)∧(∀j,Sl v (qc j).1 (nN k j))) ?_ ?_
 ·subst he9;have g1:Gr WB (WB.alloc (.cells (crA (k:Int) (nN k) qc) 31)):=(Gr.refl _).alloc _;exact⟨(GA.trans GB).trans g1,Vr.new _ _ _,fun j=>(HQ j).gr g1⟩
 clear he9 GA GB HQ HAW HGR hu hu2 hk2 hk3 hk4 hk5 hu3 u0 k0 k1;rintro v0 ⟨G,c9,HQ⟩;obtain⟨m,hm⟩:=exl (oN k);have hb:=tinyP k h13 h2;rw[hm]at hb;have hdl1:dl (oN k)=1:=tiny_dl k h13 h2;obtain⟨bp,hq3,-,hb3⟩:=HQ 3 0 (by show 0<dl (oN k);rw[hdl1];decide)
 have hbc:v0.cell? ⟨bp,0,none⟩=some (.int .u32 (m:Int)):=by
  rw[cell_blk,hb3]
  show some (Value.int .u32 ((dg (oN k) 0:Nat):Int))=_
  rw[hm,show dg m 0=m by unfold dg;rw[pq_zero,Nat.div_one];exact Nat.mod_eq_of_lt (by omega)]
 have k4:v0.cell? ⟨e9,4,none⟩=some (.slice (some ⟨bp,0,none⟩) 1 (qc 3).2):=by
  rw[c9.cell,←hq3,←hdl1];rfl
 have m1:(200:Int)≤(m:Int):=by omega
 have m2:(m:Int)≤255:=by omega
 have m0:¬m=0:=by omega
 go_upto_region 7 with fail
 clear k4 hbc hb3 hq3;obtain⟨r1,hr1⟩:=exl (n1%200)
 have q1:(n1:Int).tmod 200=(r1:Int):=by rw[Int.tmod_eq_emod_of_nonneg (by omega)];omega
 have q2:IntKind.u32.wrap (r1:Int)=(r1:Int):=wrap_u32 _ (by omega) (by omega);obtain⟨n2,hn2⟩:=exl (1+r1);have q3:IntKind.u32.wrap (1+(r1:Int))=(n2:Int):=(wrap_u32 _ (by omega) (by omega)).trans (by omega);have hdn2:dl n2=1:=dl_small (by omega) (by omega)
 have hd:dl n2≤400:=by omega
 have hlt2:n2<pq 1:=by rw[show pq 1=4294967296 by decide +kernel];omega
 have hbs:=fun w=>buildU n2 (by omega) w;obtain⟨u1,hu1⟩:=exl (n3%m)
 have q4:(n3:Int).tmod (m:Int)=(u1:Int):=by rw[Int.tmod_eq_emod_of_nonneg (by omega)];omega
 have lu:u1<m:=hu1▸Nat.mod_lt _ (by omega)
 have bu:u1<18446744073709551616:=by omega
 obtain⟨P,hP⟩:=exl (mlQ k n2 (gQ k));have oP:OnQ k P:=hP▸mlQ_on h1 h2 _ (gQ_on h1 h2);obtain⟨vz,lv,hv⟩:=tiny_root h13 h2 (t:=n2) (u:=u1) (by omega) (by omega) (by omega);rw[hm]at lv hv;refine wp_v true [.c (.agg (crA (k:Int) (nN k) qc)),.c (.int .u64 (n1:Int)),.c (.int .u64 (r1:Int)),.c (.int .u32 (r1:Int)),.c (.int .u32 (n2:Int)),.n (n2),.c (.agg (crA (k:Int) (nN k) qc)),.pt (xN k) (yN k) false,.pt (P.1) (P.2.1) P.2.2,.c (.agg (pnt P.1 P.2.1 P.2.2)),.a,.u] [0,2,3,4,5,6,7,8,9] [⟨10,11,27,pnt 0 0 false,fun _=>pnt P.1 P.2.1 P.2.2⟩] ⟨.g 31 0 c9 rfl,.s (.binOp .rem 22 (.const (.int .u64 (n1:Int))) (.const (.int .u64 200)) 22) rfl fun vv hg=>by simp[go_sem,exI,q1],.s (.convert 22 61 (.const (.int .u64 (r1:Int)))) rfl fun vv hg=>by simp[go_sem,exI,q2],.s (.binOp .add 61 (.const (.int .u32 1)) (.const (.int .u32 (r1:Int))) 61) rfl fun vv hg=>by simp[go_sem,exI,q3],.b (.buildSlice 28 1 #[(0,.const (.int .u32 (n2:Int)))]) rfl hdn2 (fun vv=>by simp[go_sem,exI,hbs]) (sl_lit n2 hlt2),.g 31 0 c9 rfl,.k _ fun yy vv hg hh=>RtW.of_pt (rg_any qc _ (fun j=>(HQ j).gr hg)),.k (fun yy =>#[.agg (crA (k:Int) (nN k) qc),.slice (yy 5 0).1 (dl (n2)) (yy 5 0).2,.agg (ptA (yy 7 0).1 (xN k) (yy 7 0).2 (yy 7 1).1 (yN k) (yy 7 1).2 false)]) fun yy vv hg hh=>RtW.of_pt (hP▸rtimesQ k h1 h2 qc (gQ_on h1 h2) hd (fun j=>(HQ j).gr hg) (hh 5 rfl) (hh 7 rfl).1 (hh 7 rfl).2),.k (fun yy =>#[.agg (ptA (yy 8 0).1 (P.1) (yy 8 0).2 (yy 8 1).1 (P.2.1) (yy 8 1).2 P.2.2)]) fun yy vv hg hh=>RtW.of_c (Rt.c (rout_any _ _ _ _ _ _ _ _ (hh 8 rfl).1 (hh 8 rfl).2)),⟨⟩⟩ ⟨.k zPnt ⟨fkc,fkc,fkc,fkc,fkc,fkn bPnt,fkc,fkp bPnt,fkp bPnt,fkc,fka,fku,trivial⟩,⟨⟩⟩ fun yw7 v1 hg h7 hV7=>?_;simp only[fzw,Kw.a];obtain⟨⟨N7_10,V7_10⟩,-⟩:(v0.heap.size≤(yw7 10 0).2∧Vr v1 (yw7 10 0).2 (pnt P.1 P.2.1 P.2.2))∧True:=hV7;clear h7;replace G:=G.trans hg;replace c9:=c9.gr hg;replace HQ:=fun k=>(HQ k).gr hg;clear hg;generalize (yw7 10 0).2=e10 at *;have HV:Hid (Gr w v1∧Vr v1 e9 (crA (k:Int) (nN k) qc)∧(∀j,Sl v1 (qc j).1 (nN k j))∧Vr v1 e10 (pnt P.1 P.2.1 P.2.2)):=⟨G,c9,HQ,V7_10⟩;clear G c9 HQ V7_10 hdn2 hbs hlt2 hd
 go_wp2_with fail
 go_loopw [11,12] (fun la ia wr=>∃j c:Nat,la=.int .i64 (c:Int)∧ia=.int .u64 (j:Int)∧Hu (j≤m)∧Hu (c=if vz<j then 1 else 0)∧Hid (Gr w wr∧Vr wr e9 (crA (k:Int) (nN k) qc)∧(∀j,Sl wr (qc j).1 (nN k j))∧Vr wr e10 (pnt P.1 P.2.1 P.2.2))) (fun _ ia _=>((m:Int)+10-intOf ia).toNat)
 case atStart=>exact⟨0,0,rfl,rfl,fun _=>Nat.zero_le _,fun _=>(if_neg (Nat.not_lt_zero _)).symm,HV⟩
 case round=>
  clear HV;obtain⟨j,c,rfl,rfl,HJ,hc,HV⟩:=hrel
  have j0:(0:Int)≤(j:Int):=by omega
  obtain⟨G,c9,HQ,c10⟩:=HV.out;clear HV;replace hc:=hc.out ()
  by_cases hlt:j<m
  ·have j1:(j:Int)<(m:Int):=by omega
   have bj:j<18446744073709551616:=by omega
   obtain⟨f,hf⟩:=exl (decide (j=vz))
   obtain⟨X,Y,HD⟩:∃X Y,Hid (∀w,Cg 8 #[.int .i64 (k:Int),.agg (nw 9 u1),.agg (nw 9 j),.agg (pnt P.1 P.2.1 P.2.2)] w (.tuple #[.agg (pnt X Y f),.int .i64 0])):=by
    obtain⟨R,hR⟩:=exl (twQ k P u1 j)
    have hi:R.2.2=f:=by
     rw[←hR,twQ_ml h1 h2 hP,←mlQ_mod h1 h2,←hf,hm]
     by_cases e:j=vz
     ·rw[(hv j hlt).2 e,mlQ_zero h1 h2,decide_eq_true e];rfl
     ·have e0:(u1+j*n2)%m≠0:=fun h=>e ((hv j hlt).1 h);rw[walk_ne h13 h2 _ (by omega) (hm▸Nat.mod_lt _ (by omega)),decide_eq_false e]
    have e:pnQ R=pnt R.1 R.2.1 f:=congrArg (pnt R.1 R.2.1) hi;refine⟨R.1,R.2.1,fun w=>?_⟩;have h:=dmul_yes h1 h2 oP (show u1<oN k by omega) (show j<oN k by omega) hR w;rw[e]at h;exact h
   have cb:(c:Int)≤1:=by rw[hc];split <;> decide
   clear HJ
   go_upto_region 12 with fail
   refine wp_v true [.c (pv e9 0),.c (.int .i64 (k:Int)),.c (.int .u64 (n3:Int)),.c (.int .u64 (m:Int)),.c (.int .u64 (u1:Int)),.N u1,.c (.int .u64 (j:Int)),.N j,.c (.agg (pnt P.1 P.2.1 P.2.2)),.c (.tuple #[.agg (pnt X Y f),.int .i64 0]),.c (.tuple #[.agg (pnt X Y f),.int .i64 0]),.c (.agg (pnt X Y f)),.O,.a,.u,.O] [1,4,5,7,8,9] [⟨13,14,27,pnt 0 0 false,fun _=>pnt X Y f⟩] ⟨.o 3 0 c9 rfl rfl,.s (.binOp .rem 22 (.const (.int .u64 (n3:Int))) (.const (.int .u64 (m:Int))) 22) rfl fun vv hg=>by simp[go_sem,exI,m0,q4],.z (one_any _ bu),.z (one_any _ bj),.g 27 0 c10 rfl,.z HD.out,⟨⟩⟩ ⟨.k zPnt (.t rfl),⟨⟩⟩ fun yw12 v2 hg h12 hV12=>?_;simp only[fzw,Kw.a];obtain⟨⟨N12_13,V12_13⟩,-⟩:(wr.heap.size≤(yw12 13 0).2∧Vr v2 (yw12 13 0).2 (pnt X Y f))∧True:=hV12;clear h12;replace G:=G.trans hg;replace c9:=c9.gr hg;replace c10:=c10.gr hg;replace HQ:=fun k=>(HQ k).gr hg;clear hg
   go_upto_region 13 with fail
   refine wp_wS [.O,.O,.F] [1] ⟨.y (num_any _),⟨⟩⟩ fun yw13 v3 hg h13=>?_;simp only[fzw];clear h13;replace G:=G.trans hg;replace c9:=c9.gr hg;replace c10:=c10.gr hg;replace V12_13:=V12_13.gr hg;replace HQ:=fun k=>(HQ k).gr hg;clear hg
   go_upto_region 15 with fail
   refine wp_wS [.c (pv ((yw12 13 0).2) 18),.c (.bool f)] [1] ⟨.o 4 18 V12_13 rfl (by exact pnt_18 _ _ _),⟨⟩⟩ fun yw15 v4 hg h15=>?_;simp only[fzw];clear h15;replace G:=G.trans hg;replace c9:=c9.gr hg;replace c10:=c10.gr hg;replace V12_13:=V12_13.gr hg;replace HQ:=fun k=>(HQ k).gr hg;clear hg
   cases f with
   | false=>
    have HC:Hu (c=if vz<j+1 then 1 else 0):=fun _=>by
     have e:=of_decide_eq_false hf;rw[hc]
     by_cases h:vz<j
     ·rw[if_pos h,if_pos (by omega)]
     ·rw[if_neg h,if_neg (by omega)]
    clear hc hf hv cb
    go_wp2_with fail
    go_roundw
    case rel=>exact⟨j+1,c,rfl,by go_num,fun _=>hlt,HC,G,c9,HQ,c10⟩
    case measure=>simp[intOf];omega
   | true=>
    have e:=of_decide_eq_true hf;obtain rfl:c=0:=hc.trans (if_neg (by omega));have HC:Hu (1=if vz<j+1 then 1 else 0):=fun _=>(if_pos (by omega)).symm;clear hc hf hv cb e
    go_wp2_with fail
    go_roundw
    case rel=>exact⟨j+1,1,by go_num,by go_num,fun _=>hlt,HC,G,c9,HQ,c10⟩
    case measure=>simp[intOf];omega
  ·have j1:¬(j:Int)<(m:Int):=by omega
   obtain rfl:c=1:=hc.trans (if_pos (by have:=HJ.out ();omega));clear HJ hlt hc
   go_upto_region 17 with fail
   refine wp_wS [.c (.int .i64 ((1:Nat):Int)),.T,.T] [1] ⟨.s (.binOp .eql 3 (.const (.int .i64 ((1:Nat):Int))) (.const (.int .i64 1)) 3) rfl fun vv hg=>by simp[go_sem,exI],⟨⟩⟩ fun yw17 v2 hg h17=>?_;simp only[fzw];clear h17;replace G:=G.trans hg;replace c9:=c9.gr hg;replace c10:=c10.gr hg;replace HQ:=fun k=>(HQ k).gr hg;clear hg
   go_wp2_with fail
   go_ret
   exact⟨rfl,G⟩
end
end
end Go.Proofs.YtghidgcekieljaaGreat