import Derived.Test.YtghidgcekieljaaGreatXART
namespace Go.Proofs.YtghidgcekieljaaGreat
open Go.RowKit Go.Proofs.Tryz
set_option maxRecDepth 100000
set_option maxHeartbeats 8000000
section
attribute [local go_sem ↓] uz1
attribute [local go_sem] uz2
section
attribute [local go_sem] uz8
attribute [local go_sem ↓] uz11 Go.wp_at_zero Go.wp_at_succ
attribute [local go_sem] uz12
def cTl:Code→Code
 | .seq _ b=>b
 | c=>c
def cHd:Code→Code
 | .seq a _=>a
 | c=>c
theorem jadd_end{k:Nat}(h1:1≤k)(h2:k≤15){N X Y:Nat}{s z:Int}{l:Bool}{A B:Fin (pN k)}{xy yz mi pl st fl r1 r2 X3 r3 r4 Y3 r5 r6 Z3:Fin (pN k)}(er1:xy*mi=r1)(er2:yz*fl=r2)(eX3:r1-r2=X3)(er3:pl*mi=r3)(er4:st*fl=r4)(eY3:r3+r4=Y3)(er5:yz*pl=r5)(er6:xy*st=r6)(eZ3:r5+r6=Z3){b0 b1 b2 b3 b4 b5 b6 b7:Nat}{t0 t1 t2 t4 t5 t7 t8 t9 t10 t12 t14 t15 t20 t21 t22 t23 t24 t25 t26 t27 t28 t29 t30 t31 t32 t33 t34 t35 t36 t37 t38 t39 t40 t41 t42 t43 t44 t45 t46 t47 t48 t49 t50 t51 t52 t53 t54 t55 t56 t57 t58 t59 t60 t61 t62 t63 t64 t65 t66 t67 t68 t69 t70 t71 t72 t73 t74 t75 t76 t77 t78 t79 t80 t81 t82 t83 t84 t85 t86 t87 t88 t89 t90 t91 t92 t93 t94 t95 t96 t97 t98 t99 t100 t101 t102 t103 t104 t105 t106 t107 t108 t109 t110 t111 t112 t113 t114 t115 t116 t117 t118 t119 t120 t121 t122 t123 t124 t125 t126 t127 t128 t129 t130 t131 t132 t133 t134 t135 t136 t137 t138 t139 t140 t141 t142 t143 t144 t145 t146 t147 t148 t149 t150 t151 t152 t153 t154 t155 t156 t157 t158 t159 t160 t161 t162 t163 t164 t165 t166 t167 t168 t169 t170 t171 t172 t173 t174 t175 t176 t177 t178 t179 t180 t181 t182 t183 t184 t185 t186 t187 t188 t189 t190 t191 t192 t193 t194 t195 t196 t197 t198:Value}{v:World}{Q:Exit→Act→World→Prop}(c0:Vr v b0 (cu (k:Int) (pN k) A.val B.val N X Y s z l))(c6:Vr v b6 (prj 0 0 0))(Vb1:Vr v b1 (nw 9 xy.val))(Vb2:Vr v b2 (nw 9 yz.val))(Vb3:Vr v b3 (nw 9 mi.val))(Vb4:Vr v b4 (nw 9 pl.val))(Vb5:Vr v b5 (nw 9 st.val))(Vb7:Vr v b7 (nw 9 fl.val))(hQ:∀(a:Act) (v':World),a.tmps.getD 6 undef=.pointer (some ⟨b6,0,none⟩)→a.defers=[]→Gr v v'→blk v' b6=prj 0 0 0→Q .normal a (setBlk v' b6 (prj X3.val Y3.val Z3.val))):
 Code.wp prog (cHd (cTl (cTl (cTl (cTl (cTl (cTl (cTl (cTl (cTl (cTl (cTl (Tryz.f83.body.getD .ret))))))))))))) Q ⟨#[t0,t1,t2,.pointer (some ⟨b0,0,none⟩),t4,t5,.pointer (some ⟨b6,0,none⟩),t7,t8,t9,t10,.pointer (some ⟨b1,0,none⟩),t12,.pointer (some ⟨b2,0,none⟩),t14,t15,.pointer (some ⟨b3,0,none⟩),.pointer (some ⟨b4,0,none⟩),.pointer (some ⟨b5,0,none⟩),.pointer (some ⟨b7,0,none⟩),t20,t21,t22,t23,t24,t25,t26,t27,t28,t29,t30,t31,t32,t33,t34,t35,t36,t37,t38,t39,t40,t41,t42,t43,t44,t45,t46,t47,t48,t49,t50,t51,t52,t53,t54,t55,t56,t57,t58,t59,t60,t61,t62,t63,t64,t65,t66,t67,t68,t69,t70,t71,t72,t73,t74,t75,t76,t77,t78,t79,t80,t81,t82,t83,t84,t85,t86,t87,t88,t89,t90,t91,t92,t93,t94,t95,t96,t97,t98,t99,t100,t101,t102,t103,t104,t105,t106,t107,t108,t109,t110,t111,t112,t113,t114,t115,t116,t117,t118,t119,t120,t121,t122,t123,t124,t125,t126,t127,t128,t129,t130,t131,t132,t133,t134,t135,t136,t137,t138,t139,t140,t141,t142,t143,t144,t145,t146,t147,t148,t149,t150,t151,t152,t153,t154,t155,t156,t157,t158,t159,t160,t161,t162,t163,t164,t165,t166,t167,t168,t169,t170,t171,t172,t173,t174,t175,t176,t177,t178,t179,t180,t181,t182,t183,t184,t185,t186,t187,t188,t189,t190,t191,t192,t193,t194,t195,t196,t197,t198],[]⟩ v:=by
 have Jd:=@jd k h1 h2 (pN k) A.val B.val N X Y s z l;have Jp1:=@jp1 k h1 h2 (pN k) A.val B.val N X Y s z l;have Js1:=@js1 k h1 h2 (pN k) A.val B.val N X Y s z l
 conv=>arg 2;whnf
 have G:=Gr.refl v;refine wp_wT 39 [.c (.agg (cu (k:Int) (pN k) A.val B.val N X Y s z l)),.c (.agg (cu (k:Int) (pN k) A.val B.val N X Y s z l)),.N xy.val,.N mi.val,.r 1 (nw 9 mi.val),.N r1.val,.c (.agg (cu (k:Int) (pN k) A.val B.val N X Y s z l)),.N yz.val,.N fl.val,.r 1 (nw 9 fl.val),.N r2.val,.N X3.val,.c (.agg (cu (k:Int) (pN k) A.val B.val N X Y s z l)),.c (.agg (cu (k:Int) (pN k) A.val B.val N X Y s z l)),.N pl.val,.N mi.val,.r 1 (nw 9 mi.val),.N r3.val,.c (.agg (cu (k:Int) (pN k) A.val B.val N X Y s z l)),.N st.val,.N fl.val,.r 1 (nw 9 fl.val),.N r4.val,.r 1 (nw 9 r4.val),.N Y3.val,.c (.agg (cu (k:Int) (pN k) A.val B.val N X Y s z l)),.c (.agg (cu (k:Int) (pN k) A.val B.val N X Y s z l)),.N yz.val,.N pl.val,.r 1 (nw 9 pl.val),.N r5.val,.c (.agg (cu (k:Int) (pN k) A.val B.val N X Y s z l)),.N xy.val,.N st.val,.r 1 (nw 9 st.val),.N r6.val,.r 1 (nw 9 r6.val),.N Z3.val,.c (.agg (prj X3.val Y3.val Z3.val))] [0,1,2,3,4,5,6,7,8,9,10,11,12,13,14,15,16,17,18,19,20,21,22,23,24,25,26,27,28,29,30,31,32,33,34,35,36,37] ?hs27 ?hf27
 case hs27=>
  exact⟨.g 141 0 c0 rfl,.g 141 0 c0 rfl,.g 25 0 Vb1 rfl,.g 25 0 Vb3 rfl,.r (.buildSlice 185 1 #[(0,.const (.agg (nw 9 mi.val)))]) rfl (rowN1 _),.k _ fun yy vv hg hh=>RtW.of_c (Rt.c (Jp1 er1 (hh 4 rfl))),.g 141 0 c0 rfl,.g 25 0 Vb2 rfl,.g 25 0 Vb7 rfl,.r (.buildSlice 185 1 #[(0,.const (.agg (nw 9 fl.val)))]) rfl (rowN1 _),.k _ fun yy vv hg hh=>RtW.of_c (Rt.c (Jp1 er2 (hh 9 rfl))),.z (Jd eX3),.g 141 0 c0 rfl,.g 141 0 c0 rfl,.g 25 0 Vb4 rfl,.g 25 0 Vb3 rfl,.r (.buildSlice 185 1 #[(0,.const (.agg (nw 9 mi.val)))]) rfl (rowN1 _),.k _ fun yy vv hg hh=>RtW.of_c (Rt.c (Jp1 er3 (hh 16 rfl))),.g 141 0 c0 rfl,.g 25 0 Vb5 rfl,.g 25 0 Vb7 rfl,.r (.buildSlice 185 1 #[(0,.const (.agg (nw 9 fl.val)))]) rfl (rowN1 _),.k _ fun yy vv hg hh=>RtW.of_c (Rt.c (Jp1 er4 (hh 21 rfl))),.r (.buildSlice 185 1 #[(0,.const (.agg (nw 9 r4.val)))]) rfl (rowN1 _),.k _ fun yy vv hg hh=>RtW.of_c (Rt.c (Js1 eY3 (hh 23 rfl))),.g 141 0 c0 rfl,.g 141 0 c0 rfl,.g 25 0 Vb2 rfl,.g 25 0 Vb4 rfl,.r (.buildSlice 185 1 #[(0,.const (.agg (nw 9 pl.val)))]) rfl (rowN1 _),.k _ fun yy vv hg hh=>RtW.of_c (Rt.c (Jp1 er5 (hh 29 rfl))),.g 141 0 c0 rfl,.g 25 0 Vb1 rfl,.g 25 0 Vb5 rfl,.r (.buildSlice 185 1 #[(0,.const (.agg (nw 9 st.val)))]) rfl (rowN1 _),.k _ fun yy vv hg hh=>RtW.of_c (Rt.c (Jp1 er6 (hh 34 rfl))),.r (.buildSlice 185 1 #[(0,.const (.agg (nw 9 r6.val)))]) rfl (rowN1 _),.k _ fun yy vv hg hh=>RtW.of_c (Rt.c (Js1 eZ3 (hh 36 rfl))),⟨⟩⟩
 refine .s 74 (fun yy=>.pointer (some ⟨b6,0,none⟩)) (fun yy=>.agg (prj X3.val Y3.val Z3.val)) fun yw11 v1 hg h11=>?_;have HT:=(c6.gr hg).h;have FT:=(c6.gr hg).f;refine⟨setBlk v1 (b6) (prj X3.val Y3.val Z3.val),by simp[go_sem,exI,HT,FT],?_⟩;simp only[fzw,Kw.r];clear h11;replace G:=G.trans hg;replace c0:=c0.gr hg;replace c6:=c6.gr hg;replace Vb1:=Vb1.gr hg;replace Vb2:=Vb2.gr hg;replace Vb3:=Vb3.gr hg;replace Vb4:=Vb4.gr hg;replace Vb5:=Vb5.gr hg;replace Vb7:=Vb7.gr hg;clear hg;exact hQ _ _ rfl rfl G HT
theorem jadd_of{k:Nat}(h1:1≤k)(h2:k≤15){N X Y:Nat}{s z:Int}{l:Bool}{A B:Fin (pN k)}{X1 Y1 Z1 X2 Y2 Z2:Fin (pN k)}{b3 xx yv zz p1 p2 xy p3 p4 xz p5 p6 yz az p7 p8 pa mi pl st d1 p9 pt fl r1 r2 X3 r3 r4 Y3 r5 r6 Z3:Fin (pN k)}(eb3:B+B+B=b3)(exx:X1*X2=xx)(eyv:Y1*Y2=yv)(ezz:Z1*Z2=zz)(ep1:X1*Y2=p1)(ep2:X2*Y1=p2)(exy:p1+p2=xy)(ep3:X1*Z2=p3)(ep4:X2*Z1=p4)(exz:p3+p4=xz)(ep5:Y1*Z2=p5)(ep6:Y2*Z1=p6)(eyz:p5+p6=yz)(eaz:A*zz=az)(ep7:A*xz=p7)(ep8:b3*zz=p8)(epa:p7+p8=pa)(emi:yv-pa=mi)(epl:yv+pa=pl)(est:xx+xx+xx+az=st)(ed1:xx-az=d1)(ep9:A*d1=p9)(ept:b3*xz=pt)(efl:p9+pt=fl)(er1:xy*mi=r1)(er2:yz*fl=r2)(eX3:r1-r2=X3)(er3:pl*mi=r3)(er4:st*fl=r4)(eY3:r3+r4=Y3)(er5:yz*pl=r5)(er6:xy*st=r6)(eZ3:r5+r6=Z3)(w:World):
 Cg 83 #[.agg (cu (k:Int) (pN k) A.val B.val N X Y s z l),.agg (prj X1.val Y1.val Z1.val),.agg (prj X2.val Y2.val Z2.val)] w (.agg (prj X3.val Y3.val Z3.val)):=by
 have Jd:=@jd k h1 h2 (pN k) A.val B.val N X Y s z l;have Jp1:=@jp1 k h1 h2 (pN k) A.val B.val N X Y s z l;have Js1:=@js1 k h1 h2 (pN k) A.val B.val N X Y s z l;have Js2:=@js2 k h1 h2 (pN k) A.val B.val N X Y s z l;have Js3:=@js3 k h1 h2 (pN k) A.val B.val N X Y s z l
 go_enter func83,ntmps83
 go_upto_region 1 with fail
 refine gen_w (fun v=>Hid (Gr w v∧Vr v (w.heap.size) (cu (k:Int) (pN k) A.val B.val N X Y s z l)∧Vr v (w.heap.size+1) (prj X1.val Y1.val Z1.val)∧Vr v (w.heap.size+1+1) (prj X2.val Y2.val Z2.val)∧Vr v (w.heap.size+1+1+1) (prj 0 0 0))) ⟨grA,vrA,vrA,vrA,vrA⟩ ?_;intro v0 HV;obtain⟨G,c0,c1,c2,c3⟩:=HV.out;clear HV;refine wp_v false [.c (.agg (cu (k:Int) (pN k) A.val B.val N X Y s z l)),.c (pv (w.heap.size) 0),.c (pv (w.heap.size) 19),.N B.val,.c (pv (w.heap.size) 0),.c (pv (w.heap.size) 19),.N B.val,.c (pv (w.heap.size) 0),.c (pv (w.heap.size) 19),.N B.val,.r 2 (nw 9 B.val++nw 9 B.val),.N b3.val,.a,.u] [0,3,6,9,10,11] [⟨12,13,25,nw 9 0,fun _=>nw 9 b3.val⟩] ⟨.g 141 0 c0 rfl,.g 25 19 c0 rfl,.g 25 19 c0 rfl,.g 25 19 c0 rfl,.r (.buildSlice 185 2 #[(0,.const (.agg (nw 9 B.val))),(1,.const (.agg (nw 9 B.val)))]) rfl (rowN2 _ _),.k _ fun yy vv hg hh=>RtW.of_c (Rt.c (Js2 eb3 (hh 10 rfl))),⟨⟩⟩ ⟨.k zNat ⟨fkc,fkc,fkc,fkc,fkc,fkc,fkc,fkc,fkc,fkc,fkr (by simp[nw_size]),fkc,fka,fku,trivial⟩,⟨⟩⟩ fun yw1 v1 hg h1 hV1=>?_;simp only[fzw,Kw.a,Kw.r];obtain⟨⟨N1_12,V1_12⟩,-⟩:(v0.heap.size≤(yw1 12 0).2∧Vr v1 (yw1 12 0).2 (nw 9 b3.val))∧True:=hV1;clear h1;have g1:=hg;clear hg
 go_upto_region 2 with fail
 refine wp_y true [.c (.agg (cu (k:Int) (pN k) A.val B.val N X Y s z l)),.c (pv (w.heap.size+1) 0),.N X1.val,.c (pv (w.heap.size+1+1) 0),.N X2.val,.r 1 (nw 9 X2.val),.N xx.val,.c (.agg (cu (k:Int) (pN k) A.val B.val N X Y s z l)),.c (pv (w.heap.size+1) 9),.N Y1.val,.c (pv (w.heap.size+1+1) 9),.N Y2.val,.r 1 (nw 9 Y2.val),.N yv.val,.c (.agg (cu (k:Int) (pN k) A.val B.val N X Y s z l)),.c (pv (w.heap.size+1) 18),.N Z1.val,.c (pv (w.heap.size+1+1) 18),.N Z2.val,.r 1 (nw 9 Z2.val),.N zz.val,.a,.a,.a,.u,.u,.u] [0,2,4,6,7,9,11,13,14,16,18,20] [5,12,19] [⟨21,24,25,nw 9 0,fun _=>nw 9 xx.val⟩,⟨22,25,25,nw 9 0,fun _=>nw 9 yv.val⟩,⟨23,26,25,nw 9 0,fun _=>nw 9 zz.val⟩] ⟨.g 141 0 (c0.gr g1) rfl,.g 25 0 (c1.gr g1) rfl,.g 25 0 (c2.gr g1) rfl,.k _ fun yy vv hg hh=>RtW.of_c (Rt.c (Jp1 exx (hh 5 rfl))),.g 141 0 (c0.gr g1) rfl,.g 25 9 (c1.gr g1) rfl,.g 25 9 (c2.gr g1) rfl,.k _ fun yy vv hg hh=>RtW.of_c (Rt.c (Jp1 eyv (hh 12 rfl))),.g 141 0 (c0.gr g1) rfl,.g 25 18 (c1.gr g1) rfl,.g 25 18 (c2.gr g1) rfl,.k _ fun yy vv hg hh=>RtW.of_c (Rt.c (Jp1 ezz (hh 19 rfl))),⟨⟩⟩ ⟨.r (.buildSlice 185 1 #[(0,.const (.agg (nw 9 X2.val)))]) rfl (rowN1 _),.r (.buildSlice 185 1 #[(0,.const (.agg (nw 9 Y2.val)))]) rfl (rowN1 _),.r (.buildSlice 185 1 #[(0,.const (.agg (nw 9 Z2.val)))]) rfl (rowN1 _),⟨⟩⟩ ⟨.k zNat,.k zNat,.k zNat,⟨⟩⟩ fun yw2 v2 hg h2 hV2=>?_;simp only[fzw,Kw.a,Kw.r];obtain⟨⟨N2_21,V2_21⟩,⟨N2_22,V2_22⟩,⟨N2_23,V2_23⟩,-⟩:(v1.heap.size≤(yw2 21 0).2∧Vr v2 (yw2 21 0).2 (nw 9 xx.val))∧(v1.heap.size≤(yw2 22 0).2∧Vr v2 (yw2 22 0).2 (nw 9 yv.val))∧(v1.heap.size≤(yw2 23 0).2∧Vr v2 (yw2 23 0).2 (nw 9 zz.val))∧True:=hV2;clear h2;replace g1:=g1.trans hg;have g2:=hg;clear hg
 go_upto_region 3 with fail
 refine wp_y true [.c (.agg (cu (k:Int) (pN k) A.val B.val N X Y s z l)),.c (.agg (cu (k:Int) (pN k) A.val B.val N X Y s z l)),.c (pv (w.heap.size+1) 0),.N X1.val,.c (pv (w.heap.size+1+1) 9),.N Y2.val,.r 1 (nw 9 Y2.val),.N p1.val,.c (.agg (cu (k:Int) (pN k) A.val B.val N X Y s z l)),.c (pv (w.heap.size+1+1) 0),.N X2.val,.c (pv (w.heap.size+1) 9),.N Y1.val,.r 1 (nw 9 Y1.val),.N p2.val,.r 1 (nw 9 p2.val),.N xy.val,.a,.u] [0,1,3,5,7,8,10,12,14,16] [6,13,15] [⟨17,18,25,nw 9 0,fun _=>nw 9 xy.val⟩] ⟨.g 141 0 (c0.gr g1) rfl,.g 141 0 (c0.gr g1) rfl,.g 25 0 (c1.gr g1) rfl,.g 25 9 (c2.gr g1) rfl,.k _ fun yy vv hg hh=>RtW.of_c (Rt.c (Jp1 ep1 (hh 6 rfl))),.g 141 0 (c0.gr g1) rfl,.g 25 0 (c2.gr g1) rfl,.g 25 9 (c1.gr g1) rfl,.k _ fun yy vv hg hh=>RtW.of_c (Rt.c (Jp1 ep2 (hh 13 rfl))),.k _ fun yy vv hg hh=>RtW.of_c (Rt.c (Js1 exy (hh 15 rfl))),⟨⟩⟩ ⟨.r (.buildSlice 185 1 #[(0,.const (.agg (nw 9 Y2.val)))]) rfl (rowN1 _),.r (.buildSlice 185 1 #[(0,.const (.agg (nw 9 Y1.val)))]) rfl (rowN1 _),.r (.buildSlice 185 1 #[(0,.const (.agg (nw 9 p2.val)))]) rfl (rowN1 _),⟨⟩⟩ ⟨.k zNat,⟨⟩⟩ fun yw3 v3 hg h3 hV3=>?_;simp only[fzw,Kw.a,Kw.r];obtain⟨⟨N3_17,V3_17⟩,-⟩:(v2.heap.size≤(yw3 17 0).2∧Vr v3 (yw3 17 0).2 (nw 9 xy.val))∧True:=hV3;clear h3;replace g1:=g1.trans hg;replace g2:=g2.trans hg;have g3:=hg;clear hg
 go_upto_region 4 with fail
 refine wp_y true [.c (.agg (cu (k:Int) (pN k) A.val B.val N X Y s z l)),.c (.agg (cu (k:Int) (pN k) A.val B.val N X Y s z l)),.c (pv (w.heap.size+1) 0),.N X1.val,.c (pv (w.heap.size+1+1) 18),.N Z2.val,.r 1 (nw 9 Z2.val),.N p3.val,.c (.agg (cu (k:Int) (pN k) A.val B.val N X Y s z l)),.c (pv (w.heap.size+1+1) 0),.N X2.val,.c (pv (w.heap.size+1) 18),.N Z1.val,.r 1 (nw 9 Z1.val),.N p4.val,.r 1 (nw 9 p4.val),.N xz.val,.a,.u] [0,1,3,5,7,8,10,12,14,16] [6,13,15] [⟨17,18,25,nw 9 0,fun _=>nw 9 xz.val⟩] ⟨.g 141 0 (c0.gr g1) rfl,.g 141 0 (c0.gr g1) rfl,.g 25 0 (c1.gr g1) rfl,.g 25 18 (c2.gr g1) rfl,.k _ fun yy vv hg hh=>RtW.of_c (Rt.c (Jp1 ep3 (hh 6 rfl))),.g 141 0 (c0.gr g1) rfl,.g 25 0 (c2.gr g1) rfl,.g 25 18 (c1.gr g1) rfl,.k _ fun yy vv hg hh=>RtW.of_c (Rt.c (Jp1 ep4 (hh 13 rfl))),.k _ fun yy vv hg hh=>RtW.of_c (Rt.c (Js1 exz (hh 15 rfl))),⟨⟩⟩ ⟨.r (.buildSlice 185 1 #[(0,.const (.agg (nw 9 Z2.val)))]) rfl (rowN1 _),.r (.buildSlice 185 1 #[(0,.const (.agg (nw 9 Z1.val)))]) rfl (rowN1 _),.r (.buildSlice 185 1 #[(0,.const (.agg (nw 9 p4.val)))]) rfl (rowN1 _),⟨⟩⟩ ⟨.k zNat,⟨⟩⟩ fun yw4 v4 hg h4 hV4=>?_;simp only[fzw,Kw.a,Kw.r];obtain⟨⟨N4_17,V4_17⟩,-⟩:(v3.heap.size≤(yw4 17 0).2∧Vr v4 (yw4 17 0).2 (nw 9 xz.val))∧True:=hV4;clear h4;replace g1:=g1.trans hg;replace g2:=g2.trans hg;replace g3:=g3.trans hg;have g4:=hg;clear hg
 go_upto_region 5 with fail
 refine wp_y true [.c (.agg (cu (k:Int) (pN k) A.val B.val N X Y s z l)),.c (.agg (cu (k:Int) (pN k) A.val B.val N X Y s z l)),.c (pv (w.heap.size+1) 9),.N Y1.val,.c (pv (w.heap.size+1+1) 18),.N Z2.val,.r 1 (nw 9 Z2.val),.N p5.val,.c (.agg (cu (k:Int) (pN k) A.val B.val N X Y s z l)),.c (pv (w.heap.size+1+1) 9),.N Y2.val,.c (pv (w.heap.size+1) 18),.N Z1.val,.r 1 (nw 9 Z1.val),.N p6.val,.r 1 (nw 9 p6.val),.N yz.val,.a,.u] [0,1,3,5,7,8,10,12,14,16] [6,13,15] [⟨17,18,25,nw 9 0,fun _=>nw 9 yz.val⟩] ⟨.g 141 0 (c0.gr g1) rfl,.g 141 0 (c0.gr g1) rfl,.g 25 9 (c1.gr g1) rfl,.g 25 18 (c2.gr g1) rfl,.k _ fun yy vv hg hh=>RtW.of_c (Rt.c (Jp1 ep5 (hh 6 rfl))),.g 141 0 (c0.gr g1) rfl,.g 25 9 (c2.gr g1) rfl,.g 25 18 (c1.gr g1) rfl,.k _ fun yy vv hg hh=>RtW.of_c (Rt.c (Jp1 ep6 (hh 13 rfl))),.k _ fun yy vv hg hh=>RtW.of_c (Rt.c (Js1 eyz (hh 15 rfl))),⟨⟩⟩ ⟨.r (.buildSlice 185 1 #[(0,.const (.agg (nw 9 Z2.val)))]) rfl (rowN1 _),.r (.buildSlice 185 1 #[(0,.const (.agg (nw 9 Z1.val)))]) rfl (rowN1 _),.r (.buildSlice 185 1 #[(0,.const (.agg (nw 9 p6.val)))]) rfl (rowN1 _),⟨⟩⟩ ⟨.k zNat,⟨⟩⟩ fun yw5 v5 hg h5 hV5=>?_;simp only[fzw,Kw.a,Kw.r];obtain⟨⟨N5_17,V5_17⟩,-⟩:(v4.heap.size≤(yw5 17 0).2∧Vr v5 (yw5 17 0).2 (nw 9 yz.val))∧True:=hV5;clear h5;replace g1:=g1.trans hg;replace g2:=g2.trans hg;replace g3:=g3.trans hg;replace g4:=g4.trans hg;have g5:=hg;clear hg
 go_upto_region 6 with fail
 refine wp_y false [.c (.agg (cu (k:Int) (pN k) A.val B.val N X Y s z l)),.c (pv (w.heap.size) 0),.c (pv (w.heap.size) 10),.N A.val,.N zz.val,.r 1 (nw 9 zz.val),.N az.val,.a,.u] [0,3,4,6] [5] [⟨7,8,25,nw 9 0,fun _=>nw 9 az.val⟩] ⟨.g 141 0 (c0.gr g1) rfl,.g 25 10 (c0.gr g1) rfl,.g 25 0 (V2_23.gr g3) rfl,.k _ fun yy vv hg hh=>RtW.of_c (Rt.c (Jp1 eaz (hh 5 rfl))),⟨⟩⟩ ⟨.r (.buildSlice 185 1 #[(0,.const (.agg (nw 9 zz.val)))]) rfl (rowN1 _),⟨⟩⟩ ⟨.k zNat,⟨⟩⟩ fun yw6 v6 hg h6 hV6=>?_;simp only[fzw,Kw.a,Kw.r];obtain⟨⟨N6_7,V6_7⟩,-⟩:(v5.heap.size≤(yw6 7 0).2∧Vr v6 (yw6 7 0).2 (nw 9 az.val))∧True:=hV6;clear h6;replace g1:=g1.trans hg;replace g2:=g2.trans hg;replace g3:=g3.trans hg;replace g4:=g4.trans hg;replace g5:=g5.trans hg;have g6:=hg;clear hg
 go_upto_region 7 with fail
 refine wp_y true [.c (.agg (cu (k:Int) (pN k) A.val B.val N X Y s z l)),.c (.agg (cu (k:Int) (pN k) A.val B.val N X Y s z l)),.c (pv (w.heap.size) 0),.c (pv (w.heap.size) 10),.N A.val,.N xz.val,.r 1 (nw 9 xz.val),.N p7.val,.c (.agg (cu (k:Int) (pN k) A.val B.val N X Y s z l)),.N b3.val,.N zz.val,.r 1 (nw 9 zz.val),.N p8.val,.r 1 (nw 9 p8.val),.N pa.val,.a,.u] [0,1,4,5,7,8,9,10,12,14] [6,11,13] [⟨15,16,25,nw 9 0,fun _=>nw 9 pa.val⟩] ⟨.g 141 0 (c0.gr g1) rfl,.g 141 0 (c0.gr g1) rfl,.g 25 10 (c0.gr g1) rfl,.g 25 0 (V4_17.gr g5) rfl,.k _ fun yy vv hg hh=>RtW.of_c (Rt.c (Jp1 ep7 (hh 6 rfl))),.g 141 0 (c0.gr g1) rfl,.g 25 0 (V1_12.gr g2) rfl,.g 25 0 (V2_23.gr g3) rfl,.k _ fun yy vv hg hh=>RtW.of_c (Rt.c (Jp1 ep8 (hh 11 rfl))),.k _ fun yy vv hg hh=>RtW.of_c (Rt.c (Js1 epa (hh 13 rfl))),⟨⟩⟩ ⟨.r (.buildSlice 185 1 #[(0,.const (.agg (nw 9 xz.val)))]) rfl (rowN1 _),.r (.buildSlice 185 1 #[(0,.const (.agg (nw 9 zz.val)))]) rfl (rowN1 _),.r (.buildSlice 185 1 #[(0,.const (.agg (nw 9 p8.val)))]) rfl (rowN1 _),⟨⟩⟩ ⟨.k zNat,⟨⟩⟩ fun yw7 v7 hg h7 hV7=>?_;simp only[fzw,Kw.a,Kw.r];obtain⟨⟨N7_15,V7_15⟩,-⟩:(v6.heap.size≤(yw7 15 0).2∧Vr v7 (yw7 15 0).2 (nw 9 pa.val))∧True:=hV7;clear h7;replace g1:=g1.trans hg;replace g2:=g2.trans hg;replace g3:=g3.trans hg;replace g4:=g4.trans hg;replace g5:=g5.trans hg;replace g6:=g6.trans hg;have g7:=hg;clear hg
 go_upto_region 8 with fail
 refine wp_y true [.c (.agg (cu (k:Int) (pN k) A.val B.val N X Y s z l)),.N yv.val,.N pa.val,.N mi.val,.c (.agg (cu (k:Int) (pN k) A.val B.val N X Y s z l)),.N yv.val,.N pa.val,.r 1 (nw 9 pa.val),.N pl.val,.a,.a,.u,.u] [0,1,2,3,4,5,6,8] [7] [⟨9,11,25,nw 9 0,fun _=>nw 9 mi.val⟩,⟨10,12,25,nw 9 0,fun _=>nw 9 pl.val⟩] ⟨.g 141 0 (c0.gr g1) rfl,.g 25 0 (V2_22.gr g3) rfl,.g 25 0 V7_15 rfl,.z (Jd emi),.g 141 0 (c0.gr g1) rfl,.g 25 0 (V2_22.gr g3) rfl,.g 25 0 V7_15 rfl,.k _ fun yy vv hg hh=>RtW.of_c (Rt.c (Js1 epl (hh 7 rfl))),⟨⟩⟩ ⟨.r (.buildSlice 185 1 #[(0,.const (.agg (nw 9 pa.val)))]) rfl (rowN1 _),⟨⟩⟩ ⟨.k zNat,.k zNat,⟨⟩⟩ fun yw8 v8 hg h8 hV8=>?_;simp only[fzw,Kw.a,Kw.r];obtain⟨⟨N8_9,V8_9⟩,⟨N8_10,V8_10⟩,-⟩:(v7.heap.size≤(yw8 9 0).2∧Vr v8 (yw8 9 0).2 (nw 9 mi.val))∧(v7.heap.size≤(yw8 10 0).2∧Vr v8 (yw8 10 0).2 (nw 9 pl.val))∧True:=hV8;clear h8;replace g1:=g1.trans hg;replace g2:=g2.trans hg;replace g3:=g3.trans hg;replace g4:=g4.trans hg;replace g5:=g5.trans hg;replace g6:=g6.trans hg;replace g7:=g7.trans hg;have g8:=hg;clear hg
 go_upto_region 9 with fail
 refine wp_v false [.c (.agg (cu (k:Int) (pN k) A.val B.val N X Y s z l)),.N xx.val,.N xx.val,.N xx.val,.N az.val,.r 3 (nw 9 xx.val++nw 9 xx.val++nw 9 az.val),.N st.val,.a,.u] [0,1,2,3,4,5,6] [⟨7,8,25,nw 9 0,fun _=>nw 9 st.val⟩] ⟨.g 141 0 (c0.gr g1) rfl,.g 25 0 (V2_21.gr g3) rfl,.g 25 0 (V2_21.gr g3) rfl,.g 25 0 (V2_21.gr g3) rfl,.g 25 0 (V6_7.gr g7) rfl,.r (.buildSlice 185 3 #[(0,.const (.agg (nw 9 xx.val))),(1,.const (.agg (nw 9 xx.val))),(2,.const (.agg (nw 9 az.val)))]) rfl (rowN3 _ _ _),.k _ fun yy vv hg hh=>RtW.of_c (Rt.c (Js3 est (hh 5 rfl))),⟨⟩⟩ ⟨.k zNat ⟨fkc,fkc,fkc,fkc,fkc,fkr (by simp[nw_size]),fkc,fka,fku,trivial⟩,⟨⟩⟩ fun yw9 v9 hg h9 hV9=>?_;simp only[fzw,Kw.a,Kw.r];obtain⟨⟨N9_7,V9_7⟩,-⟩:(v8.heap.size≤(yw9 7 0).2∧Vr v9 (yw9 7 0).2 (nw 9 st.val))∧True:=hV9;clear h9;replace g1:=g1.trans hg;replace g2:=g2.trans hg;replace g3:=g3.trans hg;replace g4:=g4.trans hg;replace g5:=g5.trans hg;replace g6:=g6.trans hg;replace g7:=g7.trans hg;replace g8:=g8.trans hg;have g9:=hg;clear hg
 go_upto_region 10 with fail
 refine wp_y true [.c (.agg (cu (k:Int) (pN k) A.val B.val N X Y s z l)),.c (.agg (cu (k:Int) (pN k) A.val B.val N X Y s z l)),.c (pv (w.heap.size) 0),.c (pv (w.heap.size) 10),.N A.val,.c (.agg (cu (k:Int) (pN k) A.val B.val N X Y s z l)),.N xx.val,.N az.val,.N d1.val,.r 1 (nw 9 d1.val),.N p9.val,.c (.agg (cu (k:Int) (pN k) A.val B.val N X Y s z l)),.N b3.val,.N xz.val,.r 1 (nw 9 xz.val),.N pt.val,.r 1 (nw 9 pt.val),.N fl.val,.a,.u] [0,1,4,5,6,7,8,10,11,12,13,15,17] [9,14,16] [⟨18,19,25,nw 9 0,fun _=>nw 9 fl.val⟩] ⟨.g 141 0 (c0.gr g1) rfl,.g 141 0 (c0.gr g1) rfl,.g 25 10 (c0.gr g1) rfl,.g 141 0 (c0.gr g1) rfl,.g 25 0 (V2_21.gr g3) rfl,.g 25 0 (V6_7.gr g7) rfl,.z (Jd ed1),.k _ fun yy vv hg hh=>RtW.of_c (Rt.c (Jp1 ep9 (hh 9 rfl))),.g 141 0 (c0.gr g1) rfl,.g 25 0 (V1_12.gr g2) rfl,.g 25 0 (V4_17.gr g5) rfl,.k _ fun yy vv hg hh=>RtW.of_c (Rt.c (Jp1 ept (hh 14 rfl))),.k _ fun yy vv hg hh=>RtW.of_c (Rt.c (Js1 efl (hh 16 rfl))),⟨⟩⟩ ⟨.r (.buildSlice 185 1 #[(0,.const (.agg (nw 9 d1.val)))]) rfl (rowN1 _),.r (.buildSlice 185 1 #[(0,.const (.agg (nw 9 xz.val)))]) rfl (rowN1 _),.r (.buildSlice 185 1 #[(0,.const (.agg (nw 9 pt.val)))]) rfl (rowN1 _),⟨⟩⟩ ⟨.k zNat,⟨⟩⟩ fun yw10 v10 hg h10 hV10=>?_;simp only[fzw,Kw.a,Kw.r];obtain⟨⟨N10_18,V10_18⟩,-⟩:(v9.heap.size≤(yw10 18 0).2∧Vr v10 (yw10 18 0).2 (nw 9 fl.val))∧True:=hV10;clear h10;replace g1:=g1.trans hg;replace g2:=g2.trans hg;replace g3:=g3.trans hg;replace g4:=g4.trans hg;replace g5:=g5.trans hg;replace g6:=g6.trans hg;replace g7:=g7.trans hg;replace g8:=g8.trans hg;replace g9:=g9.trans hg;have g10:=hg;clear hg;replace G:=G.trans g1;replace c0:=c0.gr g1;replace c1:=c1.gr g1;replace c2:=c2.gr g1;replace c3:=c3.gr g1;replace V1_12:=V1_12.gr g2;replace V2_21:=V2_21.gr g3;replace V2_22:=V2_22.gr g3;replace V2_23:=V2_23.gr g3;replace V3_17:=V3_17.gr g4;replace V4_17:=V4_17.gr g5;replace V5_17:=V5_17.gr g6;replace V6_7:=V6_7.gr g7;replace V7_15:=V7_15.gr g8;replace V8_9:=V8_9.gr g9;replace V8_10:=V8_10.gr g9;replace V9_7:=V9_7.gr g10;clear g1 g10 g2 g3 g4 g5 g6 g7 g8 g9
 go_upto_region 11 with fail
 refine jadd_end h1 h2 er1 er2 eX3 er3 er4 eY3 er5 er6 eZ3 c0 c3 V3_17 V5_17 V8_9 V8_10 V9_7 V10_18 ?_;intro a v' h6 hd hg hb
 go_wp2_with fail
 exact bodyPost_ret (res_one results83 (rd_pj h6 (blk_setBlk _ _ _ (by rw[hb];decide +kernel)))) hd ⟨rfl,gr_setNew (G.trans hg) (by omega)⟩
end
end
section
namespace EC
section
variable {p:Nat} [NeZero p] {i:Fin p→Fin p} {A B:Fin p}
def Tri(A B X Y Z:Fin p):Prop:=¬(X=0∧Y=0∧Z=0)∧Y*Y*Z=X*X*X+A*X*(Z*Z)+B*(Z*Z*Z)
theorem std_tri{X Y Z:Fin p}{Q:Option (Fin p×Fin p)}(hQ:On A B Q)(s:Std X Y Z Q):Tri A B X Y Z:=by
 match Q,hQ,s with
 | none,_,⟨a,b,c⟩=>
  subst a c;exact⟨fun h=>b h.2.1,by clear b hQ s;grobner⟩
 | some (x,y),hQ,⟨a,b,c⟩=>
  subst b c;refine⟨fun h=>a h.2.2,?_⟩
  have e:y*Z*(y*Z)*Z=y*y*(Z*Z*Z):=by clear hQ s a;grobner
  rw[e,show y*y=_ from hQ]
  grobner
theorem tri_std(C:Cur i A B){X Y Z:Fin p}(h:Tri A B X Y Z):On A B (if Z=0 then none else some (X*i Z,Y*i Z))∧Std X Y Z (if Z=0 then none else some (X*i Z,Y*i Z)):=by
 obtain⟨h1,h2⟩:=h
 by_cases hz:Z=0
 ·subst hz;rw[if_pos rfl]
  have hx:X*X*X=0:=by
   have e:X*X*X=X*X*X+A*X*(0*0)+B*(0*0*0):=by clear h2;grobner
   rw[e,←h2];clear e h2;grobner
  have hx0:X=0:=by
   rcases nzd C.pr _ _ hx with h|h
   ·rcases nzd C.pr _ _ h with h|h <;> exact h
   ·exact h
  exact⟨trivial,hx0,fun hy=>h1 ⟨hx0,hy,rfl⟩,rfl⟩
 ·rw[if_neg hz];have hi:=C.inv Z hz
  refine⟨?_,hz,?_,?_⟩
  ·show Y*i Z*(Y*i Z)=X*i Z*(X*i Z)*(X*i Z)+A*(X*i Z)+B
   generalize i Z=j at *
   have e1:Y*j*(Y*j)=Y*Y*Z*(j*j*j)+Y*Y*(j*j)*(1-j*Z):=by clear h1 h2 hi;grobner
   have e2:X*j*(X*j)*(X*j)+A*(X*j)+B=(X*X*X+A*X*(Z*Z)+B*(Z*Z*Z))*(j*j*j)+A*X*j*(1-j*Z*(j*Z))+B*(1-j*Z*(j*Z)*(j*Z)):=by clear h1 h2 hi e1;grobner
   rw[e1,e2,hi,h2]
   grobner
  ·have e:X*i Z*Z=X*(i Z*Z):=by clear h1 h2 hi;grobner
   rw[e,hi];clear e hi h1 h2;grobner
  ·have e:Y*i Z*Z=Y*(i Z*Z):=by clear h1 h2 hi;grobner
   rw[e,hi];clear e hi h1 h2;grobner
end
end EC
def ivN(k z:Nat):Nat:=z^(pN k-2)%pN k
def ptT(k:Nat)(T:T3):Q3:=if T.2.2=0 then inf else(T.1*ivN k T.2.2%pN k,T.2.1*ivN k T.2.2%pN k,false)
section
variable {k:Nat} (h1:1≤k) (h2:k≤15) [NeZero (pN k)]
theorem ptT_is(X Y Z:Fin (pN k)):ptT k (X.val,Y.val,Z.val)=encQ (if Z=0 then none else some (X*EC.iP (pN k) Z,Y*EC.iP (pN k) Z)):=by
 unfold ptT
 by_cases hz:Z=0
 ·subst hz;rw[if_pos (Fin.val_zero _),if_pos rfl]
  rfl
 ·have hz':¬Z.val=0:=fun e=>hz (Fin.ext (e.trans (Fin.val_zero _).symm));rw[if_neg hz',if_neg hz];rw[Prod.mk.injEq,Prod.mk.injEq];exact⟨(Fin.val_mul X (EC.iP (pN k) Z)).symm,(Fin.val_mul Y (EC.iP (pN k) Z)).symm,rfl⟩
theorem tr_tri{X Y Z:Fin (pN k)}{Q:Q3}(h:TrQ k (X.val,Y.val,Z.val) Q):EC.Tri (EC.aF k h1 h2) (EC.bF k h1 h2) X Y Z:=by
 obtain⟨o,X',Y',Z',e,s⟩:=h;simp only[Prod.mk.injEq]at e;obtain⟨e1,e2,e3⟩:=e;rw[Fin.ext e1,Fin.ext e2,Fin.ext e3];exact EC.std_tri (on_dec h1 h2 o) s
theorem tri_tr{X Y Z:Fin (pN k)}(h:EC.Tri (EC.aF k h1 h2) (EC.bF k h1 h2) X Y Z):TrQ k (X.val,Y.val,Z.val) (ptT k (X.val,Y.val,Z.val)):=by
 obtain⟨o,s⟩:=EC.tri_std (EC.curN k h1 h2) h;rw[ptT_is];refine⟨on_enc h1 h2 o,X,Y,Z,rfl,fun {_}=>?_⟩;rw[dec_enc];exact s
end
theorem TrQ.pt{k:Nat}(h1:1≤k)(h2:k≤15){T:T3}{Q:Q3}(h:TrQ k T Q):ptT k T=Q:=by
 haveI:=EC.nzP k h1 h2
 have h':=h;obtain⟨-,X,Y,Z,rfl,-⟩:=h';exact TrQ.one h1 h2 (tri_tr h1 h2 (tr_tri h1 h2 h)) h
end
section
attribute [local go_sem ↓] uz1
attribute [local go_sem] uz2
section
attribute [local go_sem] uz8
attribute [local go_sem ↓] uz15 Go.wp_at_zero Go.wp_at_succ
attribute [local go_sem] uz16
theorem gdiff_of(id:Int)(P A B N X Y:Nat)(s z:Int)(l:Bool)(x y q:Nat)(H1':∀w,Cg 148 #[.int .i64 id,.agg (nw 9 x),.agg (nw 9 y)] w (.tuple #[.agg (nw 9 q),.int .i64 0]))(w:World):
 Cg 127 #[.agg (cu id P A B N X Y s z l),.agg (nw 9 x),.agg (nw 9 y)] w (.agg (nw 9 q)):=by
 have H1:Hid _:=H1';clear H1'
 go_enter func127,ntmps127
 go_upto_region 1 with fail
 refine gen_w (fun v=>Hid (Gr w v∧Vr v (w.heap.size) (cu id P A B N X Y s z l)∧Vr v (w.heap.size+1) (nw 9 x)∧Vr v (w.heap.size+1+1) (nw 9 y)∧Vr v (w.heap.size+1+1+1) (nw 9 0))) ⟨grA,vrA,vrA,vrA,vrA⟩ ?_;intro v0 HV;obtain⟨G,c0,c1,c2,c3⟩:=HV.out
 have k0:v0.cell? ⟨w.heap.size,0,none⟩=some (.int .i64 id):=by rw[c0.cell];exact cu_0 id P A B N X Y s z l
 have hh0:=c0.al;have⟨hh1,ff1,pp1⟩:=c1;have⟨hh2,ff2,pp2⟩:=c2;have hh3:=c3.al;clear HV c0 c1 c2 c3
 go_wp2_with (first
  | (go_at_call_of 148 ((#[.int .i64 id,.agg (nw 9 x),.agg (nw 9 y)]:Array Value));refine(H1.out _).mono ?_;rintro e w' ⟨rfl,g0,rfl⟩))
 refine bodyPost_ret (res_one results127 (rd_nat (by rfl) ?_)) rfl ⟨rfl,?_⟩
 ·simp[go_sem, *]
 ·exact grB
theorem gprod_of(id:Int)(P A B N X Y:Nat)(s z:Int)(l:Bool)(x y q:Nat)(H1':∀w,Cg 118 #[.int .i64 id,.agg (nw 9 x),.agg (nw 9 y)] w (.tuple #[.agg (nw 9 q),.int .i64 0]))(w:World):
 Cg 129 #[.agg (cu id P A B N X Y s z l),.agg (nw 9 x),.agg (nw 9 y)] w (.agg (nw 9 q)):=by
 have H1:Hid _:=H1';clear H1'
 go_enter func129,ntmps129
 go_upto_region 1 with fail
 refine gen_w (fun v=>Hid (Gr w v∧Vr v (w.heap.size) (cu id P A B N X Y s z l)∧Vr v (w.heap.size+1) (nw 9 x)∧Vr v (w.heap.size+1+1) (nw 9 y)∧Vr v (w.heap.size+1+1+1) (nw 9 0))) ⟨grA,vrA,vrA,vrA,vrA⟩ ?_;intro v0 HV;obtain⟨G,c0,c1,c2,c3⟩:=HV.out
 have k0:v0.cell? ⟨w.heap.size,0,none⟩=some (.int .i64 id):=by rw[c0.cell];exact cu_0 id P A B N X Y s z l
 have hh0:=c0.al;have⟨hh1,ff1,pp1⟩:=c1;have⟨hh2,ff2,pp2⟩:=c2;have hh3:=c3.al;clear HV c0 c1 c2 c3
 go_wp2_with (first
  | (go_at_call_of 118 ((#[.int .i64 id,.agg (nw 9 x),.agg (nw 9 y)]:Array Value));refine(H1.out _).mono ?_;rintro e w' ⟨rfl,g0,rfl⟩))
 refine bodyPost_ret (res_one results129 (rd_nat (by rfl) ?_)) rfl ⟨rfl,?_⟩
 ·simp[go_sem, *]
 ·exact grB
theorem gquot_of(id:Int)(P A B N X Y:Nat)(s z:Int)(l:Bool)(x y u q:Nat)(H1':∀w,Cg 125 #[.int .i64 id,.agg (nw 9 y)] w (.tuple #[.agg (nw 9 u),.int .i64 0]))(H2':∀w,Cg 129 #[.agg (cu id P A B N X Y s z l),.agg (nw 9 x),.agg (nw 9 u)] w (.agg (nw 9 q)))(w:World):
 Cg 126 #[.agg (cu id P A B N X Y s z l),.agg (nw 9 x),.agg (nw 9 y)] w (.agg (nw 9 q)):=by
 have H1:Hid _:=H1';have H2:Hid _:=H2';clear H1' H2'
 go_enter func126,ntmps126
 go_upto_region 1 with fail
 refine gen_w (fun v=>Hid (Gr w v∧Vr v (w.heap.size) (cu id P A B N X Y s z l)∧Vr v (w.heap.size+1) (nw 9 x)∧Vr v (w.heap.size+1+1) (nw 9 y)∧Vr v (w.heap.size+1+1+1) (nw 9 0))) ⟨grA,vrA,vrA,vrA,vrA⟩ ?_;intro v0 HV;obtain⟨G,c0,c1,c2,c3⟩:=HV.out
 have k0:v0.cell? ⟨w.heap.size,0,none⟩=some (.int .i64 id):=by rw[c0.cell];exact cu_0 id P A B N X Y s z l
 have hh0:=c0.al;have hh1:=c1.al;have⟨hh2,ff2,pp2⟩:=c2;have hh3:=c3.al;clear HV c0 c1 c2 c3
 go_wp2_with (first
  | (go_at_call_of 125 ((#[.int .i64 id,.agg (nw 9 y)]:Array Value));refine(H1.out _).mono ?_;rintro e w' ⟨rfl,g0,rfl⟩)
  | (go_at_call_of 129 ((#[.agg (cu id P A B N X Y s z l),.agg (nw 9 x),.agg (nw 9 u)]:Array Value));refine(H2.out _).mono ?_;rintro e w' ⟨rfl,g1,rfl⟩))
 refine bodyPost_ret (res_one results126 (rd_nat (by rfl) ?_)) rfl ⟨rfl,?_⟩
 ·simp[go_sem, *]
 ·exact grB
theorem gleft_any(id:Int)(P A B N X Y:Nat)(s z:Int)(l:Bool)(x1 y1 x2 y2:Nat)(f1 f2:Bool)(w:World):
 Cg 90 #[.agg (cu id P A B N X Y s z l),.agg (pnt x1 y1 f1),.agg (pnt x2 y2 f2)] w (.agg (pnt x1 y1 f1)):=by
 go_enter func90,ntmps90
 go_upto_region 1 with fail
 refine gen_w (fun v=>Hid (Gr w v∧Vr v (w.heap.size) (cu id P A B N X Y s z l)∧Vr v (w.heap.size+1) (pnt x1 y1 f1)∧Vr v (w.heap.size+1+1) (pnt x2 y2 f2)∧Vr v (w.heap.size+1+1+1) (pnt 0 0 false))) ⟨grA,vrA,vrA,vrA,vrA⟩ ?_;intro v0 HV;obtain⟨G,c0,c1,c2,c3⟩:=HV.out;have⟨hh1,ff1,pp1⟩:=c1;have⟨hh3,ff3,pp3⟩:=c3
 go_wp2_with fail
 refine bodyPost_ret (res_one results90 (rd_pn (by rfl) ?_)) rfl ⟨rfl,?_⟩
 ·simp[go_sem, *]
 ·exact grB
theorem gright_any(id:Int)(P A B N X Y:Nat)(s z:Int)(l:Bool)(x1 y1 x2 y2:Nat)(f1 f2:Bool)(w:World):
 Cg 89 #[.agg (cu id P A B N X Y s z l),.agg (pnt x1 y1 f1),.agg (pnt x2 y2 f2)] w (.agg (pnt x2 y2 f2)):=by
 go_enter func89,ntmps89
 go_upto_region 1 with fail
 refine gen_w (fun v=>Hid (Gr w v∧Vr v (w.heap.size) (cu id P A B N X Y s z l)∧Vr v (w.heap.size+1) (pnt x1 y1 f1)∧Vr v (w.heap.size+1+1) (pnt x2 y2 f2)∧Vr v (w.heap.size+1+1+1) (pnt 0 0 false))) ⟨grA,vrA,vrA,vrA,vrA⟩ ?_;intro v0 HV;obtain⟨G,c0,c1,c2,c3⟩:=HV.out;have⟨hh2,ff2,pp2⟩:=c2;have⟨hh3,ff3,pp3⟩:=c3
 go_wp2_with fail
 refine bodyPost_ret (res_one results89 (rd_pn (by rfl) ?_)) rfl ⟨rfl,?_⟩
 ·simp[go_sem, *]
 ·exact grB
theorem ginf_any(id:Int)(P A B N X Y:Nat)(s z:Int)(l:Bool)(x1 y1 x2 y2:Nat)(f1 f2:Bool)(w:World):
 Cg 93 #[.agg (cu id P A B N X Y s z l),.agg (pnt x1 y1 f1),.agg (pnt x2 y2 f2)] w (.agg (pnt 0 0 true)):=by
 go_enter func93,ntmps93
 go_upto_region 1 with fail
 refine gen_w (fun v=>Hid (Gr w v∧Vr v (w.heap.size) (cu id P A B N X Y s z l)∧Vr v (w.heap.size+1) (pnt x1 y1 f1)∧Vr v (w.heap.size+1+1) (pnt x2 y2 f2)∧Vr v (w.heap.size+1+1+1) (pnt 0 0 false))) ⟨grA,vrA,vrA,vrA,vrA⟩ ?_;intro v0 HV;obtain⟨G,c0,c1,c2,c3⟩:=HV.out;have⟨hh3,ff3,pp3⟩:=c3
 go_wp2_with fail
 refine bodyPost_ret (res_one results93 (rd_pn (by rfl) ?_)) rfl ⟨rfl,?_⟩
 ·simp[go_sem, *]
 ·exact grB
theorem toSum_any(w:World):Cg 67 #[] w (.agg tabA):=by
 go_enter func67,ntmps67
 go_wp2
 refine bodyPost_ret (res_one results67 (rd_cell 5 underlying121 rfl (by kernel_rfl) (by rfl) ?_ rfl)) rfl ⟨rfl,grA⟩;simp[go_sem]
theorem toProduct_any(w:World):Cg 65 #[] w (.agg tabB):=by
 go_enter func65,ntmps65
 go_wp2
 refine bodyPost_ret (res_one results65 (rd_cell (c:=tabB) 2 underlying118 rfl (by kernel_rfl) (by rfl) ?_ rfl)) rfl ⟨rfl,grA⟩;simp[go_sem]
end
section
attribute [local go_sem] uz8
attribute [local go_sem ↓] uz15 Go.wp_at_zero Go.wp_at_succ
attribute [local go_sem] uz16
theorem gsum_of(id:Int)(P A B N X Y:Nat)(s z:Int)(l:Bool)(n:Nat)(hn:n≤4)(f acc:Nat→Nat)(c:Array Value)(h0:acc 0=0)(hrow:∀i,i<n→c.extract (i*9) (i*9+9)=nw 9 (f i))(hsz:n*9≤c.size)(HA':∀i,i<n→∀w,Cg 119 #[.int .i64 id,.agg (nw 9 (acc i)),.agg (nw 9 (f i))] w (.tuple #[.agg (nw 9 (acc (i+1))),.int .i64 0]))(b cap:Nat)(w:World)(hv:Vr w b c):
 Cg 130 #[.agg (cu id P A B N X Y s z l),.slice (some ⟨b,0,none⟩) n cap] w (.agg (nw 9 (acc n))):=by
 have HA:Hid _:=HA';have HN:Hu (_):=fun _=>hn
 have HL:Hid (∀j,j<n→∀v,Gr w v→(loadS 25 (.pointer (some ⟨b,j*9,none⟩))).run prog v=.ok (.agg (nw 9 (f j))) v):=fun j hj v g=>by
  have hb:=(hv.gr g).h;rw[loadPart v b (j*9) (by rw[hb];omega),hb,hrow j hj]
 have HZ:Hu (_):=fun _=>h0;clear hn HA' h0 hrow hsz
 go_enter func130,ntmps130
 go_wp2_with fail
 refine gen_w (fun wr=>Hid (Gr w wr∧Vr wr (w.heap.size) (cu id P A B N X Y s z l)∧Vr wr (w.heap.size+1) (nw 9 0)∧Vr wr (w.heap.size+1+1) (nw 9 (acc 0)))) ⟨grA,vrA,vrA,by rw[HZ.out ()];exact vrA⟩ ?_;intro v0 HV
 go_loopw [10] (fun ia wr=>∃j:Nat,ia=.int .i64 (j:Int)∧Hu (j≤n)∧Hid (Gr w wr∧Vr wr (w.heap.size) (cu id P A B N X Y s z l)∧Vr wr (w.heap.size+1) (nw 9 0)∧Vr wr (w.heap.size+1+1) (nw 9 (acc j)))) (fun ia _=>((n:Int)-intOf ia).toNat)
 case atStart=>exact⟨0,rfl,fun _=>Nat.zero_le _,HV⟩
 case round=>
  clear HV;obtain⟨j,rfl,HJ,HV⟩:=hrel;obtain⟨G,c0,c1,c2⟩:=HV.out
  have k0:wr.cell? ⟨w.heap.size,0,none⟩=some (.int .i64 id):=by rw[c0.cell];exact cu_0 id P A B N X Y s z l
  have nea:¬(w.heap.size+1+1=w.heap.size):=by omega
  have j0:(0:Int)≤(j:Int):=by omega
  have n4:(n:Int)≤4:=by have:=HN.out ();omega
  have⟨h0,f0,p0⟩:=c0;have⟨h1,f1,p1⟩:=c1;have⟨h2,f2,p2⟩:=c2;have⟨p01,p02,p03,p04,p05,p06⟩:=c0.pp;have⟨p11,p12,p13,p14,p15,p16⟩:=c1.pp;have⟨p21,p22,p23,p24,p25,p26⟩:=c2.pp
  by_cases hlt:j<n
  ·have j1:(j:Int)<(n:Int):=by omega
   have ld:=HL.out j hlt;have HA2:Hid _:=HA.out j hlt
   go_wp2_with (go_at_call 119;refine(HA2.out _).mono ?_;rintro e w' ⟨rfl,g,rfl⟩)
   go_roundw
   case rel=>
    refine⟨j+1,by go_num,fun _=>hlt,?_,⟨by simp[go_sem, *],by simp[go_sem, *],by simp[go_sem, *]⟩,⟨by simp[go_sem, *],by simp[go_sem, *],by simp[go_sem, *]⟩,⟨by simp[go_sem, *],by simp[go_sem, *],by simp[go_sem, *]⟩⟩;exact grB
   case measure=>simp[intOf];omega
  ·have j1:¬(j:Int)<(n:Int):=by omega
   have hj:j=n:=by have:=HJ.out ();omega
   go_wp2_with fail
   refine bodyPost_ret (res_one results130 (rd_nat (x:=acc j) (by rfl) ?_)) rfl ⟨by rw[hj],?_⟩
   ·simp[go_sem, *]
   ·exact grB
end
section
attribute [local go_sem] uz8
attribute [local go_sem ↓] uz15 Go.wp_at_zero Go.wp_at_succ
attribute [local go_sem] uz16
theorem galong_of(id:Int)(P A B N X Y:Nat)(s z:Int)(l:Bool)(m x1 y1 x2 y2 q1 q2 q3 q4 q5 q6:Nat)(H1':∀w,Cg 129 #[.agg (cu id P A B N X Y s z l),.agg (nw 9 m),.agg (nw 9 m)] w (.agg (nw 9 q1)))(H3':∀w,Cg 127 #[.agg (cu id P A B N X Y s z l),.agg (nw 9 q1),.agg (nw 9 q2)] w (.agg (nw 9 q3)))(H4':∀w,Cg 127 #[.agg (cu id P A B N X Y s z l),.agg (nw 9 x1),.agg (nw 9 q3)] w (.agg (nw 9 q4)))(H5':∀w,Cg 129 #[.agg (cu id P A B N X Y s z l),.agg (nw 9 m),.agg (nw 9 q4)] w (.agg (nw 9 q5)))(H6':∀w,Cg 127 #[.agg (cu id P A B N X Y s z l),.agg (nw 9 q5),.agg (nw 9 y1)] w (.agg (nw 9 q6)))(H2':∀w b,Vr w b (nw 9 x1++nw 9 x2)→Cg 130 #[.agg (cu id P A B N X Y s z l),.slice (some ⟨b,0,none⟩) 2 2] w (.agg (nw 9 q2)))(w:World):
 Cg 128 #[.agg (cu id P A B N X Y s z l),.agg (nw 9 m),.agg (pnt x1 y1 false),.agg (pnt x2 y2 false)] w (.agg (pnt q3 q6 false)):=by
 have H1:Hid _:=H1';have H3:Hid _:=H3';have H4:Hid _:=H4';have H5:Hid _:=H5';have H6:Hid _:=H6';have H2:Hid _:=H2';clear H1' H3' H4' H5' H6' H2'
 go_enter func128,ntmps128
 go_upto_region 1 with fail
 refine gen_w (fun v=>Hid (Gr w v∧Vr v (w.heap.size) (cu id P A B N X Y s z l)∧Vr v (w.heap.size+1) (nw 9 m)∧Vr v (w.heap.size+1+1) (pnt x1 y1 false)∧Vr v (w.heap.size+1+1+1) (pnt x2 y2 false)∧Vr v (w.heap.size+1+1+1+1) (pnt 0 0 false))) ⟨grA,vrA,vrA,vrA,vrA,vrA⟩ ?_;intro v0 HV;obtain⟨G,c0,c1,c2,c3,c4⟩:=HV.out;clear HV;refine wp_v true [.c (.agg (cu id P A B N X Y s z l)),.c (.agg (cu id P A B N X Y s z l)),.N m,.N m,.N q1,.c (.agg (cu id P A B N X Y s z l)),.c (pv (w.heap.size+1+1) 0),.N x1,.c (pv (w.heap.size+1+1+1) 0),.N x2,.r 2 (nw 9 x1++nw 9 x2),.N q2,.N q3,.a,.u] [0,1,2,3,4,5,7,9,10,11,12] [⟨13,14,25,nw 9 0,fun _=>nw 9 q3⟩] ⟨.g 88 0 c0 rfl,.g 88 0 c0 rfl,.g 25 0 c1 rfl,.g 25 0 c1 rfl,.z H1.out,.g 88 0 c0 rfl,.g 25 0 c2 rfl,.g 25 0 c3 rfl,.r (.buildSlice 185 2 #[(0,.const (.agg (nw 9 x1))),(1,.const (.agg (nw 9 x2)))]) rfl (rowN2 _ _),.k (fun yy =>#[.agg (cu id P A B N X Y s z l),.slice (some ⟨(yy 10 0).2,0,none⟩) 2 2]) fun yy vv hg hh=>RtW.of_c (Rt.c (H2.out _ _ (hh 10 rfl))),.z H3.out,⟨⟩⟩ ⟨.k zNat ⟨fkc,fkc,fkc,fkc,fkc,fkc,fkc,fkc,fkc,fkc,fkr (by simp[nw_size]),fkc,fkc,fka,fku,trivial⟩,⟨⟩⟩ fun yw1 v1 hg h1 hV1=>?_;simp only[fzw,Kw.a,Kw.r];obtain⟨⟨N1_13,V1_13⟩,-⟩:=hV1;clear h1;replace G:=G.trans hg;replace c0:=c0.gr hg;replace c1:=c1.gr hg;replace c2:=c2.gr hg;replace c3:=c3.gr hg;replace c4:=c4.gr hg;clear hg
 go_upto_region 2 with fail
 refine wp_v true [.c (.agg (cu id P A B N X Y s z l)),.c (.agg (cu id P A B N X Y s z l)),.N m,.c (.agg (cu id P A B N X Y s z l)),.c (pv (w.heap.size+1+1) 0),.N x1,.N q3,.N q4,.N q5,.c (pv (w.heap.size+1+1) 9),.N y1,.N q6,.a,.u] [0,1,2,3,5,6,7,8,10,11] [⟨12,13,25,nw 9 0,fun _=>nw 9 q6⟩] ⟨.g 88 0 c0 rfl,.g 88 0 c0 rfl,.g 25 0 c1 rfl,.g 88 0 c0 rfl,.g 25 0 c2 rfl,.g 25 0 V1_13 rfl,.z H4.out,.z H5.out,.g 25 9 c2 rfl,.z H6.out,⟨⟩⟩ ⟨.k zNat (.t rfl),⟨⟩⟩ fun yw2 v2 hg h2 hV2=>?_;simp only[fzw,Kw.a];obtain⟨⟨N2_12,V2_12⟩,-⟩:=hV2;clear h2;replace G:=G.trans hg;replace c0:=c0.gr hg;replace c1:=c1.gr hg;replace c2:=c2.gr hg;replace c3:=c3.gr hg;replace c4:=c4.gr hg;replace V1_13:=V1_13.gr hg
 go_upto_region 3 with fail
 refine wp_wTS 3 [.N q3,.N q6,.c (.agg (pnt q3 q6 false))] [0,1] ⟨.g 25 0 V1_13 rfl,.g 25 0 V2_12 rfl,⟨⟩⟩ (.s 27 (fun yy=>.pointer (some ⟨w.heap.size+1+1+1+1,0,none⟩)) (fun yy=>.agg (pnt q3 q6 false)) fun yw3 v3 hg h3=>?_);have HT:=(c4.gr hg).h;have FT:=(c4.gr hg).f;refine⟨setBlk v3 (w.heap.size+1+1+1+1) (pnt q3 q6 false),by simp[go_sem,exI,HT,FT],?_⟩;simp only[fzw];replace G:=G.trans hg
 go_wp2_with fail
 exact bodyPost_ret (res_one results128 (rd_pn (by rfl) (blk_setBlk _ _ _ (by rw[HT];decide +kernel)))) rfl ⟨rfl,gr_setNew G (by omega)⟩
theorem gchord_of(id:Int)(P A B N X Y:Nat)(s z:Int)(l:Bool)(x1 y1 x2 y2 q1 q2 q3 r1 r2:Nat)(H1':∀w,Cg 127 #[.agg (cu id P A B N X Y s z l),.agg (nw 9 y2),.agg (nw 9 y1)] w (.agg (nw 9 q1)))(H2':∀w,Cg 127 #[.agg (cu id P A B N X Y s z l),.agg (nw 9 x2),.agg (nw 9 x1)] w (.agg (nw 9 q2)))(H3':∀w,Cg 126 #[.agg (cu id P A B N X Y s z l),.agg (nw 9 q1),.agg (nw 9 q2)] w (.agg (nw 9 q3)))(HAL':∀w,Cg 128 #[.agg (cu id P A B N X Y s z l),.agg (nw 9 q3),.agg (pnt x1 y1 false),.agg (pnt x2 y2 false)] w (.agg (pnt r1 r2 false)))(w:World):
 Cg 91 #[.agg (cu id P A B N X Y s z l),.agg (pnt x1 y1 false),.agg (pnt x2 y2 false)] w (.agg (pnt r1 r2 false)):=by
 have H1:Hid _:=H1';have H2:Hid _:=H2';have H3:Hid _:=H3';have HAL:Hid _:=HAL';clear H1' H2' H3' HAL'
 go_enter func91,ntmps91
 go_upto_region 1 with fail
 refine gen_w (fun v=>Hid (Gr w v∧Vr v (w.heap.size) (cu id P A B N X Y s z l)∧Vr v (w.heap.size+1) (pnt x1 y1 false)∧Vr v (w.heap.size+1+1) (pnt x2 y2 false)∧Vr v (w.heap.size+1+1+1) (pnt 0 0 false))) ⟨grA,vrA,vrA,vrA,vrA⟩ ?_;intro v0 HV;obtain⟨G,c0,c1,c2,c3⟩:=HV.out;clear HV;refine wp_v true [.c (.agg (cu id P A B N X Y s z l)),.c (.agg (cu id P A B N X Y s z l)),.c (pv (w.heap.size+1+1) 9),.N y2,.c (pv (w.heap.size+1) 9),.N y1,.N q1,.c (.agg (cu id P A B N X Y s z l)),.c (pv (w.heap.size+1+1) 0),.N x2,.c (pv (w.heap.size+1) 0),.N x1,.N q2,.N q3,.a,.u] [0,1,3,5,6,7,9,11,12,13] [⟨14,15,25,nw 9 0,fun _=>nw 9 q3⟩] ⟨.g 88 0 c0 rfl,.g 88 0 c0 rfl,.g 25 9 c2 rfl,.g 25 9 c1 rfl,.z H1.out,.g 88 0 c0 rfl,.g 25 0 c2 rfl,.g 25 0 c1 rfl,.z H2.out,.z H3.out,⟨⟩⟩ ⟨.k zNat (.t rfl),⟨⟩⟩ fun yw1 v1 hg h1 hV1=>?_;simp only[fzw,Kw.a];obtain⟨⟨N1_14,V1_14⟩,-⟩:=hV1;clear h1;replace G:=G.trans hg;replace c0:=c0.gr hg;replace c1:=c1.gr hg;replace c2:=c2.gr hg;replace c3:=c3.gr hg
 go_upto_region 2 with fail
 refine wp_wTS 5 [.c (.agg (cu id P A B N X Y s z l)),.N q3,.c (.agg (pnt x1 y1 false)),.c (.agg (pnt x2 y2 false)),.c (.agg (pnt r1 r2 false))] [0,1,2,3,4] ⟨.g 88 0 c0 rfl,.g 25 0 V1_14 rfl,.g 27 0 c1 rfl,.g 27 0 c2 rfl,.z HAL.out,⟨⟩⟩ (.s 27 (fun yy=>.pointer (some ⟨w.heap.size+1+1+1,0,none⟩)) (fun yy=>.agg (pnt r1 r2 false)) fun yw2 v2 hg h2=>?_);have HT:=(c3.gr hg).h;have FT:=(c3.gr hg).f;refine⟨setBlk v2 (w.heap.size+1+1+1) (pnt r1 r2 false),by simp[go_sem,exI,HT,FT],?_⟩;simp only[fzw];replace G:=G.trans hg
 go_wp2_with fail
 exact bodyPost_ret (res_one results91 (rd_pn (by rfl) (blk_setBlk _ _ _ (by rw[HT];decide +kernel)))) rfl ⟨rfl,gr_setNew G (by omega)⟩
theorem gtang_of(id:Int)(P A B N X Y:Nat)(s z:Int)(l:Bool)(x1 y1 x2 y2 q1 q2 q3 q4 r1 r2:Nat)(H1':∀w,Cg 129 #[.agg (cu id P A B N X Y s z l),.agg (nw 9 x1),.agg (nw 9 x1)] w (.agg (nw 9 q1)))(H4':∀w,Cg 126 #[.agg (cu id P A B N X Y s z l),.agg (nw 9 q2),.agg (nw 9 q3)] w (.agg (nw 9 q4)))(H2':∀w b,Vr w b (nw 9 q1++nw 9 q1++nw 9 q1++nw 9 A)→Cg 130 #[.agg (cu id P A B N X Y s z l),.slice (some ⟨b,0,none⟩) 4 4] w (.agg (nw 9 q2)))(H3':∀w b,Vr w b (nw 9 y1++nw 9 y1)→Cg 130 #[.agg (cu id P A B N X Y s z l),.slice (some ⟨b,0,none⟩) 2 2] w (.agg (nw 9 q3)))(HAL':∀w,Cg 128 #[.agg (cu id P A B N X Y s z l),.agg (nw 9 q4),.agg (pnt x1 y1 false),.agg (pnt x2 y2 false)] w (.agg (pnt r1 r2 false)))(w:World):
 Cg 92 #[.agg (cu id P A B N X Y s z l),.agg (pnt x1 y1 false),.agg (pnt x2 y2 false)] w (.agg (pnt r1 r2 false)):=by
 have H1:Hid _:=H1';have H4:Hid _:=H4';have H2:Hid _:=H2';have H3:Hid _:=H3';have HAL:Hid _:=HAL';clear H1' H4' H2' H3' HAL'
 go_enter func92,ntmps92
 go_upto_region 1 with fail
 refine gen_w (fun v=>Hid (Gr w v∧Vr v (w.heap.size) (cu id P A B N X Y s z l)∧Vr v (w.heap.size+1) (pnt x1 y1 false)∧Vr v (w.heap.size+1+1) (pnt x2 y2 false)∧Vr v (w.heap.size+1+1+1) (pnt 0 0 false))) ⟨grA,vrA,vrA,vrA,vrA⟩ ?_;intro v0 HV;obtain⟨G,c0,c1,c2,c3⟩:=HV.out;clear HV;refine wp_v false [.c (.agg (cu id P A B N X Y s z l)),.c (pv (w.heap.size+1) 0),.N x1,.c (pv (w.heap.size+1) 0),.N x1,.N q1,.a,.u] [0,2,4,5] [⟨6,7,25,nw 9 0,fun _=>nw 9 q1⟩] ⟨.g 88 0 c0 rfl,.g 25 0 c1 rfl,.g 25 0 c1 rfl,.z H1.out,⟨⟩⟩ ⟨.k zNat (.t rfl),⟨⟩⟩ fun yw1 v1 hg h1 hV1=>?_;simp only[fzw,Kw.a];obtain⟨⟨N1_6,V1_6⟩,-⟩:=hV1;clear h1;replace G:=G.trans hg;replace c0:=c0.gr hg;replace c1:=c1.gr hg;replace c2:=c2.gr hg;replace c3:=c3.gr hg;clear hg
 go_upto_region 2 with fail
 refine wp_v true [.c (.agg (cu id P A B N X Y s z l)),.c (.agg (cu id P A B N X Y s z l)),.N q1,.N q1,.N q1,.c (pv (w.heap.size) 0),.c (pv (w.heap.size) 10),.N A,.r 4 (nw 9 q1++nw 9 q1++nw 9 q1++nw 9 A),.N q2,.c (.agg (cu id P A B N X Y s z l)),.c (pv (w.heap.size+1) 9),.N y1,.c (pv (w.heap.size+1) 9),.N y1,.r 2 (nw 9 y1++nw 9 y1),.N q3,.N q4,.a,.u] [0,1,2,3,4,7,8,9,10,12,14,15,16,17] [⟨18,19,25,nw 9 0,fun _=>nw 9 q4⟩] ⟨.g 88 0 c0 rfl,.g 88 0 c0 rfl,.g 25 0 V1_6 rfl,.g 25 0 V1_6 rfl,.g 25 0 V1_6 rfl,.g 25 10 c0 rfl,.r (.buildSlice 185 4 #[(0,.const (.agg (nw 9 q1))),(1,.const (.agg (nw 9 q1))),(2,.const (.agg (nw 9 q1))),(3,.const (.agg (nw 9 A)))]) rfl (rowN4 _ _ _ _),.k (fun yy =>#[.agg (cu id P A B N X Y s z l),.slice (some ⟨(yy 8 0).2,0,none⟩) 4 4]) fun yy vv hg hh=>RtW.of_c (Rt.c (H2.out _ _ (hh 8 rfl))),.g 88 0 c0 rfl,.g 25 9 c1 rfl,.g 25 9 c1 rfl,.r (.buildSlice 185 2 #[(0,.const (.agg (nw 9 y1))),(1,.const (.agg (nw 9 y1)))]) rfl (rowN2 _ _),.k (fun yy =>#[.agg (cu id P A B N X Y s z l),.slice (some ⟨(yy 15 0).2,0,none⟩) 2 2]) fun yy vv hg hh=>RtW.of_c (Rt.c (H3.out _ _ (hh 15 rfl))),.z H4.out,⟨⟩⟩ ⟨.k zNat ⟨fkc,fkc,fkc,fkc,fkc,fkc,fkc,fkc,fkr (by simp[nw_size]),fkc,fkc,fkc,fkc,fkc,fkc,fkr (by simp[nw_size]),fkc,fkc,fka,fku,trivial⟩,⟨⟩⟩ fun yw2 v2 hg h2 hV2=>?_;simp only[fzw,Kw.a,Kw.r];obtain⟨⟨N2_18,V2_18⟩,-⟩:=hV2;clear h2;replace G:=G.trans hg;replace c0:=c0.gr hg;replace c1:=c1.gr hg;replace c2:=c2.gr hg;replace c3:=c3.gr hg
 go_upto_region 3 with fail
 refine wp_wTS 5 [.c (.agg (cu id P A B N X Y s z l)),.N q4,.c (.agg (pnt x1 y1 false)),.c (.agg (pnt x2 y2 false)),.c (.agg (pnt r1 r2 false))] [0,1,2,3,4] ⟨.g 88 0 c0 rfl,.g 25 0 V2_18 rfl,.g 27 0 c1 rfl,.g 27 0 c2 rfl,.z HAL.out,⟨⟩⟩ (.s 27 (fun yy=>.pointer (some ⟨w.heap.size+1+1+1,0,none⟩)) (fun yy=>.agg (pnt r1 r2 false)) fun yw3 v3 hg h3=>?_);have HT:=(c3.gr hg).h;have FT:=(c3.gr hg).f;refine⟨setBlk v3 (w.heap.size+1+1+1) (pnt r1 r2 false),by simp[go_sem,exI,HT,FT],?_⟩;simp only[fzw];replace G:=G.trans hg
 go_wp2_with fail
 exact bodyPost_ret (res_one results92 (rd_pn (by rfl) (blk_setBlk _ _ _ (by rw[HT];decide +kernel)))) rfl ⟨rfl,gr_setNew G (by omega)⟩
end
section
theorem neNat(x y:Nat)(w:World):(binOp .neq 25 (.agg (nw 9 x)) (.agg (nw 9 y))).run prog w=.ok (.bool (!(eqN 9 x y))) w:=by
 rw[run_neq_struct,show (10000:Nat)=9997+3 from rfl,eqNatIn]
 rfl
theorem storePY(w:World)(b q:Nat)(hs:(blk w b).size=19)(hf:frz w b=(0,0)):(storeS 25 (.pointer (some ⟨b,9,none⟩)) (.agg (nw 9 q))).run prog w=.ok () (setBlk w b (setL (blk w b) 9 (nw 9 q).toList)):=by
 have ht:w.there b 9 (nw 9 q).size:=fun j hj=>by
  rw[nw_size]at hj;exact⟨by rw[cell_blk,Array.getElem?_eq_getElem (by omega)];rfl,frz_at w b _ hf⟩
 simp only[storeS,Instr.storeAt,Instr.sureAddr,Sem.run_bind,Sem.run_pure,Result.andThen_ok];rw[run_storeVar_mid w b 9 25 (nw 9 q) ht (by kernel_rfl) (nw_one 9 q),setCells_setBlk _ _ _ _ (by omega)]
theorem pnt_setY(x y q:Nat)(f:Bool):setL (pnt x y f) 9 (nw 9 q).toList=pnt x q f:=by kernel_rfl
theorem buildN0(w:World):(buildF 25 #[]).run prog w=.ok (.agg (nw 9 0)) w:=by kernel_rfl
theorem buildN_is(p:Array (Nat×Value)):Instr.build 25 p=buildF 25 p:=rfl
attribute [local go_sem] uz8
attribute [local go_sem ↓] uz15 Go.wp_at_zero Go.wp_at_succ
attribute [local go_sem] uz16
theorem rel_0(x1 y1 x2 y2:Nat)(f2:Bool)(w:World):
 Cg 68 #[.agg (pnt x1 y1 true),.agg (pnt x2 y2 f2)] w (.int .i64 0):=by
 go_enter func68,ntmps68
 go_upto_region 1 with fail
 refine gen_w (fun v=>Hid (Gr w v∧Vr v (w.heap.size) (pnt x1 y1 true)∧Vr v (w.heap.size+1) (pnt x2 y2 f2))) ⟨grA,vrA,vrA⟩ ?_;intro v0 HV;obtain⟨G,c0,c1⟩:=HV.out;refine wp_wS [.c (pv (w.heap.size) 18),.T,.T] [1] ⟨.o 4 18 c0 rfl (by exact pnt_18 _ _ _),⟨⟩⟩ fun yw1 v1 hg h1=>?_;simp only[fzw];replace G:=G.trans hg
 go_wp2_with fail
 go_ret
 exact⟨rfl,G⟩
theorem rel_1(x1 y1 x2 y2:Nat)(w:World):
 Cg 68 #[.agg (pnt x1 y1 false),.agg (pnt x2 y2 true)] w (.int .i64 1):=by
 go_enter func68,ntmps68
 go_upto_region 1 with fail
 refine gen_w (fun v=>Hid (Gr w v∧Vr v (w.heap.size) (pnt x1 y1 false)∧Vr v (w.heap.size+1) (pnt x2 y2 true))) ⟨grA,vrA,vrA⟩ ?_;intro v0 HV;obtain⟨G,c0,c1⟩:=HV.out;clear HV;refine wp_wS [.c (pv (w.heap.size) 18),.F,.F] [1] ⟨.o 4 18 c0 rfl (by exact pnt_18 _ _ _),⟨⟩⟩ fun yw1 v1 hg h1=>?_;simp only[fzw];clear h1;replace G:=G.trans hg;replace c0:=c0.gr hg;replace c1:=c1.gr hg
 go_upto_region 3 with fail
 refine wp_wS [.c (pv (w.heap.size+1) 18),.T,.T] [1] ⟨.o 4 18 c1 rfl (by exact pnt_18 _ _ _),⟨⟩⟩ fun yw3 v2 hg h3=>?_;simp only[fzw];replace G:=G.trans hg;replace c0:=c0.gr hg
 go_wp2_with fail
 go_ret
 exact⟨rfl,G⟩
theorem rel_2(x1 y1 x2 y2:Nat)(e1:eqN 9 x1 x2=false)(w:World):
 Cg 68 #[.agg (pnt x1 y1 false),.agg (pnt x2 y2 false)] w (.int .i64 2):=by
 go_enter func68,ntmps68
 go_upto_region 1 with fail
 refine gen_w (fun v=>Hid (Gr w v∧Vr v (w.heap.size) (pnt x1 y1 false)∧Vr v (w.heap.size+1) (pnt x2 y2 false))) ⟨grA,vrA,vrA⟩ ?_;intro v0 HV;obtain⟨G,c0,c1⟩:=HV.out;clear HV;refine wp_wS [.c (pv (w.heap.size) 18),.F,.F] [1] ⟨.o 4 18 c0 rfl (by exact pnt_18 _ _ _),⟨⟩⟩ fun yw1 v1 hg h1=>?_;simp only[fzw];clear h1;replace G:=G.trans hg;replace c0:=c0.gr hg;replace c1:=c1.gr hg;clear hg
 go_upto_region 3 with fail
 refine wp_wS [.c (pv (w.heap.size+1) 18),.F,.F] [1] ⟨.o 4 18 c1 rfl (by exact pnt_18 _ _ _),⟨⟩⟩ fun yw3 v2 hg h3=>?_;simp only[fzw];clear h3;replace G:=G.trans hg;replace c0:=c0.gr hg;replace c1:=c1.gr hg
 go_upto_region 5 with fail
 refine wp_wS [.c (pv (w.heap.size) 0),.N x1,.c (pv (w.heap.size+1) 0),.N x2,.T,.T] [1,3,4] ⟨.g 25 0 c0 rfl,.g 25 0 c1 rfl,.s (.binOp .neq 25 (.const (.agg (nw 9 x1))) (.const (.agg (nw 9 x2))) 25) rfl fun vv hg=>by simp[go_sem,exI,neNat,e1],⟨⟩⟩ fun yw5 v3 hg h5=>?_;simp only[fzw];replace G:=G.trans hg
 go_wp2_with fail
 go_ret
 exact⟨rfl,G⟩
theorem rel_3(x1 y1 x2 y2:Nat)(e1:eqN 9 x1 x2=true)(e2:eqN 9 y1 y2=true)(e3:eqN 9 y1 0=false)(w:World):
 Cg 68 #[.agg (pnt x1 y1 false),.agg (pnt x2 y2 false)] w (.int .i64 3):=by
 go_enter func68,ntmps68
 go_upto_region 1 with fail
 refine gen_w (fun v=>Hid (Gr w v∧Vr v (w.heap.size) (pnt x1 y1 false)∧Vr v (w.heap.size+1) (pnt x2 y2 false))) ⟨grA,vrA,vrA⟩ ?_;intro v0 HV;obtain⟨G,c0,c1⟩:=HV.out;clear HV;refine wp_wS [.c (pv (w.heap.size) 18),.F,.F] [1] ⟨.o 4 18 c0 rfl (by exact pnt_18 _ _ _),⟨⟩⟩ fun yw1 v1 hg h1=>?_;simp only[fzw];clear h1;replace G:=G.trans hg;replace c0:=c0.gr hg;replace c1:=c1.gr hg;clear hg
 go_upto_region 3 with fail
 refine wp_wS [.c (pv (w.heap.size+1) 18),.F,.F] [1] ⟨.o 4 18 c1 rfl (by exact pnt_18 _ _ _),⟨⟩⟩ fun yw3 v2 hg h3=>?_;simp only[fzw];clear h3;replace G:=G.trans hg;replace c0:=c0.gr hg;replace c1:=c1.gr hg;clear hg
 go_upto_region 5 with fail
 refine wp_wS [.c (pv (w.heap.size) 0),.N x1,.c (pv (w.heap.size+1) 0),.N x2,.F,.F] [1,3,4] ⟨.g 25 0 c0 rfl,.g 25 0 c1 rfl,.s (.binOp .neq 25 (.const (.agg (nw 9 x1))) (.const (.agg (nw 9 x2))) 25) rfl fun vv hg=>by simp[go_sem,exI,neNat,e1],⟨⟩⟩ fun yw5 v3 hg h5=>?_;simp only[fzw];clear h5;replace G:=G.trans hg;replace c0:=c0.gr hg;replace c1:=c1.gr hg
 go_upto_region 7 with fail
 refine wp_wS [.c (.agg (pnt x1 y1 false)),.c (.agg (pnt x2 y2 false)),.T,.T,.c (pv (w.heap.size) 9),.N y1,.N 0,.T,.T,.T] [0,1,2,5,7] ⟨.g 27 0 c0 rfl,.g 27 0 c1 rfl,.s (.binOp .eql 27 (.const (.agg (pnt x1 y1 false))) (.const (.agg (pnt x2 y2 false))) 27) rfl fun vv hg=>by simp[go_sem,exI,eqPn,e1,e2],.g 25 9 c0 rfl,.s (.binOp .neq 25 (.const (.agg (nw 9 y1))) (.const (.agg (nw 9 0))) 25) rfl fun vv hg=>by simp[go_sem,exI,neNat,e3],⟨⟩⟩ fun yw7 v4 hg h7=>?_;simp only[fzw];replace G:=G.trans hg
 go_wp2_with fail
 go_ret
 exact⟨rfl,G⟩
theorem rel_4(x1 y1 x2 y2:Nat)(e1:eqN 9 x1 x2=true)(e2:eqN 9 y1 y2=false)(w:World):
 Cg 68 #[.agg (pnt x1 y1 false),.agg (pnt x2 y2 false)] w (.int .i64 4):=by
 go_enter func68,ntmps68
 go_upto_region 1 with fail
 refine gen_w (fun v=>Hid (Gr w v∧Vr v (w.heap.size) (pnt x1 y1 false)∧Vr v (w.heap.size+1) (pnt x2 y2 false))) ⟨grA,vrA,vrA⟩ ?_;intro v0 HV;obtain⟨G,c0,c1⟩:=HV.out;clear HV;refine wp_wS [.c (pv (w.heap.size) 18),.F,.F] [1] ⟨.o 4 18 c0 rfl (by exact pnt_18 _ _ _),⟨⟩⟩ fun yw1 v1 hg h1=>?_;simp only[fzw];clear h1;replace G:=G.trans hg;replace c0:=c0.gr hg;replace c1:=c1.gr hg;clear hg
 go_upto_region 3 with fail
 refine wp_wS [.c (pv (w.heap.size+1) 18),.F,.F] [1] ⟨.o 4 18 c1 rfl (by exact pnt_18 _ _ _),⟨⟩⟩ fun yw3 v2 hg h3=>?_;simp only[fzw];clear h3;replace G:=G.trans hg;replace c0:=c0.gr hg;replace c1:=c1.gr hg;clear hg
 go_upto_region 5 with fail
 refine wp_wS [.c (pv (w.heap.size) 0),.N x1,.c (pv (w.heap.size+1) 0),.N x2,.F,.F] [1,3,4] ⟨.g 25 0 c0 rfl,.g 25 0 c1 rfl,.s (.binOp .neq 25 (.const (.agg (nw 9 x1))) (.const (.agg (nw 9 x2))) 25) rfl fun vv hg=>by simp[go_sem,exI,neNat,e1],⟨⟩⟩ fun yw5 v3 hg h5=>?_;simp only[fzw];clear h5;replace G:=G.trans hg;replace c0:=c0.gr hg;replace c1:=c1.gr hg
 go_upto_region 7 with fail
 refine wp_wS [.c (.agg (pnt x1 y1 false)),.c (.agg (pnt x2 y2 false)),.F,.F,.u,.u,.u,.u,.F,.F] [0,1,2] ⟨.g 27 0 c0 rfl,.g 27 0 c1 rfl,.s (.binOp .eql 27 (.const (.agg (pnt x1 y1 false))) (.const (.agg (pnt x2 y2 false))) 27) rfl fun vv hg=>by simp[go_sem,exI,eqPn,e1,e2],⟨⟩⟩ fun yw7 v4 hg h7=>?_;simp only[fzw];replace G:=G.trans hg
 go_wp2_with fail
 go_ret
 exact⟨rfl,G⟩
theorem rel_5(x1 y1 x2 y2:Nat)(e1:eqN 9 x1 x2=true)(e2:eqN 9 y1 y2=true)(e3:eqN 9 y1 0=true)(w:World):
 Cg 68 #[.agg (pnt x1 y1 false),.agg (pnt x2 y2 false)] w (.int .i64 4):=by
 go_enter func68,ntmps68
 go_upto_region 1 with fail
 refine gen_w (fun v=>Hid (Gr w v∧Vr v (w.heap.size) (pnt x1 y1 false)∧Vr v (w.heap.size+1) (pnt x2 y2 false))) ⟨grA,vrA,vrA⟩ ?_;intro v0 HV;obtain⟨G,c0,c1⟩:=HV.out;clear HV;refine wp_wS [.c (pv (w.heap.size) 18),.F,.F] [1] ⟨.o 4 18 c0 rfl (by exact pnt_18 _ _ _),⟨⟩⟩ fun yw1 v1 hg h1=>?_;simp only[fzw];clear h1;replace G:=G.trans hg;replace c0:=c0.gr hg;replace c1:=c1.gr hg;clear hg
 go_upto_region 3 with fail
 refine wp_wS [.c (pv (w.heap.size+1) 18),.F,.F] [1] ⟨.o 4 18 c1 rfl (by exact pnt_18 _ _ _),⟨⟩⟩ fun yw3 v2 hg h3=>?_;simp only[fzw];clear h3;replace G:=G.trans hg;replace c0:=c0.gr hg;replace c1:=c1.gr hg;clear hg
 go_upto_region 5 with fail
 refine wp_wS [.c (pv (w.heap.size) 0),.N x1,.c (pv (w.heap.size+1) 0),.N x2,.F,.F] [1,3,4] ⟨.g 25 0 c0 rfl,.g 25 0 c1 rfl,.s (.binOp .neq 25 (.const (.agg (nw 9 x1))) (.const (.agg (nw 9 x2))) 25) rfl fun vv hg=>by simp[go_sem,exI,neNat,e1],⟨⟩⟩ fun yw5 v3 hg h5=>?_;simp only[fzw];clear h5;replace G:=G.trans hg;replace c0:=c0.gr hg;replace c1:=c1.gr hg
 go_upto_region 7 with fail
 refine wp_wS [.c (.agg (pnt x1 y1 false)),.c (.agg (pnt x2 y2 false)),.T,.T,.c (pv (w.heap.size) 9),.N y1,.N 0,.F,.F,.F] [0,1,2,5,7] ⟨.g 27 0 c0 rfl,.g 27 0 c1 rfl,.s (.binOp .eql 27 (.const (.agg (pnt x1 y1 false))) (.const (.agg (pnt x2 y2 false))) 27) rfl fun vv hg=>by simp[go_sem,exI,eqPn,e1,e2],.g 25 9 c0 rfl,.s (.binOp .neq 25 (.const (.agg (nw 9 y1))) (.const (.agg (nw 9 0))) 25) rfl fun vv hg=>by simp[go_sem,exI,neNat,e3],⟨⟩⟩ fun yw7 v4 hg h7=>?_;simp only[fzw];replace G:=G.trans hg
 go_wp2_with fail
 go_ret
 exact⟨rfl,G⟩
theorem gadd_of(id:Int)(P A B N X Y:Nat)(s z:Int)(l:Bool)(x1 y1 x2 y2 x3 y3:Nat)(f1 f2 f3:Bool)(r:Int)(f:Nat)(hid:∀w,(Instr.index 121 (.agg tabA) (.int .i64 r)).run prog w=.ok (.func (.func f) #[] #[]) w)(hcf:∀w,(callFunc f #[.agg (cu id P A B N X Y s z l),.agg (pnt x1 y1 f1),.agg (pnt x2 y2 f2)]).run prog w=.ok (.enter f #[.agg (cu id P A B N X Y s z l),.agg (pnt x1 y1 f1),.agg (pnt x2 y2 f2)]) w)(HR':∀w,Cg 68 #[.agg (pnt x1 y1 f1),.agg (pnt x2 y2 f2)] w (.int .i64 r))(HS':∀w,Calls prog f #[.agg (cu id P A B N X Y s z l),.agg (pnt x1 y1 f1),.agg (pnt x2 y2 f2)] w fun e w'=>e=.returned (.agg (pnt x3 y3 f3))∧Gr w w')(w:World):
 Cg 46 #[.agg (cu id P A B N X Y s z l),.agg (pnt x1 y1 f1),.agg (pnt x2 y2 f2)] w (.agg (pnt x3 y3 f3)):=by
 have HR:Hid _:=HR';have HS:Hid _:=HS';clear HR' HS'
 go_enter func46,ntmps46
 go_upto_region 1 with fail
 refine gen_w (fun v=>Hid (Gr w v∧Vr v (w.heap.size) (cu id P A B N X Y s z l)∧Vr v (w.heap.size+1) (pnt x1 y1 f1)∧Vr v (w.heap.size+1+1) (pnt x2 y2 f2)∧Vr v (w.heap.size+1+1+1) (pnt 0 0 false))) ⟨grA,vrA,vrA,vrA,vrA⟩ ?_;intro v0 HV;obtain⟨G,c0,c1,c2,c3⟩:=HV.out;clear HV;refine wp_wT 9 [.c (.agg tabA),.c (.agg (pnt x1 y1 f1)),.c (.agg (pnt x2 y2 f2)),.c (.int .i64 r),.c (.func (.func f) #[] #[]),.c (.agg (cu id P A B N X Y s z l)),.c (.agg (pnt x1 y1 f1)),.c (.agg (pnt x2 y2 f2)),.c (.agg (pnt x3 y3 f3))] [0,1,2,3,4,5,6,7,8] ⟨.z toSum_any,.g 27 0 c1 rfl,.g 27 0 c2 rfl,.z HR.out,.s (.index 121 (.const (.agg tabA)) (.const (.int .i64 r))) rfl fun vv hg=>by simp[go_sem,exI,hid],.g 88 0 c0 rfl,.g 27 0 c1 rfl,.g 27 0 c2 rfl,.kf (fun _ =>#[.agg (cu id P A B N X Y s z l),.agg (pnt x1 y1 f1),.agg (pnt x2 y2 f2)]) (fun _=>hcf) fun yy vv hg hh=>RtW.of_c (Rt.c (HS.out _)),⟨⟩⟩ (.s 27 (fun yy=>.pointer (some ⟨w.heap.size+1+1+1,0,none⟩)) (fun yy=>.agg (pnt x3 y3 f3)) fun yw1 v1 hg h1=>?_);have HT:=(c3.gr hg).h;have FT:=(c3.gr hg).f;refine⟨setBlk v1 (w.heap.size+1+1+1) (pnt x3 y3 f3),by simp[go_sem,exI,HT,FT],?_⟩;simp only[fzw];replace G:=G.trans hg
 go_wp2_with fail
 exact bodyPost_ret (res_one results46 (rd_pn (by rfl) (blk_setBlk _ _ _ (by rw[HT];decide +kernel)))) rfl ⟨rfl,gr_setNew G (by omega)⟩
theorem gdbladd_of(id:Int)(P A B N X Y:Nat)(s z:Int)(l:Bool)(x1 y1 x2 y2 x3 y3 x4 y4:Nat)(f1 f2 f3 f4:Bool)(H1':∀w,Cg 46 #[.agg (cu id P A B N X Y s z l),.agg (pnt x1 y1 f1),.agg (pnt x1 y1 f1)] w (.agg (pnt x3 y3 f3)))(H2':∀w,Cg 46 #[.agg (cu id P A B N X Y s z l),.agg (pnt x3 y3 f3),.agg (pnt x2 y2 f2)] w (.agg (pnt x4 y4 f4)))(w:World):
 Cg 88 #[.agg (cu id P A B N X Y s z l),.agg (pnt x1 y1 f1),.agg (pnt x2 y2 f2)] w (.agg (pnt x4 y4 f4)):=by
 have H1:Hid _:=H1';have H2:Hid _:=H2';clear H1' H2'
 go_enter func88,ntmps88
 go_upto_region 1 with fail
 refine gen_w (fun v=>Hid (Gr w v∧Vr v (w.heap.size) (cu id P A B N X Y s z l)∧Vr v (w.heap.size+1) (pnt x1 y1 f1)∧Vr v (w.heap.size+1+1) (pnt x2 y2 f2)∧Vr v (w.heap.size+1+1+1) (pnt 0 0 false))) ⟨grA,vrA,vrA,vrA,vrA⟩ ?_;intro v0 HV;obtain⟨G,c0,c1,c2,c3⟩:=HV.out;clear HV;refine wp_wT 7 [.c (.agg (cu id P A B N X Y s z l)),.c (.agg (cu id P A B N X Y s z l)),.c (.agg (pnt x1 y1 f1)),.c (.agg (pnt x1 y1 f1)),.c (.agg (pnt x3 y3 f3)),.c (.agg (pnt x2 y2 f2)),.c (.agg (pnt x4 y4 f4))] [0,1,2,3,4,5,6] ⟨.g 88 0 c0 rfl,.g 88 0 c0 rfl,.g 27 0 c1 rfl,.g 27 0 c1 rfl,.z H1.out,.g 27 0 c2 rfl,.z H2.out,⟨⟩⟩ (.s 27 (fun yy=>.pointer (some ⟨w.heap.size+1+1+1,0,none⟩)) (fun yy=>.agg (pnt x4 y4 f4)) fun yw1 v1 hg h1=>?_);have HT:=(c3.gr hg).h;have FT:=(c3.gr hg).f;refine⟨setBlk v1 (w.heap.size+1+1+1) (pnt x4 y4 f4),by simp[go_sem,exI,HT,FT],?_⟩;simp only[fzw];clear h1;replace G:=G.trans hg;replace c0:=c0.gr hg;replace c1:=c1.gr hg;replace c2:=c2.gr hg;replace c3:=c3.gr hg;clear hg
 go_wp2_with fail
 exact bodyPost_ret (res_one results88 (rd_pn (by rfl) (blk_setBlk _ _ _ (by rw[HT];decide +kernel)))) rfl ⟨rfl,gr_setNew G (by omega)⟩
theorem gdbl_of(id:Int)(P A B N X Y:Nat)(s z:Int)(l:Bool)(x1 y1 x2 y2 x3 y3:Nat)(f1 f2 f3:Bool)(H1':∀w,Cg 46 #[.agg (cu id P A B N X Y s z l),.agg (pnt x1 y1 f1),.agg (pnt x1 y1 f1)] w (.agg (pnt x3 y3 f3)))(w:World):
 Cg 87 #[.agg (cu id P A B N X Y s z l),.agg (pnt x1 y1 f1),.agg (pnt x2 y2 f2)] w (.agg (pnt x3 y3 f3)):=by
 have H1:Hid _:=H1';clear H1'
 go_enter func87,ntmps87
 go_upto_region 1 with fail
 refine gen_w (fun v=>Hid (Gr w v∧Vr v (w.heap.size) (cu id P A B N X Y s z l)∧Vr v (w.heap.size+1) (pnt x1 y1 f1)∧Vr v (w.heap.size+1+1) (pnt x2 y2 f2)∧Vr v (w.heap.size+1+1+1) (pnt 0 0 false))) ⟨grA,vrA,vrA,vrA,vrA⟩ ?_;intro v0 HV;obtain⟨G,c0,c1,c2,c3⟩:=HV.out
 have k0:v0.cell? ⟨w.heap.size,0,none⟩=some (.int .i64 id):=by rw[c0.cell];exact cu_0 id P A B N X Y s z l
 have hh0:=c0.al;have hh1:=c1.al;have hh2:=c2.al;have hh3:=c3.al;clear HV c0 c1 c2 c3
 go_wp2_with (first
  | (go_at_call_of 46 ((#[.agg (cu id P A B N X Y s z l),.agg (pnt x1 y1 f1),.agg (pnt x1 y1 f1)]:Array Value));refine(H1.out _).mono ?_;rintro e w' ⟨rfl,g0,rfl⟩))
 refine bodyPost_ret (res_one results87 (rd_pn (by rfl) ?_)) rfl ⟨rfl,?_⟩
 ·simp[go_sem, *]
 ·exact grB
attribute [local go_sem ↓] buildN_is
attribute [local go_sem] storePY pnt_setY buildN0
end
end
section
theorem gdiffF{k:Nat}(h1:1≤k)(h2:k≤15)(a b:Fin (pN k))(w:World):Cg 127 #[.agg (cu (k:Int) (pN k) (aN k) (bN k) (oN k) (xN k) (yN k) (bl (oN k)) (szN k) (lgN k)),.agg (nw 9 a.val),.agg (nw 9 b.val)] w (.agg (nw 9 (a-b).val)):=gdiff_of _ _ _ _ _ _ _ _ _ _ _ _ _ (fsubF h1 h2 a b) w
theorem gprodF{k:Nat}(h1:1≤k)(h2:k≤15)(a b:Fin (pN k))(w:World):Cg 129 #[.agg (cu (k:Int) (pN k) (aN k) (bN k) (oN k) (xN k) (yN k) (bl (oN k)) (szN k) (lgN k)),.agg (nw 9 a.val),.agg (nw 9 b.val)] w (.agg (nw 9 (a*b).val)):=gprod_of _ _ _ _ _ _ _ _ _ _ _ _ _ (fmulF h1 h2 a b) w
theorem gquotF{k:Nat}(h1:1≤k)(h2:k≤15)[NeZero (pN k)](a b:Fin (pN k))(hb:b≠0)(w:World):Cg 126 #[.agg (cu (k:Int) (pN k) (aN k) (bN k) (oN k) (xN k) (yN k) (bl (oN k)) (szN k) (lgN k)),.agg (nw 9 a.val),.agg (nw 9 b.val)] w (.agg (nw 9 (a*EC.iP (pN k) b).val)):=gquot_of _ _ _ _ _ _ _ _ _ _ _ _ _ _ (finvF h1 h2 b hb) (gprodF h1 h2 a _) w
def accF{p:Nat}[NeZero p](F:Nat→Fin p):Nat→Fin p
 | 0=>0
 | n+1=>accF F n+F n
theorem gsumF{k:Nat}(h1:1≤k)(h2:k≤15)[NeZero (pN k)](F:Nat→Fin (pN k))(n:Nat)(hn:n≤4)(c:Array Value)(hrow:∀i,i<n→c.extract (i*9) (i*9+9)=nw 9 (F i).val)(hsz:n*9≤c.size)(b:Nat)(w:World)(hv:Vr w b c):
 Cg 130 #[.agg (cu (k:Int) (pN k) (aN k) (bN k) (oN k) (xN k) (yN k) (bl (oN k)) (szN k) (lgN k)),.slice (some ⟨b,0,none⟩) n n] w (.agg (nw 9 (accF F n).val)):=
 gsum_of _ _ _ _ _ _ _ _ _ _ n hn (fun i=>(F i).val) (fun i=>(accF F i).val) c (Fin.val_zero _) hrow hsz (fun _ _ w=>faddF h1 h2 _ _ w) b n w hv
theorem gsum2F{k:Nat}(h1:1≤k)(h2:k≤15)[NeZero (pN k)](x y:Fin (pN k))(w:World)(b:Nat)(hv:Vr w b (nw 9 x.val++nw 9 y.val)):
 Cg 130 #[.agg (cu (k:Int) (pN k) (aN k) (bN k) (oN k) (xN k) (yN k) (bl (oN k)) (szN k) (lgN k)),.slice (some ⟨b,0,none⟩) 2 2] w (.agg (nw 9 (x+y).val)):=by
 have h:=gsumF h1 h2 (fun i=>match i with|0=>x|_=>y) 2 (by decide) _ (fun i hi=>by
  obtain rfl|rfl:i=0∨i=1:=by omega
  ·kernel_rfl
  ·kernel_rfl) (by simp[nw_size]) b w hv
 rw[show accF (fun i=>match i with|0=>x|_=>y) 2=x+y by show 0+x+y=x+y;grobner]at h;exact h
theorem gsum4F{k:Nat}(h1:1≤k)(h2:k≤15)[NeZero (pN k)](x y z u:Fin (pN k))(w:World)(b:Nat)(hv:Vr w b (nw 9 x.val++nw 9 y.val++nw 9 z.val++nw 9 u.val)):
 Cg 130 #[.agg (cu (k:Int) (pN k) (aN k) (bN k) (oN k) (xN k) (yN k) (bl (oN k)) (szN k) (lgN k)),.slice (some ⟨b,0,none⟩) 4 4] w (.agg (nw 9 (x+y+z+u).val)):=by
 have h:=gsumF h1 h2 (fun i=>match i with|0=>x|1=>y|2=>z|_=>u) 4 (by decide) _ (fun i hi=>by
  obtain rfl|rfl|rfl|rfl:i=0∨i=1∨i=2∨i=3:=by omega
  ·kernel_rfl
  ·kernel_rfl
  ·kernel_rfl
  ·kernel_rfl) (by simp[nw_size]) b w hv
 rw[show accF (fun i=>match i with|0=>x|1=>y|2=>z|_=>u) 4=x+y+z+u by show 0+x+y+z+u=x+y+z+u;grobner]at h;exact h
theorem galongF{k:Nat}(h1:1≤k)(h2:k≤15)[NeZero (pN k)](m x1 y1 x2 y2:Fin (pN k))(w:World):
 Cg 128 #[.agg (cu (k:Int) (pN k) (aN k) (bN k) (oN k) (xN k) (yN k) (bl (oN k)) (szN k) (lgN k)),.agg (nw 9 m.val),.agg (pnt x1.val y1.val false),.agg (pnt x2.val y2.val false)] w (.agg (pnt (ex (some (EC.sx m x1 x2,EC.sy m x1 y1 (EC.sx m x1 x2)))) (ey (some (EC.sx m x1 x2,EC.sy m x1 y1 (EC.sx m x1 x2)))) (ef (some (EC.sx m x1 x2,EC.sy m x1 y1 (EC.sx m x1 x2)))))):=by
 have e:m*m-(x1+x2)=EC.sx m x1 x2:=by unfold EC.sx;grobner
 have h3:=gdiffF h1 h2 (m*m) (x1+x2);rw[e]at h3;exact galong_of _ _ _ _ _ _ _ _ _ _ _ _ _ _ _ _ _ _ _ _ _ (gprodF h1 h2 m m) h3 (gdiffF h1 h2 x1 _) (gprodF h1 h2 m _) (gdiffF h1 h2 _ y1) (gsum2F h1 h2 x1 x2) w
theorem gadd_any{k:Nat}(h1:1≤k)(h2:k≤15)[NeZero (pN k)](Q1 Q2:Option (Fin (pN k)×Fin (pN k)))(w:World):
 Cg 46 #[.agg (cu (k:Int) (pN k) (aN k) (bN k) (oN k) (xN k) (yN k) (bl (oN k)) (szN k) (lgN k)),.agg (pnt (ex Q1) (ey Q1) (ef Q1)),.agg (pnt (ex Q2) (ey Q2) (ef Q2))] w (.agg (pnt (ex (EC.pl (EC.iP (pN k)) (EC.aF k h1 h2) Q1 Q2)) (ey (EC.pl (EC.iP (pN k)) (EC.aF k h1 h2) Q1 Q2)) (ef (EC.pl (EC.iP (pN k)) (EC.aF k h1 h2) Q1 Q2)))):=by
 have C:=EC.curN k h1 h2;have hM:=pN_M k;have z:(0:Fin (pN k)).val=0:=Fin.val_zero _
 have eqF:∀a b:Fin (pN k),eqN 9 a.val b.val=decide (a=b):=fun a b=>by
  rw[eqN9 _ _ (Nat.lt_trans a.isLt hM) (Nat.lt_trans b.isLt hM)];exact decide_eq_decide.2 Fin.ext_iff.symm
 match Q1,Q2 with
 | none,Q2=>exact gadd_of _ _ _ _ _ _ _ _ _ _ _ _ _ _ _ _ _ _ _ 0 89 (fun w=>by kernel_rfl) (fun w=>by kernel_rfl) (rel_0 _ _ _ _ _) (gright_any _ _ _ _ _ _ _ _ _ _ _ _ _ _ _ _) w
 | some (x1,y1),none=>exact gadd_of _ _ _ _ _ _ _ _ _ _ _ _ _ _ _ _ _ _ _ 1 90 (fun w=>by kernel_rfl) (fun w=>by kernel_rfl) (rel_1 _ _ _ _) (gleft_any _ _ _ _ _ _ _ _ _ _ _ _ _ _ _ _) w
 | some (x1,y1),some (x2,y2)=>
  by_cases hx:x1=x2
  ·subst hx;have e1:eqN 9 x1.val x1.val=true:=eqN_self _ _
   by_cases hy:y1=y2
   ·subst hy;have e2:eqN 9 y1.val y1.val=true:=eqN_self _ _
    by_cases h0:y1=0
    ·have e:EC.pl (EC.iP (pN k)) (EC.aF k h1 h2) (some (x1,y1)) (some (x1,y1))=none:=by simp[EC.pl,h0]
     rw[e];exact gadd_of _ _ _ _ _ _ _ _ _ _ _ _ _ _ _ _ _ _ _ 4 93 (fun w=>by kernel_rfl) (fun w=>by kernel_rfl) (rel_5 _ _ _ _ e1 e2 (z▸(eqF y1 0).trans (decide_eq_true h0))) (ginf_any _ _ _ _ _ _ _ _ _ _ _ _ _ _ _ _) w
    ·have hs:y1+y1≠0:=fun h=>h0 (C.dbl h)
     have e:EC.pl (EC.iP (pN k)) (EC.aF k h1 h2) (some (x1,y1)) (some (x1,y1))=some (EC.sx ((x1*x1+(x1*x1+x1*x1)+EC.aF k h1 h2)*EC.iP (pN k) (y1+y1)) x1 x1,EC.sy ((x1*x1+(x1*x1+x1*x1)+EC.aF k h1 h2)*EC.iP (pN k) (y1+y1)) x1 y1 (EC.sx ((x1*x1+(x1*x1+x1*x1)+EC.aF k h1 h2)*EC.iP (pN k) (y1+y1)) x1 x1)):=by simp[EC.pl,h0]
     rw[e];have h4:=gsum4F h1 h2 (x1*x1) (x1*x1) (x1*x1) (EC.aF k h1 h2);rw[show x1*x1+x1*x1+x1*x1+EC.aF k h1 h2=x1*x1+(x1*x1+x1*x1)+EC.aF k h1 h2 by grobner]at h4;exact gadd_of _ _ _ _ _ _ _ _ _ _ _ _ _ _ _ _ _ _ _ 3 92 (fun w=>by kernel_rfl) (fun w=>by kernel_rfl) (rel_3 _ _ _ _ e1 e2 (z▸(eqF y1 0).trans (decide_eq_false h0))) (gtang_of _ _ _ _ _ _ _ _ _ _ _ _ _ _ _ _ _ _ _ _ (gprodF h1 h2 x1 x1) (gquotF h1 h2 _ _ hs) h4 (gsum2F h1 h2 y1 y1) (galongF h1 h2 _ x1 y1 x1 y1)) w
   ·have e:EC.pl (EC.iP (pN k)) (EC.aF k h1 h2) (some (x1,y1)) (some (x1,y2))=none:=by simp[EC.pl,hy]
    rw[e];exact gadd_of _ _ _ _ _ _ _ _ _ _ _ _ _ _ _ _ _ _ _ 4 93 (fun w=>by kernel_rfl) (fun w=>by kernel_rfl) (rel_4 _ _ _ _ e1 ((eqF y1 y2).trans (decide_eq_false hy))) (ginf_any _ _ _ _ _ _ _ _ _ _ _ _ _ _ _ _) w
  ·have hs:x2-x1≠0:=fun h=>hx (EC.sub_zero_of h).symm
   have e:EC.pl (EC.iP (pN k)) (EC.aF k h1 h2) (some (x1,y1)) (some (x2,y2))=some (EC.sx ((y2-y1)*EC.iP (pN k) (x2-x1)) x1 x2,EC.sy ((y2-y1)*EC.iP (pN k) (x2-x1)) x1 y1 (EC.sx ((y2-y1)*EC.iP (pN k) (x2-x1)) x1 x2)):=by simp[EC.pl,hx]
   rw[e];exact gadd_of _ _ _ _ _ _ _ _ _ _ _ _ _ _ _ _ _ _ _ 2 91 (fun w=>by kernel_rfl) (fun w=>by kernel_rfl) (rel_2 _ _ _ _ ((eqF x1 x2).trans (decide_eq_false hx))) (gchord_of _ _ _ _ _ _ _ _ _ _ _ _ _ _ _ _ _ _ _ (gdiffF h1 h2 y2 y1) (gdiffF h1 h2 x2 x1) (gquotF h1 h2 _ _ hs) (galongF h1 h2 _ x1 y1 x2 y2)) w
theorem gaddQ{k:Nat}(h1:1≤k)(h2:k≤15){P Q R:Q3}(hP:OnQ k P)(hQ:OnQ k Q)(hR:plQ k P Q=R)(w:World):
 Cg 46 #[.agg (cu (k:Int) (pN k) (aN k) (bN k) (oN k) (xN k) (yN k) (bl (oN k)) (szN k) (lgN k)),.agg (pnQ P),.agg (pnQ Q)] w (.agg (pnQ R)):=by
 haveI:=EC.nzP k h1 h2
 obtain⟨a1,a2,a3⟩:=dec3 hP;obtain⟨b1,b2,b3⟩:=dec3 hQ;have h:=gadd_any h1 h2 (decQ (pN k) P) (decQ (pN k) Q) w;rw[a1,a2,a3,b1,b2,b3]at h;rw[←hR,plQ_is h1 h2];exact h
theorem gdblQ{k:Nat}(h1:1≤k)(h2:k≤15){P Q R:Q3}(hP:OnQ k P)(hR:plQ k P P=R)(w:World):
 Cg 87 #[.agg (cu (k:Int) (pN k) (aN k) (bN k) (oN k) (xN k) (yN k) (bl (oN k)) (szN k) (lgN k)),.agg (pnQ P),.agg (pnQ Q)] w (.agg (pnQ R)):=gdbl_of _ _ _ _ _ _ _ _ _ _ _ _ _ _ _ _ _ _ _ (gaddQ h1 h2 hP hP hR) w
theorem gdbladdQ{k:Nat}(h1:1≤k)(h2:k≤15){P Q R T:Q3}(hP:OnQ k P)(hQ:OnQ k Q)(hR:plQ k P P=R)(hT:plQ k R Q=T)(w:World):
 Cg 88 #[.agg (cu (k:Int) (pN k) (aN k) (bN k) (oN k) (xN k) (yN k) (bl (oN k)) (szN k) (lgN k)),.agg (pnQ P),.agg (pnQ Q)] w (.agg (pnQ T)):=gdbladd_of _ _ _ _ _ _ _ _ _ _ _ _ _ _ _ _ _ _ _ _ _ _ (gaddQ h1 h2 hP hP hR) (gaddQ h1 h2 (hR▸plQ_on h1 h2 hP hP) hQ hT) w
end
section
attribute [local go_sem ↓] uz1
attribute [local go_sem] uz2
section
attribute [local go_sem] uz8
attribute [local go_sem ↓] uz15 Go.wp_at_zero Go.wp_at_succ
attribute [local go_sem] uz16
theorem gmulQ{k:Nat}(h1:1≤k)(h2:k≤15){P:Q3}(hP:OnQ k P)(t:Nat)(ht:t<M)(w:World):
 Cg 45 #[.agg (cu (k:Int) (pN k) (aN k) (bN k) (oN k) (xN k) (yN k) (bl (oN k)) (szN k) (lgN k)),.agg (nw 9 t),.agg (pnt P.1 P.2.1 P.2.2)] w (.agg (pnQ (mlQ k t P))):=by
 obtain⟨L,hL⟩:=exl (bl t)
 have hL1:(L:Int)≤576:=by have:=bl_576 t ht;omega
 have hL0:(0:Int)≤(L:Int):=by omega
 have HB:Hid (∀w,Cg 64 #[.agg (nw 9 t)] w (.int .i64 (L:Int))):=fun w=>hL▸bits_any t ht w;have HZ:Hu (t/2^L=0):=fun _=>Nat.div_eq_of_lt (hL▸(bl_le t (bl t)).1 (Nat.le_refl _))
 have HLk:Hu (L≤576):=fun _=>by omega
 clear hL ht
 go_enter func45,ntmps45
 go_upto_region 1 with fail
 refine gen_w (fun wr=>Hid (Gr w wr∧Vr wr (w.heap.size) (cu (k:Int) (pN k) (aN k) (bN k) (oN k) (xN k) (yN k) (bl (oN k)) (szN k) (lgN k))∧Vr wr (w.heap.size+1) (nw 9 t)∧Vr wr (w.heap.size+1+1) (pnt P.1 P.2.1 P.2.2)∧Vr wr (w.heap.size+1+1+1) (pnt 0 0 false)∧wr.heap.size=w.heap.size+1+1+1+1)) ⟨grA,vrA,vrA,vrA,vrA,by simp⟩ ?_;intro v0 HV;obtain⟨G,c0,c1,c2,c3,hsz⟩:=HV.out;have⟨hh0,ff0,pp0⟩:=c0;have hh1:=c1.al;clear HV
 go_upto_region 3 with (go_at_call 64;refine(HB.out _).mono ?_;rintro e w' ⟨rfl,g,rfl⟩)
 refine gen_w (fun wr=>Hid (Gr w wr∧Vr wr (w.heap.size) (cu (k:Int) (pN k) (aN k) (bN k) (oN k) (xN k) (yN k) (bl (oN k)) (szN k) (lgN k))∧Vr wr (w.heap.size+1) (nw 9 t)∧Vr wr (w.heap.size+1+1) (pnt P.1 P.2.1 P.2.2)∧Vr wr (w.heap.size+1+1+1) (pnt 0 0 false)∧Vr wr (w.heap.size+1+1+1+1) (pnt inf.1 inf.2.1 inf.2.2))) ?_ ?_
 ·have hG:Gr v0 (gro (v0.alloc (.cells (pnt 0 0 true) 27)) g):=grA;have hn:Vr (gro (v0.alloc (.cells (pnt 0 0 true) 27)) g) v0.heap.size (pnt 0 0 true):=(Vr.new v0 _ _).gr grA;rw[hsz]at hn;exact⟨G.trans hG,c0.gr hG,c1.gr hG,c2.gr hG,c3.gr hG,hn⟩
 intro v1 HV;clear HB
 go_loopw [8] (fun ia wr=>∃j:Nat,ia=.int .i64 ((j:Int)-1)∧Hu (j≤L)∧Hid (Gr w wr∧Vr wr (w.heap.size) (cu (k:Int) (pN k) (aN k) (bN k) (oN k) (xN k) (yN k) (bl (oN k)) (szN k) (lgN k))∧Vr wr (w.heap.size+1) (nw 9 t)∧Vr wr (w.heap.size+1+1) (pnt P.1 P.2.1 P.2.2)∧Vr wr (w.heap.size+1+1+1) (pnt 0 0 false)∧Vr wr (w.heap.size+1+1+1+1) (pnt (mlQ k (t/2^j) P).1 (mlQ k (t/2^j) P).2.1 (mlQ k (t/2^j) P).2.2))) (fun ia _=>(intOf ia+1).toNat)
 case atStart=>
  refine⟨L,rfl,fun _=>Nat.le_refl _,?_⟩;rw[HZ.out (),mlQ_zero h1 h2];exact HV
 case round=>
  clear HV;obtain⟨j,rfl,HJ,HR⟩:=hrel
  by_cases hpos:0<j
  ·obtain⟨i0,rfl⟩:∃i,j=i+1:=⟨j-1,by omega⟩
   have e1:(((i0+1:Nat):Int)-1)=(i0:Int):=by omega
   rw[e1]
   have j0:(0:Int)≤(i0:Int):=by omega
   have j1:(i0:Int)<576:=by have:=HJ.out ();have:=HLk.out ();omega
   have HJ2:i0≤L:=by have:=HJ.out ();omega
   have hi0:i0<576:=by omega
   obtain⟨R,hR⟩:=exl (mlQ k (t/2^(i0+1)) P);obtain⟨R1,hR1⟩:=exl (plQ k R R);obtain⟨T,hT⟩:=exl (plQ k R1 P);have hRon:OnQ k R:=hR▸mlQ_on h1 h2 _ hP;rw[hR]at HR;obtain⟨G,c0,c1,c2,c3,c4⟩:=HR.out
   have hdiv:∀b,t/2^i0%2=b→t/2^i0=t/2^(i0+1)+t/2^(i0+1)+b:=fun b hb=>by
    rw[Nat.pow_succ,←Nat.div_div_eq_div_mul];omega
   have h12:mlQ k (t/2^(i0+1)+t/2^(i0+1)) P=R1:=by rw[mlQ_add h1 h2 _ _ hP,hR,hR1]
   have hbt:=bit_any t i0 hi0;clear HR HJ hpos e1
   obtain hb|hb:t/2^i0%2=0∨t/2^i0%2=1:=by omega
   ·have hR3:R1=mlQ k (t/2^i0) P:=by rw[hdiv 0 hb,Nat.add_zero,h12]
    have HB:Hid (∀w,Cg 66 #[.agg (nw 9 t),.int .i64 (i0:Int)] w (.int .i64 0)):=by
     rw[show bitN t i0=0 from hb]at hbt;exact hbt
    have HS:Hid _:=gdblQ h1 h2 (Q:=P) hRon hR1;clear hb h12 hdiv hbt hi0
    go_upto_region 5 with fail
    refine wp_wT 9 [.c (.agg tabB),.N t,.c (.int .i64 (i0:Int)),.O,.c (.func (.func 87) #[] #[]),.c (.agg (cu (k:Int) (pN k) (aN k) (bN k) (oN k) (xN k) (yN k) (bl (oN k)) (szN k) (lgN k))),.c (.agg (pnt R.1 R.2.1 R.2.2)),.c (.agg (pnt P.1 P.2.1 P.2.2)),.c (.agg (pnt R1.1 R1.2.1 R1.2.2))] [0,1,3,5,6,7,8] ⟨.z toProduct_any,.g 25 0 c1 rfl,.z HB.out,.g 88 0 c0 rfl,.g 27 0 c4 rfl,.g 27 0 c2 rfl,.z HS.out,⟨⟩⟩ (.s 27 (fun yy=>.pointer (some ⟨w.heap.size+1+1+1+1,0,none⟩)) (fun yy=>.agg (pnt R1.1 R1.2.1 R1.2.2)) fun yw5 v1 hg h5=>?_);have HT:=(c4.gr hg).h;have FT:=(c4.gr hg).f;refine⟨setBlk v1 (w.heap.size+1+1+1+1) (pnt R1.1 R1.2.1 R1.2.2),by simp[go_sem,exI,HT,FT],?_⟩;simp only[fzw];clear h5;replace G:=G.trans hg;replace c0:=c0.gr hg;replace c1:=c1.gr hg;replace c2:=c2.gr hg;replace c3:=c3.gr hg;replace c4:=c4.gr hg;clear hg
    go_wp2_with fail
    go_roundw
    case rel=>
     refine⟨i0,by simp,fun _=>HJ2,?_⟩;rw[←hR3];exact⟨gr_setNew G (by omega),c0.other (by omega),c1.other (by omega),c2.other (by omega),c3.other (by omega),c4.set (by rw[pnt_size];decide) _⟩
    case measure=>simp[intOf]
   ·have hR3:T=mlQ k (t/2^i0) P:=by rw[hdiv 1 hb,mlQ_add h1 h2 _ _ hP,h12,mlQ_one h1 h2 hP,hT]
    have HB:Hid (∀w,Cg 66 #[.agg (nw 9 t),.int .i64 (i0:Int)] w (.int .i64 1)):=by
     rw[show bitN t i0=1 from hb]at hbt;exact hbt
    have HS:Hid _:=gdbladdQ h1 h2 hRon hP hR1 hT;clear hb h12 hdiv hbt hi0
    go_upto_region 5 with fail
    refine wp_wT 9 [.c (.agg tabB),.N t,.c (.int .i64 (i0:Int)),.c (.int .i64 1),.c (.func (.func 88) #[] #[]),.c (.agg (cu (k:Int) (pN k) (aN k) (bN k) (oN k) (xN k) (yN k) (bl (oN k)) (szN k) (lgN k))),.c (.agg (pnt R.1 R.2.1 R.2.2)),.c (.agg (pnt P.1 P.2.1 P.2.2)),.c (.agg (pnt T.1 T.2.1 T.2.2))] [0,1,3,5,6,7,8] ⟨.z toProduct_any,.g 25 0 c1 rfl,.z HB.out,.g 88 0 c0 rfl,.g 27 0 c4 rfl,.g 27 0 c2 rfl,.z HS.out,⟨⟩⟩ (.s 27 (fun yy=>.pointer (some ⟨w.heap.size+1+1+1+1,0,none⟩)) (fun yy=>.agg (pnt T.1 T.2.1 T.2.2)) fun yw5 v1 hg h5=>?_);have HT:=(c4.gr hg).h;have FT:=(c4.gr hg).f;refine⟨setBlk v1 (w.heap.size+1+1+1+1) (pnt T.1 T.2.1 T.2.2),by simp[go_sem,exI,HT,FT],?_⟩;simp only[fzw];clear h5;replace G:=G.trans hg;replace c0:=c0.gr hg;replace c1:=c1.gr hg;replace c2:=c2.gr hg;replace c3:=c3.gr hg;replace c4:=c4.gr hg;clear hg
    go_wp2_with fail
    go_roundw
    case rel=>
     refine⟨i0,by simp,fun _=>HJ2,?_⟩;rw[←hR3];exact⟨gr_setNew G (by omega),c0.other (by omega),c1.other (by omega),c2.other (by omega),c3.other (by omega),c4.set (by rw[pnt_size];decide) _⟩
    case measure=>simp[intOf]
  ·obtain rfl:j=0:=by omega
   rw[Nat.pow_zero,Nat.div_one]at HR;obtain⟨R,hR⟩:=exl (mlQ k t P);rw[hR]at HR;obtain⟨G,c0,c1,c2,c3,c4⟩:=HR.out;have⟨h3,f3,p3⟩:=c3;have⟨h4,f4,p4⟩:=c4;clear HR HJ hpos
   go_wp2_with fail
   refine bodyPost_ret (res_one results45 (rd_pn (x:=R.1) (y:=R.2.1) (f:=R.2.2) (by rfl) ?_)) rfl ⟨by rw[hR],gr_setNew G (by omega)⟩;simp[go_sem,h3]
end
section
attribute [local go_sem] uz8
attribute [local go_sem ↓] uz15 Go.wp_at_zero Go.wp_at_succ
attribute [local go_sem] uz16
theorem gf_yes{k:Nat}(h1:1≤k)(h2:k≤15)(n:Nat)(hn:n≤2)(F:Nat→Q3)(hF:∀i,i<n→(F i).1<M∧(F i).2.1<M)(c:Array Value)(hrow:∀i,i<n→c.extract (i*19) (i*19+19)=pnQ (F i))(hsz:n*19≤c.size)(hon:∀i,i<n→onB k (F i).1 (F i).2.1 (F i).2.2=true)(b cap:Nat)(w:World)(hv:Vr w b c):
 Cg 44 #[.int .i64 (k:Int),.slice (some ⟨b,0,none⟩) n cap] w (.tuple #[.agg (cu (k:Int) (pN k) (aN k) (bN k) (oN k) (xN k) (yN k) (bl (oN k)) (szN k) (lgN k)),.int .i64 0]):=by
 have HG:Hid (∀w,Cg 30 #[.int .i64 (k:Int)] w (.tuple #[.agg (cu (k:Int) (pN k) (aN k) (bN k) (oN k) (xN k) (yN k) (bl (oN k)) (szN k) (lgN k)),.int .i64 0])):=fun w=>get13_yes k h1 h2 w;have HN:Hu (n≤2):=fun _=>hn;have HB:Hid _:=hF;have HO:Hid _:=hon
 have HL:Hid (∀j,j<n→∀v,Gr w v→(loadS 27 (.pointer (some ⟨b,j*19,none⟩))).run prog v=.ok (.agg (pnt (F j).1 (F j).2.1 (F j).2.2)) v):=fun j hj v g=>by
  have hb:=(hv.gr g).h;rw[loadPartP v b (j*19) (by rw[hb];omega),hb,hrow j hj]
 clear hn hF hrow hsz hon
 go_enter func44,ntmps44
 go_wp2_with (go_at_call 30;refine(HG.out _).mono ?_;rintro e WA ⟨rfl,GA⟩)
 obtain⟨e6,he6⟩:=exl (WA.heap.size);simp only[he6]
 refine gen_w (fun wr=>Hid (Gr w wr∧Vr wr (w.heap.size) (cu 0 0 0 0 0 0 0 0 0 false)∧Vr wr e6 (cu (k:Int) (pN k) (aN k) (bN k) (oN k) (xN k) (yN k) (bl (oN k)) (szN k) (lgN k)))) ?_ ?_
 ·subst he6;exact⟨(((Gr.refl w).alloc _).trans GA).alloc _,((Vr.new w _ _).gr GA).gr ((Gr.refl _).alloc _),Vr.new WA _ _⟩
 have hne:w.heap.size<e6:=by have:=GA.below.size;simp at this;omega
 have hne2:¬(w.heap.size=e6):=by omega
 have hne3:¬(e6=w.heap.size):=by omega
 clear he6 GA HG;intro v0 HV
 go_loopw [20] (fun ia wr=>∃j:Nat,ia=.int .i64 (j:Int)∧Hu (j≤n)∧Hid (Gr w wr∧Vr wr (w.heap.size) (cu 0 0 0 0 0 0 0 0 0 false)∧Vr wr e6 (cu (k:Int) (pN k) (aN k) (bN k) (oN k) (xN k) (yN k) (bl (oN k)) (szN k) (lgN k)))) (fun ia _=>((n:Int)-intOf ia).toNat)
 case atStart=>exact⟨0,rfl,fun _=>Nat.zero_le _,HV⟩
 case round=>
  clear HV;obtain⟨j,rfl,HJ,HV⟩:=hrel;obtain⟨G,c0,c6⟩:=HV.out
  have j0:(0:Int)≤(j:Int):=by omega
  have n4:(n:Int)≤2:=by have:=HN.out ();omega
  have⟨hh0,ff0,pp0⟩:=c0;have⟨hh6,ff6,pp6⟩:=c6
  by_cases hlt:j<n
  ·have hjn:j<n:=by exact hlt
   have ld0:=HL.out j hjn wr G
   have HO2:Hid _:=fun w=>by
    have:=on13_yes k h1 h2 _ _ (F j).2.2 (HB.out j hjn).1 (HB.out j hjn).2 w;rw[HO.out j hlt]at this;exact this
   go_wp2_with (go_at_call 31;refine(HO2.out _).mono ?_;rintro e w' ⟨rfl,g,rfl⟩)
   go_roundw
   case rel=>
    refine⟨j+1,by go_num,fun _=>hlt,?_,⟨by simp[go_sem, *],by simp[go_sem, *],by simp[go_sem, *]⟩,⟨by simp[go_sem, *],by simp[go_sem, *],by simp[go_sem, *]⟩⟩;exact grB
   case measure=>simp[intOf];omega
  ·skip
   go_wp2_with fail
   refine bodyPost_ret (res_two results44 (rd_gp (by rfl) ?_) (rd_tmp (by rfl))) rfl ⟨rfl,?_⟩
   ·simp[go_sem, *]
   ·exact grB
end
section
attribute [local go_sem] uz8
attribute [local go_sem ↓] uz15 Go.wp_at_zero Go.wp_at_succ
attribute [local go_sem] uz16
theorem aadd_yes{k:Nat}{P Q R:Q3}(HG':(∀w b,Vr w b (pnt P.1 P.2.1 P.2.2++pnt Q.1 Q.2.1 Q.2.2)→Cg 44 #[.int .i64 (k:Int),.slice (some ⟨b,0,none⟩) 2 2] w (.tuple #[.agg (cu (k:Int) (pN k) (aN k) (bN k) (oN k) (xN k) (yN k) (bl (oN k)) (szN k) (lgN k)),.int .i64 0])))(HA':∀w,Cg 46 #[.agg (cu (k:Int) (pN k) (aN k) (bN k) (oN k) (xN k) (yN k) (bl (oN k)) (szN k) (lgN k)),.agg (pnt P.1 P.2.1 P.2.2),.agg (pnt Q.1 Q.2.1 Q.2.2)] w (.agg (pnt R.1 R.2.1 R.2.2)))(w:World):
 Cg 23 #[.int .i64 (k:Int),.agg (pnt P.1 P.2.1 P.2.2),.agg (pnt Q.1 Q.2.1 Q.2.2)] w (.tuple #[.agg (pnt R.1 R.2.1 R.2.2),.int .i64 0]):=by
 have HG:Hid _:=HG';have HA:Hid _:=HA';clear HG' HA'
 go_enter func23,ntmps23
 go_upto_region 1 with fail
 refine gen_w (fun v=>Hid (Gr w v∧Vr v (w.heap.size) (pnt P.1 P.2.1 P.2.2)∧Vr v (w.heap.size+1) (pnt Q.1 Q.2.1 Q.2.2)∧Vr v (w.heap.size+1+1) (pnt 0 0 false))) ⟨grA,vrA,vrA,vrA⟩ ?_;intro v0 HV;obtain⟨G,c0,c1,c2⟩:=HV.out;clear HV;refine wp_v false [.c (.int .i64 (k:Int)),.c (.agg (pnt P.1 P.2.1 P.2.2)),.c (.agg (pnt Q.1 Q.2.1 Q.2.2)),.r 2 (pnt P.1 P.2.1 P.2.2++pnt Q.1 Q.2.1 Q.2.2),.c (.tuple #[.agg (cu (k:Int) (pN k) (aN k) (bN k) (oN k) (xN k) (yN k) (bl (oN k)) (szN k) (lgN k)),.int .i64 0]),.c (.tuple #[.agg (cu (k:Int) (pN k) (aN k) (bN k) (oN k) (xN k) (yN k) (bl (oN k)) (szN k) (lgN k)),.int .i64 0]),.c (.agg (cu (k:Int) (pN k) (aN k) (bN k) (oN k) (xN k) (yN k) (bl (oN k)) (szN k) (lgN k))),.O,.a,.u,.O] [1,2,3,4] [⟨8,9,88,cu 0 0 0 0 0 0 0 0 0 false,fun _=>cu (k:Int) (pN k) (aN k) (bN k) (oN k) (xN k) (yN k) (bl (oN k)) (szN k) (lgN k)⟩] ⟨.g 27 0 c0 rfl,.g 27 0 c1 rfl,.r (.buildSlice 114 2 #[(0,.const (.agg (pnt P.1 P.2.1 P.2.2))),(1,.const (.agg (pnt Q.1 Q.2.1 Q.2.2)))]) rfl (rowP2 _ _ _ _ _ _),.k (fun yy =>#[.int .i64 (k:Int),.slice (some ⟨(yy 3 0).2,0,none⟩) 2 2]) fun yy vv hg hh=>RtW.of_c (Rt.c (HG.out _ _ (hh 3 rfl))),⟨⟩⟩ ⟨.k zCu ⟨fkc,fkc,fkc,fkr (by simp[cu_size,pnt_size]),fkc,fkc,fkc,fkc,fka,fku,fkc,trivial⟩,⟨⟩⟩ fun yw1 v1 hg h1 hV1=>?_;simp only[fzw,Kw.a,Kw.r];obtain⟨⟨N1_8,V1_8⟩,-⟩:=hV1;clear h1;replace G:=G.trans hg;replace c0:=c0.gr hg;replace c1:=c1.gr hg;replace c2:=c2.gr hg;clear hg
 go_upto_region 2 with fail
 refine wp_wS [.O,.F] [] ⟨⟩ fun yw2 v2 hg h2=>?_;simp only[fzw];clear h2;replace G:=G.trans hg;replace c0:=c0.gr hg;replace c1:=c1.gr hg;replace c2:=c2.gr hg;replace V1_8:=V1_8.gr hg;clear hg;have hh0:=c0.al;have⟨hh1,ff1,pp1⟩:=c1;have hh2:=c2.al;have⟨hh3,ff3,pp3⟩:=V1_8
 go_wp2_with (go_at_call 46;refine(HA.out _).mono ?_;rintro e w' ⟨rfl,g,rfl⟩)
 refine bodyPost_ret (res_two results23 (rd_pn (by rfl) ?_) (rd_tmp (by rfl))) rfl ⟨rfl,?_⟩
 ·simp[go_sem, *]
 ·exact grB
theorem aadd_err(id er:Int)(hne:¬er=0){P Q:Q3}(HG':(∀w b,Vr w b (pnt P.1 P.2.1 P.2.2++pnt Q.1 Q.2.1 Q.2.2)→Cg 44 #[.int .i64 id,.slice (some ⟨b,0,none⟩) 2 2] w (.tuple #[.agg (cu 0 0 0 0 0 0 0 0 0 false),.int .i64 er])))(w:World):
 Cg 23 #[.int .i64 id,.agg (pnt P.1 P.2.1 P.2.2),.agg (pnt Q.1 Q.2.1 Q.2.2)] w (.tuple #[.agg (pnt 0 0 false),.int .i64 er]):=by
 have HG:Hid _:=HG';clear HG'
 go_enter func23,ntmps23
 go_upto_region 1 with fail
 refine gen_w (fun v=>Hid (Gr w v∧Vr v (w.heap.size) (pnt P.1 P.2.1 P.2.2)∧Vr v (w.heap.size+1) (pnt Q.1 Q.2.1 Q.2.2)∧Vr v (w.heap.size+1+1) (pnt 0 0 false))) ⟨grA,vrA,vrA,vrA⟩ ?_;intro v0 HV;obtain⟨G,c0,c1,c2⟩:=HV.out;clear HV;refine wp_v false [.c (.int .i64 id),.c (.agg (pnt P.1 P.2.1 P.2.2)),.c (.agg (pnt Q.1 Q.2.1 Q.2.2)),.r 2 (pnt P.1 P.2.1 P.2.2++pnt Q.1 Q.2.1 Q.2.2),.c (.tuple #[.agg (cu 0 0 0 0 0 0 0 0 0 false),.int .i64 er]),.c (.tuple #[.agg (cu 0 0 0 0 0 0 0 0 0 false),.int .i64 er]),.c (.agg (cu 0 0 0 0 0 0 0 0 0 false)),.c (.int .i64 er),.a,.u,.c (.int .i64 er)] [1,2,3,4] [⟨8,9,88,cu 0 0 0 0 0 0 0 0 0 false,fun _=>cu 0 0 0 0 0 0 0 0 0 false⟩] ⟨.g 27 0 c0 rfl,.g 27 0 c1 rfl,.r (.buildSlice 114 2 #[(0,.const (.agg (pnt P.1 P.2.1 P.2.2))),(1,.const (.agg (pnt Q.1 Q.2.1 Q.2.2)))]) rfl (rowP2 _ _ _ _ _ _),.k (fun yy =>#[.int .i64 id,.slice (some ⟨(yy 3 0).2,0,none⟩) 2 2]) fun yy vv hg hh=>RtW.of_c (Rt.c (HG.out _ _ (hh 3 rfl))),⟨⟩⟩ ⟨.k zCu ⟨fkc,fkc,fkc,fkr (by simp[cu_size,pnt_size]),fkc,fkc,fkc,fkc,fka,fku,fkc,trivial⟩,⟨⟩⟩ fun yw1 v1 hg h1 hV1=>?_;simp only[fzw,Kw.a,Kw.r];obtain⟨⟨N1_8,V1_8⟩,-⟩:=hV1;clear h1;replace G:=G.trans hg;replace c0:=c0.gr hg;replace c1:=c1.gr hg;replace c2:=c2.gr hg;clear hg
 go_upto_region 2 with fail
 refine wp_wS [.c (.int .i64 er),.T] [1] ⟨.s (.binOp .neq 34 (.const (.int .i64 er)) (.const (.int .i64 0)) 34) rfl fun vv hg=>by simp[go_sem,exI,hne],⟨⟩⟩ fun yw2 v2 hg h2=>?_;simp only[fzw];clear h2;replace G:=G.trans hg;replace c0:=c0.gr hg;replace c1:=c1.gr hg;replace c2:=c2.gr hg;have⟨p11,p12,p13,p14,p15,p16⟩:=c1.pp;have⟨hh2,ff2,pp2⟩:=c2
 go_wp2_with fail
 refine bodyPost_ret (res_two results23 (rd_pn (by rfl) ?_) (rd_tmp (by rfl))) rfl ⟨rfl,?_⟩
 ·simp[go_sem, *]
 ·exact grB
theorem amul_yes{k:Nat}{P R:Q3}(t:Nat)(HG':(∀w b,Vr w b (pnt P.1 P.2.1 P.2.2)→Cg 44 #[.int .i64 (k:Int),.slice (some ⟨b,0,none⟩) 1 1] w (.tuple #[.agg (cu (k:Int) (pN k) (aN k) (bN k) (oN k) (xN k) (yN k) (bl (oN k)) (szN k) (lgN k)),.int .i64 0])))(HA':∀w,Cg 45 #[.agg (cu (k:Int) (pN k) (aN k) (bN k) (oN k) (xN k) (yN k) (bl (oN k)) (szN k) (lgN k)),.agg (nw 9 t),.agg (pnt P.1 P.2.1 P.2.2)] w (.agg (pnt R.1 R.2.1 R.2.2)))(w:World):
 Cg 22 #[.int .i64 (k:Int),.agg (nw 9 t),.agg (pnt P.1 P.2.1 P.2.2)] w (.tuple #[.agg (pnt R.1 R.2.1 R.2.2),.int .i64 0]):=by
 have HG:Hid _:=HG';have HA:Hid _:=HA';clear HG' HA'
 go_enter func22,ntmps22
 go_upto_region 1 with fail
 refine gen_w (fun v=>Hid (Gr w v∧Vr v (w.heap.size) (nw 9 t)∧Vr v (w.heap.size+1) (pnt P.1 P.2.1 P.2.2)∧Vr v (w.heap.size+1+1) (pnt 0 0 false))) ⟨grA,vrA,vrA,vrA⟩ ?_;intro v0 HV;obtain⟨G,c0,c1,c2⟩:=HV.out;clear HV;refine wp_v false [.c (.int .i64 (k:Int)),.c (.agg (pnt P.1 P.2.1 P.2.2)),.r 1 (pnt P.1 P.2.1 P.2.2),.c (.tuple #[.agg (cu (k:Int) (pN k) (aN k) (bN k) (oN k) (xN k) (yN k) (bl (oN k)) (szN k) (lgN k)),.int .i64 0]),.c (.tuple #[.agg (cu (k:Int) (pN k) (aN k) (bN k) (oN k) (xN k) (yN k) (bl (oN k)) (szN k) (lgN k)),.int .i64 0]),.c (.agg (cu (k:Int) (pN k) (aN k) (bN k) (oN k) (xN k) (yN k) (bl (oN k)) (szN k) (lgN k))),.O,.a,.u,.O] [1,2,3] [⟨7,8,88,cu 0 0 0 0 0 0 0 0 0 false,fun _=>cu (k:Int) (pN k) (aN k) (bN k) (oN k) (xN k) (yN k) (bl (oN k)) (szN k) (lgN k)⟩] ⟨.g 27 0 c1 rfl,.r (.buildSlice 114 1 #[(0,.const (.agg (pnt P.1 P.2.1 P.2.2)))]) rfl (rowP1 _ _ _),.k (fun yy =>#[.int .i64 (k:Int),.slice (some ⟨(yy 2 0).2,0,none⟩) 1 1]) fun yy vv hg hh=>RtW.of_c (Rt.c (HG.out _ _ (hh 2 rfl))),⟨⟩⟩ ⟨.k zCu ⟨fkc,fkc,fkr (by simp[cu_size,pnt_size]),fkc,fkc,fkc,fkc,fka,fku,fkc,trivial⟩,⟨⟩⟩ fun yw1 v1 hg h1 hV1=>?_;simp only[fzw,Kw.a,Kw.r];obtain⟨⟨N1_7,V1_7⟩,-⟩:(v0.heap.size≤(yw1 7 0).2∧Vr v1 (yw1 7 0).2 (cu (k:Int) (pN k) (aN k) (bN k) (oN k) (xN k) (yN k) (bl (oN k)) (szN k) (lgN k)))∧True:=hV1;clear h1;replace G:=G.trans hg;replace c0:=c0.gr hg;replace c1:=c1.gr hg;replace c2:=c2.gr hg;clear hg
 go_upto_region 2 with fail
 refine wp_wS [.O,.F] [] ⟨⟩ fun yw2 v2 hg h2=>?_;simp only[fzw];clear h2;replace G:=G.trans hg;replace c0:=c0.gr hg;replace c1:=c1.gr hg;replace c2:=c2.gr hg;replace V1_7:=V1_7.gr hg;clear hg;have hh0:=c0.al;have hh1:=c1.al;have hh2:=c2.al;have hh3:=V1_7.al;clear c0 c1 c2 V1_7
 go_wp2_with (go_at_call 45;refine(HA.out _).mono ?_;rintro e w' ⟨rfl,g,rfl⟩)
 refine bodyPost_ret (res_two results22 (rd_pn (by rfl) ?_) (rd_tmp (by rfl))) rfl ⟨rfl,?_⟩
 ·simp[go_sem, *]
 ·exact grB
theorem gf1{k:Nat}(h1:1≤k)(h2:k≤15){P:Q3}(hP:OnQ k P)(w:World)(b:Nat)(hv:Vr w b (pnQ P)):Cg 44 #[.int .i64 (k:Int),.slice (some ⟨b,0,none⟩) 1 1] w (.tuple #[.agg (cu (k:Int) (pN k) (aN k) (bN k) (oN k) (xN k) (yN k) (bl (oN k)) (szN k) (lgN k)),.int .i64 0]):=
 gf_yes h1 h2 1 (by decide) (fun _=>P) (fun _ _=>hP.lt) _ (fun i hi=>by
  obtain rfl:i=0:=by omega
  kernel_rfl) (by simp[pnt_size]) (fun _ _=>hP) b 1 w hv
theorem gf2{k:Nat}(h1:1≤k)(h2:k≤15){P Q:Q3}(hP:OnQ k P)(hQ:OnQ k Q)(w:World)(b:Nat)(hv:Vr w b (pnQ P++pnQ Q)):Cg 44 #[.int .i64 (k:Int),.slice (some ⟨b,0,none⟩) 2 2] w (.tuple #[.agg (cu (k:Int) (pN k) (aN k) (bN k) (oN k) (xN k) (yN k) (bl (oN k)) (szN k) (lgN k)),.int .i64 0]):=
 gf_yes h1 h2 2 (by decide) (fun i=>match i with|0=>P|_=>Q) (fun i _=>match i with|0=>hP.lt|_+1=>hQ.lt) _ (fun i hi=>by
  obtain rfl|rfl:i=0∨i=1:=by omega
  ·kernel_rfl
  ·kernel_rfl) (by simp[pnt_size]) (fun i _=>match i with|0=>hP|_+1=>hQ) b 2 w hv
theorem addQ{k:Nat}(h1:1≤k)(h2:k≤15){P Q R:Q3}(hP:OnQ k P)(hQ:OnQ k Q)(hR:plQ k P Q=R)(w:World):Cg 23 #[.int .i64 (k:Int),.agg (pnQ P),.agg (pnQ Q)] w (.tuple #[.agg (pnQ R),.int .i64 0]):=aadd_yes (gf2 h1 h2 hP hQ) (gaddQ h1 h2 hP hQ hR) w
theorem mulQ{k:Nat}(h1:1≤k)(h2:k≤15){P R:Q3}(hP:OnQ k P){t:Nat}(ht:t<M)(hR:mlQ k t P=R)(w:World):Cg 22 #[.int .i64 (k:Int),.agg (nw 9 t),.agg (pnQ P)] w (.tuple #[.agg (pnQ R),.int .i64 0]):=amul_yes t (gf1 h1 h2 hP) (hR▸gmulQ h1 h2 hP t ht) w
end
end
end Go.Proofs.YtghidgcekieljaaGreat