import Derived.Test.YtffhepbppiocbadGreatXART
namespace Go.Proofs.YtffhepbppiocbadGreat
open Go.RowKit Go.Proofs.Tryz
set_option maxRecDepth 100000
set_option maxHeartbeats 8000000
section
attribute [local go_sem ↓] uz1
attribute [local go_sem] uz2
section
attribute [local go_sem] uz8
attribute [local go_sem ↓] uz11 Go.wp_at_zero Go.wp_at_succ
attribute [local go_sem] uz12
def cTl:Code→Code
 | .seq _ b=>b
 | c=>c
def cHd:Code→Code
 | .seq a _=>a
 | c=>c
theorem jadd_end{k:Nat}(h1:1≤k)(h2:k≤15){N X Y:Nat}{s z:Int}{l:Bool}{A B:Fin (pN k)}{xy yz mi pl st fl r1 r2 X3 r3 r4 Y3 r5 r6 Z3:Fin (pN k)}(er1:xy*mi=r1)(er2:yz*fl=r2)(eX3:r1-r2=X3)(er3:pl*mi=r3)(er4:st*fl=r4)(eY3:r3+r4=Y3)(er5:yz*pl=r5)(er6:xy*st=r6)(eZ3:r5+r6=Z3){b0 b1 b2 b3 b4 b5 b6 b7:Nat}{t0 t1 t2 t4 t5 t7 t8 t9 t10 t12 t14 t15 t20 t21 t22 t23 t24 t25 t26 t27 t28 t29 t30 t31 t32 t33 t34 t35 t36 t37 t38 t39 t40 t41 t42 t43 t44 t45 t46 t47 t48 t49 t50 t51 t52 t53 t54 t55 t56 t57 t58 t59 t60 t61 t62 t63 t64 t65 t66 t67 t68 t69 t70 t71 t72 t73 t74 t75 t76 t77 t78 t79 t80 t81 t82 t83 t84 t85 t86 t87 t88 t89 t90 t91 t92 t93 t94 t95 t96 t97 t98 t99 t100 t101 t102 t103 t104 t105 t106 t107 t108 t109 t110 t111 t112 t113 t114 t115 t116 t117 t118 t119 t120 t121 t122 t123 t124 t125 t126 t127 t128 t129 t130 t131 t132 t133 t134 t135 t136 t137 t138 t139 t140 t141 t142 t143 t144 t145 t146 t147 t148 t149 t150 t151 t152 t153 t154 t155 t156 t157 t158 t159 t160 t161 t162 t163 t164 t165 t166 t167 t168 t169 t170 t171 t172 t173 t174 t175 t176 t177 t178 t179 t180 t181 t182 t183 t184 t185 t186 t187 t188 t189 t190 t191 t192 t193 t194 t195 t196 t197 t198:Value}{v:World}{Q:Exit→Act→World→Prop}(c0:Vr v b0 (cu (k:Int) (pN k) A.val B.val N X Y s z l))(c6:Vr v b6 (prj 0 0 0))(Vb1:Vr v b1 (nw 9 xy.val))(Vb2:Vr v b2 (nw 9 yz.val))(Vb3:Vr v b3 (nw 9 mi.val))(Vb4:Vr v b4 (nw 9 pl.val))(Vb5:Vr v b5 (nw 9 st.val))(Vb7:Vr v b7 (nw 9 fl.val))(hQ:∀(a:Act) (v':World),a.tmps.getD 6 undef=.pointer (some ⟨b6,0,none⟩)→a.defers=[]→Gr v v'→blk v' b6=prj 0 0 0→Q .normal a (setBlk v' b6 (prj X3.val Y3.val Z3.val))):
 Code.wp prog (cHd (cTl (cTl (cTl (cTl (cTl (cTl (cTl (cTl (cTl (cTl (cTl (Tryz.f92.body.getD .ret))))))))))))) Q ⟨#[t0,t1,t2,.pointer (some ⟨b0,0,none⟩),t4,t5,.pointer (some ⟨b6,0,none⟩),t7,t8,t9,t10,.pointer (some ⟨b1,0,none⟩),t12,.pointer (some ⟨b2,0,none⟩),t14,t15,.pointer (some ⟨b3,0,none⟩),.pointer (some ⟨b4,0,none⟩),.pointer (some ⟨b5,0,none⟩),.pointer (some ⟨b7,0,none⟩),t20,t21,t22,t23,t24,t25,t26,t27,t28,t29,t30,t31,t32,t33,t34,t35,t36,t37,t38,t39,t40,t41,t42,t43,t44,t45,t46,t47,t48,t49,t50,t51,t52,t53,t54,t55,t56,t57,t58,t59,t60,t61,t62,t63,t64,t65,t66,t67,t68,t69,t70,t71,t72,t73,t74,t75,t76,t77,t78,t79,t80,t81,t82,t83,t84,t85,t86,t87,t88,t89,t90,t91,t92,t93,t94,t95,t96,t97,t98,t99,t100,t101,t102,t103,t104,t105,t106,t107,t108,t109,t110,t111,t112,t113,t114,t115,t116,t117,t118,t119,t120,t121,t122,t123,t124,t125,t126,t127,t128,t129,t130,t131,t132,t133,t134,t135,t136,t137,t138,t139,t140,t141,t142,t143,t144,t145,t146,t147,t148,t149,t150,t151,t152,t153,t154,t155,t156,t157,t158,t159,t160,t161,t162,t163,t164,t165,t166,t167,t168,t169,t170,t171,t172,t173,t174,t175,t176,t177,t178,t179,t180,t181,t182,t183,t184,t185,t186,t187,t188,t189,t190,t191,t192,t193,t194,t195,t196,t197,t198],[]⟩ v:=by
 have J:=@jd k h1 h2 (pN k) A.val B.val N X Y s z l;have j:=@jp1 k h1 h2 (pN k) A.val B.val N X Y s z l;have C:=@js1 k h1 h2 (pN k) A.val B.val N X Y s z l
 conv=>arg 2;whnf
 have G:=Gr.refl v;refine wp_wT 39 [.c (.agg (cu (k:Int) (pN k) A.val B.val N X Y s z l)),.c (.agg (cu (k:Int) (pN k) A.val B.val N X Y s z l)),.N xy.val,.N mi.val,.r 1 (nw 9 mi.val),.N r1.val,.c (.agg (cu (k:Int) (pN k) A.val B.val N X Y s z l)),.N yz.val,.N fl.val,.r 1 (nw 9 fl.val),.N r2.val,.N X3.val,.c (.agg (cu (k:Int) (pN k) A.val B.val N X Y s z l)),.c (.agg (cu (k:Int) (pN k) A.val B.val N X Y s z l)),.N pl.val,.N mi.val,.r 1 (nw 9 mi.val),.N r3.val,.c (.agg (cu (k:Int) (pN k) A.val B.val N X Y s z l)),.N st.val,.N fl.val,.r 1 (nw 9 fl.val),.N r4.val,.r 1 (nw 9 r4.val),.N Y3.val,.c (.agg (cu (k:Int) (pN k) A.val B.val N X Y s z l)),.c (.agg (cu (k:Int) (pN k) A.val B.val N X Y s z l)),.N yz.val,.N pl.val,.r 1 (nw 9 pl.val),.N r5.val,.c (.agg (cu (k:Int) (pN k) A.val B.val N X Y s z l)),.N xy.val,.N st.val,.r 1 (nw 9 st.val),.N r6.val,.r 1 (nw 9 r6.val),.N Z3.val,.c (.agg (prj X3.val Y3.val Z3.val))] [0,1,2,3,4,5,6,7,8,9,10,11,12,13,14,15,16,17,18,19,20,21,22,23,24,25,26,27,28,29,30,31,32,33,34,35,36,37] ?hs27 ?hf27
 case hs27=>
  exact⟨.g 155 0 c0 rfl,.g 155 0 c0 rfl,.g 25 0 Vb1 rfl,.g 25 0 Vb3 rfl,.r (.buildSlice 203 1 #[(0,.const (.agg (nw 9 mi.val)))]) rfl (rowN1 _),.k _ fun q x d i=>RtW.of_c (Rt.c (j er1 (i 4 rfl))),.g 155 0 c0 rfl,.g 25 0 Vb2 rfl,.g 25 0 Vb7 rfl,.r (.buildSlice 203 1 #[(0,.const (.agg (nw 9 fl.val)))]) rfl (rowN1 _),.k _ fun q x d i=>RtW.of_c (Rt.c (j er2 (i 9 rfl))),.z (J eX3),.g 155 0 c0 rfl,.g 155 0 c0 rfl,.g 25 0 Vb4 rfl,.g 25 0 Vb3 rfl,.r (.buildSlice 203 1 #[(0,.const (.agg (nw 9 mi.val)))]) rfl (rowN1 _),.k _ fun q x d i=>RtW.of_c (Rt.c (j er3 (i 16 rfl))),.g 155 0 c0 rfl,.g 25 0 Vb5 rfl,.g 25 0 Vb7 rfl,.r (.buildSlice 203 1 #[(0,.const (.agg (nw 9 fl.val)))]) rfl (rowN1 _),.k _ fun q x d i=>RtW.of_c (Rt.c (j er4 (i 21 rfl))),.r (.buildSlice 203 1 #[(0,.const (.agg (nw 9 r4.val)))]) rfl (rowN1 _),.k _ fun q x d i=>RtW.of_c (Rt.c (C eY3 (i 23 rfl))),.g 155 0 c0 rfl,.g 155 0 c0 rfl,.g 25 0 Vb2 rfl,.g 25 0 Vb4 rfl,.r (.buildSlice 203 1 #[(0,.const (.agg (nw 9 pl.val)))]) rfl (rowN1 _),.k _ fun q x d i=>RtW.of_c (Rt.c (j er5 (i 29 rfl))),.g 155 0 c0 rfl,.g 25 0 Vb1 rfl,.g 25 0 Vb5 rfl,.r (.buildSlice 203 1 #[(0,.const (.agg (nw 9 st.val)))]) rfl (rowN1 _),.k _ fun q x d i=>RtW.of_c (Rt.c (j er6 (i 34 rfl))),.r (.buildSlice 203 1 #[(0,.const (.agg (nw 9 r6.val)))]) rfl (rowN1 _),.k _ fun q x d i=>RtW.of_c (Rt.c (C eZ3 (i 36 rfl))),⟨⟩⟩
 refine .s 93 (fun q=>pv b6 0) (fun q=>.agg (prj X3.val Y3.val Z3.val)) fun H K d D=>?_;have I:=(c6.gr d).h;have L:=(c6.gr d).f;refine⟨setBlk K (b6) (prj X3.val Y3.val Z3.val),by simp[go_sem,exI,I,L],?_⟩;simp only[fzw,Kw.r];clear D;replace G:=G.trans d;replace c0:=c0.gr d;replace c6:=c6.gr d;replace Vb1:=Vb1.gr d;replace Vb2:=Vb2.gr d;replace Vb3:=Vb3.gr d;replace Vb4:=Vb4.gr d;replace Vb5:=Vb5.gr d;replace Vb7:=Vb7.gr d;clear d;exact hQ _ _ rfl rfl G I
theorem jadd_of{k:Nat}(h1:1≤k)(h2:k≤15){N X Y:Nat}{s z:Int}{l:Bool}{A B:Fin (pN k)}{X1 Y1 Z1 X2 Y2 Z2:Fin (pN k)}{b3 xx yv zz p1 p2 xy p3 p4 xz p5 p6 yz az p7 p8 pa mi pl st d1 p9 pt fl r1 r2 X3 r3 r4 Y3 r5 r6 Z3:Fin (pN k)}(eb3:B+B+B=b3)(exx:X1*X2=xx)(eyv:Y1*Y2=yv)(ezz:Z1*Z2=zz)(ep1:X1*Y2=p1)(ep2:X2*Y1=p2)(exy:p1+p2=xy)(ep3:X1*Z2=p3)(ep4:X2*Z1=p4)(exz:p3+p4=xz)(ep5:Y1*Z2=p5)(ep6:Y2*Z1=p6)(eyz:p5+p6=yz)(eaz:A*zz=az)(ep7:A*xz=p7)(ep8:b3*zz=p8)(epa:p7+p8=pa)(emi:yv-pa=mi)(epl:yv+pa=pl)(est:xx+xx+xx+az=st)(ed1:xx-az=d1)(ep9:A*d1=p9)(ept:b3*xz=pt)(efl:p9+pt=fl)(er1:xy*mi=r1)(er2:yz*fl=r2)(eX3:r1-r2=X3)(er3:pl*mi=r3)(er4:st*fl=r4)(eY3:r3+r4=Y3)(er5:yz*pl=r5)(er6:xy*st=r6)(eZ3:r5+r6=Z3)(w:World):
 Cg 92 #[.agg (cu (k:Int) (pN k) A.val B.val N X Y s z l),.agg (prj X1.val Y1.val Z1.val),.agg (prj X2.val Y2.val Z2.val)] w (.agg (prj X3.val Y3.val Z3.val)):=by
 have Jd:=@jd k h1 h2 (pN k) A.val B.val N X Y s z l;have j:=@jp1 k h1 h2 (pN k) A.val B.val N X Y s z l;have aa:=@js1 k h1 h2 (pN k) A.val B.val N X Y s z l;have ax:=@js2 k h1 h2 (pN k) A.val B.val N X Y s z l;have ay:=@js3 k h1 h2 (pN k) A.val B.val N X Y s z l
 go_enter func92,ntmps92
 go_upto_region 1 with fail
 refine gen_w (fun v=>Hid (Gr w v∧Vr v (w.heap.size) (cu (k:Int) (pN k) A.val B.val N X Y s z l)∧Vr v (w.heap.size+1) (prj X1.val Y1.val Z1.val)∧Vr v (w.heap.size+1+1) (prj X2.val Y2.val Z2.val)∧Vr v (w.heap.size+1+1+1) (prj 0 0 0))) ⟨grA,vrA,vrA,vrA,vrA⟩ ?_;intro v0 HV;obtain⟨G,i,c1,c2,c3⟩:=HV.out;clear HV;refine wp_v false [.c (.agg (cu (k:Int) (pN k) A.val B.val N X Y s z l)),.c (pv (w.heap.size) 0),.c (pv (w.heap.size) 19),.N B.val,.c (pv (w.heap.size) 0),.c (pv (w.heap.size) 19),.N B.val,.c (pv (w.heap.size) 0),.c (pv (w.heap.size) 19),.N B.val,.r 2 (nw 9 B.val++nw 9 B.val),.N b3.val,.a,.u] [0,3,6,9,10,11] [⟨12,13,25,nw 9 0,fun _=>nw 9 b3.val⟩] ⟨.g 155 0 i rfl,.g 25 19 i rfl,.g 25 19 i rfl,.g 25 19 i rfl,.r (.buildSlice 203 2 #[(0,.const (.agg (nw 9 B.val))),(1,.const (.agg (nw 9 B.val)))]) rfl (rowN2 _ _),.k _ fun C D d h=>RtW.of_c (Rt.c (ax eb3 (h 10 rfl))),⟨⟩⟩ ⟨.k zNat ⟨fkc,fkc,fkc,fkc,fkc,fkc,fkc,fkc,fkc,fkc,fkr (by simp[nw_size]),fkc,fka,fku,trivial⟩,⟨⟩⟩ fun ai v1 d h1 aA=>?_;simp only[fzw,Kw.a,Kw.r];obtain⟨⟨aB,I⟩,-⟩:(v0.heap.size≤(ai 12 0).2∧Vr v1 (ai 12 0).2 (nw 9 b3.val))∧True:=aA;clear h1;have f:=d;clear d
 go_upto_region 2 with fail
 refine wp_y true [.c (.agg (cu (k:Int) (pN k) A.val B.val N X Y s z l)),.c (pv (w.heap.size+1) 0),.N X1.val,.c (pv (w.heap.size+1+1) 0),.N X2.val,.r 1 (nw 9 X2.val),.N xx.val,.c (.agg (cu (k:Int) (pN k) A.val B.val N X Y s z l)),.c (pv (w.heap.size+1) 9),.N Y1.val,.c (pv (w.heap.size+1+1) 9),.N Y2.val,.r 1 (nw 9 Y2.val),.N yv.val,.c (.agg (cu (k:Int) (pN k) A.val B.val N X Y s z l)),.c (pv (w.heap.size+1) 18),.N Z1.val,.c (pv (w.heap.size+1+1) 18),.N Z2.val,.r 1 (nw 9 Z2.val),.N zz.val,.a,.a,.a,.u,.u,.u] [0,2,4,6,7,9,11,13,14,16,18,20] [5,12,19] [⟨21,24,25,nw 9 0,fun _=>nw 9 xx.val⟩,⟨22,25,25,nw 9 0,fun _=>nw 9 yv.val⟩,⟨23,26,25,nw 9 0,fun _=>nw 9 zz.val⟩] ⟨.g 155 0 (i.gr f) rfl,.g 25 0 (c1.gr f) rfl,.g 25 0 (c2.gr f) rfl,.k _ fun C D d h=>RtW.of_c (Rt.c (j exx (h 5 rfl))),.g 155 0 (i.gr f) rfl,.g 25 9 (c1.gr f) rfl,.g 25 9 (c2.gr f) rfl,.k _ fun C D d h=>RtW.of_c (Rt.c (j eyv (h 12 rfl))),.g 155 0 (i.gr f) rfl,.g 25 18 (c1.gr f) rfl,.g 25 18 (c2.gr f) rfl,.k _ fun C D d h=>RtW.of_c (Rt.c (j ezz (h 19 rfl))),⟨⟩⟩ ⟨.r (.buildSlice 203 1 #[(0,.const (.agg (nw 9 X2.val)))]) rfl (rowN1 _),.r (.buildSlice 203 1 #[(0,.const (.agg (nw 9 Y2.val)))]) rfl (rowN1 _),.r (.buildSlice 203 1 #[(0,.const (.agg (nw 9 Z2.val)))]) rfl (rowN1 _),⟨⟩⟩ ⟨.k zNat,.k zNat,.k zNat,⟨⟩⟩ fun ab v2 d h2 aC=>?_;simp only[fzw,Kw.a,Kw.r];obtain⟨⟨aD,q⟩,⟨aE,J⟩,⟨aG,K⟩,-⟩:(v1.heap.size≤(ab 21 0).2∧Vr v2 (ab 21 0).2 (nw 9 xx.val))∧(v1.heap.size≤(ab 22 0).2∧Vr v2 (ab 22 0).2 (nw 9 yv.val))∧(v1.heap.size≤(ab 23 0).2∧Vr v2 (ab 23 0).2 (nw 9 zz.val))∧True:=aC;clear h2;replace f:=f.trans d;have H:=d;clear d
 go_upto_region 3 with fail
 refine wp_y true [.c (.agg (cu (k:Int) (pN k) A.val B.val N X Y s z l)),.c (.agg (cu (k:Int) (pN k) A.val B.val N X Y s z l)),.c (pv (w.heap.size+1) 0),.N X1.val,.c (pv (w.heap.size+1+1) 9),.N Y2.val,.r 1 (nw 9 Y2.val),.N p1.val,.c (.agg (cu (k:Int) (pN k) A.val B.val N X Y s z l)),.c (pv (w.heap.size+1+1) 0),.N X2.val,.c (pv (w.heap.size+1) 9),.N Y1.val,.r 1 (nw 9 Y1.val),.N p2.val,.r 1 (nw 9 p2.val),.N xy.val,.a,.u] [0,1,3,5,7,8,10,12,14,16] [6,13,15] [⟨17,18,25,nw 9 0,fun _=>nw 9 xy.val⟩] ⟨.g 155 0 (i.gr f) rfl,.g 155 0 (i.gr f) rfl,.g 25 0 (c1.gr f) rfl,.g 25 9 (c2.gr f) rfl,.k _ fun C D d h=>RtW.of_c (Rt.c (j ep1 (h 6 rfl))),.g 155 0 (i.gr f) rfl,.g 25 0 (c2.gr f) rfl,.g 25 9 (c1.gr f) rfl,.k _ fun C D d h=>RtW.of_c (Rt.c (j ep2 (h 13 rfl))),.k _ fun C D d h=>RtW.of_c (Rt.c (aa exy (h 15 rfl))),⟨⟩⟩ ⟨.r (.buildSlice 203 1 #[(0,.const (.agg (nw 9 Y2.val)))]) rfl (rowN1 _),.r (.buildSlice 203 1 #[(0,.const (.agg (nw 9 Y1.val)))]) rfl (rowN1 _),.r (.buildSlice 203 1 #[(0,.const (.agg (nw 9 p2.val)))]) rfl (rowN1 _),⟨⟩⟩ ⟨.k zNat,⟨⟩⟩ fun aj v3 d h3 aH=>?_;simp only[fzw,Kw.a,Kw.r];obtain⟨⟨aI,Q⟩,-⟩:(v2.heap.size≤(aj 17 0).2∧Vr v3 (aj 17 0).2 (nw 9 xy.val))∧True:=aH;clear h3;replace f:=f.trans d;replace H:=H.trans d;have x:=d;clear d
 go_upto_region 4 with fail
 refine wp_y true [.c (.agg (cu (k:Int) (pN k) A.val B.val N X Y s z l)),.c (.agg (cu (k:Int) (pN k) A.val B.val N X Y s z l)),.c (pv (w.heap.size+1) 0),.N X1.val,.c (pv (w.heap.size+1+1) 18),.N Z2.val,.r 1 (nw 9 Z2.val),.N p3.val,.c (.agg (cu (k:Int) (pN k) A.val B.val N X Y s z l)),.c (pv (w.heap.size+1+1) 0),.N X2.val,.c (pv (w.heap.size+1) 18),.N Z1.val,.r 1 (nw 9 Z1.val),.N p4.val,.r 1 (nw 9 p4.val),.N xz.val,.a,.u] [0,1,3,5,7,8,10,12,14,16] [6,13,15] [⟨17,18,25,nw 9 0,fun _=>nw 9 xz.val⟩] ⟨.g 155 0 (i.gr f) rfl,.g 155 0 (i.gr f) rfl,.g 25 0 (c1.gr f) rfl,.g 25 18 (c2.gr f) rfl,.k _ fun C D d h=>RtW.of_c (Rt.c (j ep3 (h 6 rfl))),.g 155 0 (i.gr f) rfl,.g 25 0 (c2.gr f) rfl,.g 25 18 (c1.gr f) rfl,.k _ fun C D d h=>RtW.of_c (Rt.c (j ep4 (h 13 rfl))),.k _ fun C D d h=>RtW.of_c (Rt.c (aa exz (h 15 rfl))),⟨⟩⟩ ⟨.r (.buildSlice 203 1 #[(0,.const (.agg (nw 9 Z2.val)))]) rfl (rowN1 _),.r (.buildSlice 203 1 #[(0,.const (.agg (nw 9 Z1.val)))]) rfl (rowN1 _),.r (.buildSlice 203 1 #[(0,.const (.agg (nw 9 p4.val)))]) rfl (rowN1 _),⟨⟩⟩ ⟨.k zNat,⟨⟩⟩ fun ak v4 d h4 aJ=>?_;simp only[fzw,Kw.a,Kw.r];obtain⟨⟨aK,L⟩,-⟩:(v3.heap.size≤(ak 17 0).2∧Vr v4 (ak 17 0).2 (nw 9 xz.val))∧True:=aJ;clear h4;replace f:=f.trans d;replace H:=H.trans d;replace x:=x.trans d;have V:=d;clear d
 go_upto_region 5 with fail
 refine wp_y true [.c (.agg (cu (k:Int) (pN k) A.val B.val N X Y s z l)),.c (.agg (cu (k:Int) (pN k) A.val B.val N X Y s z l)),.c (pv (w.heap.size+1) 9),.N Y1.val,.c (pv (w.heap.size+1+1) 18),.N Z2.val,.r 1 (nw 9 Z2.val),.N p5.val,.c (.agg (cu (k:Int) (pN k) A.val B.val N X Y s z l)),.c (pv (w.heap.size+1+1) 9),.N Y2.val,.c (pv (w.heap.size+1) 18),.N Z1.val,.r 1 (nw 9 Z1.val),.N p6.val,.r 1 (nw 9 p6.val),.N yz.val,.a,.u] [0,1,3,5,7,8,10,12,14,16] [6,13,15] [⟨17,18,25,nw 9 0,fun _=>nw 9 yz.val⟩] ⟨.g 155 0 (i.gr f) rfl,.g 155 0 (i.gr f) rfl,.g 25 9 (c1.gr f) rfl,.g 25 18 (c2.gr f) rfl,.k _ fun C D d h=>RtW.of_c (Rt.c (j ep5 (h 6 rfl))),.g 155 0 (i.gr f) rfl,.g 25 9 (c2.gr f) rfl,.g 25 18 (c1.gr f) rfl,.k _ fun C D d h=>RtW.of_c (Rt.c (j ep6 (h 13 rfl))),.k _ fun C D d h=>RtW.of_c (Rt.c (aa eyz (h 15 rfl))),⟨⟩⟩ ⟨.r (.buildSlice 203 1 #[(0,.const (.agg (nw 9 Z2.val)))]) rfl (rowN1 _),.r (.buildSlice 203 1 #[(0,.const (.agg (nw 9 Z1.val)))]) rfl (rowN1 _),.r (.buildSlice 203 1 #[(0,.const (.agg (nw 9 p6.val)))]) rfl (rowN1 _),⟨⟩⟩ ⟨.k zNat,⟨⟩⟩ fun ao v5 d h5 aL=>?_;simp only[fzw,Kw.a,Kw.r];obtain⟨⟨aM,S⟩,-⟩:(v4.heap.size≤(ao 17 0).2∧Vr v5 (ao 17 0).2 (nw 9 yz.val))∧True:=aL;clear h5;replace f:=f.trans d;replace H:=H.trans d;replace x:=x.trans d;replace V:=V.trans d;have W:=d;clear d
 go_upto_region 6 with fail
 refine wp_y false [.c (.agg (cu (k:Int) (pN k) A.val B.val N X Y s z l)),.c (pv (w.heap.size) 0),.c (pv (w.heap.size) 10),.N A.val,.N zz.val,.r 1 (nw 9 zz.val),.N az.val,.a,.u] [0,3,4,6] [5] [⟨7,8,25,nw 9 0,fun _=>nw 9 az.val⟩] ⟨.g 155 0 (i.gr f) rfl,.g 25 10 (i.gr f) rfl,.g 25 0 (K.gr x) rfl,.k _ fun C D d h=>RtW.of_c (Rt.c (j eaz (h 5 rfl))),⟨⟩⟩ ⟨.r (.buildSlice 203 1 #[(0,.const (.agg (nw 9 zz.val)))]) rfl (rowN1 _),⟨⟩⟩ ⟨.k zNat,⟨⟩⟩ fun ap v6 d h6 aO=>?_;simp only[fzw,Kw.a,Kw.r];obtain⟨⟨aW,Z⟩,-⟩:(v5.heap.size≤(ap 7 0).2∧Vr v6 (ap 7 0).2 (nw 9 az.val))∧True:=aO;clear h6;replace f:=f.trans d;replace H:=H.trans d;replace x:=x.trans d;replace V:=V.trans d;replace W:=W.trans d;have g6:=d;clear d
 go_upto_region 7 with fail
 refine wp_y true [.c (.agg (cu (k:Int) (pN k) A.val B.val N X Y s z l)),.c (.agg (cu (k:Int) (pN k) A.val B.val N X Y s z l)),.c (pv (w.heap.size) 0),.c (pv (w.heap.size) 10),.N A.val,.N xz.val,.r 1 (nw 9 xz.val),.N p7.val,.c (.agg (cu (k:Int) (pN k) A.val B.val N X Y s z l)),.N b3.val,.N zz.val,.r 1 (nw 9 zz.val),.N p8.val,.r 1 (nw 9 p8.val),.N pa.val,.a,.u] [0,1,4,5,7,8,9,10,12,14] [6,11,13] [⟨15,16,25,nw 9 0,fun _=>nw 9 pa.val⟩] ⟨.g 155 0 (i.gr f) rfl,.g 155 0 (i.gr f) rfl,.g 25 10 (i.gr f) rfl,.g 25 0 (L.gr W) rfl,.k _ fun C D d h=>RtW.of_c (Rt.c (j ep7 (h 6 rfl))),.g 155 0 (i.gr f) rfl,.g 25 0 (I.gr H) rfl,.g 25 0 (K.gr x) rfl,.k _ fun C D d h=>RtW.of_c (Rt.c (j ep8 (h 11 rfl))),.k _ fun C D d h=>RtW.of_c (Rt.c (aa epa (h 13 rfl))),⟨⟩⟩ ⟨.r (.buildSlice 203 1 #[(0,.const (.agg (nw 9 xz.val)))]) rfl (rowN1 _),.r (.buildSlice 203 1 #[(0,.const (.agg (nw 9 zz.val)))]) rfl (rowN1 _),.r (.buildSlice 203 1 #[(0,.const (.agg (nw 9 p8.val)))]) rfl (rowN1 _),⟨⟩⟩ ⟨.k zNat,⟨⟩⟩ fun aq v7 d h7 aP=>?_;simp only[fzw,Kw.a,Kw.r];obtain⟨⟨aQ,P⟩,-⟩:(v6.heap.size≤(aq 15 0).2∧Vr v7 (aq 15 0).2 (nw 9 pa.val))∧True:=aP;clear h7;replace f:=f.trans d;replace H:=H.trans d;replace x:=x.trans d;replace V:=V.trans d;replace W:=W.trans d;replace g6:=g6.trans d;have g7:=d;clear d
 go_upto_region 8 with fail
 refine wp_y true [.c (.agg (cu (k:Int) (pN k) A.val B.val N X Y s z l)),.N yv.val,.N pa.val,.N mi.val,.c (.agg (cu (k:Int) (pN k) A.val B.val N X Y s z l)),.N yv.val,.N pa.val,.r 1 (nw 9 pa.val),.N pl.val,.a,.a,.u,.u] [0,1,2,3,4,5,6,8] [7] [⟨9,11,25,nw 9 0,fun _=>nw 9 mi.val⟩,⟨10,12,25,nw 9 0,fun _=>nw 9 pl.val⟩] ⟨.g 155 0 (i.gr f) rfl,.g 25 0 (J.gr x) rfl,.g 25 0 P rfl,.z (Jd emi),.g 155 0 (i.gr f) rfl,.g 25 0 (J.gr x) rfl,.g 25 0 P rfl,.k _ fun C D d h=>RtW.of_c (Rt.c (aa epl (h 7 rfl))),⟨⟩⟩ ⟨.r (.buildSlice 203 1 #[(0,.const (.agg (nw 9 pa.val)))]) rfl (rowN1 _),⟨⟩⟩ ⟨.k zNat,.k zNat,⟨⟩⟩ fun af v8 d h8 aR=>?_;simp only[fzw,Kw.a,Kw.r];obtain⟨⟨a0,ac⟩,⟨aS,U⟩,-⟩:(v7.heap.size≤(af 9 0).2∧Vr v8 (af 9 0).2 (nw 9 mi.val))∧(v7.heap.size≤(af 10 0).2∧Vr v8 (af 10 0).2 (nw 9 pl.val))∧True:=aR;clear h8;replace f:=f.trans d;replace H:=H.trans d;replace x:=x.trans d;replace V:=V.trans d;replace W:=W.trans d;replace g6:=g6.trans d;replace g7:=g7.trans d;have g8:=d;clear d
 go_upto_region 9 with fail
 refine wp_v false [.c (.agg (cu (k:Int) (pN k) A.val B.val N X Y s z l)),.N xx.val,.N xx.val,.N xx.val,.N az.val,.r 3 (nw 9 xx.val++nw 9 xx.val++nw 9 az.val),.N st.val,.a,.u] [0,1,2,3,4,5,6] [⟨7,8,25,nw 9 0,fun _=>nw 9 st.val⟩] ⟨.g 155 0 (i.gr f) rfl,.g 25 0 (q.gr x) rfl,.g 25 0 (q.gr x) rfl,.g 25 0 (q.gr x) rfl,.g 25 0 (Z.gr g7) rfl,.r (.buildSlice 203 3 #[(0,.const (.agg (nw 9 xx.val))),(1,.const (.agg (nw 9 xx.val))),(2,.const (.agg (nw 9 az.val)))]) rfl (rowN3 _ _ _),.k _ fun C D d h=>RtW.of_c (Rt.c (ay est (h 5 rfl))),⟨⟩⟩ ⟨.k zNat ⟨fkc,fkc,fkc,fkc,fkc,fkr (by simp[nw_size]),fkc,fka,fku,trivial⟩,⟨⟩⟩ fun ar v9 d h9 aT=>?_;simp only[fzw,Kw.a,Kw.r];obtain⟨⟨a1,ae⟩,-⟩:(v8.heap.size≤(ar 7 0).2∧Vr v9 (ar 7 0).2 (nw 9 st.val))∧True:=aT;clear h9;replace f:=f.trans d;replace H:=H.trans d;replace x:=x.trans d;replace V:=V.trans d;replace W:=W.trans d;replace g6:=g6.trans d;replace g7:=g7.trans d;replace g8:=g8.trans d;have g9:=d;clear d
 go_upto_region 10 with fail
 refine wp_y true [.c (.agg (cu (k:Int) (pN k) A.val B.val N X Y s z l)),.c (.agg (cu (k:Int) (pN k) A.val B.val N X Y s z l)),.c (pv (w.heap.size) 0),.c (pv (w.heap.size) 10),.N A.val,.c (.agg (cu (k:Int) (pN k) A.val B.val N X Y s z l)),.N xx.val,.N az.val,.N d1.val,.r 1 (nw 9 d1.val),.N p9.val,.c (.agg (cu (k:Int) (pN k) A.val B.val N X Y s z l)),.N b3.val,.N xz.val,.r 1 (nw 9 xz.val),.N pt.val,.r 1 (nw 9 pt.val),.N fl.val,.a,.u] [0,1,4,5,6,7,8,10,11,12,13,15,17] [9,14,16] [⟨18,19,25,nw 9 0,fun _=>nw 9 fl.val⟩] ⟨.g 155 0 (i.gr f) rfl,.g 155 0 (i.gr f) rfl,.g 25 10 (i.gr f) rfl,.g 155 0 (i.gr f) rfl,.g 25 0 (q.gr x) rfl,.g 25 0 (Z.gr g7) rfl,.z (Jd ed1),.k _ fun C D d h=>RtW.of_c (Rt.c (j ep9 (h 9 rfl))),.g 155 0 (i.gr f) rfl,.g 25 0 (I.gr H) rfl,.g 25 0 (L.gr W) rfl,.k _ fun C D d h=>RtW.of_c (Rt.c (j ept (h 14 rfl))),.k _ fun C D d h=>RtW.of_c (Rt.c (aa efl (h 16 rfl))),⟨⟩⟩ ⟨.r (.buildSlice 203 1 #[(0,.const (.agg (nw 9 d1.val)))]) rfl (rowN1 _),.r (.buildSlice 203 1 #[(0,.const (.agg (nw 9 xz.val)))]) rfl (rowN1 _),.r (.buildSlice 203 1 #[(0,.const (.agg (nw 9 pt.val)))]) rfl (rowN1 _),⟨⟩⟩ ⟨.k zNat,⟨⟩⟩ fun ah aU d aV au=>?_;simp only[fzw,Kw.a,Kw.r];obtain⟨⟨aw,ag⟩,-⟩:(v9.heap.size≤(ah 18 0).2∧Vr aU (ah 18 0).2 (nw 9 fl.val))∧True:=au;clear aV;replace f:=f.trans d;replace H:=H.trans d;replace x:=x.trans d;replace V:=V.trans d;replace W:=W.trans d;replace g6:=g6.trans d;replace g7:=g7.trans d;replace g8:=g8.trans d;replace g9:=g9.trans d;have av:=d;clear d;replace G:=G.trans f;replace i:=i.gr f;replace c1:=c1.gr f;replace c2:=c2.gr f;replace c3:=c3.gr f;replace I:=I.gr H;replace q:=q.gr x;replace J:=J.gr x;replace K:=K.gr x;replace Q:=Q.gr V;replace L:=L.gr W;replace S:=S.gr g6;replace Z:=Z.gr g7;replace P:=P.gr g8;replace ac:=ac.gr g9;replace U:=U.gr g9;replace ae:=ae.gr av;clear f av H x V W g6 g7 g8 g9
 go_upto_region 11 with fail
 refine jadd_end h1 h2 er1 er2 eX3 er3 er4 eY3 er5 er6 eZ3 i c3 Q S ac U ae ag ?_;intro a v' h6 hd d hb
 go_wp2_with fail
 exact bodyPost_ret (res_one results92 (rd_pj h6 (blk_setBlk _ _ _ (by rw[hb];decide +kernel)))) hd ⟨rfl,gr_setNew (G.trans d) (by omega)⟩
end
end
section
namespace EC
section
variable {p:Nat} [NeZero p] {i:Fin p→Fin p} {A B:Fin p}
def Tri(A B X Y Z:Fin p):Prop:=¬(X=0∧Y=0∧Z=0)∧Y*Y*Z=X*X*X+A*X*(Z*Z)+B*(Z*Z*Z)
theorem std_tri{X Y Z:Fin p}{Q:Option (Fin p×Fin p)}(hQ:On A B Q)(s:Std X Y Z Q):Tri A B X Y Z:=by
 match Q,hQ,s with
 | none,_,⟨a,b,c⟩=>
  subst a c;exact⟨fun h=>b h.2.1,by clear b hQ s;grobner⟩
 | some (x,y),hQ,⟨a,b,c⟩=>
  subst b c;refine⟨fun h=>a h.2.2,?_⟩
  have e:y*Z*(y*Z)*Z=y*y*(Z*Z*Z):=by clear hQ s a;grobner
  rw[e,show y*y=_ from hQ]
  grobner
theorem tri_std(C:Cur i A B){X Y Z:Fin p}(h:Tri A B X Y Z):On A B (if Z=0 then none else some (X*i Z,Y*i Z))∧Std X Y Z (if Z=0 then none else some (X*i Z,Y*i Z)):=by
 obtain⟨q,d⟩:=h
 by_cases hz:Z=0
 ·subst hz;rw[if_pos rfl]
  have G:X*X*X=0:=by
   have e:X*X*X=X*X*X+A*X*(0*0)+B*(0*0*0):=by clear d;grobner
   rw[e,←d];clear e d;grobner
  have f:X=0:=by
   rcases nzd C.pr _ _ G with h|h
   ·rcases nzd C.pr _ _ h with h|h <;> exact h
   ·exact h
  exact⟨trivial,f,fun H=>q ⟨f,H,rfl⟩,rfl⟩
 ·rw[if_neg hz];have x:=C.inv Z hz
  refine⟨?_,hz,?_,?_⟩
  ·show Y*i Z*(Y*i Z)=X*i Z*(X*i Z)*(X*i Z)+A*(X*i Z)+B
   generalize i Z=j at *
   have D:Y*j*(Y*j)=Y*Y*Z*(j*j*j)+Y*Y*(j*j)*(1-j*Z):=by clear q d x;grobner
   have I:X*j*(X*j)*(X*j)+A*(X*j)+B=(X*X*X+A*X*(Z*Z)+B*(Z*Z*Z))*(j*j*j)+A*X*j*(1-j*Z*(j*Z))+B*(1-j*Z*(j*Z)*(j*Z)):=by clear q d x D;grobner
   rw[D,I,x,d]
   grobner
  ·grind
  ·grind
end
end EC
def ivN(k z:Nat):Nat:=z^(pN k-2)%pN k
def ptT(k:Nat)(T:T3):Q3:=if T.2.2=0 then inf else(T.1*ivN k T.2.2%pN k,T.2.1*ivN k T.2.2%pN k,false)
section
variable {k:Nat} (h1:1≤k) (h2:k≤15) [NeZero (pN k)]
theorem ptT_is(X Y Z:Fin (pN k)):ptT k (X.val,Y.val,Z.val)=encQ (if Z=0 then none else some (X*EC.iP (pN k) Z,Y*EC.iP (pN k) Z)):=by
 unfold ptT
 by_cases hz:Z=0
 ·subst hz;rw[if_pos (Fin.val_zero _),if_pos rfl]
  rfl
 ·have d:¬Z.val=0:=fun e=>hz (Fin.ext (e.trans (Fin.val_zero _).symm));rw[if_neg d,if_neg hz];rw[Prod.mk.injEq,Prod.mk.injEq];exact⟨(Fin.val_mul X (EC.iP (pN k) Z)).symm,(Fin.val_mul Y (EC.iP (pN k) Z)).symm,rfl⟩
theorem tr_tri{X Y Z:Fin (pN k)}{Q:Q3}(h:TrQ k (X.val,Y.val,Z.val) Q):EC.Tri (EC.aF k h1 h2) (EC.bF k h1 h2) X Y Z:=by
 obtain⟨o,j,q,x,e,s⟩:=h;simp only[Prod.mk.injEq]at e;obtain⟨d,f,i⟩:=e;rw[Fin.ext d,Fin.ext f,Fin.ext i];exact EC.std_tri (on_dec h1 h2 o) s
theorem tri_tr{X Y Z:Fin (pN k)}(h:EC.Tri (EC.aF k h1 h2) (EC.bF k h1 h2) X Y Z):TrQ k (X.val,Y.val,Z.val) (ptT k (X.val,Y.val,Z.val)):=by
 obtain⟨o,s⟩:=EC.tri_std (EC.curN k h1 h2) h;rw[ptT_is];refine⟨on_enc h1 h2 o,X,Y,Z,rfl,fun {_}=>?_⟩;rw[dec_enc];exact s
end
theorem TrQ.pt{k:Nat}(h1:1≤k)(h2:k≤15){T:T3}{Q:Q3}(h:TrQ k T Q):ptT k T=Q:=by
 haveI:=EC.nzP k h1 h2
 have d:=h;obtain⟨-,X,Y,Z,rfl,-⟩:=d;exact TrQ.one h1 h2 (tri_tr h1 h2 (tr_tri h1 h2 h)) h
end
section
attribute [local go_sem ↓] uz1
attribute [local go_sem] uz2
section
attribute [local go_sem] uz8
attribute [local go_sem ↓] uz15 Go.wp_at_zero Go.wp_at_succ
attribute [local go_sem] uz16
theorem gdiff_of(id:Int)(P A B N X Y:Nat)(s z:Int)(l:Bool)(x y q:Nat)(H1':∀w,Cg 84 #[.int .i64 id,.agg (nw 9 x),.agg (nw 9 y)] w (.tuple #[.agg (nw 9 q),.int .i64 0]))(w:World):
 Cg 64 #[.agg (cu id P A B N X Y s z l),.agg (nw 9 x),.agg (nw 9 y)] w (.agg (nw 9 q)):=by
 have C:Hid _:=H1';clear H1'
 go_enter func64,ntmps64
 go_upto_region 1 with fail
 refine gen_w (fun v=>Hid (Gr w v∧Vr v (w.heap.size) (cu id P A B N X Y s z l)∧Vr v (w.heap.size+1) (nw 9 x)∧Vr v (w.heap.size+1+1) (nw 9 y)∧Vr v (w.heap.size+1+1+1) (nw 9 0))) ⟨grA,vrA,vrA,vrA,vrA⟩ ?_;intro D f;obtain⟨G,d,h,i,j⟩:=f.out
 have V:D.cell? ⟨w.heap.size,0,none⟩=some (.int .i64 id):=by rw[d.cell];exact cu_0 id P A B N X Y s z l
 have H:=d.al;have⟨I,J,K⟩:=h;have⟨L,Q,S⟩:=i;have U:=j.al;clear f d h i j
 go_wp2_with (first
  | (go_at_call_of 84 ((#[.int .i64 id,.agg (nw 9 x),.agg (nw 9 y)]:Array Value));refine hkA C fun W=>?_))
 refine bo1 results64 (rd_nat (by rfl) ?_) ⟨rfl,?_⟩
 ·simp[go_sem, *]
 ·exact grB
theorem gprod_of(id:Int)(P A B N X Y:Nat)(s z:Int)(l:Bool)(x y q:Nat)(H1':∀w,Cg 128 #[.int .i64 id,.agg (nw 9 x),.agg (nw 9 y)] w (.tuple #[.agg (nw 9 q),.int .i64 0]))(w:World):
 Cg 138 #[.agg (cu id P A B N X Y s z l),.agg (nw 9 x),.agg (nw 9 y)] w (.agg (nw 9 q)):=by
 have C:Hid _:=H1';clear H1'
 go_enter func138,ntmps138
 go_upto_region 1 with fail
 refine gen_w (fun v=>Hid (Gr w v∧Vr v (w.heap.size) (cu id P A B N X Y s z l)∧Vr v (w.heap.size+1) (nw 9 x)∧Vr v (w.heap.size+1+1) (nw 9 y)∧Vr v (w.heap.size+1+1+1) (nw 9 0))) ⟨grA,vrA,vrA,vrA,vrA⟩ ?_;intro D f;obtain⟨G,d,h,i,j⟩:=f.out
 have V:D.cell? ⟨w.heap.size,0,none⟩=some (.int .i64 id):=by rw[d.cell];exact cu_0 id P A B N X Y s z l
 have H:=d.al;have⟨I,J,K⟩:=h;have⟨L,Q,S⟩:=i;have U:=j.al;clear f d h i j
 go_wp2_with (first
  | (go_at_call_of 128 ((#[.int .i64 id,.agg (nw 9 x),.agg (nw 9 y)]:Array Value));refine hkA C fun W=>?_))
 refine bo1 results138 (rd_nat (by rfl) ?_) ⟨rfl,?_⟩
 ·simp[go_sem, *]
 ·exact grB
theorem gquot_of(id:Int)(P A B N X Y:Nat)(s z:Int)(l:Bool)(x y u q:Nat)(H1':∀w,Cg 135 #[.int .i64 id,.agg (nw 9 y)] w (.tuple #[.agg (nw 9 u),.int .i64 0]))(H2':∀w,Cg 138 #[.agg (cu id P A B N X Y s z l),.agg (nw 9 x),.agg (nw 9 u)] w (.agg (nw 9 q)))(w:World):
 Cg 136 #[.agg (cu id P A B N X Y s z l),.agg (nw 9 x),.agg (nw 9 y)] w (.agg (nw 9 q)):=by
 have C:Hid _:=H1';have D:Hid _:=H2';clear H1' H2'
 go_enter func136,ntmps136
 go_upto_region 1 with fail
 refine gen_w (fun v=>Hid (Gr w v∧Vr v (w.heap.size) (cu id P A B N X Y s z l)∧Vr v (w.heap.size+1) (nw 9 x)∧Vr v (w.heap.size+1+1) (nw 9 y)∧Vr v (w.heap.size+1+1+1) (nw 9 0))) ⟨grA,vrA,vrA,vrA,vrA⟩ ?_;intro H f;obtain⟨G,d,h,i,j⟩:=f.out
 have U:H.cell? ⟨w.heap.size,0,none⟩=some (.int .i64 id):=by rw[d.cell];exact cu_0 id P A B N X Y s z l
 have I:=d.al;have J:=h.al;have⟨K,L,Q⟩:=i;have S:=j.al;clear f d h i j
 go_wp2_with (first
  | (go_at_call_of 135 ((#[.int .i64 id,.agg (nw 9 y)]:Array Value));refine hkA C fun V=>?_)
  | (go_at_call_of 138 ((#[.agg (cu id P A B N X Y s z l),.agg (nw 9 x),.agg (nw 9 u)]:Array Value));refine hkA D fun W=>?_))
 refine bo1 results136 (rd_nat (by rfl) ?_) ⟨rfl,?_⟩
 ·simp[go_sem, *]
 ·exact grB
theorem gleft_any(id:Int)(P A B N X Y:Nat)(s z:Int)(l:Bool)(x1 y1 x2 y2:Nat)(f1 f2:Bool)(w:World):
 Cg 99 #[.agg (cu id P A B N X Y s z l),.agg (pnt x1 y1 f1),.agg (pnt x2 y2 f2)] w (.agg (pnt x1 y1 f1)):=by
 go_enter func99,ntmps99
 go_upto_region 1 with fail
 refine gen_w (fun v=>Hid (Gr w v∧Vr v (w.heap.size) (cu id P A B N X Y s z l)∧Vr v (w.heap.size+1) (pnt x1 y1 f1)∧Vr v (w.heap.size+1+1) (pnt x2 y2 f2)∧Vr v (w.heap.size+1+1+1) (pnt 0 0 false))) ⟨grA,vrA,vrA,vrA,vrA⟩ ?_;intro H d;obtain⟨G,I,f,J,h⟩:=d.out;have⟨i,j,q⟩:=f;have⟨x,C,D⟩:=h
 go_wp2_with fail
 refine bo1 results99 (rd_pn (by rfl) ?_) ⟨rfl,?_⟩
 ·simp[go_sem, *]
 ·exact grB
theorem gright_any(id:Int)(P A B N X Y:Nat)(s z:Int)(l:Bool)(x1 y1 x2 y2:Nat)(f1 f2:Bool)(w:World):
 Cg 98 #[.agg (cu id P A B N X Y s z l),.agg (pnt x1 y1 f1),.agg (pnt x2 y2 f2)] w (.agg (pnt x2 y2 f2)):=by
 go_enter func98,ntmps98
 go_upto_region 1 with fail
 refine gen_w (fun v=>Hid (Gr w v∧Vr v (w.heap.size) (cu id P A B N X Y s z l)∧Vr v (w.heap.size+1) (pnt x1 y1 f1)∧Vr v (w.heap.size+1+1) (pnt x2 y2 f2)∧Vr v (w.heap.size+1+1+1) (pnt 0 0 false))) ⟨grA,vrA,vrA,vrA,vrA⟩ ?_;intro H d;obtain⟨G,I,J,f,h⟩:=d.out;have⟨i,j,q⟩:=f;have⟨x,C,D⟩:=h
 go_wp2_with fail
 refine bo1 results98 (rd_pn (by rfl) ?_) ⟨rfl,?_⟩
 ·simp[go_sem, *]
 ·exact grB
theorem ginf_any(id:Int)(P A B N X Y:Nat)(s z:Int)(l:Bool)(x1 y1 x2 y2:Nat)(f1 f2:Bool)(w:World):
 Cg 102 #[.agg (cu id P A B N X Y s z l),.agg (pnt x1 y1 f1),.agg (pnt x2 y2 f2)] w (.agg (pnt 0 0 true)):=by
 go_enter func102,ntmps102
 go_upto_region 1 with fail
 refine gen_w (fun v=>Hid (Gr w v∧Vr v (w.heap.size) (cu id P A B N X Y s z l)∧Vr v (w.heap.size+1) (pnt x1 y1 f1)∧Vr v (w.heap.size+1+1) (pnt x2 y2 f2)∧Vr v (w.heap.size+1+1+1) (pnt 0 0 false))) ⟨grA,vrA,vrA,vrA,vrA⟩ ?_;intro q d;obtain⟨G,x,C,D,f⟩:=d.out;have⟨h,i,j⟩:=f
 go_wp2_with fail
 refine bo1 results102 (rd_pn (by rfl) ?_) ⟨rfl,?_⟩
 ·simp[go_sem, *]
 ·exact grB
theorem toSum_any(w:World):Cg 75 #[] w (.agg tabA):=by
 go_enter func75,ntmps75
 go_wp2
 refine bo1 results75 (rd_cell 5 underlying132 rfl (by kernel_rfl) (by rfl) ?_ rfl) ⟨rfl,grA⟩;simp[go_sem]
theorem toProduct_any(w:World):Cg 73 #[] w (.agg tabB):=by
 go_enter func73,ntmps73
 go_wp2
 refine bo1 results73 (rd_cell (c:=tabB) 2 underlying129 rfl (by kernel_rfl) (by rfl) ?_ rfl) ⟨rfl,grA⟩;simp[go_sem]
end
section
attribute [local go_sem] uz8
attribute [local go_sem ↓] uz15 Go.wp_at_zero Go.wp_at_succ
attribute [local go_sem] uz16
theorem gsum_of(id:Int)(P A B N X Y:Nat)(s z:Int)(l:Bool)(n:Nat)(hn:n≤4)(f acc:Nat→Nat)(c:Array Value)(h0:acc 0=0)(hrow:∀i,i<n→c.extract (i*9) (i*9+9)=nw 9 (f i))(hsz:n*9≤c.size)(HA':∀i,i<n→∀w,Cg 129 #[.int .i64 id,.agg (nw 9 (acc i)),.agg (nw 9 (f i))] w (.tuple #[.agg (nw 9 (acc (i+1))),.int .i64 0]))(b cap:Nat)(w:World)(hv:Vr w b c):
 Cg 139 #[.agg (cu id P A B N X Y s z l),.slice (some ⟨b,0,none⟩) n cap] w (.agg (nw 9 (acc n))):=by
 have K:Hid _:=HA';have L:Hu (_):=fun _=>hn
 have Q:Hid (∀j,j<n→∀v,Gr w v→(loadS 25 (.pointer (some ⟨b,j*9,none⟩))).run prog v=.ok (.agg (nw 9 (f j))) v):=fun j q v g=>by
  have H:=(hv.gr g).h;rw[loadPart v b (j*9) (by rw[H];omega),H,hrow j q]
 have S:Hu (_):=fun _=>h0;clear hn HA' h0 hrow hsz
 go_enter func139,ntmps139
 go_wp2_with fail
 refine gen_w (fun wr=>Hid (Gr w wr∧Vr wr (w.heap.size) (cu id P A B N X Y s z l)∧Vr wr (w.heap.size+1) (nw 9 0)∧Vr wr (w.heap.size+1+1) (nw 9 (acc 0)))) ⟨grA,vrA,vrA,by rw[S.out ()];exact vrA⟩ ?_;intro v0 d
 go_loopw [10] (fun ia wr=>∃j:Nat,ia=.int .i64 j∧Hu (j≤n)∧Hid (Gr w wr∧Vr wr (w.heap.size) (cu id P A B N X Y s z l)∧Vr wr (w.heap.size+1) (nw 9 0)∧Vr wr (w.heap.size+1+1) (nw 9 (acc j)))) (fun ia _=>((n:Int)-intOf ia).toNat)
 case atStart=>exact⟨0,rfl,fun _=>Nat.zero_le _,d⟩
 case round=>
  clear d;obtain⟨j,rfl,U,d⟩:=hrel;obtain⟨G,C,I,J⟩:=d.out
  have k0:wr.cell? ⟨w.heap.size,0,none⟩=some (.int .i64 id):=by rw[C.cell];exact cu_0 id P A B N X Y s z l
  have V:¬(w.heap.size+1+1=w.heap.size):=by omega
  have j0:(0:Int)≤j:=by omega
  have n4:(n:Int)≤4:=by have:=L.out ();omega
  have⟨h0,f0,p0⟩:=C;have⟨h1,f1,p1⟩:=I;have⟨h2,f2,p2⟩:=J;have⟨W,Z,aa,ab,ac,ae⟩:=C.pp;have⟨af,ag,ah,ai,aj,ak⟩:=I.pp;have⟨ao,ap,aq,ar,au,av⟩:=J.pp
  by_cases hlt:j<n
  ·have j1:(j:Int)<n:=by omega
   have ld:=Q.out j hlt;have D:Hid _:=K.out j hlt
   go_wp2_with (go_at_call 129;refine hkA D fun g=>?_)
   go_roundw
   case rel=>
    refine⟨j+1,by go_num,fun _=>hlt,?_,⟨by simp[go_sem, *],by simp[go_sem, *],by simp[go_sem, *]⟩,⟨by simp[go_sem, *],by simp[go_sem, *],by simp[go_sem, *]⟩,⟨by simp[go_sem, *],by simp[go_sem, *],by simp[go_sem, *]⟩⟩;exact grB
   case measure=>simp[intOf];omega
  ·have j1:¬(j:Int)<n:=by omega
   have q:j=n:=by have:=U.out ();omega
   go_wp2_with fail
   refine bo1 results139 (rd_nat (x:=acc j) (by rfl) ?_) ⟨by rw[q],?_⟩
   ·simp[go_sem, *]
   ·exact grB
end
section
attribute [local go_sem] uz8
attribute [local go_sem ↓] uz15 Go.wp_at_zero Go.wp_at_succ
attribute [local go_sem] uz16
theorem galong_of(id:Int)(P A B N X Y:Nat)(s z:Int)(l:Bool)(m x1 y1 x2 y2 q1 q2 q3 q4 q5 q6:Nat)(H1':∀w,Cg 138 #[.agg (cu id P A B N X Y s z l),.agg (nw 9 m),.agg (nw 9 m)] w (.agg (nw 9 q1)))(H3':∀w,Cg 64 #[.agg (cu id P A B N X Y s z l),.agg (nw 9 q1),.agg (nw 9 q2)] w (.agg (nw 9 q3)))(H4':∀w,Cg 64 #[.agg (cu id P A B N X Y s z l),.agg (nw 9 x1),.agg (nw 9 q3)] w (.agg (nw 9 q4)))(H5':∀w,Cg 138 #[.agg (cu id P A B N X Y s z l),.agg (nw 9 m),.agg (nw 9 q4)] w (.agg (nw 9 q5)))(H6':∀w,Cg 64 #[.agg (cu id P A B N X Y s z l),.agg (nw 9 q5),.agg (nw 9 y1)] w (.agg (nw 9 q6)))(H2':∀w b,Vr w b (nw 9 x1++nw 9 x2)→Cg 139 #[.agg (cu id P A B N X Y s z l),.slice (some ⟨b,0,none⟩) 2 2] w (.agg (nw 9 q2)))(w:World):
 Cg 137 #[.agg (cu id P A B N X Y s z l),.agg (nw 9 m),.agg (pnt x1 y1 false),.agg (pnt x2 y2 false)] w (.agg (pnt q3 q6 false)):=by
 have V:Hid _:=H1';have W:Hid _:=H3';have Z:Hid _:=H4';have H5:Hid _:=H5';have H6:Hid _:=H6';have H2:Hid _:=H2';clear H1' H3' H4' H5' H6' H2'
 go_enter func137,ntmps137
 go_upto_region 1 with fail
 refine gen_w (fun v=>Hid (Gr w v∧Vr v (w.heap.size) (cu id P A B N X Y s z l)∧Vr v (w.heap.size+1) (nw 9 m)∧Vr v (w.heap.size+1+1) (pnt x1 y1 false)∧Vr v (w.heap.size+1+1+1) (pnt x2 y2 false)∧Vr v (w.heap.size+1+1+1+1) (pnt 0 0 false))) ⟨grA,vrA,vrA,vrA,vrA,vrA⟩ ?_;intro v0 S;obtain⟨G,j,q,x,H,D⟩:=S.out;clear S;refine wp_v true [.c (.agg (cu id P A B N X Y s z l)),.c (.agg (cu id P A B N X Y s z l)),.N m,.N m,.N q1,.c (.agg (cu id P A B N X Y s z l)),.c (pv (w.heap.size+1+1) 0),.N x1,.c (pv (w.heap.size+1+1+1) 0),.N x2,.r 2 (nw 9 x1++nw 9 x2),.N q2,.N q3,.a,.u] [0,1,2,3,4,5,7,9,10,11,12] [⟨13,14,25,nw 9 0,fun _=>nw 9 q3⟩] ⟨.g 82 0 j rfl,.g 82 0 j rfl,.g 25 0 q rfl,.g 25 0 q rfl,.z V.out,.g 82 0 j rfl,.g 25 0 x rfl,.g 25 0 H rfl,.r (.buildSlice 203 2 #[(0,.const (.agg (nw 9 x1))),(1,.const (.agg (nw 9 x2)))]) rfl (rowN2 _ _),.k (fun I =>#[.agg (cu id P A B N X Y s z l),.slice (some ⟨(I 10 0).2,0,none⟩) 2 2]) fun I vv d hh=>RtW.of_c (Rt.c (H2.out _ _ (hh 10 rfl))),.z W.out,⟨⟩⟩ ⟨.k zNat ⟨fkc,fkc,fkc,fkc,fkc,fkc,fkc,fkc,fkc,fkc,fkr (by simp[nw_size]),fkc,fkc,fka,fku,trivial⟩,⟨⟩⟩ fun aa v1 d h1 J=>?_;simp only[fzw,Kw.a,Kw.r];obtain⟨⟨K,i⟩,-⟩:=J;clear h1;replace G:=G.trans d;replace j:=j.gr d;replace q:=q.gr d;replace x:=x.gr d;replace H:=H.gr d;replace D:=D.gr d;clear d
 go_upto_region 2 with fail
 refine wp_v true [.c (.agg (cu id P A B N X Y s z l)),.c (.agg (cu id P A B N X Y s z l)),.N m,.c (.agg (cu id P A B N X Y s z l)),.c (pv (w.heap.size+1+1) 0),.N x1,.N q3,.N q4,.N q5,.c (pv (w.heap.size+1+1) 9),.N y1,.N q6,.a,.u] [0,1,2,3,5,6,7,8,10,11] [⟨12,13,25,nw 9 0,fun _=>nw 9 q6⟩] ⟨.g 82 0 j rfl,.g 82 0 j rfl,.g 25 0 q rfl,.g 82 0 j rfl,.g 25 0 x rfl,.g 25 0 i rfl,.z Z.out,.z H5.out,.g 25 9 x rfl,.z H6.out,⟨⟩⟩ ⟨.k zNat (.t rfl),⟨⟩⟩ fun ab v2 d h2 L=>?_;simp only[fzw,Kw.a];obtain⟨⟨Q,C⟩,-⟩:=L;clear h2;replace G:=G.trans d;replace j:=j.gr d;replace q:=q.gr d;replace x:=x.gr d;replace H:=H.gr d;replace D:=D.gr d;replace i:=i.gr d
 go_upto_region 3 with fail
 refine wp_wTS 3 [.N q3,.N q6,.c (.agg (pnt q3 q6 false))] [0,1] ⟨.g 25 0 i rfl,.g 25 0 C rfl,⟨⟩⟩ (.s 38 (fun I=>pv (w.heap.size+1+1+1+1) 0) (fun I=>.agg (pnt q3 q6 false)) fun ac v3 d h3=>?_);have U:=(D.gr d).h;have FT:=(D.gr d).f;refine⟨setBlk v3 (w.heap.size+1+1+1+1) (pnt q3 q6 false),by simp[go_sem,exI,U,FT],?_⟩;simp only[fzw];replace G:=G.trans d
 go_wp2_with fail
 exact bo1 results137 (rd_pn (by rfl) (blk_setBlk _ _ _ (by rw[U];decide +kernel))) ⟨rfl,gr_setNew G (by omega)⟩
theorem gchord_of(id:Int)(P A B N X Y:Nat)(s z:Int)(l:Bool)(x1 y1 x2 y2 q1 q2 q3 r1 r2:Nat)(H1':∀w,Cg 64 #[.agg (cu id P A B N X Y s z l),.agg (nw 9 y2),.agg (nw 9 y1)] w (.agg (nw 9 q1)))(H2':∀w,Cg 64 #[.agg (cu id P A B N X Y s z l),.agg (nw 9 x2),.agg (nw 9 x1)] w (.agg (nw 9 q2)))(H3':∀w,Cg 136 #[.agg (cu id P A B N X Y s z l),.agg (nw 9 q1),.agg (nw 9 q2)] w (.agg (nw 9 q3)))(HAL':∀w,Cg 137 #[.agg (cu id P A B N X Y s z l),.agg (nw 9 q3),.agg (pnt x1 y1 false),.agg (pnt x2 y2 false)] w (.agg (pnt r1 r2 false)))(w:World):
 Cg 100 #[.agg (cu id P A B N X Y s z l),.agg (pnt x1 y1 false),.agg (pnt x2 y2 false)] w (.agg (pnt r1 r2 false)):=by
 have L:Hid _:=H1';have Q:Hid _:=H2';have S:Hid _:=H3';have D:Hid _:=HAL';clear H1' H2' H3' HAL'
 go_enter func100,ntmps100
 go_upto_region 1 with fail
 refine gen_w (fun v=>Hid (Gr w v∧Vr v (w.heap.size) (cu id P A B N X Y s z l)∧Vr v (w.heap.size+1) (pnt x1 y1 false)∧Vr v (w.heap.size+1+1) (pnt x2 y2 false)∧Vr v (w.heap.size+1+1+1) (pnt 0 0 false))) ⟨grA,vrA,vrA,vrA,vrA⟩ ?_;intro v0 J;obtain⟨G,j,q,x,C⟩:=J.out;clear J;refine wp_v true [.c (.agg (cu id P A B N X Y s z l)),.c (.agg (cu id P A B N X Y s z l)),.c (pv (w.heap.size+1+1) 9),.N y2,.c (pv (w.heap.size+1) 9),.N y1,.N q1,.c (.agg (cu id P A B N X Y s z l)),.c (pv (w.heap.size+1+1) 0),.N x2,.c (pv (w.heap.size+1) 0),.N x1,.N q2,.N q3,.a,.u] [0,1,3,5,6,7,9,11,12,13] [⟨14,15,25,nw 9 0,fun _=>nw 9 q3⟩] ⟨.g 82 0 j rfl,.g 82 0 j rfl,.g 25 9 x rfl,.g 25 9 q rfl,.z L.out,.g 82 0 j rfl,.g 25 0 x rfl,.g 25 0 q rfl,.z Q.out,.z S.out,⟨⟩⟩ ⟨.k zNat (.t rfl),⟨⟩⟩ fun U v1 d V H=>?_;simp only[fzw,Kw.a];obtain⟨⟨I,i⟩,-⟩:=H;clear V;replace G:=G.trans d;replace j:=j.gr d;replace q:=q.gr d;replace x:=x.gr d;replace C:=C.gr d
 go_upto_region 2 with fail
 refine wp_wTS 5 [.c (.agg (cu id P A B N X Y s z l)),.N q3,.c (.agg (pnt x1 y1 false)),.c (.agg (pnt x2 y2 false)),.c (.agg (pnt r1 r2 false))] [0,1,2,3,4] ⟨.g 82 0 j rfl,.g 25 0 i rfl,.g 38 0 q rfl,.g 38 0 x rfl,.z D.out,⟨⟩⟩ (.s 38 (fun W=>pv (w.heap.size+1+1+1) 0) (fun W=>.agg (pnt r1 r2 false)) fun Z v2 d h2=>?_);have K:=(C.gr d).h;have FT:=(C.gr d).f;refine⟨setBlk v2 (w.heap.size+1+1+1) (pnt r1 r2 false),by simp[go_sem,exI,K,FT],?_⟩;simp only[fzw];replace G:=G.trans d
 go_wp2_with fail
 exact bo1 results100 (rd_pn (by rfl) (blk_setBlk _ _ _ (by rw[K];decide +kernel))) ⟨rfl,gr_setNew G (by omega)⟩
theorem gtang_of(id:Int)(P A B N X Y:Nat)(s z:Int)(l:Bool)(x1 y1 x2 y2 q1 q2 q3 q4 r1 r2:Nat)(H1':∀w,Cg 138 #[.agg (cu id P A B N X Y s z l),.agg (nw 9 x1),.agg (nw 9 x1)] w (.agg (nw 9 q1)))(H4':∀w,Cg 136 #[.agg (cu id P A B N X Y s z l),.agg (nw 9 q2),.agg (nw 9 q3)] w (.agg (nw 9 q4)))(H2':∀w b,Vr w b (nw 9 q1++nw 9 q1++nw 9 q1++nw 9 A)→Cg 139 #[.agg (cu id P A B N X Y s z l),.slice (some ⟨b,0,none⟩) 4 4] w (.agg (nw 9 q2)))(H3':∀w b,Vr w b (nw 9 y1++nw 9 y1)→Cg 139 #[.agg (cu id P A B N X Y s z l),.slice (some ⟨b,0,none⟩) 2 2] w (.agg (nw 9 q3)))(HAL':∀w,Cg 137 #[.agg (cu id P A B N X Y s z l),.agg (nw 9 q4),.agg (pnt x1 y1 false),.agg (pnt x2 y2 false)] w (.agg (pnt r1 r2 false)))(w:World):
 Cg 101 #[.agg (cu id P A B N X Y s z l),.agg (pnt x1 y1 false),.agg (pnt x2 y2 false)] w (.agg (pnt r1 r2 false)):=by
 have W:Hid _:=H1';have Z:Hid _:=H4';have H2:Hid _:=H2';have H3:Hid _:=H3';have I:Hid _:=HAL';clear H1' H4' H2' H3' HAL'
 go_enter func101,ntmps101
 go_upto_region 1 with fail
 refine gen_w (fun v=>Hid (Gr w v∧Vr v (w.heap.size) (cu id P A B N X Y s z l)∧Vr v (w.heap.size+1) (pnt x1 y1 false)∧Vr v (w.heap.size+1+1) (pnt x2 y2 false)∧Vr v (w.heap.size+1+1+1) (pnt 0 0 false))) ⟨grA,vrA,vrA,vrA,vrA⟩ ?_;intro v0 S;obtain⟨G,j,q,H,D⟩:=S.out;clear S;refine wp_v false [.c (.agg (cu id P A B N X Y s z l)),.c (pv (w.heap.size+1) 0),.N x1,.c (pv (w.heap.size+1) 0),.N x1,.N q1,.a,.u] [0,2,4,5] [⟨6,7,25,nw 9 0,fun _=>nw 9 q1⟩] ⟨.g 82 0 j rfl,.g 25 0 q rfl,.g 25 0 q rfl,.z W.out,⟨⟩⟩ ⟨.k zNat (.t rfl),⟨⟩⟩ fun aa v1 d h1 J=>?_;simp only[fzw,Kw.a];obtain⟨⟨U,i⟩,-⟩:=J;clear h1;replace G:=G.trans d;replace j:=j.gr d;replace q:=q.gr d;replace H:=H.gr d;replace D:=D.gr d;clear d
 go_upto_region 2 with fail
 refine wp_v true [.c (.agg (cu id P A B N X Y s z l)),.c (.agg (cu id P A B N X Y s z l)),.N q1,.N q1,.N q1,.c (pv (w.heap.size) 0),.c (pv (w.heap.size) 10),.N A,.r 4 (nw 9 q1++nw 9 q1++nw 9 q1++nw 9 A),.N q2,.c (.agg (cu id P A B N X Y s z l)),.c (pv (w.heap.size+1) 9),.N y1,.c (pv (w.heap.size+1) 9),.N y1,.r 2 (nw 9 y1++nw 9 y1),.N q3,.N q4,.a,.u] [0,1,2,3,4,7,8,9,10,12,14,15,16,17] [⟨18,19,25,nw 9 0,fun _=>nw 9 q4⟩] ⟨.g 82 0 j rfl,.g 82 0 j rfl,.g 25 0 i rfl,.g 25 0 i rfl,.g 25 0 i rfl,.g 25 10 j rfl,.r (.buildSlice 203 4 #[(0,.const (.agg (nw 9 q1))),(1,.const (.agg (nw 9 q1))),(2,.const (.agg (nw 9 q1))),(3,.const (.agg (nw 9 A)))]) rfl (rowN4 _ _ _ _),.k (fun x =>#[.agg (cu id P A B N X Y s z l),.slice (some ⟨(x 8 0).2,0,none⟩) 4 4]) fun x vv d K=>RtW.of_c (Rt.c (H2.out _ _ (K 8 rfl))),.g 82 0 j rfl,.g 25 9 q rfl,.g 25 9 q rfl,.r (.buildSlice 203 2 #[(0,.const (.agg (nw 9 y1))),(1,.const (.agg (nw 9 y1)))]) rfl (rowN2 _ _),.k (fun x =>#[.agg (cu id P A B N X Y s z l),.slice (some ⟨(x 15 0).2,0,none⟩) 2 2]) fun x vv d K=>RtW.of_c (Rt.c (H3.out _ _ (K 15 rfl))),.z Z.out,⟨⟩⟩ ⟨.k zNat ⟨fkc,fkc,fkc,fkc,fkc,fkc,fkc,fkc,fkr (by simp[nw_size]),fkc,fkc,fkc,fkc,fkc,fkc,fkr (by simp[nw_size]),fkc,fkc,fka,fku,trivial⟩,⟨⟩⟩ fun ab v2 d h2 L=>?_;simp only[fzw,Kw.a,Kw.r];obtain⟨⟨Q,C⟩,-⟩:=L;clear h2;replace G:=G.trans d;replace j:=j.gr d;replace q:=q.gr d;replace H:=H.gr d;replace D:=D.gr d
 go_upto_region 3 with fail
 refine wp_wTS 5 [.c (.agg (cu id P A B N X Y s z l)),.N q4,.c (.agg (pnt x1 y1 false)),.c (.agg (pnt x2 y2 false)),.c (.agg (pnt r1 r2 false))] [0,1,2,3,4] ⟨.g 82 0 j rfl,.g 25 0 C rfl,.g 38 0 q rfl,.g 38 0 H rfl,.z I.out,⟨⟩⟩ (.s 38 (fun x=>pv (w.heap.size+1+1+1) 0) (fun x=>.agg (pnt r1 r2 false)) fun ac v3 d h3=>?_);have V:=(D.gr d).h;have FT:=(D.gr d).f;refine⟨setBlk v3 (w.heap.size+1+1+1) (pnt r1 r2 false),by simp[go_sem,exI,V,FT],?_⟩;simp only[fzw];replace G:=G.trans d
 go_wp2_with fail
 exact bo1 results101 (rd_pn (by rfl) (blk_setBlk _ _ _ (by rw[V];decide +kernel))) ⟨rfl,gr_setNew G (by omega)⟩
end
section
theorem neNat(x y:Nat)(w:World):(binOp .neq 25 (.agg (nw 9 x)) (.agg (nw 9 y))).run prog w=.ok (.bool (!(eqN 9 x y))) w:=by
 rw[run_neq_struct,show (10000:Nat)=9997+3 from rfl,eqNatIn]
 rfl
theorem nePn(x y:Nat)(f:Bool)(x' y':Nat)(f':Bool)(w:World):(binOp .neq 38 (.agg (pnt x y f)) (.agg (pnt x' y' f'))).run prog w=.ok (.bool (!(eqN 9 x x'&&(eqN 9 y y'&&(f==f'))))) w:=by
 rw[run_neq_struct,show (10000:Nat)=9996+4 from rfl,eqPnIn]
 rfl
theorem storePY(w:World)(b q:Nat)(hs:(blk w b).size=19)(hf:frz w b=(0,0)):(storeS 25 (.pointer (some ⟨b,9,none⟩)) (.agg (nw 9 q))).run prog w=.ok () (setBlk w b (setL (blk w b) 9 (nw 9 q).toList)):=by
 have d:w.there b 9 (nw 9 q).size:=fun j f=>by
  rw[nw_size]at f;exact⟨by rw[cell_blk,Array.getElem?_eq_getElem (by omega)];rfl,frz_at w b _ hf⟩
 simp only[storeS,Instr.storeAt,Instr.sureAddr,Sem.run_bind,Sem.run_pure,Result.andThen_ok];rw[run_storeVar_mid w b 9 25 (nw 9 q) d (by kernel_rfl) (nw_one 9 q),setCells_setBlk _ _ _ _ (by omega)]
theorem pnt_setY(x y q:Nat)(f:Bool):setL (pnt x y f) 9 (nw 9 q).toList=pnt x q f:=by kernel_rfl
theorem buildN0(w:World):(buildF 25 #[]).run prog w=.ok (.agg (nw 9 0)) w:=by kernel_rfl
theorem buildN_is(p:Array (Nat×Value)):Instr.build 25 p=buildF 25 p:=rfl
attribute [local go_sem] uz8
attribute [local go_sem ↓] uz15 Go.wp_at_zero Go.wp_at_succ
attribute [local go_sem] uz16
theorem rel_0(x1 y1 x2 y2:Nat)(f2:Bool)(w:World):
 Cg 76 #[.agg (pnt x1 y1 true),.agg (pnt x2 y2 f2)] w (.int .i64 0):=by
 go_enter func76,ntmps76
 go_upto_region 1 with fail
 refine gen_w (fun v=>Hid (Gr w v∧Vr v (w.heap.size) (pnt x1 y1 true)∧Vr v (w.heap.size+1) (pnt x2 y2 f2))) ⟨grA,vrA,vrA⟩ ?_;intro j d;obtain⟨G,f,q⟩:=d.out;refine wp_wS [.c (pv (w.heap.size) 18),.T,.T] [1] ⟨.o 4 18 f rfl (by exact pnt_18 _ _ _),⟨⟩⟩ fun h x i A=>?_;simp only[fzw];replace G:=G.trans i
 go_wp2_with fail
 go_ret
 exact⟨rfl,G⟩
theorem rel_1(x1 y1 x2 y2:Nat)(w:World):
 Cg 76 #[.agg (pnt x1 y1 false),.agg (pnt x2 y2 true)] w (.int .i64 1):=by
 go_enter func76,ntmps76
 go_upto_region 1 with fail
 refine gen_w (fun v=>Hid (Gr w v∧Vr v (w.heap.size) (pnt x1 y1 false)∧Vr v (w.heap.size+1) (pnt x2 y2 true))) ⟨grA,vrA,vrA⟩ ?_;intro A i;obtain⟨G,f,h⟩:=i.out;clear i;refine wp_wS [.c (pv (w.heap.size) 18),.F,.F] [1] ⟨.o 4 18 f rfl (by exact pnt_18 _ _ _),⟨⟩⟩ fun j B d q=>?_;simp only[fzw];clear q;replace G:=G.trans d;replace f:=f.gr d;replace h:=h.gr d
 go_upto_region 3 with fail
 refine wp_wS [.c (pv (w.heap.size+1) 18),.T,.T] [1] ⟨.o 4 18 h rfl (by exact pnt_18 _ _ _),⟨⟩⟩ fun x C d D=>?_;simp only[fzw];replace G:=G.trans d;replace f:=f.gr d
 go_wp2_with fail
 go_ret
 exact⟨rfl,G⟩
theorem rel_2(x1 y1 x2 y2:Nat)(e1:eqN 9 x1 x2=false)(w:World):
 Cg 76 #[.agg (pnt x1 y1 false),.agg (pnt x2 y2 false)] w (.int .i64 2):=by
 go_enter func76,ntmps76
 go_upto_region 1 with fail
 refine gen_w (fun v=>Hid (Gr w v∧Vr v (w.heap.size) (pnt x1 y1 false)∧Vr v (w.heap.size+1) (pnt x2 y2 false))) ⟨grA,vrA,vrA⟩ ?_;intro C i;obtain⟨G,f,h⟩:=i.out;clear i;refine wp_wS [.c (pv (w.heap.size) 18),.F,.F] [1] ⟨.o 4 18 f rfl (by exact pnt_18 _ _ _),⟨⟩⟩ fun j D d q=>?_;simp only[fzw];clear q;replace G:=G.trans d;replace f:=f.gr d;replace h:=h.gr d;clear d
 go_upto_region 3 with fail
 refine wp_wS [.c (pv (w.heap.size+1) 18),.F,.F] [1] ⟨.o 4 18 h rfl (by exact pnt_18 _ _ _),⟨⟩⟩ fun x H d A=>?_;simp only[fzw];clear A;replace G:=G.trans d;replace f:=f.gr d;replace h:=h.gr d
 go_upto_region 5 with fail
 refine wp_wS [.c (pv (w.heap.size) 0),.N x1,.c (pv (w.heap.size+1) 0),.N x2,.T,.T] [1,3,4] ⟨.g 25 0 f rfl,.g 25 0 h rfl,.s (.binOp .neq 25 (.const (.agg (nw 9 x1))) (.const (.agg (nw 9 x2))) 25) rfl fun I d=>by simp[go_sem,exI,neNat,e1],⟨⟩⟩ fun B J d K=>?_;simp only[fzw];replace G:=G.trans d
 go_wp2_with fail
 go_ret
 exact⟨rfl,G⟩
theorem rel_3(x1 y1 x2 y2:Nat)(e1:eqN 9 x1 x2=true)(e2:eqN 9 y1 y2=true)(e3:eqN 9 y1 0=false)(w:World):
 Cg 76 #[.agg (pnt x1 y1 false),.agg (pnt x2 y2 false)] w (.int .i64 3):=by
 go_enter func76,ntmps76
 go_upto_region 1 with fail
 refine gen_w (fun v=>Hid (Gr w v∧Vr v (w.heap.size) (pnt x1 y1 false)∧Vr v (w.heap.size+1) (pnt x2 y2 false))) ⟨grA,vrA,vrA⟩ ?_;intro I i;obtain⟨G,f,h⟩:=i.out;clear i;refine wp_wS [.c (pv (w.heap.size) 18),.F,.F] [1] ⟨.o 4 18 f rfl (by exact pnt_18 _ _ _),⟨⟩⟩ fun q J d x=>?_;simp only[fzw];clear x;replace G:=G.trans d;replace f:=f.gr d;replace h:=h.gr d;clear d
 go_upto_region 3 with fail
 refine wp_wS [.c (pv (w.heap.size+1) 18),.F,.F] [1] ⟨.o 4 18 h rfl (by exact pnt_18 _ _ _),⟨⟩⟩ fun A K d B=>?_;simp only[fzw];clear B;replace G:=G.trans d;replace f:=f.gr d;replace h:=h.gr d;clear d
 go_upto_region 5 with fail
 refine wp_wS [.c (pv (w.heap.size) 0),.N x1,.c (pv (w.heap.size+1) 0),.N x2,.F,.F] [1,3,4] ⟨.g 25 0 f rfl,.g 25 0 h rfl,.s (.binOp .neq 25 (.const (.agg (nw 9 x1))) (.const (.agg (nw 9 x2))) 25) rfl fun j d=>by simp[go_sem,exI,neNat,e1],⟨⟩⟩ fun C L d D=>?_;simp only[fzw];clear D;replace G:=G.trans d;replace f:=f.gr d;replace h:=h.gr d
 go_upto_region 7 with fail
 refine wp_wS [.c (.agg (pnt x1 y1 false)),.c (.agg (pnt x2 y2 false)),.T,.T,.c (pv (w.heap.size) 9),.N y1,.N 0,.T,.T,.T] [0,1,2,5,7] ⟨.g 38 0 f rfl,.g 38 0 h rfl,.s (.binOp .eql 38 (.const (.agg (pnt x1 y1 false))) (.const (.agg (pnt x2 y2 false))) 38) rfl fun j d=>by simp[go_sem,exI,eqPn,e1,e2],.g 25 9 f rfl,.s (.binOp .neq 25 (.const (.agg (nw 9 y1))) (.const (.agg (nw 9 0))) 25) rfl fun j d=>by simp[go_sem,exI,neNat,e3],⟨⟩⟩ fun H P d Q=>?_;simp only[fzw];replace G:=G.trans d
 go_wp2_with fail
 go_ret
 exact⟨rfl,G⟩
theorem rel_4(x1 y1 x2 y2:Nat)(e1:eqN 9 x1 x2=true)(e2:eqN 9 y1 y2=false)(w:World):
 Cg 76 #[.agg (pnt x1 y1 false),.agg (pnt x2 y2 false)] w (.int .i64 4):=by
 go_enter func76,ntmps76
 go_upto_region 1 with fail
 refine gen_w (fun v=>Hid (Gr w v∧Vr v (w.heap.size) (pnt x1 y1 false)∧Vr v (w.heap.size+1) (pnt x2 y2 false))) ⟨grA,vrA,vrA⟩ ?_;intro I i;obtain⟨G,f,h⟩:=i.out;clear i;refine wp_wS [.c (pv (w.heap.size) 18),.F,.F] [1] ⟨.o 4 18 f rfl (by exact pnt_18 _ _ _),⟨⟩⟩ fun j J d q=>?_;simp only[fzw];clear q;replace G:=G.trans d;replace f:=f.gr d;replace h:=h.gr d;clear d
 go_upto_region 3 with fail
 refine wp_wS [.c (pv (w.heap.size+1) 18),.F,.F] [1] ⟨.o 4 18 h rfl (by exact pnt_18 _ _ _),⟨⟩⟩ fun x K d A=>?_;simp only[fzw];clear A;replace G:=G.trans d;replace f:=f.gr d;replace h:=h.gr d;clear d
 go_upto_region 5 with fail
 refine wp_wS [.c (pv (w.heap.size) 0),.N x1,.c (pv (w.heap.size+1) 0),.N x2,.F,.F] [1,3,4] ⟨.g 25 0 f rfl,.g 25 0 h rfl,.s (.binOp .neq 25 (.const (.agg (nw 9 x1))) (.const (.agg (nw 9 x2))) 25) rfl fun B d=>by simp[go_sem,exI,neNat,e1],⟨⟩⟩ fun C L d D=>?_;simp only[fzw];clear D;replace G:=G.trans d;replace f:=f.gr d;replace h:=h.gr d
 go_upto_region 7 with fail
 refine wp_wS [.c (.agg (pnt x1 y1 false)),.c (.agg (pnt x2 y2 false)),.F,.F,.u,.u,.u,.u,.F,.F] [0,1,2] ⟨.g 38 0 f rfl,.g 38 0 h rfl,.s (.binOp .eql 38 (.const (.agg (pnt x1 y1 false))) (.const (.agg (pnt x2 y2 false))) 38) rfl fun B d=>by simp[go_sem,exI,eqPn,e1,e2],⟨⟩⟩ fun H P d Q=>?_;simp only[fzw];replace G:=G.trans d
 go_wp2_with fail
 go_ret
 exact⟨rfl,G⟩
theorem rel_5(x1 y1 x2 y2:Nat)(e1:eqN 9 x1 x2=true)(e2:eqN 9 y1 y2=true)(e3:eqN 9 y1 0=true)(w:World):
 Cg 76 #[.agg (pnt x1 y1 false),.agg (pnt x2 y2 false)] w (.int .i64 4):=by
 go_enter func76,ntmps76
 go_upto_region 1 with fail
 refine gen_w (fun v=>Hid (Gr w v∧Vr v (w.heap.size) (pnt x1 y1 false)∧Vr v (w.heap.size+1) (pnt x2 y2 false))) ⟨grA,vrA,vrA⟩ ?_;intro I i;obtain⟨G,f,h⟩:=i.out;clear i;refine wp_wS [.c (pv (w.heap.size) 18),.F,.F] [1] ⟨.o 4 18 f rfl (by exact pnt_18 _ _ _),⟨⟩⟩ fun q J d x=>?_;simp only[fzw];clear x;replace G:=G.trans d;replace f:=f.gr d;replace h:=h.gr d;clear d
 go_upto_region 3 with fail
 refine wp_wS [.c (pv (w.heap.size+1) 18),.F,.F] [1] ⟨.o 4 18 h rfl (by exact pnt_18 _ _ _),⟨⟩⟩ fun A K d B=>?_;simp only[fzw];clear B;replace G:=G.trans d;replace f:=f.gr d;replace h:=h.gr d;clear d
 go_upto_region 5 with fail
 refine wp_wS [.c (pv (w.heap.size) 0),.N x1,.c (pv (w.heap.size+1) 0),.N x2,.F,.F] [1,3,4] ⟨.g 25 0 f rfl,.g 25 0 h rfl,.s (.binOp .neq 25 (.const (.agg (nw 9 x1))) (.const (.agg (nw 9 x2))) 25) rfl fun j d=>by simp[go_sem,exI,neNat,e1],⟨⟩⟩ fun C L d D=>?_;simp only[fzw];clear D;replace G:=G.trans d;replace f:=f.gr d;replace h:=h.gr d
 go_upto_region 7 with fail
 refine wp_wS [.c (.agg (pnt x1 y1 false)),.c (.agg (pnt x2 y2 false)),.T,.T,.c (pv (w.heap.size) 9),.N y1,.N 0,.F,.F,.F] [0,1,2,5,7] ⟨.g 38 0 f rfl,.g 38 0 h rfl,.s (.binOp .eql 38 (.const (.agg (pnt x1 y1 false))) (.const (.agg (pnt x2 y2 false))) 38) rfl fun j d=>by simp[go_sem,exI,eqPn,e1,e2],.g 25 9 f rfl,.s (.binOp .neq 25 (.const (.agg (nw 9 y1))) (.const (.agg (nw 9 0))) 25) rfl fun j d=>by simp[go_sem,exI,neNat,e3],⟨⟩⟩ fun H P d Q=>?_;simp only[fzw];replace G:=G.trans d
 go_wp2_with fail
 go_ret
 exact⟨rfl,G⟩
theorem gadd_of(id:Int)(P A B N X Y:Nat)(s z:Int)(l:Bool)(x1 y1 x2 y2 x3 y3:Nat)(f1 f2 f3:Bool)(r:Int)(f:Nat)(hid:∀w,(Instr.index 132 (.agg tabA) (.int .i64 r)).run prog w=.ok (.func (.func f) #[] #[]) w)(hcf:∀w,(callFunc f #[.agg (cu id P A B N X Y s z l),.agg (pnt x1 y1 f1),.agg (pnt x2 y2 f2)]).run prog w=.ok (.enter f #[.agg (cu id P A B N X Y s z l),.agg (pnt x1 y1 f1),.agg (pnt x2 y2 f2)]) w)(HR':∀w,Cg 76 #[.agg (pnt x1 y1 f1),.agg (pnt x2 y2 f2)] w (.int .i64 r))(HS':∀w,Calls prog f #[.agg (cu id P A B N X Y s z l),.agg (pnt x1 y1 f1),.agg (pnt x2 y2 f2)] w fun e w'=>e=.returned (.agg (pnt x3 y3 f3))∧Gr w w')(w:World):
 Cg 54 #[.agg (cu id P A B N X Y s z l),.agg (pnt x1 y1 f1),.agg (pnt x2 y2 f2)] w (.agg (pnt x3 y3 f3)):=by
 have H:Hid _:=HR';have I:Hid _:=HS';clear HR' HS'
 go_enter func54,ntmps54
 go_upto_region 1 with fail
 refine gen_w (fun v=>Hid (Gr w v∧Vr v (w.heap.size) (cu id P A B N X Y s z l)∧Vr v (w.heap.size+1) (pnt x1 y1 f1)∧Vr v (w.heap.size+1+1) (pnt x2 y2 f2)∧Vr v (w.heap.size+1+1+1) (pnt 0 0 false))) ⟨grA,vrA,vrA,vrA,vrA⟩ ?_;intro U i;obtain⟨G,J,j,q,x⟩:=i.out;clear i;refine wp_wT 9 [.c (.agg tabA),.c (.agg (pnt x1 y1 f1)),.c (.agg (pnt x2 y2 f2)),.c (.int .i64 r),.c (.func (.func f) #[] #[]),.c (.agg (cu id P A B N X Y s z l)),.c (.agg (pnt x1 y1 f1)),.c (.agg (pnt x2 y2 f2)),.c (.agg (pnt x3 y3 f3))] [0,1,2,3,4,5,6,7,8] ⟨.z toSum_any,.g 38 0 j rfl,.g 38 0 q rfl,.z H.out,.s (.index 132 (.const (.agg tabA)) (.const (.int .i64 r))) rfl fun K d=>by simp[go_sem,exI,hid],.g 82 0 J rfl,.g 38 0 j rfl,.g 38 0 q rfl,.kf (fun _ =>#[.agg (cu id P A B N X Y s z l),.agg (pnt x1 y1 f1),.agg (pnt x2 y2 f2)]) (fun _=>hcf) fun C K d V=>RtW.of_c (Rt.c (I.out _)),⟨⟩⟩ (.s 38 (fun C=>pv (w.heap.size+1+1+1) 0) (fun C=>.agg (pnt x3 y3 f3)) fun L Q d W=>?_);have D:=(x.gr d).h;have S:=(x.gr d).f;refine⟨setBlk Q (w.heap.size+1+1+1) (pnt x3 y3 f3),by simp[go_sem,exI,D,S],?_⟩;simp only[fzw];replace G:=G.trans d
 go_wp2_with fail
 exact bo1 results54 (rd_pn (by rfl) (blk_setBlk _ _ _ (by rw[D];decide +kernel))) ⟨rfl,gr_setNew G (by omega)⟩
theorem gdbladd_of(id:Int)(P A B N X Y:Nat)(s z:Int)(l:Bool)(x1 y1 x2 y2 x3 y3 x4 y4:Nat)(f1 f2 f3 f4:Bool)(H1':∀w,Cg 54 #[.agg (cu id P A B N X Y s z l),.agg (pnt x1 y1 f1),.agg (pnt x1 y1 f1)] w (.agg (pnt x3 y3 f3)))(H2':∀w,Cg 54 #[.agg (cu id P A B N X Y s z l),.agg (pnt x3 y3 f3),.agg (pnt x2 y2 f2)] w (.agg (pnt x4 y4 f4)))(w:World):
 Cg 97 #[.agg (cu id P A B N X Y s z l),.agg (pnt x1 y1 f1),.agg (pnt x2 y2 f2)] w (.agg (pnt x4 y4 f4)):=by
 have H:Hid _:=H1';have I:Hid _:=H2';clear H1' H2'
 go_enter func97,ntmps97
 go_upto_region 1 with fail
 refine gen_w (fun v=>Hid (Gr w v∧Vr v (w.heap.size) (cu id P A B N X Y s z l)∧Vr v (w.heap.size+1) (pnt x1 y1 f1)∧Vr v (w.heap.size+1+1) (pnt x2 y2 f2)∧Vr v (w.heap.size+1+1+1) (pnt 0 0 false))) ⟨grA,vrA,vrA,vrA,vrA⟩ ?_;intro U C;obtain⟨G,i,j,x,q⟩:=C.out;clear C;refine wp_wT 7 [.c (.agg (cu id P A B N X Y s z l)),.c (.agg (cu id P A B N X Y s z l)),.c (.agg (pnt x1 y1 f1)),.c (.agg (pnt x1 y1 f1)),.c (.agg (pnt x3 y3 f3)),.c (.agg (pnt x2 y2 f2)),.c (.agg (pnt x4 y4 f4))] [0,1,2,3,4,5,6] ⟨.g 82 0 i rfl,.g 82 0 i rfl,.g 38 0 j rfl,.g 38 0 j rfl,.z H.out,.g 38 0 x rfl,.z I.out,⟨⟩⟩ (.s 38 (fun J=>pv (w.heap.size+1+1+1) 0) (fun J=>.agg (pnt x4 y4 f4)) fun K L d Q=>?_);have D:=(q.gr d).h;have S:=(q.gr d).f;refine⟨setBlk L (w.heap.size+1+1+1) (pnt x4 y4 f4),by simp[go_sem,exI,D,S],?_⟩;simp only[fzw];clear Q;replace G:=G.trans d;replace i:=i.gr d;replace j:=j.gr d;replace x:=x.gr d;replace q:=q.gr d;clear d
 go_wp2_with fail
 exact bo1 results97 (rd_pn (by rfl) (blk_setBlk _ _ _ (by rw[D];decide +kernel))) ⟨rfl,gr_setNew G (by omega)⟩
theorem gdbl_of(id:Int)(P A B N X Y:Nat)(s z:Int)(l:Bool)(x1 y1 x2 y2 x3 y3:Nat)(f1 f2 f3:Bool)(H1':∀w,Cg 54 #[.agg (cu id P A B N X Y s z l),.agg (pnt x1 y1 f1),.agg (pnt x1 y1 f1)] w (.agg (pnt x3 y3 f3)))(w:World):
 Cg 96 #[.agg (cu id P A B N X Y s z l),.agg (pnt x1 y1 f1),.agg (pnt x2 y2 f2)] w (.agg (pnt x3 y3 f3)):=by
 have q:Hid _:=H1';clear H1'
 go_enter func96,ntmps96
 go_upto_region 1 with fail
 refine gen_w (fun v=>Hid (Gr w v∧Vr v (w.heap.size) (cu id P A B N X Y s z l)∧Vr v (w.heap.size+1) (pnt x1 y1 f1)∧Vr v (w.heap.size+1+1) (pnt x2 y2 f2)∧Vr v (w.heap.size+1+1+1) (pnt 0 0 false))) ⟨grA,vrA,vrA,vrA,vrA⟩ ?_;intro x f;obtain⟨G,d,h,i,j⟩:=f.out
 have J:x.cell? ⟨w.heap.size,0,none⟩=some (.int .i64 id):=by rw[d.cell];exact cu_0 id P A B N X Y s z l
 have C:=d.al;have D:=h.al;have H:=i.al;have I:=j.al;clear f d h i j
 go_wp2_with (first
  | (go_at_call_of 54 ((#[.agg (cu id P A B N X Y s z l),.agg (pnt x1 y1 f1),.agg (pnt x1 y1 f1)]:Array Value));refine hkA q fun K=>?_))
 refine bo1 results96 (rd_pn (by rfl) ?_) ⟨rfl,?_⟩
 ·simp[go_sem, *]
 ·exact grB
attribute [local go_sem ↓] buildN_is
attribute [local go_sem] storePY pnt_setY buildN0
theorem gneg_of(id:Int)(P A B N X Y:Nat)(s z:Int)(l:Bool)(x1 y1 q:Nat)(f1:Bool)(H1':∀w,Cg 64 #[.agg (cu id P A B N X Y s z l),.agg (nw 9 0),.agg (nw 9 y1)] w (.agg (nw 9 q)))(w:World):
 Cg 42 #[.agg (cu id P A B N X Y s z l),.agg (pnt x1 y1 f1)] w (.agg (pnt x1 q f1)):=by
 have f:Hid _:=H1';clear H1'
 go_enter func42,ntmps42
 go_upto_region 1 with fail
 refine gen_w (fun v=>Hid (Gr w v∧Vr v (w.heap.size) (cu id P A B N X Y s z l)∧Vr v (w.heap.size+1) (pnt x1 y1 f1)∧Vr v (w.heap.size+1+1) (pnt 0 0 false))) ⟨grA,vrA,vrA,vrA⟩ ?_;intro h i;obtain⟨G,d,j,x⟩:=i.out
 have U:h.cell? ⟨w.heap.size,0,none⟩=some (.int .i64 id):=by rw[d.cell];exact cu_0 id P A B N X Y s z l
 have⟨C,D,H⟩:=d;have⟨I,J,K⟩:=j;have⟨L,Q,S⟩:=x
 go_wp2_with (first
  | (go_at_call_of 64 ((#[.agg (cu id P A B N X Y s z l),.agg (nw 9 0),.agg (nw 9 y1)]:Array Value));refine hkA f fun V=>?_))
 refine bo1 results42 (rd_pn (by rfl) ?_) ⟨rfl,?_⟩
 ·simp[go_sem, *]
 ·exact grB
end
end
section
theorem gdiffF{k:Nat}(h1:1≤k)(h2:k≤15)(a b:Fin (pN k))(w:World):Cg 64 #[.agg (cuK k),.agg (nw 9 a.val),.agg (nw 9 b.val)] w (.agg (nw 9 (a-b).val)):=gdiff_of _ _ _ _ _ _ _ _ _ _ _ _ _ (fsubF h1 h2 a b) w
theorem gprodF{k:Nat}(h1:1≤k)(h2:k≤15)(a b:Fin (pN k))(w:World):Cg 138 #[.agg (cuK k),.agg (nw 9 a.val),.agg (nw 9 b.val)] w (.agg (nw 9 (a*b).val)):=gprod_of _ _ _ _ _ _ _ _ _ _ _ _ _ (fmulF h1 h2 a b) w
theorem gquotF{k:Nat}(h1:1≤k)(h2:k≤15)[NeZero (pN k)](a b:Fin (pN k))(hb:b≠0)(w:World):Cg 136 #[.agg (cuK k),.agg (nw 9 a.val),.agg (nw 9 b.val)] w (.agg (nw 9 (a*EC.iP (pN k) b).val)):=gquot_of _ _ _ _ _ _ _ _ _ _ _ _ _ _ (finvF h1 h2 b hb) (gprodF h1 h2 a _) w
def accF{p:Nat}[NeZero p](F:Nat→Fin p):Nat→Fin p
 | 0=>0
 | n+1=>accF F n+F n
theorem gsumF{k:Nat}(h1:1≤k)(h2:k≤15)[NeZero (pN k)](F:Nat→Fin (pN k))(n:Nat)(hn:n≤4)(c:Array Value)(hrow:∀i,i<n→c.extract (i*9) (i*9+9)=nw 9 (F i).val)(hsz:n*9≤c.size)(b:Nat)(w:World)(hv:Vr w b c):
 Cg 139 #[.agg (cuK k),.slice (some ⟨b,0,none⟩) n n] w (.agg (nw 9 (accF F n).val)):=
 gsum_of _ _ _ _ _ _ _ _ _ _ n hn (fun i=>(F i).val) (fun i=>(accF F i).val) c (Fin.val_zero _) hrow hsz (fun _ _ w=>faddF h1 h2 _ _ w) b n w hv
theorem gsum2F{k:Nat}(h1:1≤k)(h2:k≤15)[NeZero (pN k)](x y:Fin (pN k))(w:World)(b:Nat)(hv:Vr w b (nw 9 x.val++nw 9 y.val)):
 Cg 139 #[.agg (cuK k),.slice (some ⟨b,0,none⟩) 2 2] w (.agg (nw 9 (x+y).val)):=by
 have h:=gsumF h1 h2 (fun i=>match i with|0=>x|_=>y) 2 (by decide) _ (fun i d=>by
  obtain rfl|rfl:i=0∨i=1:=by omega
  ·kernel_rfl
  ·kernel_rfl) (by simp[nw_size]) b w hv
 rw[show accF (fun i=>match i with|0=>x|_=>y) 2=x+y by show 0+x+y=x+y;grobner]at h;exact h
theorem gsum4F{k:Nat}(h1:1≤k)(h2:k≤15)[NeZero (pN k)](x y z u:Fin (pN k))(w:World)(b:Nat)(hv:Vr w b (nw 9 x.val++nw 9 y.val++nw 9 z.val++nw 9 u.val)):
 Cg 139 #[.agg (cuK k),.slice (some ⟨b,0,none⟩) 4 4] w (.agg (nw 9 (x+y+z+u).val)):=by
 have h:=gsumF h1 h2 (fun i=>match i with|0=>x|1=>y|2=>z|_=>u) 4 (by decide) _ (fun i d=>by
  obtain rfl|rfl|rfl|rfl:i=0∨i=1∨i=2∨i=3:=by omega
  ·kernel_rfl
  ·kernel_rfl
  ·kernel_rfl
  ·kernel_rfl) (by simp[nw_size]) b w hv
 rw[show accF (fun i=>match i with|0=>x|1=>y|2=>z|_=>u) 4=x+y+z+u by show 0+x+y+z+u=x+y+z+u;grobner]at h;exact h
theorem galongF{k:Nat}(h1:1≤k)(h2:k≤15)[NeZero (pN k)](m x1 y1 x2 y2:Fin (pN k))(w:World):
 Cg 137 #[.agg (cuK k),.agg (nw 9 m.val),.agg (pnt x1.val y1.val false),.agg (pnt x2.val y2.val false)] w (.agg (pnt (ex (some (EC.sx m x1 x2,EC.sy m x1 y1 (EC.sx m x1 x2)))) (ey (some (EC.sx m x1 x2,EC.sy m x1 y1 (EC.sx m x1 x2)))) (ef (some (EC.sx m x1 x2,EC.sy m x1 y1 (EC.sx m x1 x2)))))):=by
 have e:m*m-(x1+x2)=EC.sx m x1 x2:=by unfold EC.sx;grobner
 have d:=gdiffF h1 h2 (m*m) (x1+x2);rw[e]at d;exact galong_of _ _ _ _ _ _ _ _ _ _ _ _ _ _ _ _ _ _ _ _ _ (gprodF h1 h2 m m) d (gdiffF h1 h2 x1 _) (gprodF h1 h2 m _) (gdiffF h1 h2 _ y1) (gsum2F h1 h2 x1 x2) w
theorem gadd_any{k:Nat}(h1:1≤k)(h2:k≤15)[NeZero (pN k)](Q1 Q2:Option (Fin (pN k)×Fin (pN k)))(w:World):
 Cg 54 #[.agg (cuK k),.agg (pnt (ex Q1) (ey Q1) (ef Q1)),.agg (pnt (ex Q2) (ey Q2) (ef Q2))] w (.agg (pnt (ex (EC.pl (EC.iP (pN k)) (EC.aF k h1 h2) Q1 Q2)) (ey (EC.pl (EC.iP (pN k)) (EC.aF k h1 h2) Q1 Q2)) (ef (EC.pl (EC.iP (pN k)) (EC.aF k h1 h2) Q1 Q2)))):=by
 have C:=EC.curN k h1 h2;have j:=pN_M k;have z:(0:Fin (pN k)).val=0:=Fin.val_zero _
 have d:∀a b:Fin (pN k),eqN 9 a.val b.val=decide (a=b):=fun a b=>by
  rw[eqN9 _ _ (Nat.lt_trans a.isLt j) (Nat.lt_trans b.isLt j)];exact decide_eq_decide.2 Fin.ext_iff.symm
 match Q1,Q2 with
 | none,Q2=>exact gadd_of _ _ _ _ _ _ _ _ _ _ _ _ _ _ _ _ _ _ _ 0 98 (fun w=>by kernel_rfl) (fun w=>by kernel_rfl) (rel_0 _ _ _ _ _) (gright_any _ _ _ _ _ _ _ _ _ _ _ _ _ _ _ _) w
 | some (x1,y1),none=>exact gadd_of _ _ _ _ _ _ _ _ _ _ _ _ _ _ _ _ _ _ _ 1 99 (fun w=>by kernel_rfl) (fun w=>by kernel_rfl) (rel_1 _ _ _ _) (gleft_any _ _ _ _ _ _ _ _ _ _ _ _ _ _ _ _) w
 | some (x1,y1),some (x2,y2)=>
  by_cases hx:x1=x2
  ·subst hx;have f:eqN 9 x1.val x1.val=true:=eqN_self _ _
   by_cases hy:y1=y2
   ·subst hy;have q:eqN 9 y1.val y1.val=true:=eqN_self _ _
    by_cases h0:y1=0
    ·have e:EC.pl (EC.iP (pN k)) (EC.aF k h1 h2) (some (x1,y1)) (some (x1,y1))=none:=by simp[EC.pl,h0]
     rw[e];exact gadd_of _ _ _ _ _ _ _ _ _ _ _ _ _ _ _ _ _ _ _ 4 102 (fun w=>by kernel_rfl) (fun w=>by kernel_rfl) (rel_5 _ _ _ _ f q (z▸(d y1 0).trans (decide_eq_true h0))) (ginf_any _ _ _ _ _ _ _ _ _ _ _ _ _ _ _ _) w
    ·have i:y1+y1≠0:=fun h=>h0 (C.dbl h)
     have e:EC.pl (EC.iP (pN k)) (EC.aF k h1 h2) (some (x1,y1)) (some (x1,y1))=some (EC.sx ((x1*x1+(x1*x1+x1*x1)+EC.aF k h1 h2)*EC.iP (pN k) (y1+y1)) x1 x1,EC.sy ((x1*x1+(x1*x1+x1*x1)+EC.aF k h1 h2)*EC.iP (pN k) (y1+y1)) x1 y1 (EC.sx ((x1*x1+(x1*x1+x1*x1)+EC.aF k h1 h2)*EC.iP (pN k) (y1+y1)) x1 x1)):=by simp[EC.pl,h0]
     rw[e];have x:=gsum4F h1 h2 (x1*x1) (x1*x1) (x1*x1) (EC.aF k h1 h2);rw[show x1*x1+x1*x1+x1*x1+EC.aF k h1 h2=x1*x1+(x1*x1+x1*x1)+EC.aF k h1 h2 by grobner]at x;exact gadd_of _ _ _ _ _ _ _ _ _ _ _ _ _ _ _ _ _ _ _ 3 101 (fun w=>by kernel_rfl) (fun w=>by kernel_rfl) (rel_3 _ _ _ _ f q (z▸(d y1 0).trans (decide_eq_false h0))) (gtang_of _ _ _ _ _ _ _ _ _ _ _ _ _ _ _ _ _ _ _ _ (gprodF h1 h2 x1 x1) (gquotF h1 h2 _ _ i) x (gsum2F h1 h2 y1 y1) (galongF h1 h2 _ x1 y1 x1 y1)) w
   ·have e:EC.pl (EC.iP (pN k)) (EC.aF k h1 h2) (some (x1,y1)) (some (x1,y2))=none:=by simp[EC.pl,hy]
    rw[e];exact gadd_of _ _ _ _ _ _ _ _ _ _ _ _ _ _ _ _ _ _ _ 4 102 (fun w=>by kernel_rfl) (fun w=>by kernel_rfl) (rel_4 _ _ _ _ f ((d y1 y2).trans (decide_eq_false hy))) (ginf_any _ _ _ _ _ _ _ _ _ _ _ _ _ _ _ _) w
  ·have i:x2-x1≠0:=fun h=>hx (EC.sub_zero_of h).symm
   have e:EC.pl (EC.iP (pN k)) (EC.aF k h1 h2) (some (x1,y1)) (some (x2,y2))=some (EC.sx ((y2-y1)*EC.iP (pN k) (x2-x1)) x1 x2,EC.sy ((y2-y1)*EC.iP (pN k) (x2-x1)) x1 y1 (EC.sx ((y2-y1)*EC.iP (pN k) (x2-x1)) x1 x2)):=by simp[EC.pl,hx]
   rw[e];exact gadd_of _ _ _ _ _ _ _ _ _ _ _ _ _ _ _ _ _ _ _ 2 100 (fun w=>by kernel_rfl) (fun w=>by kernel_rfl) (rel_2 _ _ _ _ ((d x1 x2).trans (decide_eq_false hx))) (gchord_of _ _ _ _ _ _ _ _ _ _ _ _ _ _ _ _ _ _ _ (gdiffF h1 h2 y2 y1) (gdiffF h1 h2 x2 x1) (gquotF h1 h2 _ _ i) (galongF h1 h2 _ x1 y1 x2 y2)) w
theorem gaddQ{k:Nat}(h1:1≤k)(h2:k≤15){P Q R:Q3}(hP:OnQ k P)(hQ:OnQ k Q)(hR:plQ k P Q=R)(w:World):
 Cg 54 #[.agg (cuK k),.agg (pnQ P),.agg (pnQ Q)] w (.agg (pnQ R)):=by
 haveI:=EC.nzP k h1 h2
 obtain⟨d,f,i⟩:=dec3 hP;obtain⟨j,q,x⟩:=dec3 hQ;have h:=gadd_any h1 h2 (decQ (pN k) P) (decQ (pN k) Q) w;rw[d,f,i,j,q,x]at h;rw[←hR,plQ_is h1 h2];exact h
theorem gnegQ{k:Nat}(h1:1≤k)(h2:k≤15){P R:Q3}(hP:OnQ k P)(hR:ngQ k P=R)(w:World):
 Cg 42 #[.agg (cuK k),.agg (pnQ P)] w (.agg (pnQ R)):=by
 haveI:=EC.nzP k h1 h2
 have z:(0:Fin (pN k)).val=0:=Fin.val_zero _;rw[←hR,ngQ_is h1 h2];obtain⟨d,f,i⟩:=dec3 hP;rw[show pnQ P=pnt (ex (decQ (pN k) P)) (ey (decQ (pN k) P)) (ef (decQ (pN k) P)) by rw[d,f,i]]
 match decQ (pN k) P with
 | none=>
  have h:=gdiffF h1 h2 0 0;rw[show (0:Fin (pN k))-0=0 by grobner,z]at h;exact gneg_of _ _ _ _ _ _ _ _ _ _ _ _ _ _ h w
 | some (x,y)=>
  have h:=gdiffF h1 h2 0 y;rw[show (0:Fin (pN k))-y = -y by grobner,z]at h;exact gneg_of _ _ _ _ _ _ _ _ _ _ _ _ _ _ h w
theorem gdblQ{k:Nat}(h1:1≤k)(h2:k≤15){P Q R:Q3}(hP:OnQ k P)(hR:plQ k P P=R)(w:World):
 Cg 96 #[.agg (cuK k),.agg (pnQ P),.agg (pnQ Q)] w (.agg (pnQ R)):=gdbl_of _ _ _ _ _ _ _ _ _ _ _ _ _ _ _ _ _ _ _ (gaddQ h1 h2 hP hP hR) w
theorem gdbladdQ{k:Nat}(h1:1≤k)(h2:k≤15){P Q R T:Q3}(hP:OnQ k P)(hQ:OnQ k Q)(hR:plQ k P P=R)(hT:plQ k R Q=T)(w:World):
 Cg 97 #[.agg (cuK k),.agg (pnQ P),.agg (pnQ Q)] w (.agg (pnQ T)):=gdbladd_of _ _ _ _ _ _ _ _ _ _ _ _ _ _ _ _ _ _ _ _ _ _ (gaddQ h1 h2 hP hP hR) (gaddQ h1 h2 (hR▸plQ_on h1 h2 hP hP) hQ hT) w
end
section
attribute [local go_sem ↓] uz1
attribute [local go_sem] uz2
section
attribute [local go_sem] uz8
attribute [local go_sem ↓] uz15 Go.wp_at_zero Go.wp_at_succ
attribute [local go_sem] uz16
theorem gmulQ{k:Nat}(h1:1≤k)(h2:k≤15){P:Q3}(hP:OnQ k P)(t:Nat)(ht:t<M)(w:World):
 Cg 53 #[.agg (cuK k),.agg (nw 9 t),.agg (pnQ P)] w (.agg (pnQ (mlQ k t P))):=by
 obtain⟨L,hL⟩:=exl (bl t)
 have af:(L:Int)≤576:=by have:=bl_576 t ht;omega
 have ag:(0:Int)≤L:=by omega
 have Z:Hid (∀w,Cg 72 #[.agg (nw 9 t)] w (.int .i64 L)):=fun w=>hL▸bits_any t ht w;have HZ:Hu (t/2^L=0):=fun _=>Nat.div_eq_of_lt (hL▸(bl_le t (bl t)).1 (Nat.le_refl _))
 have ab:Hu (L≤576):=fun _=>by omega
 clear hL ht
 go_enter func53,ntmps53
 go_upto_region 1 with fail
 refine gen_w (fun wr=>Hid (Gr w wr∧Vr wr (w.heap.size) (cuK k)∧Vr wr (w.heap.size+1) (nw 9 t)∧Vr wr (w.heap.size+1+1) (pnQ P)∧Vr wr (w.heap.size+1+1+1) (pnt 0 0 false)∧wr.heap.size=w.heap.size+1+1+1+1)) ⟨grA,vrA,vrA,vrA,vrA,by simp⟩ ?_;intro v0 HV;obtain⟨G,D,H,I,J,ac⟩:=HV.out;have⟨ah,ai,aj⟩:=D;have ak:=H.al;clear HV
 go_upto_region 3 with (go_at_call 72;refine hkA Z fun g=>?_)
 refine gen_w (fun wr=>Hid (Gr w wr∧Vr wr (w.heap.size) (cuK k)∧Vr wr (w.heap.size+1) (nw 9 t)∧Vr wr (w.heap.size+1+1) (pnQ P)∧Vr wr (w.heap.size+1+1+1) (pnt 0 0 false)∧Vr wr (w.heap.size+1+1+1+1) (pnQ inf))) ?_ ?_
 ·have hG:Gr v0 (gro (v0.alloc (.cells (pnt 0 0 true) 38)) g):=grA;have hn:Vr (gro (v0.alloc (.cells (pnt 0 0 true) 38)) g) v0.heap.size (pnt 0 0 true):=(Vr.new v0 _ _).gr grA;rw[ac]at hn;exact⟨G.trans hG,D.gr hG,H.gr hG,I.gr hG,J.gr hG,hn⟩
 intro v1 HV;clear Z
 go_loopw [8] (fun ia wr=>∃j:Nat,ia=.int .i64 ((j:Int)-1)∧Hu (j≤L)∧Hid (Gr w wr∧Vr wr (w.heap.size) (cuK k)∧Vr wr (w.heap.size+1) (nw 9 t)∧Vr wr (w.heap.size+1+1) (pnQ P)∧Vr wr (w.heap.size+1+1+1) (pnt 0 0 false)∧Vr wr (w.heap.size+1+1+1+1) (pnt (mlQ k (t/2^j) P).1 (mlQ k (t/2^j) P).2.1 (mlQ k (t/2^j) P).2.2))) (fun ia _=>(intOf ia+1).toNat)
 case atStart=>
  refine⟨L,rfl,fun _=>Nat.le_refl _,?_⟩;rw[HZ.out (),mlQ_zero h1 h2];exact HV
 case round=>
  clear HV;obtain⟨j,rfl,HJ,V⟩:=hrel
  by_cases hpos:0<j
  ·obtain⟨d,rfl⟩:∃i,j=i+1:=⟨j-1,by omega⟩
   have e1:(((d+1:Nat):Int)-1)=(d:Int):=by omega
   rw[e1]
   have j0:(0:Int)≤d:=by omega
   have j1:(d:Int)<576:=by have:=HJ.out ();have:=ab.out ();omega
   have aa:d≤L:=by have:=HJ.out ();omega
   have W:d<576:=by omega
   obtain⟨R,hR⟩:=exl (mlQ k (t/2^(d+1)) P);obtain⟨R1,X⟩:=exl (plQ k R R);obtain⟨T,hT⟩:=exl (plQ k R1 P);have S:OnQ k R:=hR▸mlQ_on h1 h2 _ hP;rw[hR]at V;obtain⟨G,D,H,I,J,A⟩:=V.out
   have B:∀b,t/2^d%2=b→t/2^d=t/2^(d+1)+t/2^(d+1)+b:=fun b U=>by
    rw[Nat.pow_succ,←Nat.div_div_eq_div_mul];omega
   have K:mlQ k (t/2^(d+1)+t/2^(d+1)) P=R1:=by rw[mlQ_add h1 h2 _ _ hP,hR,X]
   have C:=bit_any t d W;clear V HJ hpos e1
   obtain U|U:t/2^d%2=0∨t/2^d%2=1:=by omega
   ·have Y:R1=mlQ k (t/2^d) P:=by rw[B 0 U,Nat.add_zero,K]
    have Z:Hid (∀w,Cg 74 #[.agg (nw 9 t),.int .i64 d] w (.int .i64 0)):=by
     rw[show bitN t d=0 from U]at C;exact C
    have HS:Hid _:=gdblQ h1 h2 (Q:=P) S X;clear U K B C W
    go_upto_region 5 with fail
    refine wp_wT 9 [.c (.agg tabB),.N t,.c (.int .i64 d),.O,.c (.func (.func 96) #[] #[]),.c (.agg (cuK k)),.c (.agg (pnQ R)),.c (.agg (pnQ P)),.c (.agg (pnQ R1))] [0,1,3,5,6,7,8] ⟨.z toProduct_any,.g 25 0 H rfl,.z Z.out,.g 82 0 D rfl,.g 38 0 A rfl,.g 38 0 I rfl,.z HS.out,⟨⟩⟩ (.s 38 (fun yy=>pv (w.heap.size+1+1+1+1) 0) (fun yy=>.agg (pnQ R1)) fun ae v1 q h5=>?_);have HT:=(A.gr q).h;have FT:=(A.gr q).f;refine⟨setBlk v1 (w.heap.size+1+1+1+1) (pnQ R1),by simp[go_sem,exI,HT,FT],?_⟩;simp only[fzw];clear h5;replace G:=G.trans q;replace D:=D.gr q;replace H:=H.gr q;replace I:=I.gr q;replace J:=J.gr q;replace A:=A.gr q;clear q
    go_wp2_with fail
    go_roundw
    case rel=>
     refine⟨d,by simp,fun _=>aa,?_⟩;rw[←Y];exact⟨gr_setNew G (by omega),D.other (by omega),H.other (by omega),I.other (by omega),J.other (by omega),A.set (by rw[pnt_size];decide) _⟩
    case measure=>simp[intOf]
   ·have Y:T=mlQ k (t/2^d) P:=by rw[B 1 U,mlQ_add h1 h2 _ _ hP,K,mlQ_one h1 h2 hP,hT]
    have Z:Hid (∀w,Cg 74 #[.agg (nw 9 t),.int .i64 d] w (.int .i64 1)):=by
     rw[show bitN t d=1 from U]at C;exact C
    have HS:Hid _:=gdbladdQ h1 h2 S hP X hT;clear U K B C W
    go_upto_region 5 with fail
    refine wp_wT 9 [.c (.agg tabB),.N t,.c (.int .i64 d),.c (.int .i64 1),.c (.func (.func 97) #[] #[]),.c (.agg (cuK k)),.c (.agg (pnQ R)),.c (.agg (pnQ P)),.c (.agg (pnQ T))] [0,1,3,5,6,7,8] ⟨.z toProduct_any,.g 25 0 H rfl,.z Z.out,.g 82 0 D rfl,.g 38 0 A rfl,.g 38 0 I rfl,.z HS.out,⟨⟩⟩ (.s 38 (fun yy=>pv (w.heap.size+1+1+1+1) 0) (fun yy=>.agg (pnQ T)) fun ae v1 q h5=>?_);have HT:=(A.gr q).h;have FT:=(A.gr q).f;refine⟨setBlk v1 (w.heap.size+1+1+1+1) (pnQ T),by simp[go_sem,exI,HT,FT],?_⟩;simp only[fzw];clear h5;replace G:=G.trans q;replace D:=D.gr q;replace H:=H.gr q;replace I:=I.gr q;replace J:=J.gr q;replace A:=A.gr q;clear q
    go_wp2_with fail
    go_roundw
    case rel=>
     refine⟨d,by simp,fun _=>aa,?_⟩;rw[←Y];exact⟨gr_setNew G (by omega),D.other (by omega),H.other (by omega),I.other (by omega),J.other (by omega),A.set (by rw[pnt_size];decide) _⟩
    case measure=>simp[intOf]
  ·obtain rfl:j=0:=by omega
   rw[Nat.pow_zero,Nat.div_one]at V;obtain⟨R,hR⟩:=exl (mlQ k t P);rw[hR]at V;obtain⟨G,D,H,I,J,A⟩:=V.out;have⟨h3,f3,p3⟩:=J;have⟨h4,f4,p4⟩:=A;clear V HJ hpos
   go_wp2_with fail
   refine bo1 results53 (rd_pn (x:=R.1) (y:=R.2.1) (f:=R.2.2) (by rfl) ?_) ⟨by rw[hR],gr_setNew G (by omega)⟩;simp[go_sem,h3]
end
section
attribute [local go_sem] uz8
attribute [local go_sem ↓] uz15 Go.wp_at_zero Go.wp_at_succ
attribute [local go_sem] uz16
theorem gf_yes{k:Nat}(h1:1≤k)(h2:k≤15)(n:Nat)(hn:n≤2)(F:Nat→Q3)(hF:∀i,i<n→(F i).1<M∧(F i).2.1<M)(c:Array Value)(hrow:∀i,i<n→c.extract (i*19) (i*19+19)=pnQ (F i))(hsz:n*19≤c.size)(hon:∀i,i<n→onB k (F i).1 (F i).2.1 (F i).2.2=true)(b cap:Nat)(w:World)(hv:Vr w b c):
 Cg 41 #[.int .i64 k,.slice (some ⟨b,0,none⟩) n cap] w (.tuple #[.agg (cuK k),.int .i64 0]):=by
 have C:Hid (∀w,Cg 40 #[.int .i64 k] w (.tuple #[.agg (cuK k),.int .i64 0])):=fun w=>get13_yes k h1 h2 w;have L:Hu (n≤2):=fun _=>hn;have D:Hid _:=hF;have P:Hid _:=hon
 have Q:Hid (∀j,j<n→∀v,Gr w v→(loadS 38 (.pointer (some ⟨b,j*19,none⟩))).run prog v=.ok (.agg (pnt (F j).1 (F j).2.1 (F j).2.2)) v):=fun j S v g=>by
  have H:=(hv.gr g).h;rw[loadPartP v b (j*19) (by rw[H];omega),H,hrow j S]
 clear hn hF hrow hsz hon
 go_enter func41,ntmps41
 go_wp2_with (go_at_call 40;refine(C.out _).mono ?_;rintro e I ⟨rfl,x⟩)
 obtain⟨q,d⟩:=exl (I.heap.size);simp only[d]
 refine gen_w (fun wr=>Hid (Gr w wr∧Vr wr (w.heap.size) (cu 0 0 0 0 0 0 0 0 0 false)∧Vr wr q (cuK k))) ?_ ?_
 ·subst d;exact⟨(((Gr.refl w).alloc _).trans x).alloc _,((Vr.new w _ _).gr x).gr ((Gr.refl _).alloc _),Vr.new I _ _⟩
 have U:w.heap.size<q:=by have:=x.below.size;simp at this;omega
 have J:¬(w.heap.size=q):=by omega
 have K:¬(q=w.heap.size):=by omega
 clear d x C;intro v0 A
 go_loopw [20] (fun ia wr=>∃j:Nat,ia=.int .i64 j∧Hu (j≤n)∧Hid (Gr w wr∧Vr wr (w.heap.size) (cu 0 0 0 0 0 0 0 0 0 false)∧Vr wr q (cuK k))) (fun ia _=>((n:Int)-intOf ia).toNat)
 case atStart=>exact⟨0,rfl,fun _=>Nat.zero_le _,A⟩
 case round=>
  clear A;obtain⟨j,rfl,HJ,A⟩:=hrel;obtain⟨G,V,W⟩:=A.out
  have j0:(0:Int)≤j:=by omega
  have n4:(n:Int)≤2:=by have:=L.out ();omega
  have⟨X,Y,Z⟩:=V;have⟨aa,ab,ac⟩:=W
  by_cases hlt:j<n
  ·have f:j<n:=by exact hlt
   have ae:=Q.out j f wr G
   have B:Hid _:=fun w=>by
    have:=on13_yes k h1 h2 _ _ (F j).2.2 (D.out j f).1 (D.out j f).2 w;rw[P.out j hlt]at this;exact this
   go_wp2_with (go_at_call 43;refine hkA B fun g=>?_)
   go_roundw
   case rel=>
    refine⟨j+1,by go_num,fun _=>hlt,?_,⟨by simp[go_sem, *],by simp[go_sem, *],by simp[go_sem, *]⟩,⟨by simp[go_sem, *],by simp[go_sem, *],by simp[go_sem, *]⟩⟩;exact grB
   case measure=>simp[intOf];omega
  ·skip
   go_wp2_with fail
   refine bo2 results41 (rd_gp (by rfl) ?_) ⟨rfl,?_⟩
   ·simp[go_sem, *]
   ·exact grB
end
section
attribute [local go_sem] uz8
attribute [local go_sem ↓] uz15 Go.wp_at_zero Go.wp_at_succ
attribute [local go_sem] uz16
theorem aadd_yes{k:Nat}{P Q R:Q3}(HG':(∀w b,Vr w b (pnQ P++pnQ Q)→Cg 41 #[.int .i64 k,.slice (some ⟨b,0,none⟩) 2 2] w (.tuple #[.agg (cuK k),.int .i64 0])))(HA':∀w,Cg 54 #[.agg (cuK k),.agg (pnQ P),.agg (pnQ Q)] w (.agg (pnQ R)))(w:World):
 Cg 32 #[.int .i64 k,.agg (pnQ P),.agg (pnQ Q)] w (.tuple #[.agg (pnQ R),.int .i64 0]):=by
 have C:Hid _:=HG';have D:Hid _:=HA';clear HG' HA'
 go_enter func32,ntmps32
 go_upto_region 1 with fail
 refine gen_w (fun v=>Hid (Gr w v∧Vr v (w.heap.size) (pnQ P)∧Vr v (w.heap.size+1) (pnQ Q)∧Vr v (w.heap.size+1+1) (pnt 0 0 false))) ⟨grA,vrA,vrA,vrA⟩ ?_;intro v0 x;obtain⟨G,h,i,j⟩:=x.out;clear x;refine wp_v false [.c (.int .i64 k),.c (.agg (pnQ P)),.c (.agg (pnQ Q)),.r 2 (pnQ P++pnQ Q),.E (.agg (cuK k)),.E (.agg (cuK k)),.c (.agg (cuK k)),.O,.a,.u,.O] [1,2,3,4] [⟨8,9,82,cu 0 0 0 0 0 0 0 0 0 false,fun _=>cuK k⟩] ⟨.g 38 0 h rfl,.g 38 0 i rfl,.r (.buildSlice 115 2 #[(0,.const (.agg (pnQ P))),(1,.const (.agg (pnQ Q)))]) rfl (rowP2 _ _ _ _ _ _),.k (fun A =>#[.int .i64 k,.slice (some ⟨(A 3 0).2,0,none⟩) 2 2]) fun A vv d H=>RtW.of_c (Rt.c (C.out _ _ (H 3 rfl))),⟨⟩⟩ ⟨.k zCu ⟨fkc,fkc,fkc,fkr (by simp[cu_size,pnt_size]),fkc,fkc,fkc,fkc,fka,fku,fkc,trivial⟩,⟨⟩⟩ fun I v1 d J q=>?_;simp only[fzw,Kw.a,Kw.r];obtain⟨⟨B,f⟩,-⟩:=q;clear J;replace G:=G.trans d;replace h:=h.gr d;replace i:=i.gr d;replace j:=j.gr d;clear d
 go_upto_region 2 with fail
 refine wp_wS [.O,.F] [] ⟨⟩ fun K v2 d L=>?_;simp only[fzw];clear L;replace G:=G.trans d;replace h:=h.gr d;replace i:=i.gr d;replace j:=j.gr d;replace f:=f.gr d;clear d;have S:=h.al;have⟨U,V,W⟩:=i;have X:=j.al;have⟨Y,Z,aa⟩:=f
 go_wp2_with (go_at_call 54;refine hkA D fun g=>?_)
 refine bo2 results32 (rd_pn (by rfl) ?_) ⟨rfl,?_⟩
 ·simp[go_sem, *]
 ·exact grB
theorem aneg_yes{k:Nat}{P R:Q3}(HG':(∀w b,Vr w b (pnQ P)→Cg 41 #[.int .i64 k,.slice (some ⟨b,0,none⟩) 1 1] w (.tuple #[.agg (cuK k),.int .i64 0])))(HA':∀w,Cg 42 #[.agg (cuK k),.agg (pnQ P)] w (.agg (pnQ R)))(w:World):
 Cg 17 #[.int .i64 k,.agg (pnQ P)] w (.tuple #[.agg (pnQ R),.int .i64 0]):=by
 have B:Hid _:=HG';have C:Hid _:=HA';clear HG' HA'
 go_enter func17,ntmps17
 go_upto_region 1 with fail
 refine gen_w (fun v=>Hid (Gr w v∧Vr v (w.heap.size) (pnQ P)∧Vr v (w.heap.size+1) (pnt 0 0 false))) ⟨grA,vrA,vrA⟩ ?_;intro Y q;obtain⟨G,h,i⟩:=q.out;clear q;refine wp_v false [.c (.int .i64 k),.c (.agg (pnQ P)),.r 1 (pnQ P),.E (.agg (cuK k)),.E (.agg (cuK k)),.c (.agg (cuK k)),.O,.a,.u,.O] [1,2,3] [⟨7,8,82,cu 0 0 0 0 0 0 0 0 0 false,fun _=>cuK k⟩] ⟨.g 38 0 h rfl,.r (.buildSlice 115 1 #[(0,.const (.agg (pnQ P)))]) rfl (rowP1 _ _ _),.k (fun x =>#[.int .i64 k,.slice (some ⟨(x 2 0).2,0,none⟩) 1 1]) fun x Z f D=>RtW.of_c (Rt.c (B.out _ _ (D 2 rfl))),⟨⟩⟩ ⟨.k zCu ⟨fkc,fkc,fkr (by simp[cu_size,pnt_size]),fkc,fkc,fkc,fkc,fka,fku,fkc,trivial⟩,⟨⟩⟩ fun H v1 f I j=>?_;simp only[fzw,Kw.a,Kw.r];obtain⟨⟨A,d⟩,-⟩:=j;clear I;replace G:=G.trans f;replace h:=h.gr f;replace i:=i.gr f;clear f
 go_upto_region 2 with fail
 refine wp_wS [.O,.F] [] ⟨⟩ fun J v2 f K=>?_;simp only[fzw];clear K;replace G:=G.trans f;replace h:=h.gr f;replace i:=i.gr f;replace d:=d.gr f;have L:=h.al;have⟨Q,S,U⟩:=i;have⟨V,W,X⟩:=d
 go_wp2_with (go_at_call 42;refine hkA C fun g=>?_)
 refine bo2 results17 (rd_pn (by rfl) ?_) ⟨rfl,?_⟩
 ·simp[go_sem, *]
 ·exact grB
theorem amul_yes{k:Nat}{P R:Q3}(t:Nat)(HG':(∀w b,Vr w b (pnQ P)→Cg 41 #[.int .i64 k,.slice (some ⟨b,0,none⟩) 1 1] w (.tuple #[.agg (cuK k),.int .i64 0])))(HA':∀w,Cg 53 #[.agg (cuK k),.agg (nw 9 t),.agg (pnQ P)] w (.agg (pnQ R)))(w:World):
 Cg 31 #[.int .i64 k,.agg (nw 9 t),.agg (pnQ P)] w (.tuple #[.agg (pnQ R),.int .i64 0]):=by
 have D:Hid _:=HG';have H:Hid _:=HA';clear HG' HA'
 go_enter func31,ntmps31
 go_upto_region 1 with fail
 refine gen_w (fun v=>Hid (Gr w v∧Vr v (w.heap.size) (nw 9 t)∧Vr v (w.heap.size+1) (pnQ P)∧Vr v (w.heap.size+1+1) (pnt 0 0 false))) ⟨grA,vrA,vrA,vrA⟩ ?_;intro I A;obtain⟨G,i,h,j⟩:=A.out;clear A;refine wp_v false [.c (.int .i64 k),.c (.agg (pnQ P)),.r 1 (pnQ P),.E (.agg (cuK k)),.E (.agg (cuK k)),.c (.agg (cuK k)),.O,.a,.u,.O] [1,2,3] [⟨7,8,82,cu 0 0 0 0 0 0 0 0 0 false,fun _=>cuK k⟩] ⟨.g 38 0 h rfl,.r (.buildSlice 115 1 #[(0,.const (.agg (pnQ P)))]) rfl (rowP1 _ _ _),.k (fun B =>#[.int .i64 k,.slice (some ⟨(B 2 0).2,0,none⟩) 1 1]) fun B Y f J=>RtW.of_c (Rt.c (D.out _ _ (J 2 rfl))),⟨⟩⟩ ⟨.k zCu ⟨fkc,fkc,fkr (by simp[cu_size,pnt_size]),fkc,fkc,fkc,fkc,fka,fku,fkc,trivial⟩,⟨⟩⟩ fun q K f L x=>?_;simp only[fzw,Kw.a,Kw.r];obtain⟨⟨C,d⟩,-⟩:(I.heap.size≤(q 7 0).2∧Vr K (q 7 0).2 (cuK k))∧True:=x;clear L;replace G:=G.trans f;replace i:=i.gr f;replace h:=h.gr f;replace j:=j.gr f;clear f
 go_upto_region 2 with fail
 refine wp_wS [.O,.F] [] ⟨⟩ fun Q Z f S=>?_;simp only[fzw];clear S;replace G:=G.trans f;replace i:=i.gr f;replace h:=h.gr f;replace j:=j.gr f;replace d:=d.gr f;clear f;have U:=i.al;have V:=h.al;have W:=j.al;have X:=d.al;clear i h j d
 go_wp2_with (go_at_call 53;refine hkA H fun g=>?_)
 refine bo2 results31 (rd_pn (by rfl) ?_) ⟨rfl,?_⟩
 ·simp[go_sem, *]
 ·exact grB
theorem gf1{k:Nat}(h1:1≤k)(h2:k≤15){P:Q3}(hP:OnQ k P)(w:World)(b:Nat)(hv:Vr w b (pnQ P)):Cg 41 #[.int .i64 k,.slice (some ⟨b,0,none⟩) 1 1] w (.tuple #[.agg (cuK k),.int .i64 0]):=
 gf_yes h1 h2 1 (by decide) (fun _=>P) (fun _ _=>hP.lt) _ (fun i d=>by
  obtain rfl:i=0:=by omega
  kernel_rfl) (by simp[pnt_size]) (fun _ _=>hP) b 1 w hv
theorem gf2{k:Nat}(h1:1≤k)(h2:k≤15){P Q:Q3}(hP:OnQ k P)(hQ:OnQ k Q)(w:World)(b:Nat)(hv:Vr w b (pnQ P++pnQ Q)):Cg 41 #[.int .i64 k,.slice (some ⟨b,0,none⟩) 2 2] w (.tuple #[.agg (cuK k),.int .i64 0]):=
 gf_yes h1 h2 2 (by decide) (fun i=>match i with|0=>P|_=>Q) (fun i _=>match i with|0=>hP.lt|_+1=>hQ.lt) _ (fun i d=>by
  obtain rfl|rfl:i=0∨i=1:=by omega
  ·kernel_rfl
  ·kernel_rfl) (by simp[pnt_size]) (fun i _=>match i with|0=>hP|_+1=>hQ) b 2 w hv
theorem addQ{k:Nat}(h1:1≤k)(h2:k≤15){P Q R:Q3}(hP:OnQ k P)(hQ:OnQ k Q)(hR:plQ k P Q=R)(w:World):Cg 32 #[.int .i64 k,.agg (pnQ P),.agg (pnQ Q)] w (.tuple #[.agg (pnQ R),.int .i64 0]):=aadd_yes (gf2 h1 h2 hP hQ) (gaddQ h1 h2 hP hQ hR) w
theorem negQ{k:Nat}(h1:1≤k)(h2:k≤15){P R:Q3}(hP:OnQ k P)(hR:ngQ k P=R)(w:World):Cg 17 #[.int .i64 k,.agg (pnQ P)] w (.tuple #[.agg (pnQ R),.int .i64 0]):=aneg_yes (gf1 h1 h2 hP) (gnegQ h1 h2 hP hR) w
theorem mulQ{k:Nat}(h1:1≤k)(h2:k≤15){P R:Q3}(hP:OnQ k P){t:Nat}(ht:t<M)(hR:mlQ k t P=R)(w:World):Cg 31 #[.int .i64 k,.agg (nw 9 t),.agg (pnQ P)] w (.tuple #[.agg (pnQ R),.int .i64 0]):=amul_yes t (gf1 h1 h2 hP) (hR▸gmulQ h1 h2 hP t ht) w
end
end
end Go.Proofs.YtffhepbppiocbadGreat