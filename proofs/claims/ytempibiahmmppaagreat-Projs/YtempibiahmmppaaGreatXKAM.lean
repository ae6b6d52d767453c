import Derived.Test.YtempibiahmmppaaGreatXKRP2
import Derived.Test.YtempibiahmmppaaGreatXKIX
namespace Go.Proofs.YtempibiahmmppaaGreat
open Go.RowKit
set_option maxRecDepth 100000
set_option maxHeartbeats 8000000
section
attribute [local go_sem ↓] loadNat_is loadArr_is loadWide_is loadArrW_is storeNat_is storeWide_is
attribute [local go_sem] loadNat loadArr loadWide loadArrW storeNat storeWide idxArr fold9 fold18 nw_size nw_elem pre_self pre_1 pre_2 pre_3 pre_4 pre_5 pre_6 pre_7 pre_8 pre_9 pre_10 pre_11 pre_12 pre_13 pre_14 pre_15 pre_16 pre_17 pre_18 pre_19 pre_20 pre_21 pre_22 pre_23 pre_24 pre_25 pre_26 pre_27 pre_28 pre_29 pre_30 pre_31 pre_32 pre_33 pre_34 pre_35 pre_36 pre_37 pre_38 pre_39 pre_40 gro_size gro_drew gro_drewN drew_gro drewN_gro gro_gro blk_gro frz_gro blk_drew frz_drew blk_drewN frz_drewN blk_alloc_at frz_alloc_at blk_alloc frz_alloc cell_gro frozen_gro cell_alloc_pre frozen_alloc_pre setCell_drewN alloc_drewN setBlk_drew setBlk_drewN setBlk_alloc_at setBlk_alloc setBlk_gro setCell_gro setCell_alloc_pre size_setBlk size_setCell
section
attribute [local go_sem] ppre_1 ppre_2 ppre_3 ppre_4 ppre_5 ppre_6
attribute [local go_sem ↓] loadJg_is storeJg_is zvJg_is buildJg_is loadPj_is storePj_is zvPj_is buildPj_is zvCu_is storeCu_is loadCu_is loadPn_is storePn_is zvPn_is buildCu_is buildPn_is Go.wp_at_zero Go.wp_at_succ
attribute [local go_sem] loadJg storeJg zvJg buildJg0 buildJg1 loadPj storePj zvPj buildPj0 buildPj1 buildPj2 buildPj3 loadJX loadJY loadJZ prj_size prj_X prj_Y prj_Z buildPn0 zvCu storeCu loadCu loadPn storePn zvPn loadCP loadCA loadCB loadPX loadPY buildPnI buildPn2 cu_size cu_P cu_A cu_B pnt_size pnt_X pnt_Y frz_setBlk blk_setBlk setBlk_setBlk blk_other
def cTl : Code → Code
 | .seq _ b => b
 | c => c
def cHd : Code → Code
 | .seq a _ => a
 | c => c
theorem jadd_end {k : Nat} (h1 : 1 ≤ k) (h2 : k ≤ 15) {N X Y : Nat} {s z : Int} {l : Bool} {A B : Fin (pN k)} {xy yz mi pl st fl r1 r2 X3 r3 r4 Y3 r5 r6 Z3 : Fin (pN k)} (er1 : xy * mi = r1) (er2 : yz * fl = r2) (eX3 : r1 - r2 = X3) (er3 : pl * mi = r3) (er4 : st * fl = r4) (eY3 : r3 + r4 = Y3) (er5 : yz * pl = r5) (er6 : xy * st = r6) (eZ3 : r5 + r6 = Z3) {b0 b1 b2 b3 b4 b5 b6 b7 : Nat} {t0 t1 t2 t4 t5 t7 t8 t9 t10 t12 t14 t15 t20 t21 t22 t23 t24 t25 t26 t27 t28 t29 t30 t31 t32 t33 t34 t35 t36 t37 t38 t39 t40 t41 t42 t43 t44 t45 t46 t47 t48 t49 t50 t51 t52 t53 t54 t55 t56 t57 t58 t59 t60 t61 t62 t63 t64 t65 t66 t67 t68 t69 t70 t71 t72 t73 t74 t75 t76 t77 t78 t79 t80 t81 t82 t83 t84 t85 t86 t87 t88 t89 t90 t91 t92 t93 t94 t95 t96 t97 t98 t99 t100 t101 t102 t103 t104 t105 t106 t107 t108 t109 t110 t111 t112 t113 t114 t115 t116 t117 t118 t119 t120 t121 t122 t123 t124 t125 t126 t127 t128 t129 t130 t131 t132 t133 t134 t135 t136 t137 t138 t139 t140 t141 t142 t143 t144 t145 t146 t147 t148 t149 t150 t151 t152 t153 t154 t155 t156 t157 t158 t159 t160 t161 t162 t163 t164 t165 t166 t167 t168 t169 t170 t171 t172 t173 t174 t175 t176 t177 t178 t179 t180 t181 t182 t183 t184 t185 t186 t187 t188 t189 t190 t191 t192 t193 t194 t195 t196 t197 t198 : Value} {v : World} {Q : Exit → Act → World → Prop}
   (c0 : Vr v b0 (cu (k : Int) (pN k) A.val B.val N X Y s z l)) (c6 : Vr v b6 (prj 0 0 0)) (Vb1 : Vr v b1 (nw 9 xy.val)) (Vb2 : Vr v b2 (nw 9 yz.val)) (Vb3 : Vr v b3 (nw 9 mi.val)) (Vb4 : Vr v b4 (nw 9 pl.val)) (Vb5 : Vr v b5 (nw 9 st.val)) (Vb7 : Vr v b7 (nw 9 fl.val))
   (hQ : ∀ (a : Act) (v' : World), a.tmps.getD 6 undef = .pointer (some ⟨b6, 0, none⟩) → a.defers = [] → Gr v v' → blk v' b6 = prj 0 0 0 → Q .normal a (setBlk v' b6 (prj X3.val Y3.val Z3.val))) :
   Code.wp Tryz.prog (cHd (cTl (cTl (cTl (cTl (cTl (cTl (cTl (cTl (cTl (cTl (cTl (Tryz.f36.body.getD .ret))))))))))))) Q ⟨#[t0, t1, t2, .pointer (some ⟨b0, 0, none⟩), t4, t5, .pointer (some ⟨b6, 0, none⟩), t7, t8, t9, t10, .pointer (some ⟨b1, 0, none⟩), t12, .pointer (some ⟨b2, 0, none⟩), t14, t15, .pointer (some ⟨b3, 0, none⟩), .pointer (some ⟨b4, 0, none⟩), .pointer (some ⟨b5, 0, none⟩), .pointer (some ⟨b7, 0, none⟩), t20, t21, t22, t23, t24, t25, t26, t27, t28, t29, t30, t31, t32, t33, t34, t35, t36, t37, t38, t39, t40, t41, t42, t43, t44, t45, t46, t47, t48, t49, t50, t51, t52, t53, t54, t55, t56, t57, t58, t59, t60, t61, t62, t63, t64, t65, t66, t67, t68, t69, t70, t71, t72, t73, t74, t75, t76, t77, t78, t79, t80, t81, t82, t83, t84, t85, t86, t87, t88, t89, t90, t91, t92, t93, t94, t95, t96, t97, t98, t99, t100, t101, t102, t103, t104, t105, t106, t107, t108, t109, t110, t111, t112, t113, t114, t115, t116, t117, t118, t119, t120, t121, t122, t123, t124, t125, t126, t127, t128, t129, t130, t131, t132, t133, t134, t135, t136, t137, t138, t139, t140, t141, t142, t143, t144, t145, t146, t147, t148, t149, t150, t151, t152, t153, t154, t155, t156, t157, t158, t159, t160, t161, t162, t163, t164, t165, t166, t167, t168, t169, t170, t171, t172, t173, t174, t175, t176, t177, t178, t179, t180, t181, t182, t183, t184, t185, t186, t187, t188, t189, t190, t191, t192, t193, t194, t195, t196, t197, t198], []⟩ v := by
 conv => arg 2; whnf
 have G := Gr.refl v
 refine wp_wT 39 [.c (.agg (cu (k : Int) (pN k) A.val B.val N X Y s z l)), .c (.agg (cu (k : Int) (pN k) A.val B.val N X Y s z l)), .c (.agg (nw 9 xy.val)), .c (.agg (nw 9 mi.val)), .r 1 (nw 9 mi.val), .c (.agg (nw 9 r1.val)), .c (.agg (cu (k : Int) (pN k) A.val B.val N X Y s z l)), .c (.agg (nw 9 yz.val)), .c (.agg (nw 9 fl.val)), .r 1 (nw 9 fl.val), .c (.agg (nw 9 r2.val)), .c (.agg (nw 9 X3.val)), .c (.agg (cu (k : Int) (pN k) A.val B.val N X Y s z l)), .c (.agg (cu (k : Int) (pN k) A.val B.val N X Y s z l)), .c (.agg (nw 9 pl.val)), .c (.agg (nw 9 mi.val)), .r 1 (nw 9 mi.val), .c (.agg (nw 9 r3.val)), .c (.agg (cu (k : Int) (pN k) A.val B.val N X Y s z l)), .c (.agg (nw 9 st.val)), .c (.agg (nw 9 fl.val)), .r 1 (nw 9 fl.val), .c (.agg (nw 9 r4.val)), .r 1 (nw 9 r4.val), .c (.agg (nw 9 Y3.val)), .c (.agg (cu (k : Int) (pN k) A.val B.val N X Y s z l)), .c (.agg (cu (k : Int) (pN k) A.val B.val N X Y s z l)), .c (.agg (nw 9 yz.val)), .c (.agg (nw 9 pl.val)), .r 1 (nw 9 pl.val), .c (.agg (nw 9 r5.val)), .c (.agg (cu (k : Int) (pN k) A.val B.val N X Y s z l)), .c (.agg (nw 9 xy.val)), .c (.agg (nw 9 st.val)), .r 1 (nw 9 st.val), .c (.agg (nw 9 r6.val)), .r 1 (nw 9 r6.val), .c (.agg (nw 9 Z3.val)), .c (.agg (prj X3.val Y3.val Z3.val))] [0, 1, 2, 3, 4, 5, 6, 7, 8, 9, 10, 11, 12, 13, 14, 15, 16, 17, 18, 19, 20, 21, 22, 23, 24, 25, 26, 27, 28, 29, 30, 31, 32, 33, 34, 35, 36, 37] ?hs27 ?hf27
 case hs27 =>
  refine .cons (.g 78 0 c0 rfl) ?_
  refine .cons (.g 78 0 c0 rfl) ?_
  refine .cons (.g 25 0 Vb1 rfl) ?_
  refine .cons (.g 25 0 Vb3 rfl) ?_
  refine .cons (.r (.buildSlice 123 1 #[(0, .const (.agg (nw 9 mi.val)))]) rfl (rowN1 _)) ?_
  refine .cons (.k (fun yy => #[.agg (cu (k : Int) (pN k) A.val B.val N X Y s z l), .agg (nw 9 xy.val), .slice (some ⟨(yy 4 0).2, 0, none⟩) 1 1]) fun yy vv hg hh => RtW.of_c (Rt.c (jp1 h1 h2 er1 (hh 4 rfl)))) ?_
  refine .cons (.g 78 0 c0 rfl) ?_
  refine .cons (.g 25 0 Vb2 rfl) ?_
  refine .cons (.g 25 0 Vb7 rfl) ?_
  refine .cons (.r (.buildSlice 123 1 #[(0, .const (.agg (nw 9 fl.val)))]) rfl (rowN1 _)) ?_
  refine .cons (.k (fun yy => #[.agg (cu (k : Int) (pN k) A.val B.val N X Y s z l), .agg (nw 9 yz.val), .slice (some ⟨(yy 9 0).2, 0, none⟩) 1 1]) fun yy vv hg hh => RtW.of_c (Rt.c (jp1 h1 h2 er2 (hh 9 rfl)))) ?_
  refine .cons (.k _ fun yy vv hg hh => RtW.of_c (Rt.c (jd h1 h2 (P := pN k) (A := A.val) (B := B.val) (N := N) (X := X) (Y := Y) (s := s) (z := z) (l := l) eX3 _))) ?_
  refine .cons (.g 78 0 c0 rfl) ?_
  refine .cons (.g 78 0 c0 rfl) ?_
  refine .cons (.g 25 0 Vb4 rfl) ?_
  refine .cons (.g 25 0 Vb3 rfl) ?_
  refine .cons (.r (.buildSlice 123 1 #[(0, .const (.agg (nw 9 mi.val)))]) rfl (rowN1 _)) ?_
  refine .cons (.k (fun yy => #[.agg (cu (k : Int) (pN k) A.val B.val N X Y s z l), .agg (nw 9 pl.val), .slice (some ⟨(yy 16 0).2, 0, none⟩) 1 1]) fun yy vv hg hh => RtW.of_c (Rt.c (jp1 h1 h2 er3 (hh 16 rfl)))) ?_
  refine .cons (.g 78 0 c0 rfl) ?_
  refine .cons (.g 25 0 Vb5 rfl) ?_
  refine .cons (.g 25 0 Vb7 rfl) ?_
  refine .cons (.r (.buildSlice 123 1 #[(0, .const (.agg (nw 9 fl.val)))]) rfl (rowN1 _)) ?_
  refine .cons (.k (fun yy => #[.agg (cu (k : Int) (pN k) A.val B.val N X Y s z l), .agg (nw 9 st.val), .slice (some ⟨(yy 21 0).2, 0, none⟩) 1 1]) fun yy vv hg hh => RtW.of_c (Rt.c (jp1 h1 h2 er4 (hh 21 rfl)))) ?_
  refine .cons (.r (.buildSlice 123 1 #[(0, .const (.agg (nw 9 r4.val)))]) rfl (rowN1 _)) ?_
  refine .cons (.k (fun yy => #[.agg (cu (k : Int) (pN k) A.val B.val N X Y s z l), .agg (nw 9 r3.val), .slice (some ⟨(yy 23 0).2, 0, none⟩) 1 1]) fun yy vv hg hh => RtW.of_c (Rt.c (js1 h1 h2 eY3 (hh 23 rfl)))) ?_
  refine .cons (.g 78 0 c0 rfl) ?_
  refine .cons (.g 78 0 c0 rfl) ?_
  refine .cons (.g 25 0 Vb2 rfl) ?_
  refine .cons (.g 25 0 Vb4 rfl) ?_
  refine .cons (.r (.buildSlice 123 1 #[(0, .const (.agg (nw 9 pl.val)))]) rfl (rowN1 _)) ?_
  refine .cons (.k (fun yy => #[.agg (cu (k : Int) (pN k) A.val B.val N X Y s z l), .agg (nw 9 yz.val), .slice (some ⟨(yy 29 0).2, 0, none⟩) 1 1]) fun yy vv hg hh => RtW.of_c (Rt.c (jp1 h1 h2 er5 (hh 29 rfl)))) ?_
  refine .cons (.g 78 0 c0 rfl) ?_
  refine .cons (.g 25 0 Vb1 rfl) ?_
  refine .cons (.g 25 0 Vb5 rfl) ?_
  refine .cons (.r (.buildSlice 123 1 #[(0, .const (.agg (nw 9 st.val)))]) rfl (rowN1 _)) ?_
  refine .cons (.k (fun yy => #[.agg (cu (k : Int) (pN k) A.val B.val N X Y s z l), .agg (nw 9 xy.val), .slice (some ⟨(yy 34 0).2, 0, none⟩) 1 1]) fun yy vv hg hh => RtW.of_c (Rt.c (jp1 h1 h2 er6 (hh 34 rfl)))) ?_
  refine .cons (.r (.buildSlice 123 1 #[(0, .const (.agg (nw 9 r6.val)))]) rfl (rowN1 _)) ?_
  refine .cons (.k (fun yy => #[.agg (cu (k : Int) (pN k) A.val B.val N X Y s z l), .agg (nw 9 r5.val), .slice (some ⟨(yy 36 0).2, 0, none⟩) 1 1]) fun yy vv hg hh => RtW.of_c (Rt.c (js1 h1 h2 eZ3 (hh 36 rfl)))) .nil
 refine .s 27 (fun yy => .pointer (some ⟨b6, 0, none⟩)) (fun yy => .agg (prj X3.val Y3.val Z3.val)) fun yw11 v1 hg h11 => ?_
 have HT := (c6.gr hg).h
 have FT := (c6.gr hg).f
 refine ⟨setBlk v1 (b6) (prj X3.val Y3.val Z3.val), by simp [go_sem, exI, HT, FT], ?_⟩
 simp only [FW, putFrom, Act.put, lqA, lqB, lqC, wvals, kW, lqD, lqE, Kw.c, Kw.r]
 clear h11
 replace G := G.trans hg
 replace c0 := c0.gr hg
 replace c6 := c6.gr hg
 replace Vb1 := Vb1.gr hg
 replace Vb2 := Vb2.gr hg
 replace Vb3 := Vb3.gr hg
 replace Vb4 := Vb4.gr hg
 replace Vb5 := Vb5.gr hg
 replace Vb7 := Vb7.gr hg
 clear hg
 exact hQ _ _ rfl rfl G HT
theorem jadd_of {k : Nat} (h1 : 1 ≤ k) (h2 : k ≤ 15) {N X Y : Nat} {s z : Int} {l : Bool} {A B : Fin (pN k)} {X1 Y1 Z1 X2 Y2 Z2 : Fin (pN k)} {b3 xx yv zz p1 p2 xy p3 p4 xz p5 p6 yz az p7 p8 pa mi pl st d1 p9 pt fl r1 r2 X3 r3 r4 Y3 r5 r6 Z3 : Fin (pN k)} (eb3 : B + B + B = b3) (exx : X1 * X2 = xx) (eyv : Y1 * Y2 = yv) (ezz : Z1 * Z2 = zz) (ep1 : X1 * Y2 = p1) (ep2 : X2 * Y1 = p2) (exy : p1 + p2 = xy) (ep3 : X1 * Z2 = p3) (ep4 : X2 * Z1 = p4) (exz : p3 + p4 = xz) (ep5 : Y1 * Z2 = p5) (ep6 : Y2 * Z1 = p6) (eyz : p5 + p6 = yz) (eaz : A * zz = az) (ep7 : A * xz = p7) (ep8 : b3 * zz = p8) (epa : p7 + p8 = pa) (emi : yv - pa = mi) (epl : yv + pa = pl) (est : xx + xx + xx + az = st) (ed1 : xx - az = d1) (ep9 : A * d1 = p9) (ept : b3 * xz = pt) (efl : p9 + pt = fl) (er1 : xy * mi = r1) (er2 : yz * fl = r2) (eX3 : r1 - r2 = X3) (er3 : pl * mi = r3) (er4 : st * fl = r4) (eY3 : r3 + r4 = Y3) (er5 : yz * pl = r5) (er6 : xy * st = r6) (eZ3 : r5 + r6 = Z3) (w : World) :
   Cg 36 #[.agg (cu (k : Int) (pN k) A.val B.val N X Y s z l), .agg (prj X1.val Y1.val Z1.val), .agg (prj X2.val Y2.val Z2.val)] w (.agg (prj X3.val Y3.val Z3.val)) := by
 go_enter Tryz.func36, Tryz.ntmps36
 go_upto_region 1 with fail
 refine gen_w (fun v => Hid (Gr w v ∧ Vr v (w.heap.size) (cu (k : Int) (pN k) A.val B.val N X Y s z l) ∧ Vr v (w.heap.size + 1) (prj X1.val Y1.val Z1.val) ∧ Vr v (w.heap.size + 1 + 1) (prj X2.val Y2.val Z2.val) ∧ Vr v (w.heap.size + 1 + 1 + 1) (prj 0 0 0))) ⟨grA, vrA, vrA, vrA, vrA⟩ ?_
 intro v0 HV
 obtain ⟨G, c0, c1, c2, c3⟩ := HV.out
 clear HV
 refine wp_v false [.c (.agg (cu (k : Int) (pN k) A.val B.val N X Y s z l)), .c (pv (w.heap.size) 0), .c (pv (w.heap.size) 19), .c (.agg (nw 9 B.val)), .c (pv (w.heap.size) 0), .c (pv (w.heap.size) 19), .c (.agg (nw 9 B.val)), .c (pv (w.heap.size) 0), .c (pv (w.heap.size) 19), .c (.agg (nw 9 B.val)), .r 2 (nw 9 B.val ++ nw 9 B.val), .c (.agg (nw 9 b3.val)), .a, .u] [0, 3, 6, 9, 10, 11] [⟨12, 13, 25, nw 9 0, fun _ => nw 9 b3.val⟩] ?hs17 ?hv17 ?hf17
 case hs17 =>
  refine .cons (.g 78 0 c0 rfl) ?_
  refine .cons (.g 25 19 c0 rfl) ?_
  refine .cons (.g 25 19 c0 rfl) ?_
  refine .cons (.g 25 19 c0 rfl) ?_
  refine .cons (.r (.buildSlice 123 2 #[(0, .const (.agg (nw 9 B.val))), (1, .const (.agg (nw 9 B.val)))]) rfl (rowN2 _ _)) ?_
  refine .cons (.k (fun yy => #[.agg (cu (k : Int) (pN k) A.val B.val N X Y s z l), .agg (nw 9 B.val), .slice (some ⟨(yy 10 0).2, 0, none⟩) 2 2]) fun yy vv hg hh => RtW.of_c (Rt.c (js2 h1 h2 eb3 (hh 10 rfl)))) .nil
 case hv17 =>
  refine .cons (.mk (fun _ _ _ => rfl) (fun _ v b H F => by dsimp only at H ⊢; simp [go_sem, exI, H, F]) zNat ⟨fkc, fkc, fkc, fkc, fkc, fkc, fkc, fkc, fkc, fkc, fkr (by simp [nw_size]), fkc, fka, fku, trivial⟩) .nil
 intro yw1 v1 hg h1 hV1
 simp only [FW, putFrom, Act.put, lqA, lqB, lqC, wvals, kW, lqD, lqE, Kw.c, pv, Kw.a, Kw.r, Kw.u]
 obtain ⟨⟨N1_12, V1_12⟩, -⟩ : (v0.heap.size ≤ (yw1 12 0).2 ∧ Vr v1 (yw1 12 0).2 (nw 9 b3.val)) ∧ True := hV1
 clear h1
 have g1 := hg
 clear hg
 go_upto_region 2 with fail
 refine wp_y true [.c (.agg (cu (k : Int) (pN k) A.val B.val N X Y s z l)), .c (pv (w.heap.size + 1) 0), .c (.agg (nw 9 X1.val)), .c (pv (w.heap.size + 1 + 1) 0), .c (.agg (nw 9 X2.val)), .r 1 (nw 9 X2.val), .c (.agg (nw 9 xx.val)), .c (.agg (cu (k : Int) (pN k) A.val B.val N X Y s z l)), .c (pv (w.heap.size + 1) 9), .c (.agg (nw 9 Y1.val)), .c (pv (w.heap.size + 1 + 1) 9), .c (.agg (nw 9 Y2.val)), .r 1 (nw 9 Y2.val), .c (.agg (nw 9 yv.val)), .c (.agg (cu (k : Int) (pN k) A.val B.val N X Y s z l)), .c (pv (w.heap.size + 1) 18), .c (.agg (nw 9 Z1.val)), .c (pv (w.heap.size + 1 + 1) 18), .c (.agg (nw 9 Z2.val)), .r 1 (nw 9 Z2.val), .c (.agg (nw 9 zz.val)), .a, .a, .a, .u, .u, .u] [0, 2, 4, 6, 7, 9, 11, 13, 14, 16, 18, 20] [5, 12, 19] [⟨21, 24, 25, nw 9 0, fun _ => nw 9 xx.val⟩, ⟨22, 25, 25, nw 9 0, fun _ => nw 9 yv.val⟩, ⟨23, 26, 25, nw 9 0, fun _ => nw 9 zz.val⟩] ?hs18 ?hr18 ?hv18 ?hf18
 case hs18 =>
  refine .cons (.g 78 0 (c0.gr g1) rfl) ?_
  refine .cons (.g 25 0 (c1.gr g1) rfl) ?_
  refine .cons (.g 25 0 (c2.gr g1) rfl) ?_
  refine .cons (.k (fun yy => #[.agg (cu (k : Int) (pN k) A.val B.val N X Y s z l), .agg (nw 9 X1.val), .slice (some ⟨(yy 5 0).2, 0, none⟩) 1 1]) fun yy vv hg hh => RtW.of_c (Rt.c (jp1 h1 h2 exx (hh 5 rfl)))) ?_
  refine .cons (.g 78 0 (c0.gr g1) rfl) ?_
  refine .cons (.g 25 9 (c1.gr g1) rfl) ?_
  refine .cons (.g 25 9 (c2.gr g1) rfl) ?_
  refine .cons (.k (fun yy => #[.agg (cu (k : Int) (pN k) A.val B.val N X Y s z l), .agg (nw 9 Y1.val), .slice (some ⟨(yy 12 0).2, 0, none⟩) 1 1]) fun yy vv hg hh => RtW.of_c (Rt.c (jp1 h1 h2 eyv (hh 12 rfl)))) ?_
  refine .cons (.g 78 0 (c0.gr g1) rfl) ?_
  refine .cons (.g 25 18 (c1.gr g1) rfl) ?_
  refine .cons (.g 25 18 (c2.gr g1) rfl) ?_
  refine .cons (.k (fun yy => #[.agg (cu (k : Int) (pN k) A.val B.val N X Y s z l), .agg (nw 9 Z1.val), .slice (some ⟨(yy 19 0).2, 0, none⟩) 1 1]) fun yy vv hg hh => RtW.of_c (Rt.c (jp1 h1 h2 ezz (hh 19 rfl)))) .nil
 case hr18 =>
  refine .cons (.r (.buildSlice 123 1 #[(0, .const (.agg (nw 9 X2.val)))]) rfl (rowN1 _)) ?_
  refine .cons (.r (.buildSlice 123 1 #[(0, .const (.agg (nw 9 Y2.val)))]) rfl (rowN1 _)) ?_
  refine .cons (.r (.buildSlice 123 1 #[(0, .const (.agg (nw 9 Z2.val)))]) rfl (rowN1 _)) .nil
 case hv18 =>
  refine .cons (.mk (fun _ _ _ => rfl) (fun _ v b H F => by dsimp only at H ⊢; simp [go_sem, exI, H, F]) zNat) ?_
  refine .cons (.mk (fun _ _ _ => rfl) (fun _ v b H F => by dsimp only at H ⊢; simp [go_sem, exI, H, F]) zNat) ?_
  refine .cons (.mk (fun _ _ _ => rfl) (fun _ v b H F => by dsimp only at H ⊢; simp [go_sem, exI, H, F]) zNat) .nil
 intro yw2 v2 hg h2 hV2
 simp only [FW, putFrom, Act.put, lqA, lqB, lqC, wvals, kW, lqD, lqE, Kw.c, pv, Kw.a, Kw.r, Kw.u]
 obtain ⟨⟨N2_21, V2_21⟩, ⟨N2_22, V2_22⟩, ⟨N2_23, V2_23⟩, -⟩ : (v1.heap.size ≤ (yw2 21 0).2 ∧ Vr v2 (yw2 21 0).2 (nw 9 xx.val)) ∧ (v1.heap.size ≤ (yw2 22 0).2 ∧ Vr v2 (yw2 22 0).2 (nw 9 yv.val)) ∧ (v1.heap.size ≤ (yw2 23 0).2 ∧ Vr v2 (yw2 23 0).2 (nw 9 zz.val)) ∧ True := hV2
 clear h2
 replace g1 := g1.trans hg
 have g2 := hg
 clear hg
 go_upto_region 3 with fail
 refine wp_y true [.c (.agg (cu (k : Int) (pN k) A.val B.val N X Y s z l)), .c (.agg (cu (k : Int) (pN k) A.val B.val N X Y s z l)), .c (pv (w.heap.size + 1) 0), .c (.agg (nw 9 X1.val)), .c (pv (w.heap.size + 1 + 1) 9), .c (.agg (nw 9 Y2.val)), .r 1 (nw 9 Y2.val), .c (.agg (nw 9 p1.val)), .c (.agg (cu (k : Int) (pN k) A.val B.val N X Y s z l)), .c (pv (w.heap.size + 1 + 1) 0), .c (.agg (nw 9 X2.val)), .c (pv (w.heap.size + 1) 9), .c (.agg (nw 9 Y1.val)), .r 1 (nw 9 Y1.val), .c (.agg (nw 9 p2.val)), .r 1 (nw 9 p2.val), .c (.agg (nw 9 xy.val)), .a, .u] [0, 1, 3, 5, 7, 8, 10, 12, 14, 16] [6, 13, 15] [⟨17, 18, 25, nw 9 0, fun _ => nw 9 xy.val⟩] ?hs19 ?hr19 ?hv19 ?hf19
 case hs19 =>
  refine .cons (.g 78 0 (c0.gr g1) rfl) ?_
  refine .cons (.g 78 0 (c0.gr g1) rfl) ?_
  refine .cons (.g 25 0 (c1.gr g1) rfl) ?_
  refine .cons (.g 25 9 (c2.gr g1) rfl) ?_
  refine .cons (.k (fun yy => #[.agg (cu (k : Int) (pN k) A.val B.val N X Y s z l), .agg (nw 9 X1.val), .slice (some ⟨(yy 6 0).2, 0, none⟩) 1 1]) fun yy vv hg hh => RtW.of_c (Rt.c (jp1 h1 h2 ep1 (hh 6 rfl)))) ?_
  refine .cons (.g 78 0 (c0.gr g1) rfl) ?_
  refine .cons (.g 25 0 (c2.gr g1) rfl) ?_
  refine .cons (.g 25 9 (c1.gr g1) rfl) ?_
  refine .cons (.k (fun yy => #[.agg (cu (k : Int) (pN k) A.val B.val N X Y s z l), .agg (nw 9 X2.val), .slice (some ⟨(yy 13 0).2, 0, none⟩) 1 1]) fun yy vv hg hh => RtW.of_c (Rt.c (jp1 h1 h2 ep2 (hh 13 rfl)))) ?_
  refine .cons (.k (fun yy => #[.agg (cu (k : Int) (pN k) A.val B.val N X Y s z l), .agg (nw 9 p1.val), .slice (some ⟨(yy 15 0).2, 0, none⟩) 1 1]) fun yy vv hg hh => RtW.of_c (Rt.c (js1 h1 h2 exy (hh 15 rfl)))) .nil
 case hr19 =>
  refine .cons (.r (.buildSlice 123 1 #[(0, .const (.agg (nw 9 Y2.val)))]) rfl (rowN1 _)) ?_
  refine .cons (.r (.buildSlice 123 1 #[(0, .const (.agg (nw 9 Y1.val)))]) rfl (rowN1 _)) ?_
  refine .cons (.r (.buildSlice 123 1 #[(0, .const (.agg (nw 9 p2.val)))]) rfl (rowN1 _)) .nil
 case hv19 =>
  refine .cons (.mk (fun _ _ _ => rfl) (fun _ v b H F => by dsimp only at H ⊢; simp [go_sem, exI, H, F]) zNat) .nil
 intro yw3 v3 hg h3 hV3
 simp only [FW, putFrom, Act.put, lqA, lqB, lqC, wvals, kW, lqD, lqE, Kw.c, pv, Kw.a, Kw.r, Kw.u]
 obtain ⟨⟨N3_17, V3_17⟩, -⟩ : (v2.heap.size ≤ (yw3 17 0).2 ∧ Vr v3 (yw3 17 0).2 (nw 9 xy.val)) ∧ True := hV3
 clear h3
 replace g1 := g1.trans hg
 replace g2 := g2.trans hg
 have g3 := hg
 clear hg
 go_upto_region 4 with fail
 refine wp_y true [.c (.agg (cu (k : Int) (pN k) A.val B.val N X Y s z l)), .c (.agg (cu (k : Int) (pN k) A.val B.val N X Y s z l)), .c (pv (w.heap.size + 1) 0), .c (.agg (nw 9 X1.val)), .c (pv (w.heap.size + 1 + 1) 18), .c (.agg (nw 9 Z2.val)), .r 1 (nw 9 Z2.val), .c (.agg (nw 9 p3.val)), .c (.agg (cu (k : Int) (pN k) A.val B.val N X Y s z l)), .c (pv (w.heap.size + 1 + 1) 0), .c (.agg (nw 9 X2.val)), .c (pv (w.heap.size + 1) 18), .c (.agg (nw 9 Z1.val)), .r 1 (nw 9 Z1.val), .c (.agg (nw 9 p4.val)), .r 1 (nw 9 p4.val), .c (.agg (nw 9 xz.val)), .a, .u] [0, 1, 3, 5, 7, 8, 10, 12, 14, 16] [6, 13, 15] [⟨17, 18, 25, nw 9 0, fun _ => nw 9 xz.val⟩] ?hs20 ?hr20 ?hv20 ?hf20
 case hs20 =>
  refine .cons (.g 78 0 (c0.gr g1) rfl) ?_
  refine .cons (.g 78 0 (c0.gr g1) rfl) ?_
  refine .cons (.g 25 0 (c1.gr g1) rfl) ?_
  refine .cons (.g 25 18 (c2.gr g1) rfl) ?_
  refine .cons (.k (fun yy => #[.agg (cu (k : Int) (pN k) A.val B.val N X Y s z l), .agg (nw 9 X1.val), .slice (some ⟨(yy 6 0).2, 0, none⟩) 1 1]) fun yy vv hg hh => RtW.of_c (Rt.c (jp1 h1 h2 ep3 (hh 6 rfl)))) ?_
  refine .cons (.g 78 0 (c0.gr g1) rfl) ?_
  refine .cons (.g 25 0 (c2.gr g1) rfl) ?_
  refine .cons (.g 25 18 (c1.gr g1) rfl) ?_
  refine .cons (.k (fun yy => #[.agg (cu (k : Int) (pN k) A.val B.val N X Y s z l), .agg (nw 9 X2.val), .slice (some ⟨(yy 13 0).2, 0, none⟩) 1 1]) fun yy vv hg hh => RtW.of_c (Rt.c (jp1 h1 h2 ep4 (hh 13 rfl)))) ?_
  refine .cons (.k (fun yy => #[.agg (cu (k : Int) (pN k) A.val B.val N X Y s z l), .agg (nw 9 p3.val), .slice (some ⟨(yy 15 0).2, 0, none⟩) 1 1]) fun yy vv hg hh => RtW.of_c (Rt.c (js1 h1 h2 exz (hh 15 rfl)))) .nil
 case hr20 =>
  refine .cons (.r (.buildSlice 123 1 #[(0, .const (.agg (nw 9 Z2.val)))]) rfl (rowN1 _)) ?_
  refine .cons (.r (.buildSlice 123 1 #[(0, .const (.agg (nw 9 Z1.val)))]) rfl (rowN1 _)) ?_
  refine .cons (.r (.buildSlice 123 1 #[(0, .const (.agg (nw 9 p4.val)))]) rfl (rowN1 _)) .nil
 case hv20 =>
  refine .cons (.mk (fun _ _ _ => rfl) (fun _ v b H F => by dsimp only at H ⊢; simp [go_sem, exI, H, F]) zNat) .nil
 intro yw4 v4 hg h4 hV4
 simp only [FW, putFrom, Act.put, lqA, lqB, lqC, wvals, kW, lqD, lqE, Kw.c, pv, Kw.a, Kw.r, Kw.u]
 obtain ⟨⟨N4_17, V4_17⟩, -⟩ : (v3.heap.size ≤ (yw4 17 0).2 ∧ Vr v4 (yw4 17 0).2 (nw 9 xz.val)) ∧ True := hV4
 clear h4
 replace g1 := g1.trans hg
 replace g2 := g2.trans hg
 replace g3 := g3.trans hg
 have g4 := hg
 clear hg
 go_upto_region 5 with fail
 refine wp_y true [.c (.agg (cu (k : Int) (pN k) A.val B.val N X Y s z l)), .c (.agg (cu (k : Int) (pN k) A.val B.val N X Y s z l)), .c (pv (w.heap.size + 1) 9), .c (.agg (nw 9 Y1.val)), .c (pv (w.heap.size + 1 + 1) 18), .c (.agg (nw 9 Z2.val)), .r 1 (nw 9 Z2.val), .c (.agg (nw 9 p5.val)), .c (.agg (cu (k : Int) (pN k) A.val B.val N X Y s z l)), .c (pv (w.heap.size + 1 + 1) 9), .c (.agg (nw 9 Y2.val)), .c (pv (w.heap.size + 1) 18), .c (.agg (nw 9 Z1.val)), .r 1 (nw 9 Z1.val), .c (.agg (nw 9 p6.val)), .r 1 (nw 9 p6.val), .c (.agg (nw 9 yz.val)), .a, .u] [0, 1, 3, 5, 7, 8, 10, 12, 14, 16] [6, 13, 15] [⟨17, 18, 25, nw 9 0, fun _ => nw 9 yz.val⟩] ?hs21 ?hr21 ?hv21 ?hf21
 case hs21 =>
  refine .cons (.g 78 0 (c0.gr g1) rfl) ?_
  refine .cons (.g 78 0 (c0.gr g1) rfl) ?_
  refine .cons (.g 25 9 (c1.gr g1) rfl) ?_
  refine .cons (.g 25 18 (c2.gr g1) rfl) ?_
  refine .cons (.k (fun yy => #[.agg (cu (k : Int) (pN k) A.val B.val N X Y s z l), .agg (nw 9 Y1.val), .slice (some ⟨(yy 6 0).2, 0, none⟩) 1 1]) fun yy vv hg hh => RtW.of_c (Rt.c (jp1 h1 h2 ep5 (hh 6 rfl)))) ?_
  refine .cons (.g 78 0 (c0.gr g1) rfl) ?_
  refine .cons (.g 25 9 (c2.gr g1) rfl) ?_
  refine .cons (.g 25 18 (c1.gr g1) rfl) ?_
  refine .cons (.k (fun yy => #[.agg (cu (k : Int) (pN k) A.val B.val N X Y s z l), .agg (nw 9 Y2.val), .slice (some ⟨(yy 13 0).2, 0, none⟩) 1 1]) fun yy vv hg hh => RtW.of_c (Rt.c (jp1 h1 h2 ep6 (hh 13 rfl)))) ?_
  refine .cons (.k (fun yy => #[.agg (cu (k : Int) (pN k) A.val B.val N X Y s z l), .agg (nw 9 p5.val), .slice (some ⟨(yy 15 0).2, 0, none⟩) 1 1]) fun yy vv hg hh => RtW.of_c (Rt.c (js1 h1 h2 eyz (hh 15 rfl)))) .nil
 case hr21 =>
  refine .cons (.r (.buildSlice 123 1 #[(0, .const (.agg (nw 9 Z2.val)))]) rfl (rowN1 _)) ?_
  refine .cons (.r (.buildSlice 123 1 #[(0, .const (.agg (nw 9 Z1.val)))]) rfl (rowN1 _)) ?_
  refine .cons (.r (.buildSlice 123 1 #[(0, .const (.agg (nw 9 p6.val)))]) rfl (rowN1 _)) .nil
 case hv21 =>
  refine .cons (.mk (fun _ _ _ => rfl) (fun _ v b H F => by dsimp only at H ⊢; simp [go_sem, exI, H, F]) zNat) .nil
 intro yw5 v5 hg h5 hV5
 simp only [FW, putFrom, Act.put, lqA, lqB, lqC, wvals, kW, lqD, lqE, Kw.c, pv, Kw.a, Kw.r, Kw.u]
 obtain ⟨⟨N5_17, V5_17⟩, -⟩ : (v4.heap.size ≤ (yw5 17 0).2 ∧ Vr v5 (yw5 17 0).2 (nw 9 yz.val)) ∧ True := hV5
 clear h5
 replace g1 := g1.trans hg
 replace g2 := g2.trans hg
 replace g3 := g3.trans hg
 replace g4 := g4.trans hg
 have g5 := hg
 clear hg
 go_upto_region 6 with fail
 refine wp_y false [.c (.agg (cu (k : Int) (pN k) A.val B.val N X Y s z l)), .c (pv (w.heap.size) 0), .c (pv (w.heap.size) 10), .c (.agg (nw 9 A.val)), .c (.agg (nw 9 zz.val)), .r 1 (nw 9 zz.val), .c (.agg (nw 9 az.val)), .a, .u] [0, 3, 4, 6] [5] [⟨7, 8, 25, nw 9 0, fun _ => nw 9 az.val⟩] ?hs22 ?hr22 ?hv22 ?hf22
 case hs22 =>
  refine .cons (.g 78 0 (c0.gr g1) rfl) ?_
  refine .cons (.g 25 10 (c0.gr g1) rfl) ?_
  refine .cons (.g 25 0 (V2_23.gr g3) rfl) ?_
  refine .cons (.k (fun yy => #[.agg (cu (k : Int) (pN k) A.val B.val N X Y s z l), .agg (nw 9 A.val), .slice (some ⟨(yy 5 0).2, 0, none⟩) 1 1]) fun yy vv hg hh => RtW.of_c (Rt.c (jp1 h1 h2 eaz (hh 5 rfl)))) .nil
 case hr22 =>
  refine .cons (.r (.buildSlice 123 1 #[(0, .const (.agg (nw 9 zz.val)))]) rfl (rowN1 _)) .nil
 case hv22 =>
  refine .cons (.mk (fun _ _ _ => rfl) (fun _ v b H F => by dsimp only at H ⊢; simp [go_sem, exI, H, F]) zNat) .nil
 intro yw6 v6 hg h6 hV6
 simp only [FW, putFrom, Act.put, lqA, lqB, lqC, wvals, kW, lqD, lqE, Kw.c, pv, Kw.a, Kw.r, Kw.u]
 obtain ⟨⟨N6_7, V6_7⟩, -⟩ : (v5.heap.size ≤ (yw6 7 0).2 ∧ Vr v6 (yw6 7 0).2 (nw 9 az.val)) ∧ True := hV6
 clear h6
 replace g1 := g1.trans hg
 replace g2 := g2.trans hg
 replace g3 := g3.trans hg
 replace g4 := g4.trans hg
 replace g5 := g5.trans hg
 have g6 := hg
 clear hg
 go_upto_region 7 with fail
 refine wp_y true [.c (.agg (cu (k : Int) (pN k) A.val B.val N X Y s z l)), .c (.agg (cu (k : Int) (pN k) A.val B.val N X Y s z l)), .c (pv (w.heap.size) 0), .c (pv (w.heap.size) 10), .c (.agg (nw 9 A.val)), .c (.agg (nw 9 xz.val)), .r 1 (nw 9 xz.val), .c (.agg (nw 9 p7.val)), .c (.agg (cu (k : Int) (pN k) A.val B.val N X Y s z l)), .c (.agg (nw 9 b3.val)), .c (.agg (nw 9 zz.val)), .r 1 (nw 9 zz.val), .c (.agg (nw 9 p8.val)), .r 1 (nw 9 p8.val), .c (.agg (nw 9 pa.val)), .a, .u] [0, 1, 4, 5, 7, 8, 9, 10, 12, 14] [6, 11, 13] [⟨15, 16, 25, nw 9 0, fun _ => nw 9 pa.val⟩] ?hs23 ?hr23 ?hv23 ?hf23
 case hs23 =>
  refine .cons (.g 78 0 (c0.gr g1) rfl) ?_
  refine .cons (.g 78 0 (c0.gr g1) rfl) ?_
  refine .cons (.g 25 10 (c0.gr g1) rfl) ?_
  refine .cons (.g 25 0 (V4_17.gr g5) rfl) ?_
  refine .cons (.k (fun yy => #[.agg (cu (k : Int) (pN k) A.val B.val N X Y s z l), .agg (nw 9 A.val), .slice (some ⟨(yy 6 0).2, 0, none⟩) 1 1]) fun yy vv hg hh => RtW.of_c (Rt.c (jp1 h1 h2 ep7 (hh 6 rfl)))) ?_
  refine .cons (.g 78 0 (c0.gr g1) rfl) ?_
  refine .cons (.g 25 0 (V1_12.gr g2) rfl) ?_
  refine .cons (.g 25 0 (V2_23.gr g3) rfl) ?_
  refine .cons (.k (fun yy => #[.agg (cu (k : Int) (pN k) A.val B.val N X Y s z l), .agg (nw 9 b3.val), .slice (some ⟨(yy 11 0).2, 0, none⟩) 1 1]) fun yy vv hg hh => RtW.of_c (Rt.c (jp1 h1 h2 ep8 (hh 11 rfl)))) ?_
  refine .cons (.k (fun yy => #[.agg (cu (k : Int) (pN k) A.val B.val N X Y s z l), .agg (nw 9 p7.val), .slice (some ⟨(yy 13 0).2, 0, none⟩) 1 1]) fun yy vv hg hh => RtW.of_c (Rt.c (js1 h1 h2 epa (hh 13 rfl)))) .nil
 case hr23 =>
  refine .cons (.r (.buildSlice 123 1 #[(0, .const (.agg (nw 9 xz.val)))]) rfl (rowN1 _)) ?_
  refine .cons (.r (.buildSlice 123 1 #[(0, .const (.agg (nw 9 zz.val)))]) rfl (rowN1 _)) ?_
  refine .cons (.r (.buildSlice 123 1 #[(0, .const (.agg (nw 9 p8.val)))]) rfl (rowN1 _)) .nil
 case hv23 =>
  refine .cons (.mk (fun _ _ _ => rfl) (fun _ v b H F => by dsimp only at H ⊢; simp [go_sem, exI, H, F]) zNat) .nil
 intro yw7 v7 hg h7 hV7
 simp only [FW, putFrom, Act.put, lqA, lqB, lqC, wvals, kW, lqD, lqE, Kw.c, pv, Kw.a, Kw.r, Kw.u]
 obtain ⟨⟨N7_15, V7_15⟩, -⟩ : (v6.heap.size ≤ (yw7 15 0).2 ∧ Vr v7 (yw7 15 0).2 (nw 9 pa.val)) ∧ True := hV7
 clear h7
 replace g1 := g1.trans hg
 replace g2 := g2.trans hg
 replace g3 := g3.trans hg
 replace g4 := g4.trans hg
 replace g5 := g5.trans hg
 replace g6 := g6.trans hg
 have g7 := hg
 clear hg
 go_upto_region 8 with fail
 refine wp_y true [.c (.agg (cu (k : Int) (pN k) A.val B.val N X Y s z l)), .c (.agg (nw 9 yv.val)), .c (.agg (nw 9 pa.val)), .c (.agg (nw 9 mi.val)), .c (.agg (cu (k : Int) (pN k) A.val B.val N X Y s z l)), .c (.agg (nw 9 yv.val)), .c (.agg (nw 9 pa.val)), .r 1 (nw 9 pa.val), .c (.agg (nw 9 pl.val)), .a, .a, .u, .u] [0, 1, 2, 3, 4, 5, 6, 8] [7] [⟨9, 11, 25, nw 9 0, fun _ => nw 9 mi.val⟩, ⟨10, 12, 25, nw 9 0, fun _ => nw 9 pl.val⟩] ?hs24 ?hr24 ?hv24 ?hf24
 case hs24 =>
  refine .cons (.g 78 0 (c0.gr g1) rfl) ?_
  refine .cons (.g 25 0 (V2_22.gr g3) rfl) ?_
  refine .cons (.g 25 0 V7_15 rfl) ?_
  refine .cons (.k _ fun yy vv hg hh => RtW.of_c (Rt.c (jd h1 h2 (P := pN k) (A := A.val) (B := B.val) (N := N) (X := X) (Y := Y) (s := s) (z := z) (l := l) emi _))) ?_
  refine .cons (.g 78 0 (c0.gr g1) rfl) ?_
  refine .cons (.g 25 0 (V2_22.gr g3) rfl) ?_
  refine .cons (.g 25 0 V7_15 rfl) ?_
  refine .cons (.k (fun yy => #[.agg (cu (k : Int) (pN k) A.val B.val N X Y s z l), .agg (nw 9 yv.val), .slice (some ⟨(yy 7 0).2, 0, none⟩) 1 1]) fun yy vv hg hh => RtW.of_c (Rt.c (js1 h1 h2 epl (hh 7 rfl)))) .nil
 case hr24 =>
  refine .cons (.r (.buildSlice 123 1 #[(0, .const (.agg (nw 9 pa.val)))]) rfl (rowN1 _)) .nil
 case hv24 =>
  refine .cons (.mk (fun _ _ _ => rfl) (fun _ v b H F => by dsimp only at H ⊢; simp [go_sem, exI, H, F]) zNat) ?_
  refine .cons (.mk (fun _ _ _ => rfl) (fun _ v b H F => by dsimp only at H ⊢; simp [go_sem, exI, H, F]) zNat) .nil
 intro yw8 v8 hg h8 hV8
 simp only [FW, putFrom, Act.put, lqA, lqB, lqC, wvals, kW, lqD, lqE, Kw.c, Kw.a, Kw.r, Kw.u]
 obtain ⟨⟨N8_9, V8_9⟩, ⟨N8_10, V8_10⟩, -⟩ : (v7.heap.size ≤ (yw8 9 0).2 ∧ Vr v8 (yw8 9 0).2 (nw 9 mi.val)) ∧ (v7.heap.size ≤ (yw8 10 0).2 ∧ Vr v8 (yw8 10 0).2 (nw 9 pl.val)) ∧ True := hV8
 clear h8
 replace g1 := g1.trans hg
 replace g2 := g2.trans hg
 replace g3 := g3.trans hg
 replace g4 := g4.trans hg
 replace g5 := g5.trans hg
 replace g6 := g6.trans hg
 replace g7 := g7.trans hg
 have g8 := hg
 clear hg
 go_upto_region 9 with fail
 refine wp_v false [.c (.agg (cu (k : Int) (pN k) A.val B.val N X Y s z l)), .c (.agg (nw 9 xx.val)), .c (.agg (nw 9 xx.val)), .c (.agg (nw 9 xx.val)), .c (.agg (nw 9 az.val)), .r 3 (nw 9 xx.val ++ nw 9 xx.val ++ nw 9 az.val), .c (.agg (nw 9 st.val)), .a, .u] [0, 1, 2, 3, 4, 5, 6] [⟨7, 8, 25, nw 9 0, fun _ => nw 9 st.val⟩] ?hs25 ?hv25 ?hf25
 case hs25 =>
  refine .cons (.g 78 0 (c0.gr g1) rfl) ?_
  refine .cons (.g 25 0 (V2_21.gr g3) rfl) ?_
  refine .cons (.g 25 0 (V2_21.gr g3) rfl) ?_
  refine .cons (.g 25 0 (V2_21.gr g3) rfl) ?_
  refine .cons (.g 25 0 (V6_7.gr g7) rfl) ?_
  refine .cons (.r (.buildSlice 123 3 #[(0, .const (.agg (nw 9 xx.val))), (1, .const (.agg (nw 9 xx.val))), (2, .const (.agg (nw 9 az.val)))]) rfl (rowN3 _ _ _)) ?_
  refine .cons (.k (fun yy => #[.agg (cu (k : Int) (pN k) A.val B.val N X Y s z l), .agg (nw 9 xx.val), .slice (some ⟨(yy 5 0).2, 0, none⟩) 3 3]) fun yy vv hg hh => RtW.of_c (Rt.c (js3 h1 h2 est (hh 5 rfl)))) .nil
 case hv25 =>
  refine .cons (.mk (fun _ _ _ => rfl) (fun _ v b H F => by dsimp only at H ⊢; simp [go_sem, exI, H, F]) zNat ⟨fkc, fkc, fkc, fkc, fkc, fkr (by simp [nw_size]), fkc, fka, fku, trivial⟩) .nil
 intro yw9 v9 hg h9 hV9
 simp only [FW, putFrom, Act.put, lqA, lqB, lqC, wvals, kW, lqD, lqE, Kw.c, Kw.a, Kw.r, Kw.u]
 obtain ⟨⟨N9_7, V9_7⟩, -⟩ : (v8.heap.size ≤ (yw9 7 0).2 ∧ Vr v9 (yw9 7 0).2 (nw 9 st.val)) ∧ True := hV9
 clear h9
 replace g1 := g1.trans hg
 replace g2 := g2.trans hg
 replace g3 := g3.trans hg
 replace g4 := g4.trans hg
 replace g5 := g5.trans hg
 replace g6 := g6.trans hg
 replace g7 := g7.trans hg
 replace g8 := g8.trans hg
 have g9 := hg
 clear hg
 go_upto_region 10 with fail
 refine wp_y true [.c (.agg (cu (k : Int) (pN k) A.val B.val N X Y s z l)), .c (.agg (cu (k : Int) (pN k) A.val B.val N X Y s z l)), .c (pv (w.heap.size) 0), .c (pv (w.heap.size) 10), .c (.agg (nw 9 A.val)), .c (.agg (cu (k : Int) (pN k) A.val B.val N X Y s z l)), .c (.agg (nw 9 xx.val)), .c (.agg (nw 9 az.val)), .c (.agg (nw 9 d1.val)), .r 1 (nw 9 d1.val), .c (.agg (nw 9 p9.val)), .c (.agg (cu (k : Int) (pN k) A.val B.val N X Y s z l)), .c (.agg (nw 9 b3.val)), .c (.agg (nw 9 xz.val)), .r 1 (nw 9 xz.val), .c (.agg (nw 9 pt.val)), .r 1 (nw 9 pt.val), .c (.agg (nw 9 fl.val)), .a, .u] [0, 1, 4, 5, 6, 7, 8, 10, 11, 12, 13, 15, 17] [9, 14, 16] [⟨18, 19, 25, nw 9 0, fun _ => nw 9 fl.val⟩] ?hs26 ?hr26 ?hv26 ?hf26
 case hs26 =>
  refine .cons (.g 78 0 (c0.gr g1) rfl) ?_
  refine .cons (.g 78 0 (c0.gr g1) rfl) ?_
  refine .cons (.g 25 10 (c0.gr g1) rfl) ?_
  refine .cons (.g 78 0 (c0.gr g1) rfl) ?_
  refine .cons (.g 25 0 (V2_21.gr g3) rfl) ?_
  refine .cons (.g 25 0 (V6_7.gr g7) rfl) ?_
  refine .cons (.k _ fun yy vv hg hh => RtW.of_c (Rt.c (jd h1 h2 (P := pN k) (A := A.val) (B := B.val) (N := N) (X := X) (Y := Y) (s := s) (z := z) (l := l) ed1 _))) ?_
  refine .cons (.k (fun yy => #[.agg (cu (k : Int) (pN k) A.val B.val N X Y s z l), .agg (nw 9 A.val), .slice (some ⟨(yy 9 0).2, 0, none⟩) 1 1]) fun yy vv hg hh => RtW.of_c (Rt.c (jp1 h1 h2 ep9 (hh 9 rfl)))) ?_
  refine .cons (.g 78 0 (c0.gr g1) rfl) ?_
  refine .cons (.g 25 0 (V1_12.gr g2) rfl) ?_
  refine .cons (.g 25 0 (V4_17.gr g5) rfl) ?_
  refine .cons (.k (fun yy => #[.agg (cu (k : Int) (pN k) A.val B.val N X Y s z l), .agg (nw 9 b3.val), .slice (some ⟨(yy 14 0).2, 0, none⟩) 1 1]) fun yy vv hg hh => RtW.of_c (Rt.c (jp1 h1 h2 ept (hh 14 rfl)))) ?_
  refine .cons (.k (fun yy => #[.agg (cu (k : Int) (pN k) A.val B.val N X Y s z l), .agg (nw 9 p9.val), .slice (some ⟨(yy 16 0).2, 0, none⟩) 1 1]) fun yy vv hg hh => RtW.of_c (Rt.c (js1 h1 h2 efl (hh 16 rfl)))) .nil
 case hr26 =>
  refine .cons (.r (.buildSlice 123 1 #[(0, .const (.agg (nw 9 d1.val)))]) rfl (rowN1 _)) ?_
  refine .cons (.r (.buildSlice 123 1 #[(0, .const (.agg (nw 9 xz.val)))]) rfl (rowN1 _)) ?_
  refine .cons (.r (.buildSlice 123 1 #[(0, .const (.agg (nw 9 pt.val)))]) rfl (rowN1 _)) .nil
 case hv26 =>
  refine .cons (.mk (fun _ _ _ => rfl) (fun _ v b H F => by dsimp only at H ⊢; simp [go_sem, exI, H, F]) zNat) .nil
 intro yw10 v10 hg h10 hV10
 simp only [FW, putFrom, Act.put, lqA, lqB, lqC, wvals, kW, lqD, lqE, Kw.c, pv, Kw.a, Kw.r, Kw.u]
 obtain ⟨⟨N10_18, V10_18⟩, -⟩ : (v9.heap.size ≤ (yw10 18 0).2 ∧ Vr v10 (yw10 18 0).2 (nw 9 fl.val)) ∧ True := hV10
 clear h10
 replace g1 := g1.trans hg
 replace g2 := g2.trans hg
 replace g3 := g3.trans hg
 replace g4 := g4.trans hg
 replace g5 := g5.trans hg
 replace g6 := g6.trans hg
 replace g7 := g7.trans hg
 replace g8 := g8.trans hg
 replace g9 := g9.trans hg
 have g10 := hg
 clear hg
 replace G := G.trans g1
 replace c0 := c0.gr g1
 replace c1 := c1.gr g1
 replace c2 := c2.gr g1
 replace c3 := c3.gr g1
 replace V1_12 := V1_12.gr g2
 replace V2_21 := V2_21.gr g3
 replace V2_22 := V2_22.gr g3
 replace V2_23 := V2_23.gr g3
 replace V3_17 := V3_17.gr g4
 replace V4_17 := V4_17.gr g5
 replace V5_17 := V5_17.gr g6
 replace V6_7 := V6_7.gr g7
 replace V7_15 := V7_15.gr g8
 replace V8_9 := V8_9.gr g9
 replace V8_10 := V8_10.gr g9
 replace V9_7 := V9_7.gr g10
 clear g1 g10 g2 g3 g4 g5 g6 g7 g8 g9
 go_upto_region 11 with fail
 refine jadd_end h1 h2 er1 er2 eX3 er3 er4 eY3 er5 er6 eZ3 c0 c3 V3_17 V5_17 V8_9 V8_10 V9_7 V10_18 ?_
 intro a v' h6 hd hg hb
 go_wp2_with fail
 exact bodyPost_ret (res_one Tryz.results36 (rd_pj h6 (blk_setBlk _ _ _ (by rw [hb]; decide +kernel)))) hd ⟨rfl, gr_setNew (G.trans hg) (by omega)⟩
end
end
section
namespace EC
section
variable {p : Nat} [NeZero p] {i : Fin p → Fin p} {A B : Fin p}
def Tri (A B X Y Z : Fin p) : Prop := ¬ (X = 0 ∧ Y = 0 ∧ Z = 0) ∧ Y * Y * Z = X * X * X + A * X * (Z * Z) + B * (Z * Z * Z)
theorem std_tri {X Y Z : Fin p} {Q : Option (Fin p × Fin p)} (hQ : On A B Q) (s : Std X Y Z Q) : Tri A B X Y Z := by
 match Q, hQ, s with
 | none, _, ⟨a, b, c⟩ =>
   subst a c
   exact ⟨fun h => b h.2.1, by clear b hQ s; grobner⟩
 | some (x, y), hQ, ⟨a, b, c⟩ =>
   subst b c
   refine ⟨fun h => a h.2.2, ?_⟩
   have e : y * Z * (y * Z) * Z = y * y * (Z * Z * Z) := by clear hQ s a; grobner
   rw [e, show y * y = _ from hQ]
   clear e hQ s a
   grobner
theorem tri_std (C : Cur i A B) {X Y Z : Fin p} (h : Tri A B X Y Z) : On A B (if Z = 0 then none else some (X * i Z, Y * i Z)) ∧ Std X Y Z (if Z = 0 then none else some (X * i Z, Y * i Z)) := by
 obtain ⟨h1, h2⟩ := h
 by_cases hz : Z = 0
 · subst hz
   rw [if_pos rfl]
   have hx : X * X * X = 0 := by
     have e : X * X * X = X * X * X + A * X * (0 * 0) + B * (0 * 0 * 0) := by clear h2; grobner
     rw [e, ← h2]; clear e h2; grobner
   have hx0 : X = 0 := by
     rcases nzd C.pr _ _ hx with h | h
     · rcases nzd C.pr _ _ h with h | h <;> exact h
     · exact h
   exact ⟨trivial, hx0, fun hy => h1 ⟨hx0, hy, rfl⟩, rfl⟩
 · rw [if_neg hz]
   have hi := C.inv Z hz
   refine ⟨?_, hz, ?_, ?_⟩
   · show Y * i Z * (Y * i Z) = X * i Z * (X * i Z) * (X * i Z) + A * (X * i Z) + B
     generalize i Z = j at *
     have e1 : Y * j * (Y * j) = Y * Y * Z * (j * j * j) + Y * Y * (j * j) * (1 - j * Z) := by clear h1 h2 hi; grobner
     have e2 : X * j * (X * j) * (X * j) + A * (X * j) + B = (X * X * X + A * X * (Z * Z) + B * (Z * Z * Z)) * (j * j * j) + A * X * j * (1 - j * Z * (j * Z)) + B * (1 - j * Z * (j * Z) * (j * Z)) := by clear h1 h2 hi e1; grobner
     rw [e1, e2, hi, h2]
     clear e1 e2 hi h1 h2
     grobner
   · have e : X * i Z * Z = X * (i Z * Z) := by clear h1 h2 hi; grobner
     rw [e, hi]; clear e hi h1 h2; grobner
   · have e : Y * i Z * Z = Y * (i Z * Z) := by clear h1 h2 hi; grobner
     rw [e, hi]; clear e hi h1 h2; grobner
end
end EC
def ivN (k z : Nat) : Nat := z ^ (pN k - 2) % pN k
def ptT (k : Nat) (T : T3) : Q3 := if T.2.2 = 0 then inf else (T.1 * ivN k T.2.2 % pN k, T.2.1 * ivN k T.2.2 % pN k, false)
section
variable {k : Nat} (h1 : 1 ≤ k) (h2 : k ≤ 15) [NeZero (pN k)]
theorem ptT_is (X Y Z : Fin (pN k)) : ptT k (X.val, Y.val, Z.val) = encQ (if Z = 0 then none else some (X * EC.iP (pN k) Z, Y * EC.iP (pN k) Z)) := by
 unfold ptT
 by_cases hz : Z = 0
 · subst hz
   rw [if_pos (Fin.val_zero _), if_pos rfl]
   rfl
 · have hz' : ¬ Z.val = 0 := fun e => hz (Fin.ext (e.trans (Fin.val_zero _).symm))
   rw [if_neg hz', if_neg hz]
   show (_, _, _) = (_, _, _)
   rw [Prod.mk.injEq, Prod.mk.injEq]
   exact ⟨(Fin.val_mul X (EC.iP (pN k) Z)).symm, (Fin.val_mul Y (EC.iP (pN k) Z)).symm, rfl⟩
theorem tr_tri {X Y Z : Fin (pN k)} {Q : Q3} (h : TrQ k (X.val, Y.val, Z.val) Q) : EC.Tri (EC.aF k h1 h2) (EC.bF k h1 h2) X Y Z := by
 obtain ⟨o, X', Y', Z', e, s⟩ := h
 simp only [Prod.mk.injEq] at e
 obtain ⟨e1, e2, e3⟩ := e
 rw [Fin.ext e1, Fin.ext e2, Fin.ext e3]
 exact EC.std_tri (on_dec h1 h2 o) s
theorem tri_tr {X Y Z : Fin (pN k)} (h : EC.Tri (EC.aF k h1 h2) (EC.bF k h1 h2) X Y Z) : TrQ k (X.val, Y.val, Z.val) (ptT k (X.val, Y.val, Z.val)) := by
 obtain ⟨o, s⟩ := EC.tri_std (EC.curN k h1 h2) h
 rw [ptT_is]
 refine ⟨on_enc h1 h2 o, X, Y, Z, rfl, fun {_} => ?_⟩
 rw [dec_enc]
 exact s
end
theorem TrQ.pt {k : Nat} (h1 : 1 ≤ k) (h2 : k ≤ 15) {T : T3} {Q : Q3} (h : TrQ k T Q) : ptT k T = Q := by
 haveI := EC.nzP k h1 h2
 have h' := h
 obtain ⟨-, X, Y, Z, rfl, -⟩ := h'
 exact TrQ.one h1 h2 (tri_tr h1 h2 (tr_tri h1 h2 h)) h
end
section
attribute [local go_sem ↓] loadNat_is loadArr_is loadWide_is loadArrW_is storeNat_is storeWide_is
attribute [local go_sem] loadNat loadArr loadWide loadArrW storeNat storeWide idxArr fold9 fold18 nw_size nw_elem pre_self pre_1 pre_2 pre_3 pre_4 pre_5 pre_6 pre_7 pre_8 pre_9 pre_10 pre_11 pre_12 pre_13 pre_14 pre_15 pre_16 pre_17 pre_18 pre_19 pre_20 pre_21 pre_22 pre_23 pre_24 pre_25 pre_26 pre_27 pre_28 pre_29 pre_30 pre_31 pre_32 pre_33 pre_34 pre_35 pre_36 pre_37 pre_38 pre_39 pre_40 gro_size gro_drew gro_drewN drew_gro drewN_gro gro_gro blk_gro frz_gro blk_drew frz_drew blk_drewN frz_drewN blk_alloc_at frz_alloc_at blk_alloc frz_alloc cell_gro frozen_gro cell_alloc_pre frozen_alloc_pre setCell_drewN alloc_drewN setBlk_drew setBlk_drewN setBlk_alloc_at setBlk_alloc setBlk_gro setCell_gro setCell_alloc_pre size_setBlk size_setCell
section
theorem nePn (x y : Nat) (f : Bool) (x' y' : Nat) (f' : Bool) (w : World) : (binOp .neq 35 (.agg (pnt x y f)) (.agg (pnt x' y' f'))).run Tryz.prog w = .ok (.bool (!(eqN 9 x x' && (eqN 9 y y' && (f == f'))))) w := by
 rw [run_neq_struct, show (10000 : Nat) = 9996 + 4 from rfl, eqPnIn]
 rfl
theorem storePY (w : World) (b q : Nat) (hs : (blk w b).size = 19) (hf : frz w b = (0, 0)) : (storeS 25 (.pointer (some ⟨b, 9, none⟩)) (.agg (nw 9 q))).run Tryz.prog w = .ok () (setBlk w b (setL (blk w b) 9 (nw 9 q).toList)) := by
 have ht : w.there b 9 (nw 9 q).size := fun j hj => by
   rw [nw_size] at hj
   exact ⟨by rw [cell_blk, Array.getElem?_eq_getElem (by omega)]; rfl, frz_at w b _ hf⟩
 simp only [storeS, Instr.storeAt, Instr.sureAddr, Sem.run_bind, Sem.run_pure, Result.andThen_ok]
 rw [run_storeVar_mid w b 9 25 (nw 9 q) ht (by kernel_rfl) (nw_one 9 q), setCells_setBlk _ _ _ _ (by omega)]
theorem pnt_setY (x y q : Nat) (f : Bool) : setL (pnt x y f) 9 (nw 9 q).toList = pnt x q f := by kernel_rfl
theorem buildN0 (w : World) : (buildF 25 #[]).run Tryz.prog w = .ok (.agg (nw 9 0)) w := by kernel_rfl
theorem buildN_is (p : Array (Nat × Value)) : Instr.build 25 p = buildF 25 p := rfl
attribute [local go_sem] ppre_1 ppre_2 ppre_3 ppre_4 ppre_5 ppre_6
attribute [local go_sem ↓] loadGp_is storeGp_is zvGp_is buildGp_is storeTA_is buildTA_is zvCu_is storeCu_is loadCu_is loadPn_is storePn_is zvPn_is buildCu_is buildPn_is Go.wp_at_zero Go.wp_at_succ
attribute [local go_sem] loadGp storeGp zvGp buildGp0 buildGp1 buildPn0 storeTA buildTA tabA_size zvCu storeCu loadCu loadPn storePn zvPn loadCP loadCA loadPX loadPY buildPnI buildPn2 cu_size cu_P cu_A pnt_size pnt_X pnt_Y frz_setBlk blk_setBlk setBlk_setBlk blk_other
attribute [local go_sem ↓] buildN_is
attribute [local go_sem] storePY pnt_setY buildN0
end
end
end Go.Proofs.YtempibiahmmppaaGreat
