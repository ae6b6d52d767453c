import Derived.Test.YtpogpconfonljaaGreatXAAY
namespace Go.Proofs.YtpogpconfonljaaGreat
open Go.RowKit
set_option maxRecDepth 100000
set_option maxHeartbeats 8000000
section
attribute [local go_sem ↓] uz1
attribute [local go_sem] uz2
section
attribute [local go_sem] uz8
attribute [local go_sem ↓] uz15 Go.wp_at_zero Go.wp_at_succ
attribute [local go_sem] uz16
theorem gdiff_of (id:Int) (P A B N X Y:Nat) (s z:Int) (l:Bool) (x y q:Nat)
 (H1':∀ w,Cg 96 #[.int .i64 id,.agg (nw 9 x),.agg (nw 9 y)] w (.tuple #[.agg (nw 9 q),.int .i64 0])) (w:World):
 Cg 68 #[.agg (cu id P A B N X Y s z l),.agg (nw 9 x),.agg (nw 9 y)] w (.agg (nw 9 q)):=by
 have H1:Hid _:=H1'
 clear H1'
 go_enter Tryz.func68,Tryz.ntmps68
 go_upto_region 1 with fail
 refine gen_w (fun v=>Hid (Gr w v∧Vr v (w.heap.size) (cu id P A B N X Y s z l)∧Vr v (w.heap.size+1) (nw 9 x)∧Vr v (w.heap.size+1+1) (nw 9 y)∧Vr v (w.heap.size+1+1+1) (nw 9 0))) ⟨grA,vrA,vrA,vrA,vrA⟩ ?_
 intro v0 HV
 obtain ⟨G,c0,c1,c2,c3⟩:=HV.out
 have k0:v0.cell? ⟨w.heap.size,0,none⟩=some (.int .i64 id):=by rw [c0.cell]; exact cu_0 id P A B N X Y s z l
 have hh0:=c0.al
 have hh1:=c1.al
 have hh2:=c2.al
 have hh3:=c3.al
 clear HV c0 c1 c2 c3
 go_wp2_with (first
  | (go_at_call_of 96 ((#[.int .i64 id,.agg (nw 9 x),.agg (nw 9 y)]:Array Value)); refine (H1.out _).mono ?_; rintro e w' ⟨rfl,g0,rfl⟩))
 refine bodyPost_ret (res_one Tryz.results68 (rd_nat (x:=q) (by rfl) ?_)) rfl ⟨rfl,?_⟩
 ·simp [go_sem, *]
 ·exact grB
theorem gprod_of (id:Int) (P A B N X Y:Nat) (s z:Int) (l:Bool) (x y q:Nat)
 (H1':∀ w,Cg 114 #[.int .i64 id,.agg (nw 9 x),.agg (nw 9 y)] w (.tuple #[.agg (nw 9 q),.int .i64 0])) (w:World):
 Cg 134 #[.agg (cu id P A B N X Y s z l),.agg (nw 9 x),.agg (nw 9 y)] w (.agg (nw 9 q)):=by
 have H1:Hid _:=H1'
 clear H1'
 go_enter Tryz.func134,Tryz.ntmps134
 go_upto_region 1 with fail
 refine gen_w (fun v=>Hid (Gr w v∧Vr v (w.heap.size) (cu id P A B N X Y s z l)∧Vr v (w.heap.size+1) (nw 9 x)∧Vr v (w.heap.size+1+1) (nw 9 y)∧Vr v (w.heap.size+1+1+1) (nw 9 0))) ⟨grA,vrA,vrA,vrA,vrA⟩ ?_
 intro v0 HV
 obtain ⟨G,c0,c1,c2,c3⟩:=HV.out
 have k0:v0.cell? ⟨w.heap.size,0,none⟩=some (.int .i64 id):=by rw [c0.cell]; exact cu_0 id P A B N X Y s z l
 have hh0:=c0.al
 have hh1:=c1.al
 have hh2:=c2.al
 have hh3:=c3.al
 clear HV c0 c1 c2 c3
 go_wp2_with (first
  | (go_at_call_of 114 ((#[.int .i64 id,.agg (nw 9 x),.agg (nw 9 y)]:Array Value)); refine (H1.out _).mono ?_; rintro e w' ⟨rfl,g0,rfl⟩))
 refine bodyPost_ret (res_one Tryz.results134 (rd_nat (x:=q) (by rfl) ?_)) rfl ⟨rfl,?_⟩
 ·simp [go_sem, *]
 ·exact grB
theorem gquot_of (id:Int) (P A B N X Y:Nat) (s z:Int) (l:Bool) (x y u q:Nat)
 (H1':∀ w,Cg 124 #[.int .i64 id,.agg (nw 9 y)] w (.tuple #[.agg (nw 9 u),.int .i64 0])) (H2':∀ w,Cg 134 #[.agg (cu id P A B N X Y s z l),.agg (nw 9 x),.agg (nw 9 u)] w (.agg (nw 9 q))) (w:World):
 Cg 132 #[.agg (cu id P A B N X Y s z l),.agg (nw 9 x),.agg (nw 9 y)] w (.agg (nw 9 q)):=by
 have H1:Hid _:=H1'
 have H2:Hid _:=H2'
 clear H1' H2'
 go_enter Tryz.func132,Tryz.ntmps132
 go_upto_region 1 with fail
 refine gen_w (fun v=>Hid (Gr w v∧Vr v (w.heap.size) (cu id P A B N X Y s z l)∧Vr v (w.heap.size+1) (nw 9 x)∧Vr v (w.heap.size+1+1) (nw 9 y)∧Vr v (w.heap.size+1+1+1) (nw 9 0))) ⟨grA,vrA,vrA,vrA,vrA⟩ ?_
 intro v0 HV
 obtain ⟨G,c0,c1,c2,c3⟩:=HV.out
 have k0:v0.cell? ⟨w.heap.size,0,none⟩=some (.int .i64 id):=by rw [c0.cell]; exact cu_0 id P A B N X Y s z l
 have hh0:=c0.al
 have hh1:=c1.al
 have hh2:=c2.al
 have hh3:=c3.al
 clear HV c0 c1 c2 c3
 go_wp2_with (first
  | (go_at_call_of 124 ((#[.int .i64 id,.agg (nw 9 y)]:Array Value)); refine (H1.out _).mono ?_; rintro e w' ⟨rfl,g0,rfl⟩)
  | (go_at_call_of 134 ((#[.agg (cu id P A B N X Y s z l),.agg (nw 9 x),.agg (nw 9 u)]:Array Value)); refine (H2.out _).mono ?_; rintro e w' ⟨rfl,g1,rfl⟩))
 refine bodyPost_ret (res_one Tryz.results132 (rd_nat (x:=q) (by rfl) ?_)) rfl ⟨rfl,?_⟩
 ·simp [go_sem, *]
 ·exact grB
theorem gleft_any (id:Int) (P A B N X Y:Nat) (s z:Int) (l:Bool) (x1 y1 x2 y2:Nat) (f1 f2:Bool)
 (w:World):
 Cg 92 #[.agg (cu id P A B N X Y s z l),.agg (pnt x1 y1 f1),.agg (pnt x2 y2 f2)] w (.agg (pnt x1 y1 f1)):=by
 go_enter Tryz.func92,Tryz.ntmps92
 go_upto_region 1 with fail
 refine gen_w (fun v=>Hid (Gr w v∧Vr v (w.heap.size) (cu id P A B N X Y s z l)∧Vr v (w.heap.size+1) (pnt x1 y1 f1)∧Vr v (w.heap.size+1+1) (pnt x2 y2 f2)∧Vr v (w.heap.size+1+1+1) (pnt 0 0 false))) ⟨grA,vrA,vrA,vrA,vrA⟩ ?_
 intro v0 HV
 obtain ⟨G,c0,c1,c2,c3⟩:=HV.out
 have k0:v0.cell? ⟨w.heap.size,0,none⟩=some (.int .i64 id):=by rw [c0.cell]; exact cu_0 id P A B N X Y s z l
 have hh0:=c0.al
 have hh1:=c1.al
 have hh2:=c2.al
 have hh3:=c3.al
 clear HV c0 c1 c2 c3
 go_wp2_with fail
 refine bodyPost_ret (res_one Tryz.results92 (rd_pn (by rfl) ?_)) rfl ⟨rfl,?_⟩
 ·simp [go_sem, *]
 ·exact grB
theorem gright_any (id:Int) (P A B N X Y:Nat) (s z:Int) (l:Bool) (x1 y1 x2 y2:Nat) (f1 f2:Bool)
 (w:World):
 Cg 91 #[.agg (cu id P A B N X Y s z l),.agg (pnt x1 y1 f1),.agg (pnt x2 y2 f2)] w (.agg (pnt x2 y2 f2)):=by
 go_enter Tryz.func91,Tryz.ntmps91
 go_upto_region 1 with fail
 refine gen_w (fun v=>Hid (Gr w v∧Vr v (w.heap.size) (cu id P A B N X Y s z l)∧Vr v (w.heap.size+1) (pnt x1 y1 f1)∧Vr v (w.heap.size+1+1) (pnt x2 y2 f2)∧Vr v (w.heap.size+1+1+1) (pnt 0 0 false))) ⟨grA,vrA,vrA,vrA,vrA⟩ ?_
 intro v0 HV
 obtain ⟨G,c0,c1,c2,c3⟩:=HV.out
 have k0:v0.cell? ⟨w.heap.size,0,none⟩=some (.int .i64 id):=by rw [c0.cell]; exact cu_0 id P A B N X Y s z l
 have hh0:=c0.al
 have hh1:=c1.al
 have hh2:=c2.al
 have hh3:=c3.al
 clear HV c0 c1 c2 c3
 go_wp2_with fail
 refine bodyPost_ret (res_one Tryz.results91 (rd_pn (by rfl) ?_)) rfl ⟨rfl,?_⟩
 ·simp [go_sem, *]
 ·exact grB
theorem ginf_any (id:Int) (P A B N X Y:Nat) (s z:Int) (l:Bool) (x1 y1 x2 y2:Nat) (f1 f2:Bool)
 (w:World):
 Cg 95 #[.agg (cu id P A B N X Y s z l),.agg (pnt x1 y1 f1),.agg (pnt x2 y2 f2)] w (.agg (pnt 0 0 true)):=by
 go_enter Tryz.func95,Tryz.ntmps95
 go_upto_region 1 with fail
 refine gen_w (fun v=>Hid (Gr w v∧Vr v (w.heap.size) (cu id P A B N X Y s z l)∧Vr v (w.heap.size+1) (pnt x1 y1 f1)∧Vr v (w.heap.size+1+1) (pnt x2 y2 f2)∧Vr v (w.heap.size+1+1+1) (pnt 0 0 false))) ⟨grA,vrA,vrA,vrA,vrA⟩ ?_
 intro v0 HV
 obtain ⟨G,c0,c1,c2,c3⟩:=HV.out
 have k0:v0.cell? ⟨w.heap.size,0,none⟩=some (.int .i64 id):=by rw [c0.cell]; exact cu_0 id P A B N X Y s z l
 have hh0:=c0.al
 have hh1:=c1.al
 have hh2:=c2.al
 have hh3:=c3.al
 clear HV c0 c1 c2 c3
 go_wp2_with fail
 refine bodyPost_ret (res_one Tryz.results95 (rd_pn (by rfl) ?_)) rfl ⟨rfl,?_⟩
 ·simp [go_sem, *]
 ·exact grB
theorem toSum_any (w:World):Cg 66 #[] w (.agg tabA):=by
 go_enter Tryz.func66,Tryz.ntmps66
 go_wp2
 refine bodyPost_ret (res_one Tryz.results66 (rd_cell (c:=tabA) 5 Tryz.underlying124 rfl (by kernel_rfl) (by rfl) ?_ rfl)) rfl ⟨rfl,grA⟩
 simp [go_sem]
end
section
attribute [local go_sem] uz8
attribute [local go_sem ↓] uz15 Go.wp_at_zero Go.wp_at_succ
attribute [local go_sem] uz16
theorem gsum_of (id:Int) (P A B N X Y:Nat) (s z:Int) (l:Bool) (n:Nat) (hn:n≤4) (f acc:Nat→Nat) (c:Array Value) (h0:acc 0=0) (hrow:∀ i,i<n→c.extract (i*9) (i*9+9)=nw 9 (f i)) (hsz:n*9≤c.size)
 (HA':∀ i,i<n→∀ w,Cg 115 #[.int .i64 id,.agg (nw 9 (acc i)),.agg (nw 9 (f i))] w (.tuple #[.agg (nw 9 (acc (i+1))),.int .i64 0])) (b cap:Nat) (w:World) (hv:Vr w b c):
 Cg 135 #[.agg (cu id P A B N X Y s z l),.slice (some ⟨b,0,none⟩) n cap] w (.agg (nw 9 (acc n))):=by
 have HA:Hid _:=HA'
 have HN:Hid (Unit→_):=fun _=>hn
 have HL:Hid (∀ j,j<n→∀ v,Gr w v→(loadS 25 (.pointer (some ⟨b,j*9,none⟩))).run Tryz.prog v=.ok (.agg (nw 9 (f j))) v):=fun j hj v g=>by
  have hb:=(hv.gr g).h
  rw [loadPart v b (j*9) (by rw [hb]; omega),hb,hrow j hj]
 have HZ:Hid (Unit→_):=fun _=>h0
 clear hn HA' h0 hrow hsz
 go_enter Tryz.func135,Tryz.ntmps135
 go_wp2_with fail
 refine gen_w (fun wr=>Hid (Gr w wr∧Vr wr (w.heap.size) (cu id P A B N X Y s z l)∧Vr wr (w.heap.size+1) (nw 9 0)∧Vr wr (w.heap.size+1+1) (nw 9 (acc 0)))) ⟨grA,vrA,vrA,by rw [HZ.out ()]; exact vrA⟩ ?_
 intro v0 HV
 go_loopw [10] (fun ia wr=>∃ j:Nat,ia=.int .i64 (j:Int)∧Hid (Unit→j≤n)∧Hid (Gr w wr∧Vr wr (w.heap.size) (cu id P A B N X Y s z l)∧Vr wr (w.heap.size+1) (nw 9 0)∧Vr wr (w.heap.size+1+1) (nw 9 (acc j)))) (fun ia _=>((n:Int)-intOf ia).toNat)
 case atStart=>exact ⟨0,rfl,fun _=>Nat.zero_le _,HV⟩
 case round=>
  clear HV
  obtain ⟨j,rfl,HJ,HV⟩:=hrel
  obtain ⟨G,c0,c1,c2⟩:=HV.out
  have k0:wr.cell? ⟨w.heap.size,0,none⟩=some (.int .i64 id):=by rw [c0.cell]; exact cu_0 id P A B N X Y s z l
  have nea:¬ (w.heap.size+1+1=w.heap.size):=by omega
  have j0:(0:Int)≤(j:Int):=by omega
  have n4:(n:Int)≤4:=by have:=HN.out (); omega
  have ⟨h0,f0,p0⟩:=c0
  have ⟨h1,f1,p1⟩:=c1
  have ⟨h2,f2,p2⟩:=c2
  have ⟨p01,p02,p03,p04,p05,p06⟩:=c0.pp
  have ⟨p11,p12,p13,p14,p15,p16⟩:=c1.pp
  have ⟨p21,p22,p23,p24,p25,p26⟩:=c2.pp
  by_cases hlt:j<n
  ·have j1:(j:Int)<(n:Int):=by omega
   have ld:=HL.out j hlt
   have HA2:Hid _:=HA.out j hlt
   have ld0:=ld wr G
   clear HV c0 c1 c2
   go_wp2_with (go_at_call 115; refine (HA2.out _).mono ?_; rintro e w' ⟨rfl,g,rfl⟩)
   go_roundw
   case rel=>
    refine ⟨j+1,by go_num,fun _=>hlt,?_,⟨by simp [go_sem, *],by simp [go_sem, *],by simp [go_sem, *]⟩,⟨by simp [go_sem, *],by simp [go_sem, *],by simp [go_sem, *]⟩,⟨by simp [go_sem, *],by simp [go_sem, *],by simp [go_sem, *]⟩⟩
    exact grB
   case measure=>simp [intOf]; omega
  ·have j1:¬ (j:Int)<(n:Int):=by omega
   have hj:j=n:=by have:=HJ.out (); omega
   clear HV c0 c1 c2 hlt
   go_wp2_with fail
   refine bodyPost_ret (res_one Tryz.results135 (rd_nat (x:=acc j) (by rfl) ?_)) rfl ⟨by rw [hj],?_⟩
   ·simp [go_sem, *]
   ·exact grB
end
section
attribute [local go_sem] uz8
attribute [local go_sem ↓] uz15 Go.wp_at_zero Go.wp_at_succ
attribute [local go_sem] uz16
theorem galong_of (id:Int) (P A B N X Y:Nat) (s z:Int) (l:Bool) (m x1 y1 x2 y2 q1 q2 q3 q4 q5 q6:Nat)
 (H1':∀ w,Cg 134 #[.agg (cu id P A B N X Y s z l),.agg (nw 9 m),.agg (nw 9 m)] w (.agg (nw 9 q1))) (H3':∀ w,Cg 68 #[.agg (cu id P A B N X Y s z l),.agg (nw 9 q1),.agg (nw 9 q2)] w (.agg (nw 9 q3))) (H4':∀ w,Cg 68 #[.agg (cu id P A B N X Y s z l),.agg (nw 9 x1),.agg (nw 9 q3)] w (.agg (nw 9 q4))) (H5':∀ w,Cg 134 #[.agg (cu id P A B N X Y s z l),.agg (nw 9 m),.agg (nw 9 q4)] w (.agg (nw 9 q5))) (H6':∀ w,Cg 68 #[.agg (cu id P A B N X Y s z l),.agg (nw 9 q5),.agg (nw 9 y1)] w (.agg (nw 9 q6))) (H2':∀ w b,Vr w b (nw 9 x1++nw 9 x2)→Cg 135 #[.agg (cu id P A B N X Y s z l),.slice (some ⟨b,0,none⟩) 2 2] w (.agg (nw 9 q2))) (w:World):
 Cg 133 #[.agg (cu id P A B N X Y s z l),.agg (nw 9 m),.agg (pnt x1 y1 false),.agg (pnt x2 y2 false)] w (.agg (pnt q3 q6 false)):=by
 have H1:Hid _:=H1'
 have H3:Hid _:=H3'
 have H4:Hid _:=H4'
 have H5:Hid _:=H5'
 have H6:Hid _:=H6'
 have H2:Hid _:=H2'
 clear H1' H3' H4' H5' H6' H2'
 go_enter Tryz.func133,Tryz.ntmps133
 go_upto_region 1 with fail
 refine gen_w (fun v=>Hid (Gr w v∧Vr v (w.heap.size) (cu id P A B N X Y s z l)∧Vr v (w.heap.size+1) (nw 9 m)∧Vr v (w.heap.size+1+1) (pnt x1 y1 false)∧Vr v (w.heap.size+1+1+1) (pnt x2 y2 false)∧Vr v (w.heap.size+1+1+1+1) (pnt 0 0 false))) ⟨grA,vrA,vrA,vrA,vrA,vrA⟩ ?_
 intro v0 HV
 obtain ⟨G,c0,c1,c2,c3,c4⟩:=HV.out
 clear HV
 refine wp_v true [.c (.agg (cu id P A B N X Y s z l)),.c (.agg (cu id P A B N X Y s z l)),.N m,.N m,.N q1,.c (.agg (cu id P A B N X Y s z l)),.c (pv (w.heap.size+1+1) 0),.N x1,.c (pv (w.heap.size+1+1+1) 0),.N x2,.r 2 (nw 9 x1++nw 9 x2),.N q2,.N q3,.a,.u] [0,1,2,3,4,5,7,9,10,11,12] [⟨13,14,25,nw 9 0,fun _=>nw 9 q3⟩] ?hs1 ?hv1 ?hf1
 case hs1=>
  exact .cons (.g 89 0 c0 rfl)<|.cons (.g 89 0 c0 rfl)<|.cons (.g 25 0 c1 rfl)<|.cons (.g 25 0 c1 rfl)<|.cons (.k _ fun yy vv hg hh=>RtW.of_c (Rt.c (H1.out _)))<|.cons (.g 89 0 c0 rfl)<|.cons (.g 25 0 c2 rfl)<|.cons (.g 25 0 c3 rfl)<|.cons (.r (.buildSlice 183 2 #[(0,.const (.agg (nw 9 x1))),(1,.const (.agg (nw 9 x2)))]) rfl (rowN2 _ _))<|.cons (.k (fun yy => #[.agg (cu id P A B N X Y s z l),.slice (some ⟨(yy 10 0).2,0,none⟩) 2 2]) fun yy vv hg hh=>RtW.of_c (Rt.c (H2.out _ _ (hh 10 rfl))))<|.cons (.k _ fun yy vv hg hh=>RtW.of_c (Rt.c (H3.out _))) .nil
 case hv1=>
  refine .cons (.mk (fun _ _ _=>rfl) (fun _ v b H F=>by dsimp only at H ⊢; simp [go_sem,exI,H,F]) zNat ⟨fkc,fkc,fkc,fkc,fkc,fkc,fkc,fkc,fkc,fkc,fkr (by simp [nw_size]),fkc,fkc,fka,fku,trivial⟩) .nil
 intro yw1 v1 hg h1 hV1
 simp only [fzw,Kw.a,Kw.r]
 obtain ⟨⟨N1_13,V1_13⟩, -⟩:(v0.heap.size≤(yw1 13 0).2∧Vr v1 (yw1 13 0).2 (nw 9 q3))∧True:=hV1
 clear h1
 replace G:=G.trans hg
 replace c0:=c0.gr hg
 replace c1:=c1.gr hg
 replace c2:=c2.gr hg
 replace c3:=c3.gr hg
 replace c4:=c4.gr hg
 clear hg
 go_upto_region 2 with fail
 refine wp_v true [.c (.agg (cu id P A B N X Y s z l)),.c (.agg (cu id P A B N X Y s z l)),.N m,.c (.agg (cu id P A B N X Y s z l)),.c (pv (w.heap.size+1+1) 0),.N x1,.N q3,.N q4,.N q5,.c (pv (w.heap.size+1+1) 9),.N y1,.N q6,.a,.u] [0,1,2,3,5,6,7,8,10,11] [⟨12,13,25,nw 9 0,fun _=>nw 9 q6⟩] ?hs2 ?hv2 ?hf2
 case hs2=>
  exact .cons (.g 89 0 c0 rfl)<|.cons (.g 89 0 c0 rfl)<|.cons (.g 25 0 c1 rfl)<|.cons (.g 89 0 c0 rfl)<|.cons (.g 25 0 c2 rfl)<|.cons (.g 25 0 V1_13 rfl)<|.cons (.k _ fun yy vv hg hh=>RtW.of_c (Rt.c (H4.out _)))<|.cons (.k _ fun yy vv hg hh=>RtW.of_c (Rt.c (H5.out _)))<|.cons (.g 25 9 c2 rfl)<|.cons (.k _ fun yy vv hg hh=>RtW.of_c (Rt.c (H6.out _))) .nil
 case hv2=>
  refine .cons (.mk (fun _ _ _=>rfl) (fun _ v b H F=>by dsimp only at H ⊢; simp [go_sem,exI,H,F]) zNat ⟨fkc,fkc,fkc,fkc,fkc,fkc,fkc,fkc,fkc,fkc,fkc,fkc,fka,fku,trivial⟩) .nil
 intro yw2 v2 hg h2 hV2
 simp only [fzw,Kw.a]
 obtain ⟨⟨N2_12,V2_12⟩, -⟩:(v1.heap.size≤(yw2 12 0).2∧Vr v2 (yw2 12 0).2 (nw 9 q6))∧True:=hV2
 clear h2
 replace G:=G.trans hg
 replace c0:=c0.gr hg
 replace c1:=c1.gr hg
 replace c2:=c2.gr hg
 replace c3:=c3.gr hg
 replace c4:=c4.gr hg
 replace V1_13:=V1_13.gr hg
 clear hg
 go_upto_region 3 with fail
 refine wp_wTS 3 [.N q3,.N q6,.c (.agg (pnt q3 q6 false))] [0,1] ?hs3 ?hf3
 case hs3=>
  exact .cons (.g 25 0 V1_13 rfl)<|.cons (.g 25 0 V2_12 rfl) .nil
 refine .s 35 (fun yy=>.pointer (some ⟨w.heap.size+1+1+1+1,0,none⟩)) (fun yy=>.agg (pnt q3 q6 false)) fun yw3 v3 hg h3=>?_
 have HT:=(c4.gr hg).h
 have FT:=(c4.gr hg).f
 refine ⟨setBlk v3 (w.heap.size+1+1+1+1) (pnt q3 q6 false),by simp [go_sem,exI,HT,FT],?_⟩
 simp only [fzw]
 clear h3
 replace G:=G.trans hg
 replace c0:=c0.gr hg
 replace c1:=c1.gr hg
 replace c2:=c2.gr hg
 replace c3:=c3.gr hg
 replace c4:=c4.gr hg
 replace V1_13:=V1_13.gr hg
 replace V2_12:=V2_12.gr hg
 clear hg
 go_wp2_with fail
 exact bodyPost_ret (res_one Tryz.results133 (rd_pn (by rfl) (blk_setBlk _ _ _ (by rw [HT]; decide +kernel)))) rfl ⟨rfl,gr_setNew G (by omega)⟩
theorem gchord_of (id:Int) (P A B N X Y:Nat) (s z:Int) (l:Bool) (x1 y1 x2 y2 q1 q2 q3 r1 r2:Nat)
 (H1':∀ w,Cg 68 #[.agg (cu id P A B N X Y s z l),.agg (nw 9 y2),.agg (nw 9 y1)] w (.agg (nw 9 q1))) (H2':∀ w,Cg 68 #[.agg (cu id P A B N X Y s z l),.agg (nw 9 x2),.agg (nw 9 x1)] w (.agg (nw 9 q2))) (H3':∀ w,Cg 132 #[.agg (cu id P A B N X Y s z l),.agg (nw 9 q1),.agg (nw 9 q2)] w (.agg (nw 9 q3))) 
 (HAL':∀ w,Cg 133 #[.agg (cu id P A B N X Y s z l),.agg (nw 9 q3),.agg (pnt x1 y1 false),.agg (pnt x2 y2 false)] w (.agg (pnt r1 r2 false))) (w:World):
 Cg 93 #[.agg (cu id P A B N X Y s z l),.agg (pnt x1 y1 false),.agg (pnt x2 y2 false)] w (.agg (pnt r1 r2 false)):=by
 have H1:Hid _:=H1'
 have H2:Hid _:=H2'
 have H3:Hid _:=H3'
 have HAL:Hid _:=HAL'
 clear H1' H2' H3' HAL'
 go_enter Tryz.func93,Tryz.ntmps93
 go_upto_region 1 with fail
 refine gen_w (fun v=>Hid (Gr w v∧Vr v (w.heap.size) (cu id P A B N X Y s z l)∧Vr v (w.heap.size+1) (pnt x1 y1 false)∧Vr v (w.heap.size+1+1) (pnt x2 y2 false)∧Vr v (w.heap.size+1+1+1) (pnt 0 0 false))) ⟨grA,vrA,vrA,vrA,vrA⟩ ?_
 intro v0 HV
 obtain ⟨G,c0,c1,c2,c3⟩:=HV.out
 clear HV
 refine wp_v true [.c (.agg (cu id P A B N X Y s z l)),.c (.agg (cu id P A B N X Y s z l)),.c (pv (w.heap.size+1+1) 9),.N y2,.c (pv (w.heap.size+1) 9),.N y1,.N q1,.c (.agg (cu id P A B N X Y s z l)),.c (pv (w.heap.size+1+1) 0),.N x2,.c (pv (w.heap.size+1) 0),.N x1,.N q2,.N q3,.a,.u] [0,1,3,5,6,7,9,11,12,13] [⟨14,15,25,nw 9 0,fun _=>nw 9 q3⟩] ?hs4 ?hv4 ?hf4
 case hs4=>
  exact .cons (.g 89 0 c0 rfl)<|.cons (.g 89 0 c0 rfl)<|.cons (.g 25 9 c2 rfl)<|.cons (.g 25 9 c1 rfl)<|.cons (.k _ fun yy vv hg hh=>RtW.of_c (Rt.c (H1.out _)))<|.cons (.g 89 0 c0 rfl)<|.cons (.g 25 0 c2 rfl)<|.cons (.g 25 0 c1 rfl)<|.cons (.k _ fun yy vv hg hh=>RtW.of_c (Rt.c (H2.out _)))<|.cons (.k _ fun yy vv hg hh=>RtW.of_c (Rt.c (H3.out _))) .nil
 case hv4=>
  refine .cons (.mk (fun _ _ _=>rfl) (fun _ v b H F=>by dsimp only at H ⊢; simp [go_sem,exI,H,F]) zNat ⟨fkc,fkc,fkc,fkc,fkc,fkc,fkc,fkc,fkc,fkc,fkc,fkc,fkc,fkc,fka,fku,trivial⟩) .nil
 intro yw1 v1 hg h1 hV1
 simp only [fzw,Kw.a]
 obtain ⟨⟨N1_14,V1_14⟩, -⟩:(v0.heap.size≤(yw1 14 0).2∧Vr v1 (yw1 14 0).2 (nw 9 q3))∧True:=hV1
 clear h1
 replace G:=G.trans hg
 replace c0:=c0.gr hg
 replace c1:=c1.gr hg
 replace c2:=c2.gr hg
 replace c3:=c3.gr hg
 clear hg
 go_upto_region 2 with fail
 refine wp_wTS 5 [.c (.agg (cu id P A B N X Y s z l)),.N q3,.c (.agg (pnt x1 y1 false)),.c (.agg (pnt x2 y2 false)),.c (.agg (pnt r1 r2 false))] [0,1,2,3,4] ?hs5 ?hf5
 case hs5=>
  exact .cons (.g 89 0 c0 rfl)<|.cons (.g 25 0 V1_14 rfl)<|.cons (.g 35 0 c1 rfl)<|.cons (.g 35 0 c2 rfl)<|.cons (.k _ fun yy vv hg hh=>RtW.of_c (Rt.c (HAL.out _))) .nil
 refine .s 35 (fun yy=>.pointer (some ⟨w.heap.size+1+1+1,0,none⟩)) (fun yy=>.agg (pnt r1 r2 false)) fun yw2 v2 hg h2=>?_
 have HT:=(c3.gr hg).h
 have FT:=(c3.gr hg).f
 refine ⟨setBlk v2 (w.heap.size+1+1+1) (pnt r1 r2 false),by simp [go_sem,exI,HT,FT],?_⟩
 simp only [fzw]
 clear h2
 replace G:=G.trans hg
 replace c0:=c0.gr hg
 replace c1:=c1.gr hg
 replace c2:=c2.gr hg
 replace c3:=c3.gr hg
 replace V1_14:=V1_14.gr hg
 clear hg
 go_wp2_with fail
 exact bodyPost_ret (res_one Tryz.results93 (rd_pn (by rfl) (blk_setBlk _ _ _ (by rw [HT]; decide +kernel)))) rfl ⟨rfl,gr_setNew G (by omega)⟩
theorem gtang_of (id:Int) (P A B N X Y:Nat) (s z:Int) (l:Bool) (x1 y1 x2 y2 q1 q2 q3 q4 r1 r2:Nat)
 (H1':∀ w,Cg 134 #[.agg (cu id P A B N X Y s z l),.agg (nw 9 x1),.agg (nw 9 x1)] w (.agg (nw 9 q1))) (H4':∀ w,Cg 132 #[.agg (cu id P A B N X Y s z l),.agg (nw 9 q2),.agg (nw 9 q3)] w (.agg (nw 9 q4))) (H2':∀ w b,Vr w b (nw 9 q1++nw 9 q1++nw 9 q1++nw 9 A)→Cg 135 #[.agg (cu id P A B N X Y s z l),.slice (some ⟨b,0,none⟩) 4 4] w (.agg (nw 9 q2))) (H3':∀ w b,Vr w b (nw 9 y1++nw 9 y1)→Cg 135 #[.agg (cu id P A B N X Y s z l),.slice (some ⟨b,0,none⟩) 2 2] w (.agg (nw 9 q3)))
 (HAL':∀ w,Cg 133 #[.agg (cu id P A B N X Y s z l),.agg (nw 9 q4),.agg (pnt x1 y1 false),.agg (pnt x2 y2 false)] w (.agg (pnt r1 r2 false))) (w:World):
 Cg 94 #[.agg (cu id P A B N X Y s z l),.agg (pnt x1 y1 false),.agg (pnt x2 y2 false)] w (.agg (pnt r1 r2 false)):=by
 have H1:Hid _:=H1'
 have H4:Hid _:=H4'
 have H2:Hid _:=H2'
 have H3:Hid _:=H3'
 have HAL:Hid _:=HAL'
 clear H1' H4' H2' H3' HAL'
 go_enter Tryz.func94,Tryz.ntmps94
 go_upto_region 1 with fail
 refine gen_w (fun v=>Hid (Gr w v∧Vr v (w.heap.size) (cu id P A B N X Y s z l)∧Vr v (w.heap.size+1) (pnt x1 y1 false)∧Vr v (w.heap.size+1+1) (pnt x2 y2 false)∧Vr v (w.heap.size+1+1+1) (pnt 0 0 false))) ⟨grA,vrA,vrA,vrA,vrA⟩ ?_
 intro v0 HV
 obtain ⟨G,c0,c1,c2,c3⟩:=HV.out
 clear HV
 refine wp_v false [.c (.agg (cu id P A B N X Y s z l)),.c (pv (w.heap.size+1) 0),.N x1,.c (pv (w.heap.size+1) 0),.N x1,.N q1,.a,.u] [0,2,4,5] [⟨6,7,25,nw 9 0,fun _=>nw 9 q1⟩] ?hs6 ?hv6 ?hf6
 case hs6=>
  exact .cons (.g 89 0 c0 rfl)<|.cons (.g 25 0 c1 rfl)<|.cons (.g 25 0 c1 rfl)<|.cons (.k _ fun yy vv hg hh=>RtW.of_c (Rt.c (H1.out _))) .nil
 case hv6=>
  refine .cons (.mk (fun _ _ _=>rfl) (fun _ v b H F=>by dsimp only at H ⊢; simp [go_sem,exI,H,F]) zNat ⟨fkc,fkc,fkc,fkc,fkc,fkc,fka,fku,trivial⟩) .nil
 intro yw1 v1 hg h1 hV1
 simp only [fzw,Kw.a]
 obtain ⟨⟨N1_6,V1_6⟩, -⟩:(v0.heap.size≤(yw1 6 0).2∧Vr v1 (yw1 6 0).2 (nw 9 q1))∧True:=hV1
 clear h1
 replace G:=G.trans hg
 replace c0:=c0.gr hg
 replace c1:=c1.gr hg
 replace c2:=c2.gr hg
 replace c3:=c3.gr hg
 clear hg
 go_upto_region 2 with fail
 refine wp_v true [.c (.agg (cu id P A B N X Y s z l)),.c (.agg (cu id P A B N X Y s z l)),.N q1,.N q1,.N q1,.c (pv (w.heap.size) 0),.c (pv (w.heap.size) 10),.N A,.r 4 (nw 9 q1++nw 9 q1++nw 9 q1++nw 9 A),.N q2,.c (.agg (cu id P A B N X Y s z l)),.c (pv (w.heap.size+1) 9),.N y1,.c (pv (w.heap.size+1) 9),.N y1,.r 2 (nw 9 y1++nw 9 y1),.N q3,.N q4,.a,.u] [0,1,2,3,4,7,8,9,10,12,14,15,16,17] [⟨18,19,25,nw 9 0,fun _=>nw 9 q4⟩] ?hs7 ?hv7 ?hf7
 case hs7=>
  exact .cons (.g 89 0 c0 rfl)<|.cons (.g 89 0 c0 rfl)<|.cons (.g 25 0 V1_6 rfl)<|.cons (.g 25 0 V1_6 rfl)<|.cons (.g 25 0 V1_6 rfl)<|.cons (.g 25 10 c0 rfl)<|.cons (.r (.buildSlice 183 4 #[(0,.const (.agg (nw 9 q1))),(1,.const (.agg (nw 9 q1))),(2,.const (.agg (nw 9 q1))),(3,.const (.agg (nw 9 A)))]) rfl (rowN4 _ _ _ _))<|.cons (.k (fun yy => #[.agg (cu id P A B N X Y s z l),.slice (some ⟨(yy 8 0).2,0,none⟩) 4 4]) fun yy vv hg hh=>RtW.of_c (Rt.c (H2.out _ _ (hh 8 rfl))))<|.cons (.g 89 0 c0 rfl)<|.cons (.g 25 9 c1 rfl)<|.cons (.g 25 9 c1 rfl)<|.cons (.r (.buildSlice 183 2 #[(0,.const (.agg (nw 9 y1))),(1,.const (.agg (nw 9 y1)))]) rfl (rowN2 _ _))<|.cons (.k (fun yy => #[.agg (cu id P A B N X Y s z l),.slice (some ⟨(yy 15 0).2,0,none⟩) 2 2]) fun yy vv hg hh=>RtW.of_c (Rt.c (H3.out _ _ (hh 15 rfl))))<|.cons (.k _ fun yy vv hg hh=>RtW.of_c (Rt.c (H4.out _))) .nil
 case hv7=>
  refine .cons (.mk (fun _ _ _=>rfl) (fun _ v b H F=>by dsimp only at H ⊢; simp [go_sem,exI,H,F]) zNat ⟨fkc,fkc,fkc,fkc,fkc,fkc,fkc,fkc,fkr (by simp [nw_size]),fkc,fkc,fkc,fkc,fkc,fkc,fkr (by simp [nw_size]),fkc,fkc,fka,fku,trivial⟩) .nil
 intro yw2 v2 hg h2 hV2
 simp only [fzw,Kw.a,Kw.r]
 obtain ⟨⟨N2_18,V2_18⟩, -⟩:(v1.heap.size≤(yw2 18 0).2∧Vr v2 (yw2 18 0).2 (nw 9 q4))∧True:=hV2
 clear h2
 replace G:=G.trans hg
 replace c0:=c0.gr hg
 replace c1:=c1.gr hg
 replace c2:=c2.gr hg
 replace c3:=c3.gr hg
 replace V1_6:=V1_6.gr hg
 clear hg
 go_upto_region 3 with fail
 refine wp_wTS 5 [.c (.agg (cu id P A B N X Y s z l)),.N q4,.c (.agg (pnt x1 y1 false)),.c (.agg (pnt x2 y2 false)),.c (.agg (pnt r1 r2 false))] [0,1,2,3,4] ?hs8 ?hf8
 case hs8=>
  exact .cons (.g 89 0 c0 rfl)<|.cons (.g 25 0 V2_18 rfl)<|.cons (.g 35 0 c1 rfl)<|.cons (.g 35 0 c2 rfl)<|.cons (.k _ fun yy vv hg hh=>RtW.of_c (Rt.c (HAL.out _))) .nil
 refine .s 35 (fun yy=>.pointer (some ⟨w.heap.size+1+1+1,0,none⟩)) (fun yy=>.agg (pnt r1 r2 false)) fun yw3 v3 hg h3=>?_
 have HT:=(c3.gr hg).h
 have FT:=(c3.gr hg).f
 refine ⟨setBlk v3 (w.heap.size+1+1+1) (pnt r1 r2 false),by simp [go_sem,exI,HT,FT],?_⟩
 simp only [fzw]
 clear h3
 replace G:=G.trans hg
 replace c0:=c0.gr hg
 replace c1:=c1.gr hg
 replace c2:=c2.gr hg
 replace c3:=c3.gr hg
 replace V1_6:=V1_6.gr hg
 replace V2_18:=V2_18.gr hg
 clear hg
 go_wp2_with fail
 exact bodyPost_ret (res_one Tryz.results94 (rd_pn (by rfl) (blk_setBlk _ _ _ (by rw [HT]; decide +kernel)))) rfl ⟨rfl,gr_setNew G (by omega)⟩
end
section
theorem neNat (x y:Nat) (w:World):(binOp .neq 25 (.agg (nw 9 x)) (.agg (nw 9 y))).run Tryz.prog w=.ok (.bool (!(eqN 9 x y))) w:=by
 rw [run_neq_struct,show (10000:Nat)=9997+3 from rfl,eqNatIn]
 rfl
theorem nePn (x y:Nat) (f:Bool) (x' y':Nat) (f':Bool) (w:World):(binOp .neq 35 (.agg (pnt x y f)) (.agg (pnt x' y' f'))).run Tryz.prog w=.ok (.bool (!(eqN 9 x x'&&(eqN 9 y y'&&(f == f'))))) w:=by
 rw [run_neq_struct,show (10000:Nat)=9996+4 from rfl,eqPnIn]
 rfl
theorem storePY (w:World) (b q:Nat) (hs:(blk w b).size=19) (hf:frz w b=(0,0)):(storeS 25 (.pointer (some ⟨b,9,none⟩)) (.agg (nw 9 q))).run Tryz.prog w=.ok () (setBlk w b (setL (blk w b) 9 (nw 9 q).toList)):=by
 have ht:w.there b 9 (nw 9 q).size:=fun j hj=>by
  rw [nw_size] at hj
  exact ⟨by rw [cell_blk,Array.getElem?_eq_getElem (by omega)]; rfl,frz_at w b _ hf⟩
 simp only [storeS,Instr.storeAt,Instr.sureAddr,Sem.run_bind,Sem.run_pure,Result.andThen_ok]
 rw [run_storeVar_mid w b 9 25 (nw 9 q) ht (by kernel_rfl) (nw_one 9 q),setCells_setBlk _ _ _ _ (by omega)]
theorem pnt_setY (x y q:Nat) (f:Bool):setL (pnt x y f) 9 (nw 9 q).toList=pnt x q f:=by kernel_rfl
theorem buildN0 (w:World):(buildF 25 #[]).run Tryz.prog w=.ok (.agg (nw 9 0)) w:=by kernel_rfl
theorem buildN_is (p:Array (Nat×Value)):Instr.build 25 p=buildF 25 p:=rfl
attribute [local go_sem] uz8
attribute [local go_sem ↓] uz15 Go.wp_at_zero Go.wp_at_succ
attribute [local go_sem] uz16
theorem rel_0 (x1 y1 x2 y2:Nat) (f2:Bool) (w:World):
 Cg 67 #[.agg (pnt x1 y1 true),.agg (pnt x2 y2 f2)] w (.int .i64 0):=by
 go_enter Tryz.func67,Tryz.ntmps67
 go_upto_region 1 with fail
 refine gen_w (fun v=>Hid (Gr w v∧Vr v (w.heap.size) (pnt x1 y1 true)∧Vr v (w.heap.size+1) (pnt x2 y2 f2))) ⟨grA,vrA,vrA⟩ ?_
 intro v0 HV
 obtain ⟨G,c0,c1⟩:=HV.out
 clear HV
 refine wp_wS [.c (pv (w.heap.size) 18),.T,.T] [1] ?hs1 ?hf1
 case hs1=>
  refine .cons (.o 4 18 c0 rfl (by exact pnt_18 _ _ _)) .nil
 intro yw1 v1 hg h1
 simp only [fzw]
 clear h1
 replace G:=G.trans hg
 replace c0:=c0.gr hg
 replace c1:=c1.gr hg
 clear hg
 go_wp2_with fail
 go_ret
 exact ⟨rfl,G⟩
theorem rel_1 (x1 y1 x2 y2:Nat) (w:World):
 Cg 67 #[.agg (pnt x1 y1 false),.agg (pnt x2 y2 true)] w (.int .i64 1):=by
 go_enter Tryz.func67,Tryz.ntmps67
 go_upto_region 1 with fail
 refine gen_w (fun v=>Hid (Gr w v∧Vr v (w.heap.size) (pnt x1 y1 false)∧Vr v (w.heap.size+1) (pnt x2 y2 true))) ⟨grA,vrA,vrA⟩ ?_
 intro v0 HV
 obtain ⟨G,c0,c1⟩:=HV.out
 clear HV
 refine wp_wS [.c (pv (w.heap.size) 18),.F,.F] [1] ?hs2 ?hf2
 case hs2=>
  refine .cons (.o 4 18 c0 rfl (by exact pnt_18 _ _ _)) .nil
 intro yw1 v1 hg h1
 simp only [fzw]
 clear h1
 replace G:=G.trans hg
 replace c0:=c0.gr hg
 replace c1:=c1.gr hg
 clear hg
 go_upto_region 3 with fail
 refine wp_wS [.c (pv (w.heap.size+1) 18),.T,.T] [1] ?hs3 ?hf3
 case hs3=>
  refine .cons (.o 4 18 c1 rfl (by exact pnt_18 _ _ _)) .nil
 intro yw3 v2 hg h3
 simp only [fzw]
 clear h3
 replace G:=G.trans hg
 replace c0:=c0.gr hg
 replace c1:=c1.gr hg
 clear hg
 go_wp2_with fail
 go_ret
 exact ⟨rfl,G⟩
theorem rel_2 (x1 y1 x2 y2:Nat) (e1:eqN 9 x1 x2=false) (w:World):
 Cg 67 #[.agg (pnt x1 y1 false),.agg (pnt x2 y2 false)] w (.int .i64 2):=by
 go_enter Tryz.func67,Tryz.ntmps67
 go_upto_region 1 with fail
 refine gen_w (fun v=>Hid (Gr w v∧Vr v (w.heap.size) (pnt x1 y1 false)∧Vr v (w.heap.size+1) (pnt x2 y2 false))) ⟨grA,vrA,vrA⟩ ?_
 intro v0 HV
 obtain ⟨G,c0,c1⟩:=HV.out
 clear HV
 refine wp_wS [.c (pv (w.heap.size) 18),.F,.F] [1] ?hs4 ?hf4
 case hs4=>
  refine .cons (.o 4 18 c0 rfl (by exact pnt_18 _ _ _)) .nil
 intro yw1 v1 hg h1
 simp only [fzw]
 clear h1
 replace G:=G.trans hg
 replace c0:=c0.gr hg
 replace c1:=c1.gr hg
 clear hg
 go_upto_region 3 with fail
 refine wp_wS [.c (pv (w.heap.size+1) 18),.F,.F] [1] ?hs5 ?hf5
 case hs5=>
  refine .cons (.o 4 18 c1 rfl (by exact pnt_18 _ _ _)) .nil
 intro yw3 v2 hg h3
 simp only [fzw]
 clear h3
 replace G:=G.trans hg
 replace c0:=c0.gr hg
 replace c1:=c1.gr hg
 clear hg
 go_upto_region 5 with fail
 refine wp_wS [.c (pv (w.heap.size) 0),.N x1,.c (pv (w.heap.size+1) 0),.N x2,.T,.T] [1,3,4] ?hs6 ?hf6
 case hs6=>
  exact .cons (.g 25 0 c0 rfl)<|.cons (.g 25 0 c1 rfl)<|.cons (.s (.binOp .neq 25 (.const (.agg (nw 9 x1))) (.const (.agg (nw 9 x2))) 25) rfl fun vv hg=>by simp [go_sem,exI,neNat,e1]) .nil
 intro yw5 v3 hg h5
 simp only [fzw]
 clear h5
 replace G:=G.trans hg
 replace c0:=c0.gr hg
 replace c1:=c1.gr hg
 clear hg
 go_wp2_with fail
 go_ret
 exact ⟨rfl,G⟩
theorem rel_3 (x1 y1 x2 y2:Nat) (e1:eqN 9 x1 x2=true) (e2:eqN 9 y1 y2=true) (e3:eqN 9 y1 0=false) (w:World):
 Cg 67 #[.agg (pnt x1 y1 false),.agg (pnt x2 y2 false)] w (.int .i64 3):=by
 go_enter Tryz.func67,Tryz.ntmps67
 go_upto_region 1 with fail
 refine gen_w (fun v=>Hid (Gr w v∧Vr v (w.heap.size) (pnt x1 y1 false)∧Vr v (w.heap.size+1) (pnt x2 y2 false))) ⟨grA,vrA,vrA⟩ ?_
 intro v0 HV
 obtain ⟨G,c0,c1⟩:=HV.out
 clear HV
 refine wp_wS [.c (pv (w.heap.size) 18),.F,.F] [1] ?hs7 ?hf7
 case hs7=>
  refine .cons (.o 4 18 c0 rfl (by exact pnt_18 _ _ _)) .nil
 intro yw1 v1 hg h1
 simp only [fzw]
 clear h1
 replace G:=G.trans hg
 replace c0:=c0.gr hg
 replace c1:=c1.gr hg
 clear hg
 go_upto_region 3 with fail
 refine wp_wS [.c (pv (w.heap.size+1) 18),.F,.F] [1] ?hs8 ?hf8
 case hs8=>
  refine .cons (.o 4 18 c1 rfl (by exact pnt_18 _ _ _)) .nil
 intro yw3 v2 hg h3
 simp only [fzw]
 clear h3
 replace G:=G.trans hg
 replace c0:=c0.gr hg
 replace c1:=c1.gr hg
 clear hg
 go_upto_region 5 with fail
 refine wp_wS [.c (pv (w.heap.size) 0),.N x1,.c (pv (w.heap.size+1) 0),.N x2,.F,.F] [1,3,4] ?hs9 ?hf9
 case hs9=>
  exact .cons (.g 25 0 c0 rfl)<|.cons (.g 25 0 c1 rfl)<|.cons (.s (.binOp .neq 25 (.const (.agg (nw 9 x1))) (.const (.agg (nw 9 x2))) 25) rfl fun vv hg=>by simp [go_sem,exI,neNat,e1]) .nil
 intro yw5 v3 hg h5
 simp only [fzw]
 clear h5
 replace G:=G.trans hg
 replace c0:=c0.gr hg
 replace c1:=c1.gr hg
 clear hg
 go_upto_region 7 with fail
 refine wp_wS [.c (.agg (pnt x1 y1 false)),.c (.agg (pnt x2 y2 false)),.T,.T,.c (pv (w.heap.size) 9),.N y1,.N 0,.T,.T,.T] [0,1,2,5,7] ?hs10 ?hf10
 case hs10=>
  exact .cons (.g 35 0 c0 rfl)<|.cons (.g 35 0 c1 rfl)<|.cons (.s (.binOp .eql 35 (.const (.agg (pnt x1 y1 false))) (.const (.agg (pnt x2 y2 false))) 35) rfl fun vv hg=>by simp [go_sem,exI,eqPn,e1,e2])<|.cons (.g 25 9 c0 rfl)<|.cons (.s (.binOp .neq 25 (.const (.agg (nw 9 y1))) (.const (.agg (nw 9 0))) 25) rfl fun vv hg=>by simp [go_sem,exI,neNat,e3]) .nil
 intro yw7 v4 hg h7
 simp only [fzw]
 clear h7
 replace G:=G.trans hg
 replace c0:=c0.gr hg
 replace c1:=c1.gr hg
 clear hg
 go_wp2_with fail
 go_ret
 exact ⟨rfl,G⟩
theorem rel_4 (x1 y1 x2 y2:Nat) (e1:eqN 9 x1 x2=true) (e2:eqN 9 y1 y2=false) (w:World):
 Cg 67 #[.agg (pnt x1 y1 false),.agg (pnt x2 y2 false)] w (.int .i64 4):=by
 go_enter Tryz.func67,Tryz.ntmps67
 go_upto_region 1 with fail
 refine gen_w (fun v=>Hid (Gr w v∧Vr v (w.heap.size) (pnt x1 y1 false)∧Vr v (w.heap.size+1) (pnt x2 y2 false))) ⟨grA,vrA,vrA⟩ ?_
 intro v0 HV
 obtain ⟨G,c0,c1⟩:=HV.out
 clear HV
 refine wp_wS [.c (pv (w.heap.size) 18),.F,.F] [1] ?hs11 ?hf11
 case hs11=>
  refine .cons (.o 4 18 c0 rfl (by exact pnt_18 _ _ _)) .nil
 intro yw1 v1 hg h1
 simp only [fzw]
 clear h1
 replace G:=G.trans hg
 replace c0:=c0.gr hg
 replace c1:=c1.gr hg
 clear hg
 go_upto_region 3 with fail
 refine wp_wS [.c (pv (w.heap.size+1) 18),.F,.F] [1] ?hs12 ?hf12
 case hs12=>
  refine .cons (.o 4 18 c1 rfl (by exact pnt_18 _ _ _)) .nil
 intro yw3 v2 hg h3
 simp only [fzw]
 clear h3
 replace G:=G.trans hg
 replace c0:=c0.gr hg
 replace c1:=c1.gr hg
 clear hg
 go_upto_region 5 with fail
 refine wp_wS [.c (pv (w.heap.size) 0),.N x1,.c (pv (w.heap.size+1) 0),.N x2,.F,.F] [1,3,4] ?hs13 ?hf13
 case hs13=>
  exact .cons (.g 25 0 c0 rfl)<|.cons (.g 25 0 c1 rfl)<|.cons (.s (.binOp .neq 25 (.const (.agg (nw 9 x1))) (.const (.agg (nw 9 x2))) 25) rfl fun vv hg=>by simp [go_sem,exI,neNat,e1]) .nil
 intro yw5 v3 hg h5
 simp only [fzw]
 clear h5
 replace G:=G.trans hg
 replace c0:=c0.gr hg
 replace c1:=c1.gr hg
 clear hg
 go_upto_region 7 with fail
 refine wp_wS [.c (.agg (pnt x1 y1 false)),.c (.agg (pnt x2 y2 false)),.F,.F,.u,.u,.u,.u,.F,.F] [0,1,2] ?hs14 ?hf14
 case hs14=>
  exact .cons (.g 35 0 c0 rfl)<|.cons (.g 35 0 c1 rfl)<|.cons (.s (.binOp .eql 35 (.const (.agg (pnt x1 y1 false))) (.const (.agg (pnt x2 y2 false))) 35) rfl fun vv hg=>by simp [go_sem,exI,eqPn,e1,e2]) .nil
 intro yw7 v4 hg h7
 simp only [fzw]
 clear h7
 replace G:=G.trans hg
 replace c0:=c0.gr hg
 replace c1:=c1.gr hg
 clear hg
 go_wp2_with fail
 go_ret
 exact ⟨rfl,G⟩
theorem rel_5 (x1 y1 x2 y2:Nat) (e1:eqN 9 x1 x2=true) (e2:eqN 9 y1 y2=true) (e3:eqN 9 y1 0=true) (w:World):
 Cg 67 #[.agg (pnt x1 y1 false),.agg (pnt x2 y2 false)] w (.int .i64 4):=by
 go_enter Tryz.func67,Tryz.ntmps67
 go_upto_region 1 with fail
 refine gen_w (fun v=>Hid (Gr w v∧Vr v (w.heap.size) (pnt x1 y1 false)∧Vr v (w.heap.size+1) (pnt x2 y2 false))) ⟨grA,vrA,vrA⟩ ?_
 intro v0 HV
 obtain ⟨G,c0,c1⟩:=HV.out
 clear HV
 refine wp_wS [.c (pv (w.heap.size) 18),.F,.F] [1] ?hs15 ?hf15
 case hs15=>
  refine .cons (.o 4 18 c0 rfl (by exact pnt_18 _ _ _)) .nil
 intro yw1 v1 hg h1
 simp only [fzw]
 clear h1
 replace G:=G.trans hg
 replace c0:=c0.gr hg
 replace c1:=c1.gr hg
 clear hg
 go_upto_region 3 with fail
 refine wp_wS [.c (pv (w.heap.size+1) 18),.F,.F] [1] ?hs16 ?hf16
 case hs16=>
  refine .cons (.o 4 18 c1 rfl (by exact pnt_18 _ _ _)) .nil
 intro yw3 v2 hg h3
 simp only [fzw]
 clear h3
 replace G:=G.trans hg
 replace c0:=c0.gr hg
 replace c1:=c1.gr hg
 clear hg
 go_upto_region 5 with fail
 refine wp_wS [.c (pv (w.heap.size) 0),.N x1,.c (pv (w.heap.size+1) 0),.N x2,.F,.F] [1,3,4] ?hs17 ?hf17
 case hs17=>
  exact .cons (.g 25 0 c0 rfl)<|.cons (.g 25 0 c1 rfl)<|.cons (.s (.binOp .neq 25 (.const (.agg (nw 9 x1))) (.const (.agg (nw 9 x2))) 25) rfl fun vv hg=>by simp [go_sem,exI,neNat,e1]) .nil
 intro yw5 v3 hg h5
 simp only [fzw]
 clear h5
 replace G:=G.trans hg
 replace c0:=c0.gr hg
 replace c1:=c1.gr hg
 clear hg
 go_upto_region 7 with fail
 refine wp_wS [.c (.agg (pnt x1 y1 false)),.c (.agg (pnt x2 y2 false)),.T,.T,.c (pv (w.heap.size) 9),.N y1,.N 0,.F,.F,.F] [0,1,2,5,7] ?hs18 ?hf18
 case hs18=>
  exact .cons (.g 35 0 c0 rfl)<|.cons (.g 35 0 c1 rfl)<|.cons (.s (.binOp .eql 35 (.const (.agg (pnt x1 y1 false))) (.const (.agg (pnt x2 y2 false))) 35) rfl fun vv hg=>by simp [go_sem,exI,eqPn,e1,e2])<|.cons (.g 25 9 c0 rfl)<|.cons (.s (.binOp .neq 25 (.const (.agg (nw 9 y1))) (.const (.agg (nw 9 0))) 25) rfl fun vv hg=>by simp [go_sem,exI,neNat,e3]) .nil
 intro yw7 v4 hg h7
 simp only [fzw]
 clear h7
 replace G:=G.trans hg
 replace c0:=c0.gr hg
 replace c1:=c1.gr hg
 clear hg
 go_wp2_with fail
 go_ret
 exact ⟨rfl,G⟩
theorem gadd_of (id:Int) (P A B N X Y:Nat) (s z:Int) (l:Bool) (x1 y1 x2 y2 x3 y3:Nat) (f1 f2 f3:Bool) (r:Int) (f:Nat) (hid:∀ w,(Instr.index 124 (.agg tabA) (.int .i64 r)).run Tryz.prog w=.ok (.func (.func f) #[] #[]) w) (hcf:∀ w,(callFunc f #[.agg (cu id P A B N X Y s z l),.agg (pnt x1 y1 f1),.agg (pnt x2 y2 f2)]).run Tryz.prog w=.ok (.enter f #[.agg (cu id P A B N X Y s z l),.agg (pnt x1 y1 f1),.agg (pnt x2 y2 f2)]) w)
 (HR':∀ w,Cg 67 #[.agg (pnt x1 y1 f1),.agg (pnt x2 y2 f2)] w (.int .i64 r)) (HS':∀ w,Calls Tryz.prog f #[.agg (cu id P A B N X Y s z l),.agg (pnt x1 y1 f1),.agg (pnt x2 y2 f2)] w fun e w'=>e=.returned (.agg (pnt x3 y3 f3))∧Gr w w') (w:World):
 Cg 44 #[.agg (cu id P A B N X Y s z l),.agg (pnt x1 y1 f1),.agg (pnt x2 y2 f2)] w (.agg (pnt x3 y3 f3)):=by
 have HR:Hid _:=HR'
 have HS:Hid _:=HS'
 clear HR' HS'
 go_enter Tryz.func44,Tryz.ntmps44
 go_upto_region 1 with fail
 refine gen_w (fun v=>Hid (Gr w v∧Vr v (w.heap.size) (cu id P A B N X Y s z l)∧Vr v (w.heap.size+1) (pnt x1 y1 f1)∧Vr v (w.heap.size+1+1) (pnt x2 y2 f2)∧Vr v (w.heap.size+1+1+1) (pnt 0 0 false))) ⟨grA,vrA,vrA,vrA,vrA⟩ ?_
 intro v0 HV
 obtain ⟨G,c0,c1,c2,c3⟩:=HV.out
 clear HV
 refine wp_wT 9 [.c (.agg tabA),.c (.agg (pnt x1 y1 f1)),.c (.agg (pnt x2 y2 f2)),.c (.int .i64 r),.c (.func (.func f) #[] #[]),.c (.agg (cu id P A B N X Y s z l)),.c (.agg (pnt x1 y1 f1)),.c (.agg (pnt x2 y2 f2)),.c (.agg (pnt x3 y3 f3))] [0,1,2,3,4,5,6,7,8] ?hs19 ?hf19
 case hs19=>
  exact .cons (.k _ fun yy vv hg hh=>RtW.of_c (Rt.c (toSum_any _)))<|.cons (.g 35 0 c1 rfl)<|.cons (.g 35 0 c2 rfl)<|.cons (.k _ fun yy vv hg hh=>RtW.of_c (Rt.c (HR.out _)))<|.cons (.s (.index 124 (.const (.agg tabA)) (.const (.int .i64 r))) rfl fun vv hg=>by simp [go_sem,exI,hid])<|.cons (.g 89 0 c0 rfl)<|.cons (.g 35 0 c1 rfl)<|.cons (.g 35 0 c2 rfl)<|.cons (.kf (fun _ => #[.agg (cu id P A B N X Y s z l),.agg (pnt x1 y1 f1),.agg (pnt x2 y2 f2)]) (fun _=>hcf) fun yy vv hg hh=>RtW.of_c (Rt.c (HS.out _))) .nil
 refine .s 35 (fun yy=>.pointer (some ⟨w.heap.size+1+1+1,0,none⟩)) (fun yy=>.agg (pnt x3 y3 f3)) fun yw1 v1 hg h1=>?_
 have HT:=(c3.gr hg).h
 have FT:=(c3.gr hg).f
 refine ⟨setBlk v1 (w.heap.size+1+1+1) (pnt x3 y3 f3),by simp [go_sem,exI,HT,FT],?_⟩
 simp only [fzw]
 clear h1
 replace G:=G.trans hg
 replace c0:=c0.gr hg
 replace c1:=c1.gr hg
 replace c2:=c2.gr hg
 replace c3:=c3.gr hg
 clear hg
 go_wp2_with fail
 exact bodyPost_ret (res_one Tryz.results44 (rd_pn (by rfl) (blk_setBlk _ _ _ (by rw [HT]; decide +kernel)))) rfl ⟨rfl,gr_setNew G (by omega)⟩
attribute [local go_sem ↓] buildN_is
attribute [local go_sem] storePY pnt_setY buildN0
theorem gneg_of (id:Int) (P A B N X Y:Nat) (s z:Int) (l:Bool) (x1 y1 q:Nat) (f1:Bool)
 (H1':∀ w,Cg 68 #[.agg (cu id P A B N X Y s z l),.agg (nw 9 0),.agg (nw 9 y1)] w (.agg (nw 9 q))) (w:World):
 Cg 45 #[.agg (cu id P A B N X Y s z l),.agg (pnt x1 y1 f1)] w (.agg (pnt x1 q f1)):=by
 have H1:Hid _:=H1'
 clear H1'
 go_enter Tryz.func45,Tryz.ntmps45
 go_upto_region 1 with fail
 refine gen_w (fun v=>Hid (Gr w v∧Vr v (w.heap.size) (cu id P A B N X Y s z l)∧Vr v (w.heap.size+1) (pnt x1 y1 f1)∧Vr v (w.heap.size+1+1) (pnt 0 0 false))) ⟨grA,vrA,vrA,vrA⟩ ?_
 intro v0 HV
 obtain ⟨G,c0,c1,c2⟩:=HV.out
 have k0:v0.cell? ⟨w.heap.size,0,none⟩=some (.int .i64 id):=by rw [c0.cell]; exact cu_0 id P A B N X Y s z l
 have hh0:=c0.al
 have hh1:=c1.al
 have hh2:=c2.al
 clear HV c0 c1 c2
 go_wp2_with (first
  | (go_at_call_of 68 ((#[.agg (cu id P A B N X Y s z l),.agg (nw 9 0),.agg (nw 9 y1)]:Array Value)); refine (H1.out _).mono ?_; rintro e w' ⟨rfl,g0,rfl⟩))
 refine bodyPost_ret (res_one Tryz.results45 (rd_pn (by rfl) ?_)) rfl ⟨rfl,?_⟩
 ·simp [go_sem, *]
 ·exact grB
end
end
section
theorem gdiffF {k:Nat} (h1:1≤k) (h2:k≤15) (a b:Fin (pN k)) (w:World):Cg 68 #[.agg (cu (k:Int) (pN k) (aN k) (bN k) (oN k) (xN k) (yN k) (bl (oN k)) (szN k) (lgN k)),.agg (nw 9 a.val),.agg (nw 9 b.val)] w (.agg (nw 9 (a-b).val)):=gdiff_of _ _ _ _ _ _ _ _ _ _ _ _ _ (fsubF h1 h2 a b) w
theorem gprodF {k:Nat} (h1:1≤k) (h2:k≤15) (a b:Fin (pN k)) (w:World):Cg 134 #[.agg (cu (k:Int) (pN k) (aN k) (bN k) (oN k) (xN k) (yN k) (bl (oN k)) (szN k) (lgN k)),.agg (nw 9 a.val),.agg (nw 9 b.val)] w (.agg (nw 9 (a*b).val)):=gprod_of _ _ _ _ _ _ _ _ _ _ _ _ _ (fmulF h1 h2 a b) w
theorem gquotF {k:Nat} (h1:1≤k) (h2:k≤15) [NeZero (pN k)] (a b:Fin (pN k)) (hb:b≠0) (w:World):Cg 132 #[.agg (cu (k:Int) (pN k) (aN k) (bN k) (oN k) (xN k) (yN k) (bl (oN k)) (szN k) (lgN k)),.agg (nw 9 a.val),.agg (nw 9 b.val)] w (.agg (nw 9 (a*EC.iP (pN k) b).val)):=gquot_of _ _ _ _ _ _ _ _ _ _ _ _ _ _ (finvF h1 h2 b hb) (gprodF h1 h2 a _) w
def accF {p:Nat} [NeZero p] (F:Nat→Fin p):Nat→Fin p
 | 0=>0
 | n+1=>accF F n+F n
theorem gsumF {k:Nat} (h1:1≤k) (h2:k≤15) [NeZero (pN k)] (F:Nat→Fin (pN k)) (n:Nat) (hn:n≤4) (c:Array Value) (hrow:∀ i,i<n→c.extract (i*9) (i*9+9)=nw 9 (F i).val) (hsz:n*9≤c.size) (b:Nat) (w:World) (hv:Vr w b c):
 Cg 135 #[.agg (cu (k:Int) (pN k) (aN k) (bN k) (oN k) (xN k) (yN k) (bl (oN k)) (szN k) (lgN k)),.slice (some ⟨b,0,none⟩) n n] w (.agg (nw 9 (accF F n).val)):=
 gsum_of _ _ _ _ _ _ _ _ _ _ n hn (fun i=>(F i).val) (fun i=>(accF F i).val) c (Fin.val_zero _) hrow hsz (fun _ _ w=>faddF h1 h2 _ _ w) b n w hv
theorem gsum2F {k:Nat} (h1:1≤k) (h2:k≤15) [NeZero (pN k)] (x y:Fin (pN k)) (w:World) (b:Nat) (hv:Vr w b (nw 9 x.val++nw 9 y.val)):
 Cg 135 #[.agg (cu (k:Int) (pN k) (aN k) (bN k) (oN k) (xN k) (yN k) (bl (oN k)) (szN k) (lgN k)),.slice (some ⟨b,0,none⟩) 2 2] w (.agg (nw 9 (x+y).val)):=by
 have h:=gsumF h1 h2 (fun i=>match i with | 0=>x | _=>y) 2 (by decide) _ (fun i hi=>by
  obtain rfl | rfl:i=0∨i=1:=by omega
  ·kernel_rfl
  ·kernel_rfl) (by simp [nw_size]) b w hv
 rw [show accF (fun i=>match i with | 0=>x | _=>y) 2=x+y by show 0+x+y=x+y; grobner] at h
 exact h
theorem gsum4F {k:Nat} (h1:1≤k) (h2:k≤15) [NeZero (pN k)] (x y z u:Fin (pN k)) (w:World) (b:Nat) (hv:Vr w b (nw 9 x.val++nw 9 y.val++nw 9 z.val++nw 9 u.val)):
 Cg 135 #[.agg (cu (k:Int) (pN k) (aN k) (bN k) (oN k) (xN k) (yN k) (bl (oN k)) (szN k) (lgN k)),.slice (some ⟨b,0,none⟩) 4 4] w (.agg (nw 9 (x+y+z+u).val)):=by
 have h:=gsumF h1 h2 (fun i=>match i with | 0=>x | 1=>y | 2=>z | _=>u) 4 (by decide) _ (fun i hi=>by
  obtain rfl | rfl | rfl | rfl:i=0∨i=1∨i=2∨i=3:=by omega
  ·kernel_rfl
  ·kernel_rfl
  ·kernel_rfl
  ·kernel_rfl) (by simp [nw_size]) b w hv
 rw [show accF (fun i=>match i with | 0=>x | 1=>y | 2=>z | _=>u) 4=x+y+z+u by show 0+x+y+z+u=x+y+z+u; grobner] at h
 exact h
theorem galongF {k:Nat} (h1:1≤k) (h2:k≤15) [NeZero (pN k)] (m x1 y1 x2 y2:Fin (pN k)) (w:World):
 Cg 133 #[.agg (cu (k:Int) (pN k) (aN k) (bN k) (oN k) (xN k) (yN k) (bl (oN k)) (szN k) (lgN k)),.agg (nw 9 m.val),.agg (pnt x1.val y1.val false),.agg (pnt x2.val y2.val false)] w (.agg (pnt (ex (some (EC.sx m x1 x2,EC.sy m x1 y1 (EC.sx m x1 x2)))) (ey (some (EC.sx m x1 x2,EC.sy m x1 y1 (EC.sx m x1 x2)))) (ef (some (EC.sx m x1 x2,EC.sy m x1 y1 (EC.sx m x1 x2)))))):=by
 have e:m*m-(x1+x2)=EC.sx m x1 x2:=by unfold EC.sx; grobner
 have h3:=gdiffF h1 h2 (m*m) (x1+x2)
 rw [e] at h3
 exact galong_of _ _ _ _ _ _ _ _ _ _ _ _ _ _ _ _ _ _ _ _ _ (gprodF h1 h2 m m) h3 (gdiffF h1 h2 x1 _) (gprodF h1 h2 m _) (gdiffF h1 h2 _ y1) (gsum2F h1 h2 x1 x2) w
theorem gadd_any {k:Nat} (h1:1≤k) (h2:k≤15) [NeZero (pN k)] (Q1 Q2:Option (Fin (pN k)×Fin (pN k))) (w:World):
 Cg 44 #[.agg (cu (k:Int) (pN k) (aN k) (bN k) (oN k) (xN k) (yN k) (bl (oN k)) (szN k) (lgN k)),.agg (pnt (ex Q1) (ey Q1) (ef Q1)),.agg (pnt (ex Q2) (ey Q2) (ef Q2))] w (.agg (pnt (ex (EC.pl (EC.iP (pN k)) (EC.aF k h1 h2) Q1 Q2)) (ey (EC.pl (EC.iP (pN k)) (EC.aF k h1 h2) Q1 Q2)) (ef (EC.pl (EC.iP (pN k)) (EC.aF k h1 h2) Q1 Q2)))):=by
 have C:=EC.curN k h1 h2
 have hM:=pN_M k
 have z:(0:Fin (pN k)).val=0:=Fin.val_zero _
 have eqF:∀ a b:Fin (pN k),eqN 9 a.val b.val=decide (a=b):=fun a b=>by
  rw [eqN9 _ _ (Nat.lt_trans a.isLt hM) (Nat.lt_trans b.isLt hM)]
  exact decide_eq_decide.2 Fin.ext_iff.symm
 match Q1,Q2 with
 | none,Q2=>exact gadd_of _ _ _ _ _ _ _ _ _ _ _ _ _ _ _ _ _ _ _ 0 91 (fun w=>by kernel_rfl) (fun w=>by kernel_rfl) (rel_0 _ _ _ _ _) (gright_any _ _ _ _ _ _ _ _ _ _ _ _ _ _ _ _) w
 | some (x1,y1),none=>exact gadd_of _ _ _ _ _ _ _ _ _ _ _ _ _ _ _ _ _ _ _ 1 92 (fun w=>by kernel_rfl) (fun w=>by kernel_rfl) (rel_1 _ _ _ _) (gleft_any _ _ _ _ _ _ _ _ _ _ _ _ _ _ _ _) w
 | some (x1,y1),some (x2,y2)=>
  by_cases hx:x1=x2
  ·subst hx
   have e1:eqN 9 x1.val x1.val=true:=eqN_self _ _
   by_cases hy:y1=y2
   ·subst hy
    have e2:eqN 9 y1.val y1.val=true:=eqN_self _ _
    by_cases h0:y1=0
    ·have e:EC.pl (EC.iP (pN k)) (EC.aF k h1 h2) (some (x1,y1)) (some (x1,y1))=none:=by simp [EC.pl,h0]
     rw [e]
     exact gadd_of _ _ _ _ _ _ _ _ _ _ _ _ _ _ _ _ _ _ _ 4 95 (fun w=>by kernel_rfl) (fun w=>by kernel_rfl) (rel_5 _ _ _ _ e1 e2 (z ▸ (eqF y1 0).trans (decide_eq_true h0))) (ginf_any _ _ _ _ _ _ _ _ _ _ _ _ _ _ _ _) w
    ·have hs:y1+y1≠0:=fun h=>h0 (C.dbl h)
     have e:EC.pl (EC.iP (pN k)) (EC.aF k h1 h2) (some (x1,y1)) (some (x1,y1))=some (EC.sx ((x1*x1+(x1*x1+x1*x1)+EC.aF k h1 h2)*EC.iP (pN k) (y1+y1)) x1 x1,EC.sy ((x1*x1+(x1*x1+x1*x1)+EC.aF k h1 h2)*EC.iP (pN k) (y1+y1)) x1 y1 (EC.sx ((x1*x1+(x1*x1+x1*x1)+EC.aF k h1 h2)*EC.iP (pN k) (y1+y1)) x1 x1)):=by simp [EC.pl,h0]
     rw [e]
     have h4:=gsum4F h1 h2 (x1*x1) (x1*x1) (x1*x1) (EC.aF k h1 h2)
     rw [show x1*x1+x1*x1+x1*x1+EC.aF k h1 h2=x1*x1+(x1*x1+x1*x1)+EC.aF k h1 h2 by grobner] at h4
     exact gadd_of _ _ _ _ _ _ _ _ _ _ _ _ _ _ _ _ _ _ _ 3 94 (fun w=>by kernel_rfl) (fun w=>by kernel_rfl) (rel_3 _ _ _ _ e1 e2 (z ▸ (eqF y1 0).trans (decide_eq_false h0))) (gtang_of _ _ _ _ _ _ _ _ _ _ _ _ _ _ _ _ _ _ _ _ (gprodF h1 h2 x1 x1) (gquotF h1 h2 _ _ hs) h4 (gsum2F h1 h2 y1 y1) (galongF h1 h2 _ x1 y1 x1 y1)) w
   ·have e:EC.pl (EC.iP (pN k)) (EC.aF k h1 h2) (some (x1,y1)) (some (x1,y2))=none:=by simp [EC.pl,hy]
    rw [e]
    exact gadd_of _ _ _ _ _ _ _ _ _ _ _ _ _ _ _ _ _ _ _ 4 95 (fun w=>by kernel_rfl) (fun w=>by kernel_rfl) (rel_4 _ _ _ _ e1 ((eqF y1 y2).trans (decide_eq_false hy))) (ginf_any _ _ _ _ _ _ _ _ _ _ _ _ _ _ _ _) w
  ·have hs:x2-x1≠0:=fun h=>hx (EC.sub_zero_of h).symm
   have e:EC.pl (EC.iP (pN k)) (EC.aF k h1 h2) (some (x1,y1)) (some (x2,y2))=some (EC.sx ((y2-y1)*EC.iP (pN k) (x2-x1)) x1 x2,EC.sy ((y2-y1)*EC.iP (pN k) (x2-x1)) x1 y1 (EC.sx ((y2-y1)*EC.iP (pN k) (x2-x1)) x1 x2)):=by simp [EC.pl,hx]
   rw [e]
   exact gadd_of _ _ _ _ _ _ _ _ _ _ _ _ _ _ _ _ _ _ _ 2 93 (fun w=>by kernel_rfl) (fun w=>by kernel_rfl) (rel_2 _ _ _ _ ((eqF x1 x2).trans (decide_eq_false hx))) (gchord_of _ _ _ _ _ _ _ _ _ _ _ _ _ _ _ _ _ _ _ (gdiffF h1 h2 y2 y1) (gdiffF h1 h2 x2 x1) (gquotF h1 h2 _ _ hs) (galongF h1 h2 _ x1 y1 x2 y2)) w
theorem gaddQ {k:Nat} (h1:1≤k) (h2:k≤15) {P Q R:Q3} (hP:OnQ k P) (hQ:OnQ k Q) (hR:plQ k P Q=R) (w:World):
 Cg 44 #[.agg (cu (k:Int) (pN k) (aN k) (bN k) (oN k) (xN k) (yN k) (bl (oN k)) (szN k) (lgN k)),.agg (pnQ P),.agg (pnQ Q)] w (.agg (pnQ R)):=by
 haveI:=EC.nzP k h1 h2
 obtain ⟨a1,a2,a3⟩:=dec3 hP
 obtain ⟨b1,b2,b3⟩:=dec3 hQ
 have h:=gadd_any h1 h2 (decQ (pN k) P) (decQ (pN k) Q) w
 rw [a1,a2,a3,b1,b2,b3] at h
 rw [← hR,plQ_is h1 h2]
 exact h
theorem gnegQ {k:Nat} (h1:1≤k) (h2:k≤15) {P R:Q3} (hP:OnQ k P) (hR:ngQ k P=R) (w:World):
 Cg 45 #[.agg (cu (k:Int) (pN k) (aN k) (bN k) (oN k) (xN k) (yN k) (bl (oN k)) (szN k) (lgN k)),.agg (pnQ P)] w (.agg (pnQ R)):=by
 haveI:=EC.nzP k h1 h2
 have z:(0:Fin (pN k)).val=0:=Fin.val_zero _
 rw [← hR,ngQ_is h1 h2]
 obtain ⟨a1,a2,a3⟩:=dec3 hP
 rw [show pnQ P=pnt (ex (decQ (pN k) P)) (ey (decQ (pN k) P)) (ef (decQ (pN k) P)) by rw [a1,a2,a3]]
 match decQ (pN k) P with
 | none=>
  have h:=gdiffF h1 h2 0 0
  rw [show (0:Fin (pN k))-0=0 by grobner,z] at h
  exact gneg_of _ _ _ _ _ _ _ _ _ _ _ _ _ _ h w
 | some (x,y)=>
  have h:=gdiffF h1 h2 0 y
  rw [show (0:Fin (pN k))-y = -y by grobner,z] at h
  exact gneg_of _ _ _ _ _ _ _ _ _ _ _ _ _ _ h w
end
section
attribute [local go_sem ↓] uz1
attribute [local go_sem] uz2
section
attribute [local go_sem] uz8
attribute [local go_sem ↓] uz15 Go.wp_at_zero Go.wp_at_succ
attribute [local go_sem] uz16
theorem gf_yes {k:Nat} (h1:1≤k) (h2:k≤15) (n:Nat) (hn:n≤2) (F:Nat→Q3) (hF:∀ i,i<n→(F i).1<M∧(F i).2.1<M) (c:Array Value) (hrow:∀ i,i<n→c.extract (i*19) (i*19+19)=pnQ (F i)) (hsz:n*19≤c.size) (hon:∀ i,i<n→onB k (F i).1 (F i).2.1 (F i).2.2=true) (b cap:Nat) (w:World) (hv:Vr w b c):
 Cg 43 #[.int .i64 (k:Int),.slice (some ⟨b,0,none⟩) n cap] w (.tuple #[.agg (cu (k:Int) (pN k) (aN k) (bN k) (oN k) (xN k) (yN k) (bl (oN k)) (szN k) (lgN k)),.int .i64 0]):=by
 have HG:Hid (∀ w,Cg 32 #[.int .i64 (k:Int)] w (.tuple #[.agg (cu (k:Int) (pN k) (aN k) (bN k) (oN k) (xN k) (yN k) (bl (oN k)) (szN k) (lgN k)),.int .i64 0])):=fun w=>get13_yes k h1 h2 w
 have HN:Hid (Unit→n≤2):=fun _=>hn
 have HB:Hid (∀ i,i<n→(F i).1<M∧(F i).2.1<M):=hF
 have HO:Hid (∀ i,i<n→onB k (F i).1 (F i).2.1 (F i).2.2=true):=hon
 have HL:Hid (∀ j,j<n→∀ v,Gr w v→(loadS 35 (.pointer (some ⟨b,j*19,none⟩))).run Tryz.prog v=.ok (.agg (pnt (F j).1 (F j).2.1 (F j).2.2)) v):=fun j hj v g=>by
  have hb:=(hv.gr g).h
  rw [loadPartP v b (j*19) (by rw [hb]; omega),hb,hrow j hj]
 clear hn hF hrow hsz hon
 go_enter Tryz.func43,Tryz.ntmps43
 go_wp2_with (go_at_call 32; refine (HG.out _).mono ?_; rintro e WA ⟨rfl,GA⟩)
 obtain ⟨e6,he6⟩:=exl (WA.heap.size)
 simp only [he6]
 refine gen_w (fun wr=>Hid (Gr w wr∧Vr wr (w.heap.size) (cu 0 0 0 0 0 0 0 0 0 false)∧Vr wr e6 (cu (k:Int) (pN k) (aN k) (bN k) (oN k) (xN k) (yN k) (bl (oN k)) (szN k) (lgN k)))) ?_ ?_
 ·subst he6
  exact ⟨(((Gr.refl w).alloc _).trans GA).alloc _,((Vr.new w _ _).gr GA).gr ((Gr.refl _).alloc _),Vr.new WA _ _⟩
 have hne:w.heap.size<e6:=by have:=GA.below.size; simp at this; omega
 have hne2:¬ (w.heap.size=e6):=by omega
 have hne3:¬ (e6=w.heap.size):=by omega
 clear he6 GA HG
 intro v0 HV
 go_loopw [20] (fun ia wr=>∃ j:Nat,ia=.int .i64 (j:Int)∧Hid (Unit→j≤n)∧Hid (Gr w wr∧Vr wr (w.heap.size) (cu 0 0 0 0 0 0 0 0 0 false)∧Vr wr e6 (cu (k:Int) (pN k) (aN k) (bN k) (oN k) (xN k) (yN k) (bl (oN k)) (szN k) (lgN k)))) (fun ia _=>((n:Int)-intOf ia).toNat)
 case atStart=>exact ⟨0,rfl,fun _=>Nat.zero_le _,HV⟩
 case round=>
  clear HV
  obtain ⟨j,rfl,HJ,HV⟩:=hrel
  obtain ⟨G,c0,c6⟩:=HV.out
  have j0:(0:Int)≤(j:Int):=by omega
  have n4:(n:Int)≤2:=by have:=HN.out (); omega
  have ⟨hh0,ff0,pp0⟩:=c0
  have ⟨hh6,ff6,pp6⟩:=c6
  have ⟨p01,p02,p03,p04,p05,p06⟩:=c0.pp
  have ⟨p61,p62,p63,p64,p65,p66⟩:=c6.pp
  by_cases hlt:j<n
  ·have hjn:j<n:=by exact hlt
   have j1:(j:Int)<(n:Int):=by omega
   have ld0:=HL.out j hjn wr G
   have HO2:Hid (∀ w,Cg 38 #[.int .i64 (k:Int),.agg (pnt (F j).1 (F j).2.1 (F j).2.2)] w (.bool true)):=fun w=>by
    have:=on13_yes k h1 h2 _ _ (F j).2.2 (HB.out j hjn).1 (HB.out j hjn).2 w
    rw [HO.out j hlt] at this
    exact this
   clear HV c0 c6 hjn
   go_wp2_with (go_at_call 38; refine (HO2.out _).mono ?_; rintro e w' ⟨rfl,g,rfl⟩)
   go_roundw
   case rel=>
    refine ⟨j+1,by go_num,fun _=>hlt,?_,⟨by simp [go_sem, *],by simp [go_sem, *],by simp [go_sem, *]⟩,⟨by simp [go_sem, *],by simp [go_sem, *],by simp [go_sem, *]⟩⟩
    exact grB
   case measure=>simp [intOf]; omega
  ·skip
   have j1:¬ (j:Int)<(n:Int):=by omega
   clear HV c0 c6 hlt
   go_wp2_with fail
   refine bodyPost_ret (res_two Tryz.results43 (rd_gp (by rfl) ?_) (rd_tmp (by rfl))) rfl ⟨rfl,?_⟩
   ·simp [go_sem, *]
   ·exact grB
end
section
attribute [local go_sem] uz8
attribute [local go_sem ↓] uz15 Go.wp_at_zero Go.wp_at_succ
attribute [local go_sem] uz16
theorem aadd_yes {k:Nat} {P Q R:Q3}
 (HG':(∀ w b,Vr w b (pnt P.1 P.2.1 P.2.2++pnt Q.1 Q.2.1 Q.2.2)→Cg 43 #[.int .i64 (k:Int),.slice (some ⟨b,0,none⟩) 2 2] w (.tuple #[.agg (cu (k:Int) (pN k) (aN k) (bN k) (oN k) (xN k) (yN k) (bl (oN k)) (szN k) (lgN k)),.int .i64 0])))
 (HA':∀ w,Cg 44 #[.agg (cu (k:Int) (pN k) (aN k) (bN k) (oN k) (xN k) (yN k) (bl (oN k)) (szN k) (lgN k)),.agg (pnt P.1 P.2.1 P.2.2),.agg (pnt Q.1 Q.2.1 Q.2.2)] w (.agg (pnt R.1 R.2.1 R.2.2))) (w:World):
 Cg 27 #[.int .i64 (k:Int),.agg (pnt P.1 P.2.1 P.2.2),.agg (pnt Q.1 Q.2.1 Q.2.2)] w (.tuple #[.agg (pnt R.1 R.2.1 R.2.2),.int .i64 0]):=by
 have HG:Hid _:=HG'
 have HA:Hid _:=HA'
 clear HG' HA'
 go_enter Tryz.func27,Tryz.ntmps27
 go_upto_region 1 with fail
 refine gen_w (fun v=>Hid (Gr w v∧Vr v (w.heap.size) (pnt P.1 P.2.1 P.2.2)∧Vr v (w.heap.size+1) (pnt Q.1 Q.2.1 Q.2.2)∧Vr v (w.heap.size+1+1) (pnt 0 0 false))) ⟨grA,vrA,vrA,vrA⟩ ?_
 intro v0 HV
 obtain ⟨G,c0,c1,c2⟩:=HV.out
 clear HV
 refine wp_v false [.c (.int .i64 (k:Int)),.c (.agg (pnt P.1 P.2.1 P.2.2)),.c (.agg (pnt Q.1 Q.2.1 Q.2.2)),.r 2 (pnt P.1 P.2.1 P.2.2++pnt Q.1 Q.2.1 Q.2.2),.c (.tuple #[.agg (cu (k:Int) (pN k) (aN k) (bN k) (oN k) (xN k) (yN k) (bl (oN k)) (szN k) (lgN k)),.int .i64 0]),.c (.tuple #[.agg (cu (k:Int) (pN k) (aN k) (bN k) (oN k) (xN k) (yN k) (bl (oN k)) (szN k) (lgN k)),.int .i64 0]),.c (.agg (cu (k:Int) (pN k) (aN k) (bN k) (oN k) (xN k) (yN k) (bl (oN k)) (szN k) (lgN k))),.O,.a,.u,.O] [1,2,3,4] [⟨8,9,89,cu 0 0 0 0 0 0 0 0 0 false,fun _=>cu (k:Int) (pN k) (aN k) (bN k) (oN k) (xN k) (yN k) (bl (oN k)) (szN k) (lgN k)⟩] ?hs1 ?hv1 ?hf1
 case hs1=>
  exact .cons (.g 35 0 c0 rfl)<|.cons (.g 35 0 c1 rfl)<|.cons (.r (.buildSlice 121 2 #[(0,.const (.agg (pnt P.1 P.2.1 P.2.2))),(1,.const (.agg (pnt Q.1 Q.2.1 Q.2.2)))]) rfl (rowP2 _ _ _ _ _ _))<|.cons (.k (fun yy => #[.int .i64 (k:Int),.slice (some ⟨(yy 3 0).2,0,none⟩) 2 2]) fun yy vv hg hh=>RtW.of_c (Rt.c (HG.out _ _ (hh 3 rfl)))) .nil
 case hv1=>
  refine .cons (.mk (fun _ _ _=>rfl) (fun _ v b H F=>by dsimp only at H ⊢; simp [go_sem,exI,H,F]) zCu ⟨fkc,fkc,fkc,fkr (by simp [cu_size,pnt_size]),fkc,fkc,fkc,fkc,fka,fku,fkc,trivial⟩) .nil
 intro yw1 v1 hg h1 hV1
 simp only [fzw,Kw.a,Kw.r]
 obtain ⟨⟨N1_8,V1_8⟩, -⟩:(v0.heap.size≤(yw1 8 0).2∧Vr v1 (yw1 8 0).2 (cu (k:Int) (pN k) (aN k) (bN k) (oN k) (xN k) (yN k) (bl (oN k)) (szN k) (lgN k)))∧True:=hV1
 clear h1
 replace G:=G.trans hg
 replace c0:=c0.gr hg
 replace c1:=c1.gr hg
 replace c2:=c2.gr hg
 clear hg
 go_upto_region 2 with fail
 refine wp_wS [.O,.F] [] ?hs2 ?hf2
 case hs2=>exact .nil
 intro yw2 v2 hg h2
 simp only [fzw]
 clear h2
 replace G:=G.trans hg
 replace c0:=c0.gr hg
 replace c1:=c1.gr hg
 replace c2:=c2.gr hg
 replace V1_8:=V1_8.gr hg
 clear hg
 have hh0:=c0.al
 have hh1:=c1.al
 have hh2:=c2.al
 have hh3:=V1_8.al
 clear c0 c1 c2 V1_8
 go_wp2_with (go_at_call 44; refine (HA.out _).mono ?_; rintro e w' ⟨rfl,g,rfl⟩)
 refine bodyPost_ret (res_two Tryz.results27 (rd_pn (by rfl) ?_) (rd_tmp (by rfl))) rfl ⟨rfl,?_⟩
 ·simp [go_sem, *]
 ·exact grB
theorem aneg_yes {k:Nat} {P R:Q3}
 (HG':(∀ w b,Vr w b (pnt P.1 P.2.1 P.2.2)→Cg 43 #[.int .i64 (k:Int),.slice (some ⟨b,0,none⟩) 1 1] w (.tuple #[.agg (cu (k:Int) (pN k) (aN k) (bN k) (oN k) (xN k) (yN k) (bl (oN k)) (szN k) (lgN k)),.int .i64 0])))
 (HA':∀ w,Cg 45 #[.agg (cu (k:Int) (pN k) (aN k) (bN k) (oN k) (xN k) (yN k) (bl (oN k)) (szN k) (lgN k)),.agg (pnt P.1 P.2.1 P.2.2)] w (.agg (pnt R.1 R.2.1 R.2.2))) (w:World):
 Cg 28 #[.int .i64 (k:Int),.agg (pnt P.1 P.2.1 P.2.2)] w (.tuple #[.agg (pnt R.1 R.2.1 R.2.2),.int .i64 0]):=by
 have HG:Hid _:=HG'
 have HA:Hid _:=HA'
 clear HG' HA'
 go_enter Tryz.func28,Tryz.ntmps28
 go_upto_region 1 with fail
 refine gen_w (fun v=>Hid (Gr w v∧Vr v (w.heap.size) (pnt P.1 P.2.1 P.2.2)∧Vr v (w.heap.size+1) (pnt 0 0 false))) ⟨grA,vrA,vrA⟩ ?_
 intro v0 HV
 obtain ⟨G,c0,c1⟩:=HV.out
 clear HV
 refine wp_v false [.c (.int .i64 (k:Int)),.c (.agg (pnt P.1 P.2.1 P.2.2)),.r 1 (pnt P.1 P.2.1 P.2.2),.c (.tuple #[.agg (cu (k:Int) (pN k) (aN k) (bN k) (oN k) (xN k) (yN k) (bl (oN k)) (szN k) (lgN k)),.int .i64 0]),.c (.tuple #[.agg (cu (k:Int) (pN k) (aN k) (bN k) (oN k) (xN k) (yN k) (bl (oN k)) (szN k) (lgN k)),.int .i64 0]),.c (.agg (cu (k:Int) (pN k) (aN k) (bN k) (oN k) (xN k) (yN k) (bl (oN k)) (szN k) (lgN k))),.O,.a,.u,.O] [1,2,3] [⟨7,8,89,cu 0 0 0 0 0 0 0 0 0 false,fun _=>cu (k:Int) (pN k) (aN k) (bN k) (oN k) (xN k) (yN k) (bl (oN k)) (szN k) (lgN k)⟩] ?hs5 ?hv5 ?hf5
 case hs5=>
  exact .cons (.g 35 0 c0 rfl)<|.cons (.r (.buildSlice 121 1 #[(0,.const (.agg (pnt P.1 P.2.1 P.2.2)))]) rfl (rowP1 _ _ _))<|.cons (.k (fun yy => #[.int .i64 (k:Int),.slice (some ⟨(yy 2 0).2,0,none⟩) 1 1]) fun yy vv hg hh=>RtW.of_c (Rt.c (HG.out _ _ (hh 2 rfl)))) .nil
 case hv5=>
  refine .cons (.mk (fun _ _ _=>rfl) (fun _ v b H F=>by dsimp only at H ⊢; simp [go_sem,exI,H,F]) zCu ⟨fkc,fkc,fkr (by simp [cu_size,pnt_size]),fkc,fkc,fkc,fkc,fka,fku,fkc,trivial⟩) .nil
 intro yw1 v1 hg h1 hV1
 simp only [fzw,Kw.a,Kw.r]
 obtain ⟨⟨N1_7,V1_7⟩, -⟩:(v0.heap.size≤(yw1 7 0).2∧Vr v1 (yw1 7 0).2 (cu (k:Int) (pN k) (aN k) (bN k) (oN k) (xN k) (yN k) (bl (oN k)) (szN k) (lgN k)))∧True:=hV1
 clear h1
 replace G:=G.trans hg
 replace c0:=c0.gr hg
 replace c1:=c1.gr hg
 clear hg
 go_upto_region 2 with fail
 refine wp_wS [.O,.F] [] ?hs6 ?hf6
 case hs6=>exact .nil
 intro yw2 v2 hg h2
 simp only [fzw]
 clear h2
 replace G:=G.trans hg
 replace c0:=c0.gr hg
 replace c1:=c1.gr hg
 replace V1_7:=V1_7.gr hg
 clear hg
 have hh0:=c0.al
 have hh1:=c1.al
 have hh2:=V1_7.al
 clear c0 c1 V1_7
 go_wp2_with (go_at_call 45; refine (HA.out _).mono ?_; rintro e w' ⟨rfl,g,rfl⟩)
 refine bodyPost_ret (res_two Tryz.results28 (rd_pn (by rfl) ?_) (rd_tmp (by rfl))) rfl ⟨rfl,?_⟩
 ·simp [go_sem, *]
 ·exact grB
theorem gf1 {k:Nat} (h1:1≤k) (h2:k≤15) {P:Q3} (hP:OnQ k P) (w:World) (b:Nat) (hv:Vr w b (pnQ P)):Cg 43 #[.int .i64 (k:Int),.slice (some ⟨b,0,none⟩) 1 1] w (.tuple #[.agg (cu (k:Int) (pN k) (aN k) (bN k) (oN k) (xN k) (yN k) (bl (oN k)) (szN k) (lgN k)),.int .i64 0]):=
 gf_yes h1 h2 1 (by decide) (fun _=>P) (fun _ _=>hP.lt) _ (fun i hi=>by
  obtain rfl:i=0:=by omega
  kernel_rfl) (by simp [pnt_size]) (fun _ _=>hP) b 1 w hv
theorem gf2 {k:Nat} (h1:1≤k) (h2:k≤15) {P Q:Q3} (hP:OnQ k P) (hQ:OnQ k Q) (w:World) (b:Nat) (hv:Vr w b (pnQ P++pnQ Q)):Cg 43 #[.int .i64 (k:Int),.slice (some ⟨b,0,none⟩) 2 2] w (.tuple #[.agg (cu (k:Int) (pN k) (aN k) (bN k) (oN k) (xN k) (yN k) (bl (oN k)) (szN k) (lgN k)),.int .i64 0]):=
 gf_yes h1 h2 2 (by decide) (fun i=>match i with | 0=>P | _=>Q) (fun i _=>match i with | 0=>hP.lt | _+1=>hQ.lt) _ (fun i hi=>by
  obtain rfl | rfl:i=0∨i=1:=by omega
  ·kernel_rfl
  ·kernel_rfl) (by simp [pnt_size]) (fun i _=>match i with | 0=>hP | _+1=>hQ) b 2 w hv
theorem addQ {k:Nat} (h1:1≤k) (h2:k≤15) {P Q R:Q3} (hP:OnQ k P) (hQ:OnQ k Q) (hR:plQ k P Q=R) (w:World):Cg 27 #[.int .i64 (k:Int),.agg (pnQ P),.agg (pnQ Q)] w (.tuple #[.agg (pnQ R),.int .i64 0]):=aadd_yes (gf2 h1 h2 hP hQ) (gaddQ h1 h2 hP hQ hR) w
theorem negQ {k:Nat} (h1:1≤k) (h2:k≤15) {P R:Q3} (hP:OnQ k P) (hR:ngQ k P=R) (w:World):Cg 28 #[.int .i64 (k:Int),.agg (pnQ P)] w (.tuple #[.agg (pnQ R),.int .i64 0]):=aneg_yes (gf1 h1 h2 hP) (gnegQ h1 h2 hP hR) w
end
end
end Go.Proofs.YtpogpconfonljaaGreat