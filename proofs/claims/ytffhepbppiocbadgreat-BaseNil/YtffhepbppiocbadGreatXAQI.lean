import Derived.Test.YtffhepbppiocbadGreatXAQE
namespace Go.Proofs.YtffhepbppiocbadGreat
open Go.RowKit Go.Proofs.Tryz
set_option maxRecDepth 100000
set_option maxHeartbeats 8000000
section
attribute [local go_sem ↓] uz1
attribute [local go_sem] uz2
section
attribute [local go_sem] uz8
attribute [local go_sem ↓] uz19 Go.wp_at_zero Go.wp_at_succ
attribute [local go_sem] uz20
attribute [local go_sem ↓] uz13
attribute [local go_sem] uz14
theorem Tr.odd{w:World}{t b:Nat}{v:Value}{c:Array Value}{xs:List (Int×Int)}(h:Tr w t v xs)(k:Vr w b c)(hc:c.size=19):¬Own t v b:=by
 have d:=k.h.symm▸hc
 rintro (rfl|ho)
 ·simp[blk,h.cell]at d
 ·rcases h.row.2 with ⟨rfl,-⟩|⟨g,cap,cur,rfl,-,hg,-,-,h3,-⟩
  ·cases ho
  ·obtain rfl:g=b:=Option.some.inj ho;simp[blk,hg]at d
   omega
theorem Lk.odd{w:World}{t:Option Nat}{b:Nat}{v:Value}{c:Array Value}{xs:List (Int×Int)}(h:Lk w t v xs)(k:Vr w b c)(hc:c.size=19):¬Ow t v b:=fun⟨_,e,ho⟩=>(h _ e).odd k hc ho
theorem bmul_no(id:Int)(h:id<1∨15<id){d:Nat}(p:Value)(w:World):Cg 15 #[p,.int .i64 id,.agg (nw 9 d)] w (.tuple #[.agg (pnt 0 0 false),.int .i64 1900]):=by
 have B:Hid _:=get13_no id h
 go_enter func15,ntmps15
 go_upto_region 1 with fail
 refine gen_w (fun v=>Gr w v∧Vr v (w.heap.size) (nw 9 d)∧Vr v (w.heap.size+1) (pnt 0 0 false)) ⟨grA,vrA,vrA⟩ ?_;rintro P ⟨G,q,i⟩;have Q:=i.p;refine wp_v false [.c (.int .i64 id),.c (.tuple #[.agg (cu 0 0 0 0 0 0 0 0 0 false),.int .i64 1300]),.c (.tuple #[.agg (cu 0 0 0 0 0 0 0 0 0 false),.int .i64 1300]),.c (.agg (cu 0 0 0 0 0 0 0 0 0 false)),.c (.int .i64 1300),.a,.u,.c (.int .i64 1300)] [1] [⟨5,6,78,cu 0 0 0 0 0 0 0 0 0 false,fun _=>cu 0 0 0 0 0 0 0 0 0 false⟩] ⟨.z B.out,⟨⟩⟩ ⟨.k zCu (.t rfl),⟨⟩⟩ fun C S f D j=>?_;simp only[fzw,Kw.a];obtain⟨⟨x,A⟩,-⟩:=j;clear D;replace G:=G.trans f;replace q:=q.gr f;replace i:=i.gr f;clear f
 go_upto_region 2 with fail
 refine wp_wS [.c (.int .i64 1300),.T] [] ⟨⟩ fun H U f I=>?_;simp only[fzw];clear I;replace G:=G.trans f;replace i:=i.gr f;have⟨J,K,L⟩:=i
 go_wp2_with fail
 refine bo2 results15 (rd_pn (by rfl) ?_) ⟨rfl,?_⟩
 ·simp[go_sem, *]
 ·exact grB
theorem bmul_big{k:Nat}(h1:1≤k)(h2:k≤15){d:Nat}(ld:d<M)(gd:oN k≤d)(p:Value)(w:World):Cg 15 #[p,.int .i64 k,.agg (nw 9 d)] w (.tuple #[.agg (pnt 0 0 false),.int .i64 1901]):=by
 have H:Hid _:=get13_yes k h1 h2;have I:Hid _:=mmul_big h1 h2 (gQ_on h1 h2) ld gd p
 go_enter func15,ntmps15
 go_upto_region 1 with fail
 refine gen_w (fun v=>Gr w v∧Vr v (w.heap.size) (nw 9 d)∧Vr v (w.heap.size+1) (pnt 0 0 false)) ⟨grA,vrA,vrA⟩ ?_;rintro W ⟨G,j,i⟩;have X:=i.p;refine wp_v false [.c (.int .i64 k),.E (.agg (cuK k)),.E (.agg (cuK k)),.c (.agg (cuK k)),.O,.a,.u,.O] [1] [⟨5,6,78,cu 0 0 0 0 0 0 0 0 0 false,fun _=>cuK k⟩] ⟨.z H.out,⟨⟩⟩ ⟨.k zCu (.t rfl),⟨⟩⟩ fun x Y h h1 A=>?_;simp only[fzw,Kw.a];obtain⟨⟨C,f⟩,-⟩:=A;clear h1;replace G:=G.trans h;replace j:=j.gr h;replace i:=i.gr h;clear h
 go_upto_region 2 with fail
 refine wp_wS [.O,.F] [] ⟨⟩ fun J Z h h2=>?_;simp only[fzw];clear h2;replace G:=G.trans h;replace j:=j.gr h;replace i:=i.gr h;replace f:=f.gr h;clear h
 go_upto_region 4 with fail
 refine wp_v false [.c (p),.c (.int .i64 k),.N d,.c (pv ((x 5 0).2) 37),.c (.agg (pnt (xN k) (yN k) false)),.c (.tuple #[.agg (pnt 0 0 false),.int .i64 1802]),.c (.tuple #[.agg (pnt 0 0 false),.int .i64 1802]),.c (.agg (pnt 0 0 false)),.c (.int .i64 1802),.a,.u,.c (.int .i64 1802)] [2,4,5] [⟨9,10,38,pnt 0 0 false,fun _=>pnt 0 0 false⟩] ⟨.g 25 0 j rfl,.g 38 37 f rfl,.z I.out,⟨⟩⟩ ⟨.k zPnt (.t rfl),⟨⟩⟩ fun K v3 h L B=>?_;simp only[fzw,Kw.a];obtain⟨⟨D,q⟩,-⟩:=B;clear L;replace G:=G.trans h;replace j:=j.gr h;replace i:=i.gr h;replace f:=f.gr h;clear h
 go_upto_region 5 with fail
 refine wp_wS [.c (.int .i64 1802),.T] [] ⟨⟩ fun P v4 h Q=>?_;simp only[fzw];clear Q;replace G:=G.trans h;replace i:=i.gr h;have⟨S,U,V⟩:=i;clear j i f q
 go_wp2_with fail
 refine bo2 results15 (rd_pn (by rfl) ?_) ⟨rfl,?_⟩
 ·simp[go_sem, *]
 ·exact grB
theorem bmul_yes{k:Nat}(h1:1≤k)(h2:k≤15){d:Nat}(ld:d<oN k){t:Option Nat}{w:World}{z0:Value}{xs:List (Int×Int)}(hl:Lk w t z0 xs)(hx:xs.length≤800000){Q:Q3}(hQ:mlQ k d (gQ k)=Q):
 Calls prog 15 #[trp t,.int .i64 k,.agg (nw 9 d)] w fun e w'=>e=.returned (.tuple #[.agg (pnQ Q),.int .i64 0])∧∃v',RecL w.heap.size w w' t z0 v' (xs++evN k):=by
 have Y:Hid _:=get13_yes k h1 h2;have C:Hid (Lk w t z0 xs):=hl;obtain⟨E,L⟩:=exl (evN k);have Z:Hid (∀{w:World},Lk w t z0 xs→Calls prog 33 #[trp t,.int .i64 k,.agg (nw 9 d),.agg (pnt (xN k) (yN k) false)] w fun e w'=>e=.returned (.tuple #[.agg (pnQ Q),.int .i64 0])∧∃v',RecL w.heap.size w w' t z0 v' (xs++E)):=fun hl=>L▸mmul_yes h1 h2 (gQ_on h1 h2) ld hl hx hQ;rw[L];clear hl hx L hQ ld
 go_enter func15,ntmps15
 go_upto_region 1 with fail
 refine gen_w (fun v=>Gr w v∧Vr v (w.heap.size) (nw 9 d)∧Vr v (w.heap.size+1) (pnt 0 0 false)) ⟨grA,vrA,vrA⟩ ?_;rintro v0 ⟨G,q,i⟩;have L0:w.heap.size+1<v0.heap.size:=i.p;refine wp_v false [.c (.int .i64 k),.E (.agg (cuK k)),.E (.agg (cuK k)),.c (.agg (cuK k)),.O,.a,.u,.O] [1] [⟨5,6,78,cu 0 0 0 0 0 0 0 0 0 false,fun _=>cuK k⟩] ⟨.z Y.out,⟨⟩⟩ ⟨.k zCu (.t rfl),⟨⟩⟩ fun I v1 A h1 P=>?_;simp only[fzw,Kw.a];obtain⟨⟨W,j⟩,-⟩:=P;clear h1;replace G:=G.trans A;replace q:=q.gr A;replace i:=i.gr A;clear A
 go_upto_region 2 with fail
 refine wp_wS [.O,.F] [] ⟨⟩ fun aa D A h2=>?_;simp only[fzw];clear h2;replace G:=G.trans A;replace q:=q.gr A;replace i:=i.gr A;replace j:=j.gr A;clear A;have L1:(I 5 0).2<D.heap.size:=j.p;generalize (I 5 0).2=S at *;obtain⟨n,hn⟩:=exl (D.heap.size);have HV:Hid (GbI n w D t z0 z0 xs∧Vr D (w.heap.size) (nw 9 d)∧Vr D (w.heap.size+1) (pnt 0 0 false)∧Vr D S (cuK k)):=⟨⟨(RecL.refl C.out n).gr G,by omega,by have:=G.below.size;omega⟩,q,i,j⟩;clear G q i j
 go_upto_region 4 with fail
 refine wp_x false [.c (trp t),.c (.int .i64 k),.c (.agg (nw 9 d)),.c (pv S 37),.c (.agg (pnt (xN k) (yN k) false)),.c (.tuple #[.agg (pnQ Q),.int .i64 0]),.c (.tuple #[.agg (pnQ Q),.int .i64 0]),.c (.agg (pnQ Q)),.c (.int .i64 0),.vt n (pnt 0 0 false) 38,.u,.c (.int .i64 0)] [2,4,9] 5 10 (fun v u=>Kp (fun b=>b<n) v u)
  (fun c v=>∃z,(c=false→z=z0)∧GbI n w v t z0 z (cond c (xs++E) xs)∧Vr v (w.heap.size) (nw 9 d)∧Vr v (w.heap.size+1) (pnt 0 0 false)∧Vr v S (cuK k))
  (fun x v=>∃z,GbI n w v t z0 z (xs++E)∧Vr v (w.heap.size+1) (pnt 0 0 false)∧Vr v (x 9 0).2 (pnQ Q))
  33 (fun _ =>#[trp t,.int .i64 k,.agg (nw 9 d),.agg (pnt (xN k) (yN k) false)]) 38 (fun x=>pv (x 9 0).2 0) (fun _=>.agg (pnQ Q)) ⟨z0,fun _=>rfl,HV⟩ ?x1 ?x2 ?x3 ?x4 ⟨fnc,fnc,fnc,fnc,fnc,fnc,fnc,fnc,fnc,fnvt,fnu,fnc,trivial⟩ ?x5
 case x1=>exact fun _ _ _ ⟨z,J,G,q,i,H⟩ g=>⟨z,J,G.trans g,q.gr g,i.gr g,H.gr g⟩
 case x2=>
  rintro _ v ⟨z,J,G,q,i,H⟩;refine .cons (.g 25 0 q rfl) ?_;refine .cons (.g 38 37 H rfl) ?_;exact .cons (.n 38 rfl G.s) .nil
 case x3=>
  rintro x v ⟨z,J,G,q,i,H⟩ X;obtain rfl:=J rfl;refine(Z.out G.r.lk).mono ?_;rintro e w' ⟨rfl,z2,K⟩;exact⟨fun _=>(none,0),rfl,trivial,⟨z2,(fun h=>by cases h),G.next K,q.kp K.kp (G.no C.out (by omega) (by omega)),i.kp K.kp (G.no C.out (by omega) (by omega)),H.kp K.kp (G.no C.out (by omega) (by omega))⟩,K.kp.mono fun b _ ho=>by have:=C.out.own ho;have:=G.h;omega⟩
 case x4=>
  rintro x v ⟨z,J,G,q,i,H⟩ X;obtain⟨hN,U⟩:=X 9 (by kernel_rfl);have V:=vr_vt U;have HT:=V.h;have FT:=V.f;have B:=G.r.lk.odd V (pnt_size _ _ _);have:=G.h;exact⟨setBlk v _ (pnQ Q),by simp[go_sem,exI,HT,FT],z,G.set _ _ (by omega) B,i.other (by omega),V.set (by rw[pnt_size];decide) _⟩
 case x5=>
  rintro x v ⟨z3,G,i,V⟩;simp only[fzw,Kw.vt];generalize (x 9 0).2=b9 at *;have B:=G.no C.out (b:=w.heap.size+1) (by omega) (by omega);have:=G.h;have HR:=(G.set (w.heap.size+1) (pnQ Q) (by omega) B).r.le (by omega);have U:=(i.set (by rw[pnt_size];decide) (pnQ Q)).h;have h9:=V.h;have h2:=i.h;have f2:=i.f
  go_wp2_with fail
  exact bo2 results15 (rd_pn (by rfl) U) ⟨rfl,z3,HR⟩
end
end
section
theorem bulM{k:Nat}(h1:1≤k)(h2:k≤15){d:Nat}(ld:d<oN k){Q:Q3}(hQ:mlQ k d (gQ k)=Q)(w:World):
 Cg 15 #[.pointer none,.int .i64 k,.agg (nw 9 d)] w (.tuple #[.agg (pnQ Q),.int .i64 0]):=by
 refine(bmul_yes h1 h2 ld (z0:=undef) (xs:=[]) (Lk.none _ _ _) (by decide) hQ).mono ?_;rintro e i ⟨rfl,j,f⟩;exact⟨rfl,gr_kp (Gr.refl w) f.kp fun b _ h=>Ow.none h⟩
theorem bulR{k:Nat}(h1:1≤k)(h2:k≤15){d:Nat}(ld:d<oN k){Q:Q3}(hQ:mlQ k d (gQ k)=Q){t:Nat}{w:World}{z:Value}{xs:List (Int×Int)}(hx:xs.length≤800000)(h:Tr w t z xs):
 Calls prog 15 #[.pointer (some ⟨t,0,none⟩),.int .i64 k,.agg (nw 9 d)] w
  fun e w'=>e=.returned (.tuple #[.agg (pnQ Q),.int .i64 0])∧∃z',RecL w.heap.size w w' (some t) z z' (xs++evN k):=
 bmul_yes h1 h2 ld (t:=some t) (fun c e=>by cases e;exact h) hx hQ
structure MrJ(W:World)(t:Nat)(z0:Value)(xs E:List (Int×Int))(c:Bool)(v:World):Prop where
 k:Kp (Own t z0) W v
 tr:∃z,(c=false→z=z0)∧Tr v t z (cond c (xs++E) xs)
section
variable {W:World} {t:Nat} {z0:Value} {xs E:List (Int×Int)}
theorem MrJ.start(h:Tr W t z0 xs):MrJ W t z0 xs E false W:=⟨Kp.refl _ _,_,fun _=>rfl,h⟩
theorem MrJ.gr{v w:World}{c:Bool}(h:MrJ W t z0 xs E c v)(g:Gr v w):MrJ W t z0 xs E c w:=by
 obtain⟨k,z,d,f⟩:=h;exact⟨k.trans (Kp.gr g _),z,d,f.gr g⟩
theorem Tr.grow{u v:World}(h:Tr W t z0 xs)(k:Kp (Own t z0) W v)(g:Gr u W)(hu:u.heap.size≤t):Gr u v:=gr_kp g k fun b f d=>by have:=(h.own b d).1;omega
theorem MrJ.mul{v:World}(h:MrJ W t z0 xs E false v)(hl:Tr W t z0 xs){P:Program}{f:FuncId}{a:Array Value}{r:Value}(hc:Tr v t z0 xs→Calls P f a v fun e w'=>e=.returned r∧∃z,RecL v.heap.size v w' (some t) z0 z (xs++E)):
 Calls P f a v fun e w'=>∃_:Wt,e=.returned r∧True∧MrJ W t z0 xs E true w'∧Kp (fun b=>b<W.heap.size) v w':=by
 obtain⟨k,z,q,x⟩:=h;obtain rfl:=q rfl;refine(hc x).mono ?_;rintro e w' ⟨rfl,A,i⟩
 have j:=i.kp.mono fun b _ ⟨a,e,d⟩=>by
  cases e
  exact d
 exact⟨fun _=>(none,0),rfl,trivial,⟨k.trans j,A,(fun h=>by cases h),i.lk _ rfl⟩,j.mono fun b _ d=>(hl.own b d).2⟩
theorem MrJ.set{v:World}(h:MrJ W t z0 xs E true v){b:Nat}{c:Array Value}{ty:TypeId}(hb:W.heap.size≤b)(hv:v.heap[b]? = some (.cells c ty (0,0)))(hc:c.size=19)(d:Array Value):
 Kp (Own t z0) W (setBlk v b d)∧∃z,Tr (setBlk v b d) t z (xs++E)∧Vr (setBlk v b d) b d:=by
 obtain⟨k,z,-,f⟩:=h;exact⟨k.setBlk b d (Or.inr hb),z,f.kept ((Kp.refl _ _).setBlk b d (Or.inl rfl)) fun x i e=>by subst e;exact f.odd (vr_vt hv) hc i,(vr_vt hv).set (by omega) d⟩
end
end
end Go.Proofs.YtffhepbppiocbadGreat