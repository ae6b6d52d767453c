import Derived.BigQuiet
import Derived.Deep.QuietTactic
import Derived.Test.YtffhepbppiocbaaXBDB
import Derived.Test.YtffhepbppiocbaaXBD64
namespace Go.Proofs.Ytffhepbppiocbaa
open Go.RowKit Go.Proofs.Try
set_option maxRecDepth 100000
set_option maxHeartbeats 8000000
section
attribute [local go_sem ↓] uz1
attribute [local go_sem] uz2
section
attribute [local go_sem ↓] uz3
attribute [local go_sem] uz4 ones_nw
def gsW(h n y:Nat):Nat:=if y≤h then 18446744073709551615 else(h*18446744073709551616+n)/y
theorem gsW_lt(h n y:Nat)(h3:n<18446744073709551616):gsW h n y<18446744073709551616:=by
 unfold gsW
 split
 ·omega
 ·rw[Nat.div_lt_iff_lt_mul (by omega)]
  omega
theorem gsW_ge(h n y q:Nat)(h1:q≤18446744073709551615)(h2:q≤(h*18446744073709551616+n)/y):q≤gsW h n y:=by
 grind [gsW]
theorem guess_any(h n y:Nat)(h0:9223372036854775808≤y)(h1:y<18446744073709551616)(h3:n<18446744073709551616)(w:World):
 Calls prog 105 #[.int .u64 h,.int .u64 n,.int .u64 y] w fun e w'=>e=.returned (.int .u64 ((gsW h n y:Nat):Int))∧∃m,w'=w.drewN m:=by
 by_cases hc:y≤h
 ·have i:(y:Int)≤h:=by omega
  have j:Hu (gsW h n y=18446744073709551615):=fun _=>by unfold gsW;rw[if_pos hc]
  go_enter func105,ntmps105
  go_wp2
  go_ret
  exact⟨by rw[j.out ()];rfl,0,rfl⟩
 ·have i:¬(y:Int)≤h:=by omega
  have d:=fun w=>div64_any h n y h0 h1 (by omega) h3 w;obtain⟨Q,f⟩:=exl ((h*18446744073709551616+n)/y);simp only[f]at d;have l:Hid _:=d
  have q:Hu (gsW h n y=Q):=fun _=>by unfold gsW;rw[if_neg hc];exact f
  go_enter func105,ntmps105
  go_wp2_with (go_at_call 108;refine(l.out _).mono ?_;rintro e w' ⟨v,rfl,m,rfl⟩)
  go_ret
  exact⟨by rw[q.out ()];rfl,m,rfl⟩
theorem setBlk_gr{w v:World}(b:Nat)(d:Array Value)(g:Gr w v)(h:Pre (b+1) w.heap.size):Gr (setBlk w b d) (setBlk v b d):=by
 obtain⟨g,rfl⟩:=g;rw[setBlk_gro w g b d h];exact⟨g,rfl⟩
theorem Rw.trans{w w1 w2 w3:World}{b V U:Nat}(h:Pre (b+1) w.heap.size)(k:Rw w w1 b V)(g:Gr w1 w2)(l:Rw w2 w3 b U):Rw w w3 b U:=by
 unfold Rw at *
 have f:Pre (b+1) (setBlk w b (nw 19 V)).heap.size:=by rw[size_setBlk];exact h
 have d:=setBlk_gr b (nw 19 U) (k.trans g) f;rw[setBlk_setBlk]at d;exact d.trans l
theorem Row.gr{w v:World}{b V:Nat}(h:Row w b V)(g:Gr w v):Row v b V:=by
 obtain⟨g,rfl⟩:=g;exact⟨by rw[gro_size];exact pre_add _ _ _ h.lt,by rw[blk_gro _ _ _ h.lt];exact h.cells,by rw[frz_gro _ _ _ h.lt];exact h.free⟩
theorem Rw.refl{w v:World}{b V:Nat}(h:Row w b V)(g:Gr w v):Rw w v b V:=by
 unfold Rw;rw[setBlk_self w b _ h.cells];exact g
theorem Rw.gr{w v u:World}{b V:Nat}(h:Rw w v b V)(g:Gr v u):Rw w u b V:=Gr.trans h g
theorem Rw.blk{w v:World}{b V c:Nat}(h:Rw w v b V)(hc:Pre (c+1) w.heap.size)(hne:¬b=c):blk v c=blk w c:=by
 obtain⟨g,rfl⟩:=h;rw[blk_gro _ _ _ (by rw[size_setBlk];exact hc),blk_other _ _ _ _ hne]
theorem Rw.pre{w v:World}{b V c:Nat}(h:Rw w v b V)(hc:Pre c w.heap.size):Pre c v.heap.size:=by
 obtain⟨g,rfl⟩:=h;rw[gro_size,size_setBlk];exact pre_add _ _ _ hc
def Took(w:World)(U V b:Nat)(e:Ending)(w':World):Prop:=∃t Z:Nat,e=.returned (.int .u64 t)∧t<18446744073709551616∧Rw w w' b Z∧Z<U∧Z+t*U=V
theorem takeOut_any(D n u o V b c:Nat)(w:World)(hk:n<9)(hD:D<pw (n+1))(hT:9223372036854775808≤wd D n)(hr:Row w b V)(hV:V<D*pw (o+1))(ho:o+(n+1+1)≤19):
 Calls prog 103 #[.agg (dv D (n+1) u),.slice (some ⟨b,o,none⟩) (n+1+1) c] w (Took w (D*pw o) V b):=by
 have A:V<pw (o+(n+1+1)):=by
  have e:pw (o+(n+1+1))=pw (n+1)*pw (o+1):=by rw[←pw_add];congr 1;omega
  rw[e];exact Nat.lt_trans hV (Nat.mul_lt_mul_of_pos_right hD (pw_pos _))
 have J:0<D:=by
  cases D with
  | zero=>rw[wd_zero]at hT;omega
  | succ n=>omega
 have hU:=Nat.mul_pos J (pw_pos o);have hg:=fun w=>guess_any (wd V (o+n+1)) (wd V (o+n)) (wd D n) hT (wd_lt D n) (wd_lt _ _) w;have B:=gsW_ge (wd V (o+n+1)) (wd V (o+n)) (wd D n) (V/(D*pw o)) (guess_full V D o hV) (guess_word V D n o hD A (by omega));have f:=gsW_lt (wd V (o+n+1)) (wd V (o+n)) (wd D n) (wd_lt _ _);obtain⟨t,ht⟩:=exl (gsW (wd V (o+n+1)) (wd V (o+n)) (wd D n));rw[ht]at B f;simp only[ht]at hg;obtain⟨x1,C⟩:=exl (wd V (o+n+1));obtain⟨x0,G⟩:=exl (wd V (o+n));obtain⟨y,hy⟩:=exl (wd D n);rw[C,G,hy]at hg
 have c1:w.cell? ⟨b,o+(n+1),none⟩=some (.int .u64 x1):=by rw[cell_blk,hr.cells,nw_get 19 V _ (by omega),←C];rfl
 have c0:w.cell? ⟨b,o+n,none⟩=some (.int .u64 x0):=by rw[cell_blk,hr.cells,nw_get 19 V _ (by omega),G]
 have cy:(dv D (n+1) u)[n]? = some (.int .u64 y):=by rw[dv_get D (n+1) u n hk,hy]
 have n0:(0:Int)≤n:=by omega
 have n1:(n:Int)<9:=by omega
 have n2:(n:Int)+1<n+1+1:=by omega
 have n3:(n:Int)<n+1+1:=by omega
 have hl:=hr.lt;have HG:Hid _:=hg;have HR:Hid _:=hr;have HT:Hu (_):=fun _=>f;have HS:Hid _:=fun w hr=>subtract_any D (n+1) u o V b c t w (by omega) hD hr A ho f;have HA:Hid _:=fun Z w hZ hr=>addBack_any D (n+1) u o Z b c w (by omega) hD hr hZ ho;have K:Hu (_):=fun _=>B;have HU:Hu (_):=fun _=>hU;clear A J hU hg B f ht C G hy hr hV ho hD hT hk
 go_enter func103,ntmps103
 go_wp2
 go_quiet ((go_at_call 105;exact Calls.quiet_of (HG.out _)))
 obtain⟨W,L⟩:=exl ((w.alloc (.cells (dv D (n+1) u) 124)).drewN nq)
 have gW:Gr w W:=by rw[←L];exact grA
 have bW:blk W w.heap.size=dv D (n+1) u:=by rw[←L];simp[go_sem]
 have pW:Pre (w.heap.size+1) W.heap.size:=by rw[←L];simp[go_sem]
 have HW:Hid _:=gW;have P:Hid (blk W w.heap.size=dv D (n+1) u∧Pre (w.heap.size+1) W.heap.size∧¬b=w.heap.size):=⟨bW,pW,by have:b+1≤w.heap.size:=hl;omega⟩;have Q:Hu (_):=fun _=>L;clear L gW bW pW c1 c0 cy
 go_wp2_with (go_at_call 106;rw[Q.out ()];refine(HS.out _ (HR.out.gr HW.out)).mono ?_;rintro e w' ⟨Z0,c0,rfl,k0,S,U,i⟩)
 go_loopw [5,6] (fun a s wr=>∃t c Z:Nat,a=.int .u64 t∧s=.bool (decide (c=1))∧Hu (c≤1∧t<18446744073709551616∧Z<pw (o+(n+1+1))∧Z+t*(D*pw o)=V+c*pw (o+(n+1+1))∧(c=0→Z<D*pw o))∧Hid (Rw w wr b Z)∧Hid (blk wr w.heap.size=dv D (n+1) u∧Pre (w.heap.size+1) wr.heap.size)) (fun a _ _=>(intOf a).toNat)
 case atStart=>
  refine⟨t,c0,Z0,rfl,rfl,fun _=>⟨S,HT.out (),U,by rw[←Nat.mul_assoc];exact i,fun hc=>?_⟩,Rw.trans hl (Rw.refl HR.out (Gr.refl _)) HW.out k0,by rw[k0.blk P.out.2.1 P.out.2.2];exact P.out.1,k0.pre P.out.2.1⟩;rw[hc,Nat.zero_mul,Nat.add_zero,Nat.mul_assoc]at i;exact take_ok V (D*pw o) t Z0 (HU.out ()) (K.out ()) i
 case round=>
  obtain⟨a,s,Z,rfl,rfl,d,H,j⟩:=hrel;have X:=(d.out ()).1;clear k0 S U i HS HG K HT Q HW P n0 n1 n2 n3
  rcases(show s=0∨s=1 by omega) with rfl|rfl
  ·clear X;rw[show decide ((0:Nat)=1)=false from rfl]
   go_wp2
   go_ret
   refine⟨a,Z,rfl,(d.out ()).2.1,H.out,(d.out ()).2.2.2.2 trivial,?_⟩;have:=(d.out ()).2.2.2.1;rw[Nat.zero_mul,Nat.add_zero]at this;exact this
  ·have l:=take_pos V (D*pw o) (pw (o+(n+1+1))) a Z (d.out ()).2.2.1 (by have:=(d.out ()).2.2.2.1;rw[Nat.one_mul]at this;exact this);obtain⟨I,aa⟩:∃x,a-1=x:=⟨_,rfl⟩
   have a1:(a:Int)-1=I:=by omega
   have a2:IntKind.u64.wrap (I:Int)=I:=by rw[IntKind.wrap_u64];have:=(d.out ()).2.1;omega
   have ah:=j.out.1;have af:Hu (a-1=I∧0<a):=fun _=>⟨aa,l⟩;clear aa l X;rw[show decide ((1:Nat)=1)=true from rfl]
   go_wp2_with (go_at_call 107;refine(HA.out Z _ (d.out ()).2.2.1 (H.out.row HR.out)).mono ?_;rintro e w' ⟨Y,c2,rfl,k2,ai,ab,ac⟩)
   obtain⟨ea,l⟩:=af.out ();have aj:=(d.out ()).2.1;have ad:=(d.out ()).2.2.2.1;have ak:=(d.out ()).2.2.1;rw[Nat.one_mul]at ad;have q:=take_back V (D*pw o) (pw (o+(n+1+1))) a Z Y c2 l ad ac;rw[ea]at q;have hk:=Rw.trans hl H.out (Gr.refl _) k2
   have ag:¬b=w.heap.size:=by have:b+1≤w.heap.size:=hl;omega
   have ae:Hid (blk w' w.heap.size=dv D (n+1) u∧Pre (w.heap.size+1) w'.heap.size):=⟨by rw[k2.blk j.out.2 ag];exact j.out.1,k2.pre j.out.2⟩
   rcases(show c2=0∨c2=1 by omega) with rfl|rfl
   ·refine⟨⟨I,1,Y,rfl,rfl,fun _=>⟨by omega,by omega,ab,by rw[Nat.zero_mul,Nat.add_zero]at q;rw[q,Nat.one_mul],fun h=>by omega⟩,hk,ae⟩,?_⟩;simp[intOf];omega
   ·refine⟨⟨I,0,Y,rfl,rfl,fun _=>⟨by omega,by omega,ab,by rw[Nat.one_mul]at q;rw[Nat.zero_mul];omega,fun _=>by rw[Nat.one_mul]at ac;omega⟩,hk,ae⟩,?_⟩;simp[intOf];omega
end
end
end Go.Proofs.Ytffhepbppiocbaa