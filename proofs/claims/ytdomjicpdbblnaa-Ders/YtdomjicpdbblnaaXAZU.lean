import Derived.Test.YtdomjicpdbblnaaXAZF
import Derived.Test.YtdomjicpdbblnaaXARFrom
import Derived.Test.YtdomjicpdbblnaaXAZS
import Derived.Test.YtdomjicpdbblnaaXAZV
import Derived.Test.YtdomjicpdbblnaaXALBack
namespace Go.Proofs.Ytdomjicpdbblnaa
open Go.RowKit Go.Proofs.Try
set_option maxRecDepth 100000
set_option maxHeartbeats 8000000
section
attribute [local go_sem ↓] uz1
attribute [local go_sem] uz2
section
attribute [local go_sem] uz4
attribute [local go_sem ↓] bsB_is cvT_is Go.wp_at_zero Go.wp_at_succ
attribute [local go_sem] bsB1 bsB2 bsB3
theorem rnumD_any{a m:Nat}{p:Option Addr}{w:World}(hp:Sl w p a)(ha:a<M):
 Cg 25 #[.slice p (dl a) m] w (.string ⟨(numD a).toArray⟩):=by
 have j:dl a≤50000:=by have:=(dl_le a 18).2 (by rw[pq_M];exact ha);omega
 have L:=kD_le ha;have H:=bl_pwk a 9 ha;have i:Hid (Calls prog 21 #[.slice p (dl a) m] w fun e l=>e=.returned (.int .i64 (bl a:Int))∧l=w):=rbits_any a m p w hp j;obtain⟨q,o⟩:=exl (bl a/8)
 have P:kD a=q+1:=by rw[kD,o]
 by_cases hg:72<kD a
 ·obtain⟨s,d⟩:∃s:ByteArray,⟨(bs 72 a).toArray⟩=s:=⟨_,rfl⟩;have A:Hid (Cg 35 #[.slice p (dl a) m,.int .i64 72] w (.tuple #[.string s,.bool true])):=d▸rbytes_any a m 72 p w hp j (by decide) H;obtain⟨x,b⟩:∃x:ByteArray,⟨[(73:UInt8),0].toArray⟩=x:=⟨_,rfl⟩
  have C:(⟨(numD a).toArray⟩:ByteArray)=⟨#[2]⟩++x++s:=by rw[←d,←b,app_tx [2],app_tx,numD_great ha hg];rfl
  have I:∀v g,blk v g =#[.int .u8 73,.int .u8 0]→(cvT (.slice (some ⟨g,0,none⟩) 2 2)).run prog v=.ok (.string x) v:=fun v g h=>b▸cvT_blk [73,0] v g (by rw[h];rfl)
  have R:1+x.size≤9223372036854775807:=by rw[←b,sz_tx];simp
  have S:1+x.size+s.size≤9223372036854775807:=by rw[←b,←d,sz_tx,sz_tx,bs_length];simp
  rw[C];obtain⟨B,D⟩:=exl (bl a);obtain⟨X,G⟩:=exl (dl a);rw[D]at i o;rw[G]at i A ⊢
  have J:(B:Int)/8=q:=by omega
  have K:(0:Int)≤B:=by omega
  have U:(B:Int).tdiv 8=(q:Int):=by rw[Int.tdiv_eq_ediv_of_nonneg K];exact J
  have V:(72:Int)<q+1:=by omega
  have W:(q:Int)≤72:=by omega
  clear C d b hp ha L H D G hg P o j
  go_enter func25,ntmps25
  go_wp2_with (first|(go_at_call 21;refine(i.out).mono ?_;rintro e l ⟨rfl,rfl⟩)|(go_at_call 35;refine(A.out).mono ?_;rintro e l ⟨rfl,⟨g,rfl⟩⟩))
  go_ret
  exact⟨rfl,grA⟩
 ·obtain⟨k,f⟩:=exl (kD a);obtain⟨s,d⟩:∃s:ByteArray,⟨(bs k a).toArray⟩=s:=⟨_,rfl⟩;have A:Hid (Cg 35 #[.slice p (dl a) m,.int .i64 k] w (.tuple #[.string s,.bool true])):=d▸rbytes_any a m k p w hp j (by omega) (f▸bl_kD a);obtain⟨x,b⟩:∃x:ByteArray,⟨[UInt8.ofNat k].toArray⟩=x:=⟨_,rfl⟩
  have C:(⟨(numD a).toArray⟩:ByteArray)=⟨#[2]⟩++x++s:=by rw[←d,←b,app_tx [2],app_tx,numD,f];rfl
  have Q:(UInt8.ofNat k).toNat=k:=of_sz (by omega);have I:∀v g,blk v g =#[.int .u8 k]→(cvT (.slice (some ⟨g,0,none⟩) 1 1)).run prog v=.ok (.string x) v:=fun v g h=>b▸cvT_blk [UInt8.ofNat k] v g (by rw[h];simp[Q])
  have R:1+x.size≤9223372036854775807:=by rw[←b,sz_tx];simp
  have S:1+x.size+s.size≤9223372036854775807:=by rw[←b,←d,sz_tx,sz_tx,bs_length];simp;omega
  rw[C];obtain⟨B,D⟩:=exl (bl a);obtain⟨X,G⟩:=exl (dl a);rw[D]at i o;rw[G]at i A ⊢
  have J:(B:Int)/8=q:=by omega
  have K:(0:Int)≤B:=by omega
  have U:(B:Int).tdiv 8=(q:Int):=by rw[Int.tdiv_eq_ediv_of_nonneg K];exact J
  have Y:(q:Int)+1=k:=by omega
  have Z:(0:Int)≤k:=by omega
  have V:(k:Int)≤72:=by omega
  clear C d b hp ha L H D G hg P o j f Q
  go_enter func25,ntmps25
  go_wp2_with (first|(go_at_call 21;refine(i.out).mono ?_;rintro e l ⟨rfl,rfl⟩)|(go_at_call 35;refine(A.out).mono ?_;rintro e l ⟨rfl,⟨g,rfl⟩⟩))
  go_ret
  exact⟨rfl,grA⟩
theorem rder_any{r s m n:Nat}{p q:Option Addr}{w:World}(hp:Sl w p r)(hq:Sl w q s)(hr:r<M)(hs:s<M):
 Cg 12 #[.slice p (dl r) m,.slice q (dl s) n] w (.string ⟨(derD r s).toArray⟩):=by
 have R:=kD_le hr;have S:=kD_le hs;have U:=bodD_length r s;obtain⟨J,l⟩:∃f:Nat→ByteArray,(fun x=>⟨(numD x).toArray⟩)=f:=⟨_,rfl⟩;obtain⟨K,o⟩:∃t:ByteArray,J r=t:=⟨_,rfl⟩;obtain⟨L,A⟩:∃t:ByteArray,J s=t:=⟨_,rfl⟩
 have d:(⟨(numD r).toArray⟩:ByteArray)=K:=by rw[←o,←l]
 have i:(⟨(numD s).toArray⟩:ByteArray)=L:=by rw[←A,←l]
 have H:Hid (∀v p x m,Sl v p x→x<M→Cg 25 #[.slice p (dl x) m] v (.string (J x))):=fun v p x m h W=>by
  rw[←l];exact rnumD_any h W
 have V:K.size+L.size≤9223372036854775807:=by rw[←d,←i,sz_tx,sz_tx,numD_length,numD_length];omega
 obtain⟨B,P⟩:∃t:ByteArray,K++L=t:=⟨_,rfl⟩
 have b:(⟨(bodD r s).toArray⟩:ByteArray)=B:=by rw[←P,←d,←i,app_tx];rfl
 have C:B.size=(bodD r s).length:=by rw[←b,sz_tx]
 obtain⟨z,I⟩:=exl ((UInt8.ofNat (bodD r s).length).toNat);obtain⟨x,j⟩:∃x:ByteArray,⟨[UInt8.ofNat (bodD r s).length].toArray⟩=x:=⟨_,rfl⟩
 have hw:IntKind.u8.wrap (B.size:Int)=(z:Int):=by rw[IntKind.wrap_u8,C,←I,UInt8.toNat_ofNat'];omega
 have X:∀v g,blk v g =#[.int .u8 z]→(cvT (.slice (some ⟨g,0,none⟩) 1 1)).run prog v=.ok (.string x) v:=fun v g h=>j▸cvT_blk [UInt8.ofNat (bodD r s).length] v g (by rw[h];simp[I]);have G:=Gr.refl w
 by_cases hc:(bodD r s).length<128
 ·have D:(⟨(derD r s).toArray⟩:ByteArray)=⟨#[48]⟩++x++B:=by rw[←b,←j,app_tx [48],app_tx,derD,if_pos hc];rfl
  have Y:1+x.size≤9223372036854775807:=by rw[←j,sz_tx];simp
  have Z:1+x.size+B.size≤9223372036854775807:=by rw[←j,C,sz_tx];simp;omega
  have Q:(B.size:Int)<128:=by omega
  rw[D];clear D j I C b d i U R S hc l
  go_enter func12,ntmps12
  go_upto_region 2 with (go_at_call 25;refine(H.out _ _ _ _ ?_ ?_).mono ?_;(first|exact hp.gr G|exact hq.gr G);assumption;rintro e w1 ⟨rfl,g⟩;replace G:=G.trans g;clear g;(first|rw[o] | rw[A]))
  clear H V hp hq hr hs o A;clear P
  go_wp2_with fail
  go_ret
  exact⟨rfl,by repeat (first|exact G|apply Gr.drewN|apply Gr.drew|apply Gr.alloc|apply Gr.gro)⟩
 ·have D:(⟨(derD r s).toArray⟩:ByteArray)=⟨#[48,129]⟩++x++B:=by rw[←b,←j,app_tx [48,129],app_tx,derD,if_neg hc];rfl
  have Y:2+x.size≤9223372036854775807:=by rw[←j,sz_tx];simp
  have Z:2+x.size+B.size≤9223372036854775807:=by rw[←j,C,sz_tx];simp;omega
  have Q:¬(B.size:Int)<128:=by omega
  rw[D];clear D j I C b d i U R S hc l
  go_enter func12,ntmps12
  go_upto_region 2 with (go_at_call 25;refine(H.out _ _ _ _ ?_ ?_).mono ?_;(first|exact hp.gr G|exact hq.gr G);assumption;rintro e w1 ⟨rfl,g⟩;replace G:=G.trans g;clear g;(first|rw[o] | rw[A]))
  clear H V hp hq hr hs o A;clear P
  go_wp2_with fail
  go_ret
  exact⟨rfl,by repeat (first|exact G|apply Gr.drewN|apply Gr.drew|apply Gr.alloc|apply Gr.gro)⟩
end
section
attribute [local go_sem] uz4
attribute [local go_sem ↓] uz7 Go.wp_at_zero Go.wp_at_succ
attribute [local go_sem] loadSg storeSg zvSg sgA_size buildSg0 buildSg1 buildSg2 frz_setBlk blk_setBlk setBlk_setBlk blk_other
def atR(l:List UInt8):Nat:=if 1<l.length∧(l.getD 1 0).toNat=129 then 3 else 2
theorem tk_num{r:Nat}(hr:r<M)(p m:List UInt8):TkY (p++(numD r++m)) p.length r (p.length+2+kD r):=by
 have d:=kD_le hr;have f:=kD_pos r;obtain⟨b,h,j,l⟩:=numD_read hr m
 have g:∀i,(p++(numD r++m)).getD (p.length+i) 0=(numD r++m).getD i 0:=fun i=>by
  rw[List.getD_eq_getElem?_getD,List.getD_eq_getElem?_getD,List.getElem?_append_right (by omega),Nat.add_sub_cancel_left]
 refine⟨kD r,?_,?_,?_,f,d,?_,rfl⟩
 ·rw[List.length_append,List.length_append,numD_length];omega
 ·have:=g 0;rw[Nat.add_zero]at this;rw[this,b]
  rfl
 ·rw[g 1,b];exact h
 ·rw[List.drop_append,List.drop_of_length_le (by omega),Nat.add_sub_cancel_left,List.nil_append,b]
  show r=bn ((bs (kD r) r++m).take (kD r))
  rw[j,bn_kD]
theorem isD_tk{l:List UInt8}{r s:Nat}(h:isD l r s):∃j k,TkY l (atR l) r j∧TkY l j s k:=by
 obtain⟨b,d,rfl⟩:=h;have q:=bodD_length r s;have v:=kD_le b;have w:=kD_le d
 have e:∃p,derD r s=p++bodD r s∧atR (derD r s)=p.length:=by
  unfold derD atR
  split
  ·rename_i h
   refine⟨[48,UInt8.ofNat (bodD r s).length],rfl,?_⟩
   rw[if_neg]
   ·rfl
   ·rintro⟨_,i⟩;rw[List.getD_cons_succ,List.getD_cons_zero,of_sz (by omega)]at i
    omega
  ·refine⟨[48,129,UInt8.ofNat (bodD r s).length],rfl,?_⟩;rw[if_pos ⟨by simp,rfl⟩]
   rfl
 obtain⟨p,e,m⟩:=e;rw[m,e];have o:=tk_num b p (numD s);have f:=tk_num d (p++numD r) [];rw[List.append_nil,List.append_assoc,List.length_append,numD_length]at f;exact⟨_,_,o,by rw[bodD,show p.length+2+kD r=p.length+(2+kD r) by omega];exact f⟩
theorem TkY.sz{l:List UInt8}{i x j:Nat}(h:TkY l i x j):dl x≤50000:=by
 obtain⟨k,d,_,_,_,f,rfl,_⟩:=h;have b:∀n,k≤4*n→dl (bn ((l.drop (i+2)).take k))≤n:=fun n m=>(dl_le _ n).2 (Nat.lt_of_lt_of_le (bn_bd k _ (by rw[List.length_take,List.length_drop];omega)) (Nat.pow_le_pow_right (by decide) (by omega)));have:=b 20 (by omega)
 omega
theorem TkY.to{l:List UInt8}{i x j:Nat}(h:TkY l i x j)(hi:i≤3):j≤1000:=by
 obtain⟨k,_,_,_,_,b,_,rfl⟩:=h
 omega
theorem undo_or{l:List UInt8}{r s:Nat}{e:Int}(h:getA l=(r,s,e)):
 (¬(∃x j,TkY l (atR l) x j)∧r=0∧s=0∧e=2200) ∨
 ∃x j,TkY l (atR l) x j∧(¬(∃y k,TkY l j y k)∧r=0∧s=0∧e=2200 ∨
  ∃y k,TkY l j y k∧(576<bl x∧r=0∧s=0∧e=2200∨bl x≤576∧(576<bl y∧r=0∧s=0∧e=2200∨bl y≤576∧(derD x y≠l∧r=0∧s=0∧e=2200∨derD x y=l∧r=x∧s=y∧e=0)))):=by
 have d:∀{x},bl x≤576→x<M:=fun {x} h=>(bl_le_pw x 9).1 h
 rcases getA_cases l with ⟨a,b,hd,ha⟩|⟨hn,ha⟩
 ·rw[ha]at h;simp only[Prod.mk.injEq]at h;obtain⟨rfl,rfl,rfl⟩:=h;obtain⟨j,k,f,i⟩:=isD_tk hd;exact Or.inr ⟨a,j,f,Or.inr ⟨b,k,i,Or.inr ⟨lt_M_of_bl _ hd.1,Or.inr ⟨lt_M_of_bl _ hd.2.1,Or.inr ⟨hd.2.2.symm,rfl,rfl,rfl⟩⟩⟩⟩⟩
 ·rw[ha]at h;simp only[Prod.mk.injEq]at h;obtain⟨rfl,rfl,rfl⟩:=h
  by_cases c1:∃x j,TkY l (atR l) x j
  ·obtain⟨x,j,f⟩:=c1;refine Or.inr ⟨x,j,f,?_⟩
   by_cases c2:∃y k,TkY l j y k
   ·obtain⟨y,k,i⟩:=c2;refine Or.inr ⟨y,k,i,?_⟩
    by_cases c3:576<bl x
    ·exact Or.inl ⟨c3,rfl,rfl,rfl⟩
    ·refine Or.inr ⟨by omega,?_⟩
     by_cases c4:576<bl y
     ·exact Or.inl ⟨c4,rfl,rfl,rfl⟩
     ·exact Or.inr ⟨by omega,Or.inl ⟨fun e=>hn x y ⟨d (by omega),d (by omega),e.symm⟩,rfl,rfl,rfl⟩⟩
   ·exact Or.inl ⟨c2,rfl,rfl,rfl⟩
  ·exact Or.inl ⟨c1,rfl,rfl,rfl⟩
end
section
attribute [local go_sem] uz4
attribute [local go_sem ↓] uz7 Go.wp_at_zero Go.wp_at_succ
attribute [local go_sem] loadSg storeSg zvSg sgA_size buildSg0 buildSg1 buildSg2 frz_setBlk blk_setBlk setBlk_setBlk blk_other
theorem rundo_any{l:List UInt8}{r s:Nat}{e:Int}(h:getA l=(r,s,e))(w:World):
 Calls prog 10 #[.string ⟨l.toArray⟩] w fun x w'=>x=.returned (.tuple #[.agg (sgA r s),.int .i64 e])∧Gr w w':=by
 have C:=undo_or h
 have S:atR l≤3:=by unfold atR;split <;> omega
 obtain⟨I,J⟩:∃I:Int,((atR l:Nat):Int)=I:=⟨_,rfl⟩;obtain⟨t,d⟩:∃t:ByteArray,⟨l.toArray⟩=t:=⟨_,rfl⟩;have U:=sz_tx l;rw[d]at U
 have W:(¬(1:Int)<(t.size:Int)∧I=2)∨((1:Int)<(t.size:Int)∧∃b:Nat,(∀w,(Instr.index 9 (.string t) (.int .i64 1)).run prog w=.ok (.int .u8 b) w)∧(((b:Int)==129)=true∧I=3∨((b:Int)==129)=false∧I=2)):=by
  by_cases h1:1<l.length
  ·refine Or.inr ⟨by omega,_,fun w=>d▸ixTn l 1 h1 w,?_⟩
   by_cases h2:(l.getD 1 0).toNat=129
   ·refine Or.inl ⟨by rw[h2];rfl,?_⟩;rw[←J,atR,if_pos ⟨h1,h2⟩]
    rfl
   ·refine Or.inr ⟨by rw[beq_eq_false_iff_ne];omega,?_⟩;rw[←J,atR,if_neg (fun k=>h2 k.2)]
    rfl
  ·refine Or.inl ⟨by omega,?_⟩;rw[←J,atR,if_neg (fun k=>h1 k.1)]
   rfl
 have X:Hid (∀v p x n,Sl v p x→Cg 22 #[.slice p (dl x) n] v (.agg (nw 9 x))):=fun v p x n h=>rnat_any x n p v h;have Y:Hid (∀v p x n,Sl v p x→dl x≤50000→Calls prog 21 #[.slice p (dl x) n] v fun e w'=>e=.returned (.int .i64 (bl x:Int))∧w'=v):=fun v p x n h hx=>rbits_any x n p v h hx
 rcases C with ⟨t1,rfl,rfl,rfl⟩|⟨x,j,t1,C⟩
 ·have P:Hid (∀v,Calls prog 20 #[.string t,.int .i64 I] v fun e w'=>e=.returned (.tuple #[.slice none 0 0,.int .i64 0,.bool false])∧w'=v):=fun v=>by
   have:=rtake_no (l:=l) (i:=atR l) (by omega) ((tk_or l (atR l)).resolve_left t1) v;rw[d,J]at this;exact this
  rw[d];clear d J S U h t1 X Y
  rcases W with ⟨c1,rfl⟩|⟨c1,b,hix,⟨c2,rfl⟩|⟨c2,rfl⟩⟩
  all_goals
   go_enter func10,ntmps10
   go_wp2_with (go_at_call 20;refine(P.out _).mono ?_;rintro e w' ⟨rfl,rfl⟩)
   exact bodyPost_ret (res_two results10 (rd_sg (by rfl) (by simp[go_sem])) (by rfl)) rfl ⟨rfl,by repeat (first|exact Gr.refl _|apply Gr.drewN|apply Gr.drew|apply Gr.alloc|apply Gr.gro|(refine gr_setNew ?_ (by omega)))⟩
 ·have Z:=t1.sz;have V:=t1.to S
  have P:Hid (∀v,Calls prog 20 #[.string t,.int .i64 I] v fun e w'=>∃p n,e=.returned (.tuple #[.slice p (dl x) n,.int .i64 j,.bool true])∧Sl w' p x∧Gr v w'):=fun v=>by
   have:=rtake_yes (by omega) t1 v;rw[d,J]at this;exact this
  rcases C with ⟨t2,rfl,rfl,rfl⟩|⟨y,k,t2,C⟩
  ·have D:Hid (∀v,Calls prog 20 #[.string t,.int .i64 j] v fun e w'=>e=.returned (.tuple #[.slice none 0 0,.int .i64 0,.bool false])∧w'=v):=fun v=>by
    have:=rtake_no (l:=l) (i:=j) V ((tk_or l j).resolve_left t2) v;rw[d]at this;exact this
   rw[d];clear d J S U h t1 t2 X Y Z V
   rcases W with ⟨c1,rfl⟩|⟨c1,b,hix,⟨c2,rfl⟩|⟨c2,rfl⟩⟩
   all_goals
    go_enter func10,ntmps10
    go_upto_region 4 with fail
    refine gen_w (fun v=>Gr w v∧Vr v w.heap.size (sgA 0 0)) ⟨grA,vrA⟩ ?_;rintro v0 ⟨G,c⟩
    go_upto_region 7 with (go_at_call 20;refine(P.out _).mono ?_;rintro e w1 ⟨p,n,rfl,B,g⟩;replace c:=c.gr g;replace G:=G.trans g;clear g)
    have H:=c.h;have Q:=c.f;have R:=c.p;have A:=congrArg Array.size H;rw[sgA_size]at A
    go_wp2_with (go_at_call 20;refine(D.out _).mono ?_;rintro e w' ⟨rfl,rfl⟩)
    exact bodyPost_ret (res_two results10 (rd_sg (by rfl) (blk_setBlk _ _ _ (by rw[A];decide))) (by rfl)) rfl ⟨rfl,gr_setNew G (by omega)⟩
  ·have d2:=t2.sz
   have D:Hid (∀v,Calls prog 20 #[.string t,.int .i64 j] v fun e w'=>∃p n,e=.returned (.tuple #[.slice p (dl y) n,.int .i64 k,.bool true])∧Sl w' p y∧Gr v w'):=fun v=>by
    have:=rtake_yes V t2 v;rw[d]at this;exact this
   have L:bl x≤576→bl y≤576→∀o:ByteArray,⟨(derD x y).toArray⟩=o→Hid (∀v p q m n,Sl v p x→Sl v q y→Cg 12 #[.slice p (dl x) m,.slice q (dl y) n] v (.string o)):=fun h1 h2 o C v p q m n hp hq=>C▸rder_any hp hq ((bl_le_pw x 9).1 h1) ((bl_le_pw y 9).1 h2)
   have C:(((576:Int)<(bl x:Int)∨¬(576:Int)<(bl x:Int)∧((576:Int)<(bl y:Int)∨¬(576:Int)<(bl y:Int)∧∃o:ByteArray,(o.toList==t.toList)=false∧Hid (∀v p q m n,Sl v p x→Sl v q y→Cg 12 #[.slice p (dl x) m,.slice q (dl y) n] v (.string o))))∧r=0∧s=0∧e=2200) ∨
    (¬(576:Int)<(bl x:Int)∧¬(576:Int)<(bl y:Int)∧Hid (∀v p q m n,Sl v p x→Sl v q y→Cg 12 #[.slice p (dl x) m,.slice q (dl y) n] v (.string t)))∧r=x∧s=y∧e=0:=by
    rcases C with ⟨k1,h3⟩|⟨k1,⟨k2,h3⟩|⟨k2,⟨k3,h3⟩|⟨k3,h3⟩⟩⟩
    ·exact Or.inl ⟨Or.inl (by omega),h3⟩
    ·exact Or.inl ⟨Or.inr ⟨by omega,Or.inl (by omega)⟩,h3⟩
    ·refine Or.inl ⟨Or.inr ⟨by omega,Or.inr ⟨by omega,_,?_,L k1 k2 _ rfl⟩⟩,h3⟩;rw[beq_eq_false_iff_ne,←d,Lib.toList_data,Lib.toList_data];exact k3
    ·exact Or.inr ⟨⟨by omega,by omega,L k1 k2 _ (by rw[k3,d])⟩,h3⟩
   rw[d];clear d J S U h t1 t2 V L
   rcases C with ⟨k1|⟨k1,k2|⟨k2,o,k3,L⟩⟩,rfl,rfl,rfl⟩|⟨⟨k1,k2,L⟩,rfl,rfl,rfl⟩
   all_goals
    rcases W with ⟨c1,rfl⟩|⟨c1,b,hix,⟨c2,rfl⟩|⟨c2,rfl⟩⟩
   all_goals
    go_enter func10,ntmps10
    go_upto_region 4 with fail
    refine gen_w (fun v=>Gr w v∧Vr v w.heap.size (sgA 0 0)) ⟨grA,vrA⟩ ?_;rintro v0 ⟨G,c⟩
    go_upto_region 7 with (go_at_call 20;refine(P.out _).mono ?_;rintro e w1 ⟨p,n,rfl,B,g⟩;replace c:=c.gr g;replace G:=G.trans g;clear g)
    go_upto_region 8 with (go_at_call 20;refine(D.out _).mono ?_;rintro e w2 ⟨q,m,rfl,K,g⟩;replace B:=B.gr g;replace c:=c.gr g;replace G:=G.trans g;clear g)
    clear P D;have H:=c.h;have Q:=c.f;have R:=c.p;have A:=congrArg Array.size H;rw[sgA_size]at A
    go_wp2_with (first
     | (go_at_call 21;refine(Y.out _ _ _ _ ?_ ?_).mono ?_;(first|exact B|exact K);(first|exact Z|exact d2);rintro e w' ⟨rfl,rfl⟩)
     | (go_at_call 12;refine(L.out _ _ _ _ _ B K).mono ?_;rintro e w3 ⟨rfl,g⟩;replace B:=B.gr g;replace K:=K.gr g;replace c:=c.gr g;replace G:=G.trans g;clear H Q R A g;have H:=c.h;have Q:=c.f;have R:=c.p;have A:=congrArg Array.size H;rw[sgA_size]at A)
     | (go_at_call 22;refine(X.out _ _ _ _ ?_).mono ?_;(first|exact B|exact K);rintro e w4 ⟨rfl,g⟩;replace B:=B.gr g;replace K:=K.gr g;replace c:=c.gr g;replace G:=G.trans g;clear H Q R A g;have H:=c.h;have Q:=c.f;have R:=c.p;have A:=congrArg Array.size H;rw[sgA_size]at A))
    exact bodyPost_ret (res_two results10 (rd_sg (by rfl) (blk_setBlk _ _ _ (by rw[A];decide))) (by rfl)) rfl ⟨rfl,gr_setNew G (by omega)⟩
end
end
end Go.Proofs.Ytdomjicpdbblnaa