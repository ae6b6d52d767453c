import Derived.Test.YtdomjicpdbblnaaXAZL
import Derived.Test.YtdomjicpdbblnaaXAZV
import Derived.Test.YtdomjicpdbblnaaXAZF
import Derived.Test.YtdomjicpdbblnaaXAByt
import Derived.Test.YtdomjicpdbblnaaXAQt
namespace Go.Proofs.Ytdomjicpdbblnaa
open Go.RowKit Go.Proofs.Try
set_option maxRecDepth 100000
set_option maxHeartbeats 8000000
section
attribute [local go_sem ↓] uz1
attribute [local go_sem] uz2
section
attribute [local go_sem] uz4
attribute [local go_sem ↓] loadSg_is storeSg_is zvSg_is buildSg_is bsB_is cvT_is Go.wp_at_zero Go.wp_at_succ
attribute [local go_sem] loadSg storeSg zvSg sgA_size buildSg0 buildSg1 buildSg2 loadSR loadSS sgA_R sgA_S storeSR storeSS sgA_setR sgA_setS bsB1 bsB2 bsB3 frz_setBlk blk_setBlk setBlk_setBlk blk_other
theorem digits_none{a:Nat}(ha:a<M)(h0:kB a=0)(w:World):Cg 24 #[.agg (nw 9 a)] w (.string ⟨(bs (kD a) a).toArray⟩):=by
 have i:bl a≤64*9:=bl_pwk a 9 ha
 have j:kB a≤72∧bl a≤8*kB a:=by unfold kB;omega
 obtain⟨t,d⟩:∃t:ByteArray,⟨(bs (kB a) a).toArray⟩=t:=⟨_,rfl⟩
 have o:(⟨(bs (kD a) a).toArray⟩:ByteArray)=⟨#[0]⟩++t:=by rw[dg_none h0,←d,h0];rfl
 rw[o];obtain⟨k,l⟩:=exl (kB a);obtain⟨b,m⟩:=exl (bl a);have p:Hid (∀w,Cg 16 #[.agg (nw 9 a)] w (.int .i64 b)):=fun w=>m▸bits_any a ha w
 have q:Hid (∀w,Cg 34 #[.agg (nw 9 a),.int .i64 k] w (.tuple #[.string t,.int .i64 0])):=fun w=>by have:=bytes_any a (kB a) ha j.1 j.2 w;rw[d,l]at this;exact this
 have J:1+t.size≤9223372036854775807:=by rw[←d,sz_tx,bs_length];omega
 have x:t.toList.isEmpty=true:=by rw[←d,h0,Lib.toList_data];rfl
 have A:IntKind.i64.wrap ((b:Int)+7)=(b:Int)+7:=by rw[IntKind.wrap_i64];omega
 have B:((b:Int)+7).tdiv 8=(k:Int):=by rw[Int.tdiv_eq_ediv_of_nonneg (by omega),←l,←m];unfold kB;omega
 have C:IntKind.i64.wrap (k:Int)=k:=wiA;clear o d l m j i ha h0
 go_enter func24,ntmps24
 go_upto_region 1 with fail
 refine gen_w (fun v=>Gr w v∧Vr v (w.heap.size) (nw 9 a)) ⟨grA,vrA⟩ ?_;rintro K ⟨G,h⟩;refine wp_w [.N a,.N a,.c (.int .i64 b),.c (.int .i64 ((b:Int)+7)),.c (.int .i64 k),.E (.string t),.E (.string t),.c (.string t),.O,.c (.string t),.O] [0,1,2,3,4,5] ⟨.g 25 0 h rfl,.g 25 0 h rfl,.z p.out,.s (.binOp .add 3 (.const (.int .i64 b)) (.const (.int .i64 7)) 3) rfl fun D f=>by simp[go_sem,exI,A],.s (.binOp .quo 3 (.const (.int .i64 ((b:Int)+7))) (.const (.int .i64 8)) 3) rfl fun D f=>by simp[go_sem,exI,B,C],.z q.out,⟨⟩⟩ fun H L f I=>?_;simp only[fzw];clear I;replace G:=G.trans f;replace h:=h.gr f;clear f
 go_wp2_with fail
 go_ret
 exact⟨rfl,G⟩
theorem digits_more{a:Nat}(ha:a<M){n:Nat}(h0:kB a=n+1)(h1:128≤byt a n)(w:World):Cg 24 #[.agg (nw 9 a)] w (.string ⟨(bs (kD a) a).toArray⟩):=by
 have i:bl a≤64*9:=bl_pwk a 9 ha
 have j:kB a≤72∧bl a≤8*kB a:=by unfold kB;omega
 obtain⟨t,d⟩:∃t:ByteArray,⟨(bs (kB a) a).toArray⟩=t:=⟨_,rfl⟩
 have p:(⟨(bs (kD a) a).toArray⟩:ByteArray)=⟨#[0]⟩++t:=by rw[dg_head h0,if_pos h1,←d];exact(app_tx [0] (bs (kB a) a)).symm
 rw[p];obtain⟨k,l⟩:=exl (kB a);obtain⟨b,m⟩:=exl (bl a);have x:Hid (∀w,Cg 16 #[.agg (nw 9 a)] w (.int .i64 b)):=fun w=>m▸bits_any a ha w
 have A:Hid (∀w,Cg 34 #[.agg (nw 9 a),.int .i64 k] w (.tuple #[.string t,.int .i64 0])):=fun w=>by have:=bytes_any a (kB a) ha j.1 j.2 w;rw[d,l]at this;exact this
 have L:1+t.size≤9223372036854775807:=by rw[←d,sz_tx,bs_length];omega
 have B:=byt_lt a n
 have o:∀w,(Instr.index 9 (.string t) (.int .i64 0)).run prog w=.ok (.int .u8 (byt a n:Int)) w:=fun w=>by
  have:=ixT (UInt8.ofNat (byt a n)) (bs n a) w;rw[of_sz (byt_lt a n),←bs_cons,←h0,d]at this;exact this
 have C:t.toList.isEmpty=false:=by rw[←d,h0,bs_cons,Lib.toList_data];rfl
 obtain⟨c,q⟩:=exl (byt a n);rw[q]at o h1
 have P:(128:Int)≤c:=by omega
 have D:IntKind.i64.wrap ((b:Int)+7)=(b:Int)+7:=by rw[IntKind.wrap_i64];omega
 have H:((b:Int)+7).tdiv 8=(k:Int):=by rw[Int.tdiv_eq_ediv_of_nonneg (by omega),←l,←m];unfold kB;omega
 have I:IntKind.i64.wrap (k:Int)=k:=wiA;clear p d l m j i ha h0 h1 q B
 go_enter func24,ntmps24
 go_upto_region 1 with fail
 refine gen_w (fun v=>Gr w v∧Vr v (w.heap.size) (nw 9 a)) ⟨grA,vrA⟩ ?_;rintro Q ⟨G,h⟩;refine wp_w [.N a,.N a,.c (.int .i64 b),.c (.int .i64 ((b:Int)+7)),.c (.int .i64 k),.E (.string t),.E (.string t),.c (.string t),.O,.c (.string t),.O] [0,1,2,3,4,5] ⟨.g 25 0 h rfl,.g 25 0 h rfl,.z x.out,.s (.binOp .add 3 (.const (.int .i64 b)) (.const (.int .i64 7)) 3) rfl fun J f=>by simp[go_sem,exI,D],.s (.binOp .quo 3 (.const (.int .i64 ((b:Int)+7))) (.const (.int .i64 8)) 3) rfl fun J f=>by simp[go_sem,exI,H,I],.z A.out,⟨⟩⟩ fun K R f h1=>?_;simp only[fzw];clear h1;replace G:=G.trans f;replace h:=h.gr f;clear f
 go_wp2_with fail
 go_ret
 exact⟨rfl,G⟩
theorem digits_less{a:Nat}(ha:a<M){n:Nat}(h0:kB a=n+1)(h1:¬128≤byt a n)(w:World):Cg 24 #[.agg (nw 9 a)] w (.string ⟨(bs (kD a) a).toArray⟩):=by
 have i:bl a≤64*9:=bl_pwk a 9 ha
 have j:kB a≤72∧bl a≤8*kB a:=by unfold kB;omega
 obtain⟨t,d⟩:∃t:ByteArray,⟨(bs (kB a) a).toArray⟩=t:=⟨_,rfl⟩
 have p:(⟨(bs (kD a) a).toArray⟩:ByteArray)=t:=by rw[dg_head h0,if_neg h1,←d]
 rw[p];obtain⟨k,l⟩:=exl (kB a);obtain⟨b,m⟩:=exl (bl a);have x:Hid (∀w,Cg 16 #[.agg (nw 9 a)] w (.int .i64 b)):=fun w=>m▸bits_any a ha w
 have A:Hid (∀w,Cg 34 #[.agg (nw 9 a),.int .i64 k] w (.tuple #[.string t,.int .i64 0])):=fun w=>by have:=bytes_any a (kB a) ha j.1 j.2 w;rw[d,l]at this;exact this
 have B:=byt_lt a n
 have o:∀w,(Instr.index 9 (.string t) (.int .i64 0)).run prog w=.ok (.int .u8 (byt a n:Int)) w:=fun w=>by
  have:=ixT (UInt8.ofNat (byt a n)) (bs n a) w;rw[of_sz (byt_lt a n),←bs_cons,←h0,d]at this;exact this
 have C:t.toList.isEmpty=false:=by rw[←d,h0,bs_cons,Lib.toList_data];rfl
 obtain⟨c,q⟩:=exl (byt a n);rw[q]at o h1
 have L:¬(128:Int)≤c:=by omega
 have D:IntKind.i64.wrap ((b:Int)+7)=(b:Int)+7:=by rw[IntKind.wrap_i64];omega
 have H:((b:Int)+7).tdiv 8=(k:Int):=by rw[Int.tdiv_eq_ediv_of_nonneg (by omega),←l,←m];unfold kB;omega
 have I:IntKind.i64.wrap (k:Int)=k:=wiA;clear p d l m j i ha h0 h1 q B
 go_enter func24,ntmps24
 go_upto_region 1 with fail
 refine gen_w (fun v=>Gr w v∧Vr v (w.heap.size) (nw 9 a)) ⟨grA,vrA⟩ ?_;rintro P ⟨G,h⟩;refine wp_w [.N a,.N a,.c (.int .i64 b),.c (.int .i64 ((b:Int)+7)),.c (.int .i64 k),.E (.string t),.E (.string t),.c (.string t),.O,.c (.string t),.O] [0,1,2,3,4,5] ⟨.g 25 0 h rfl,.g 25 0 h rfl,.z x.out,.s (.binOp .add 3 (.const (.int .i64 b)) (.const (.int .i64 7)) 3) rfl fun J f=>by simp[go_sem,exI,D],.s (.binOp .quo 3 (.const (.int .i64 ((b:Int)+7))) (.const (.int .i64 8)) 3) rfl fun J f=>by simp[go_sem,exI,H,I],.z A.out,⟨⟩⟩ fun K Q f h1=>?_;simp only[fzw];clear h1;replace G:=G.trans f;replace h:=h.gr f;clear f
 go_wp2_with fail
 go_ret
 exact⟨rfl,G⟩
theorem digits_any{a:Nat}(ha:a<M)(w:World):Cg 24 #[.agg (nw 9 a)] w (.string ⟨(bs (kD a) a).toArray⟩):=by
 cases h:kB a with
 | zero=>exact digits_none ha h w
 | succ n=>
  by_cases h1:128≤byt a n
  ·exact digits_more ha h h1 w
  ·exact digits_less ha h h1 w
abbrev uz5:=And.intro @loadSg_is<|And.intro @storeSg_is<|And.intro @zvSg_is<|And.intro @buildSg_is<|And.intro @bsB_is @cvT_is
abbrev uz6:=And.intro @loadSg<|And.intro @storeSg<|And.intro @zvSg<|And.intro @sgA_size<|And.intro @buildSg0<|And.intro @buildSg1<|And.intro @buildSg2<|And.intro @loadSR<|And.intro @loadSS<|And.intro @sgA_R<|And.intro @sgA_S<|And.intro @storeSR<|And.intro @storeSS<|And.intro @sgA_setR<|And.intro @sgA_setS<|And.intro @bsB1<|And.intro @bsB2<|And.intro @bsB3<|And.intro @frz_setBlk<|And.intro @blk_setBlk<|And.intro @setBlk_setBlk @blk_other
end
section
attribute [local go_sem] uz4
attribute [local go_sem ↓] loadSg_is storeSg_is zvSg_is buildSg_is bsB_is cvT_is Go.wp_at_zero Go.wp_at_succ
attribute [local go_sem] loadSg storeSg zvSg sgA_size buildSg0 buildSg1 buildSg2 loadSR loadSS sgA_R sgA_S storeSR storeSS sgA_setR sgA_setS bsB1 bsB2 bsB3 frz_setBlk blk_setBlk setBlk_setBlk blk_other
theorem fld_short{k:UInt8}{n:Nat}(hk:k.toNat=n){l:List UInt8}(hl:l.length≤100000)(hs:l.length<128)(w:World):Cg 23 #[.int .u8 n,.string ⟨(l).toArray⟩] w (.string ⟨(fldP k l).toArray⟩):=by
 obtain⟨s,f⟩:∃t:ByteArray,⟨(l).toArray⟩=t:=⟨_,rfl⟩;obtain⟨a,b⟩:∃t:ByteArray,⟨([k,UInt8.ofNat l.length]).toArray⟩=t:=⟨_,rfl⟩
 have j:(⟨(fldP k l).toArray⟩:ByteArray)=a++s:=by rw[←b,←f,app_tx,fldP,if_pos hs];rfl
 have d:=sz_tx l;rw[f]at d ⊢;rw[j];obtain⟨z,i⟩:=exl ((UInt8.ofNat l.length).toNat)
 have p:IntKind.u8.wrap (s.size:Int)=(z:Int):=by rw[IntKind.wrap_u8,d,←i,UInt8.toNat_ofNat'];omega
 have m:¬(128:Int)≤(s.size:Int):=by omega
 have q:a.size+s.size≤9223372036854775807:=by rw[←b,sz_tx,d];simp;omega
 have o:∀v g,blk v g =#[.int .u8 n,.int .u8 z]→(cvT (.slice (some ⟨g,0,none⟩) 2 2)).run prog v=.ok (.string a) v:=fun v g h=>b▸cvT_blk [k,UInt8.ofNat l.length] v g (by rw[h];simp[hk,i]);clear j b f d i hl hs hk
 go_enter func23,ntmps23
 go_wp2_with fail
 go_ret
 exact⟨rfl,grA⟩
theorem fld_far{k:UInt8}{n:Nat}(hk:k.toNat=n){l:List UInt8}(hl:l.length≤100000)(hs:¬l.length<128)(w:World):Cg 23 #[.int .u8 n,.string ⟨(l).toArray⟩] w (.string ⟨(fldP k l).toArray⟩):=by
 obtain⟨s,f⟩:∃t:ByteArray,⟨(l).toArray⟩=t:=⟨_,rfl⟩;obtain⟨a,b⟩:∃t:ByteArray,⟨([k,129,UInt8.ofNat l.length]).toArray⟩=t:=⟨_,rfl⟩
 have j:(⟨(fldP k l).toArray⟩:ByteArray)=a++s:=by rw[←b,←f,app_tx,fldP,if_neg hs];rfl
 have d:=sz_tx l;rw[f]at d ⊢;rw[j];obtain⟨z,i⟩:=exl ((UInt8.ofNat l.length).toNat)
 have p:IntKind.u8.wrap (s.size:Int)=(z:Int):=by rw[IntKind.wrap_u8,d,←i,UInt8.toNat_ofNat'];omega
 have m:(128:Int)≤(s.size:Int):=by omega
 have q:a.size+s.size≤9223372036854775807:=by rw[←b,sz_tx,d];simp;omega
 have o:∀v g,blk v g =#[.int .u8 n,.int .u8 129,.int .u8 z]→(cvT (.slice (some ⟨g,0,none⟩) 3 3)).run prog v=.ok (.string a) v:=fun v g h=>b▸cvT_blk [k,129,UInt8.ofNat l.length] v g (by rw[h];simp[hk,i]);clear j b f d i hl hs hk
 go_enter func23,ntmps23
 go_wp2_with fail
 go_ret
 exact⟨rfl,grA⟩
theorem fld_of{k:UInt8}{n:Nat}(hk:k.toNat=n){l:List UInt8}(hl:l.length≤100000)(w:World):Cg 23 #[.int .u8 n,.string ⟨(l).toArray⟩] w (.string ⟨(fldP k l).toArray⟩):=by
 by_cases h:l.length<128
 ·exact fld_short hk hl h w
 ·exact fld_far hk hl h w
end
section
attribute [local go_sem] uz4
attribute [local go_sem ↓] uz5 Go.wp_at_zero Go.wp_at_succ
attribute [local go_sem] uz6
theorem dput_any{r s:Nat}(hr:r<M)(hs:s<M)(w:World):Cg 11 #[.agg (sgA r s)] w (.string ⟨(derD r s).toArray⟩):=by
 have K:=kD_le hr;have L:=kD_le hs;have p:=bodD_length r s;obtain⟨q,f⟩:∃t:ByteArray,⟨(bs (kD r) r).toArray⟩=t:=⟨_,rfl⟩;obtain⟨x,h⟩:∃t:ByteArray,⟨(bs (kD s) s).toArray⟩=t:=⟨_,rfl⟩;obtain⟨fr,b⟩:∃t:ByteArray,⟨(numD r).toArray⟩=t:=⟨_,rfl⟩;obtain⟨i,d⟩:∃t:ByteArray,⟨(numD s).toArray⟩=t:=⟨_,rfl⟩;obtain⟨o,A⟩:∃t:ByteArray,⟨(derD r s).toArray⟩=t:=⟨_,rfl⟩
 have J:(⟨(bodD r s).toArray⟩:ByteArray)=fr++i:=by rw[←b,←d,app_tx];rfl
 have B:Hid (∀w,Cg 24 #[.agg (nw 9 r)] w (.string q)):=fun w=>f▸digits_any hr w;have C:Hid (∀w,Cg 24 #[.agg (nw 9 s)] w (.string x)):=fun w=>h▸digits_any hs w
 have D:Hid (∀w,Cg 23 #[.int .u8 2,.string q] w (.string fr)):=fun w=>by have:=fld_of (k:=2) (n:=2) rfl (l:=bs (kD r) r) (by rw[bs_length];omega) w;rw[←numD_fld hr,f,b]at this;exact this
 have H:Hid (∀w,Cg 23 #[.int .u8 2,.string x] w (.string i)):=fun w=>by have:=fld_of (k:=2) (n:=2) rfl (l:=bs (kD s) s) (by rw[bs_length];omega) w;rw[←numD_fld hs,h,d]at this;exact this
 have I:Hid (∀w,Cg 23 #[.int .u8 48,.string (fr++i)] w (.string o)):=fun w=>by have:=fld_of (k:=48) (n:=48) rfl (l:=bodD r s) (by omega) w;rw[←derD_fld,J,A]at this;exact this
 have P:fr.size+i.size≤9223372036854775807:=by rw[←b,←d,sz_tx,sz_tx,numD_length,numD_length];omega
 rw[A];clear K L p f h b d A J hr hs
 go_enter func11,ntmps11
 go_upto_region 1 with fail
 refine gen_w (fun v=>Gr w v∧Vr v (w.heap.size) (sgA r s)) ⟨grA,vrA⟩ ?_;rintro S ⟨G,j⟩;refine wp_w [.c (pv (w.heap.size) 0),.N r,.c (.string q),.c (.string fr),.c (pv (w.heap.size) 9),.N s,.c (.string x),.c (.string i),.c (.string (fr++i)),.c (.string o),.c (.string o)] [1,2,3,5,6,7,8,9] ⟨.g 25 0 j rfl,.z B.out,.z D.out,.g 25 9 j rfl,.z C.out,.z H.out,.s (.binOp .add 9 (.const (.string fr)) (.const (.string i)) 9) rfl fun U m=>by simp[go_sem,exI,P],.z I.out,⟨⟩⟩ fun Q V m R=>?_;simp only[fzw];clear R;replace G:=G.trans m;replace j:=j.gr m;clear m
 go_wp2_with fail
 go_ret
 exact⟨rfl,G⟩
end
end
end Go.Proofs.Ytdomjicpdbblnaa