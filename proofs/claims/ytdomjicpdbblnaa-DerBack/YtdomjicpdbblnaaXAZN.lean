import Derived.Shelf.Strings.Prefix
import Derived.Test.YtdomjicpdbblnaaXAZL
import Derived.Test.YtdomjicpdbblnaaXAZB
import Derived.Test.YtdomjicpdbblnaaXAZV
import Derived.Test.YtdomjicpdbblnaaXAOf
namespace Go.Proofs.Ytdomjicpdbblnaa
open Go.RowKit Go.Proofs.Try
set_option maxRecDepth 100000
set_option maxHeartbeats 8000000
section
def tren:Go.Shelf.Ren:=⟨fun|101=>31|208=>36|206=>37|n=>n,fun|9=>9|3=>3|4=>4|n=>n,fun|n=>n⟩
theorem lays101:Go.Proofs.Lays.n101 prog tren:={
 mixed:=by kernel_rfl
 f101:=func31.trans (congrArg some (by kernel_rfl))
 f206:=func37.trans (congrArg some (by kernel_rfl))
 f208:=func36.trans (congrArg some (by kernel_rfl))
 t3:=underlying3
 a3:=Try.isAgg3
 z3:=Try.sizeOf3
 v3:=Try.zeroValue3
 t4:=underlying4
 a4:=Try.isAgg4
 z4:=Try.sizeOf4
 v4:=Try.zeroValue4
 t9:=underlying9
 a9:=Try.isAgg9
 z9:=Try.sizeOf9
 v9:=Try.zeroValue9 }
theorem trim0_any(l:List UInt8)(w:World):Calls prog 31 #[.string ⟨l.toArray⟩,.string ⟨#[0]⟩] w fun e w'=>e=.returned (.string ⟨(tzR l).toArray⟩)∧w'=w:=by
 have h:=Any.strings_TrimPrefix lays101 ⟨l.toArray⟩ ⟨#[0]⟩ w
 have e:Lib.trimPrefix l [0]=tzR l:=by
  cases l with
  | nil=>rfl
  | cons b r=>
   by_cases hb:b=0
   ·subst hb;simp[Lib.trimPrefix,Lib.hasPrefix,tzR]
   ·have d:¬0=b:=fun e=>hb e.symm;simp[Lib.trimPrefix,Lib.hasPrefix,tzR,hb,d]
 rw[←e];exact h
def Rd(w:World)(p:Nat)(l:List UInt8)(w':World):Prop:=Gr (setBlk w p #[.string ⟨l.toArray⟩]) w'
theorem Rd.more{w v u:World}{p:Nat}{l m:List UInt8}(hp:Pre (p+1) w.heap.size)(h:Rd w p l v)(k:Rd v p m u):Rd w p m u:=by
 obtain⟨g,rfl⟩:=h;refine Gr.trans ?_ k;rw[setBlk_gro _ _ _ _ (by rw[size_setBlk];exact hp),setBlk_setBlk];exact⟨g,rfl⟩
theorem Rd.vr{w v:World}{p:Nat}{l m:List UInt8}(hp:Vr w p #[.string ⟨l.toArray⟩])(h:Rd w p m v):Vr v p #[.string ⟨m.toArray⟩]:=(hp.set (Nat.lt_succ_self 0) _).gr h
theorem take_of(l:List UInt8)(n p:Nat)(w:World)(hp:Vr w p #[.string ⟨l.toArray⟩]):
 Calls prog 29 #[.pointer (some ⟨p,0,none⟩),.int .i64 n] w fun e w'=>e=.returned (.string ⟨(l.take n).toArray⟩)∧Rd w p (l.drop n) w':=by
 have o:∃m,m≤l.length∧min (n:Int) (l.length:Int)=(m:Int)∧l.take m=l.take n∧l.drop m=l.drop n:=by
  by_cases h:n≤l.length
  ·exact⟨n,h,by omega,rfl,rfl⟩
  ·refine⟨l.length,Nat.le_refl _,by omega,?_,?_⟩
   ·rw[List.take_length,List.take_of_length_le (by omega)]
   ·rw[List.drop_length,List.drop_of_length_le (by omega)]
 obtain⟨m,i,o,x,A⟩:=o;rw[←x,←A];clear x A;obtain⟨s,d⟩:∃s:ByteArray,⟨l.toArray⟩=s:=⟨_,rfl⟩
 have I:w.cell? ⟨p,0,none⟩=some (.string s):=by rw[hp.cell,d];rfl
 have J:=frz_at w p 0 hp.f;have j:=sz_tx l;rw[d]at j;rw[←j]at o i;obtain⟨a,q⟩:∃a:ByteArray,⟨(l.take m).toArray⟩=a:=⟨_,rfl⟩;obtain⟨b,v⟩:∃b:ByteArray,⟨(l.drop m).toArray⟩=b:=⟨_,rfl⟩
 have B:s.extract 0 m=a:=by rw[←d,ex_tx,List.drop_zero,Nat.sub_zero,q]
 have C:s.extract m s.size=b:=by rw[j,←d,ex_tx,List.take_of_length_le (by rw[List.length_drop];omega),v]
 have G:=slT_lo s m i;have H:=slT_hi s m i;rw[B]at G;rw[C]at H
 have D:setBlk w p #[.string b]=w.setCell ⟨p,0,none⟩ (.string b):=by rw[setCell_setBlk,hp.h];rfl
 unfold Rd;rw[q,v,D];clear B C q v d j hp i D
 go_enter func29,ntmps29
 go_wp2
 go_ret
 exact⟨rfl,grA⟩
theorem next_of{l l1:List UInt8}{a:Nat}(h:nxR l=(a,l1)){p:Nat}{w:World}(hp:Vr w p #[.string ⟨l.toArray⟩]):
 Calls prog 28 #[.pointer (some ⟨p,0,none⟩)] w fun e w'=>e=.returned (.int .i64 a)∧Rd w p l1 w':=by
 have d:Hid (Calls prog 29 #[.pointer (some ⟨p,0,none⟩),.int .i64 1] w fun e w'=>e=.returned (.string ⟨(l.take 1).toArray⟩)∧Rd w p (l.drop 1) w'):=take_of l 1 p w hp
 cases l with
 | nil=>
  obtain⟨rfl,rfl⟩:0=a∧[]=l1:=by simpa [nxR]using h
  clear h;simp only[List.take_nil,List.drop_nil]at d
  go_enter func28,ntmps28
  go_wp2_with (go_at_call 29;refine(d.out).mono ?_;rintro e w' ⟨rfl,g⟩)
  go_ret
  exact⟨rfl,g⟩
 | cons b r=>
  obtain⟨rfl,rfl⟩:b.toNat=a∧r=l1:=by simpa [nxR]using h
  clear h;simp only[List.take_succ_cons,List.take_zero,List.drop_succ_cons,List.drop_zero]at d;have i:=ixT b [];have j:=b.toNat_lt
  have m:wrap64 (b.toNat:Int)=(b.toNat:Int):=by unfold wrap64;omega
  clear j;obtain⟨s,f⟩:∃s:ByteArray,⟨[b].toArray⟩=s:=⟨_,rfl⟩
  have o:s.toList.isEmpty=false:=by rw[←f,Lib.toList_data];rfl
  rw[f]at i d;clear f
  go_enter func28,ntmps28
  go_wp2_with (go_at_call 29;refine(d.out).mono ?_;rintro e w' ⟨rfl,g⟩)
  go_ret
  exact⟨congrArg (fun z=>Ending.returned (.int .i64 z)) m,g⟩
def Fd(l:List UInt8)(l1 l2 l3:List UInt8)(a b c:Nat):Prop:=nxR l=(a,l1)∧nxR l1=(b,l2)∧(if b=129 then nxR l2=(c,l3) else c=b∧l3=l2)
theorem fdR_of{l l1 l2 l3:List UInt8}{a b c:Nat}(h:Fd l l1 l2 l3 a b c):fdR l=(l3.take c,l3.drop c):=by
 obtain⟨f,i,d⟩:=h;rw[fdR,szR,f];simp only;rw[i];simp only
 split at d
 ·rename_i e
  rw[if_pos e,d]
 ·rename_i e
  rw[if_neg e,d.1,d.2]
theorem field_of(l:List UInt8){p:Nat}{w:World}(hp:Vr w p #[.string ⟨l.toArray⟩]):
 Calls prog 18 #[.pointer (some ⟨p,0,none⟩)] w fun e w'=>e=.returned (.string ⟨(fdR l).1.toArray⟩)∧Rd w p (fdR l).2 w':=by
 obtain⟨⟨a,C⟩,j⟩:∃x,nxR l=x:=⟨_,rfl⟩;obtain⟨⟨b,v⟩,m⟩:∃x,nxR C=x:=⟨_,rfl⟩
 have o:(b:Int)=129∨¬(b:Int)=129:=by omega
 rcases o with o|o
 ·obtain⟨⟨c,l3⟩,A⟩:∃x,nxR v=x:=⟨_,rfl⟩;have e:=fdR_of (l:=l) (c:=c) (l3:=l3) ⟨j,m,by rw[if_pos (by omega)];exact A⟩;rw[e]
  go_enter func18,ntmps18
  go_upto_region 2 with (go_at_call 28;refine(next_of j hp).mono ?_;rintro e D ⟨rfl,f⟩)
  have d:=Rd.vr hp f
  go_upto_region 3 with (go_at_call 28;refine(next_of m d).mono ?_;rintro e G ⟨rfl,h⟩)
  have i:=Rd.vr d h
  go_upto_region 5 with (go_at_call 28;refine(next_of A i).mono ?_;rintro e J ⟨rfl,B⟩)
  have H:=Rd.vr i B
  go_wp2_with (go_at_call 29;refine(take_of l3 c p _ H).mono ?_;rintro e I ⟨rfl,q⟩)
  go_ret
  exact⟨rfl,Rd.more hp.p f (Rd.more d.p h (Rd.more i.p B q))⟩
 ·have e:=fdR_of (l:=l) ⟨j,m,by rw[if_neg (by omega)];exact⟨rfl,rfl⟩⟩;rw[e]
  go_enter func18,ntmps18
  go_upto_region 2 with (go_at_call 28;refine(next_of j hp).mono ?_;rintro e D ⟨rfl,f⟩)
  have d:=Rd.vr hp f
  go_upto_region 3 with (go_at_call 28;refine(next_of m d).mono ?_;rintro e G ⟨rfl,h⟩)
  have i:=Rd.vr d h
  go_wp2_with (go_at_call 29;refine(take_of v b p _ i).mono ?_;rintro e I ⟨rfl,q⟩)
  go_ret
  exact⟨rfl,Rd.more hp.p f (Rd.more d.p h q)⟩
end
section
attribute [local go_sem ↓] uz1
attribute [local go_sem] uz2
section
theorem gr_set{w v:World}{p:Nat}{c:Array Value}(hp:Pre (p+1) w.heap.size)(h:Gr w v):Gr (setBlk w p c) (setBlk v p c):=by
 obtain⟨g,rfl⟩:=h;rw[setBlk_gro _ _ _ _ hp];exact⟨g,rfl⟩
theorem rdnum_of(l:List UInt8){p:Nat}{w:World}(hp:Vr w p #[.string ⟨l.toArray⟩]):
 Calls prog 19 #[.pointer (some ⟨p,0,none⟩)] w fun e w'=>e=.returned (.agg (nw 9 (nbR (fdR l).1)))∧Rd w p (fdR l).2 w':=by
 obtain⟨⟨f,m⟩,i⟩:∃x,fdR l=x:=⟨_,rfl⟩
 have b:∃E:Int,Hid (∀w,Cg 30 #[.string ⟨(tzR f).toArray⟩] w (.tuple #[.agg (nw 9 (nbR f)),.int .i64 E])):=by
  by_cases h:(tzR f).length≤72
  ·refine⟨0,fun w=>?_⟩;have:=natof_any ⟨(tzR f).toArray⟩ (by rw[sz_tx];exact h) w;rw[nbR,if_pos h];exact this
  ·refine⟨100,fun w=>?_⟩;rw[nbR,if_neg h];exact of_long _ (by rw[sz_tx];omega) w
 obtain⟨E,b⟩:=b
 have A:Hid (∀v,Vr v p #[.string ⟨l.toArray⟩]→Calls prog 18 #[.pointer (some ⟨p,0,none⟩)] v fun e w'=>e=.returned (.string ⟨f.toArray⟩)∧Rd v p m w'):=fun v H=>by
  have:=field_of l H;rw[i]at this;exact this
 rw[i];simp only;obtain⟨y,B⟩:=exl (nbR f);rw[B]at b ⊢;clear B i
 go_enter func19,ntmps19
 go_upto_region 1 with fail
 refine gen_w (fun v=>Gr w v∧Vr v (w.heap.size) (nw 9 0)∧Vr v p #[.string ⟨l.toArray⟩]) ⟨grA,vrA,hp.gr grA⟩ ?_;rintro L ⟨I,C,D⟩
 go_upto_region 2 with (first|(go_at_call 18;refine(A.out _ D).mono ?_;rintro e P ⟨rfl,j⟩)|(go_at_call 31;refine(trim0_any f _).mono ?_;rintro e Q ⟨rfl,rfl⟩)|(go_at_call 30;refine(b.out _).mono ?_;rintro e J ⟨rfl,o⟩))
 have q:p≠w.heap.size:=by have:=hp.p;unfold Pre at this;omega
 have d:=((C.other q).gr j).gr o;have G:Rd w p m J:=((gr_set hp.p I).trans j).trans o;have K:=d.h;have R:=d.f;have S:=d.pp;have U:=d.p;clear C d D j o A b
 go_wp2
 refine bo1 results19 (rd_nat (by rfl) ?_) ⟨rfl,?_⟩
 ·simp[go_sem, *];exact blk_setBlk _ _ _ (by rw[K,nw_size];decide)
 ·unfold Rd at G ⊢
  repeat (first|exact G|apply Gr.drewN|apply Gr.drew|apply Gr.alloc|apply Gr.gro|(refine gr_setNew ?_ (by rw[size_setBlk];omega)))
end
end
end Go.Proofs.Ytdomjicpdbblnaa