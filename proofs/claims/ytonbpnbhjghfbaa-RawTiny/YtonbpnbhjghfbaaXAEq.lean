import Derived.ChangeKeysEq
import Derived.Laws.StructEq
import Derived.Test.YtonbpnbhjghfbaaXAAdd
namespace Go.Proofs.Ytonbpnbhjghfbaa
open Go.RowKit Go.Proofs.Try
set_option maxRecDepth 100000
set_option maxHeartbeats 8000000
section
theorem eqItems_run(d n x y:Nat)(w:World):∀(is:List Nat),(∀i∈is,i<n) →
 (Op.eqItems (d+1) 22 1 (nw n x) (nw n y) is).run prog w=.ok (is.all fun i=>wd x i==wd y i) w
 | [],_=>rfl
 | i :: is,h=>by
  have hi:i<n:=h i (by simp);have l:=eqItems_run d n x y w is (fun j q=>h j (by simp[q]))
  have v:(nw n x)[i*1]? = some (Value.int .u64 ((wd x i:Nat):Int)):=by rw[Nat.mul_one];exact nw_get n x i hi
  have A:(nw n y)[i*1]? = some (Value.int .u64 ((wd y i:Nat):Int)):=by rw[Nat.mul_one];exact nw_get n y i hi
  have f:prog.plainKey 22=true:=by kernel_rfl
  have e:(((wd x i:Nat):Int)==((wd y i:Nat):Int))=(wd x i==wd y i):=by
   rw[Bool.eq_iff_iff,beq_iff_eq,beq_iff_eq];omega
  simp only[Op.eqItems,Sem.run_bind,run_part_plain w f v,run_part_plain w f A,Result.andThen_ok,run_equalIn_int w d 22 .u64 .u64 _ _ underlying22,e,Sem.run_ite,List.all_cons]
  cases h1:(wd x i==wd y i)
  ·simp
  ·simpa using l
def eqN(n x y:Nat):Bool:=(List.range n).all fun i=>wd x i==wd y i
theorem mod_of_words(x y:Nat):∀n,(∀i,i<n→wd x i=wd y i)→x%pw n=y%pw n
 | 0,_=>by rw[pw_zero,Nat.mod_one,Nat.mod_one]
 | n+1,h=>by rw[mod_succ,mod_succ,mod_of_words x y n (fun i hi=>h i (by omega)),h n (by omega)]
theorem words_of_mod(x y n:Nat)(h:x%pw n=y%pw n)(i:Nat)(hi:i<n):wd x i=wd y i:=by
 have f:∀z,wd z i=wd (z%pw n) i:=fun z=>by
  obtain⟨d,rfl⟩:∃d,n=i+1+d:=⟨n-(i+1),by omega⟩;unfold wd
  have e:pw (i+1+d)=pw i*(18446744073709551616*pw d):=by rw[pw_add,pow_succ64,Nat.mul_assoc]
  rw[e,Nat.mod_mul_right_div_self,Nat.mod_mul_right_mod]
 rw[f x,f y,h]
theorem eqN_iff(n x y:Nat):eqN n x y=true↔x%pw n=y%pw n:=by
 grind [eqN,mod_of_words,words_of_mod]
theorem eqN_self(n x:Nat):eqN n x x=true:=(eqN_iff n x x).2 rfl
theorem nw_extract(n x:Nat):(nw n x).extract 0 n=nw n x:=by
 grind [nw_size]
theorem eqArr(d x y:Nat)(w:World):(Op.equalIn (d+2) 23 (.agg (nw 9 x)) (.agg (nw 9 y))).run prog w=.ok (eqN 9 x y) w:=by
 have f:(prog.info? 22).isSome=true:=by kernel_rfl
 obtain⟨i,f⟩:=Option.isSome_iff_exists.1 f;rw[run_equalIn_array w (d+1) (nw 9 x) (nw 9 y) underlying23 f,show prog.cellsOf 22=1 from by kernel_rfl];exact eqItems_run d 9 x y w (List.range 9) (fun i f=>by simpa using f)
theorem eqNat(x y:Nat)(w:World):(binOp .eql 25 (.agg (nw 9 x)) (.agg (nw 9 y))).run prog w=.ok (.bool (eqN 9 x y)) w:=by
 rw[run_eql_struct]
 have d:prog.underlying 25=some (.struct (prog.fieldsOf 25)):=by kernel_rfl
 rw[show (10000:Nat)=9999+1 from rfl,run_equalIn_struct w 9999 25 _ _ d (by kernel_rfl)];simp[go_sem,Op.eqFields,Program.fieldsOf,part,nw_extract];rw[show (9999:Nat)=9997+2 from rfl,eqArr 9997]
 cases eqN 9 x y <;> simp[Result.andThen]
end
end Go.Proofs.Ytonbpnbhjghfbaa