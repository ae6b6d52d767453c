import Derived.Deep.QuietTactic
import Derived.BigQuiet
import Derived.Test.YtdomjicpdbblnaaXASmA
namespace Go.Proofs.Ytdomjicpdbblnaa
open Go.RowKit
set_option maxRecDepth 100000
set_option maxHeartbeats 8000000
section
section
variable {n m a b c d e f g h i j k l o p q r s t u v:Nat}
theorem ppre_1(W:Pre n m):Pre n (m+a)=True:=eq_true (pre_add _ _ _ (W))
theorem ppre_2(W:Pre n m):Pre n (m+a+b)=True:=eq_true (pre_add _ _ _ (of_eq_true (ppre_1 W)))
theorem ppre_3(W:Pre n m):Pre n (m+a+b+c)=True:=eq_true (pre_add _ _ _ (of_eq_true (ppre_2 W)))
theorem ppre_4(W:Pre n m):Pre n (m+a+b+c+d)=True:=eq_true (pre_add _ _ _ (of_eq_true (ppre_3 W)))
theorem ppre_5(W:Pre n m):Pre n (m+a+b+c+d+e)=True:=eq_true (pre_add _ _ _ (of_eq_true (ppre_4 W)))
theorem ppre_6(W:Pre n m):Pre n (m+a+b+c+d+e+f)=True:=eq_true (pre_add _ _ _ (of_eq_true (ppre_5 W)))
end
abbrev uz4:=And.intro @ppre_1<|And.intro @ppre_2<|And.intro @ppre_3<|And.intro @ppre_4<|And.intro @ppre_5 @ppre_6
end
end Go.Proofs.Ytdomjicpdbblnaa