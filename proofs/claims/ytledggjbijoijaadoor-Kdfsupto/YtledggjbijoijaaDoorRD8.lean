/-
  The documents' digest (curvetref7.Of).
-/
import Derived.Test.YtledggjbijoijaaDoorRC8
import Derived.Test.YtledggjbijoijaaDoorGN
namespace Go.Proofs.YtledggjbijoijaaDoor.L8
open Go.RowKit
/-- Which hash, by the documents' number. -/
structure Kr (id : Int) (iv : Nat → Nat) (z : Nat) : Prop where
  is : (id = 3 ∧ iv = iv384 ∧ z = 48) ∨ (id = 4 ∧ iv = iv512 ∧ z = 64)
theorem Kr.lt {id : Int} {iv : Nat → Nat} {z : Nat} (h : Kr id iv z) (i : Nat) : iv i < 18446744073709551616 := by
  rcases h.is with ⟨_, rfl, _⟩ | ⟨_, rfl, _⟩
  · exact iv384_lt i
  · exact iv512_lt i
theorem Kr.le {id : Int} {iv : Nat → Nat} {z : Nat} (h : Kr id iv z) : z ≤ 64 := by
  rcases h.is with ⟨_, _, rfl⟩ | ⟨_, _, rfl⟩ <;> decide
set_option maxRecDepth 100000 in
theorem rblock_any (id : Int) (iv : Nat → Nat) (z : Nat) (hk : Kr id iv z) (w : World) : Calls Tryd.prog 26 #[.int .i64 id] w fun e w' => e = .returned (.int .i64 128) ∧ w = w' := by
  rcases hk.is with ⟨rfl, rfl, _⟩ | ⟨rfl, rfl, _⟩
  all_goals
    go_enter Tryd.func26, Tryd.ntmps26
    go_wp2
    go_ret
    exact ⟨rfl, rfl⟩
set_option maxRecDepth 100000 in
theorem rsize_any (id : Int) (iv : Nat → Nat) (z : Nat) (hk : Kr id iv z) (w : World) : Calls Tryd.prog 18 #[.int .i64 id] w fun e w' => e = .returned (.int .i64 (z : Int)) ∧ w = w' := by
  rcases hk.is with ⟨rfl, _, rfl⟩ | ⟨rfl, _, rfl⟩
  all_goals
    go_enter Tryd.func18, Tryd.ntmps18
    go_wp2
    go_ret
    exact ⟨rfl, rfl⟩
set_option maxRecDepth 100000 in
theorem rbegin_any (id : Int) (iv : Nat → Nat) (z : Nat) (hk : Kr id iv z) (w : World) : Calls Tryd.prog 31 #[.int .i64 id] w fun e w' => e = .returned (.slice (some ⟨w.heap.size, 0, none⟩) 8 8) ∧ Bk w' w.heap.size (wz 8 iv) 68 ∧ Sm w w' := by
  rcases hk.is with ⟨rfl, rfl, _⟩ | ⟨rfl, rfl, _⟩
  all_goals
    go_enter Tryd.func31, Tryd.ntmps31
    go_wp2
    go_ret
    exact ⟨rfl, (Bk.new w _ _).cast (by unfold wz; rfl), (Sm.refl _).alloc _⟩
def bsl8 (t : TypeId) (n : Nat) (p : Array (Nat × Value)) : Sem Value := Instr.buildSlice t n p
theorem bsl8_is (p : Array (Nat × Value)) : Instr.buildSlice 64 80 p = bsl8 64 80 p := rfl
theorem bsl8_run (w : World) : (bsl8 64 80 #[(0, .int .u64 4794697086780616226), (1, .int .u64 8158064640168781261), (2, .int .u64 13096744586834688815), (3, .int .u64 16840607885511220156), (4, .int .u64 4131703408338449720), (5, .int .u64 6480981068601479193), (6, .int .u64 10538285296894168987), (7, .int .u64 12329834152419229976), (8, .int .u64 15566598209576043074), (9, .int .u64 1334009975649890238), (10, .int .u64 2608012711638119052), (11, .int .u64 6128411473006802146), (12, .int .u64 8268148722764581231), (13, .int .u64 9286055187155687089), (14, .int .u64 11230858885718282805), (15, .int .u64 13951009754708518548), (16, .int .u64 16472876342353939154), (17, .int .u64 17275323862435702243), (18, .int .u64 1135362057144423861), (19, .int .u64 2597628984639134821), (20, .int .u64 3308224258029322869), (21, .int .u64 5365058923640841347), (22, .int .u64 6679025012923562964), (23, .int .u64 8573033837759648693), (24, .int .u64 10970295158949994411), (25, .int .u64 12119686244451234320), (26, .int .u64 12683024718118986047), (27, .int .u64 13788192230050041572), (28, .int .u64 14330467153632333762), (29, .int .u64 15395433587784984357), (30, .int .u64 489312712824947311), (31, .int .u64 1452737877330783856), (32, .int .u64 2861767655752347644), (33, .int .u64 3322285676063803686), (34, .int .u64 5560940570517711597), (35, .int .u64 5996557281743188959), (36, .int .u64 7280758554555802590), (37, .int .u64 8532644243296465576), (38, .int .u64 9350256976987008742), (39, .int .u64 10552545826968843579), (40, .int .u64 11727347734174303076), (41, .int .u64 12113106623233404929), (42, .int .u64 14000437183269869457), (43, .int .u64 14369950271660146224), (44, .int .u64 15101387698204529176), (45, .int .u64 15463397548674623760), (46, .int .u64 17586052441742319658), (47, .int .u64 1182934255886127544), (48, .int .u64 1847814050463011016), (49, .int .u64 2177327727835720531), (50, .int .u64 2830643537854262169), (51, .int .u64 3796741975233480872), (52, .int .u64 4115178125766777443), (53, .int .u64 5681478168544905931), (54, .int .u64 6601373596472566643), (55, .int .u64 7507060721942968483), (56, .int .u64 8399075790359081724), (57, .int .u64 8693463985226723168), (58, .int .u64 9568029438360202098), (59, .int .u64 10144078919501101548), (60, .int .u64 10430055236837252648), (61, .int .u64 11840083180663258601), (62, .int .u64 13761210420658862357), (63, .int .u64 14299343276471374635), (64, .int .u64 14566680578165727644), (65, .int .u64 15097957966210449927), (66, .int .u64 16922976911328602910), (67, .int .u64 17689382322260857208), (68, .int .u64 500013540394364858), (69, .int .u64 748580250866718886), (70, .int .u64 1242879168328830382), (71, .int .u64 1977374033974150939), (72, .int .u64 2944078676154940804), (73, .int .u64 3659926193048069267), (74, .int .u64 4368137639120453308), (75, .int .u64 4836135668995329356), (76, .int .u64 5532061633213252278), (77, .int .u64 6448918945643986474), (78, .int .u64 6902733635092675308), (79, .int .u64 7801388544844847127)]).run Tryd.prog w = .ok (.slice (some ⟨w.heap.size, 0, none⟩) 80 80) (w.alloc (.cells (wz 80 kc) 68)) := by kernel_rfl
attribute [local go_sem ↓] bsl8_is
attribute [local go_sem] bsl8_run
set_option maxRecDepth 100000 in
set_option maxHeartbeats 1600000 in
theorem rk_any (w : World) : Calls Tryd.prog 32 #[] w fun e w' => e = .returned (.slice (some ⟨w.heap.size, 0, none⟩) 80 80) ∧ Bk w' w.heap.size (wz 80 kc) 68 ∧ Sm w w' := by
  go_enter Tryd.func32, Tryd.ntmps32
  go_wp2
  go_ret
  exact ⟨rfl, Bk.new w _ _, (Sm.refl _).alloc _⟩
end Go.Proofs.YtledggjbijoijaaDoor.L8
