/-
  SHA-512 and SHA-384 on plain numbers: rolls, sums, a block's words, a round, a block, a text's end, a digest. No Go text is walked here.
-/
import Derived.Test.YtledggjbijoijaaDoorHN
namespace Go.Proofs.YtledggjbijoijaaDoor.L8
open Go.RowKit

/-! ### words of 64 bits -/
def rr (x k : Nat) : Nat := (x / 2 ^ k) ||| (x * 2 ^ (64 - k) % 18446744073709551616)
def chN (x y z : Nat) : Nat := (x &&& y) ^^^ ((18446744073709551615 ^^^ x) &&& z)
def mjN (x y z : Nat) : Nat := ((x &&& y) ^^^ (x &&& z)) ^^^ (y &&& z)
def S0 (x : Nat) : Nat := (rr x 28 ^^^ rr x 34) ^^^ rr x 39
def S1 (x : Nat) : Nat := (rr x 14 ^^^ rr x 18) ^^^ rr x 41
def s0 (x : Nat) : Nat := (rr x 1 ^^^ rr x 8) ^^^ (x / 128)
def s1 (x : Nat) : Nat := (rr x 19 ^^^ rr x 61) ^^^ (x / 64)
def ad (x y : Nat) : Nat := (x + y) % 18446744073709551616
theorem or64 {a b : Nat} (ha : a < 18446744073709551616) (hb : b < 18446744073709551616) : a ||| b < 18446744073709551616 := Nat.or_lt_two_pow (n := 64) ha hb
theorem xor64 {a b : Nat} (ha : a < 18446744073709551616) (hb : b < 18446744073709551616) : a ^^^ b < 18446744073709551616 := Nat.xor_lt_two_pow (n := 64) ha hb
theorem and64 (a : Nat) {b : Nat} (hb : b < 18446744073709551616) : a &&& b < 18446744073709551616 := Nat.and_lt_two_pow (n := 64) a hb
theorem div64 {x : Nat} (k : Nat) (hx : x < 18446744073709551616) : x / k < 18446744073709551616 := Nat.lt_of_le_of_lt (Nat.div_le_self x k) hx
theorem mod64 (x : Nat) : x % 18446744073709551616 < 18446744073709551616 := Nat.mod_lt _ (by decide)
theorem rr_lt {x : Nat} (k : Nat) (hx : x < 18446744073709551616) : rr x k < 18446744073709551616 := or64 (div64 _ hx) (mod64 _)
theorem chN_lt {x y z : Nat} (hy : y < 18446744073709551616) (hz : z < 18446744073709551616) : chN x y z < 18446744073709551616 := xor64 (and64 _ hy) (and64 _ hz)
theorem mjN_lt {x y z : Nat} (hy : y < 18446744073709551616) (hz : z < 18446744073709551616) : mjN x y z < 18446744073709551616 := xor64 (xor64 (and64 _ hy) (and64 _ hz)) (and64 _ hz)
theorem S0_lt {x : Nat} (hx : x < 18446744073709551616) : S0 x < 18446744073709551616 := xor64 (xor64 (rr_lt _ hx) (rr_lt _ hx)) (rr_lt _ hx)
theorem S1_lt {x : Nat} (hx : x < 18446744073709551616) : S1 x < 18446744073709551616 := xor64 (xor64 (rr_lt _ hx) (rr_lt _ hx)) (rr_lt _ hx)
theorem s0_lt {x : Nat} (hx : x < 18446744073709551616) : s0 x < 18446744073709551616 := xor64 (xor64 (rr_lt _ hx) (rr_lt _ hx)) (div64 _ hx)
theorem s1_lt {x : Nat} (hx : x < 18446744073709551616) : s1 x < 18446744073709551616 := xor64 (xor64 (rr_lt _ hx) (rr_lt _ hx)) (div64 _ hx)
theorem ad_lt (x y : Nat) : ad x y < 18446744073709551616 := mod64 _
theorem ad_assoc (x y z : Nat) : ad (ad x y) z = ad x (ad y z) := by unfold ad; omega
theorem ad_comm (x y : Nat) : ad x y = ad y x := by unfold ad; omega
theorem ad_cast (x y : Nat) : ((x : Int) + (y : Int)) % 18446744073709551616 = ((ad x y : Nat) : Int) := by unfold ad; omega
theorem ad_cast3 (x y z : Nat) : ((x : Int) + (y : Int) + (z : Int)) % 18446744073709551616 = ((ad (ad x y) z : Nat) : Int) := by unfold ad; omega
theorem ad_cast4 (x y z u : Nat) : ((x : Int) + (y : Int) + (z : Int) + (u : Int)) % 18446744073709551616 = ((ad (ad (ad x y) z) u : Nat) : Int) := by unfold ad; omega
theorem ad_cast5 (x y z u v : Nat) : ((x : Int) + (y : Int) + (z : Int) + (u : Int) + (v : Int)) % 18446744073709551616 = ((ad (ad (ad (ad x y) z) u) v : Nat) : Int) := by unfold ad; omega
theorem ad_w (x y : Nat) : IntKind.u64.wrap ((x : Int) + (y : Int)) = ((ad x y : Nat) : Int) := by rw [IntKind.wrap_u64]; exact ad_cast x y
theorem not64 (x : Nat) (hx : x < 18446744073709551616) : bits .xor .u64 IntKind.u64.max (x : Int) = ((18446744073709551615 ^^^ x : Nat) : Int) :=
  u64_xor_nat 18446744073709551615 x (by decide) hx
theorem shl_cast (x m : Nat) : (x : Int) * 2 ^ m % 18446744073709551616 = ((x * 2 ^ m % 18446744073709551616 : Nat) : Int) := by rw [Int.natCast_emod, Int.natCast_mul, Int.natCast_pow]; rfl
theorem neg_and (k : Nat) (hk : 0 < k) (hk2 : k < 64) : bits .and .u64 (IntKind.u64.wrap (-(k : Int))) 63 = ((64 - k : Nat) : Int) := by
  have h1 : IntKind.u64.wrap (-(k : Int)) = ((18446744073709551616 - k : Nat) : Int) := by rw [IntKind.wrap_u64]; omega
  rw [h1, show (63 : Int) = ((63 : Nat) : Int) from rfl, u64_and_nat _ _ (by omega) (by omega), nat_mask6]
  omega

/-! ### a block's words -/
/-- The word of m bytes from place o on, the highest first. -/
def hw (b : Nat → Nat) (o : Nat) : Nat → Nat
  | 0 => 0
  | m + 1 => (hw b o m * 256 % 18446744073709551616) ||| b (o + m)
/-- Word k of a block of bytes. -/
def w16 (b : Nat → Nat) (k : Nat) : Nat := hw b (8 * k) 8
theorem hw_lt (b : Nat → Nat) (o : Nat) : ∀ m, (∀ i, i < m → b (o + i) < 256) → hw b o m < 18446744073709551616
  | 0, _ => by show (0 : Nat) < _; decide
  | m + 1, h => or64 (mod64 _) (by have := h m (by omega); omega)
theorem hw_ext (b c : Nat → Nat) (o : Nat) : ∀ m, (∀ i, i < m → b (o + i) = c (o + i)) → hw b o m = hw c o m
  | 0, _ => rfl
  | m + 1, h => by rw [hw, hw, hw_ext b c o m fun i hi => h i (by omega), h m (by omega)]
theorem hw_step (x y : Nat) (hy : y < 256) : bits .or .u64 ((x : Int) * 256 % 18446744073709551616) (y : Int) = ((x * 256 % 18446744073709551616 ||| y : Nat) : Int) := by
  rw [show (x : Int) * 256 % 18446744073709551616 = ((x * 256 % 18446744073709551616 : Nat) : Int) by omega, u64_or_nat _ _ (mod64 _) (by omega)]
/-- The word that is laid at place k, of those ahead of it. -/
def nx (b r : Nat → Nat) (k : Nat) : Nat := if k < 16 then w16 b k else ad (ad (ad (s1 (r (k - 2))) (r (k - 7))) (s0 (r (k - 15)))) (r (k - 16))
/-- The row of words when k of them are laid. -/
def rw0 (b : Nat → Nat) : Nat → Nat → Nat
  | 0 => fun _ => 0
  | k + 1 => fun j => if j = k then nx b (rw0 b k) k else rw0 b k j
theorem w16_lt (b : Nat → Nat) (k : Nat) (hb : ∀ i, i < 128 → b i < 256) (hk : k < 16) : w16 b k < 18446744073709551616 := hw_lt b _ 8 fun i hi => hb _ (by omega)
theorem rw0_lt (b : Nat → Nat) (hb : ∀ i, i < 128 → b i < 256) : ∀ k j, rw0 b k j < 18446744073709551616
  | 0, _ => by show (0 : Nat) < _; decide
  | k + 1, j => by
    unfold rw0
    split
    · unfold nx
      split
      · exact w16_lt b k hb ‹_›
      · exact ad_lt _ _
    · exact rw0_lt b hb k j
theorem rw0_step (b : Nat → Nat) (k : Nat) : rw0 b (k + 1) k = nx b (rw0 b k) k := by simp [rw0]
theorem rw0_keep (b : Nat → Nat) (k j : Nat) (h : j ≠ k) : rw0 b (k + 1) j = rw0 b k j := by simp [rw0, h]
theorem rw0_ext (b c : Nat → Nat) (h : ∀ i, i < 128 → b i = c i) : ∀ k j, rw0 b k j = rw0 c k j
  | 0, _ => rfl
  | k + 1, j => by
    unfold rw0
    split
    · unfold nx
      split
      · exact hw_ext b c _ 8 fun i hi => h _ (by omega)
      · rw [rw0_ext b c h k, rw0_ext b c h k, rw0_ext b c h k, rw0_ext b c h k]
    · exact rw0_ext b c h k j

/-! ### rounds -/
/-- Eight words. -/
structure Rg where
  a : Nat
  b : Nat
  c : Nat
  d : Nat
  e : Nat
  f : Nat
  g : Nat
  h : Nat
def Rg.at (s : Rg) : Nat → Nat
  | 0 => s.a
  | 1 => s.b
  | 2 => s.c
  | 3 => s.d
  | 4 => s.e
  | 5 => s.f
  | 6 => s.g
  | _ => s.h
def Rg.of (f : Nat → Nat) : Rg := ⟨f 0, f 1, f 2, f 3, f 4, f 5, f 6, f 7⟩
structure Rg.Ok (s : Rg) : Prop where
  a : s.a < 18446744073709551616
  b : s.b < 18446744073709551616
  c : s.c < 18446744073709551616
  d : s.d < 18446744073709551616
  e : s.e < 18446744073709551616
  f : s.f < 18446744073709551616
  g : s.g < 18446744073709551616
  h : s.h < 18446744073709551616
theorem Rg.Ok.of {f : Nat → Nat} (h : ∀ i, i < 8 → f i < 18446744073709551616) : (Rg.of f).Ok :=
  ⟨h 0 (by decide), h 1 (by decide), h 2 (by decide), h 3 (by decide), h 4 (by decide), h 5 (by decide), h 6 (by decide), h 7 (by decide)⟩
theorem Rg.Ok.at {s : Rg} (h : s.Ok) (i : Nat) : s.at i < 18446744073709551616 := by
  unfold Rg.at
  split
  · exact h.a
  · exact h.b
  · exact h.c
  · exact h.d
  · exact h.e
  · exact h.f
  · exact h.g
  · exact h.h
def fst1 (K W : Nat) (s : Rg) : Nat := ad (ad (ad (ad s.h (S1 s.e)) (chN s.e s.f s.g)) K) W
def snd1 (s : Rg) : Nat := ad (S0 s.a) (mjN s.a s.b s.c)
def rnd (K W : Nat) (s : Rg) : Rg := ⟨ad (fst1 K W s) (snd1 s), s.a, s.b, s.c, ad s.d (fst1 K W s), s.e, s.f, s.g⟩
theorem rnd_ok {K W : Nat} {s : Rg} (h : s.Ok) : (rnd K W s).Ok := ⟨ad_lt _ _, h.a, h.b, h.c, ad_lt _ _, h.e, h.f, h.g⟩
/-- The constants. -/
def KL : List Nat := [4794697086780616226, 8158064640168781261, 13096744586834688815, 16840607885511220156, 4131703408338449720, 6480981068601479193, 10538285296894168987, 12329834152419229976, 15566598209576043074, 1334009975649890238, 2608012711638119052, 6128411473006802146, 8268148722764581231, 9286055187155687089, 11230858885718282805, 13951009754708518548, 16472876342353939154, 17275323862435702243, 1135362057144423861, 2597628984639134821, 3308224258029322869, 5365058923640841347, 6679025012923562964, 8573033837759648693, 10970295158949994411, 12119686244451234320, 12683024718118986047, 13788192230050041572, 14330467153632333762, 15395433587784984357, 489312712824947311, 1452737877330783856, 2861767655752347644, 3322285676063803686, 5560940570517711597, 5996557281743188959, 7280758554555802590, 8532644243296465576, 9350256976987008742, 10552545826968843579, 11727347734174303076, 12113106623233404929, 14000437183269869457, 14369950271660146224, 15101387698204529176, 15463397548674623760, 17586052441742319658, 1182934255886127544, 1847814050463011016, 2177327727835720531, 2830643537854262169, 3796741975233480872, 4115178125766777443, 5681478168544905931, 6601373596472566643, 7507060721942968483, 8399075790359081724, 8693463985226723168, 9568029438360202098, 10144078919501101548, 10430055236837252648, 11840083180663258601, 13761210420658862357, 14299343276471374635, 14566680578165727644, 15097957966210449927, 16922976911328602910, 17689382322260857208, 500013540394364858, 748580250866718886, 1242879168328830382, 1977374033974150939, 2944078676154940804, 3659926193048069267, 4368137639120453308, 4836135668995329356, 5532061633213252278, 6448918945643986474, 6902733635092675308, 7801388544844847127]
def kc (i : Nat) : Nat := KL.getD i 0
theorem kc_lt (i : Nat) : kc i < 18446744073709551616 := by
  have h : ∀ x ∈ KL, x < 18446744073709551616 := by decide
  unfold kc
  rw [List.getD_eq_getElem?_getD]
  cases e : KL[i]? with
  | none => decide
  | some x => exact h x (List.mem_of_getElem? e)
/-- So many rounds. -/
def rds (w : Nat → Nat) (s : Rg) : Nat → Rg
  | 0 => s
  | i + 1 => rnd (kc i) (w i) (rds w s i)
theorem rds_ok (w : Nat → Nat) {s : Rg} (h : s.Ok) : ∀ i, (rds w s i).Ok
  | 0 => h
  | i + 1 => rnd_ok (rds_ok w h i)
theorem rds_ext (w v : Nat → Nat) (h : ∀ i, w i = v i) (s : Rg) : ∀ i, rds w s i = rds v s i
  | 0 => rfl
  | i + 1 => by rw [rds, rds, rds_ext w v h s i, h]
/-- One block. -/
def cmp (f b : Nat → Nat) : Nat → Nat := fun i => ad (f i) ((rds (rw0 b 80) (Rg.of f) 80).at i)
theorem cmp_lt (f b : Nat → Nat) (i : Nat) : cmp f b i < 18446744073709551616 := ad_lt _ _
theorem cmp_ext (f g b c : Nat → Nat) (h : ∀ i, i < 128 → b i = c i) (hf : ∀ i, i < 8 → f i = g i) (i : Nat) (hi : i < 8) : cmp f b i = cmp g c i := by
  unfold cmp
  rw [rds_ext _ _ (rw0_ext b c h 80), hf i hi]
  have : Rg.of f = Rg.of g := by
    unfold Rg.of
    rw [hf 0 (by decide), hf 1 (by decide), hf 2 (by decide), hf 3 (by decide), hf 4 (by decide), hf 5 (by decide), hf 6 (by decide), hf 7 (by decide)]
  rw [this]
/-- So many blocks of a text of bytes. -/
def bls (iv t : Nat → Nat) : Nat → Nat → Nat
  | 0 => iv
  | n + 1 => cmp (bls iv t n) fun i => t (128 * n + i)
theorem bls_lt (iv t : Nat → Nat) (h : ∀ i, i < 8 → iv i < 18446744073709551616) : ∀ n i, i < 8 → bls iv t n i < 18446744073709551616
  | 0, i, hi => h i hi
  | _ + 1, i, _ => cmp_lt _ _ i
theorem bls_ext (iv t u : Nat → Nat) : ∀ n, (∀ i, i < 128 * n → t i = u i) → ∀ i, i < 8 → bls iv t n i = bls iv u n i
  | 0, _, _, _ => rfl
  | n + 1, h, i, hi => cmp_ext _ _ _ _ (fun j hj => h _ (by omega)) (fun j hj => bls_ext iv t u n (fun i hi => h i (by omega)) j hj) i hi

/-! ### a text's end, and its digest -/
/-- How many blocks a text of n bytes has with its end. -/
def nb (n : Nat) : Nat := (n + 144) / 128
/-- Byte k of a text of n bytes with its end. -/
def pf (n : Nat) (t : Nat → Nat) (k : Nat) : Nat := if k < n then t k else if k = n then 128 else if k < 128 * nb n - 8 then 0 else n * 8 / 2 ^ (8 * (128 * nb n - 1 - k)) % 256
/-- Byte k of eight words. -/
def dg8 (f : Nat → Nat) (k : Nat) : Nat := f (k / 8) / 2 ^ (8 * (7 - k % 8)) % 256
/-- The digest: of so many bytes. -/
def sha (iv : Nat → Nat) (z : Nat) (s : ByteArray) : ByteArray := bt (dg8 (bls iv (pf s.size (xb s)) (nb s.size))) z
/-- Where the two hashes begin. -/
def iv384 : Nat → Nat := fun i => [14680500436340154072, 7105036623409894663, 10473403895298186519, 1526699215303891257, 7436329637833083697, 10282925794625328401, 15784041429090275239, 5167115440072839076].getD i 0
def iv512 : Nat → Nat := fun i => [7640891576956012808, 13503953896175478587, 4354685564936845355, 11912009170470909681, 5840696475078001361, 11170449401992604703, 2270897969802886507, 6620516959819538809].getD i 0
theorem iv384_lt (i : Nat) : iv384 i < 18446744073709551616 := by
  unfold iv384
  match i with
  | 0 | 1 | 2 | 3 | 4 | 5 | 6 | 7 => decide
  | n + 8 => simp
theorem iv512_lt (i : Nat) : iv512 i < 18446744073709551616 := by
  unfold iv512
  match i with
  | 0 | 1 | 2 | 3 | 4 | 5 | 6 | 7 => decide
  | n + 8 => simp
end Go.Proofs.YtledggjbijoijaaDoor.L8
