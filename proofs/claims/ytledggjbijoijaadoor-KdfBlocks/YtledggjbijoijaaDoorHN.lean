/-
  SHA-256 and SHA-224 on plain numbers: rolls, sums, a block's words, a round, a block, a text's end, a digest. No Go text is walked here.
-/
import Derived.Test.YtledggjbijoijaaDoorEv
import Derived.Laws.BitsAllLaws
namespace Go.Proofs.YtledggjbijoijaaDoor
open Go.RowKit

/-! ### words of 32 bits -/
def rr (x k : Nat) : Nat := (x / 2 ^ k) ||| (x * 2 ^ (32 - k) % 4294967296)
def chN (x y z : Nat) : Nat := (x &&& y) ^^^ ((4294967295 ^^^ x) &&& z)
def mjN (x y z : Nat) : Nat := ((x &&& y) ^^^ (x &&& z)) ^^^ (y &&& z)
def S0 (x : Nat) : Nat := (rr x 2 ^^^ rr x 13) ^^^ rr x 22
def S1 (x : Nat) : Nat := (rr x 6 ^^^ rr x 11) ^^^ rr x 25
def s0 (x : Nat) : Nat := (rr x 7 ^^^ rr x 18) ^^^ (x / 8)
def s1 (x : Nat) : Nat := (rr x 17 ^^^ rr x 19) ^^^ (x / 1024)
def ad (x y : Nat) : Nat := (x + y) % 4294967296
theorem or32 {a b : Nat} (ha : a < 4294967296) (hb : b < 4294967296) : a ||| b < 4294967296 := Nat.or_lt_two_pow (n := 32) ha hb
theorem xor32 {a b : Nat} (ha : a < 4294967296) (hb : b < 4294967296) : a ^^^ b < 4294967296 := Nat.xor_lt_two_pow (n := 32) ha hb
theorem and32 (a : Nat) {b : Nat} (hb : b < 4294967296) : a &&& b < 4294967296 := Nat.and_lt_two_pow (n := 32) a hb
theorem div32 {x : Nat} (k : Nat) (hx : x < 4294967296) : x / k < 4294967296 := Nat.lt_of_le_of_lt (Nat.div_le_self x k) hx
theorem mod32 (x : Nat) : x % 4294967296 < 4294967296 := Nat.mod_lt _ (by decide)
theorem rr_lt {x : Nat} (k : Nat) (hx : x < 4294967296) : rr x k < 4294967296 := or32 (div32 _ hx) (mod32 _)
theorem chN_lt {x y z : Nat} (hy : y < 4294967296) (hz : z < 4294967296) : chN x y z < 4294967296 := xor32 (and32 _ hy) (and32 _ hz)
theorem mjN_lt {x y z : Nat} (hy : y < 4294967296) (hz : z < 4294967296) : mjN x y z < 4294967296 := xor32 (xor32 (and32 _ hy) (and32 _ hz)) (and32 _ hz)
theorem S0_lt {x : Nat} (hx : x < 4294967296) : S0 x < 4294967296 := xor32 (xor32 (rr_lt _ hx) (rr_lt _ hx)) (rr_lt _ hx)
theorem S1_lt {x : Nat} (hx : x < 4294967296) : S1 x < 4294967296 := xor32 (xor32 (rr_lt _ hx) (rr_lt _ hx)) (rr_lt _ hx)
theorem s0_lt {x : Nat} (hx : x < 4294967296) : s0 x < 4294967296 := xor32 (xor32 (rr_lt _ hx) (rr_lt _ hx)) (div32 _ hx)
theorem s1_lt {x : Nat} (hx : x < 4294967296) : s1 x < 4294967296 := xor32 (xor32 (rr_lt _ hx) (rr_lt _ hx)) (div32 _ hx)
theorem ad_lt (x y : Nat) : ad x y < 4294967296 := mod32 _
theorem ad_assoc (x y z : Nat) : ad (ad x y) z = ad x (ad y z) := by unfold ad; omega
theorem ad_comm (x y : Nat) : ad x y = ad y x := by unfold ad; omega
theorem ad_cast (x y : Nat) : ((x : Int) + (y : Int)) % 4294967296 = ((ad x y : Nat) : Int) := by unfold ad; omega
theorem ad_cast3 (x y z : Nat) : ((x : Int) + (y : Int) + (z : Int)) % 4294967296 = ((ad (ad x y) z : Nat) : Int) := by unfold ad; omega
theorem ad_cast4 (x y z u : Nat) : ((x : Int) + (y : Int) + (z : Int) + (u : Int)) % 4294967296 = ((ad (ad (ad x y) z) u : Nat) : Int) := by unfold ad; omega
theorem ad_cast5 (x y z u v : Nat) : ((x : Int) + (y : Int) + (z : Int) + (u : Int) + (v : Int)) % 4294967296 = ((ad (ad (ad (ad x y) z) u) v : Nat) : Int) := by unfold ad; omega
theorem not32 (x : Nat) (hx : x < 4294967296) : bits .xor .u32 IntKind.u32.max (x : Int) = ((4294967295 ^^^ x : Nat) : Int) :=
  u32_xor_nat 4294967295 x (by decide) hx
theorem shl_cast (x m : Nat) : (x : Int) * 2 ^ m % 4294967296 = ((x * 2 ^ m % 4294967296 : Nat) : Int) := by rw [Int.natCast_emod, Int.natCast_mul, Int.natCast_pow]; rfl
theorem shr_cast (x m : Nat) : (x : Int) / 2 ^ m = ((x / 2 ^ m : Nat) : Int) := by rw [Int.natCast_ediv, Int.natCast_pow]; rfl
theorem neg_and (k : Nat) (hk : 0 < k) (hk2 : k < 32) : bits .and .u64 (IntKind.u64.wrap (-(k : Int))) 31 = ((32 - k : Nat) : Int) := by
  have h1 : IntKind.u64.wrap (-(k : Int)) = ((18446744073709551616 - k : Nat) : Int) := by rw [IntKind.wrap_u64]; omega
  rw [h1, show (31 : Int) = ((31 : Nat) : Int) from rfl, u64_and_nat _ _ (by omega) (by omega), nat_mask5]
  omega

/-! ### a block's words -/
/-- Word k of a block of bytes. -/
def w16 (b : Nat → Nat) (k : Nat) : Nat := (((b (4 * k) * 16777216) ||| (b (4 * k + 1) * 65536)) ||| (b (4 * k + 2) * 256)) ||| b (4 * k + 3)
/-- The word that is laid at place k, of those ahead of it. -/
def nx (b r : Nat → Nat) (k : Nat) : Nat := if k < 16 then w16 b k else ad (ad (ad (s1 (r (k - 2))) (r (k - 7))) (s0 (r (k - 15)))) (r (k - 16))
/-- The row of words when k of them are laid. -/
def rw0 (b : Nat → Nat) : Nat → Nat → Nat
  | 0 => fun _ => 0
  | k + 1 => fun j => if j = k then nx b (rw0 b k) k else rw0 b k j
theorem w16_lt (b : Nat → Nat) (k : Nat) (hb : ∀ i, i < 64 → b i < 256) (hk : k < 16) : w16 b k < 4294967296 := by
  have h0 := hb (4 * k) (by omega)
  have h1 := hb (4 * k + 1) (by omega)
  have h2 := hb (4 * k + 2) (by omega)
  have h3 := hb (4 * k + 3) (by omega)
  exact or32 (or32 (or32 (by omega) (by omega)) (by omega)) (by omega)
theorem rw0_lt (b : Nat → Nat) (hb : ∀ i, i < 64 → b i < 256) : ∀ k j, rw0 b k j < 4294967296
  | 0, _ => by show (0 : Nat) < _; decide
  | k + 1, j => by
    unfold rw0
    split
    · unfold nx
      split
      · exact w16_lt b k hb ‹_›
      · exact ad_lt _ _
    · exact rw0_lt b hb k j
theorem rw0_step (b : Nat → Nat) (k : Nat) : rw0 b (k + 1) k = nx b (rw0 b k) k := by simp [rw0]
theorem rw0_keep (b : Nat → Nat) (k j : Nat) (h : j ≠ k) : rw0 b (k + 1) j = rw0 b k j := by simp [rw0, h]
theorem rw0_ext (b c : Nat → Nat) (h : ∀ i, i < 64 → b i = c i) : ∀ k j, rw0 b k j = rw0 c k j
  | 0, _ => rfl
  | k + 1, j => by
    unfold rw0
    split
    · unfold nx
      split
      · unfold w16
        rw [h (4 * k) (by omega), h (4 * k + 1) (by omega), h (4 * k + 2) (by omega), h (4 * k + 3) (by omega)]
      · rw [rw0_ext b c h k, rw0_ext b c h k, rw0_ext b c h k, rw0_ext b c h k]
    · exact rw0_ext b c h k j

/-! ### rounds -/
/-- Eight words. -/
structure Rg where
  a : Nat
  b : Nat
  c : Nat
  d : Nat
  e : Nat
  f : Nat
  g : Nat
  h : Nat
def Rg.at (s : Rg) : Nat → Nat
  | 0 => s.a
  | 1 => s.b
  | 2 => s.c
  | 3 => s.d
  | 4 => s.e
  | 5 => s.f
  | 6 => s.g
  | _ => s.h
def Rg.of (f : Nat → Nat) : Rg := ⟨f 0, f 1, f 2, f 3, f 4, f 5, f 6, f 7⟩
structure Rg.Ok (s : Rg) : Prop where
  a : s.a < 4294967296
  b : s.b < 4294967296
  c : s.c < 4294967296
  d : s.d < 4294967296
  e : s.e < 4294967296
  f : s.f < 4294967296
  g : s.g < 4294967296
  h : s.h < 4294967296
theorem Rg.Ok.of {f : Nat → Nat} (h : ∀ i, i < 8 → f i < 4294967296) : (Rg.of f).Ok :=
  ⟨h 0 (by decide), h 1 (by decide), h 2 (by decide), h 3 (by decide), h 4 (by decide), h 5 (by decide), h 6 (by decide), h 7 (by decide)⟩
theorem Rg.Ok.at {s : Rg} (h : s.Ok) (i : Nat) : s.at i < 4294967296 := by
  unfold Rg.at
  split
  · exact h.a
  · exact h.b
  · exact h.c
  · exact h.d
  · exact h.e
  · exact h.f
  · exact h.g
  · exact h.h
def fst1 (K W : Nat) (s : Rg) : Nat := ad (ad (ad (ad s.h (S1 s.e)) (chN s.e s.f s.g)) K) W
def snd1 (s : Rg) : Nat := ad (S0 s.a) (mjN s.a s.b s.c)
def rnd (K W : Nat) (s : Rg) : Rg := ⟨ad (fst1 K W s) (snd1 s), s.a, s.b, s.c, ad s.d (fst1 K W s), s.e, s.f, s.g⟩
theorem rnd_ok {K W : Nat} {s : Rg} (h : s.Ok) : (rnd K W s).Ok := ⟨ad_lt _ _, h.a, h.b, h.c, ad_lt _ _, h.e, h.f, h.g⟩
/-- The constants. -/
def KL : List Nat := [1116352408, 1899447441, 3049323471, 3921009573, 961987163, 1508970993, 2453635748, 2870763221, 3624381080, 310598401, 607225278, 1426881987, 1925078388, 2162078206, 2614888103, 3248222580, 3835390401, 4022224774, 264347078, 604807628, 770255983, 1249150122, 1555081692, 1996064986, 2554220882, 2821834349, 2952996808, 3210313671, 3336571891, 3584528711, 113926993, 338241895, 666307205, 773529912, 1294757372, 1396182291, 1695183700, 1986661051, 2177026350, 2456956037, 2730485921, 2820302411, 3259730800, 3345764771, 3516065817, 3600352804, 4094571909, 275423344, 430227734, 506948616, 659060556, 883997877, 958139571, 1322822218, 1537002063, 1747873779, 1955562222, 2024104815, 2227730452, 2361852424, 2428436474, 2756734187, 3204031479, 3329325298]
def kc (i : Nat) : Nat := KL.getD i 0
theorem kc_lt (i : Nat) : kc i < 4294967296 := by
  have h : ∀ x ∈ KL, x < 4294967296 := by decide
  unfold kc
  rw [List.getD_eq_getElem?_getD]
  cases e : KL[i]? with
  | none => decide
  | some x => exact h x (List.mem_of_getElem? e)
/-- So many rounds. -/
def rds (w : Nat → Nat) (s : Rg) : Nat → Rg
  | 0 => s
  | i + 1 => rnd (kc i) (w i) (rds w s i)
theorem rds_ok (w : Nat → Nat) {s : Rg} (h : s.Ok) : ∀ i, (rds w s i).Ok
  | 0 => h
  | i + 1 => rnd_ok (rds_ok w h i)
theorem rds_ext (w v : Nat → Nat) (h : ∀ i, w i = v i) (s : Rg) : ∀ i, rds w s i = rds v s i
  | 0 => rfl
  | i + 1 => by rw [rds, rds, rds_ext w v h s i, h]
/-- One block. -/
def cmp (f b : Nat → Nat) : Nat → Nat := fun i => ad (f i) ((rds (rw0 b 64) (Rg.of f) 64).at i)
theorem cmp_lt (f b : Nat → Nat) (i : Nat) : cmp f b i < 4294967296 := ad_lt _ _
theorem cmp_ext (f g b c : Nat → Nat) (h : ∀ i, i < 64 → b i = c i) (hf : ∀ i, i < 8 → f i = g i) (i : Nat) (hi : i < 8) : cmp f b i = cmp g c i := by
  unfold cmp
  rw [rds_ext _ _ (rw0_ext b c h 64), hf i hi]
  have : Rg.of f = Rg.of g := by
    unfold Rg.of
    rw [hf 0 (by decide), hf 1 (by decide), hf 2 (by decide), hf 3 (by decide), hf 4 (by decide), hf 5 (by decide), hf 6 (by decide), hf 7 (by decide)]
  rw [this]
/-- So many blocks of a text of bytes. -/
def bls (iv t : Nat → Nat) : Nat → Nat → Nat
  | 0 => iv
  | n + 1 => cmp (bls iv t n) fun i => t (64 * n + i)
theorem bls_lt (iv t : Nat → Nat) (h : ∀ i, i < 8 → iv i < 4294967296) : ∀ n i, i < 8 → bls iv t n i < 4294967296
  | 0, i, hi => h i hi
  | _ + 1, i, _ => cmp_lt _ _ i
theorem bls_ext (iv t u : Nat → Nat) : ∀ n, (∀ i, i < 64 * n → t i = u i) → ∀ i, i < 8 → bls iv t n i = bls iv u n i
  | 0, _, _, _ => rfl
  | n + 1, h, i, hi => cmp_ext _ _ _ _ (fun j hj => h _ (by omega)) (fun j hj => bls_ext iv t u n (fun i hi => h i (by omega)) j hj) i hi

/-! ### a text's end, and its digest -/
/-- How many blocks a text of n bytes has with its end. -/
def nb (n : Nat) : Nat := (n + 72) / 64
/-- Byte k of a text of n bytes with its end. -/
def pf (n : Nat) (t : Nat → Nat) (k : Nat) : Nat := if k < n then t k else if k = n then 128 else if k < 64 * nb n - 8 then 0 else n * 8 / 2 ^ (8 * (64 * nb n - 1 - k)) % 256
/-- Byte k of eight words. -/
def dg8 (f : Nat → Nat) (k : Nat) : Nat := f (k / 4) / 2 ^ (8 * (3 - k % 4)) % 256
/-- The first n bytes of f as a text. -/
def bt (f : Nat → Nat) (n : Nat) : ByteArray := ⟨((List.range n).map fun i => UInt8.ofNat (f i)).toArray⟩
/-- Byte k of a text. -/
def xb (s : ByteArray) (k : Nat) : Nat := (s.data.getD k 0).toNat
theorem xb_lt (s : ByteArray) (k : Nat) : xb s k < 256 := UInt8.toNat_lt _
theorem xb_data (s : ByteArray) (k : Nat) : xb s k = (s.data[k]?.getD 0).toNat := by
  unfold xb
  rw [Array.getD_eq_getD_getElem?]
/-- The digest: of so many bytes. -/
def sha (iv : Nat → Nat) (z : Nat) (s : ByteArray) : ByteArray := bt (dg8 (bls iv (pf s.size (xb s)) (nb s.size))) z
theorem bt_size (f : Nat → Nat) (n : Nat) : (bt f n).size = n := by simp [bt, ByteArray.size]
theorem bt_ext (f g : Nat → Nat) (n : Nat) (h : ∀ i, i < n → f i = g i) : bt f n = bt g n := by
  unfold bt
  congr 2
  exact List.map_congr_left fun i hi => by rw [h i (by simpa using hi)]
/-- Where the two hashes begin. -/
def iv224 : Nat → Nat := fun i => [3238371032, 914150663, 812702999, 4144912697, 4290775857, 1750603025, 1694076839, 3204075428].getD i 0
def iv256 : Nat → Nat := fun i => [1779033703, 3144134277, 1013904242, 2773480762, 1359893119, 2600822924, 528734635, 1541459225].getD i 0
theorem iv224_lt (i : Nat) : iv224 i < 4294967296 := by
  unfold iv224
  match i with
  | 0 | 1 | 2 | 3 | 4 | 5 | 6 | 7 => decide
  | n + 8 => simp
theorem iv256_lt (i : Nat) : iv256 i < 4294967296 := by
  unfold iv256
  match i with
  | 0 | 1 | 2 | 3 | 4 | 5 | 6 | 7 => decide
  | n + 8 => simp
end Go.Proofs.YtledggjbijoijaaDoor
