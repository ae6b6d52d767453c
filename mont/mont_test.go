package mont

import (
	"math"
	"math/big"
	"math/rand"
	"sync"
	"testing"

	"curvet/api"
)

const ones = uint64(math.MaxUint64)

// math/big is the judge: it shares no code with this package.

func bigOf(a api.Nat) *big.Int {
	x := new(big.Int)
	for i := len(a.W) - 1; i >= 0; i-- {
		x.Lsh(x, 64).Or(x, new(big.Int).SetUint64(a.W[i]))
	}
	return x
}

func natOf(x *big.Int) api.Nat {
	var a api.Nat
	rest := new(big.Int).Set(x)
	mask := new(big.Int).SetUint64(ones)
	for i := range a.W {
		a.W[i] = new(big.Int).And(rest, mask).Uint64()
		rest.Rsh(rest, 64)
	}
	return a
}

func small(x uint64) api.Nat {
	return api.Nat{W: [9]uint64{x}}
}

// plus answers x + d.
func plus(x *big.Int, d int64) *big.Int {
	return new(big.Int).Add(x, big.NewInt(d))
}

// power answers 2^k + d.
func power(k int, d int64) *big.Int {
	return plus(new(big.Int).Lsh(big.NewInt(1), uint(k)), d)
}

// product answers the numbers' product modulo m.
func product(m *big.Int, numbers ...*big.Int) *big.Int {
	x := big.NewInt(1)
	for _, a := range numbers {
		x.Mul(x, a).Mod(x, m)
	}
	return x
}

func wordsOf(m *big.Int) int {
	return (m.BitLen() + 63) / 64
}

// radix answers R.
func radix(m *big.Int) *big.Int {
	return power(64*wordsOf(m), 0)
}

// radixInverse answers R'.
func radixInverse(m *big.Int) *big.Int {
	return new(big.Int).ModInverse(radix(m), m)
}

// draw gives a number of so many bits at most, often one with words of noughts
// or of ones.
func draw(r *rand.Rand, size int) *big.Int {
	var a api.Nat
	for i := range a.W {
		switch r.Intn(4) {
		case 0:
		case 1:
			a.W[i] = ones
		default:
			a.W[i] = r.Uint64()
		}
	}
	x := bigOf(a)
	return x.Rsh(x, uint(576-size))
}

// edgeModuli are the odd numbers about each word's end, and others of note.
func edgeModuli() []*big.Int {
	list := []*big.Int{
		big.NewInt(3), big.NewInt(5), big.NewInt(7), big.NewInt(9), big.NewInt(15),
		big.NewInt(105), big.NewInt(255), big.NewInt(257),
	}
	for k := 64; k <= 576; k += 64 {
		list = append(list,
			power(k-1, -1), power(k-1, 1),
			power(k, -1), power(k, -3), power(k, -5))
		if k < 576 {
			// the last of them has ones in its highest word alone
			next := power(k+64, 1)
			list = append(list, power(k, 1), power(k, 3), power(k+1, -1), next.Sub(next, power(k, 0)))
		}
	}
	return list
}

// moduli are the edges, and drawn odd numbers of every count of words.
func moduli() []*big.Int {
	list := edgeModuli()
	r := rand.New(rand.NewSource(1))
	for words := 1; words <= 9; words++ {
		for range 6 {
			m := draw(r, 64*words-r.Intn(64))
			m.SetBit(m, 0, 1)
			m.SetBit(m, 64*words-1-r.Intn(60), 1)
			list = append(list, m)
		}
	}
	return list
}

// members are numbers below m: the edges, and some drawn ones.
func members(m *big.Int, count int) []*big.Int {
	half := new(big.Int).Rsh(m, 1)
	list := []*big.Int{
		big.NewInt(0), big.NewInt(1), big.NewInt(2), plus(m, -1), plus(m, -2),
		half, plus(half, 1), product(m, radix(m)), radixInverse(m),
	}
	r := rand.New(rand.NewSource(2))
	for range count {
		a := draw(r, 576)
		list = append(list, a.Mod(a, m))
	}
	return list
}

// outside are numbers that are not below m.
func outside(m *big.Int) []api.Nat {
	list := []api.Nat{natOf(m), natOf(power(576, -1))}
	twice := new(big.Int).Lsh(m, 1)
	for _, a := range []*big.Int{plus(m, 1), plus(m, 2), twice, radix(m), power(575, 0)} {
		if a.Cmp(m) >= 0 && a.BitLen() <= 576 {
			list = append(list, natOf(a))
		}
	}
	return list
}

func made(t *testing.T, m *big.Int) *Mont {
	t.Helper()
	x, errno := New(natOf(m))
	if x == nil || errno != api.OK {
		t.Fatalf("New of %x: %v, %d", m, x, errno)
	}
	return x
}

// P6.1: New

func TestNewOfWrongModulus(t *testing.T) {
	wrong := []*big.Int{
		big.NewInt(0), big.NewInt(1), big.NewInt(2), big.NewInt(4), big.NewInt(6), big.NewInt(100),
		power(576, -2), power(575, 0),
	}
	for k := 64; k < 576; k += 64 {
		wrong = append(wrong, power(k, 0), power(k, -2), power(k, 2))
	}
	r := rand.New(rand.NewSource(3))
	for range 100 {
		m := draw(r, 1+r.Intn(576))
		wrong = append(wrong, m.SetBit(m, 0, 0))
	}
	for _, m := range wrong {
		if x, errno := New(natOf(m)); x != nil || errno != api.ErrMontModulus {
			t.Errorf("New of %x: %v, %d", m, x, errno)
		}
	}
}

func TestNewOfRightModulus(t *testing.T) {
	for _, m := range moduli() {
		made(t, m)
	}
}

// P6.1: Words

func TestWords(t *testing.T) {
	for _, m := range moduli() {
		if got := made(t, m).Words(); got != wordsOf(m) {
			t.Errorf("Words of %x: %d", m, got)
		}
	}
}

func TestWordsAtEachEnd(t *testing.T) {
	for k := 1; k <= 9; k++ {
		for _, m := range []*big.Int{power(64*k-1, 1), power(64*k, -1)} {
			if got := made(t, m).Words(); got != k {
				t.Errorf("Words of %x: %d, not %d", m, got, k)
			}
		}
		if k == 9 {
			break
		}
		for _, m := range []*big.Int{power(64*k, 1), power(64*k+1, -1)} {
			if got := made(t, m).Words(); got != k+1 {
				t.Errorf("Words of %x: %d, not %d", m, got, k+1)
			}
		}
	}
}

// P6.1: To, From, Mul

func checkTo(t *testing.T, x *Mont, a *big.Int, m *big.Int) {
	t.Helper()
	got, errno := x.To(natOf(a))
	if want := natOf(product(m, a, radix(m))); got != want || errno != api.OK {
		t.Fatalf("modulo %x: To(%x): %x, %d; not %x", m, a, got.W, errno, want.W)
	}
	if back, errno := x.From(got); back != natOf(a) || errno != api.OK {
		t.Fatalf("modulo %x: From(To(%x)): %x, %d", m, a, back.W, errno)
	}
}

func checkFrom(t *testing.T, x *Mont, a *big.Int, m *big.Int) {
	t.Helper()
	got, errno := x.From(natOf(a))
	if want := natOf(product(m, a, radixInverse(m))); got != want || errno != api.OK {
		t.Fatalf("modulo %x: From(%x): %x, %d; not %x", m, a, got.W, errno, want.W)
	}
	if back, errno := x.To(got); back != natOf(a) || errno != api.OK {
		t.Fatalf("modulo %x: To(From(%x)): %x, %d", m, a, back.W, errno)
	}
}

func checkMul(t *testing.T, x *Mont, a *big.Int, b *big.Int, m *big.Int) {
	t.Helper()
	got, errno := x.Mul(natOf(a), natOf(b))
	if want := natOf(product(m, a, b, radixInverse(m))); got != want || errno != api.OK {
		t.Fatalf("modulo %x: Mul(%x, %x): %x, %d; not %x", m, a, b, got.W, errno, want.W)
	}
}

func TestTo(t *testing.T) {
	for _, m := range moduli() {
		x := made(t, m)
		for _, a := range members(m, 30) {
			checkTo(t, x, a, m)
		}
	}
}

func TestFrom(t *testing.T) {
	for _, m := range moduli() {
		x := made(t, m)
		for _, a := range members(m, 30) {
			checkFrom(t, x, a, m)
		}
	}
}

func TestMul(t *testing.T) {
	for _, m := range moduli() {
		x := made(t, m)
		list := members(m, 12)
		for _, a := range list {
			for _, b := range list {
				checkMul(t, x, a, b, m)
			}
		}
	}
}

// TestSmallModuli goes through all pairs there are.
func TestSmallModuli(t *testing.T) {
	for n := int64(3); n < 40; n += 2 {
		m := big.NewInt(n)
		x := made(t, m)
		for a := range n {
			checkTo(t, x, big.NewInt(a), m)
			checkFrom(t, x, big.NewInt(a), m)
			checkInv(t, x, big.NewInt(a), m)
			for b := range n {
				checkMul(t, x, big.NewInt(a), big.NewInt(b), m)
			}
		}
	}
}

// TestNumbersByHand: R leaves 1 modulo these: 2^64 leaves -1 modulo 2^64 + 1,
// but that has two words.
func TestNumbersByHand(t *testing.T) {
	for _, m := range []*big.Int{power(64, -1), power(64, 1), power(576, -1), big.NewInt(3)} {
		x := made(t, m)
		seven := natOf(product(m, big.NewInt(7)))
		last := natOf(plus(m, -1))
		for _, a := range []api.Nat{{}, small(1), seven, last} {
			to, e := x.To(a)
			from, f := x.From(a)
			if to != a || from != a || e != api.OK || f != api.OK {
				t.Errorf("modulo %x: %x: %x, %x, %d, %d", m, a.W, to.W, from.W, e, f)
			}
		}
		if one, errno := x.Mul(last, last); one != small(1) || errno != api.OK {
			t.Errorf("modulo %x: the square of the last: %x, %d", m, one.W, errno)
		}
	}
	// modulo 7 the power 2^64 leaves 2, and 2 by 4 leaves 1
	x := made(t, big.NewInt(7))
	to, _ := x.To(small(3))
	from, _ := x.From(small(6))
	mul, _ := x.Mul(small(3), small(4))
	inv, errno := x.Inv(small(3))
	if to != small(6) || from != small(3) || mul != small(6) || inv != small(6) || errno != api.OK {
		t.Errorf("modulo 7: %d, %d, %d, %d, %d", to.W[0], from.W[0], mul.W[0], inv.W[0], errno)
	}
}

// TestManyDrawn looks for carries that seldom come: full words in the modulus
// and in both numbers.
func TestManyDrawn(t *testing.T) {
	r := rand.New(rand.NewSource(4))
	for range 4000 {
		m := draw(r, 2+r.Intn(575))
		m.SetBit(m, 0, 1)
		if m.Cmp(big.NewInt(3)) < 0 {
			continue
		}
		x := made(t, m)
		a, b := draw(r, 576), draw(r, 576)
		a.Mod(a, m)
		b.Mod(b, m)
		checkTo(t, x, a, m)
		checkFrom(t, x, b, m)
		checkMul(t, x, a, b, m)
	}
}

// P6.1: Inv

// checkInv leaves to math/big whether a has an inverse.
func checkInv(t *testing.T, x *Mont, a *big.Int, m *big.Int) {
	t.Helper()
	got, errno := x.Inv(natOf(a))
	inverse := new(big.Int).ModInverse(a, m)
	if inverse == nil {
		if got != (api.Nat{}) || errno != api.ErrDivideNone {
			t.Fatalf("modulo %x: Inv(%x): %x, %d", m, a, got.W, errno)
		}
		return
	}
	want := natOf(product(m, radix(m), radix(m), inverse))
	if got != want || errno != api.OK {
		t.Fatalf("modulo %x: Inv(%x): %x, %d; not %x", m, a, got.W, errno, want.W)
	}
	one, _ := x.To(small(1))
	if y, errno := x.Mul(natOf(a), got); y != one || errno != api.OK {
		t.Fatalf("modulo %x: Mul(%x, Inv of it): %x, %d", m, a, y.W, errno)
	}
}

func TestInv(t *testing.T) {
	for _, m := range moduli() {
		x := made(t, m)
		for _, a := range members(m, 20) {
			checkInv(t, x, a, m)
		}
	}
}

func TestInvOfZero(t *testing.T) {
	for _, m := range moduli() {
		if got, errno := made(t, m).Inv(api.Nat{}); got != (api.Nat{}) || errno != api.ErrDivideNone {
			t.Errorf("modulo %x: %x, %d", m, got.W, errno)
		}
	}
}

// TestInvOfSharedFactor: each modulus is a product, each number a multiple of
// one of its factors.
func TestInvOfSharedFactor(t *testing.T) {
	r := rand.New(rand.NewSource(5))
	for size := 4; size <= 576; size += 11 {
		f := draw(r, size/2)
		f.SetBit(f, 0, 1).SetBit(f, 1, 1)
		g := draw(r, size-size/2)
		g.SetBit(g, 0, 1).SetBit(g, 1, 1)
		m := new(big.Int).Mul(f, g)
		x := made(t, m)
		for _, a := range []*big.Int{f, g, new(big.Int).Sub(m, f), product(m, f, draw(r, 576))} {
			if got, errno := x.Inv(natOf(a)); got != (api.Nat{}) || errno != api.ErrDivideNone {
				t.Errorf("modulo %x: Inv(%x): %x, %d", m, a, got.W, errno)
			}
		}
	}
}

// P6.2

func TestProductThereAndBack(t *testing.T) {
	for _, m := range moduli() {
		x := made(t, m)
		list := members(m, 8)
		for _, a := range list {
			for _, b := range list {
				ar, e := x.To(natOf(a))
				br, f := x.To(natOf(b))
				abr, g := x.Mul(ar, br)
				ab, h := x.From(abr)
				if ab != natOf(product(m, a, b)) || e != api.OK || f != api.OK || g != api.OK || h != api.OK {
					t.Fatalf("modulo %x: %x by %x: %x", m, a, b, ab.W)
				}
			}
		}
	}
}

// P6.1, R2, R6: what is not below the modulus, which error comes first, and
// what stands beside it

func TestOutside(t *testing.T) {
	for _, m := range moduli() {
		x := made(t, m)
		for _, a := range outside(m) {
			to, e := x.To(a)
			from, f := x.From(a)
			inv, g := x.Inv(a)
			if e != api.ErrMontRange || f != api.ErrMontRange || g != api.ErrMontRange {
				t.Errorf("modulo %x: %x: %d, %d, %d", m, a.W, e, f, g)
			}
			if to != (api.Nat{}) || from != (api.Nat{}) || inv != (api.Nat{}) {
				t.Errorf("modulo %x: %x: %x, %x, %x", m, a.W, to.W, from.W, inv.W)
			}
			checkMulOutside(t, x, a, m)
		}
	}
}

func checkMulOutside(t *testing.T, x *Mont, wrong api.Nat, m *big.Int) {
	t.Helper()
	for _, b := range []api.Nat{{}, small(1), natOf(plus(m, -1)), wrong} {
		ab, e := x.Mul(wrong, b)
		ba, f := x.Mul(b, wrong)
		if e != api.ErrMontRange || f != api.ErrMontRange || ab != (api.Nat{}) || ba != (api.Nat{}) {
			t.Errorf("modulo %x: Mul of %x and %x: %x, %d, %x, %d", m, wrong.W, b.W, ab.W, e, ba.W, f)
		}
	}
}

// TestInvOutsideFirst: m and what has a part in common with it have no
// inverse either, but they are not below m.
func TestInvOutsideFirst(t *testing.T) {
	x := made(t, big.NewInt(15))
	for _, a := range []uint64{15, 18, 20, 30, 45, 16, 17} {
		if got, errno := x.Inv(small(a)); got != (api.Nat{}) || errno != api.ErrMontRange {
			t.Errorf("Inv(%d): %x, %d", a, got.W, errno)
		}
	}
	for _, a := range []uint64{0, 3, 5, 6, 9, 10, 12} {
		if got, errno := x.Inv(small(a)); got != (api.Nat{}) || errno != api.ErrDivideNone {
			t.Errorf("Inv(%d): %x, %d", a, got.W, errno)
		}
	}
}

// R3

func TestNil(t *testing.T) {
	var x *Mont
	if x.Words() != 0 {
		t.Errorf("Words: %d", x.Words())
	}
	for _, a := range []api.Nat{{}, small(1), natOf(power(576, -1))} {
		to, e := x.To(a)
		from, f := x.From(a)
		mul, g := x.Mul(a, a)
		inv, h := x.Inv(a)
		if e != api.ErrNil || f != api.ErrNil || g != api.ErrNil || h != api.ErrNil {
			t.Errorf("%x: %d, %d, %d, %d", a.W, e, f, g, h)
		}
		if to != (api.Nat{}) || from != (api.Nat{}) || mul != (api.Nat{}) || inv != (api.Nat{}) {
			t.Errorf("%x: %x, %x, %x, %x", a.W, to.W, from.W, mul.W, inv.W)
		}
	}
}

// R1: one that New did not make has no modulus, so nothing is below it

func TestNotMade(t *testing.T) {
	var x Mont
	if x.Words() != 0 {
		t.Errorf("Words: %d", x.Words())
	}
	for _, a := range []api.Nat{{}, small(1), natOf(power(576, -1))} {
		_, e := x.To(a)
		_, f := x.From(a)
		_, g := x.Mul(a, a)
		_, h := x.Inv(a)
		if e != api.ErrMontRange || f != api.ErrMontRange || g != api.ErrMontRange || h != api.ErrMontRange {
			t.Errorf("%x: %d, %d, %d, %d", a.W, e, f, g, h)
		}
	}
}

// R5: an error changes nothing, one Mont does not touch another, and several
// are made and used at one time

func TestErrorsChangeNothing(t *testing.T) {
	m := power(576, -3)
	x := made(t, m)
	before := *x
	x.To(natOf(m))
	x.From(natOf(m))
	x.Mul(natOf(m), small(1))
	x.Inv(natOf(m))
	x.Inv(api.Nat{})
	if *x != before {
		t.Errorf("%v, not %v", *x, before)
	}
	for _, a := range members(m, 10) {
		checkTo(t, x, a, m)
		checkMul(t, x, a, a, m)
	}
}

func TestTwoAtOnce(t *testing.T) {
	m, n := power(521, -1), power(192, -1)
	x, y := made(t, m), made(t, n)
	for _, a := range members(n, 20) {
		checkTo(t, x, a, m)
		checkTo(t, y, a, n)
		checkMul(t, x, a, a, m)
		checkMul(t, y, a, a, n)
	}
}

func TestGoroutines(t *testing.T) {
	var group sync.WaitGroup
	for _, m := range edgeModuli() {
		group.Go(func() {
			x, errno := New(natOf(m))
			if errno != api.OK {
				t.Errorf("New of %x: %d", m, errno)
				return
			}
			for _, a := range members(m, 10) {
				got, errno := x.To(natOf(a))
				if got != natOf(product(m, a, radix(m))) || errno != api.OK {
					t.Errorf("modulo %x: To(%x): %x, %d", m, a, got.W, errno)
				}
			}
		})
	}
	group.Wait()
}
