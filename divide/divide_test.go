package divide

import (
	"math"
	"math/big"
	"math/rand"
	"sync"
	"testing"

	"curvet/api"
	"curvet/nat"
)

const ones = uint64(math.MaxUint64)

// toBig makes math/big the judge: it shares no code with this package.
func toBig(words []uint64) *big.Int {
	x := new(big.Int)
	for i := len(words) - 1; i >= 0; i-- {
		x.Lsh(x, 64).Or(x, new(big.Int).SetUint64(words[i]))
	}
	return x
}

func bigOf(a api.Nat) *big.Int {
	return toBig(a.W[:])
}

// fromBig answers x modulo 2^576.
func fromBig(x *big.Int) api.Nat {
	rest := new(big.Int).Mod(x, new(big.Int).Lsh(big.NewInt(1), 576))
	mask := new(big.Int).SetUint64(ones)
	var a api.Nat
	for i := range a.W {
		a.W[i] = new(big.Int).And(rest, mask).Uint64()
		rest.Rsh(rest, 64)
	}
	return a
}

// small is x as a number.
func small(x uint64) api.Nat {
	return api.Nat{W: [9]uint64{x}}
}

// filled has w in each of its words.
func filled(w uint64) api.Nat {
	var a api.Nat
	for i := range a.W {
		a.W[i] = w
	}
	return a
}

// minus answers 2^k - x.
func minus(k uint, x int64) api.Nat {
	return fromBig(new(big.Int).Sub(new(big.Int).Lsh(big.NewInt(1), k), big.NewInt(x)))
}

// edges are where a word begins or ends, where words are of noughts or of
// ones, and where a guess from the highest word goes too far.
func edges() []api.Nat {
	list := []api.Nat{
		{}, filled(ones), filled(1), filled(1 << 63), filled(0xAAAAAAAAAAAAAAAA),
		{W: [9]uint64{0, 0, 0, 0, 0, 0, 0, 0, ones}},
		{W: [9]uint64{ones, 0, ones, 0, ones, 0, ones, 0, ones}},
		{W: [9]uint64{0, ones, 0, ones, 0, ones, 0, ones}},
		{W: [9]uint64{ones, 0, 0, 0, 0, 0, 0, 0, 1}},
		{W: [9]uint64{ones, ones, 1 << 63}},
		{W: [9]uint64{0, 0, 1 << 63}},
		{W: [9]uint64{0, ones - 1, 1 << 63}},
	}
	for _, k := range []uint{0, 1, 8, 32, 63, 64, 65, 127, 128, 129, 512, 521, 574, 575} {
		for _, x := range []int64{-1, 0, 1, 2} {
			list = append(list, minus(k, x))
		}
	}
	return list
}

// drawn are numbers of all lengths, many of them with words of noughts or ones.
func drawn(r *rand.Rand, count int) []api.Nat {
	list := make([]api.Nat, count)
	for n := range list {
		words := r.Intn(api.Words + 1)
		for i := range words {
			switch r.Intn(4) {
			case 0:
			case 1:
				list[n].W[i] = ones
			default:
				list[n].W[i] = r.Uint64() >> r.Intn(64)
			}
		}
	}
	return list
}

func samples(count int) []api.Nat {
	return append(edges(), drawn(rand.New(rand.NewSource(1)), count)...)
}

// divisors are the samples but 0.
func divisors(count int) []api.Nat {
	var list []api.Nat
	for _, m := range samples(count) {
		if m != (api.Nat{}) {
			list = append(list, m)
		}
	}
	return list
}

// P4.1: Div

func checkDiv(t *testing.T, a api.Nat, m api.Nat) {
	t.Helper()
	q, r := new(big.Int).QuoRem(bigOf(a), bigOf(m), new(big.Int))
	quotient, rest, errno := Div(a, m)
	if quotient != fromBig(q) || rest != fromBig(r) || errno != api.OK {
		t.Fatalf("Div(%x, %x) = %x, %x, %d", a.W, m.W, quotient.W, rest.W, errno)
	}
}

func TestDiv(t *testing.T) {
	for _, m := range divisors(100) {
		for _, a := range samples(100) {
			checkDiv(t, a, m)
		}
	}
}

// TestDivAtMultiples asks where a rest is 0 or about to be, for quotients of
// all lengths.
func TestDivAtMultiples(t *testing.T) {
	r := rand.New(rand.NewSource(2))
	for _, m := range divisors(40) {
		most, _, _ := Div(filled(ones), m)
		for _, q := range append(drawn(r, 30), most) {
			product := new(big.Int).Mul(bigOf(q), bigOf(m))
			for _, x := range []int64{-1, 0, 1} {
				near := new(big.Int).Add(product, big.NewInt(x))
				if near.Sign() >= 0 && near.BitLen() <= 576 {
					checkDiv(t, fromBig(near), m)
				}
			}
		}
	}
}

func TestDivByOne(t *testing.T) {
	for _, a := range samples(20) {
		if q, r, errno := Div(a, small(1)); q != a || r != (api.Nat{}) || errno != api.OK {
			t.Errorf("%x by 1: %x, %x, %d", a.W, q.W, r.W, errno)
		}
	}
}

func TestDivByTheGreatest(t *testing.T) {
	all := filled(ones)
	if q, r, errno := Div(all, all); q != small(1) || r != (api.Nat{}) || errno != api.OK {
		t.Errorf("by itself: %x, %x, %d", q.W, r.W, errno)
	}
	less := all
	less.W[0]--
	if q, r, errno := Div(less, all); q != (api.Nat{}) || r != less || errno != api.OK {
		t.Errorf("one less by it: %x, %x, %d", q.W, r.W, errno)
	}
}

func TestDivOfLikeNumbers(t *testing.T) {
	for _, m := range divisors(20) {
		if q, r, errno := Div(m, m); q != small(1) || r != (api.Nat{}) || errno != api.OK {
			t.Errorf("%x by itself: %x, %x, %d", m.W, q.W, r.W, errno)
		}
		less, _ := nat.Sub(m, small(1))
		if q, r, errno := Div(less, m); q != (api.Nat{}) || r != less || errno != api.OK {
			t.Errorf("one less than %x by it: %x, %x, %d", m.W, q.W, r.W, errno)
		}
	}
}

func TestDivByHand(t *testing.T) {
	rows := []struct{ a, m, q, r api.Nat }{
		{small(0), small(5), small(0), small(0)},
		{small(4), small(5), small(0), small(4)},
		{small(17), small(5), small(3), small(2)},
		{minus(64, 0), small(10), small(1844674407370955161), small(6)},
		{minus(128, 1), small(ones), api.Nat{W: [9]uint64{1, 1}}, small(0)},
		{minus(575, 0), minus(511, 0), minus(64, 0), small(0)},
	}
	for _, row := range rows {
		if q, r, errno := Div(row.a, row.m); q != row.q || r != row.r || errno != api.OK {
			t.Errorf("%x by %x: %x, %x, %d", row.a.W, row.m.W, q.W, r.W, errno)
		}
	}
}

// TestGuessesTooGreat asks where the highest words alone say one or two more
// than goes, and where they say more than a word holds.
func TestGuessesTooGreat(t *testing.T) {
	rows := []struct{ a, m api.Nat }{
		{api.Nat{W: [9]uint64{0, 0, 1 << 63}}, api.Nat{W: [9]uint64{ones, 1 << 63}}},
		{api.Nat{W: [9]uint64{0, 0, 1<<63 - 1}}, api.Nat{W: [9]uint64{ones, 1 << 63}}},
		{api.Nat{W: [9]uint64{0, ones, 1<<63 - 1}}, api.Nat{W: [9]uint64{ones, 1 << 63}}},
		{api.Nat{W: [9]uint64{0, 0, 1 << 63, 1<<63 - 1}}, api.Nat{W: [9]uint64{1, 0, 1 << 63}}},
		{api.Nat{W: [9]uint64{0, ones - 1, 1 << 63}}, api.Nat{W: [9]uint64{ones, 1 << 63}}},
		{api.Nat{W: [9]uint64{3, 0, 1 << 63}}, api.Nat{W: [9]uint64{1, 0, 1 << 61}}},
		{filled(ones), api.Nat{W: [9]uint64{0, ones, ones}}},
	}
	for _, row := range rows {
		checkDiv(t, row.a, row.m)
	}
}

// P4.1: Mod

func checkMod(t *testing.T, w api.Wide, m api.Nat) {
	t.Helper()
	want := fromBig(new(big.Int).Mod(toBig(w.W[:]), bigOf(m)))
	if got, errno := Mod(w, m); got != want || errno != api.OK {
		t.Fatalf("Mod(%x, %x) = %x, %d", w.W, m.W, got.W, errno)
	}
}

// wides are as long as they can be, as numbers are, and empty.
func wides() []api.Wide {
	var none, all, top api.Wide
	for i := range all.W {
		all.W[i] = ones
	}
	top.W[17] = 1 << 63
	list := []api.Wide{none, all, top, nat.Mul(filled(ones), filled(ones))}
	for _, a := range samples(10) {
		for _, b := range []api.Nat{{}, filled(ones), filled(1), a} {
			var w api.Wide
			copy(w.W[:], a.W[:])
			copy(w.W[9:], b.W[:])
			list = append(list, w)
		}
	}
	return list
}

func TestMod(t *testing.T) {
	for _, m := range divisors(60) {
		for _, w := range wides() {
			checkMod(t, w, m)
		}
	}
}

func TestModOfTheGreatest(t *testing.T) {
	all := filled(ones)
	if got, errno := Mod(nat.Mul(all, all), all); got != (api.Nat{}) || errno != api.OK {
		t.Errorf("the greatest product: %x, %d", got.W, errno)
	}
	// 2^1152 - 1 is (2^576 - 1) (2^576 + 1)
	wide := wides()[1]
	if got, errno := Mod(wide, all); got != (api.Nat{}) || errno != api.OK {
		t.Errorf("the greatest Wide: %x, %d", got.W, errno)
	}
	if got, errno := Mod(wide, minus(575, 0)); got != minus(575, 1) || errno != api.OK {
		t.Errorf("the greatest Wide by 2^575: %x, %d", got.W, errno)
	}
	if got, errno := Mod(wide, small(1)); got != (api.Nat{}) || errno != api.OK {
		t.Errorf("the greatest Wide by 1: %x, %d", got.W, errno)
	}
	if got, errno := Mod(wide, small(10)); got != small(5) || errno != api.OK {
		t.Errorf("the greatest Wide by 10: %x, %d", got.W, errno)
	}
}

// P4.1: MulMod

func TestMulMod(t *testing.T) {
	list := samples(10)
	for _, m := range divisors(10) {
		for i, a := range list {
			b := list[(i*7+3)%len(list)]
			want := fromBig(new(big.Int).Mod(new(big.Int).Mul(bigOf(a), bigOf(b)), bigOf(m)))
			if got, errno := MulMod(a, b, m); got != want || errno != api.OK {
				t.Fatalf("MulMod(%x, %x, %x) = %x, %d", a.W, b.W, m.W, got.W, errno)
			}
		}
	}
}

func TestMulModByHand(t *testing.T) {
	rows := [][4]uint64{{0, 5, 7, 0}, {3, 4, 5, 2}, {6, 6, 7, 1}, {100, 100, 7, 4}, {9, 9, 1, 0}, {9, 9, 81, 0}, {9, 9, 82, 81}}
	for _, row := range rows {
		got, errno := MulMod(small(row[0]), small(row[1]), small(row[2]))
		if got != small(row[3]) || errno != api.OK {
			t.Errorf("%d: %x, %d", row, got.W, errno)
		}
	}
	all := filled(ones)
	less := all
	less.W[0]--
	if got, errno := MulMod(less, less, all); got != small(1) || errno != api.OK {
		t.Errorf("minus 1 squared: %x, %d", got.W, errno)
	}
}

// P4.1: PowMod

func checkPow(t *testing.T, a api.Nat, e api.Nat, m api.Nat) {
	t.Helper()
	want := fromBig(new(big.Int).Exp(bigOf(a), bigOf(e), bigOf(m)))
	if got, errno := PowMod(a, e, m); got != want || errno != api.OK {
		t.Fatalf("PowMod(%x, %x, %x) = %x, %d", a.W, e.W, m.W, got.W, errno)
	}
}

func TestPowMod(t *testing.T) {
	list, r := divisors(60), rand.New(rand.NewSource(3))
	for _, m := range list {
		for range 3 {
			checkPow(t, list[r.Intn(len(list))], list[r.Intn(len(list))], m)
		}
	}
}

func TestPowModOfEdges(t *testing.T) {
	all := filled(ones)
	for _, m := range []api.Nat{small(1), small(2), small(7), small(10), minus(64, 0), minus(521, 1), minus(575, 0), all} {
		for _, e := range []api.Nat{{}, small(1), small(2), minus(64, 0), minus(575, 0), all} {
			beyond, _ := nat.Add(m, small(3))
			for _, a := range []api.Nat{{}, small(1), m, beyond, all} {
				checkPow(t, a, e, m)
			}
		}
	}
}

func TestPowModByHand(t *testing.T) {
	rows := [][4]uint64{
		{0, 0, 7, 1}, {5, 0, 7, 1}, {5, 0, 2, 1}, {5, 0, 1, 0}, {0, 0, 1, 0}, {0, 1, 7, 0}, {0, 9, 7, 0},
		{3, 1, 7, 3}, {10, 1, 7, 3}, {7, 1, 7, 0}, {2, 10, 1000, 24}, {3, 5, 7, 5}, {5, 9, 1, 0}, {12, 2, 5, 4},
	}
	for _, row := range rows {
		got, errno := PowMod(small(row[0]), small(row[1]), small(row[2]))
		if got != small(row[3]) || errno != api.OK {
			t.Errorf("%d: %x, %d", row, got.W, errno)
		}
	}
}

// P4.2

func checkInverse(t *testing.T, a api.Nat, m api.Nat) {
	t.Helper()
	got, errno := Inverse(a, m)
	want := new(big.Int).ModInverse(bigOf(a), bigOf(m))
	if want == nil || m == small(1) {
		if got != (api.Nat{}) || errno != api.ErrDivideNone {
			t.Fatalf("Inverse(%x, %x) = %x, %d, where there is none", a.W, m.W, got.W, errno)
		}
		return
	}
	if got != fromBig(want) || errno != api.OK {
		t.Fatalf("Inverse(%x, %x) = %x, %d", a.W, m.W, got.W, errno)
	}
}

func TestInverse(t *testing.T) {
	for _, m := range divisors(20) {
		for _, a := range samples(40) {
			checkInverse(t, a, m)
		}
	}
}

func TestInverseOfAllSmall(t *testing.T) {
	for m := uint64(1); m < 60; m++ {
		for a := range uint64(130) {
			checkInverse(t, small(a), small(m))
		}
	}
}

func TestInverseOfEdges(t *testing.T) {
	for _, m := range divisors(30) {
		if m == small(1) {
			continue
		}
		if got, errno := Inverse(api.Nat{}, m); got != (api.Nat{}) || errno != api.ErrDivideNone {
			t.Errorf("of 0 by %x: %x, %d", m.W, got.W, errno)
		}
		if got, errno := Inverse(m, m); got != (api.Nat{}) || errno != api.ErrDivideNone {
			t.Errorf("of %x by itself: %x, %d", m.W, got.W, errno)
		}
		if got, errno := Inverse(small(1), m); got != small(1) || errno != api.OK {
			t.Errorf("of 1 by %x: %x, %d", m.W, got.W, errno)
		}
		less, _ := nat.Sub(m, small(1))
		if got, errno := Inverse(less, m); got != less || errno != api.OK {
			t.Errorf("of m - 1 by %x: %x, %d", m.W, got.W, errno)
		}
		if more, over := nat.Add(m, small(1)); !over {
			if got, errno := Inverse(more, m); got != small(1) || errno != api.OK {
				t.Errorf("of m + 1 by %x: %x, %d", m.W, got.W, errno)
			}
		}
	}
}

// TestInverseByOne: everything leaves 0 modulo 1, so that nothing leaves 1.
func TestInverseByOne(t *testing.T) {
	for _, a := range samples(10) {
		if got, errno := Inverse(a, small(1)); got != (api.Nat{}) || errno != api.ErrDivideNone {
			t.Errorf("of %x by 1: %x, %d", a.W, got.W, errno)
		}
	}
}

func TestInverseByAnEvenNumber(t *testing.T) {
	for _, m := range []api.Nat{small(2), small(10), minus(64, 0), minus(576, 2), minus(575, 0), minus(521, 2)} {
		if got, errno := Inverse(small(6), m); got != (api.Nat{}) || errno != api.ErrDivideNone {
			t.Errorf("an even number by %x: %x, %d", m.W, got.W, errno)
		}
		for _, a := range drawn(rand.New(rand.NewSource(4)), 40) {
			a.W[0] |= 1
			checkInverse(t, a, m)
		}
	}
}

func TestInverseOfACommonPart(t *testing.T) {
	r := rand.New(rand.NewSource(5))
	for range 200 {
		part := new(big.Int).Add(new(big.Int).Rand(r, bigOf(minus(200, 0))), big.NewInt(2))
		a := new(big.Int).Mul(part, new(big.Int).Rand(r, bigOf(minus(370, 0))))
		m := new(big.Int).Mul(part, new(big.Int).Add(new(big.Int).Rand(r, bigOf(minus(370, 0))), big.NewInt(1)))
		if got, errno := Inverse(fromBig(a), fromBig(m)); got != (api.Nat{}) || errno != api.ErrDivideNone {
			t.Fatalf("of %x by %x: %x, %d", a, m, got.W, errno)
		}
	}
}

// TestInverseOfALongWay takes two neighbours of Fibonacci's row: no numbers
// of that length take more steps.
func TestInverseOfALongWay(t *testing.T) {
	a, m := big.NewInt(1), big.NewInt(2)
	for m.BitLen() <= 575 {
		a, m = m, new(big.Int).Add(a, m)
		checkInverse(t, fromBig(a), fromBig(m))
	}
}

// R2 and R6

func TestZeroDivisor(t *testing.T) {
	for _, a := range samples(5) {
		if q, r, errno := Div(a, api.Nat{}); q != (api.Nat{}) || r != (api.Nat{}) || errno != api.ErrDivideZero {
			t.Errorf("Div: %x, %x, %d", q.W, r.W, errno)
		}
		if r, errno := Mod(widen(a), api.Nat{}); r != (api.Nat{}) || errno != api.ErrDivideZero {
			t.Errorf("Mod: %x, %d", r.W, errno)
		}
		if r, errno := MulMod(a, a, api.Nat{}); r != (api.Nat{}) || errno != api.ErrDivideZero {
			t.Errorf("MulMod: %x, %d", r.W, errno)
		}
		for _, e := range []api.Nat{{}, small(1), filled(ones)} {
			if r, errno := PowMod(a, e, api.Nat{}); r != (api.Nat{}) || errno != api.ErrDivideZero {
				t.Errorf("PowMod: %x, %d", r.W, errno)
			}
		}
		// there is none either, but ErrDivideZero is named first
		if r, errno := Inverse(a, api.Nat{}); r != (api.Nat{}) || errno != api.ErrDivideZero {
			t.Errorf("Inverse: %x, %d", r.W, errno)
		}
	}
}

// R5

func TestFromSeveralGoroutines(t *testing.T) {
	var group sync.WaitGroup
	for n := range 8 {
		group.Go(func() {
			a := fromBig(new(big.Int).Lsh(big.NewInt(int64(2*n+3)), 500))
			m := minus(521, 1)
			want := fromBig(new(big.Int).Exp(bigOf(a), big.NewInt(65537), bigOf(m)))
			for range 20 {
				if got, errno := PowMod(a, small(65537), m); got != want || errno != api.OK {
					t.Errorf("%d: %x, %d", n, got.W, errno)
				}
			}
		})
	}
	group.Wait()
}

func BenchmarkMulMod(b *testing.B) {
	a, m := filled(0xAAAAAAAAAAAAAAAA), minus(576, 789)
	for b.Loop() {
		MulMod(a, a, m)
	}
}

func BenchmarkInverse(b *testing.B) {
	a, m := filled(0xAAAAAAAAAAAAAAAA), minus(576, 789)
	for b.Loop() {
		Inverse(a, m)
	}
}
