package mask

import (
	"math"
	"math/rand"
	"strings"
	"testing"

	"curvet/api"
)

const ones = uint64(math.MaxUint64)

// maskOf tells by a branch what the package must tell without one.
func maskOf(holds bool) uint64 {
	if holds {
		return ones
	}
	return 0
}

// edges are words about 0, about each power of two, and about 2^64 - 1.
func edges() []uint64 {
	list := []uint64{0, ones, ones - 1, ones - 2, 0xAAAAAAAAAAAAAAAA, 0x5555555555555555}
	for k := range 64 {
		p := uint64(1) << k
		list = append(list, p-1, p, p+1, -p, ^p)
	}
	return list
}

func samples() []uint64 {
	r := rand.New(rand.NewSource(1))
	list := edges()
	for range 60 {
		list = append(list, r.Uint64()>>r.Intn(64))
	}
	return list
}

// drawn has words that have nothing to do with one another.
func drawn(r *rand.Rand) api.Nat {
	var a api.Nat
	for i := range a.W {
		a.W[i] = r.Uint64()
	}
	return a
}

func filled(w uint64) api.Nat {
	var a api.Nat
	for i := range a.W {
		a.W[i] = w
	}
	return a
}

// bitByBit walks the bits one by one: slow, and plainly what the chapter says.
func bitByBit(m uint64, a api.Nat, b api.Nat) api.Nat {
	var chosen api.Nat
	for i := range chosen.W {
		for k := range 64 {
			from := b.W[i]
			if m>>k&1 == 1 {
				from = a.W[i]
			}
			chosen.W[i] |= from >> k & 1 << k
		}
	}
	return chosen
}

// P2.1

func TestZero(t *testing.T) {
	for _, x := range samples() {
		if got := Zero(x); got != maskOf(x == 0) {
			t.Errorf("Zero(%x) = %x", x, got)
		}
	}
}

func TestZeroOfSingleBits(t *testing.T) {
	if got := Zero(0); got != ones {
		t.Errorf("Zero(0) = %x", got)
	}
	for k := range 64 {
		if got := Zero(1 << k); got != 0 {
			t.Errorf("Zero(2^%d) = %x", k, got)
		}
	}
}

func TestEqualAndLess(t *testing.T) {
	for _, a := range samples() {
		for _, b := range samples() {
			if got := Equal(a, b); got != maskOf(a == b) {
				t.Fatalf("Equal(%x, %x) = %x", a, b, got)
			}
			if got := Less(a, b); got != maskOf(a < b) {
				t.Fatalf("Less(%x, %x) = %x", a, b, got)
			}
		}
	}
}

func TestEqualAndLessAtTheEdges(t *testing.T) {
	const half = uint64(1) << 63
	cases := []struct{ less, more uint64 }{
		{0, 1}, {0, half}, {0, ones}, {1, 2}, {1, half}, {1, ones},
		{half - 1, half}, {half, half + 1}, {half - 1, half + 1},
		{half - 1, ones}, {half, ones}, {half + 1, ones}, {ones - 1, ones},
	}
	for _, c := range cases {
		if Less(c.less, c.more) != ones || Less(c.more, c.less) != 0 {
			t.Errorf("%x is less than %x, and not the other way round", c.less, c.more)
		}
		if Equal(c.less, c.more) != 0 || Equal(c.more, c.less) != 0 {
			t.Errorf("%x is not %x", c.less, c.more)
		}
		for _, x := range []uint64{c.less, c.more} {
			if Equal(x, x) != ones || Less(x, x) != 0 {
				t.Errorf("%x is itself, and not less", x)
			}
		}
	}
}

func TestSelectAndSwap(t *testing.T) {
	r := rand.New(rand.NewSource(2))
	numbers := []api.Nat{{}, filled(ones), filled(1), filled(1 << 63), drawn(r), drawn(r), drawn(r)}
	masks := append(edges(), r.Uint64(), r.Uint64(), 0xff00ff00ff00ff00)
	for _, m := range masks {
		for _, a := range numbers {
			for _, b := range numbers {
				byM, other := bitByBit(m, a, b), bitByBit(m, b, a)
				if got := Select(m, a, b); got != byM {
					t.Fatalf("Select(%x, %x, %x) = %x", m, a.W, b.W, got.W)
				}
				first, second := Swap(m, a, b)
				if first != other || second != byM {
					t.Fatalf("Swap(%x, %x, %x) = %x, %x", m, a.W, b.W, first.W, second.W)
				}
			}
		}
	}
}

func TestSelectAndSwapByWholeMasks(t *testing.T) {
	r := rand.New(rand.NewSource(3))
	a, b := drawn(r), drawn(r)
	if Select(ones, a, b) != a || Select(0, a, b) != b {
		t.Error("all ones take the first, 0 the second")
	}
	if first, second := Swap(ones, a, b); first != b || second != a {
		t.Errorf("all ones swap: %x, %x", first.W, second.W)
	}
	if first, second := Swap(0, a, b); first != a || second != b {
		t.Errorf("0 leaves them: %x, %x", first.W, second.W)
	}
}

// A word that is no mask is taken as it is, in each of the nine words.
func TestSelectBySingleBits(t *testing.T) {
	for k := range 64 {
		m := uint64(1) << k
		if got := Select(m, filled(ones), api.Nat{}); got != filled(m) {
			t.Errorf("bit %d of the first: %x", k, got.W)
		}
		if got := Select(m, api.Nat{}, filled(ones)); got != filled(^m) {
			t.Errorf("all but bit %d of the second: %x", k, got.W)
		}
		first, second := Swap(m, filled(ones), api.Nat{})
		if first != filled(^m) || second != filled(m) {
			t.Errorf("bit %d swapped: %x, %x", k, first.W, second.W)
		}
	}
}

func TestSameTexts(t *testing.T) {
	for _, size := range []int{0, 1, 7, 8, 9, 63, 64, 65, 255, 256, 257, api.MaxText} {
		for _, b := range []string{"\x00", "a", "\x80", "\xff"} {
			// clones, so that no answer may lean on where a text lies
			s, again := strings.Repeat(b, size), strings.Clone(strings.Repeat(b, size))
			if got := Same(s, again); got != ones {
				t.Errorf("%d times %q: %x", size, b, got)
			}
		}
	}
}

func TestSameTellsEachBit(t *testing.T) {
	r := rand.New(rand.NewSource(4))
	for _, size := range []int{1, 2, 8, 9, 64, 300} {
		raw := make([]byte, size)
		r.Read(raw)
		for i := range raw {
			for k := range 8 {
				other := []byte(string(raw))
				other[i] ^= 1 << k
				checkApart(t, string(raw), string(other))
			}
		}
	}
}

// Two bytes that differ in one way must not make up for one another.
func TestSameTellsPairsOfBytes(t *testing.T) {
	for _, c := range []struct{ a, b string }{
		{"ab", "ba"}, {"\x01\x01", "\x00\x00"}, {"\x80\x80", "\x00\x00"},
		{"\x01\xff", "\x00\x00"}, {"aaaaaaaab", "baaaaaaaa"},
		{strings.Repeat("\x01", 256), strings.Repeat("\x00", 256)},
	} {
		checkApart(t, c.a, c.b)
	}
}

func TestSameTellsTheEnds(t *testing.T) {
	middle := strings.Repeat("m", api.MaxText-1)
	checkApart(t, "a"+middle, "b"+middle)
	checkApart(t, middle+"a", middle+"b")
}

func TestSameTellsTheLength(t *testing.T) {
	for _, size := range []int{0, 1, 8, 255, 256, 511, 512, api.MaxText - 1} {
		for _, b := range []string{"\x00", "a", "\xff"} {
			s := strings.Repeat(b, size)
			checkApart(t, s, s+"\x00")
			checkApart(t, s, s+b)
			checkApart(t, s, b+s)
		}
	}
	// lengths whose difference has no bit in the low byte, nor in the low two
	checkApart(t, "", strings.Repeat("\x00", 256))
	checkApart(t, "", strings.Repeat("\x00", 65536))
}

func checkApart(t *testing.T, a string, b string) {
	t.Helper()
	if got := Same(a, b); got != 0 {
		t.Errorf("Same of texts of %d and %d bytes: %x", len(a), len(b), got)
	}
	if got := Same(b, a); got != 0 {
		t.Errorf("Same of texts of %d and %d bytes, the other way round: %x", len(b), len(a), got)
	}
}
