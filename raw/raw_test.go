package raw

import (
	"crypto/ecdsa"
	"crypto/elliptic"
	"crypto/sha256"
	"crypto/sha512"
	"encoding/base64"
	"math/big"
	"math/rand"
	"slices"
	"strconv"
	"strings"
	"sync"
	"testing"

	"curvet/api"
	"curvet/der"
)

func checkPut(t *testing.T, m model, x two) {
	t.Helper()
	if got, errno := Put(m.id, x.sig()); got != m.write(x) || errno != api.OK {
		t.Fatalf("curve %d: %x, %x: %x, %d; not %x", m.id, x.r, x.s, got, errno, m.write(x))
	}
}

// checkTaken: a text is taken for x, and written as it stood.
func checkTaken(t *testing.T, m model, text string, x two) {
	t.Helper()
	got, errno := Get(m.id, text)
	if got != x.sig() || errno != api.OK {
		t.Fatalf("curve %d: %x: %v, %d; not %v", m.id, text, got, errno, x.sig())
	}
	if again, errno := Put(m.id, got); again != text || errno != api.OK {
		t.Fatalf("curve %d: %x came back as %x, %d", m.id, text, again, errno)
	}
}

// checkBoth: a signature is written and comes back.
func checkBoth(t *testing.T, m model, x two) {
	t.Helper()
	checkPut(t, m, x)
	checkTaken(t, m, m.write(x), x)
}

// checkUnwritten: beside an error stands no text.
func checkUnwritten(t *testing.T, id int, s api.Sig, want api.Errno) {
	t.Helper()
	if got, errno := Put(id, s); got != "" || errno != want {
		t.Fatalf("curve %d: %v: %x, %d; not %d", id, s, got, errno, want)
	}
}

// checkNone: beside an error the signature is a zero value.
func checkNone(t *testing.T, id int, text string, want api.Errno) {
	t.Helper()
	if got, errno := Get(id, text); got != (api.Sig{}) || errno != want {
		t.Fatalf("curve %d: %d bytes, %x: %v, %d; not %d", id, len(text), beginning(text), got, errno, want)
	}
}

// beginning answers no more of a text than is good to read.
func beginning(text string) string {
	return text[:min(len(text), 200)]
}

// checkRead: a text is taken or refused as the model reads it.
func checkRead(t *testing.T, m model, text string) {
	t.Helper()
	if x, errno := m.read(text); errno == api.OK {
		checkTaken(t, m, text, x)
	} else {
		checkNone(t, m.id, text, errno)
	}
}

// checkHanded: a signature is written or refused as the model says.
func checkHanded(t *testing.T, m model, x two) {
	t.Helper()
	if m.takes(x) {
		checkBoth(t, m, x)
	} else {
		checkUnwritten(t, m.id, x.sig(), api.ErrRawRange)
	}
}

// P23.1: what is written and comes back

// TestWritten: rows that were written by hand, of a tiny curve, whose N is df, and of
// one whose halves have 66 bytes.
func TestWritten(t *testing.T) {
	t.Parallel()
	for _, c := range []struct{ r, s, want string }{
		{"0", "0", "0000"}, {"1", "0", "0100"}, {"0", "1", "0001"}, {"7f", "80", "7f80"}, {"de", "12", "de12"}, {"12", "de", "12de"},
	} {
		x := two{new(big.Int), new(big.Int)}
		x.r.SetString(c.r, 16)
		x.s.SetString(c.s, 16)
		if got, errno := Put(api.CurveTiny1, x.sig()); got != unhex(t, c.want) || errno != api.OK {
			t.Errorf("%s, %s: %x, %d", c.r, c.s, got, errno)
		}
		long := strings.Repeat("00", 65)
		if got, errno := Put(api.CurveP521, x.sig()); got != unhex(t, long+c.want[:2]+long+c.want[2:]) || errno != api.OK {
			t.Errorf("%s, %s: %x, %d", c.r, c.s, got, errno)
		}
	}
}

// TestLengths: what is written is as long on a curve for every signature.
func TestLengths(t *testing.T) {
	t.Parallel()
	lengths := []int{48, 56, 64, 96, 132, 64, 40, 56, 64, 80, 96, 128, 2, 2, 2}
	for i, m := range models() {
		r := rand.New(rand.NewSource(1))
		for _, x := range m.samples(r) {
			if got, errno := Put(m.id, x.sig()); len(got) != lengths[i] || errno != api.OK {
				t.Errorf("curve %d: %d bytes, %d", m.id, len(got), errno)
			}
		}
	}
}

// TestEdges: every number around a power of 2, with itself and with those at both ends
// of what is below N.
func TestEdges(t *testing.T) {
	eachCurve(t, func(t *testing.T, m model, r *rand.Rand) {
		for _, x := range m.edges() {
			checkBoth(t, m, two{x, x})
			for _, y := range []*big.Int{big.NewInt(0), big.NewInt(1), big.NewInt(128), more(m.n, -1), new(big.Int).Rand(r, m.n)} {
				checkBoth(t, m, two{x, y})
				checkBoth(t, m, two{y, x})
			}
		}
	})
}

// TestEdgesTogether: each of them with each other one.
func TestEdgesTogether(t *testing.T) {
	eachCurve(t, func(t *testing.T, m model, _ *rand.Rand) {
		list := m.edges()
		var numbers []api.Nat
		var halves []string
		for _, x := range list {
			numbers = append(numbers, natOf(x))
			halves = append(halves, m.half(x))
		}
		for i := range list {
			for j := range list {
				want := api.Sig{R: numbers[i], S: numbers[j]}
				text, e := Put(m.id, want)
				got, f := Get(m.id, halves[i]+halves[j])
				if text != halves[i]+halves[j] || got != want || e != api.OK || f != api.OK {
					t.Fatalf("curve %d: %x, %x: %x, %d; %v, %d", m.id, list[i], list[j], text, e, got, f)
				}
			}
		}
	})
}

// TestEachLength: drawn numbers of each count of bits, with those of each.
func TestEachLength(t *testing.T) {
	eachCurve(t, func(t *testing.T, m model, r *rand.Rand) {
		for i := range m.n.BitLen() + 1 {
			for range 8 {
				x, y := m.drawnOf(r, i), m.drawn(r)
				checkBoth(t, m, two{x, y})
				checkBoth(t, m, two{y, x})
				checkBoth(t, m, two{x, m.drawnOf(r, i)})
			}
		}
	})
}

// TestFirstBytes: each first byte of a half, and each last one.
func TestFirstBytes(t *testing.T) {
	eachCurve(t, func(t *testing.T, m model, r *rand.Rand) {
		for _, y := range []*big.Int{big.NewInt(0), more(m.n, -1), m.drawn(r)} {
			for b := range 256 {
				ahead := []byte(m.half(new(big.Int).Rand(r, m.n)))
				behind := slices.Clone(ahead)
				ahead[0], behind[m.k-1] = byte(b), byte(b)
				for _, half := range []string{string(ahead), string(behind)} {
					checkRead(t, m, half+m.half(y))
					checkRead(t, m, m.half(y)+half)
					checkRead(t, m, half+half)
				}
			}
		}
	})
}

// TestEachBit: a number with one bit has no other when it comes back.
func TestEachBit(t *testing.T) {
	eachCurve(t, func(t *testing.T, m model, _ *rand.Rand) {
		for i := range m.n.BitLen() {
			for j := 0; j < m.n.BitLen(); j += 7 {
				checkHanded(t, m, two{power(i, 0), power(j, 0)})
				checkHanded(t, m, two{power(j, 0), power(i, 0)})
			}
		}
	})
}

// TestTinyPairs: all pairs of numbers up to a byte's greatest, and some beyond.
func TestTinyPairs(t *testing.T) {
	t.Parallel()
	for _, m := range tinyModels() {
		written := int64(0)
		for a := range int64(300) {
			for b := range int64(300) {
				x := two{big.NewInt(a), big.NewInt(b)}
				checkHanded(t, m, x)
				if m.takes(x) {
					written++
				}
			}
		}
		if n := m.n.Int64(); written != n*n {
			t.Errorf("curve %d: %d signatures", m.id, written)
		}
	}
}

// TestTinyTexts: all texts of two bytes, and all shorter ones.
func TestTinyTexts(t *testing.T) {
	t.Parallel()
	for _, m := range tinyModels() {
		n := int(m.n.Int64())
		checkNone(t, m.id, "", api.ErrRawForm)
		for a := range 256 {
			checkNone(t, m.id, string([]byte{byte(a)}), api.ErrRawForm)
			for b := range 256 {
				text := string([]byte{byte(a), byte(b)})
				if a >= n || b >= n {
					checkNone(t, m.id, text, api.ErrRawRange)
					continue
				}
				checkTaken(t, m, text, two{big.NewInt(int64(a)), big.NewInt(int64(b))})
			}
		}
	}
}

// TestTinyLongerTexts: of three bytes none is taken.
func TestTinyLongerTexts(t *testing.T) {
	t.Parallel()
	for _, m := range tinyModels() {
		for a := range 256 {
			for b := range 256 {
				for _, c := range []byte{0, 1, 127, 128, byte(m.n.Int64() - 1), byte(m.n.Int64()), 255} {
					checkNone(t, m.id, string([]byte{byte(a), byte(b), c}), api.ErrRawForm)
					checkNone(t, m.id, string([]byte{c, byte(a), byte(b)}), api.ErrRawForm)
				}
			}
		}
	}
}

// TestThereAndBack: by the program alone.
func TestThereAndBack(t *testing.T) {
	eachCurve(t, func(t *testing.T, m model, r *rand.Rand) {
		for range 2000 {
			s := m.drawnTwo(r).sig()
			text, e := Put(m.id, s)
			if got, f := Get(m.id, text); got != s || e != api.OK || f != api.OK {
				t.Fatalf("curve %d: %v: %x, %d; %v, %d", m.id, s, text, e, got, f)
			}
		}
	})
}

// TestDrawnTexts: what is taken is written as it stood. Of half of the texts both
// halves are small enough.
func TestDrawnTexts(t *testing.T) {
	eachCurve(t, func(t *testing.T, m model, r *rand.Rand) {
		taken := 0
		for range 2000 {
			b := make([]byte, 2*m.k)
			r.Read(b)
			if r.Intn(2) == 0 {
				b[0], b[m.k] = 0, 0
			}
			checkRead(t, m, string(b))
			if _, errno := m.read(string(b)); errno == api.OK {
				taken++
			}
		}
		if taken < 900 {
			t.Errorf("curve %d: %d are taken", m.id, taken)
		}
	})
}

// TestOneText: two signatures never have one text.
func TestOneText(t *testing.T) {
	eachCurve(t, func(t *testing.T, m model, r *rand.Rand) {
		var texts []string
		list := m.few(r)
		for _, x := range list {
			for _, y := range list {
				text, _ := Put(m.id, two{x, y}.sig())
				texts = append(texts, text)
			}
		}
		slices.Sort(texts)
		if n := len(slices.Compact(texts)); n != len(list)*len(list) {
			t.Errorf("curve %d: %d texts of %d numbers", m.id, n, len(list))
		}
	})
}

// TestPlaces: R is the first of both, the highest byte of a number its first.
func TestPlaces(t *testing.T) {
	eachCurve(t, func(t *testing.T, m model, r *rand.Rand) {
		for range 200 {
			x := m.drawnTwo(r)
			text, e := Put(m.id, x.sig())
			one, f := Get(m.id, text)
			other, g := Get(m.id, text[m.k:]+text[:m.k])
			if one.R != other.S || one.S != other.R || bigOf(one.R).Cmp(x.r) != 0 || bigOf(one.S).Cmp(x.s) != 0 || e != api.OK || f != api.OK || g != api.OK {
				t.Fatalf("curve %d: %x, %x: %v, %v", m.id, x.r, x.s, one, other)
			}
		}
	})
}

// P23.1: numbers that are not below N

// TestFromNOnUnwritten: as R, as S and as both, beside all kinds of numbers.
func TestFromNOnUnwritten(t *testing.T) {
	eachCurve(t, func(t *testing.T, m model, r *rand.Rand) {
		small := []*big.Int{big.NewInt(0), big.NewInt(1), more(m.n, -1), m.drawn(r)}
		for _, x := range m.fromNOn(r) {
			for _, y := range append([]*big.Int{x, m.n, more(m.n, 1), greatest()}, small...) {
				checkUnwritten(t, m.id, two{x, y}.sig(), api.ErrRawRange)
				checkUnwritten(t, m.id, two{y, x}.sig(), api.ErrRawRange)
			}
		}
	})
}

// TestFromNOnTogether: the ends of all kinds of numbers, one with the other.
func TestFromNOnTogether(t *testing.T) {
	eachCurve(t, func(t *testing.T, m model, r *rand.Rand) {
		list := []*big.Int{
			m.n, more(m.n, 1), m.full(), power(m.n.BitLen(), 0), power(8*m.k, 0), power(8*m.k, 1), new(big.Int).Add(power(8*m.k, 0), m.n),
			new(big.Int).Lsh(m.n, 1), power(575, 0), greatest(),
		}
		below := []*big.Int{big.NewInt(0), big.NewInt(1), more(m.n, -2), more(m.n, -1), new(big.Int).Rand(r, m.n)}
		for _, x := range list {
			for _, y := range slices.Concat(below, list) {
				checkUnwritten(t, m.id, two{x, y}.sig(), api.ErrRawRange)
				checkUnwritten(t, m.id, two{y, x}.sig(), api.ErrRawRange)
			}
		}
	})
}

// TestWordsAbove: a number below N with a bit more above N's bits is another.
func TestWordsAbove(t *testing.T) {
	eachCurve(t, func(t *testing.T, m model, r *rand.Rand) {
		for _, x := range m.samples(r) {
			for i := m.n.BitLen(); i < 576; i++ {
				r, s := x.sig(), x.sig()
				r.R.W[i/64] ^= 1 << (i % 64)
				s.S.W[i/64] ^= 1 << (i % 64)
				checkUnwritten(t, m.id, r, api.ErrRawRange)
				checkUnwritten(t, m.id, s, api.ErrRawRange)
				checkUnwritten(t, m.id, api.Sig{R: r.R, S: s.S}, api.ErrRawRange)
			}
		}
	})
}

// TestFromNOnUnread: halves that are not below N, as one and as both.
func TestFromNOnUnread(t *testing.T) {
	eachCurve(t, func(t *testing.T, m model, r *rand.Rand) {
		list := m.fromNInside(r)
		for _, x := range list {
			for _, y := range []*big.Int{big.NewInt(0), big.NewInt(1), more(m.n, -1), m.drawn(r), m.n, m.full(), x} {
				checkNone(t, m.id, m.half(x)+m.half(y), api.ErrRawRange)
				checkNone(t, m.id, m.half(y)+m.half(x), api.ErrRawRange)
			}
		}
	})
}

// TestHalves: those that are nearest to N and at both ends, one with the other.
func TestHalves(t *testing.T) {
	eachCurve(t, func(t *testing.T, m model, _ *rand.Rand) {
		zero := strings.Repeat("\x00", m.k)
		last, n, next := m.half(more(m.n, -1)), m.half(m.n), m.half(more(m.n, 1))
		full := strings.Repeat("\xff", m.k)
		fine := []string{zero, last}
		for i, one := range []string{zero, last, n, next, full} {
			for j, other := range []string{zero, last, n, next, full} {
				checkRead(t, m, one+other)
				if i < len(fine) && j < len(fine) {
					continue
				}
				checkNone(t, m.id, one+other, api.ErrRawRange)
			}
		}
	})
}

// TestTurnedBits: one bit of a text is another; it is taken for another signature, or
// is none where it makes a half as great as N.
func TestTurnedBits(t *testing.T) {
	eachCurve(t, func(t *testing.T, m model, r *rand.Rand) {
		for _, x := range m.samples(r) {
			text := m.write(x)
			for i := range 8 * len(text) {
				b := []byte(text)
				b[i/8] ^= 1 << (i % 8)
				checkRead(t, m, string(b))
			}
		}
	})
}

// P23.1: lengths

// TestOtherLengths: whatever stands in a text of another length, it is of no form.
func TestOtherLengths(t *testing.T) {
	eachCurve(t, func(t *testing.T, m model, r *rand.Rand) {
		full := m.half(m.full())
		for length := range 6*m.k + 20 {
			for _, b := range []string{"\x00", "\x01", "\x7f", "\x80", "\xff"} {
				checkRead(t, m, strings.Repeat(b, length))
			}
			b := make([]byte, length)
			r.Read(b)
			checkRead(t, m, string(b))
			clear(b[:min(m.k, length)])
			checkRead(t, m, string(b))
			checkRead(t, m, strings.Repeat(full, 30)[:length])
		}
	})
}

// TestLengthsByName: the lengths that are nearest to the right one, of good halves and
// of wrong ones.
func TestLengthsByName(t *testing.T) {
	eachCurve(t, func(t *testing.T, m model, r *rand.Rand) {
		halves := []string{m.half(big.NewInt(0)), m.half(big.NewInt(5)), m.half(more(m.n, -1)), m.half(m.n), m.half(m.full()), m.half(m.drawn(r))}
		for _, one := range halves {
			checkNone(t, m.id, one, api.ErrRawForm)
			checkNone(t, m.id, one[1:], api.ErrRawForm)
			for _, other := range halves {
				text := one + other
				for _, wrong := range []string{
					text[1:], text[:len(text)-1], text + "\x00", "\x00" + text, text + "\xff", "\xff" + text, text + "\n", " " + text,
					one + "\x00" + other, one + other[1:], one[:m.k-1] + other, text + one, text + text, text + "\x00\x00", "\x00" + one + "\x00" + other,
					one[1:] + other[1:], text[2:],
				} {
					checkNone(t, m.id, wrong, api.ErrRawForm)
				}
			}
		}
		checkNone(t, m.id, "", api.ErrRawForm)
	})
}

// TestTextsOfOthers: what another curve asks, and what a signature is elsewhere.
func TestTextsOfOthers(t *testing.T) {
	t.Parallel()
	r := rand.New(rand.NewSource(2))
	for _, m := range models() {
		for _, other := range models() {
			for _, x := range other.samples(r) {
				checkRead(t, m, other.write(x))
				if other.k != m.k {
					checkNone(t, m.id, other.write(x), api.ErrRawForm)
				}
				checkHanded(t, m, x)
				checkRead(t, m, der.Put(x.sig()))
			}
		}
	}
}

// TestVeryLong: texts of millions of bytes, of which some have a right length modulo a
// power of 2.
func TestVeryLong(t *testing.T) {
	t.Parallel()
	zeros, ones := strings.Repeat("\x00", 1<<24+1024), strings.Repeat("\xff", 1<<24+1024)
	for _, m := range models() {
		text := m.write(two{more(m.n, -1), big.NewInt(5)})
		for _, length := range []int{256, 1000, 1 << 16, 1 << 20, 1 << 24} {
			for _, more := range []int{-1, 0, 1, m.k, 2*m.k - 1, 2 * m.k, 2*m.k + 1} {
				checkNone(t, m.id, zeros[:length+more], api.ErrRawForm)
				checkNone(t, m.id, ones[:length+more], api.ErrRawForm)
			}
		}
		for range 1000 {
			checkNone(t, m.id, zeros, api.ErrRawForm)
		}
		checkNone(t, m.id, text+zeros, api.ErrRawForm)
		checkNone(t, m.id, zeros+text, api.ErrRawForm)
		checkNone(t, m.id, strings.Repeat(text, 10000), api.ErrRawForm)
	}
}

// TestFormAheadOfRange: of halves that are not below N too the length is told first.
func TestFormAheadOfRange(t *testing.T) {
	eachCurve(t, func(t *testing.T, m model, r *rand.Rand) {
		for _, x := range m.fromNInside(r) {
			for _, wrong := range []string{m.half(x), m.half(x) + m.half(x)[1:], m.half(x) + m.half(x) + "\x00", m.half(x) + m.half(m.full()) + m.half(x)} {
				checkNone(t, m.id, wrong, api.ErrRawForm)
			}
		}
	})
}

// P23.1: the curve

// TestNoCurve: whatever the numbers and the bytes are, the curve is told first.
func TestNoCurve(t *testing.T) {
	t.Parallel()
	r := rand.New(rand.NewSource(3))
	top, one := natOf(greatest()), api.Nat{W: [9]uint64{1}}
	sigs := []api.Sig{{}, {R: one, S: one}, {R: top}, {S: top}, {R: top, S: top}}
	texts := []string{"", "\x00", "\x00\x00", "\xff\xff", "\x01\x01\x01", strings.Repeat("\x00", 144), strings.Repeat("\xff", 144), strings.Repeat("\xff", 100000)}
	for _, m := range models() {
		for _, x := range m.samples(r) {
			sigs = append(sigs, x.sig())
			texts = append(texts, m.write(x), m.write(x)[1:])
		}
		sigs = append(sigs, two{m.n, m.n}.sig())
		texts = append(texts, m.half(m.n)+m.half(m.n), m.half(m.full()))
	}
	for _, id := range strangers() {
		for _, s := range sigs {
			checkUnwritten(t, id, s, api.ErrRawCurve)
		}
		for _, text := range texts {
			checkNone(t, id, text, api.ErrRawCurve)
		}
	}
}

func TestOnlyFifteenCurves(t *testing.T) {
	t.Parallel()
	list := models()
	x := two{big.NewInt(3), big.NewInt(5)}
	tooGreat := two{greatest(), greatest()}.sig()
	for id := -2000; id <= 2000; id++ {
		if 1 <= id && id <= 15 {
			checkBoth(t, list[id-1], x)
			checkUnwritten(t, id, tooGreat, api.ErrRawRange)
			checkNone(t, id, "", api.ErrRawForm)
		} else {
			checkUnwritten(t, id, x.sig(), api.ErrRawCurve)
			checkUnwritten(t, id, tooGreat, api.ErrRawCurve)
			checkNone(t, id, "", api.ErrRawCurve)
			checkNone(t, id, "\x03\x05", api.ErrRawCurve)
		}
	}
}

// P23.1: as others write and read

// openSSL are signatures that OpenSSL 3.0 made, by Node.js, and verified in both of
// its forms: a curve's number, the text that chapter 22 asks for and the one that this
// chapter does. Of each curve one has an R and one an S whose first byte is 0; of
// CurveP521 it is the first two.
const openSSL = `
1 3034021839f76f8df170c3ff4a489ae146be04ec2918914ecd70e9ca02181e995a17abfd699efbb8c5421c78d7782d809749bb830aa7 39f76f8df170c3ff4a489ae146be04ec2918914ecd70e9ca1e995a17abfd699efbb8c5421c78d7782d809749bb830aa7
1 303402171e3f5f37b1b47931807daa15b35c852b037468d193cc42021900e5fcb9fd4207f3f8c26b8346fe92f0db58c3a99a4cb29fa3 001e3f5f37b1b47931807daa15b35c852b037468d193cc42e5fcb9fd4207f3f8c26b8346fe92f0db58c3a99a4cb29fa3
1 3034021801f908a92d698c5769c1668c66acee88bbeb360e495cf97a021800dfced69587f8e99b973dd470e2857916b0c249d3b133e8 01f908a92d698c5769c1668c66acee88bbeb360e495cf97a00dfced69587f8e99b973dd470e2857916b0c249d3b133e8
2 303d021d0099df4c6dc8c86ceedcf99c0bad71a4d10fa5b14e5997270a357689ab021c5acbef3731cceea8df3cbbc6b67c35af0da260e998d05120b2fdad43 99df4c6dc8c86ceedcf99c0bad71a4d10fa5b14e5997270a357689ab5acbef3731cceea8df3cbbc6b67c35af0da260e998d05120b2fdad43
2 303d021d00bca9b401c1d7121d7684a5329ebc8151842b67790ad63185bf1faebc021c00a1ce595a87458d96cffa96e5fff7c90477af37709a5f93a2bf5580 bca9b401c1d7121d7684a5329ebc8151842b67790ad63185bf1faebc00a1ce595a87458d96cffa96e5fff7c90477af37709a5f93a2bf5580
2 303c021c00ac947b3587f86d74f864c2f1b7b911e68482ea8d8a2889c2e17f0f021c74bab8f7f5cc8b4335a36dcafa9685889db38f7dfccda3b68ccaca23 00ac947b3587f86d74f864c2f1b7b911e68482ea8d8a2889c2e17f0f74bab8f7f5cc8b4335a36dcafa9685889db38f7dfccda3b68ccaca23
3 30450221008545d8b83840664ec5620bcac44b51fdb2358098343d1ef30711f09b5a3339aa02203f23c4c24152ba6da1024f278b7e06ccab8b4c0e2ee041a1cab34f5cef88b706 8545d8b83840664ec5620bcac44b51fdb2358098343d1ef30711f09b5a3339aa3f23c4c24152ba6da1024f278b7e06ccab8b4c0e2ee041a1cab34f5cef88b706
3 3042021e36821e578b50e2b66b2a33ba1bd9ecbfc697717f6bcb70e8f1a9ffabb99d02207c1c4c99927bc369954fc297ea49f9bfdef2aed6ac275aee1594de13b889d259 000036821e578b50e2b66b2a33ba1bd9ecbfc697717f6bcb70e8f1a9ffabb99d7c1c4c99927bc369954fc297ea49f9bfdef2aed6ac275aee1594de13b889d259
3 3044022053f5bc8d5c3bb1c59827fe54a53eee039e123d469ddec49b1e421510b2c6a22b022000b11d4884842073c3192e98d4462a5401533c49ff259be6fc66e552d44f35d8 53f5bc8d5c3bb1c59827fe54a53eee039e123d469ddec49b1e421510b2c6a22b00b11d4884842073c3192e98d4462a5401533c49ff259be6fc66e552d44f35d8
4 3065023100fc65a562b0615dd778bd51d196caca51b8b07f0da240ee94bbfa09a82d66f85497f8b460ba00328908f073a6d96db008023027a56135d89cebf4a003cca78720572feb8bf685df2a2698c0c14663ba4dcb1492c4193be928f031781407b558936ec2 fc65a562b0615dd778bd51d196caca51b8b07f0da240ee94bbfa09a82d66f85497f8b460ba00328908f073a6d96db00827a56135d89cebf4a003cca78720572feb8bf685df2a2698c0c14663ba4dcb1492c4193be928f031781407b558936ec2
4 3064022f2c04069ebe94c91b762c3f0924731002a481950dd20e9f03b661c5b360736a335d6b32376dac14ebe71dcfbbb4ac34023100f8c443d36cd7003b7432df8b04d15cff88ebd137e580a986860733503b13edcb0aa08827f60c2aeffde8cb405e4eeadd 002c04069ebe94c91b762c3f0924731002a481950dd20e9f03b661c5b360736a335d6b32376dac14ebe71dcfbbb4ac34f8c443d36cd7003b7432df8b04d15cff88ebd137e580a986860733503b13edcb0aa08827f60c2aeffde8cb405e4eeadd
4 306302303fe856c1bf18f9d77ef87326ecb8377cf90d1a6c40fa1e5994422b3bdb4d1d8911f4ef03c665d0cf4a4f6369afef91fa022f03260fbe018ced57af6b41c82e293b7216ee63286194e6115e4c30aab3511b51cff170429852a462f70d0609c8e9d7 3fe856c1bf18f9d77ef87326ecb8377cf90d1a6c40fa1e5994422b3bdb4d1d8911f4ef03c665d0cf4a4f6369afef91fa0003260fbe018ced57af6b41c82e293b7216ee63286194e6115e4c30aab3511b51cff170429852a462f70d0609c8e9d7
5 308188024201fffd5b526dea0498c834d0ef17c22d9380b1e25bbf78f9bbf770d7438e0aaecb3d8597e7b30fe56cf0b89ae94325997ea3b86b4422366f485aa23c99768c23674f024200d62e42632318c2b46116cbe255d03f1dc5429874c2e62da3a2e0ae81cf5f775c127ed83d3ba255a6120acb1376290b511ffd66ddc836f5f1eadd8c9a2e10b1d84f 01fffd5b526dea0498c834d0ef17c22d9380b1e25bbf78f9bbf770d7438e0aaecb3d8597e7b30fe56cf0b89ae94325997ea3b86b4422366f485aa23c99768c23674f00d62e42632318c2b46116cbe255d03f1dc5429874c2e62da3a2e0ae81cf5f775c127ed83d3ba255a6120acb1376290b511ffd66ddc836f5f1eadd8c9a2e10b1d84f
5 30818602402ce5a68fb4643c6c41db5f3f71825f886912d8aed2cae0462d22fa3eb7664bacc58049cac79d1a58e7bd0c3ebc47a579a679e317ec7e29064d77a45b05e1492f024200c82c99c5eb93f3bc2202b178da3e9eb7bdb0b6a1dd57a9733cae1a1d8365a02544213a069fb894c1544808e3701582e49d16429aa45160d35dce39ae23452cb614 00002ce5a68fb4643c6c41db5f3f71825f886912d8aed2cae0462d22fa3eb7664bacc58049cac79d1a58e7bd0c3ebc47a579a679e317ec7e29064d77a45b05e1492f00c82c99c5eb93f3bc2202b178da3e9eb7bdb0b6a1dd57a9733cae1a1d8365a02544213a069fb894c1544808e3701582e49d16429aa45160d35dce39ae23452cb614
5 30818602420159e16fcbd8eee7ba78fc1d72f1d8bd3d9be477dfd09c1ee6dbcd1d269a230b3b56f6c120997201a6371ae15a808e81116f5dcc6259396fa93ade82a854840362b502404b33e7297b236cd2c08e94818c23cf0f1ca6578811de10db56b221727c6093a3dde256291f30a7df104d2cdc7d2a1956d8ef13046cf95106be17d00052d748a7 0159e16fcbd8eee7ba78fc1d72f1d8bd3d9be477dfd09c1ee6dbcd1d269a230b3b56f6c120997201a6371ae15a808e81116f5dcc6259396fa93ade82a854840362b500004b33e7297b236cd2c08e94818c23cf0f1ca6578811de10db56b221727c6093a3dde256291f30a7df104d2cdc7d2a1956d8ef13046cf95106be17d00052d748a7
6 3045022051786bddfecc59835b8bcdcac82f6c2717145f495ae5f03729f87d1b217d5189022100b7d85f89c2f1f69cbd7c8c7d88af000ea8ee31be4aa96f999d9f86d366db26e7 51786bddfecc59835b8bcdcac82f6c2717145f495ae5f03729f87d1b217d5189b7d85f89c2f1f69cbd7c8c7d88af000ea8ee31be4aa96f999d9f86d366db26e7
6 304302203c7273c74dfeb8e8acce7946d4207b5d952bf6b008b8e48662baf1dda0119900021f773fe23967b3d1e0f7091e6826505a263d1584f26c3ba513d65b93ec2065ff 3c7273c74dfeb8e8acce7946d4207b5d952bf6b008b8e48662baf1dda011990000773fe23967b3d1e0f7091e6826505a263d1584f26c3ba513d65b93ec2065ff
6 3044021f04c19962a448d50898b14d8b688ba6392f5da7bfa688ce6020636f477ec035022100d21f5e3b1d0b8396188882ade70d7aaa71ca1fd8b50c9e015bcbfaaeec564908 0004c19962a448d50898b14d8b688ba6392f5da7bfa688ce6020636f477ec035d21f5e3b1d0b8396188882ade70d7aaa71ca1fd8b50c9e015bcbfaaeec564908
7 302c02142fdc7dd584a6592e8d4a68aed672a41c93fd5808021448f335c56482365a783de439eb70c91f465af3d8 2fdc7dd584a6592e8d4a68aed672a41c93fd580848f335c56482365a783de439eb70c91f465af3d8
7 302c02141cfc5d7ee709de56d9bfe9b2cbc647804ca98b68021400e15e3d15febaf97c1639b4fe0dd4e1c302a5ca 1cfc5d7ee709de56d9bfe9b2cbc647804ca98b6800e15e3d15febaf97c1639b4fe0dd4e1c302a5ca
7 302c021400afce9c4938cb4a65c0d70805f1bd65e81c0dee02140b9a4b8b3118c2d580ab2d484fd8fe3088eb655a 00afce9c4938cb4a65c0d70805f1bd65e81c0dee0b9a4b8b3118c2d580ab2d484fd8fe3088eb655a
8 303c021c05b4a2e58a3bd2268eeb7b1e5fdb877aeb9ba4ecaeafc68c5ee16481021c4a4f88af8c9b0f1f0b6ed9c97687246f3195692167c85e4631258ab6 05b4a2e58a3bd2268eeb7b1e5fdb877aeb9ba4ecaeafc68c5ee164814a4f88af8c9b0f1f0b6ed9c97687246f3195692167c85e4631258ab6
8 303d021d00aa1f99708eedfdb2bee0da3d235f394e3031942efbf5724546f851ab021c00e135219ece7c84a4bb8e64f7cf28108406cd6799c07be3f1aae1d8 aa1f99708eedfdb2bee0da3d235f394e3031942efbf5724546f851ab00e135219ece7c84a4bb8e64f7cf28108406cd6799c07be3f1aae1d8
8 303b021b6e9c86e520663b5fb8ca226b650e35e11f474d9042063a302789db021c0dddbe3c320463f9982175e8bb89a3cc82955d9d79b65ea52b7cc9e7 006e9c86e520663b5fb8ca226b650e35e11f474d9042063a302789db0dddbe3c320463f9982175e8bb89a3cc82955d9d79b65ea52b7cc9e7
9 3044022016fa32da38fcae0d76b6d5c4f03e03ca900edbdef5bc062fd7950d8eb10f2e3b0220762b1d47763a171ed380482ecd94dfc123e2a461f35751549a85b5a7732c4aa7 16fa32da38fcae0d76b6d5c4f03e03ca900edbdef5bc062fd7950d8eb10f2e3b762b1d47763a171ed380482ecd94dfc123e2a461f35751549a85b5a7732c4aa7
9 3044022000afe7b0f1939a89962977205a2418dd3cf7b5120638c0a284d20e903c3f60f902206ed2aa087aec2962fb70b7e0bfe0a23437e3c0d51c7ace964030872dba9a6209 00afe7b0f1939a89962977205a2418dd3cf7b5120638c0a284d20e903c3f60f96ed2aa087aec2962fb70b7e0bfe0a23437e3c0d51c7ace964030872dba9a6209
9 304302201b9efc331830484bd0d104be8df3187cf20c72f574a5b6b9f53fd2814bf32f8e021f094b8799a5250f4f2c4559b037e8590955985bcdc1775b6306852f8666c9f7 1b9efc331830484bd0d104be8df3187cf20c72f574a5b6b9f53fd2814bf32f8e00094b8799a5250f4f2c4559b037e8590955985bcdc1775b6306852f8666c9f7
10 30550228592dfbca5daf0b698e8362051e2b29081f2e4da545e2e51081a195f78c56e7b2a04c94b2745b6670022900bf7cf51383a562390b0775d682fa959373559276b47a361d62c59b0675fcf5895d20db81198f9985 592dfbca5daf0b698e8362051e2b29081f2e4da545e2e51081a195f78c56e7b2a04c94b2745b6670bf7cf51383a562390b0775d682fa959373559276b47a361d62c59b0675fcf5895d20db81198f9985
10 3054022800ffa6a8d3f8280fce993dfa81f51cf48d90087d1e81e01a790c11d9059da4e1462c1d961b0b1693022816e5304b8280689e2464bf002a410d8f459a1f6b66d81ab4c3dd84336a85e1acaa619949857cbf01 00ffa6a8d3f8280fce993dfa81f51cf48d90087d1e81e01a790c11d9059da4e1462c1d961b0b169316e5304b8280689e2464bf002a410d8f459a1f6b66d81ab4c3dd84336a85e1acaa619949857cbf01
10 30540229009d86cf9451a3fe11b9b99c1b3c14fc6f30a4d95b7ab127ae5cab8cb95890891010e54128582c4ea102277142e10daa8e01c72c66598db091260d307ad09b09dec12e6764ecedf01a93043743453b232fce 9d86cf9451a3fe11b9b99c1b3c14fc6f30a4d95b7ab127ae5cab8cb95890891010e54128582c4ea1007142e10daa8e01c72c66598db091260d307ad09b09dec12e6764ecedf01a93043743453b232fce
11 306502300b34a030ec89fbd466503df0ab5a90ed0c6351f16c698ebf03c068f1450cbbb32cde74097352465811b4460a79a8d9b20231008bcc2f652a4ad584dfb82b82b2770ce488f9c66e0902ce0a66f6f3971bea81759c448e29c594ac408a798884d2a656ca 0b34a030ec89fbd466503df0ab5a90ed0c6351f16c698ebf03c068f1450cbbb32cde74097352465811b4460a79a8d9b28bcc2f652a4ad584dfb82b82b2770ce488f9c66e0902ce0a66f6f3971bea81759c448e29c594ac408a798884d2a656ca
11 3063022f56a3595617a24f230deb3f1d5b1225a8782eda5987eb16a8dca17a2d010e03a8ae5b2307d87d75c4064cc8ee51035002302d1bdee35f42e613f52af1428313360bfe74d520307bf498b3e61f69ac438c0052f3fb296480275c76b1d5a03cdd92e8 0056a3595617a24f230deb3f1d5b1225a8782eda5987eb16a8dca17a2d010e03a8ae5b2307d87d75c4064cc8ee5103502d1bdee35f42e613f52af1428313360bfe74d520307bf498b3e61f69ac438c0052f3fb296480275c76b1d5a03cdd92e8
11 306302300e6f2dc9b7496da10f212eb06bcc6b2bd47e79b152103027f0db9b95178abd0135ad2f3866aa4021728dd1e57fe58b5d022f3b140665fe417a50f82b097b9aa1371ba5097a755ba784f72f5116c33fbe9850dd8095652744801b810315edfb788c 0e6f2dc9b7496da10f212eb06bcc6b2bd47e79b152103027f0db9b95178abd0135ad2f3866aa4021728dd1e57fe58b5d003b140665fe417a50f82b097b9aa1371ba5097a755ba784f72f5116c33fbe9850dd8095652744801b810315edfb788c
12 30818502410085b011caf1bbc6c6c4a0a48b1d981e77dd5fa9aee8bc5e5240ed726d6c763053f2438abfd586c0ed8fc87d48feb0dd30149a152e8bcae9a34f717c83a3ece48a024063c6368426dcbfb9e51d32c8ef3d922971ac83ab6f7840676f952d35bfed0a5e92427df8af760f779e93efbf31d591ac8719b6a2b35b7bee75e519d6a191f4f1 85b011caf1bbc6c6c4a0a48b1d981e77dd5fa9aee8bc5e5240ed726d6c763053f2438abfd586c0ed8fc87d48feb0dd30149a152e8bcae9a34f717c83a3ece48a63c6368426dcbfb9e51d32c8ef3d922971ac83ab6f7840676f952d35bfed0a5e92427df8af760f779e93efbf31d591ac8719b6a2b35b7bee75e519d6a191f4f1
12 308184024000c01dbbe66d261897f5389f112582cb8155fbd92f3ccf850f0a80f95d60a025079316ae0c1f4133239a0cdf2919303c7f8e389e42c7819847908af35977a47e024023ef9493bd38fd470cbfaeb21a5c8f62cdaee14b0e51526a2e8ccbbba64ab7c1ff2be45b677d922c9b6bf7fcc80e1c712d7f35c0501d60d35b37c937be0b8c8b 00c01dbbe66d261897f5389f112582cb8155fbd92f3ccf850f0a80f95d60a025079316ae0c1f4133239a0cdf2919303c7f8e389e42c7819847908af35977a47e23ef9493bd38fd470cbfaeb21a5c8f62cdaee14b0e51526a2e8ccbbba64ab7c1ff2be45b677d922c9b6bf7fcc80e1c712d7f35c0501d60d35b37c937be0b8c8b
12 308183024014318e06806c07dd1083cba00b8aad58a37a3ef38f2cadea5b5e4f5bcb45acc112b12d14b28eb60e993bff42366df8ec73a44c1d0993375bac2e12739e68834a023f7e4d0f624e710b67875c681c540bc68ddadd5fd30c3740cb992f7bcce4ebac434d585e729a35cc1facb6fa611c0984639075c50b2b0123a27c3b1c05ef5733 14318e06806c07dd1083cba00b8aad58a37a3ef38f2cadea5b5e4f5bcb45acc112b12d14b28eb60e993bff42366df8ec73a44c1d0993375bac2e12739e68834a007e4d0f624e710b67875c681c540bc68ddadd5fd30c3740cb992f7bcce4ebac434d585e729a35cc1facb6fa611c0984639075c50b2b0123a27c3b1c05ef5733
`

func TestAgainstOpenSSL(t *testing.T) {
	t.Parallel()
	list := models()
	for line := range strings.SplitSeq(strings.TrimSpace(openSSL), "\n") {
		part := strings.Fields(line)
		id, e := strconv.Atoi(part[0])
		if e != nil {
			t.Fatal(e)
		}
		s, errno := der.Get(unhex(t, part[1]))
		if errno != api.OK {
			t.Fatalf("%s: %d", line, errno)
		}
		text := unhex(t, part[2])
		if got, errno := Put(id, s); got != text || errno != api.OK {
			t.Errorf("%s: %x, %d", line, got, errno)
		}
		checkTaken(t, list[id-1], text, two{bigOf(s.R), bigOf(s.S)})
	}
}

// TestPublished: the signatures of RFC 7515, A.3 and A.4. That Go's library verifies
// what is read tells that they are as they were published.
func TestPublished(t *testing.T) {
	t.Parallel()
	digest256 := sha256.Sum256([]byte("eyJhbGciOiJFUzI1NiJ9.eyJpc3MiOiJqb2UiLA0KICJleHAiOjEzMDA4MTkzODAsDQogImh0dHA6Ly9leGFtcGxlLmNvbS9pc19yb290Ijp0cnVlfQ"))
	digest512 := sha512.Sum512([]byte("eyJhbGciOiJFUzUxMiJ9.UGF5bG9hZA"))
	for _, c := range []struct {
		id        int
		curve     elliptic.Curve
		x, y, sig string
		digest    []byte
	}{
		{
			api.CurveP256, elliptic.P256(),
			"f83OJ3D2xF1Bg8vub9tLe1gHMzV76e8Tus9uPHvRVEU", "x_FEzRu9m36HLN_tue659LNpXW6pCyStikYjKIWI5a0",
			"DtEhU3ljbEg8L38VWAfUAqOyKAM6-Xx-F4GawxaepmXFCgfTjDxw5djxLa8ISlSApmWQxfKTUJqPP3-Kg6NU1Q", digest256[:],
		},
		{
			api.CurveP521, elliptic.P521(),
			"AekpBQ8ST8a8VcfVOTNl353vSrDCLLJXmPk06wTjxrrjcBpXp5EOnYG_NjFZ6OvLFV1jSfS9tsz4qUxcWceqwQGk", "ADSmRA43Z1DSNx_RvcLI87cdL07l6jQyyBXMoxVg_l2Th-x3S1WDhjDly79ajL4Kkd0AZMaZmh9ubmf63e3kyMj2",
			"AdwMgeerwtHoh-l192l60hp9wAHZFVJbLfD_UxMi70cwnZOYaRI1bKPWROc-mZZqwqT2SI-KGDKB34XO0aw_7XdtAG8GaSwFKdCAPZgoXD2YBJZCPEX3xKpRwcdOO8KpEHwJjyqOgzDO7iKvU8vcnwNrmxYbSW9ERBXukOXolLzeO_Jn", digest512[:],
		},
	} {
		text := string(unbase(t, c.sig))
		s, errno := Get(c.id, text)
		key := ecdsa.PublicKey{Curve: c.curve, X: new(big.Int).SetBytes(unbase(t, c.x)), Y: new(big.Int).SetBytes(unbase(t, c.y))}
		if errno != api.OK || !ecdsa.Verify(&key, c.digest, bigOf(s.R), bigOf(s.S)) {
			t.Errorf("curve %d: %v, %d", c.id, s, errno)
		}
		checkTaken(t, models()[c.id-1], text, two{bigOf(s.R), bigOf(s.S)})
	}
}

func unbase(t *testing.T, text string) []byte {
	t.Helper()
	b, e := base64.RawURLEncoding.DecodeString(text)
	if e != nil {
		t.Fatal(e)
	}
	return b
}

// TestSigned: what Go's library signs is written, and what is read anew it verifies.
func TestSigned(t *testing.T) {
	t.Parallel()
	r := rand.New(rand.NewSource(4))
	for id, c := range map[int]elliptic.Curve{api.CurveP224: elliptic.P224(), api.CurveP256: elliptic.P256(), api.CurveP384: elliptic.P384(), api.CurveP521: elliptic.P521()} {
		key, e := ecdsa.GenerateKey(c, r)
		if e != nil {
			t.Fatal(e)
		}
		for range 20 {
			digest := make([]byte, 32)
			r.Read(digest)
			x := two{}
			x.r, x.s, e = ecdsa.Sign(r, key, digest)
			if e != nil {
				t.Fatal(e)
			}
			checkBoth(t, models()[id-1], x)
			text, _ := Put(id, x.sig())
			got, errno := Get(id, text)
			if errno != api.OK || !ecdsa.Verify(&key.PublicKey, digest, bigOf(got.R), bigOf(got.S)) {
				t.Fatalf("curve %d: %x: %v, %d", id, text, got, errno)
			}
		}
	}
}

// R4 and R5

// TestCallsApart: the same calls over again, with others, of other curves and refused
// ones between them.
func TestCallsApart(t *testing.T) {
	t.Parallel()
	r := rand.New(rand.NewSource(5))
	list := models()
	for range 20000 {
		m, other := list[r.Intn(len(list))], list[r.Intn(len(list))]
		x := m.drawnTwo(r)
		checkBoth(t, m, x)
		switch r.Intn(5) {
		case 0:
			checkNone(t, m.id, m.write(x)[1:], api.ErrRawForm)
		case 1:
			checkNone(t, m.id, m.half(m.n)+m.half(x.s), api.ErrRawRange)
		case 2:
			checkNone(t, 0, m.write(x), api.ErrRawCurve)
		case 3:
			checkUnwritten(t, m.id, two{x.r, m.n}.sig(), api.ErrRawRange)
		case 4:
			checkHanded(t, other, x)
		}
		checkBoth(t, m, x)
	}
}

// TestTwiceTheSame: two calls of the same, one behind the other and with a call between
// them of another signature, of another curve or of what is refused.
func TestTwiceTheSame(t *testing.T) {
	t.Parallel()
	list := models()
	for _, m := range list {
		x := m.drawnTwo(rand.New(rand.NewSource(6)))
		text := m.write(x)
		checkBoth(t, m, x)
		checkBoth(t, m, x)
		for _, other := range list {
			y := other.drawnTwo(rand.New(rand.NewSource(7)))
			checkPut(t, other, y)
			checkPut(t, m, x)
			checkTaken(t, other, other.write(y), y)
			checkTaken(t, m, text, x)
			checkUnwritten(t, other.id, two{other.n, y.s}.sig(), api.ErrRawRange)
			checkPut(t, m, x)
			checkNone(t, other.id, other.half(y.r)+other.half(other.n), api.ErrRawRange)
			checkTaken(t, m, text, x)
			for range 2 {
				checkNone(t, m.id, text+"\x00", api.ErrRawForm)
				checkNone(t, m.id, m.half(m.n)+m.half(x.s), api.ErrRawRange)
				checkNone(t, 16, text, api.ErrRawCurve)
				checkUnwritten(t, -m.id, x.sig(), api.ErrRawCurve)
			}
			checkTaken(t, m, text, x)
		}
	}
}

// TestArgumentsStay: what is handed in is a value, and what is answered the caller's
// own.
func TestArgumentsStay(t *testing.T) {
	eachCurve(t, func(t *testing.T, m model, r *rand.Rand) {
		for _, x := range m.samples(r) {
			s, text := x.sig(), m.write(x)
			copied := strings.Clone(text)
			written, _ := Put(m.id, s)
			got, _ := Get(m.id, text)
			if s != x.sig() || text != copied {
				t.Fatalf("%v, %x", s, text)
			}
			for i := range got.R.W {
				got.R.W[i], got.S.W[i], s.R.W[i], s.S.W[i] = ^got.R.W[i], 5, ^s.R.W[i], 7
			}
			if written != m.write(x) {
				t.Fatalf("%x", written)
			}
			checkBoth(t, m, x)
		}
	})
}

// TestBytesNotKept: a text made of bytes that are changed behind the call.
func TestBytesNotKept(t *testing.T) {
	eachCurve(t, func(t *testing.T, m model, r *rand.Rand) {
		for range 100 {
			x := m.drawnTwo(r)
			b := []byte(m.write(x))
			got, errno := Get(m.id, string(b))
			clear(b)
			if got != x.sig() || errno != api.OK {
				t.Fatalf("%v, %d", got, errno)
			}
		}
	})
}

func TestSeveralGoroutines(t *testing.T) {
	t.Parallel()
	list := models()
	var group sync.WaitGroup
	for i := range 8 {
		group.Go(func() {
			r := rand.New(rand.NewSource(int64(i)))
			for turn := range 4000 {
				m := list[(i+turn)%len(list)]
				x := m.drawnTwo(r)
				text, e := Put(m.id, x.sig())
				got, f := Get(m.id, text)
				none, refused := Get(m.id, text[1:])
				if text != m.write(x) || got != x.sig() || e != api.OK || f != api.OK || none != (api.Sig{}) || refused != api.ErrRawForm {
					t.Errorf("curve %d: %x, %d: %v, %d", m.id, text, e, got, f)
				}
			}
		})
	}
	group.Wait()
}
