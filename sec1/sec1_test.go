package sec1

import (
	"crypto/elliptic"
	"encoding/hex"
	"math/big"
	"math/rand"
	"slices"
	"strconv"
	"strings"
	"sync"
	"testing"

	"curvet/affine"
	"curvet/api"
	"curvet/base"
)

// checkPut: both forms of a point.
func checkPut(t *testing.T, m model, s *spot) {
	t.Helper()
	for _, short := range []bool{false, true} {
		got, errno := Put(m.id, s.point(), short)
		if got != m.text(s, short) || errno != api.OK {
			t.Fatalf("curve %d: %v, %v: %x, %d; not %x", m.id, s.point(), short, got, errno, m.text(s, short))
		}
	}
}

// checkTaken: a text is taken for s, and written as it stood.
func checkTaken(t *testing.T, m model, text string, s *spot) {
	t.Helper()
	got, errno := Get(m.id, text)
	if got != s.point() || errno != api.OK {
		t.Fatalf("curve %d: %x: %v, %d; not %v", m.id, text, got, errno, s.point())
	}
	if again, errno := Put(m.id, got, text[0] != full); again != text || errno != api.OK {
		t.Fatalf("curve %d: %x came back as %x, %d", m.id, text, again, errno)
	}
}

// checkNone: beside an error the point is a zero value.
func checkNone(t *testing.T, id int, text string, want api.Errno) {
	t.Helper()
	if got, errno := Get(id, text); got != (api.Point{}) || errno != want {
		t.Fatalf("curve %d: %d bytes, %x: %v, %d; not %d", id, len(text), beginning(text), got, errno, want)
	}
}

// beginning answers no more of a text than is good to read.
func beginning(text string) string {
	return text[:min(len(text), 200)]
}

// checkRead: a text is taken or refused as the model reads it.
func checkRead(t *testing.T, m model, text string) {
	t.Helper()
	if s, errno := m.read(text); errno == api.OK {
		checkTaken(t, m, text, s)
	} else {
		checkNone(t, m.id, text, errno)
	}
}

// checkUnwritten: neither form of a point is written; beside the error stands
// no text.
func checkUnwritten(t *testing.T, id int, p api.Point, want api.Errno) {
	t.Helper()
	for _, short := range []bool{false, true} {
		if got, errno := Put(id, p, short); got != "" || errno != want {
			t.Fatalf("curve %d: %v, %v: %x, %d; not %d", id, p, short, got, errno, want)
		}
	}
}

// unhex answers the bytes whose digits these are.
func unhex(t *testing.T, digits string) string {
	t.Helper()
	text, err := hex.DecodeString(digits)
	if err != nil {
		t.Fatalf("%s: %v", digits, err)
	}
	return string(text)
}

// P21.1: the tiny curves

// tinyTexts are all texts that a tiny curve's points have.
func (m model) tinyTexts() map[string]*spot {
	texts := map[string]*spot{}
	for _, s := range m.walk()[1:] {
		for _, text := range m.texts(s) {
			texts[text] = s
		}
	}
	return texts
}

// TestTinyPoints: every point in both forms. One X is that of two points, so
// that there are as many texts as twice the points.
func TestTinyPoints(t *testing.T) {
	t.Parallel()
	for _, m := range tinyModels() {
		for text, s := range m.tinyTexts() {
			checkPut(t, m, s)
			checkTaken(t, m, text, s)
		}
		if n := int64(len(m.tinyTexts())); n != 2*(m.n.Int64()-1) {
			t.Errorf("curve %d: %d texts", m.id, n)
		}
	}
}

// TestTinyShortTexts: every text of no more than two bytes.
func TestTinyShortTexts(t *testing.T) {
	t.Parallel()
	for _, m := range tinyModels() {
		checkNone(t, m.id, "", api.ErrSec1Form)
		for first := range 256 {
			checkNone(t, m.id, string([]byte{byte(first)}), api.ErrSec1Form)
			for x := range 256 {
				checkRead(t, m, string([]byte{byte(first), byte(x)}))
			}
		}
	}
}

// TestTinyTexts: every text of three bytes. The points that are taken are those
// of a walk around the curve, each at its X and Y.
func TestTinyTexts(t *testing.T) {
	t.Parallel()
	for _, m := range tinyModels() {
		var points [256][256]api.Point
		for _, s := range m.walk()[1:] {
			points[s.x.Int64()][s.y.Int64()] = s.point()
		}
		for first := range 256 {
			t.Run(strconv.Itoa(m.id)+"/"+strconv.Itoa(first), func(t *testing.T) {
				t.Parallel()
				checkTriples(t, m.id, byte(first), &points)
			})
		}
	}
}

// checkTriples goes through the texts of three bytes that have that first one.
// (The curves have no point of zeros alone.)
func checkTriples(t *testing.T, id int, first byte, points *[256][256]api.Point) {
	t.Helper()
	for x := range 256 {
		for y := range 256 {
			want, wrong := points[x][y], api.OK
			switch {
			case first != full:
				want, wrong = api.Point{}, api.ErrSec1Form
			case want == api.Point{}:
				wrong = api.ErrSec1Point
			}
			got, errno := Get(id, string([]byte{first, byte(x), byte(y)}))
			if got != want || errno != wrong {
				t.Fatalf("curve %d: %d, %d, %d: %v, %d; not %v, %d", id, first, x, y, got, errno, want, wrong)
			}
		}
	}
}

// TestTinyJustThePoints: of all pairs of small numbers just the points are written.
func TestTinyJustThePoints(t *testing.T) {
	t.Parallel()
	for _, m := range tinyModels() {
		written := int64(0)
		for a := range 300 {
			for b := range 300 {
				p := api.Point{X: small(a), Y: small(b)}
				if m.on(p) {
					checkPut(t, m, spotOf(p))
					written++
				} else {
					checkUnwritten(t, m.id, p, api.ErrSec1Point)
				}
				p.Inf = true
				checkUnwritten(t, m.id, p, api.ErrSec1Point)
			}
		}
		if written != m.n.Int64()-1 {
			t.Errorf("curve %d: %d points", m.id, written)
		}
	}
}

// P21.1: all curves

func TestForms(t *testing.T) {
	eachCurve(t, func(t *testing.T, m model, r *rand.Rand) {
		for _, s := range m.points(r) {
			checkPut(t, m, s)
			for _, text := range m.texts(s) {
				checkTaken(t, m, text, s)
			}
		}
	})
}

// TestBasePoints: the digits of chapter 13 are those of the base points' bytes.
func TestBasePoints(t *testing.T) {
	t.Parallel()
	for i, line := range strings.Split(strings.TrimSpace(chapter), "\n") {
		part, m := strings.Fields(line), models()[i]
		x, y := strings.Repeat("0", 2*m.size()-len(part[4]))+part[4], strings.Repeat("0", 2*m.size()-len(part[5]))+part[5]
		first := "02"
		if strings.ContainsAny(y[len(y)-1:], "13579bdf") {
			first = "03"
		}
		long, e := Put(m.id, m.base().point(), false)
		short, f := Put(m.id, m.base().point(), true)
		if hex.EncodeToString([]byte(long)) != "04"+x+y || hex.EncodeToString([]byte(short)) != first+x || e != api.OK || f != api.OK {
			t.Errorf("curve %d: %x, %x, %d, %d", m.id, long, short, e, f)
		}
	}
}

// TestPublished: the base points in the short form, as SEC 2 tells them.
func TestPublished(t *testing.T) {
	t.Parallel()
	for id, digits := range map[int]string{
		api.CurveP192: "03188da80eb03090f67cbf20eb43a18800f4ff0afd82ff1012",
		api.CurveP224: "02b70e0cbd6bb4bf7f321390b94a03c1d356c21122343280d6115c1d21",
		api.CurveP256: "036b17d1f2e12c4247f8bce6e563a440f277037d812deb33a0f4a13945d898c296",
		api.CurveP384: "03aa87ca22be8b05378eb1c71ef320ad746e1d3b628ba79b9859f741e082542a385502f25dbf55296c3a545e3872760ab7",
		api.CurveP521: "0200c6858e06b70404e9cd9e3ecb662395b4429c648139053fb521f828af606b4d3dbaa14b5e77efe75928fe1dc127a2ffa8de3348b3c1856a429bf97e7e31c2e5bd66",
		api.CurveK256: "0279be667ef9dcbbac55a06295ce870b07029bfcdb2dce28d959f2815b16f81798",
	} {
		m := models()[id-1]
		checkTaken(t, m, unhex(t, digits), m.base())
	}
}

// TestNoughtsAhead: a number of few bytes is written in as many as P has. Of the
// tiny curves every point is tried elsewhere.
func TestNoughtsAhead(t *testing.T) {
	eachCurve(t, func(t *testing.T, m model, r *rand.Rand) {
		found := 0
		for range 2000 {
			s := m.drawn(r)
			if len(s.x.Bytes()) == m.size() && len(s.y.Bytes()) == m.size() {
				continue
			}
			checkPut(t, m, s)
			for _, text := range m.texts(s) {
				checkTaken(t, m, text, s)
			}
			if found++; found == 4 {
				return
			}
		}
		if m.id < api.CurveTiny1 {
			t.Errorf("%d points", found)
		}
	})
}

// TestSmallAndGreatX: from 0 on, and up to the last below P, with a Y and without.
func TestSmallAndGreatX(t *testing.T) {
	eachCurve(t, func(t *testing.T, m model, _ *rand.Rand) {
		taken := 0
		for d := range int64(40) {
			for _, x := range []*big.Int{big.NewInt(d), less(m.p, d+1)} {
				checkRead(t, m, m.join(even, x))
				checkRead(t, m, m.join(odd, x))
				for oddness := range uint(2) {
					if y := m.root(x, oddness); y != nil {
						taken++
						checkPut(t, m, &spot{x, y})
						checkTaken(t, m, m.join(full, x, y), &spot{x, y})
					}
				}
			}
		}
		if taken < 40 || taken > 120 {
			t.Errorf("%d points", taken)
		}
	})
}

// TestNoY: an X to which no Y belongs, in the short forms and with any Y.
func TestNoY(t *testing.T) {
	eachCurve(t, func(t *testing.T, m model, r *rand.Rand) {
		for range 20 {
			x := m.without(r)
			checkNone(t, m.id, m.join(even, x), api.ErrSec1Point)
			checkNone(t, m.id, m.join(odd, x), api.ErrSec1Point)
			for _, y := range []*big.Int{new(big.Int), m.y, x, m.right(x), new(big.Int).Rand(r, m.p)} {
				checkNone(t, m.id, m.join(full, x, y), api.ErrSec1Point)
			}
		}
	})
}

// TestOtherY: beside an X there are two Y, and no third.
func TestOtherY(t *testing.T) {
	eachCurve(t, func(t *testing.T, m model, r *rand.Rand) {
		for _, s := range m.points(r) {
			checkTaken(t, m, m.join(full, s.x, new(big.Int).Sub(m.p, s.y)), m.neg(s))
			for _, y := range []*big.Int{new(big.Int), big.NewInt(1), less(m.p, 1), s.x, m.right(s.x), m.drawn(r).y} {
				checkRead(t, m, m.join(full, s.x, y))
				checkRead(t, m, m.join(full, y, s.x))
			}
			checkRead(t, m, m.join(full, s.y, s.x))
		}
	})
}

// TestTurnedBits: one bit of a text is another, the first byte's bits too. In
// the short form about half of what comes of it is a point.
func TestTurnedBits(t *testing.T) {
	eachCurve(t, func(t *testing.T, m model, r *rand.Rand) {
		for _, s := range []*spot{m.base(), m.drawn(r)} {
			for _, text := range m.texts(s) {
				for i := range 8 * len(text) {
					turned := []byte(text)
					turned[i/8] ^= 1 << (i % 8)
					checkRead(t, m, string(turned))
				}
			}
		}
	})
}

// fromPTo are numbers from P on that Size bytes have room for.
func (m model) fromPTo(r *rand.Rand) []*big.Int {
	top := less(new(big.Int).Lsh(big.NewInt(1), uint(8*m.size())), 1)
	list := []*big.Int{m.p, more(m.p, 1), more(m.p, 2), less(top, 1), top}
	room := new(big.Int).Sub(top, m.p)
	for range 4 {
		list = append(list, new(big.Int).Add(m.p, new(big.Int).Rand(r, room)))
	}
	return list
}

// TestFromPOn: X or Y alone, and both, whatever the other is.
func TestFromPOn(t *testing.T) {
	eachCurve(t, func(t *testing.T, m model, r *rand.Rand) {
		list := m.fromPTo(r)
		for _, great := range list {
			checkNone(t, m.id, m.join(even, great), api.ErrSec1Point)
			checkNone(t, m.id, m.join(odd, great), api.ErrSec1Point)
			for _, other := range append([]*big.Int{new(big.Int), big.NewInt(1), m.x, m.y, less(m.p, 1)}, list...) {
				checkNone(t, m.id, m.join(full, great, other), api.ErrSec1Point)
				checkNone(t, m.id, m.join(full, other, great), api.ErrSec1Point)
			}
		}
	})
}

// TestSameModuloP: P more than a point's X or Y meets the equation, and is
// refused all the same.
func TestSameModuloP(t *testing.T) {
	eachCurve(t, func(t *testing.T, m model, r *rand.Rand) {
		room := less(new(big.Int).Lsh(big.NewInt(1), uint(8*m.size())), 1)
		room.Sub(room, m.p)
		found := 0
		for _, s := range append(m.smallest(r), m.points(r)...) {
			up := &spot{new(big.Int).Add(s.x, m.p), new(big.Int).Add(s.y, m.p)}
			xFits, yFits := s.x.Cmp(room) <= 0, s.y.Cmp(room) <= 0
			if xFits {
				found++
				checkNone(t, m.id, m.join(full, up.x, s.y), api.ErrSec1Point)
				checkNone(t, m.id, m.join(even, up.x), api.ErrSec1Point)
				checkNone(t, m.id, m.join(odd, up.x), api.ErrSec1Point)
			}
			if yFits {
				checkNone(t, m.id, m.join(full, s.x, up.y), api.ErrSec1Point)
			}
			if xFits && yFits {
				checkNone(t, m.id, m.join(full, up.x, up.y), api.ErrSec1Point)
			}
		}
		if found == 0 {
			t.Error("no X with room above it")
		}
	})
}

// smallest are points of small X, and one of a smaller Y than others.
func (m model) smallest(r *rand.Rand) []*spot {
	var list []*spot
	for x := range int64(12) {
		if y := m.root(big.NewInt(x), uint(r.Intn(2))); y != nil {
			list = append(list, &spot{big.NewInt(x), y})
		}
	}
	least := m.drawn(r)
	for range 30 {
		if s := m.drawn(r); s.y.Cmp(least.y) < 0 {
			least = s
		}
	}
	return append(list, least)
}

// P21.1: lengths and first bytes

// TestFirstBytes: every first byte ahead of every length, of numbers that are a
// point's.
func TestFirstBytes(t *testing.T) {
	eachCurve(t, func(t *testing.T, m model, r *rand.Rand) {
		numbers := strings.Repeat(m.join(full, m.x, m.y)[1:], 2)
		for length := range len(numbers) {
			for first := range 256 {
				text := string([]byte{byte(first)}) + numbers[:length]
				right := (first == full && length == 2*m.size()) || ((first == even || first == odd) && length == m.size())
				if right {
					checkRead(t, m, text)
				} else {
					checkNone(t, m.id, text, api.ErrSec1Form)
				}
			}
		}
	})
}

// TestLengthsByName: the lengths that are nearest to right ones.
func TestLengthsByName(t *testing.T) {
	eachCurve(t, func(t *testing.T, m model, r *rand.Rand) {
		for _, s := range []*spot{m.base(), m.neg(m.base()), m.drawn(r)} {
			long, short := m.text(s, false), m.text(s, true)
			x, y := m.join(full, s.x)[1:], m.join(full, s.y)[1:]
			for _, text := range []string{
				"", long[:1], short[:1], long[:len(long)-1], short[:len(short)-1], long + "\x00", short + "\x00", "\x00" + long, "\x00" + short,
				long[1:], short[1:], "\x04" + x, "\x02" + x + y, "\x03" + x + y, short + y, long + long, short + short, long + short, short + long,
				"\x00" + x, "\x01" + x, "\x05" + x, "\x06" + x, "\x07" + x, "\xff" + x,
				"\x00" + x + y, "\x01" + x + y, "\x05" + x + y, "\x06" + x + y, "\x07" + x + y, "\xff" + x + y,
				"\x00", "\x01", "\x02", "\x03", "\x04", "\x05", "\x06", "\x07", "\xff",
				"02" + x, "04" + x + y, hex.EncodeToString([]byte(long)), hex.EncodeToString([]byte(short)),
				" " + long, long + "\n",
			} {
				// another text of the same length may be that of a tiny curve's point
				if _, errno := m.read(text); errno == api.ErrSec1Form {
					checkNone(t, m.id, text, api.ErrSec1Form)
				} else if m.id < api.CurveTiny1 {
					t.Fatalf("curve %d: %x is not of a wrong form", m.id, text)
				}
			}
		}
	})
}

// TestVeryLong: lengths that no form has, some of which are a form's modulo a
// power of two.
func TestVeryLong(t *testing.T) {
	t.Parallel()
	noughts, points := strings.Repeat("\x00", 1<<24), strings.Repeat(models()[2].join(full, models()[2].x, models()[2].y), 1000)
	for _, m := range models() {
		for _, first := range []byte{0, 1, even, odd, full, 5, 6, 7, 255} {
			for _, length := range []int{256, 1000, 1 << 16, 1<<16 - 1, 1<<16 + 1, 1 << 24} {
				for _, more := range []int{0, m.size(), 2 * m.size()} {
					text := string([]byte{first}) + noughts[:min(len(noughts), length+more)]
					checkNone(t, m.id, text, api.ErrSec1Form)
				}
			}
			checkNone(t, m.id, string([]byte{first})+points, api.ErrSec1Form)
		}
		checkNone(t, m.id, points, api.ErrSec1Form)
	}
}

// TestFormAheadOfPoint: what is of no form is told so, whatever its numbers are.
func TestFormAheadOfPoint(t *testing.T) {
	eachCurve(t, func(t *testing.T, m model, r *rand.Rand) {
		for _, x := range append(m.fromPTo(r), m.without(r), new(big.Int)) {
			for _, first := range []byte{0, 1, 5, 6, 7, 255} {
				checkNone(t, m.id, m.join(first, x), api.ErrSec1Form)
				checkNone(t, m.id, m.join(first, x, x), api.ErrSec1Form)
			}
			checkNone(t, m.id, m.join(full, x), api.ErrSec1Form)
			checkNone(t, m.id, m.join(full, x, x, x), api.ErrSec1Form)
			checkNone(t, m.id, m.join(even, x, x), api.ErrSec1Form)
			checkNone(t, m.id, m.join(odd, x, x), api.ErrSec1Form)
			checkNone(t, m.id, m.join(even, x)+"\x00", api.ErrSec1Form)
			checkNone(t, m.id, m.join(full, x, x)+"\x00", api.ErrSec1Form)
		}
	})
}

// TestTextsOfOthers: a point's bytes on one curve, read on each other one.
func TestTextsOfOthers(t *testing.T) {
	t.Parallel()
	r := rand.New(rand.NewSource(21))
	for _, m := range models() {
		for _, other := range models() {
			for _, s := range []*spot{other.base(), other.drawn(r)} {
				for _, text := range other.texts(s) {
					checkRead(t, m, text)
				}
			}
		}
	}
}

// P21.1: what is not written

// TestInfinity: it is on every curve, and has no bytes.
func TestInfinity(t *testing.T) {
	eachCurve(t, func(t *testing.T, m model, _ *rand.Rand) {
		checkUnwritten(t, m.id, api.Point{Inf: true}, api.ErrSec1Point)
		checkNone(t, m.id, "\x00", api.ErrSec1Form)
	})
}

func TestNotOn(t *testing.T) {
	eachCurve(t, func(t *testing.T, m model, r *rand.Rand) {
		for _, p := range m.wrong(t, r) {
			checkUnwritten(t, m.id, p, api.ErrSec1Point)
		}
	})
}

// TestNotOnByName: what P13.1's words rule out, one by one.
func TestNotOnByName(t *testing.T) {
	eachCurve(t, func(t *testing.T, m model, _ *rand.Rand) {
		g, p := m.base().point(), natOf(m.p)
		list := []api.Point{
			{}, {X: g.X, Y: natOf(more(m.y, 1))}, {X: natOf(more(m.x, 1)), Y: g.Y}, {X: g.Y, Y: g.X},
			{X: small(1), Inf: true}, {Y: small(1), Inf: true}, {X: g.X, Y: g.Y, Inf: true},
			{X: p, Y: g.Y}, {X: g.X, Y: p}, {X: natOf(new(big.Int).Add(m.x, m.p)), Y: g.Y}, {X: g.X, Y: natOf(new(big.Int).Add(m.y, m.p))},
		}
		for _, wrong := range slices.DeleteFunc(list, m.on) {
			checkUnwritten(t, m.id, wrong, api.ErrSec1Point)
		}
	})
}

// TestEveryBit: a point with any one of its bits turned is none.
func TestEveryBit(t *testing.T) {
	eachCurve(t, func(t *testing.T, m model, r *rand.Rand) {
		for _, s := range []*spot{m.base(), m.drawn(r), nil} {
			for i := range 576 {
				p, q := s.point(), s.point()
				p.X.W[i/64] ^= 1 << (i % 64)
				q.Y.W[i/64] ^= 1 << (i % 64)
				for _, q := range slices.DeleteFunc([]api.Point{p, q}, m.on) {
					checkUnwritten(t, m.id, q, api.ErrSec1Point)
				}
			}
			q := s.point()
			q.Inf = !q.Inf
			checkUnwritten(t, m.id, q, api.ErrSec1Point)
		}
	})
}

// P21.1: the curve

// TestNoCurve: whatever the point, the form and the bytes are, the curve is told
// first.
func TestNoCurve(t *testing.T) {
	t.Parallel()
	top := natOf(greatest())
	points := []api.Point{{}, {Inf: true}, {X: small(1), Y: small(1)}, {X: top, Y: top, Inf: true}}
	texts := []string{"", "\x00", "\x02", "\x04", "\x02\x00", "\x04\x00\x00", strings.Repeat("\xff", 1000)}
	for _, m := range models() {
		points = append(points, m.base().point())
		texts = append(texts, m.texts(m.base())...)
		texts = append(texts, m.join(even, m.p), m.join(5, m.x))
	}
	for _, id := range strangers() {
		for _, p := range points {
			checkUnwritten(t, id, p, api.ErrSec1Curve)
		}
		for _, text := range texts {
			checkNone(t, id, text, api.ErrSec1Curve)
		}
	}
}

func TestOnlyFifteenCurves(t *testing.T) {
	t.Parallel()
	for id := -2000; id <= 2000; id++ {
		if 1 <= id && id <= 15 {
			m := models()[id-1]
			checkPut(t, m, m.base())
			checkTaken(t, m, m.text(m.base(), true), m.base())
			checkUnwritten(t, id, api.Point{}, api.ErrSec1Point)
			checkNone(t, id, "", api.ErrSec1Form)
		} else {
			checkUnwritten(t, id, api.Point{}, api.ErrSec1Curve)
			checkNone(t, id, "", api.ErrSec1Curve)
		}
	}
}

// P21.2

// TestThereAndBack: drawn bytes of the right lengths, and all that is taken is
// written as it stood.
func TestThereAndBack(t *testing.T) {
	eachCurve(t, func(t *testing.T, m model, r *rand.Rand) {
		for range 100 {
			text := []byte(m.join(byte(even+r.Intn(2)), new(big.Int).Rand(r, m.p)))
			if r.Intn(8) == 0 {
				r.Read(text[1:])
			}
			checkRead(t, m, string(text))
		}
	})
}

// TestPointsComeBack: in both forms, with the Y that they had.
func TestPointsComeBack(t *testing.T) {
	eachCurve(t, func(t *testing.T, m model, r *rand.Rand) {
		for _, s := range m.points(r) {
			for _, short := range []bool{false, true} {
				text, e := Put(m.id, s.point(), short)
				if got, f := Get(m.id, text); got != s.point() || e != api.OK || f != api.OK {
					t.Fatalf("%v, %v: %x, %d: %v, %d", s.point(), short, text, e, got, f)
				}
			}
		}
	})
}

// TestOpposites: of one X the first byte 2 gives the even Y, and 3 the odd one;
// the two points are opposites.
func TestOpposites(t *testing.T) {
	eachCurve(t, func(t *testing.T, m model, r *rand.Rand) {
		for _, s := range m.points(r) {
			one, e := Get(m.id, m.join(even, s.x))
			two, f := Get(m.id, m.join(odd, s.x))
			if e != api.OK || f != api.OK || one.Y.W[0]%2 != 0 || two.Y.W[0]%2 != 1 {
				t.Fatalf("%x: %v, %d; %v, %d", s.x, one, e, two, f)
			}
			if one != s.point() && two != s.point() || m.neg(spotOf(one)).point() != two {
				t.Fatalf("%x: %v and %v are not opposites of that X", s.x, one, two)
			}
			if sum, errno := affine.Add(m.id, one, two); sum != (api.Point{Inf: true}) || errno != api.OK {
				t.Fatalf("%x: %v and %v make %v, %d", s.x, one, two, sum, errno)
			}
		}
	})
}

// TestProducts: what other layers answer, infinity aside, goes there and back.
func TestProducts(t *testing.T) {
	eachCurve(t, func(t *testing.T, m model, r *rand.Rand) {
		for range 5 {
			k := new(big.Int).Rand(r, m.n)
			p, errno := base.Mul(nil, m.id, natOf(k))
			if errno != api.OK {
				t.Fatalf("%x: %d", k, errno)
			}
			if p.Inf {
				checkUnwritten(t, m.id, p, api.ErrSec1Point)
				continue
			}
			checkPut(t, m, spotOf(p))
			checkTaken(t, m, m.text(spotOf(p), true), spotOf(p))
		}
	})
}

// P21.1: as others write and read

// TestAgainstGo: Go's library writes four of the curves, and reads them.
func TestAgainstGo(t *testing.T) {
	t.Parallel()
	for id, c := range map[int]elliptic.Curve{
		api.CurveP224: elliptic.P224(), api.CurveP256: elliptic.P256(), api.CurveP384: elliptic.P384(), api.CurveP521: elliptic.P521(),
	} {
		t.Run(strconv.Itoa(id), func(t *testing.T) {
			t.Parallel()
			m, r := models()[id-1], rand.New(rand.NewSource(int64(id)))
			for _, s := range m.points(r) {
				long, e := Put(id, s.point(), false)
				short, f := Put(id, s.point(), true)
				if long != string(elliptic.Marshal(c, s.x, s.y)) || short != string(elliptic.MarshalCompressed(c, s.x, s.y)) || e != api.OK || f != api.OK {
					t.Fatalf("%v: %x, %x, %d, %d", s.point(), long, short, e, f)
				}
			}
			for range 100 {
				checkAsGo(t, m, c, drawnText(m, r))
			}
		})
	}
}

// drawnText answers bytes that are a point's, or one bit beside those, or of any
// numbers in a length that is nearly right.
func drawnText(m model, r *rand.Rand) string {
	s := m.drawn(r)
	text := []byte(m.texts(s)[r.Intn(2)])
	switch r.Intn(4) {
	case 0:
		text[r.Intn(len(text))] ^= 1 << r.Intn(8)
	case 1:
		r.Read(text[1:])
	case 2:
		text = text[:len(text)-r.Intn(2)]
	}
	return string(text)
}

func checkAsGo(t *testing.T, m model, c elliptic.Curve, text string) {
	t.Helper()
	x, y := elliptic.Unmarshal(c, []byte(text))
	if x == nil {
		x, y = elliptic.UnmarshalCompressed(c, []byte(text))
	}
	got, errno := Get(m.id, text)
	if (x != nil) != (errno == api.OK) {
		t.Fatalf("%x: %d", text, errno)
	}
	if x != nil && got != (&spot{x, y}).point() {
		t.Fatalf("%x: %v", text, got)
	}
}

// openSSL are drawn points of the curves but the tiny ones, as EC_POINT_point2oct
// of OpenSSL 3.0 told them, a line for each curve in the order of their numbers: a
// short form and its Y, of an even Y and of an odd one, and an X that
// EC_POINT_oct2point refused behind 2 and behind 3.
const openSSL = `
021ee7e8353c55d816f238a4804a2f3d3b978aeb47e4d2dd03 42cbafebe3493dc928539c3912a66798f02a77fe817836e4 03a6c9907d37578cf2b43105ac98c90b950fd79672e9590f2e 9982caa6697f640bc3997fb18ce8ae61070b5faeeb303065 7502298b59bd7a9b113253924a5d805a73943f4e899fa978
02702410902c1d0948965b921105394b6c13beca72e15e530294919e88 8095a8b1783310fbb6f4588e32b587ca25cc571aab2dcde334a533a2 0390437e08c8d3b1f50811b8d500a0f21c6cecc1e9bbf55c2690500921 1558766bcb27926d0cea855f5b87c866caebeba216a46acbeab51979 7304b735ecc87399b51e042840f9635cd876e724f5a48e161ecb9c25
02f16b631410c18ec998fb49c2c7849cb89d5294af0fc555a9739bbd03991ddb96 39abd098d5582735f7375c327678d5d196da1068c0b431ebbc214cd49a819942 03c4e405cfbb91f7322a189533f7c542c0724d80cbb1ac38430556e0385182d010 63e8cfb3a188afc0a56347ee581453a5be3465fcc51b2825c881660b2debe957 7c22e15d89bc6cf9eb06f5904154dbecd68720b155086e1bd8461345041c6d53
026a1c1644d60980343e58385e3071645e6d0d67999b18bb136d824172eb2de521ca1acbe8ba6e6b6b5802e4ee096bf291 3ea017f95aa5b4e23fd3f52c3c28529f5ce1782984788f22da2a8baae7a0c68e63435a2c32eb48f5f1fbd0b09a0b9c56 03aafb781613082c79e45f32eb37e06092213b3b6c65dd2ab1007a43435673f9394bef19ebf6db3cce8a804f50069fb94a d1aa2555b9c95ba3f388aa7cc4e31ceff3689580ffdc2771fd221a789bee26d88e8d6d40f61f8c8a24c94ce535bff1a7 21cba857385327bfab11417051df4ec644e46a8c85a49f4cf991597d55141285ba11c5a8eab813366941baffb12907d0
0201ceed855aa05c7c201014abeacf187f8b32b5b28412fa4fe57e4887db05927270fb87bf6ecdd612bd6c15c3f867b2b8592b941b9c2aa368c2966aeba2ae3fea9a25 0048507dd832a6b5d2aabe05486f31a52363025459f91d157909a881bbe311b7cb937b405c2a1a9aba7c1b5716901bb847dec830f75ad744e64a76b48e18f1d7ae50 030130d26eb9e11b8651078489f026a0f9f0b59f1a6487a8e2df4ca65a48c3378ecd600c8563d8260e144d7f2d741e78e73a4ac423cee50b5517c9bc834b63c7600a3b 015c0b2b467a1eac25ceba05debbc5253bf42d88c46074c5ec02575c9aa9f76bd34f8293e6e072a1d1ccfcb28567add44734e6c3be7435f86f4b0a001bc4265c6a41 017ae88e311ef41a12bbe8d59c39e1a6131133d0021713902bbf238e9e1a144eb2aafb8f9d38a198de837b10d512dc5dac034afb0e56804e52ebdbc6a2be3dbaf47b
027530830029528333cfbafe4eec13486c3d84b7d4234ae561066ccf74c1de6796 a8019062a390b46854dad89ef4fb8a52d08f267434d8d7107d1fd81f34f9292e 03aa00867218229e9bc87045e8ff60f8989faf33c6a8f8785a74b27588204f8dc1 f181e1c0c98cf57aafff5da9c51eac5638891a1bf8c7354c73e3adbdb6ed054b 782f59789795833e02ca80ae1dace4b981485ad260552a7c8d7dbd418904ae87
02e4d698ea741d59c8eaa95e4ef070322a3dd973a2 272972e301b0e823737e6130cc98d028ebae67ea 0314513fb116bb1a8d4769d0a64a863ea0feed5ff2 509a40ea4159f4353dbab8e4bc6804d545ba900f 1f074348b9a54e22ef4bbe2a28253e1cc8a9a6cf
02ba6da77feae7e2ac26a5d9a84dbe28e53023b7acf605f4a413c0c79e 6cec5cfdb9bb3bed0361d71fb19f5af16128997956c4ea3120b8a87c 0328f53b9532270167ebf64d2d14571a5713e20bf9733b4c857113d201 615c664decec2caf8c8b8dec329aad6e224128770bb5c699d140062d 5262fec2fdd43a1661b1a6f1aa8b5c88f2b1d6d0951e6c3486eb047f
020510bfc07f6d3db0c51b890941381cf75ccca1d9bfb491cf391cd6003ccddb6e 53503e32ab7f6fb15114fd04c751bed2d5731ed9607e7199d6c6121878a76ae2 033840347855a60580acc21ec4c7f5cfd2c105bc0aaaff556416a26456742dd925 97acca91866c1349bb356f0d65d5ab80fe24f2f900e9a13c0972b69f6c0078d7 2357fc1604e825a1e41c6e6b19247e98c3d56c80204d5e597148ebe217990484
02c74ae19ac68cc1fd2b369f2935e02d22b84ef2aef5333ab657a9bb5012c2bdcab7f87b202f945698 428919659b5e0e5b92c077edf64e80e29d685fc6dd046998976d5b3f5bc37c7bf84bd1d484d670a2 03c6aef94e173b524b9d3f755d68732eb48460f596935cb1edd664f594269dcb944e1b801eeb2b3c3c 8abbf04293f945fd1313735519c88ef7e8d6ef68c1241319e9aaeb517c1c1f3a11364b1ff7d909b1 047ee41b50d58f847ed700c9209fb362b0fcd3fe5eb5348faa5546a9d015cc48db8d5ae2bff29f7e
0250ee5103dbdf63e92d0f9e6c2408e5bc4cbba69b115885113fdbbf516c8b42c372f9a520cf041311e567673cb2cc300c 68a59b3ea75d93a2c122cb9da2191718711c11065956876dd58ec5b75411555b669235c26ff7db96d1348f0baa99808a 03610030557f972176ee623b516cba3e878181a87f57c3ff81cec2e2edb98ad4643c31adf18b60aa740ccccd2d71f680d0 64c4a10b9a7c07ac3fc6a7942a49508b06fac3efaaba82f4efae0241ca58dd10131fd32057716777ea7bc6edc49088e5 51b9b9089e1c87bdc16990b68064c1ff13d909a269b7e14e4ed1b53da6bbd5806fce35d7b168dc966c9c984d276ab205
028a4e6eadc965edb19a20e76bb0391991fdb9f42e7c6eef61add479f58e8bcf18ba43753bf2a601c04481e025e5d3ec8f52a14ba77b8cddd5c3c3efeff8bfa25d 51ffea19953a4be66e9ce1c8e85882ed8726409ba16c8d14669d610c208a08ff3159d357dd0c868658a5d8b5a3d0f49541a7166b01fa2730e4123702844f5b4e 030f1e91d59fe7cc2768cd97bb5d4cad623737f588af2b8d6d832d237bdab160cd52d3cba90d93d906bf010b99b068ee23f4ce9757484422050ac4f8fa77d66cb9 6423f9f9342a1eaefa42225c4e22030789c19d1b23e2a055ddda6bfdb24779b3bf9a1299500314d35e26c4bd871dd16e5d6293b9f6feb35573d7ea6fd9e1148b 209cc4a49ef7524fb39544eddd2228ff1fb35e2a8c4dadf15b628f2b38bc5dc507a7410b1808af450e3bf34626be7778475cf4c8105c1d64f1212df918ed5fdf
`

func TestAgainstOpenSSL(t *testing.T) {
	t.Parallel()
	for i, line := range strings.Split(strings.TrimSpace(openSSL), "\n") {
		part, m := strings.Fields(line), models()[i]
		for k := 0; k < 4; k += 2 {
			short, y := unhex(t, part[k]), unhex(t, part[k+1])
			s := &spot{new(big.Int).SetBytes([]byte(short[1:])), new(big.Int).SetBytes([]byte(y))}
			checkTaken(t, m, short, s)
			checkTaken(t, m, "\x04"+short[1:]+y, s)
		}
		checkNone(t, m.id, "\x02"+unhex(t, part[4]), api.ErrSec1Point)
		checkNone(t, m.id, "\x03"+unhex(t, part[4]), api.ErrSec1Point)
		if digits(part[4]).Cmp(m.p) >= 0 {
			t.Errorf("curve %d: %s is refused for its size", m.id, part[4])
		}
	}
}

// R4 and R5

// asked is a text beside the point that it is.
type asked struct {
	m    model
	text string
	s    *spot
}

func drawnCalls(r *rand.Rand, count int) []asked {
	list := models()
	var calls []asked
	for i := range count {
		m := list[i%len(list)]
		s := m.drawn(r)
		calls = append(calls, asked{m, m.texts(s)[r.Intn(2)], s})
	}
	return calls
}

// TestCallsApart: the same calls over again, with others and refused ones between
// them.
func TestCallsApart(t *testing.T) {
	t.Parallel()
	r := rand.New(rand.NewSource(5))
	calls, ids := drawnCalls(r, 60), strangers()
	for range 1000 {
		c := calls[r.Intn(len(calls))]
		checkPut(t, c.m, c.s)
		checkTaken(t, c.m, c.text, c.s)
		checkNone(t, ids[r.Intn(len(ids))], c.text, api.ErrSec1Curve)
		checkNone(t, c.m.id, c.text[1:], api.ErrSec1Form)
		checkNone(t, c.m.id, c.m.join(odd, c.m.p), api.ErrSec1Point)
		checkUnwritten(t, c.m.id, api.Point{}, api.ErrSec1Point)
		checkUnwritten(t, ids[r.Intn(len(ids))], c.s.point(), api.ErrSec1Curve)
	}
}

// TestTwiceTheSame: two calls of the same, one behind the other and with a call
// between them in which one thing is another.
func TestTwiceTheSame(t *testing.T) {
	eachCurve(t, func(t *testing.T, m model, r *rand.Rand) {
		s, other := m.drawn(r), m.drawn(r)
		for _, text := range m.texts(s) {
			checkTaken(t, m, text, s)
			checkTaken(t, m, text, s)
			for _, between := range append(m.texts(other), append(m.texts(m.neg(s)), m.texts(s)...)...) {
				checkRead(t, m, between)
				checkTaken(t, m, text, s)
			}
			checkPut(t, m, other)
			checkTaken(t, m, text, s)
			checkPut(t, m, s)
			checkPut(t, m, m.neg(s))
			checkPut(t, m, s)
		}
	})
}

// TestArgumentsStay: what is handed in is a value, and what is answered the
// caller's own.
func TestArgumentsStay(t *testing.T) {
	eachCurve(t, func(t *testing.T, m model, r *rand.Rand) {
		s := m.drawn(r)
		for _, text := range m.texts(s) {
			p, copied := s.point(), strings.Clone(text)
			Put(m.id, p, true)
			Put(m.id, p, false)
			got, _ := Get(m.id, text)
			if p != s.point() || text != copied {
				t.Fatalf("%v, %x", p, text)
			}
			for i := range got.X.W {
				got.X.W[i], got.Y.W[i], p.X.W[i], p.Y.W[i] = ^got.X.W[i], 5, ^p.X.W[i], 7
			}
			checkTaken(t, m, text, s)
		}
	})
}

func TestSeveralGoroutines(t *testing.T) {
	t.Parallel()
	calls := drawnCalls(rand.New(rand.NewSource(8)), 30)
	var group sync.WaitGroup
	for i := range 8 {
		group.Go(func() {
			for turn := range 3 * len(calls) {
				c := calls[(i+turn)%len(calls)]
				got, e := Get(c.m.id, c.text)
				text, f := Put(c.m.id, c.s.point(), c.text[0] != full)
				if got != c.s.point() || text != c.text || e != api.OK || f != api.OK {
					t.Errorf("curve %d: %x: %v, %x, %d, %d", c.m.id, c.text, got, text, e, f)
				}
			}
		})
	}
	group.Wait()
}
