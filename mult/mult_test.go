package mult

import (
	"crypto/elliptic"
	"math"
	"math/big"
	"math/rand"
	"slices"
	"strconv"
	"sync"
	"testing"

	"curvet/api"
	"curvet/trace"
)

func infinity() api.Point {
	return api.Point{Inf: true}
}

// places is how many a table of one window has.
const places = 16

// windows is how many windows of 4 bits cover N's bits.
func (m model) windows() int {
	return (m.n.BitLen() + 3) / 4
}

// row is what is recorded on the curve: every place, window by window.
func (m model) row() []api.Event {
	var list []api.Event
	for range m.windows() {
		for place := range places {
			list = append(list, api.Event{Kind: api.EventIndex, At: place})
		}
	}
	return list
}

// below answers a drawn number below N.
func (m model) below(r *rand.Rand) *big.Int {
	return new(big.Int).Rand(r, m.n)
}

// checkMul asks for d s, with a recorder and with none.
func checkMul(t *testing.T, m model, d *big.Int, s *spot, want *spot) {
	t.Helper()
	tr := trace.New()
	for _, to := range []*trace.Trace{tr, nil} {
		if got, errno := Mul(to, m.id, natOf(d), s.point()); got != want.point() || errno != api.OK {
			t.Fatalf("curve %d: %x times %v: %v, %d; not %v", m.id, d, s.point(), got, errno, want.point())
		}
	}
	if events := tr.Events(); !slices.Equal(events, m.row()) {
		t.Fatalf("curve %d: %x times %v: %d events: %v", m.id, d, s.point(), len(events), events)
	}
}

// times answers what a Mul answers that has to succeed.
func times(t *testing.T, id int, d *big.Int, p api.Point) api.Point {
	t.Helper()
	got, errno := Mul(nil, id, natOf(d), p)
	if errno != api.OK {
		t.Fatalf("curve %d: %x times %v: error %d", id, d, p, errno)
	}
	return got
}

// spotOf is the other way than point.
func spotOf(p api.Point) *spot {
	if p.Inf {
		return nil
	}
	return &spot{bigOf(p.X), bigOf(p.Y)}
}

// walk answers the multiples of the base point, by the model.
func (m model) walk() []*spot {
	all := []*spot{nil}
	for s := m.base(); s != nil; s = m.add(s, m.base()) {
		all = append(all, s)
	}
	return all
}

// P18.1: the tiny curves, whole

// TestTinyEveryProduct: every d below N times every point, in strands that run
// at one time.
func TestTinyEveryProduct(t *testing.T) {
	t.Parallel()
	const strands = 5
	for _, m := range models()[api.CurveTiny1-1:] {
		all := m.walk()
		n := len(all)
		if m.n.Cmp(big.NewInt(int64(n))) != 0 {
			t.Fatalf("curve %d: %d points", m.id, n)
		}
		for strand := range strands {
			t.Run(strconv.Itoa(m.id)+"/"+strconv.Itoa(strand), func(t *testing.T) {
				t.Parallel()
				row := m.row()
				for place := strand; place < n; place += strands {
					for d := range n {
						tr := trace.New()
						got, errno := Mul(tr, m.id, small(d), all[place].point())
						if got != all[place*d%n].point() || errno != api.OK {
							t.Fatalf("%d times %v: %v, %d", d, all[place].point(), got, errno)
						}
						if !slices.Equal(tr.Events(), row) {
							t.Fatalf("%d times %v: %v", d, all[place].point(), tr.Events())
						}
					}
				}
			})
		}
	}
}

// TestTinyJustThePoints: of all pairs of bytes just the points are taken.
func TestTinyJustThePoints(t *testing.T) {
	t.Parallel()
	for _, m := range models()[api.CurveTiny1-1:] {
		taken := 0
		for a := range 256 {
			for b := range 256 {
				p := api.Point{X: small(a), Y: small(b)}
				if m.on(p) {
					if got := times(t, m.id, big.NewInt(1), p); got != p {
						t.Fatalf("%v: %v", p, got)
					}
					taken++
				} else {
					checkNone(t, m.id, small(1), p, api.ErrMultPoint)
				}
				if p.Inf = true; a+b > 0 {
					checkNone(t, m.id, small(1), p, api.ErrMultPoint)
				}
			}
		}
		if m.n.Cmp(big.NewInt(int64(taken+1))) != 0 {
			t.Errorf("curve %d: %d points", m.id, taken)
		}
	}
}

// TestTinyJustTheNumbers: of all numbers around N just those below it are taken.
func TestTinyJustTheNumbers(t *testing.T) {
	t.Parallel()
	for _, m := range models()[api.CurveTiny1-1:] {
		n := int(m.n.Int64())
		for d := range 1100 {
			if d >= n {
				checkNone(t, m.id, small(d), m.base().point(), api.ErrMultRange)
				checkNone(t, m.id, small(d), infinity(), api.ErrMultRange)
			} else if _, errno := Mul(nil, m.id, small(d), m.base().point()); errno != api.OK {
				t.Fatalf("curve %d: %d: error %d", m.id, d, errno)
			}
		}
	}
}

// P18.1: the twelve other curves

// scalars are the edges, and drawn numbers of all lengths.
func (m model) scalars(r *rand.Rand) []*big.Int {
	var list []*big.Int
	for _, d := range []int64{0, 1, 2, 15, 16, 17} {
		list = append(list, big.NewInt(d))
	}
	list = append(list, less(m.n, 2), less(m.n, 1))
	for range 3 {
		list = append(list, m.below(r))
	}
	return append(list, new(big.Int).Rsh(m.below(r), uint(r.Intn(m.n.BitLen()))))
}

func TestProducts(t *testing.T) {
	eachCurve(t, func(t *testing.T, m model, r *rand.Rand) {
		one, two := m.drawn(r), m.drawn(r)
		for _, s := range []*spot{m.base(), nil, one, m.neg(one), two, m.neg(two)} {
			for _, d := range m.scalars(r) {
				checkMul(t, m, d, s, m.times(d, s))
			}
		}
	})
}

// TestByName: what needs no model.
func TestByName(t *testing.T) {
	eachCurve(t, func(t *testing.T, m model, r *rand.Rand) {
		for _, s := range []*spot{m.base(), m.neg(m.base()), m.drawn(r)} {
			checkMul(t, m, big.NewInt(0), s, nil)
			checkMul(t, m, big.NewInt(1), s, s)
			checkMul(t, m, less(m.n, 1), s, m.neg(s))
		}
		for _, d := range []*big.Int{big.NewInt(0), big.NewInt(1), less(m.n, 1), m.below(r)} {
			checkMul(t, m, d, nil, nil)
		}
	})
}

// TestOneWindowAlone: a digit with noughts on both sides, at each window's place.
func TestOneWindowAlone(t *testing.T) {
	eachCurve(t, func(t *testing.T, m model, r *rand.Rand) {
		s := m.drawn(r)
		unit, power := s, big.NewInt(1)
		for range m.windows() {
			digit := big.NewInt(int64(1 + r.Intn(places-1)))
			d := new(big.Int).Mul(digit, power)
			if d.Cmp(m.n) >= 0 {
				d, digit = power, big.NewInt(1)
			}
			if got := times(t, m.id, d, s.point()); got != m.times(digit, unit).point() {
				t.Fatalf("%x times %v: %v", d, s.point(), got)
			}
			unit, power = m.times(big.NewInt(places), unit), new(big.Int).Lsh(power, 4)
		}
	})
}

// TestLikeWindows: one digit in every window but the highest, which has room for
// no more than 0 on some curves.
func TestLikeWindows(t *testing.T) {
	eachCurve(t, func(t *testing.T, m model, r *rand.Rand) {
		s := m.drawn(r)
		for digit := range places {
			d := new(big.Int)
			for range m.windows() - 1 {
				d.Lsh(d, 4).Or(d, big.NewInt(int64(digit)))
			}
			if got := times(t, m.id, d, s.point()); got != m.times(d, s).point() {
				t.Fatalf("%x times %v: %v", d, s.point(), got)
			}
		}
	})
}

// TestXOfNought: where there is a point with an X of 0 it is a point like
// others, not infinity.
func TestXOfNought(t *testing.T) {
	t.Parallel()
	found, r := 0, rand.New(rand.NewSource(18))
	for _, m := range models() {
		y := new(big.Int).ModSqrt(m.b, m.p)
		if y == nil {
			continue
		}
		found++
		for _, s := range []*spot{{new(big.Int), y}, m.neg(&spot{new(big.Int), y})} {
			for _, d := range []*big.Int{big.NewInt(0), big.NewInt(1), big.NewInt(2), big.NewInt(16), less(m.n, 1), m.below(r)} {
				checkMul(t, m, d, s, m.times(d, s))
			}
		}
	}
	if found < 2 {
		t.Errorf("%d curves have a point with an X of 0", found)
	}
}

// TestProductsThatMeetXOfNought: d times a point is the one with an X of 0.
func TestProductsThatMeetXOfNought(t *testing.T) {
	t.Parallel()
	r := rand.New(rand.NewSource(19))
	for _, m := range models() {
		y := new(big.Int).ModSqrt(m.b, m.p)
		if y == nil {
			continue
		}
		want := &spot{new(big.Int), y}
		d := more(new(big.Int).Rand(r, less(m.n, 1)), 1)
		s := m.times(new(big.Int).ModInverse(d, m.n), want)
		checkMul(t, m, d, s, want)
	}
}

// TestSums: (d + e) p is d p and e p added.
func TestSums(t *testing.T) {
	eachCurve(t, func(t *testing.T, m model, r *rand.Rand) {
		for _, s := range []*spot{m.base(), m.drawn(r), m.drawn(r), nil} {
			p, d := s.point(), m.below(r)
			for _, e := range []*big.Int{m.below(r), d, new(big.Int).Mod(new(big.Int).Neg(d), m.n), big.NewInt(0), big.NewInt(1)} {
				sum := new(big.Int).Add(d, e)
				want := m.add(spotOf(times(t, m.id, d, p)), spotOf(times(t, m.id, e, p)))
				if got := times(t, m.id, sum.Mod(sum, m.n), p); got != want.point() {
					t.Fatalf("%x and %x times %v: %v, not %v", d, e, p, got, want.point())
				}
			}
		}
	})
}

// TestChains: d (e p) is (d e) p, and by the inverse of d modulo N it goes back.
func TestChains(t *testing.T) {
	eachCurve(t, func(t *testing.T, m model, r *rand.Rand) {
		for _, s := range []*spot{m.base(), m.drawn(r), m.drawn(r), nil} {
			p, d := s.point(), more(new(big.Int).Rand(r, less(m.n, 1)), 1)
			for _, e := range []*big.Int{m.below(r), m.below(r), less(m.n, 1), big.NewInt(0), new(big.Int).ModInverse(d, m.n)} {
				product := new(big.Int).Mul(d, e)
				got := times(t, m.id, d, times(t, m.id, e, p))
				if want := times(t, m.id, product.Mod(product, m.n), p); got != want {
					t.Fatalf("%x times %x times %v: %v, not %v", d, e, p, got, want)
				}
			}
			back := times(t, m.id, new(big.Int).ModInverse(d, m.n), times(t, m.id, d, p))
			if back != p {
				t.Fatalf("%x times %v, and back: %v", d, p, back)
			}
		}
	})
}

// TestAgainstTheLibrary: Go's own curves go another way to products.
func TestAgainstTheLibrary(t *testing.T) {
	t.Parallel()
	for id, c := range map[int]elliptic.Curve{
		api.CurveP224: elliptic.P224(), api.CurveP256: elliptic.P256(), api.CurveP384: elliptic.P384(), api.CurveP521: elliptic.P521(),
	} {
		m, r := models()[id-1], rand.New(rand.NewSource(int64(id)))
		for range 8 {
			s, d := m.drawn(r), more(new(big.Int).Rand(r, less(m.n, 1)), 1)
			x, y := c.ScalarMult(s.x, s.y, d.Bytes())
			checkMul(t, m, d, s, &spot{x, y})
			x, y = c.ScalarBaseMult(d.Bytes())
			checkMul(t, m, d, m.base(), &spot{x, y})
		}
	}
}

// TestPublished: keys and shared secrets of RFC 5903 and RFC 7027, and a key of
// K256 that is told with many of its programs.
func TestPublished(t *testing.T) {
	for i, c := range []struct {
		id              int
		d, x, y, wx, wy string
	}{
		{
			id: api.CurveP256, d: "c88f01f510d9ac3f70a292daa2316de544e9aab8afe84049c62a9c57862d1433",
			wx: "dad0b65394221cf9b051e1feca5787d098dfe637fc90b9ef945d0c3772581180", wy: "5271a0461cdb8252d61f1c456fa3e59ab1f45b33accf5f58389e0577b8990bb3",
		},
		{
			id: api.CurveP256, d: "c88f01f510d9ac3f70a292daa2316de544e9aab8afe84049c62a9c57862d1433",
			x: "d12dfb5289c8d4f81208b70270398c342296970a0bccb74c736fc7554494bf63", y: "56fbf3ca366cc23e8157854c13c58d6aac23f046ada30f8353e74f33039872ab",
			wx: "d6840f6b42f6edafd13116e0e12565202fef8e9ece7dce03812464d04b9442de",
		},
		{
			id: api.CurveB256, d: "81db1ee100150ff2ea338d708271be38300cb54241d79950f77b063039804f1d",
			wx: "44106e913f92bc02a1705d9953a8414db95e1aaa49e81d9e85f929a8e3100be5", wy: "8ab4846f11caccb73ce49cbdd120f5a900a69fd32c272223f789ef10eb089bdc",
		},
		{
			id: api.CurveB256, d: "81db1ee100150ff2ea338d708271be38300cb54241d79950f77b063039804f1d",
			x: "8d2d688c6cf93e1160ad04cc4429117dc2c41825e1e9fca0addd34e6f1b39f7b", y: "990c57520812be512641e47034832106bc7d3e8dd0e4c7f1136d7006547cec6a",
			wx: "89afc39d41d3b327814b80940b042590f96556ec91e6ae7939bce31f3a18bf2b", wy: "49c27868f4eca2179bfd7d59b1e3bf34c1dbde61ae12931648f43e59632504de",
		},
		{
			id: api.CurveK256, d: "aa5e28d6a97a2479a65527f7290311a3624d4cc0fa1578598ee3c2613bf99522",
			wx: "34f9460f0e4f08393d192b3c5133a6ba099aa0ad9fd54ebccfacdfa239ff49c6", wy: "0b71ea9bd730fd8923f6d25a7a91e7dd7728a960686cb5a901bb419e0f2ca232",
		},
	} {
		m := models()[c.id-1]
		s := m.base()
		if c.x != "" {
			s = &spot{digits(c.x), digits(c.y)}
		}
		got := times(t, c.id, digits(c.d), s.point())
		if got.X != natOf(digits(c.wx)) || got.Inf || c.wy != "" && got.Y != natOf(digits(c.wy)) {
			t.Errorf("row %d: %x, %x", i, bigOf(got.X), bigOf(got.Y))
		}
	}
}

// P18.1: the errors

// held answers a recorder that holds events already, and these.
func held(t *testing.T) (*trace.Trace, []api.Event) {
	t.Helper()
	tr := trace.New()
	for _, errno := range []api.Errno{tr.Branch(true), tr.Index(7), tr.Branch(false), tr.Index(-3), tr.Index(math.MaxInt), tr.Index(0), tr.Index(1)} {
		if errno != api.OK {
			t.Fatalf("error %d", errno)
		}
	}
	return tr, []api.Event{
		{Kind: api.EventBranch, At: 1}, {Kind: api.EventIndex, At: 7}, {Kind: api.EventBranch}, {Kind: api.EventIndex, At: -3},
		{Kind: api.EventIndex, At: math.MaxInt}, {Kind: api.EventIndex}, {Kind: api.EventIndex, At: 1},
	}
}

// checkNone: beside an error the point is a zero value and nothing is recorded,
// whether the recorder is new, holds events already or is none.
func checkNone(t *testing.T, id int, d api.Nat, p api.Point, want api.Errno) {
	t.Helper()
	full, events := held(t)
	empty := trace.New()
	for _, tr := range []*trace.Trace{empty, full, nil} {
		if got, errno := Mul(tr, id, d, p); got != (api.Point{}) || errno != want {
			t.Fatalf("curve %d: %x times %v: %v, %d; not %d", id, bigOf(d), p, got, errno, want)
		}
	}
	if empty.Len() != 0 || !slices.Equal(full.Events(), events) {
		t.Fatalf("curve %d: %x times %v: %v, %v", id, bigOf(d), p, empty.Events(), full.Events())
	}
}

// fromNOn are numbers that are not below N, far and near; in some of them one
// word alone is too great.
func (m model) fromNOn(r *rand.Rand) []*big.Int {
	one := big.NewInt(1)
	list := []*big.Int{m.n, more(m.n, 1), more(m.n, 2), new(big.Int).Lsh(m.n, 1), greatest(), less(greatest(), 1)}
	list = append(list, less(new(big.Int).Lsh(one, uint(m.n.BitLen())), 1), new(big.Int).Lsh(one, 575), m.p)
	for k := m.n.BitLen(); k < 576; k += 1 + r.Intn(8) {
		top := new(big.Int).Lsh(one, uint(k))
		list = append(list, top, more(top, 1), new(big.Int).Or(top, m.below(r)))
	}
	for k := uint(0); k < 576; k += 64 {
		list = append(list, new(big.Int).Add(m.n, new(big.Int).Lsh(one, k)))
	}
	room := new(big.Int).Sub(greatest(), m.n)
	for range 20 {
		list = append(list, new(big.Int).Add(m.n, new(big.Int).Rand(r, room)))
	}
	return slices.DeleteFunc(list, func(d *big.Int) bool { return d.Cmp(m.n) < 0 || d.BitLen() > 576 })
}

// TestNoCurve: whatever the number and the point are, the curve is told first.
func TestNoCurve(t *testing.T) {
	t.Parallel()
	top := natOf(greatest())
	points := []api.Point{{}, infinity(), {X: small(1), Y: small(1)}, {X: top, Y: top, Inf: true}, {X: small(1), Inf: true}}
	numbers := []api.Nat{small(0), small(1), top}
	for _, m := range models() {
		points = append(points, m.base().point())
		numbers = append(numbers, natOf(m.n), natOf(less(m.n, 1)))
	}
	for _, id := range strangers() {
		for _, p := range points {
			for _, d := range numbers {
				checkNone(t, id, d, p, api.ErrMultCurve)
			}
		}
	}
}

func TestOnlyFifteenCurves(t *testing.T) {
	t.Parallel()
	for id := -2000; id <= 2000; id++ {
		if 1 <= id && id <= 15 {
			checkMul(t, models()[id-1], big.NewInt(2), nil, nil)
			checkNone(t, id, small(2), api.Point{}, api.ErrMultPoint)
		} else {
			checkNone(t, id, small(2), infinity(), api.ErrMultCurve)
			checkNone(t, id, small(2), api.Point{}, api.ErrMultCurve)
		}
	}
}

// TestNotOn: whatever the number is, the point is told ahead of it.
func TestNotOn(t *testing.T) {
	eachCurve(t, func(t *testing.T, m model, r *rand.Rand) {
		numbers := []*big.Int{big.NewInt(0), big.NewInt(1), less(m.n, 1), m.below(r), m.n, more(m.n, 1), greatest()}
		for _, p := range m.wrong(t, r) {
			for _, d := range numbers {
				checkNone(t, m.id, natOf(d), p, api.ErrMultPoint)
			}
		}
	})
}

// TestEveryBit: a point with any one of its bits turned is none.
func TestEveryBit(t *testing.T) {
	eachCurve(t, func(t *testing.T, m model, r *rand.Rand) {
		for _, s := range []*spot{m.base(), m.drawn(r), nil} {
			for i := range 576 {
				p, q := s.point(), s.point()
				p.X.W[i/64] ^= 1 << (i % 64)
				q.Y.W[i/64] ^= 1 << (i % 64)
				for _, p := range slices.DeleteFunc([]api.Point{p, q}, m.on) {
					checkNone(t, m.id, small(3), p, api.ErrMultPoint)
				}
			}
			p := s.point()
			p.Inf = !p.Inf
			checkNone(t, m.id, small(3), p, api.ErrMultPoint)
		}
	})
}

// TestNotOnByName: what P13.1's words rule out, one by one.
func TestNotOnByName(t *testing.T) {
	eachCurve(t, func(t *testing.T, m model, _ *rand.Rand) {
		g, p := m.base().point(), natOf(m.p)
		list := []api.Point{
			{}, {X: g.X, Y: natOf(more(m.y, 1))}, {X: natOf(more(m.x, 1)), Y: g.Y}, {X: g.Y, Y: g.X},
			{X: small(1), Inf: true}, {Y: small(1), Inf: true}, {X: g.X, Y: g.Y, Inf: true},
			{X: p, Y: g.Y}, {X: g.X, Y: p}, {X: natOf(new(big.Int).Add(m.x, m.p)), Y: g.Y}, {X: g.X, Y: natOf(new(big.Int).Add(m.y, m.p))},
		}
		for _, wrong := range slices.DeleteFunc(list, m.on) {
			checkNone(t, m.id, small(1), wrong, api.ErrMultPoint)
			checkNone(t, m.id, natOf(m.n), wrong, api.ErrMultPoint)
		}
	})
}

// TestPointsOfOthers: a point of one curve is told off by each other curve that
// does not have it.
func TestPointsOfOthers(t *testing.T) {
	r := rand.New(rand.NewSource(14))
	for _, m := range models() {
		for _, other := range models() {
			for _, p := range []api.Point{other.base().point(), other.drawn(r).point()} {
				if !m.on(p) {
					checkNone(t, m.id, small(5), p, api.ErrMultPoint)
				}
			}
		}
	}
}

func TestFromNOn(t *testing.T) {
	eachCurve(t, func(t *testing.T, m model, r *rand.Rand) {
		for _, d := range m.fromNOn(r) {
			for _, s := range []*spot{m.base(), m.drawn(r), nil} {
				checkNone(t, m.id, natOf(d), s.point(), api.ErrMultRange)
			}
		}
	})
}

// TestJustBelowN: N less one in one of its words, and less 1, is taken.
func TestJustBelowN(t *testing.T) {
	eachCurve(t, func(t *testing.T, m model, r *rand.Rand) {
		s := m.drawn(r)
		for k := 0; k < m.n.BitLen(); k += 64 {
			d := new(big.Int).Sub(m.n, new(big.Int).Lsh(big.NewInt(1), uint(k)))
			if d.Sign() >= 0 {
				checkMul(t, m, d, s, m.times(d, s))
			}
		}
	})
}

// TestBelow: each word tells, and the highest first.
func TestBelow(t *testing.T) {
	r := rand.New(rand.NewSource(3))
	for range 20000 {
		var d, n api.Nat
		for i := range d.W {
			d.W[i] = r.Uint64() >> r.Intn(65)
			n.W[i] = d.W[i]
			if r.Intn(5) == 0 {
				n.W[i] = r.Uint64() >> r.Intn(65)
			}
		}
		if below(d, n) != (bigOf(d).Cmp(bigOf(n)) < 0) {
			t.Fatalf("%v, %v", d, n)
		}
	}
}

// P18.2

// secrets are numbers of a curve as unlike as they can be.
func (m model) secrets(r *rand.Rand) []*big.Int {
	half := new(big.Int).Rsh(m.n, 1)
	return []*big.Int{big.NewInt(0), big.NewInt(1), big.NewInt(15), big.NewInt(16), half, less(m.n, 1), m.below(r), m.below(r)}
}

// TestSameForAllSecrets (T4): event by event, whatever the number and the point
// are.
func TestSameForAllSecrets(t *testing.T) {
	eachCurve(t, func(t *testing.T, m model, r *rand.Rand) {
		var first []api.Event
		for _, s := range []*spot{m.base(), m.neg(m.base()), m.drawn(r), nil} {
			for _, d := range m.secrets(r) {
				tr := trace.New()
				if _, errno := Mul(tr, m.id, natOf(d), s.point()); errno != api.OK {
					t.Fatalf("error %d", errno)
				}
				if first == nil {
					first = tr.Events()
				}
				if !trace.Same(first, tr.Events()) || tr.Len() == 0 {
					t.Fatalf("%x times %v: %v", d, s.point(), tr.Events())
				}
			}
		}
	})
}

// TestEachPlaceOfEachWindow: how many windows there are is written out here.
func TestEachPlaceOfEachWindow(t *testing.T) {
	windows := [...]int{48, 56, 64, 96, 131, 64, 40, 56, 64, 80, 96, 128, 2, 2, 2}
	eachCurve(t, func(t *testing.T, m model, r *rand.Rand) {
		for _, d := range []*big.Int{big.NewInt(0), m.below(r)} {
			tr := trace.New()
			Mul(tr, m.id, natOf(d), m.base().point())
			var seen [places]int
			for _, e := range tr.Events() {
				if e.Kind == api.EventIndex && 0 <= e.At && e.At < places {
					seen[e.At]++
				}
			}
			for place, count := range seen {
				if count < windows[m.id-1] {
					t.Errorf("place %d: %d times, of %d windows", place, count, windows[m.id-1])
				}
			}
		}
	})
}

// TestRecordedBehind: what a recorder holds stays, and what is recorded stands
// behind it.
func TestRecordedBehind(t *testing.T) {
	eachCurve(t, func(t *testing.T, m model, r *rand.Rand) {
		tr, events := held(t)
		for _, s := range []*spot{m.base(), m.drawn(r), nil} {
			for _, d := range []*big.Int{big.NewInt(0), m.below(r)} {
				if got, errno := Mul(tr, m.id, natOf(d), s.point()); got != m.times(d, s).point() || errno != api.OK {
					t.Fatalf("%x times %v: %v, %d", d, s.point(), got, errno)
				}
				events = append(events, m.row()...)
				Mul(tr, m.id, natOf(m.n), s.point())
				Mul(tr, m.id, natOf(d), api.Point{})
				Mul(tr, -m.id, natOf(d), s.point())
				if !slices.Equal(tr.Events(), events) {
					t.Fatalf("%x times %v: %d events", d, s.point(), tr.Len())
				}
			}
		}
	})
}

// TestRecorderIsNotKept: a later call records to its own recorder alone.
func TestRecorderIsNotKept(t *testing.T) {
	m := models()[api.CurveTiny2-1]
	g := m.base().point()
	one, two := trace.New(), trace.New()
	Mul(one, m.id, small(1), g)
	Mul(two, m.id, small(2), g)
	Mul(nil, m.id, small(3), g)
	Mul(two, m.id, small(4), g)
	if !slices.Equal(one.Events(), m.row()) || !slices.Equal(two.Events(), append(m.row(), m.row()...)) {
		t.Errorf("%v, %v", one.Events(), two.Events())
	}
}

// R5

// asked is a call beside what it has to answer.
type asked struct {
	m    model
	d    *big.Int
	s    *spot
	want *spot
}

func drawnCalls(r *rand.Rand, count int) []asked {
	list := models()
	var calls []asked
	for i := range count {
		m := list[i%len(list)]
		s, d := m.drawn(r), m.below(r)
		calls = append(calls, asked{m, d, s, m.times(d, s)})
	}
	return calls
}

// TestCallsApart: the same calls over again, with others and refused ones between
// them.
func TestCallsApart(t *testing.T) {
	t.Parallel()
	r := rand.New(rand.NewSource(5))
	calls, ids := drawnCalls(r, 30), strangers()
	for range 120 {
		c := calls[r.Intn(len(calls))]
		checkMul(t, c.m, c.d, c.s, c.want)
		checkNone(t, ids[r.Intn(len(ids))], natOf(c.d), c.s.point(), api.ErrMultCurve)
		checkNone(t, c.m.id, natOf(c.d), api.Point{}, api.ErrMultPoint)
		checkNone(t, c.m.id, natOf(c.m.n), c.s.point(), api.ErrMultRange)
	}
}

// TestTwiceTheSame: two calls of the same, one behind the other and with a call
// of the opposite point or of another number between them.
func TestTwiceTheSame(t *testing.T) {
	eachCurve(t, func(t *testing.T, m model, r *rand.Rand) {
		s, d := m.drawn(r), m.below(r)
		want := m.times(d, s)
		checkMul(t, m, d, s, want)
		checkMul(t, m, d, s, want)
		checkMul(t, m, d, m.neg(s), m.neg(want))
		checkMul(t, m, d, s, want)
		checkMul(t, m, new(big.Int).Mod(new(big.Int).Neg(d), m.n), s, m.neg(want))
		checkMul(t, m, d, s, want)
	})
}

// TestArgumentsStay: what is handed in is a value, and what is answered the
// caller's own.
func TestArgumentsStay(t *testing.T) {
	eachCurve(t, func(t *testing.T, m model, r *rand.Rand) {
		s, k := m.drawn(r), m.below(r)
		p, d := s.point(), natOf(k)
		got, _ := Mul(trace.New(), m.id, d, p)
		if p != s.point() || d != natOf(k) {
			t.Fatalf("%v, %v", p, d)
		}
		for i := range got.X.W {
			got.X.W[i], got.Y.W[i], p.X.W[i], d.W[i] = ^got.X.W[i], 5, ^p.X.W[i], 7
		}
		checkMul(t, m, k, s, m.times(k, s))
	})
}

func TestSeveralGoroutines(t *testing.T) {
	t.Parallel()
	calls := drawnCalls(rand.New(rand.NewSource(8)), 15)
	var group sync.WaitGroup
	for i := range 8 {
		group.Go(func() {
			for turn := range calls {
				c := calls[(i+turn)%len(calls)]
				tr := trace.New()
				got, errno := Mul(tr, c.m.id, natOf(c.d), c.s.point())
				if got != c.want.point() || errno != api.OK || !slices.Equal(tr.Events(), c.m.row()) {
					t.Errorf("curve %d: %x times %v: %v, %d", c.m.id, c.d, c.s.point(), got, errno)
				}
			}
		})
	}
	group.Wait()
}

// Ways: a window at a time, by layer 16's table

// TestTriple: by masks alone, of a point and of infinity.
func TestTriple(t *testing.T) {
	if got := triple(infinity()); got != (api.Proj{Y: small(1)}) {
		t.Errorf("infinity: %v", got)
	}
	eachCurve(t, func(t *testing.T, m model, r *rand.Rand) {
		for _, s := range []*spot{m.base(), m.neg(m.base()), m.drawn(r), m.drawn(r)} {
			p := s.point()
			if got := triple(p); got != (api.Proj{X: p.X, Y: p.Y, Z: small(1)}) {
				t.Errorf("%v: %v", p, got)
			}
		}
	})
}

// TestTripleOfOneBit: any one bit tells a point from infinity.
func TestTripleOfOneBit(t *testing.T) {
	for i := range 576 {
		var a api.Nat
		a.W[i/64] = 1 << (i % 64)
		for _, p := range []api.Point{{X: a}, {Y: a}, {X: a, Y: a}} {
			if got := triple(p); got != (api.Proj{X: p.X, Y: p.Y, Z: small(1)}) {
				t.Fatalf("%v: %v", p, got)
			}
		}
	}
}

// TestBIsNotNought: triple leans on it.
func TestBIsNotNought(t *testing.T) {
	for _, m := range models() {
		if m.on(api.Point{}) || m.b.Sign() == 0 {
			t.Errorf("curve %d has a B of 0", m.id)
		}
	}
}

// TestWindowWidth: the table has a place for each digit.
func TestWindowWidth(t *testing.T) {
	if api.WindowWidth != 4 || 1<<api.WindowWidth != places || places > api.MaxTable {
		t.Fatalf("WindowWidth: %d", api.WindowWidth)
	}
}

// TestEachDigitIsPickedOnce: those of the number, from the highest on, and as
// many as N's bits ask for.
func TestEachDigitIsPickedOnce(t *testing.T) {
	eachCurve(t, func(t *testing.T, m model, r *rand.Rand) {
		c := api.Curve{Id: m.id, Bits: m.n.BitLen()}
		for _, d := range m.secrets(r) {
			var picked []int
			product(c, natOf(d), func(digit int) api.Proj {
				picked = append(picked, digit)
				return triple(infinity())
			})
			var want []int
			for i := m.windows() - 1; i >= 0; i-- {
				part := new(big.Int).Rsh(d, uint(4*i))
				want = append(want, int(part.And(part, big.NewInt(places-1)).Int64()))
			}
			if !slices.Equal(picked, want) {
				t.Fatalf("%x: %v", d, picked)
			}
		}
	})
}
