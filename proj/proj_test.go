package proj

import (
	"crypto/elliptic"
	"math/big"
	"math/rand"
	"sync"
	"testing"

	"curvet/api"
)

// checkTriple: which triple is answered is free, so it is held against the
// chapter's rule and by the point that it stands for.
func checkTriple(t *testing.T, what string, m model, got api.Proj, errno api.Errno, want *spot) {
	t.Helper()
	if errno != api.OK || !m.of(got) || m.standsFor(got).point() != want.point() {
		t.Fatalf("curve %d: %s: (%x : %x : %x), %d", m.id, what, bigOf(got.X), bigOf(got.Y), bigOf(got.Z), errno)
	}
}

func checkPoint(t *testing.T, what string, m model, got api.Point, errno api.Errno, want *spot) {
	t.Helper()
	if got != want.point() || errno != api.OK {
		t.Fatalf("curve %d: %s: (%x, %x, %v), %d", m.id, what, bigOf(got.X), bigOf(got.Y), got.Inf, errno)
	}
}

func checkFrom(t *testing.T, m model, s *spot) {
	t.Helper()
	got, errno := From(m.id, s.point())
	checkTriple(t, "From", m, got, errno, s)
	back, errno := To(m.id, got)
	checkPoint(t, "To of From", m, back, errno, s)
}

func checkTo(t *testing.T, m model, p api.Proj, s *spot) {
	t.Helper()
	got, errno := To(m.id, p)
	checkPoint(t, "To", m, got, errno, s)
}

// checkAdd asks for the sum by several triples of both points.
func checkAdd(t *testing.T, m model, s *spot, o *spot, r *rand.Rand) {
	t.Helper()
	sum := m.add(s, o)
	right := m.triples(o, r)
	for i, p := range m.triples(s, r) {
		for _, q := range []api.Proj{right[i], m.anyTriple(o, r)} {
			got, errno := Add(m.id, p, q)
			checkTriple(t, "Add", m, got, errno, sum)
		}
	}
}

func checkDouble(t *testing.T, m model, s *spot, r *rand.Rand) {
	t.Helper()
	twice := m.add(s, s)
	for _, p := range m.triples(s, r) {
		got, errno := Double(m.id, p)
		checkTriple(t, "Double", m, got, errno, twice)
	}
}

// must answers what a call answers that has to succeed.
func must(t *testing.T) func(p api.Proj, errno api.Errno) api.Proj {
	return func(p api.Proj, errno api.Errno) api.Proj {
		t.Helper()
		if errno != api.OK {
			t.Fatalf("error %d", errno)
		}
		return p
	}
}

func infinity() api.Point {
	return api.Point{Inf: true}
}

// some are points of the curve, infinity among them.
func (m model) some(r *rand.Rand) []*spot {
	return []*spot{m.base(), m.neg(m.base()), m.drawn(r), m.drawn(r), m.drawn(r), nil}
}

// P15.1: From

func TestFrom(t *testing.T) {
	eachCurve(t, func(t *testing.T, m model, r *rand.Rand) {
		for _, s := range m.some(r) {
			checkFrom(t, m, s)
		}
		for range 30 {
			checkFrom(t, m, m.drawn(r))
		}
	})
}

func TestFromInfinity(t *testing.T) {
	eachCurve(t, func(t *testing.T, m model, _ *rand.Rand) {
		got, errno := From(m.id, infinity())
		if got.X != (api.Nat{}) || got.Y == (api.Nat{}) || got.Z != (api.Nat{}) || errno != api.OK {
			t.Fatalf("%v, %d", got, errno)
		}
		if back, errno := To(m.id, got); back != infinity() || errno != api.OK {
			t.Fatalf("%v, %d", back, errno)
		}
	})
}

// P15.1: To

func TestToOfAnyTriple(t *testing.T) {
	eachCurve(t, func(t *testing.T, m model, r *rand.Rand) {
		for _, s := range m.some(r) {
			for _, p := range m.triples(s, r) {
				checkTo(t, m, p, s)
			}
		}
		for range 30 {
			s := m.drawn(r)
			checkTo(t, m, m.anyTriple(s, r), s)
		}
	})
}

// TestToOfZOfEveryLength: no length of Z is mistaken for 0 or for 1.
func TestToOfZOfEveryLength(t *testing.T) {
	eachCurve(t, func(t *testing.T, m model, r *rand.Rand) {
		for size := range m.p.BitLen() - 1 {
			s := m.drawn(r)
			z := new(big.Int).Lsh(big.NewInt(1), uint(size))
			checkTo(t, m, m.triple(s, z), s)
			checkTo(t, m, m.triple(nil, z), nil)
		}
	})
}

func TestToInfinity(t *testing.T) {
	eachCurve(t, func(t *testing.T, m model, r *rand.Rand) {
		list := []*big.Int{big.NewInt(1), big.NewInt(2), m.y, less(m.p, 1)}
		for range 30 {
			list = append(list, m.factor(r))
		}
		for _, y := range list {
			if got, errno := To(m.id, api.Proj{Y: natOf(y)}); got != infinity() || errno != api.OK {
				t.Fatalf("(0 : %x : 0): %v, %d", y, got, errno)
			}
		}
	})
}

// P15.1: Add

func TestAddUnlike(t *testing.T) {
	eachCurve(t, func(t *testing.T, m model, r *rand.Rand) {
		for range 15 {
			s, o := m.drawn(r), m.drawn(r)
			if s.x.Cmp(o.x) != 0 {
				checkAdd(t, m, s, o, r)
				checkAdd(t, m, s, m.neg(o), r)
				checkAdd(t, m, m.base(), s, r)
			}
		}
	})
}

func TestAddSame(t *testing.T) {
	eachCurve(t, func(t *testing.T, m model, r *rand.Rand) {
		checkAdd(t, m, m.base(), m.base(), r)
		for range 10 {
			s := m.drawn(r)
			checkAdd(t, m, s, s, r)
			p := m.anyTriple(s, r)
			got, errno := Add(m.id, p, p)
			checkTriple(t, "Add", m, got, errno, m.add(s, s))
		}
	})
}

func TestAddOpposite(t *testing.T) {
	eachCurve(t, func(t *testing.T, m model, r *rand.Rand) {
		for _, s := range m.some(r) {
			for _, p := range m.triples(s, r) {
				for _, q := range m.triples(m.neg(s), r) {
					sum, errno := Add(m.id, p, q)
					if got, wrong := To(m.id, sum); got != infinity() || errno != api.OK || wrong != api.OK {
						t.Fatalf("%v and %v: %v, %d, %d", p, q, got, errno, wrong)
					}
					checkTriple(t, "Add", m, sum, errno, nil)
				}
			}
		}
	})
}

func TestAddInfinity(t *testing.T) {
	eachCurve(t, func(t *testing.T, m model, r *rand.Rand) {
		for _, s := range m.some(r) {
			for _, p := range m.triples(s, r) {
				for _, none := range m.triples(nil, r) {
					for _, pair := range [][2]api.Proj{{p, none}, {none, p}} {
						got, errno := Add(m.id, pair[0], pair[1])
						checkTriple(t, "Add", m, got, errno, s)
					}
				}
			}
		}
	})
}

// TestAddXAlikeButForAWord: such points are nearly the same, and unlike.
func TestAddXAlikeButForAWord(t *testing.T) {
	eachCurve(t, func(t *testing.T, m model, r *rand.Rand) {
		for word := range (m.p.BitLen() + 63) / 64 {
			s, o := m.alikeBut(word, r)
			checkAdd(t, m, s, o, r)
			checkAdd(t, m, o, m.neg(s), r)
		}
	})
}

func TestAddYAlike(t *testing.T) {
	eachCurve(t, func(t *testing.T, m model, r *rand.Rand) {
		s, o := m.level(r)
		checkAdd(t, m, s, o, r)
		checkAdd(t, m, o, s, r)
		checkAdd(t, m, s, m.neg(o), r)
	})
}

// TestXOfNought: where there is a point with an X of 0 it is a point like
// others, not infinity.
func TestXOfNought(t *testing.T) {
	found := 0
	for _, m := range models() {
		y := new(big.Int).ModSqrt(m.b, m.p)
		if y == nil {
			continue
		}
		found++
		s, r := &spot{new(big.Int), y}, rand.New(rand.NewSource(int64(m.id)))
		checkFrom(t, m, s)
		checkDouble(t, m, s, r)
		for _, o := range []*spot{nil, s, m.neg(s), m.base(), m.add(s, s)} {
			checkAdd(t, m, s, o, r)
			checkAdd(t, m, o, s, r)
		}
		for _, p := range m.triples(s, r) {
			checkTo(t, m, p, s)
		}
	}
	if found < 2 {
		t.Errorf("%d curves have a point with an X of 0", found)
	}
}

func TestAddAnyBrackets(t *testing.T) {
	eachCurve(t, func(t *testing.T, m model, r *rand.Rand) {
		must := must(t)
		for range 20 {
			s, o := m.drawn(r), m.drawn(r)
			list := []*spot{s, o, m.drawn(r), m.neg(s), m.neg(m.add(s, o)), nil}
			o, u := list[r.Intn(len(list))], list[r.Intn(len(list))]
			p, q, v := m.anyTriple(s, r), m.anyTriple(o, r), m.anyTriple(u, r)
			want := m.add(m.add(s, o), u)
			got, errno := Add(m.id, must(Add(m.id, p, q)), v)
			checkTriple(t, "Add", m, got, errno, want)
			got, errno = Add(m.id, p, must(Add(m.id, q, v)))
			checkTriple(t, "Add", m, got, errno, want)
			got, errno = Add(m.id, v, must(Add(m.id, q, p)))
			checkTriple(t, "Add", m, got, errno, want)
		}
	})
}

// P15.1: Double

func TestDouble(t *testing.T) {
	eachCurve(t, func(t *testing.T, m model, r *rand.Rand) {
		for _, s := range m.some(r) {
			checkDouble(t, m, s, r)
		}
		for range 10 {
			checkDouble(t, m, m.drawn(r), r)
		}
	})
}

// P15.1: many steps, without a way back to points between them

// product answers a triple of k times the point of p, bit by bit.
func product(t *testing.T, m model, k *big.Int, p api.Proj) api.Proj {
	t.Helper()
	must := must(t)
	sum := must(From(m.id, infinity()))
	for i := k.BitLen() - 1; i >= 0; i-- {
		sum = must(Double(m.id, sum))
		if k.Bit(i) == 1 {
			sum = must(Add(m.id, sum, p))
		}
		if !m.of(sum) {
			t.Fatalf("curve %d: bit %d of %x: %v is no triple", m.id, i, k, sum)
		}
	}
	return sum
}

func TestProducts(t *testing.T) {
	eachCurve(t, func(t *testing.T, m model, r *rand.Rand) {
		for _, s := range []*spot{m.base(), m.drawn(r)} {
			for _, k := range []*big.Int{less(m.n, 1), m.n, more(m.n, 1), new(big.Int).Rand(r, m.n)} {
				got := product(t, m, k, m.anyTriple(s, r))
				checkTriple(t, "product", m, got, api.OK, m.times(k, s))
				checkTo(t, m, got, m.times(k, s))
			}
		}
	})
}

// published are multiples of base points, told with the curves (of CurveB256
// on in RFC 7027).
func published() []struct {
	id      int
	k, x, y string
} {
	return []struct {
		id      int
		k, x, y string
	}{
		{api.CurveP192, "2", "dafebf5828783f2ad35534631588a3f629a70fb16982a888", "dd6bda0d993da0fa46b27bbc141b868f59331afa5c7e93ab"},
		{api.CurveP256, "2", "7cf27b188d034f7e8a52380304b51ac3c08969e277f21b35a60b48fc47669978", "07775510db8ed040293d9ac69f7430dbba7dade63ce982299e04b79d227873d1"},
		{api.CurveK256, "2", "c6047f9441ed7d6d3045406e95c07cd85c778e4b8cef3ca7abac09b95c709ee5", "1ae168fea63dc339a3c58419466ceaeef7f632653266d0e1236431a950cfe52a"},
		{api.CurveK256, "3", "f9308a019258c31049344f85f89d5229b531c845836f99b08601f113bce036f9", "388f7b0f632de8140fe337e62a37f3566500a99934c2231b6cb9fd7584b8e672"},
		{
			api.CurveB256, "81db1ee100150ff2ea338d708271be38300cb54241d79950f77b063039804f1d",
			"44106e913f92bc02a1705d9953a8414db95e1aaa49e81d9e85f929a8e3100be5",
			"8ab4846f11caccb73ce49cbdd120f5a900a69fd32c272223f789ef10eb089bdc",
		},
		{
			api.CurveB384, "1e20f5e048a5886f1f157c74e91bde2b98c8b52d58e5003d57053fc4b0bd65d6f15eb5d1ee1610df870795143627d042",
			"68b665dd91c195800650cdd363c625f4e742e8134667b767b1b476793588f885ab698c852d4a6e77a252d6380fcaf068",
			"55bc91a39c9ec01dee36017b7d673a931236d2f1f5c83942d049e3fa20607493e0d038ff2fd30c2ab67d15c85f7faa59",
		},
		{
			api.CurveB512, "16302ff0dbbb5a8d733dab7141c1b45acbc8715939677f6a56850a38bd87bd59b09e80279609ff333eb9d4c061231fb26f92eeb04982a5f1d1764cad57665422",
			"0a420517e406aac0acdce90fcd71487718d3b953efd7fbec5f7f27e28c6149999397e91e029e06457db2d3e640668b392c2a7e737a7f0bf04436d11640fd09fd",
			"72e6882e8db28aad36237cd25d580db23783961c8dc52dfa2ec138ad472a0fcef3887cf62b623b2a87de5c588301ea3e5fc269b373b60724f5e82a6ad147fde7",
		},
	}
}

func TestProductsPublished(t *testing.T) {
	for _, c := range published() {
		m := models()[c.id-1]
		got, errno := To(c.id, product(t, m, digits(c.k), m.triple(m.base(), big.NewInt(1))))
		checkPoint(t, "product by "+c.k, m, got, errno, &spot{digits(c.x), digits(c.y)})
	}
}

// TestAgainstTheLibrary: Go's own curves go another way to sums.
func TestAgainstTheLibrary(t *testing.T) {
	for id, c := range map[int]elliptic.Curve{
		api.CurveP224: elliptic.P224(), api.CurveP256: elliptic.P256(), api.CurveP384: elliptic.P384(), api.CurveP521: elliptic.P521(),
	} {
		m, r := models()[id-1], rand.New(rand.NewSource(int64(id)))
		for range 5 {
			s, o, k := m.drawn(r), m.drawn(r), new(big.Int).Rand(r, m.n)
			p, q := m.anyTriple(s, r), m.anyTriple(o, r)
			x, y := c.Add(s.x, s.y, o.x, o.y)
			got, errno := Add(id, p, q)
			checkTriple(t, "Add", m, got, errno, &spot{x, y})
			x, y = c.Double(s.x, s.y)
			got, errno = Double(id, p)
			checkTriple(t, "Double", m, got, errno, &spot{x, y})
			x, y = c.ScalarMult(s.x, s.y, k.Bytes())
			checkTriple(t, "product", m, product(t, m, k, p), api.OK, &spot{x, y})
		}
	}
}

// P15.1: the tiny curves, whole

// walk answers the multiples of the base point, by the model.
func (m model) walk() []*spot {
	all := []*spot{nil}
	for s := m.base(); s != nil; s = m.add(s, m.base()) {
		all = append(all, s)
	}
	return all
}

func eachTinyCurve(t *testing.T, test func(t *testing.T, m model, all []*spot, r *rand.Rand)) {
	t.Helper()
	eachCurve(t, func(t *testing.T, m model, r *rand.Rand) {
		if m.tiny() {
			test(t, m, m.walk(), r)
		}
	})
}

func TestTinyThereAndBack(t *testing.T) {
	eachTinyCurve(t, func(t *testing.T, m model, all []*spot, _ *rand.Rand) {
		if big.NewInt(int64(len(all))).Cmp(m.n) != 0 {
			t.Fatalf("%d points", len(all))
		}
		for _, s := range all {
			checkFrom(t, m, s)
		}
	})
}

func TestTinyEveryTriple(t *testing.T) {
	eachTinyCurve(t, func(t *testing.T, m model, all []*spot, _ *rand.Rand) {
		for _, s := range all {
			for k := int64(1); k < m.p.Int64(); k++ {
				checkTo(t, m, m.triple(s, big.NewInt(k)), s)
			}
		}
	})
}

func TestTinySums(t *testing.T) {
	eachTinyCurve(t, func(t *testing.T, m model, all []*spot, r *rand.Rand) {
		for i, s := range all {
			p := m.anyTriple(s, r)
			for k, o := range all {
				got, errno := Add(m.id, p, m.anyTriple(o, r))
				checkTriple(t, "Add", m, got, errno, all[(i+k)%len(all)])
			}
		}
	})
}

func TestTinyDoubles(t *testing.T) {
	eachTinyCurve(t, func(t *testing.T, m model, all []*spot, r *rand.Rand) {
		for i, s := range all {
			for _, p := range m.triples(s, r) {
				got, errno := Double(m.id, p)
				checkTriple(t, "Double", m, got, errno, all[2*i%len(all)])
			}
		}
	})
}

// The errors

// checkErrors asks all calls that are handed triples.
func checkErrors(t *testing.T, id int, want api.Errno, p api.Proj, others ...api.Proj) {
	t.Helper()
	for _, q := range others {
		for _, pair := range [][2]api.Proj{{p, q}, {q, p}} {
			if got, errno := Add(id, pair[0], pair[1]); got != (api.Proj{}) || errno != want {
				t.Fatalf("curve %d: Add of %v and %v: %v, %d", id, pair[0], pair[1], got, errno)
			}
		}
	}
	if got, errno := Double(id, p); got != (api.Proj{}) || errno != want {
		t.Fatalf("curve %d: Double of %v: %v, %d", id, p, got, errno)
	}
	if got, errno := To(id, p); got != (api.Point{}) || errno != want {
		t.Fatalf("curve %d: To of %v: %v, %d", id, p, got, errno)
	}
}

func checkNotFrom(t *testing.T, id int, want api.Errno, p api.Point) {
	t.Helper()
	if got, errno := From(id, p); got != (api.Proj{}) || errno != want {
		t.Fatalf("curve %d: From of %v: %v, %d", id, p, got, errno)
	}
}

func TestNoCurve(t *testing.T) {
	top := natOf(greatest())
	points := []api.Point{{}, infinity(), {X: small(1), Y: small(1)}, {X: top, Y: top, Inf: true}, {X: small(1), Inf: true}}
	triples := []api.Proj{{}, {Y: small(1)}, {X: small(1)}, {X: small(1), Y: small(1), Z: small(1)}, {X: top, Y: top, Z: top}}
	for _, m := range models() {
		points = append(points, m.base().point())
		triples = append(triples, m.triple(m.base(), big.NewInt(1)), m.triple(m.base(), big.NewInt(2)))
	}
	for _, id := range strangers() {
		for _, p := range points {
			checkNotFrom(t, id, api.ErrProjCurve, p)
		}
		for i, p := range triples {
			checkErrors(t, id, api.ErrProjCurve, p, p, triples[0], triples[1], triples[(i+id&7)%len(triples)])
		}
	}
}

func TestOnlyFifteenCurves(t *testing.T) {
	for id := -2000; id <= 2000; id++ {
		want := api.ErrProjCurve
		if 1 <= id && id <= 15 {
			want = api.ErrProjPoint
		}
		checkNotFrom(t, id, want, api.Point{})
		checkErrors(t, id, want, api.Proj{}, api.Proj{})
	}
}

func TestFromNotOn(t *testing.T) {
	eachCurve(t, func(t *testing.T, m model, r *rand.Rand) {
		for _, p := range m.wrong(t, r) {
			checkNotFrom(t, m.id, api.ErrProjPoint, p)
		}
	})
}

func TestNoTriple(t *testing.T) {
	eachCurve(t, func(t *testing.T, m model, r *rand.Rand) {
		list := m.wrongTriples(t, r)
		for _, p := range list {
			checkErrors(t, m.id, api.ErrProjPoint, p, p, m.triple(m.base(), big.NewInt(1)), m.anyTriple(m.drawn(r), r), m.anyTriple(nil, r), list[r.Intn(len(list))])
		}
	})
}

// TestNoTripleByName: what the chapter and its words rule out, one by one.
func TestNoTripleByName(t *testing.T) {
	eachCurve(t, func(t *testing.T, m model, r *rand.Rand) {
		g := m.triple(m.base(), big.NewInt(1))
		p := natOf(m.p)
		for _, wrong := range []api.Proj{
			{}, {X: small(1)}, {X: g.X, Y: g.Y, Z: small(2)}, {X: g.X, Y: natOf(more(m.y, 1)), Z: small(1)}, {X: natOf(more(m.x, 1)), Y: g.Y, Z: small(1)},
			{X: small(1), Y: small(1)}, {Y: p}, {X: p, Y: small(1)}, {Y: small(1), Z: p},
			{X: natOf(new(big.Int).Add(m.x, m.p)), Y: g.Y, Z: g.Z}, {X: g.X, Y: natOf(new(big.Int).Add(m.y, m.p)), Z: g.Z}, {X: g.X, Y: g.Y, Z: natOf(more(m.p, 1))},
		} {
			checkErrors(t, m.id, api.ErrProjPoint, wrong, g, wrong, api.Proj{Y: small(1)})
		}
	})
}

// TestTinyJustTheTriples: of the triples of bytes with that Z just those of the
// curve are taken: one for each point but infinity, or of a Z of 0 all (0 : Y :
// 0) but one.
func TestTinyJustTheTriples(t *testing.T) {
	eachTinyCurve(t, func(t *testing.T, m model, all []*spot, r *rand.Rand) {
		for _, z := range []int{0, 1, 2 + r.Intn(200), int(m.p.Int64()) - 1, int(m.p.Int64())} {
			want := len(all) - 1
			switch z {
			case 0:
				want = int(m.p.Int64()) - 1
			case int(m.p.Int64()):
				want = 0
			}
			if taken := countTaken(t, m, z); taken != want {
				t.Errorf("curve %d: %d triples with a Z of %d", m.id, taken, z)
			}
		}
	})
}

func countTaken(t *testing.T, m model, z int) int {
	t.Helper()
	taken := 0
	for x := range 256 {
		for y := range 256 {
			p := api.Proj{X: small(x), Y: small(y), Z: small(z)}
			got, errno := To(m.id, p)
			switch {
			case errno == api.OK && m.of(p) && got == m.standsFor(p).point():
				taken++
			case errno != api.ErrProjPoint || got != api.Point{}:
				t.Fatalf("curve %d: %v: %v, %d", m.id, p, got, errno)
			}
		}
	}
	return taken
}

// TestTinyJustThePoints: of all pairs of bytes just the points are taken.
func TestTinyJustThePoints(t *testing.T) {
	eachTinyCurve(t, func(t *testing.T, m model, all []*spot, _ *rand.Rand) {
		taken := 0
		for x := range 256 {
			for y := range 256 {
				p := api.Point{X: small(x), Y: small(y)}
				got, errno := From(m.id, p)
				if m.on(p) {
					checkTriple(t, "From", m, got, errno, &spot{big.NewInt(int64(x)), big.NewInt(int64(y))})
					taken++
				} else if got != (api.Proj{}) || errno != api.ErrProjPoint {
					t.Fatalf("curve %d: %v: %v, %d", m.id, p, got, errno)
				}
				if p.Inf = true; x+y > 0 {
					checkNotFrom(t, m.id, api.ErrProjPoint, p)
				}
			}
		}
		if taken != len(all)-1 {
			t.Errorf("curve %d: %d points", m.id, taken)
		}
	})
}

// R5

// answers are what all calls of these answer.
type answers struct {
	from, sum, twice             api.Proj
	to                           api.Point
	ofFrom, ofSum, ofTwice, ofTo api.Errno
}

func ask(id int, s api.Point, p api.Proj, q api.Proj) answers {
	var a answers
	a.from, a.ofFrom = From(id, s)
	a.sum, a.ofSum = Add(id, p, q)
	a.twice, a.ofTwice = Double(id, p)
	a.to, a.ofTo = To(id, q)
	return a
}

// checkAnswers: s is asked From, by p and o by q.
func checkAnswers(t *testing.T, m model, a answers, s *spot, o *spot) {
	t.Helper()
	for _, c := range []struct {
		got   api.Proj
		errno api.Errno
		want  *spot
	}{{a.from, a.ofFrom, s}, {a.sum, a.ofSum, m.add(s, o)}, {a.twice, a.ofTwice, m.add(s, s)}} {
		if c.errno != api.OK || !m.of(c.got) || m.standsFor(c.got).point() != c.want.point() {
			t.Errorf("curve %d: %v, %d", m.id, c.got, c.errno)
		}
	}
	if a.to != o.point() || a.ofTo != api.OK {
		t.Errorf("curve %d: %v, %d", m.id, a.to, a.ofTo)
	}
}

func TestWhatWasCalledBetween(t *testing.T) {
	t.Parallel()
	r := rand.New(rand.NewSource(3))
	list, ids := models(), strangers()
	for range 300 {
		m, other := list[r.Intn(15)], list[r.Intn(15)]
		s, o := m.drawn(r), m.drawn(r)
		p, q := m.anyTriple(s, r), m.anyTriple(o, r)
		first := ask(m.id, s.point(), p, q)
		ask(other.id, other.base().point(), other.anyTriple(other.drawn(r), r), other.anyTriple(nil, r))
		ask(other.id, s.point(), p, api.Proj{})
		ask(m.id, api.Point{}, api.Proj{}, p)
		ask(m.id, infinity(), q, m.anyTriple(nil, r))
		ask(ids[r.Intn(len(ids))], s.point(), p, q)
		if again := ask(m.id, s.point(), p, q); again != first {
			t.Fatalf("curve %d: %v, then %v", m.id, first, again)
		}
		checkAnswers(t, m, first, s, o)
	}
}

func TestSeveralGoroutines(t *testing.T) {
	list := models()
	var group sync.WaitGroup
	for i := range 8 {
		group.Go(func() {
			r := rand.New(rand.NewSource(int64(i)))
			for turn := range 60 {
				m := list[(i+turn)%15]
				s, o := m.drawn(r), m.drawn(r)
				checkAnswers(t, m, ask(m.id, s.point(), m.anyTriple(s, r), m.anyTriple(o, r)), s, o)
			}
		})
	}
	group.Wait()
}

// Ways

// TestOneRowForAll: the sums of unlike points, of like ones, of opposite ones
// and with infinity are polynomials in the same numbers, so a triple scaled by k
// scales the answer by k k, whatever the points are.
func TestOneRowForAll(t *testing.T) {
	eachCurve(t, func(t *testing.T, m model, r *rand.Rand) {
		s := m.drawn(r)
		for _, pair := range [][2]*spot{{s, m.drawn(r)}, {s, s}, {s, m.neg(s)}, {s, nil}, {nil, s}, {nil, nil}} {
			q := m.anyTriple(pair[1], r)
			checkScaled(t, m, pair[0], m.factor(r), func(p api.Proj) (api.Proj, api.Errno) { return Add(m.id, p, q) })
			checkScaled(t, m, pair[0], m.factor(r), func(p api.Proj) (api.Proj, api.Errno) { return Add(m.id, q, p) })
		}
	})
}

func checkScaled(t *testing.T, m model, s *spot, k *big.Int, sum func(p api.Proj) (api.Proj, api.Errno)) {
	t.Helper()
	must := must(t)
	plain, scaled := must(sum(m.triple(s, big.NewInt(1)))), must(sum(m.triple(s, k)))
	square := new(big.Int).Mul(k, k)
	for i, a := range []api.Nat{plain.X, plain.Y, plain.Z} {
		want := new(big.Int).Mul(bigOf(a), square)
		got := []api.Nat{scaled.X, scaled.Y, scaled.Z}[i]
		if got != natOf(want.Mod(want, m.p)) {
			t.Errorf("curve %d: number %d of %v, then %v", m.id, i, plain, scaled)
		}
	}
}
