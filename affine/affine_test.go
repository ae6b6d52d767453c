package affine

import (
	"crypto/elliptic"
	"math/big"
	"math/rand"
	"slices"
	"sync"
	"testing"

	"curvet/api"
)

func checkPoint(t *testing.T, what string, m model, got api.Point, errno api.Errno, want *spot) {
	t.Helper()
	if got != want.point() || errno != api.OK {
		t.Fatalf("curve %d: %s: (%x, %x, %v), %d", m.id, what, bigOf(got.X), bigOf(got.Y), got.Inf, errno)
	}
}

func checkAdd(t *testing.T, m model, s *spot, o *spot) {
	t.Helper()
	got, errno := Add(m.id, s.point(), o.point())
	checkPoint(t, "Add", m, got, errno, m.add(s, o))
}

func checkNeg(t *testing.T, m model, s *spot) {
	t.Helper()
	got, errno := Neg(m.id, s.point())
	checkPoint(t, "Neg", m, got, errno, m.neg(s))
}

func checkMul(t *testing.T, m model, k *big.Int, s *spot) {
	t.Helper()
	got, errno := Mul(m.id, natOf(k), s.point())
	checkPoint(t, "Mul by "+k.Text(16), m, got, errno, m.times(k, s))
}

// must answers what a call answers that has to succeed.
func must(t *testing.T) func(p api.Point, errno api.Errno) api.Point {
	return func(p api.Point, errno api.Errno) api.Point {
		t.Helper()
		if errno != api.OK {
			t.Fatalf("error %d", errno)
		}
		return p
	}
}

func infinity() api.Point {
	return api.Point{Inf: true}
}

// P14.1: Add

func TestAddUnlikeX(t *testing.T) {
	eachCurve(t, func(t *testing.T, m model, r *rand.Rand) {
		for range 40 {
			s, o := m.drawn(r), m.drawn(r)
			if s.x.Cmp(o.x) != 0 {
				checkAdd(t, m, s, o)
				checkAdd(t, m, s, m.neg(o))
				checkAdd(t, m, m.base(), s)
			}
		}
	})
}

func TestAddSame(t *testing.T) {
	eachCurve(t, func(t *testing.T, m model, r *rand.Rand) {
		checkAdd(t, m, m.base(), m.base())
		for range 40 {
			s := m.drawn(r)
			checkAdd(t, m, s, s)
			checkAdd(t, m, m.neg(s), m.neg(s))
		}
	})
}

func TestAddOpposite(t *testing.T) {
	eachCurve(t, func(t *testing.T, m model, r *rand.Rand) {
		for _, s := range []*spot{m.base(), m.drawn(r), m.drawn(r), m.drawn(r)} {
			p, q := s.point(), m.neg(s).point()
			for _, pair := range [][2]api.Point{{p, q}, {q, p}} {
				if got, errno := Add(m.id, pair[0], pair[1]); got != infinity() || errno != api.OK {
					t.Fatalf("%v, %d", got, errno)
				}
			}
		}
	})
}

func TestAddInfinity(t *testing.T) {
	eachCurve(t, func(t *testing.T, m model, r *rand.Rand) {
		for _, p := range []api.Point{m.base().point(), m.neg(m.base()).point(), m.drawn(r).point(), m.drawn(r).point(), infinity()} {
			for _, pair := range [][2]api.Point{{p, infinity()}, {infinity(), p}} {
				if got, errno := Add(m.id, pair[0], pair[1]); got != p || errno != api.OK {
					t.Fatalf("%v and %v: %v, %d", pair[0], pair[1], got, errno)
				}
			}
		}
	})
}

// TestAddXAlikeButForAWord: X is told from X by all of its words.
func TestAddXAlikeButForAWord(t *testing.T) {
	eachCurve(t, func(t *testing.T, m model, r *rand.Rand) {
		for word := range (m.p.BitLen() + 63) / 64 {
			s, o := m.alikeBut(word, r)
			checkAdd(t, m, s, o)
			checkAdd(t, m, o, m.neg(s))
		}
	})
}

// TestAddYAlike: the line through such points is level, and they are neither
// the same nor opposite ones.
func TestAddYAlike(t *testing.T) {
	eachCurve(t, func(t *testing.T, m model, r *rand.Rand) {
		s, o := m.level(r)
		checkAdd(t, m, s, o)
		checkAdd(t, m, o, s)
		checkAdd(t, m, s, m.neg(o))
	})
}

// TestAddXOfNought: where there is a point with an X of 0 it is a point like
// others, not infinity.
func TestAddXOfNought(t *testing.T) {
	found := 0
	for _, m := range models() {
		y := new(big.Int).ModSqrt(m.b, m.p)
		if y == nil {
			continue
		}
		found++
		s := &spot{new(big.Int), y}
		for _, o := range []*spot{nil, s, m.neg(s), m.base(), m.add(s, s)} {
			checkAdd(t, m, s, o)
			checkAdd(t, m, o, s)
		}
		checkMul(t, m, big.NewInt(77), s)
	}
	if found < 2 {
		t.Errorf("%d curves have a point with an X of 0", found)
	}
}

func TestAddEitherWayRound(t *testing.T) {
	eachCurve(t, func(t *testing.T, m model, r *rand.Rand) {
		must := must(t)
		for range 20 {
			p, q := m.drawn(r).point(), m.drawn(r).point()
			if must(Add(m.id, p, q)) != must(Add(m.id, q, p)) {
				t.Fatalf("%v and %v", p, q)
			}
		}
	})
}

func TestAddAnyBrackets(t *testing.T) {
	eachCurve(t, func(t *testing.T, m model, r *rand.Rand) {
		must := must(t)
		for range 10 {
			s, o := m.drawn(r), m.drawn(r)
			list := []api.Point{s.point(), o.point(), m.drawn(r).point(), m.neg(s).point(), m.neg(m.add(s, o)).point(), infinity()}
			p, q, u := list[0], list[r.Intn(len(list))], list[r.Intn(len(list))]
			if must(Add(m.id, must(Add(m.id, p, q)), u)) != must(Add(m.id, p, must(Add(m.id, q, u)))) {
				t.Fatalf("%v, %v and %v", p, q, u)
			}
		}
	})
}

// TestAddYOfNought: no curve of the chapter has a point with a Y of 0, so a
// curve is made that has some.
func TestAddYOfNought(t *testing.T) {
	g := group{api.Curve{Id: api.CurveTiny1, P: small(251), A: small(250)}}
	for _, x := range []int{0, 1, 250} {
		p := api.Point{X: small(x)}
		if got := g.add(p, p); got != infinity() {
			t.Errorf("(%d, 0) twice: %v", x, got)
		}
		if got := g.neg(p); got != p {
			t.Errorf("(%d, 0), opposite: %v", x, got)
		}
		for k, want := range []api.Point{infinity(), p, infinity(), p, infinity(), p} {
			if got := g.mul(small(k), p); got != want {
				t.Errorf("%d times (%d, 0): %v", k, x, got)
			}
		}
	}
	if got := g.add(api.Point{}, api.Point{X: small(1)}); got != (api.Point{X: small(250)}) {
		t.Errorf("(0, 0) and (1, 0): %v", got)
	}
}

// P14.1: Neg

func TestNeg(t *testing.T) {
	eachCurve(t, func(t *testing.T, m model, r *rand.Rand) {
		must := must(t)
		for _, s := range []*spot{m.base(), m.neg(m.base()), m.drawn(r), m.drawn(r), m.drawn(r), m.drawn(r), nil} {
			checkNeg(t, m, s)
			p := s.point()
			n := must(Neg(m.id, p))
			if must(Neg(m.id, n)) != p || must(Add(m.id, p, n)) != infinity() || n == p != p.Inf {
				t.Fatalf("%v: %v", p, n)
			}
		}
	})
}

func TestNegIsPLessY(t *testing.T) {
	eachCurve(t, func(t *testing.T, m model, r *rand.Rand) {
		for range 20 {
			s := m.drawn(r)
			want := api.Point{X: natOf(s.x), Y: natOf(new(big.Int).Sub(m.p, s.y))}
			if got, errno := Neg(m.id, s.point()); got != want || errno != api.OK {
				t.Fatalf("%v: %v, %d", s.point(), got, errno)
			}
		}
	})
}

func TestNegInfinity(t *testing.T) {
	eachCurve(t, func(t *testing.T, m model, _ *rand.Rand) {
		if got, errno := Neg(m.id, infinity()); got != infinity() || errno != api.OK {
			t.Fatalf("%v, %d", got, errno)
		}
	})
}

// P14.1: Mul

func TestMulEdges(t *testing.T) {
	eachCurve(t, func(t *testing.T, m model, r *rand.Rand) {
		for _, s := range []*spot{m.base(), m.drawn(r), nil} {
			for _, k := range []*big.Int{new(big.Int), big.NewInt(1), big.NewInt(2), big.NewInt(3), less(m.n, 1), m.n, more(m.n, 1), greatest()} {
				checkMul(t, m, k, s)
			}
		}
	})
}

// TestMulEdgesByTheirNames: what the edges are is known without any reckoning.
func TestMulEdgesByTheirNames(t *testing.T) {
	eachCurve(t, func(t *testing.T, m model, r *rand.Rand) {
		must := must(t)
		p := m.drawn(r).point()
		for _, c := range []struct {
			k    *big.Int
			want api.Point
		}{
			{new(big.Int), infinity()},
			{big.NewInt(1), p},
			{big.NewInt(2), must(Add(m.id, p, p))},
			{less(m.n, 1), must(Neg(m.id, p))},
			{m.n, infinity()},
			{more(m.n, 1), p},
		} {
			if got := must(Mul(m.id, natOf(c.k), p)); got != c.want {
				t.Errorf("%x times: %v", c.k, got)
			}
		}
	})
}

// lengths are all of the tiny curves; of another curve all short ones, and of
// the long ones those that fall to it, so that no length is left out by all.
func (m model) lengths() []int {
	var list []int
	for size := 1; size <= 576; size++ {
		if m.tiny() || size <= 66 || size%12 == m.id%12 {
			list = append(list, size)
		}
	}
	return list
}

func TestMulEveryLength(t *testing.T) {
	met := map[int]int{}
	for _, m := range models() {
		for _, size := range m.lengths() {
			met[size]++
		}
	}
	for size := 1; size <= 576; size++ {
		if met[size] < 4 {
			t.Errorf("%d bits: %d curves", size, met[size])
		}
	}
	eachCurve(t, func(t *testing.T, m model, r *rand.Rand) {
		s := m.drawn(r)
		for _, size := range m.lengths() {
			top := new(big.Int).Lsh(big.NewInt(1), uint(size-1))
			k := new(big.Int).Rand(r, top)
			checkMul(t, m, k.Or(k, top), s)
		}
	})
}

// TestMulInfinity: of infinity a length costs nothing, so all are asked.
func TestMulInfinity(t *testing.T) {
	eachCurve(t, func(t *testing.T, m model, r *rand.Rand) {
		for size := range 577 {
			top := new(big.Int).Lsh(big.NewInt(1), uint(size))
			for _, k := range []*big.Int{less(top, 1), new(big.Int).Rand(r, top)} {
				if got, errno := Mul(m.id, natOf(k), infinity()); got != infinity() || errno != api.OK {
					t.Fatalf("%x times: %v, %d", k, got, errno)
				}
			}
		}
	})
}

func TestMulByAddingAgainAndAgain(t *testing.T) {
	eachCurve(t, func(t *testing.T, m model, r *rand.Rand) {
		must := must(t)
		p, sum := m.drawn(r).point(), infinity()
		for k := range 70 {
			if got := must(Mul(m.id, small(k), p)); got != sum {
				t.Fatalf("%d times %v: %v", k, p, got)
			}
			sum = must(Add(m.id, sum, p))
		}
	})
}

func TestMulOfSumsAndProducts(t *testing.T) {
	eachCurve(t, func(t *testing.T, m model, r *rand.Rand) {
		must := must(t)
		p := m.drawn(r).point()
		k, l := new(big.Int).Rand(r, m.n), new(big.Int).Rand(r, m.n)
		kp, lp := must(Mul(m.id, natOf(k), p)), must(Mul(m.id, natOf(l), p))
		if must(Mul(m.id, natOf(new(big.Int).Add(k, l)), p)) != must(Add(m.id, kp, lp)) {
			t.Errorf("%x and %x times %v", k, l, p)
		}
		kl := new(big.Int).Mul(k, l)
		if must(Mul(m.id, natOf(kl.Mod(kl, m.n)), p)) != must(Mul(m.id, natOf(k), lp)) {
			t.Errorf("%x times %x times %v", k, l, p)
		}
	})
}

// published are multiples of base points, told with the curves (of CurveB256
// on in RFC 7027).
func published() []struct {
	id      int
	k, x, y string
} {
	return []struct {
		id      int
		k, x, y string
	}{
		{api.CurveP192, "2", "dafebf5828783f2ad35534631588a3f629a70fb16982a888", "dd6bda0d993da0fa46b27bbc141b868f59331afa5c7e93ab"},
		{api.CurveP256, "2", "7cf27b188d034f7e8a52380304b51ac3c08969e277f21b35a60b48fc47669978", "07775510db8ed040293d9ac69f7430dbba7dade63ce982299e04b79d227873d1"},
		{api.CurveK256, "2", "c6047f9441ed7d6d3045406e95c07cd85c778e4b8cef3ca7abac09b95c709ee5", "1ae168fea63dc339a3c58419466ceaeef7f632653266d0e1236431a950cfe52a"},
		{api.CurveK256, "3", "f9308a019258c31049344f85f89d5229b531c845836f99b08601f113bce036f9", "388f7b0f632de8140fe337e62a37f3566500a99934c2231b6cb9fd7584b8e672"},
		{
			api.CurveB256, "81db1ee100150ff2ea338d708271be38300cb54241d79950f77b063039804f1d",
			"44106e913f92bc02a1705d9953a8414db95e1aaa49e81d9e85f929a8e3100be5",
			"8ab4846f11caccb73ce49cbdd120f5a900a69fd32c272223f789ef10eb089bdc",
		},
		{
			api.CurveB384, "1e20f5e048a5886f1f157c74e91bde2b98c8b52d58e5003d57053fc4b0bd65d6f15eb5d1ee1610df870795143627d042",
			"68b665dd91c195800650cdd363c625f4e742e8134667b767b1b476793588f885ab698c852d4a6e77a252d6380fcaf068",
			"55bc91a39c9ec01dee36017b7d673a931236d2f1f5c83942d049e3fa20607493e0d038ff2fd30c2ab67d15c85f7faa59",
		},
		{
			api.CurveB512, "16302ff0dbbb5a8d733dab7141c1b45acbc8715939677f6a56850a38bd87bd59b09e80279609ff333eb9d4c061231fb26f92eeb04982a5f1d1764cad57665422",
			"0a420517e406aac0acdce90fcd71487718d3b953efd7fbec5f7f27e28c6149999397e91e029e06457db2d3e640668b392c2a7e737a7f0bf04436d11640fd09fd",
			"72e6882e8db28aad36237cd25d580db23783961c8dc52dfa2ec138ad472a0fcef3887cf62b623b2a87de5c588301ea3e5fc269b373b60724f5e82a6ad147fde7",
		},
	}
}

func TestMulPublished(t *testing.T) {
	for _, c := range published() {
		m := models()[c.id-1]
		got, errno := Mul(c.id, natOf(digits(c.k)), m.base().point())
		checkPoint(t, "Mul by "+c.k, m, got, errno, &spot{digits(c.x), digits(c.y)})
	}
}

// TestAgainstTheLibrary: Go's own curves go another way to sums and products.
func TestAgainstTheLibrary(t *testing.T) {
	t.Parallel()
	for id, c := range map[int]elliptic.Curve{
		api.CurveP224: elliptic.P224(), api.CurveP256: elliptic.P256(), api.CurveP384: elliptic.P384(), api.CurveP521: elliptic.P521(),
	} {
		m, r := models()[id-1], rand.New(rand.NewSource(int64(id)))
		for range 5 {
			s, o, k := m.drawn(r), m.drawn(r), new(big.Int).Rand(r, m.n)
			x, y := c.Add(s.x, s.y, o.x, o.y)
			got, errno := Add(id, s.point(), o.point())
			checkPoint(t, "Add", m, got, errno, &spot{x, y})
			x, y = c.Double(s.x, s.y)
			got, errno = Add(id, s.point(), s.point())
			checkPoint(t, "Add", m, got, errno, &spot{x, y})
			x, y = c.ScalarMult(s.x, s.y, k.Bytes())
			got, errno = Mul(id, natOf(k), s.point())
			checkPoint(t, "Mul", m, got, errno, &spot{x, y})
		}
	}
}

// P14.1: the tiny curves, whole

// walk answers the multiples of the base point, by adding it again and again.
func walk(t *testing.T, m model) []api.Point {
	t.Helper()
	must := must(t)
	all := []api.Point{infinity()}
	for p := m.base().point(); p != infinity(); p = must(Add(m.id, p, m.base().point())) {
		if all = append(all, p); len(all) > 300 {
			t.Fatalf("curve %d: infinity does not come", m.id)
		}
	}
	if big.NewInt(int64(len(all))).Cmp(m.n) != 0 {
		t.Fatalf("curve %d: %d points", m.id, len(all))
	}
	return all
}

func eachTinyCurve(t *testing.T, test func(t *testing.T, m model, all []api.Point)) {
	t.Helper()
	eachCurve(t, func(t *testing.T, m model, _ *rand.Rand) {
		if m.tiny() {
			test(t, m, walk(t, m))
		}
	})
}

func TestTinyWalk(t *testing.T) {
	eachTinyCurve(t, func(t *testing.T, m model, all []api.Point) {
		var want *spot
		for k, p := range all {
			checkPoint(t, "walk", m, p, api.OK, want)
			if !m.on(p) || slices.Index(all, p) != k {
				t.Fatalf("curve %d: %d times: %v", m.id, k, p)
			}
			want = m.add(want, m.base())
		}
	})
}

func TestTinySums(t *testing.T) {
	eachTinyCurve(t, func(t *testing.T, m model, all []api.Point) {
		for i, p := range all {
			for k, q := range all {
				if got, errno := Add(m.id, p, q); got != all[(i+k)%len(all)] || errno != api.OK {
					t.Fatalf("curve %d: %d and %d: %v, %d", m.id, i, k, got, errno)
				}
			}
		}
	})
}

func TestTinyOpposites(t *testing.T) {
	eachTinyCurve(t, func(t *testing.T, m model, all []api.Point) {
		for i, p := range all {
			if got, errno := Neg(m.id, p); got != all[(len(all)-i)%len(all)] || errno != api.OK {
				t.Fatalf("curve %d: %d: %v, %d", m.id, i, got, errno)
			}
		}
	})
}

func TestTinyProducts(t *testing.T) {
	eachTinyCurve(t, func(t *testing.T, m model, all []api.Point) {
		n := len(all)
		for i, p := range all {
			scalars := []int{0, 1, 2, 3, i, n - i, n - 1, n, n + 1, 2*n - 1, 2 * n, 2*n + 1, 65537}
			if i <= 2 {
				for k := range 2*n + 2 {
					scalars = append(scalars, k)
				}
			}
			for _, k := range scalars {
				if got, errno := Mul(m.id, small(k), p); got != all[k*i%n] || errno != api.OK {
					t.Fatalf("curve %d: %d times %d: %v, %d", m.id, k, i, got, errno)
				}
			}
		}
	})
}

// The errors

func TestNoCurve(t *testing.T) {
	points := []api.Point{{}, infinity(), {X: small(1), Y: small(1)}, {X: natOf(greatest()), Y: natOf(greatest()), Inf: true}}
	for _, m := range models() {
		points = append(points, m.base().point())
	}
	for _, id := range strangers() {
		for i, p := range points {
			q := points[(i+id&7)%len(points)]
			checkErrors(t, id, api.ErrAffineCurve, p, [][2]api.Point{{p, q}, {q, p}, {p, p}})
		}
	}
}

func TestOnlyFifteenCurves(t *testing.T) {
	for id := -2000; id <= 2000; id++ {
		want := api.ErrAffineCurve
		if 1 <= id && id <= 15 {
			want = api.ErrAffinePoint
		}
		checkErrors(t, id, want, api.Point{}, [][2]api.Point{{{}, {}}})
	}
}

// checkErrors: a wrong point is refused whatever it is to be multiplied by.
func checkErrors(t *testing.T, id int, want api.Errno, p api.Point, pairs [][2]api.Point) {
	t.Helper()
	for _, pair := range pairs {
		if got, errno := Add(id, pair[0], pair[1]); got != (api.Point{}) || errno != want {
			t.Fatalf("curve %d: Add of %v and %v: %v, %d", id, pair[0], pair[1], got, errno)
		}
	}
	if got, errno := Neg(id, p); got != (api.Point{}) || errno != want {
		t.Fatalf("curve %d: Neg of %v: %v, %d", id, p, got, errno)
	}
	for _, k := range []api.Nat{small(0), small(1), small(2), small(223), natOf(greatest())} {
		if got, errno := Mul(id, k, p); got != (api.Point{}) || errno != want {
			t.Fatalf("curve %d: Mul by %v of %v: %v, %d", id, k, p, got, errno)
		}
	}
}

func TestNotOn(t *testing.T) {
	eachCurve(t, func(t *testing.T, m model, r *rand.Rand) {
		list := m.wrong(t, r)
		for _, p := range list {
			pairs := [][2]api.Point{{p, p}}
			for _, q := range []api.Point{m.base().point(), m.drawn(r).point(), infinity()} {
				pairs = append(pairs, [2]api.Point{p, q}, [2]api.Point{q, p})
			}
			for range 5 {
				pairs = append(pairs, [2]api.Point{p, list[r.Intn(len(list))]})
			}
			checkErrors(t, m.id, api.ErrAffinePoint, p, pairs)
			if got, errno := Mul(m.id, natOf(m.n), p); got != (api.Point{}) || errno != api.ErrAffinePoint {
				t.Fatalf("Mul of %v by N: %v, %d", p, got, errno)
			}
		}
	})
}

// TestNotOnTiny: of all pairs of bytes just the points are taken.
func TestNotOnTiny(t *testing.T) {
	eachTinyCurve(t, func(t *testing.T, m model, all []api.Point) {
		taken := 0
		for x := range 256 {
			for y := range 256 {
				p := api.Point{X: small(x), Y: small(y)}
				got, errno := Neg(m.id, p)
				if m.on(p) {
					taken++
				} else if got != (api.Point{}) || errno != api.ErrAffinePoint {
					t.Fatalf("curve %d: %v: %v, %d", m.id, p, got, errno)
				}
			}
		}
		if taken != len(all)-1 {
			t.Errorf("curve %d: %d points", m.id, taken)
		}
	})
}

// R5

// answers are what all calls of these answer.
type answers struct {
	sum, opposite, product    api.Point
	ofSum, ofOpposite, ofProd api.Errno
}

func ask(id int, k api.Nat, p api.Point, q api.Point) answers {
	var a answers
	a.sum, a.ofSum = Add(id, p, q)
	a.opposite, a.ofOpposite = Neg(id, p)
	a.product, a.ofProd = Mul(id, k, p)
	return a
}

func TestWhatWasCalledBetween(t *testing.T) {
	t.Parallel()
	r := rand.New(rand.NewSource(3))
	list := models()
	for range 150 {
		m, other := list[r.Intn(15)], list[r.Intn(15)]
		s, o := m.drawn(r), m.drawn(r)
		k := r.Intn(1 << 16)
		first := ask(m.id, small(k), s.point(), o.point())
		ask(other.id, small(r.Intn(1<<16)), other.base().point(), other.drawn(r).point())
		ask(other.id, small(k), s.point(), api.Point{})
		ask(m.id, small(k+1), api.Point{}, s.point())
		ask(m.id, small(k+1), o.point(), infinity())
		ask(strangers()[r.Intn(len(strangers()))], small(k), s.point(), o.point())
		if again := ask(m.id, small(k), s.point(), o.point()); again != first {
			t.Fatalf("curve %d: %v, then %v", m.id, first, again)
		}
		want := answers{sum: m.add(s, o).point(), opposite: m.neg(s).point(), product: m.times(big.NewInt(int64(k)), s).point()}
		if first != want {
			t.Fatalf("curve %d: %v, not %v", m.id, first, want)
		}
	}
}

func TestSeveralGoroutines(t *testing.T) {
	list := models()
	var group sync.WaitGroup
	for i := range 8 {
		group.Go(func() {
			r := rand.New(rand.NewSource(int64(i)))
			for turn := range 45 {
				m := list[(i+turn)%15]
				s, o, k := m.drawn(r), m.drawn(r), r.Intn(1<<12)
				want := answers{sum: m.add(s, o).point(), opposite: m.neg(s).point(), product: m.times(big.NewInt(int64(k)), s).point()}
				if got := ask(m.id, small(k), s.point(), o.point()); got != want {
					t.Errorf("curve %d: %v, not %v", m.id, got, want)
				}
			}
		})
	}
	group.Wait()
}
