package key

import (
	"crypto/elliptic"
	"math"
	"math/big"
	"math/rand"
	"slices"
	"strconv"
	"sync"
	"testing"

	"curvet/api"
	"curvet/base"
	"curvet/trace"
)

// checkTaken: d is a key, and its public point is this, with a recorder and with
// none.
func checkTaken(t *testing.T, m model, d *big.Int, want *spot) {
	t.Helper()
	checkFine(t, m, d)
	for _, tr := range []*trace.Trace{trace.New(), nil} {
		checkPublic(t, tr, m, d, want)
	}
}

func checkFine(t *testing.T, m model, d *big.Int) {
	t.Helper()
	if errno := Check(m.id, natOf(d)); errno != api.OK {
		t.Fatalf("curve %d: %x: %d", m.id, d, errno)
	}
}

func checkPublic(t *testing.T, tr *trace.Trace, m model, d *big.Int, want *spot) {
	t.Helper()
	if got, errno := Public(tr, m.id, natOf(d)); got != want.point() || errno != api.OK {
		t.Fatalf("curve %d: %x: %v, %d; not %v", m.id, d, got, errno, want.point())
	}
}

// held answers a recorder that holds events already, and these.
func held(t *testing.T) (*trace.Trace, []api.Event) {
	t.Helper()
	tr := trace.New()
	for _, errno := range []api.Errno{tr.Branch(true), tr.Index(7), tr.Branch(false), tr.Index(-3), tr.Index(math.MaxInt)} {
		if errno != api.OK {
			t.Fatalf("error %d", errno)
		}
	}
	return tr, []api.Event{
		{Kind: api.EventBranch, At: 1}, {Kind: api.EventIndex, At: 7}, {Kind: api.EventBranch}, {Kind: api.EventIndex, At: -3},
		{Kind: api.EventIndex, At: math.MaxInt},
	}
}

// checkNone: both calls tell this error; the point is a zero value then and nothing is
// recorded, whether the recorder is new, holds events already or is none.
func checkNone(t *testing.T, id int, d api.Nat, want api.Errno) {
	t.Helper()
	if errno := Check(id, d); errno != want {
		t.Fatalf("curve %d: %x: %d, not %d", id, bigOf(d), errno, want)
	}
	full, events := held(t)
	empty := trace.New()
	for _, tr := range []*trace.Trace{empty, full, nil} {
		if got, errno := Public(tr, id, d); got != (api.Point{}) || errno != want {
			t.Fatalf("curve %d: %x: %v, %d; not %d", id, bigOf(d), got, errno, want)
		}
	}
	if empty.Len() != 0 || !slices.Equal(full.Events(), events) {
		t.Fatalf("curve %d: %x: %v, %v", id, bigOf(d), empty.Events(), full.Events())
	}
}

// edges are the least and the greatest keys.
func (m model) edges() []*big.Int {
	half := new(big.Int).Rsh(m.n, 1)
	return []*big.Int{
		big.NewInt(1), big.NewInt(2), big.NewInt(3), big.NewInt(15), big.NewInt(16), big.NewInt(17),
		half, more(half, 1), more(m.n, -17), more(m.n, -16), more(m.n, -3), more(m.n, -2), more(m.n, -1),
	}
}

// fromNOn are numbers that are not below N, far and near; in some of them one word
// alone is too great, and some leave a key modulo N or modulo a power of 2.
func (m model) fromNOn(r *rand.Rand) []*big.Int {
	list := []*big.Int{m.n, more(m.n, 1), more(m.n, 2), new(big.Int).Lsh(m.n, 1), m.p, greatest(), more(greatest(), -1)}
	for k := range 576 {
		list = append(list, new(big.Int).Add(m.n, power(k, 0)), new(big.Int).Add(m.drawn(r), power(k, 0)))
	}
	room := new(big.Int).Sub(greatest(), m.n)
	for range 20 {
		list = append(list, new(big.Int).Add(m.n, new(big.Int).Rand(r, room)))
	}
	return slices.DeleteFunc(list, func(d *big.Int) bool { return d.Cmp(m.n) < 0 || d.BitLen() > 576 })
}

// strangers are ids that no curve has; the low bits of some are a curve's.
func strangers() []int {
	list := []int{0, 16, 17, 31, 32, -1, -2, -3, -13, -15, -16, 100, 2400, math.MaxInt, math.MaxInt - 1, math.MinInt, math.MinInt + 1, math.MaxInt32, math.MinInt32}
	for id := 1; id <= 15; id++ {
		list = append(list, id+16, id+256, id+1<<16, id+1<<32, id-16, id-256, id-1<<32, math.MinInt+id)
	}
	return slices.DeleteFunc(list, func(id int) bool { return 1 <= id && id <= 15 })
}

// P24.1: the keys and their points

func TestEdgesAndDrawn(t *testing.T) {
	eachCurve(t, func(t *testing.T, m model, r *rand.Rand) {
		for _, d := range m.edges() {
			checkTaken(t, m, d, m.want(d))
		}
		for range 6 {
			d := m.drawn(r)
			checkTaken(t, m, d, m.want(d))
		}
	})
}

// TestByName: what needs no model.
func TestByName(t *testing.T) {
	eachCurve(t, func(t *testing.T, m model, _ *rand.Rand) {
		checkNone(t, m.id, api.Nat{}, api.ErrKeyRange)
		checkTaken(t, m, big.NewInt(1), m.base())
		checkTaken(t, m, more(m.n, -1), m.neg(m.base()))
		checkNone(t, m.id, natOf(m.n), api.ErrKeyRange)
		checkNone(t, m.id, natOf(more(m.n, 1)), api.ErrKeyRange)
		checkNone(t, m.id, natOf(greatest()), api.ErrKeyRange)
	})
}

// TestAroundPowers: of each power of 2, the one ahead of it and the one behind. The
// points are made of the one of the power before; products take long, so they are asked
// for by turns away from where words begin, with a recorder and with none by turns too.
func TestAroundPowers(t *testing.T) {
	eachCurve(t, func(t *testing.T, m model, _ *rand.Rand) {
		points := []*spot{m.base()}
		for k := 1; k < 576; k++ {
			points = append(points, m.add(points[k-1], points[k-1]))
		}
		for part := range 8 {
			t.Run(strconv.Itoa(part), func(t *testing.T) {
				t.Parallel()
				for k := part; k < 576; k += 8 {
					m.checkAround(t, k, points[k])
				}
			})
		}
	})
}

// checkAround expects 2^k times the base point.
func (m model) checkAround(t *testing.T, k int, s *spot) {
	t.Helper()
	around := []*spot{m.add(s, m.neg(m.base())), s, m.add(s, m.base())}
	for i, want := range around {
		d := power(k, int64(i-1))
		if !m.takes(d) {
			checkNone(t, m.id, natOf(d), api.ErrKeyRange)
			continue
		}
		checkFine(t, m, d)
		if (k+i)%3 == 0 || k < 16 || (k+1)%64 < 3 {
			tr := []*trace.Trace{trace.New(), nil}[(k+i)%2]
			checkPublic(t, tr, m, d, want)
		}
	}
}

// TestEachLength: drawn numbers of each count of bits.
func TestEachLength(t *testing.T) {
	eachCurve(t, func(t *testing.T, m model, r *rand.Rand) {
		for k := range 576 {
			for i := range 30 {
				d := new(big.Int).Rand(r, power(k, 0))
				d.SetBit(d, k, 1)
				if !m.takes(d) {
					checkNone(t, m.id, natOf(d), api.ErrKeyRange)
				} else if checkFine(t, m, d); i == 0 && k%16 == m.id {
					checkPublic(t, nil, m, d, m.want(d))
				}
			}
		}
	})
}

// TestTinyWhole: the points of the keys are all that there are but infinity, each
// once.
func TestTinyWhole(t *testing.T) {
	t.Parallel()
	for _, m := range tinyModels() {
		all := m.walk()
		var seen []api.Point
		for d := range 1100 {
			if d == 0 || d >= len(all) {
				checkNone(t, m.id, small(d), api.ErrKeyRange)
				continue
			}
			checkTaken(t, m, big.NewInt(int64(d)), all[d])
			p, _ := Public(nil, m.id, small(d))
			if slices.Contains(seen, p) || p.Inf {
				t.Errorf("curve %d: %d: %v", m.id, d, p)
			}
			seen = append(seen, p)
		}
		if points := m.points(); len(seen) != len(points) || slices.ContainsFunc(points, func(p api.Point) bool { return !slices.Contains(seen, p) }) {
			t.Errorf("curve %d: %d points, of %d", m.id, len(seen), len(points))
		}
	}
}

// points are those of a tiny curve but infinity, found by the equation alone.
func (m model) points() []api.Point {
	var list []api.Point
	p, a, b := int(m.p.Int64()), int(m.a.Int64()), int(m.b.Int64())
	for x := range p {
		for y := range p {
			if (y*y-x*x*x-a*x-b)%p == 0 {
				list = append(list, api.Point{X: small(x), Y: small(y)})
			}
		}
	}
	return list
}

// TestOpposites: N - d gives the opposite of d's point.
func TestOpposites(t *testing.T) {
	eachCurve(t, func(t *testing.T, m model, r *rand.Rand) {
		for range 5 {
			d := m.drawn(r)
			s := m.want(d)
			checkPublic(t, nil, m, d, s)
			checkPublic(t, nil, m, m.opposite(d), m.neg(s))
		}
	})
}

// TestAgainstTheLibrary: Go's own curves go another way to products.
func TestAgainstTheLibrary(t *testing.T) {
	t.Parallel()
	for id, c := range map[int]elliptic.Curve{
		api.CurveP224: elliptic.P224(), api.CurveP256: elliptic.P256(), api.CurveP384: elliptic.P384(), api.CurveP521: elliptic.P521(),
	} {
		m, r := models()[id-1], rand.New(rand.NewSource(int64(id)))
		for range 8 {
			d := m.drawn(r)
			x, y := c.ScalarBaseMult(d.Bytes())
			checkTaken(t, m, d, &spot{x, y})
		}
	}
}

// TestPublished: the keys of RFC 6979 (A.2.3 to A.2.7) and of RFC 7027.
func TestPublished(t *testing.T) {
	t.Parallel()
	for _, c := range []struct {
		id      int
		d, x, y string
	}{
		{
			api.CurveP192, keys6979(api.CurveP192),
			"ac2c77f529f91689fea0ea5efec7f210d8eea0b9e047ed56", "3bc723e57670bd4887ebc732c523063d0a7c957bc97c1c43",
		},
		{
			api.CurveP224, keys6979(api.CurveP224),
			"00cf08da5ad719e42707fa431292dea11244d64fc51610d94b130d6c", "eeab6f3debe455e3dbf85416f7030cbd94f34f2d6f232c69f3c1385a",
		},
		{
			api.CurveP256, keys6979(api.CurveP256),
			"60fed4ba255a9d31c961eb74c6356d68c049b8923b61fa6ce669622e60f29fb6", "7903fe1008b8bc99a41ae9e95628bc64f2f1b20c2d7e9f5177a3c294d4462299",
		},
		{
			api.CurveP384, keys6979(api.CurveP384),
			"ec3a4e415b4e19a4568618029f427fa5da9a8bc4ae92e02e06aae5286b300c64def8f0ea9055866064a254515480bc13",
			"8015d9b72d7d57244ea8ef9ac0c621896708a59367f9dfb9f54ca84b3f1c9db1288b231c3ae0d4fe7344fd2533264720",
		},
		{
			api.CurveP521, keys6979(api.CurveP521),
			"01894550d0785932e00eaa23b694f213f8c3121f86dc97a04e5a7167db4e5bcd371123d46e45db6b5d5370a7f20fb633155d38ffa16d2bd761dcac474b9a2f5023a4",
			"00493101c962cd4d2fddf782285e64584139c2f91b47f87ff82354d6630f746a28a0db25741b5b34a828008b22acc23f924faafbd4d33f81ea66956dfeaa2bfdfcf5",
		},
		{
			api.CurveB256, "55e40bc41e37e3e2ad25c3c6654511ffa8474a91a0032087593852d3e7d76bd3",
			"8d2d688c6cf93e1160ad04cc4429117dc2c41825e1e9fca0addd34e6f1b39f7b", "990c57520812be512641e47034832106bc7d3e8dd0e4c7f1136d7006547cec6a",
		},
		{
			api.CurveB384, "1e20f5e048a5886f1f157c74e91bde2b98c8b52d58e5003d57053fc4b0bd65d6f15eb5d1ee1610df870795143627d042",
			"68b665dd91c195800650cdd363c625f4e742e8134667b767b1b476793588f885ab698c852d4a6e77a252d6380fcaf068",
			"55bc91a39c9ec01dee36017b7d673a931236d2f1f5c83942d049e3fa20607493e0d038ff2fd30c2ab67d15c85f7faa59",
		},
		{
			api.CurveB512, "16302ff0dbbb5a8d733dab7141c1b45acbc8715939677f6a56850a38bd87bd59b09e80279609ff333eb9d4c061231fb26f92eeb04982a5f1d1764cad57665422",
			"0a420517e406aac0acdce90fcd71487718d3b953efd7fbec5f7f27e28c6149999397e91e029e06457db2d3e640668b392c2a7e737a7f0bf04436d11640fd09fd",
			"72e6882e8db28aad36237cd25d580db23783961c8dc52dfa2ec138ad472a0fcef3887cf62b623b2a87de5c588301ea3e5fc269b373b60724f5e82a6ad147fde7",
		},
	} {
		checkTaken(t, models()[c.id-1], digits(c.d), &spot{digits(c.x), digits(c.y)})
	}
}

// P24.1: the errors

func TestFromNOn(t *testing.T) {
	eachCurve(t, func(t *testing.T, m model, r *rand.Rand) {
		for _, d := range m.fromNOn(r) {
			checkNone(t, m.id, natOf(d), api.ErrKeyRange)
		}
	})
}

// TestWordsAbove: a key with a bit more above N's bits is none.
func TestWordsAbove(t *testing.T) {
	eachCurve(t, func(t *testing.T, m model, r *rand.Rand) {
		for _, d := range append(m.edges(), m.drawn(r)) {
			for i := m.n.BitLen(); i < 576; i++ {
				one := natOf(d)
				one.W[i/64] ^= 1 << (i % 64)
				checkNone(t, m.id, one, api.ErrKeyRange)
			}
		}
	})
}

// TestOneWord: numbers of which one word alone is not 0 are no zeros.
func TestOneWord(t *testing.T) {
	eachCurve(t, func(t *testing.T, m model, _ *rand.Rand) {
		for i := range api.Words {
			for _, w := range []uint64{1, 2, 1 << 32, 1 << 63, math.MaxUint64} {
				var d api.Nat
				d.W[i] = w
				if !m.takes(bigOf(d)) {
					checkNone(t, m.id, d, api.ErrKeyRange)
				} else {
					checkFine(t, m, bigOf(d))
				}
			}
		}
	})
}

// TestNoCurve: whatever the number is, none of a key too, the curve is told first.
func TestNoCurve(t *testing.T) {
	t.Parallel()
	numbers := []api.Nat{small(0), small(1), natOf(greatest())}
	for _, m := range models() {
		numbers = append(numbers, natOf(more(m.n, -1)), natOf(m.n), natOf(more(m.n, 1)))
	}
	for _, id := range strangers() {
		for _, d := range numbers {
			checkNone(t, id, d, api.ErrKeyCurve)
		}
	}
}

func TestOnlyFifteenCurves(t *testing.T) {
	t.Parallel()
	for id := -2000; id <= 2000; id++ {
		if 1 <= id && id <= 15 {
			m := models()[id-1]
			checkTaken(t, m, big.NewInt(2), m.want(big.NewInt(2)))
			checkNone(t, id, api.Nat{}, api.ErrKeyRange)
		} else {
			checkNone(t, id, small(2), api.ErrKeyCurve)
			checkNone(t, id, api.Nat{}, api.ErrKeyCurve)
		}
	}
}

// P24.1: the events

// recorded answers what a Public records that has to succeed.
func recorded(t *testing.T, m model, d *big.Int) []api.Event {
	t.Helper()
	tr := trace.New()
	if _, errno := Public(tr, m.id, natOf(d)); errno != api.OK {
		t.Fatalf("curve %d: %x: %d", m.id, d, errno)
	}
	return tr.Events()
}

// TestEvents: layer 19's, and so one row for all keys of a curve (T4).
func TestEvents(t *testing.T) {
	eachCurve(t, func(t *testing.T, m model, r *rand.Rand) {
		row := recorded(t, m, big.NewInt(1))
		for _, d := range append(m.edges(), m.drawn(r), m.drawn(r)) {
			tr := trace.New()
			if _, errno := base.Mul(tr, m.id, natOf(d)); errno != api.OK {
				t.Fatalf("%x: %d", d, errno)
			}
			if events := recorded(t, m, d); !slices.Equal(events, tr.Events()) || !slices.Equal(events, row) || len(events) == 0 {
				t.Fatalf("%x: %d events", d, len(events))
			}
		}
	})
}

// TestRecordedBehind: what a recorder holds stays, and what is recorded stands behind
// it; refused calls add nothing.
func TestRecordedBehind(t *testing.T) {
	eachCurve(t, func(t *testing.T, m model, r *rand.Rand) {
		tr, events := held(t)
		row := recorded(t, m, big.NewInt(1))
		for _, d := range []*big.Int{big.NewInt(1), m.drawn(r), more(m.n, -1)} {
			checkPublic(t, tr, m, d, m.want(d))
			Public(tr, m.id, natOf(m.n))
			Public(tr, m.id, api.Nat{})
			Public(tr, -m.id, natOf(d))
			events = append(events, row...)
			if !slices.Equal(tr.Events(), events) {
				t.Fatalf("%x: %d events", d, tr.Len())
			}
		}
	})
}

// TestRecorderIsNotKept: a later call records to its own recorder alone.
func TestRecorderIsNotKept(t *testing.T) {
	t.Parallel()
	m := models()[api.CurveTiny2-1]
	row := recorded(t, m, big.NewInt(1))
	one, two := trace.New(), trace.New()
	Public(one, m.id, small(1))
	Public(two, m.id, small(2))
	Public(nil, m.id, small(3))
	Public(two, m.id, small(4))
	if !slices.Equal(one.Events(), row) || !slices.Equal(two.Events(), append(row, row...)) {
		t.Errorf("%v, %v", one.Events(), two.Events())
	}
}

// R4, R5

// asked is a key beside its point.
type asked struct {
	m    model
	d    *big.Int
	want *spot
}

// drawnCalls go over the curves in their row.
func drawnCalls(r *rand.Rand, count int) []asked {
	list := models()
	var calls []asked
	for i := range count {
		m := list[i%len(list)]
		d := m.drawn(r)
		calls = append(calls, asked{m, d, m.want(d)})
	}
	return calls
}

// TestCallsApart: the same calls over again, with others, refused ones and makings of
// keys between them.
func TestCallsApart(t *testing.T) {
	t.Parallel()
	r := rand.New(rand.NewSource(5))
	calls, ids := drawnCalls(r, 30), strangers()
	pair := paired(t, api.Hash256, "entropy of sixteen bytes or more", "")
	for range 100 {
		c := calls[r.Intn(len(calls))]
		checkTaken(t, c.m, c.d, c.want)
		checkNone(t, ids[r.Intn(len(ids))], natOf(c.d), api.ErrKeyCurve)
		checkNone(t, c.m.id, natOf(c.m.n), api.ErrKeyRange)
		if _, _, errno := pair.checkMake(c.m); errno != api.OK {
			pair.reseed("some more entropy, that comes in later")
		}
	}
}

// TestTwiceTheSame: two calls of the same, one behind the other and with a call of
// another number between them.
func TestTwiceTheSame(t *testing.T) {
	eachCurve(t, func(t *testing.T, m model, r *rand.Rand) {
		d := m.drawn(r)
		want := m.want(d)
		checkTaken(t, m, d, want)
		checkTaken(t, m, d, want)
		checkTaken(t, m, m.opposite(d), m.neg(want))
		checkTaken(t, m, d, want)
		checkNone(t, m.id, api.Nat{}, api.ErrKeyRange)
		checkTaken(t, m, d, want)
	})
}

// TestArgumentsStay: what is handed in is a value, and what is answered the caller's
// own.
func TestArgumentsStay(t *testing.T) {
	eachCurve(t, func(t *testing.T, m model, r *rand.Rand) {
		k := m.drawn(r)
		d := natOf(k)
		got, _ := Public(trace.New(), m.id, d)
		Check(m.id, d)
		if d != natOf(k) {
			t.Fatalf("%v", d)
		}
		for i := range got.X.W {
			got.X.W[i], got.Y.W[i], d.W[i] = ^got.X.W[i], 5, 7
		}
		checkTaken(t, m, k, m.want(k))
	})
}

func TestSeveralGoroutines(t *testing.T) {
	t.Parallel()
	calls := drawnCalls(rand.New(rand.NewSource(8)), 15)
	var rows [][]api.Event
	for _, c := range calls {
		rows = append(rows, recorded(t, c.m, c.d))
	}
	var group sync.WaitGroup
	for i := range 8 {
		group.Go(func() {
			for turn := range calls {
				place := (i + turn) % len(calls)
				c, tr := calls[place], trace.New()
				got, errno := Public(tr, c.m.id, natOf(c.d))
				if got != c.want.point() || errno != api.OK || Check(c.m.id, natOf(c.d)) != api.OK || !slices.Equal(tr.Events(), rows[place]) {
					t.Errorf("curve %d: %x: %v, %d", c.m.id, c.d, got, errno)
				}
			}
		})
	}
	group.Wait()
}
