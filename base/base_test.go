package base

import (
	"crypto/elliptic"
	"math"
	"math/big"
	"math/rand"
	"os"
	"os/exec"
	"slices"
	"strconv"
	"sync"
	"testing"

	"curvet/api"
	"curvet/mult"
	"curvet/trace"
)

// places is how many numbers a digit of one window has room for.
const places = 16

// checkMul asks for d G, with a recorder and with none.
func checkMul(t *testing.T, m model, d *big.Int, want *spot) {
	t.Helper()
	for _, tr := range []*trace.Trace{trace.New(), nil} {
		if got, errno := Mul(tr, m.id, natOf(d)); got != want.point() || errno != api.OK {
			t.Fatalf("curve %d: %x: %v, %d; not %v", m.id, d, got, errno, want.point())
		}
	}
}

// product answers what a Mul answers that has to succeed.
func product(t *testing.T, m model, d *big.Int) api.Point {
	t.Helper()
	got, errno := Mul(nil, m.id, natOf(d))
	if errno != api.OK {
		t.Fatalf("curve %d: %x: error %d", m.id, d, errno)
	}
	return got
}

// recorded answers what a Mul records that has to succeed.
func recorded(t *testing.T, m model, d *big.Int) []api.Event {
	t.Helper()
	tr := trace.New()
	if _, errno := Mul(tr, m.id, natOf(d)); errno != api.OK {
		t.Fatalf("curve %d: %x: error %d", m.id, d, errno)
	}
	return tr.Events()
}

// edges are the least numbers, those around a digit's greatest, and the greatest.
func (m model) edges() []*big.Int {
	var list []*big.Int
	for _, d := range []int64{0, 1, 2, 3, 14, 15, 16, 17, 31, 32, 33} {
		list = append(list, big.NewInt(d))
	}
	half := new(big.Int).Rsh(m.n, 1)
	return append(list, half, more(half, 1), less(m.n, 17), less(m.n, 16), less(m.n, 15), less(m.n, 2), less(m.n, 1))
}

// drawn are numbers below N, of its length and of shorter ones.
func (m model) drawn(r *rand.Rand) []*big.Int {
	var list []*big.Int
	for range 6 {
		list = append(list, m.below(r), new(big.Int).Rsh(m.below(r), uint(r.Intn(m.n.BitLen()))))
	}
	return list
}

// strangers are ids that no curve has; the low bits of some are a curve's.
func strangers() []int {
	list := []int{0, 16, 17, 31, 32, -1, -2, -3, -13, -15, -16, 100, 1900, math.MaxInt, math.MaxInt - 1, math.MinInt, math.MinInt + 1, math.MaxInt32, math.MinInt32}
	for id := 1; id <= 15; id++ {
		list = append(list, id+16, id+256, id+1<<16, id+1<<32, id-16, id-256, id-1<<32, math.MinInt+id)
	}
	return slices.DeleteFunc(list, func(id int) bool { return 1 <= id && id <= 15 })
}

// P19.1: the products

func TestTinyWhole(t *testing.T) {
	t.Parallel()
	for _, m := range tinyModels() {
		all := m.walk()
		if m.n.Cmp(big.NewInt(int64(len(all)))) != 0 {
			t.Fatalf("curve %d: %d points", m.id, len(all))
		}
		for d, want := range all {
			checkMul(t, m, big.NewInt(int64(d)), want)
		}
	}
}

func TestEdgesAndDrawn(t *testing.T) {
	eachCurve(t, func(t *testing.T, m model, r *rand.Rand) {
		for _, d := range append(m.edges(), m.drawn(r)...) {
			checkMul(t, m, d, m.want(d))
		}
	})
}

// TestByName: what needs no model.
func TestByName(t *testing.T) {
	eachCurve(t, func(t *testing.T, m model, _ *rand.Rand) {
		checkMul(t, m, big.NewInt(0), nil)
		checkMul(t, m, big.NewInt(1), m.base())
		checkMul(t, m, less(m.n, 1), m.neg(m.base()))
	})
}

// TestOneDigitAlone: with noughts on both sides, at the place of each window.
func TestOneDigitAlone(t *testing.T) {
	eachCurve(t, func(t *testing.T, m model, r *rand.Rand) {
		unit, power := m.base(), big.NewInt(1)
		for power.Cmp(m.n) < 0 {
			digit := big.NewInt(int64(1 + r.Intn(places-1)))
			d := new(big.Int).Mul(digit, power)
			if d.Cmp(m.n) >= 0 {
				d, digit = power, big.NewInt(1)
			}
			if got := product(t, m, d); got != m.times(digit, unit).point() {
				t.Fatalf("%x: %v", d, got)
			}
			unit, power = m.times(big.NewInt(places), unit), new(big.Int).Lsh(power, 4)
		}
	})
}

// TestLikeDigits: one digit at every place but the highest, which has room for
// no more than 0 on some curves.
func TestLikeDigits(t *testing.T) {
	eachCurve(t, func(t *testing.T, m model, _ *rand.Rand) {
		for digit := range places {
			d := new(big.Int)
			for range (m.n.BitLen()+3)/4 - 1 {
				d.Lsh(d, 4).Or(d, big.NewInt(int64(digit)))
			}
			if got := product(t, m, d); got != m.want(d).point() {
				t.Fatalf("%x: %v", d, got)
			}
		}
	})
}

// TestSums: (d + e) G is d G and e G added.
func TestSums(t *testing.T) {
	eachCurve(t, func(t *testing.T, m model, r *rand.Rand) {
		for range 4 {
			d := m.below(r)
			for _, e := range []*big.Int{m.below(r), d, m.opposite(d), big.NewInt(0), big.NewInt(1)} {
				sum := new(big.Int).Add(d, e)
				want := m.add(spotOf(product(t, m, d)), spotOf(product(t, m, e)))
				if got := product(t, m, sum.Mod(sum, m.n)); got != want.point() {
					t.Fatalf("%x and %x: %v, not %v", d, e, got, want.point())
				}
			}
		}
	})
}

// TestOpposites: N - d gives the opposite of d G.
func TestOpposites(t *testing.T) {
	eachCurve(t, func(t *testing.T, m model, r *rand.Rand) {
		for _, d := range append(m.drawn(r), big.NewInt(1), big.NewInt(15), big.NewInt(16)) {
			got, other := product(t, m, m.opposite(d)), product(t, m, d)
			if want := m.neg(spotOf(other)); got != want.point() {
				t.Fatalf("%x: %v, the opposite %v", d, other, got)
			}
		}
	})
}

// TestAsLayer18: its product of the base point is the same point.
func TestAsLayer18(t *testing.T) {
	eachCurve(t, func(t *testing.T, m model, r *rand.Rand) {
		for _, d := range append(m.edges(), m.below(r), m.below(r)) {
			want, errno := mult.Mul(nil, m.id, natOf(d), m.base().point())
			if got := product(t, m, d); got != want || errno != api.OK {
				t.Fatalf("%x: %v, not %v, %d", d, got, want, errno)
			}
		}
	})
}

// TestAgainstTheLibrary: Go's own curves go another way to products.
func TestAgainstTheLibrary(t *testing.T) {
	t.Parallel()
	for id, c := range map[int]elliptic.Curve{
		api.CurveP224: elliptic.P224(), api.CurveP256: elliptic.P256(), api.CurveP384: elliptic.P384(), api.CurveP521: elliptic.P521(),
	} {
		m, r := models()[id-1], rand.New(rand.NewSource(int64(id)))
		for range 8 {
			d := more(new(big.Int).Rand(r, less(m.n, 1)), 1)
			x, y := c.ScalarBaseMult(d.Bytes())
			checkMul(t, m, d, &spot{x, y})
		}
	}
}

// TestPublished: the keys of RFC 6979 (A.2.3 to A.2.7) and of RFC 7027, and two
// multiples of K256 that are told with many of its programs.
func TestPublished(t *testing.T) {
	t.Parallel()
	for _, c := range []struct {
		id      int
		d, x, y string
	}{
		{
			api.CurveP192, "6fab034934e4c0fc9ae67f5b5659a9d7d1fefd187ee09fd4",
			"ac2c77f529f91689fea0ea5efec7f210d8eea0b9e047ed56", "3bc723e57670bd4887ebc732c523063d0a7c957bc97c1c43",
		},
		{
			api.CurveP224, "f220266e1105bfe3083e03ec7a3a654651f45e37167e88600bf257c1",
			"00cf08da5ad719e42707fa431292dea11244d64fc51610d94b130d6c", "eeab6f3debe455e3dbf85416f7030cbd94f34f2d6f232c69f3c1385a",
		},
		{
			api.CurveP256, "c9afa9d845ba75166b5c215767b1d6934e50c3db36e89b127b8a622b120f6721",
			"60fed4ba255a9d31c961eb74c6356d68c049b8923b61fa6ce669622e60f29fb6", "7903fe1008b8bc99a41ae9e95628bc64f2f1b20c2d7e9f5177a3c294d4462299",
		},
		{
			api.CurveP384, "6b9d3dad2e1b8c1c05b19875b6659f4de23c3b667bf297ba9aa47740787137d896d5724e4c70a825f872c9ea60d2edf5",
			"ec3a4e415b4e19a4568618029f427fa5da9a8bc4ae92e02e06aae5286b300c64def8f0ea9055866064a254515480bc13",
			"8015d9b72d7d57244ea8ef9ac0c621896708a59367f9dfb9f54ca84b3f1c9db1288b231c3ae0d4fe7344fd2533264720",
		},
		{
			api.CurveP521, "00fad06daa62ba3b25d2fb40133da757205de67f5bb0018fee8c86e1b68c7e75caa896eb32f1f47c70855836a6d16fcc1466f6d8fbec67db89ec0c08b0e996b83538",
			"01894550d0785932e00eaa23b694f213f8c3121f86dc97a04e5a7167db4e5bcd371123d46e45db6b5d5370a7f20fb633155d38ffa16d2bd761dcac474b9a2f5023a4",
			"00493101c962cd4d2fddf782285e64584139c2f91b47f87ff82354d6630f746a28a0db25741b5b34a828008b22acc23f924faafbd4d33f81ea66956dfeaa2bfdfcf5",
		},
		{
			api.CurveK256, "2",
			"c6047f9441ed7d6d3045406e95c07cd85c778e4b8cef3ca7abac09b95c709ee5", "1ae168fea63dc339a3c58419466ceaeef7f632653266d0e1236431a950cfe52a",
		},
		{
			api.CurveK256, "3",
			"f9308a019258c31049344f85f89d5229b531c845836f99b08601f113bce036f9", "388f7b0f632de8140fe337e62a37f3566500a99934c2231b6cb9fd7584b8e672",
		},
		{
			api.CurveB256, "55e40bc41e37e3e2ad25c3c6654511ffa8474a91a0032087593852d3e7d76bd3",
			"8d2d688c6cf93e1160ad04cc4429117dc2c41825e1e9fca0addd34e6f1b39f7b", "990c57520812be512641e47034832106bc7d3e8dd0e4c7f1136d7006547cec6a",
		},
		{
			api.CurveB384, "1e20f5e048a5886f1f157c74e91bde2b98c8b52d58e5003d57053fc4b0bd65d6f15eb5d1ee1610df870795143627d042",
			"68b665dd91c195800650cdd363c625f4e742e8134667b767b1b476793588f885ab698c852d4a6e77a252d6380fcaf068",
			"55bc91a39c9ec01dee36017b7d673a931236d2f1f5c83942d049e3fa20607493e0d038ff2fd30c2ab67d15c85f7faa59",
		},
		{
			api.CurveB512, "16302ff0dbbb5a8d733dab7141c1b45acbc8715939677f6a56850a38bd87bd59b09e80279609ff333eb9d4c061231fb26f92eeb04982a5f1d1764cad57665422",
			"0a420517e406aac0acdce90fcd71487718d3b953efd7fbec5f7f27e28c6149999397e91e029e06457db2d3e640668b392c2a7e737a7f0bf04436d11640fd09fd",
			"72e6882e8db28aad36237cd25d580db23783961c8dc52dfa2ec138ad472a0fcef3887cf62b623b2a87de5c588301ea3e5fc269b373b60724f5e82a6ad147fde7",
		},
	} {
		checkMul(t, models()[c.id-1], digits(c.d), &spot{digits(c.x), digits(c.y)})
	}
}

// P19.1: the errors

// held answers a recorder that holds events already, and these.
func held(t *testing.T) (*trace.Trace, []api.Event) {
	t.Helper()
	tr := trace.New()
	for _, errno := range []api.Errno{tr.Branch(true), tr.Index(7), tr.Branch(false), tr.Index(-3), tr.Index(math.MaxInt), tr.Index(0), tr.Index(1)} {
		if errno != api.OK {
			t.Fatalf("error %d", errno)
		}
	}
	return tr, []api.Event{
		{Kind: api.EventBranch, At: 1}, {Kind: api.EventIndex, At: 7}, {Kind: api.EventBranch}, {Kind: api.EventIndex, At: -3},
		{Kind: api.EventIndex, At: math.MaxInt}, {Kind: api.EventIndex}, {Kind: api.EventIndex, At: 1},
	}
}

// checkNone: beside an error the point is a zero value and nothing is recorded,
// whether the recorder is new, holds events already or is none.
func checkNone(t *testing.T, id int, d api.Nat, want api.Errno) {
	t.Helper()
	full, events := held(t)
	empty := trace.New()
	for _, tr := range []*trace.Trace{empty, full, nil} {
		if got, errno := Mul(tr, id, d); got != (api.Point{}) || errno != want {
			t.Fatalf("curve %d: %x: %v, %d; not %d", id, bigOf(d), got, errno, want)
		}
	}
	if empty.Len() != 0 || !slices.Equal(full.Events(), events) {
		t.Fatalf("curve %d: %x: %v, %v", id, bigOf(d), empty.Events(), full.Events())
	}
}

// fromNOn are numbers that are not below N, far and near; in some of them one
// word alone is too great.
func (m model) fromNOn(r *rand.Rand) []*big.Int {
	one := big.NewInt(1)
	list := []*big.Int{m.n, more(m.n, 1), more(m.n, 2), new(big.Int).Lsh(m.n, 1), greatest(), less(greatest(), 1)}
	list = append(list, less(new(big.Int).Lsh(one, uint(m.n.BitLen())), 1), new(big.Int).Lsh(one, 575), m.p)
	for k := m.n.BitLen(); k < 576; k += 1 + r.Intn(8) {
		top := new(big.Int).Lsh(one, uint(k))
		list = append(list, top, more(top, 1), new(big.Int).Or(top, m.below(r)))
	}
	for k := uint(0); k < 576; k += 64 {
		list = append(list, new(big.Int).Add(m.n, new(big.Int).Lsh(one, k)))
	}
	room := new(big.Int).Sub(greatest(), m.n)
	for range 20 {
		list = append(list, new(big.Int).Add(m.n, new(big.Int).Rand(r, room)))
	}
	return slices.DeleteFunc(list, func(d *big.Int) bool { return d.Cmp(m.n) < 0 || d.BitLen() > 576 })
}

// TestNoCurve: whatever the number is, one from each curve's N on too, the curve
// is told first.
func TestNoCurve(t *testing.T) {
	t.Parallel()
	numbers := []api.Nat{small(0), small(1), natOf(greatest())}
	for _, m := range models() {
		numbers = append(numbers, natOf(less(m.n, 1)), natOf(m.n), natOf(more(m.n, 1)))
	}
	for _, id := range strangers() {
		for _, d := range numbers {
			checkNone(t, id, d, api.ErrBaseCurve)
		}
	}
}

func TestOnlyFifteenCurves(t *testing.T) {
	t.Parallel()
	for id := -2000; id <= 2000; id++ {
		if 1 <= id && id <= 15 {
			m := models()[id-1]
			checkMul(t, m, big.NewInt(2), m.want(big.NewInt(2)))
		} else {
			checkNone(t, id, small(2), api.ErrBaseCurve)
			checkNone(t, id, natOf(greatest()), api.ErrBaseCurve)
		}
	}
}

func TestFromNOn(t *testing.T) {
	eachCurve(t, func(t *testing.T, m model, r *rand.Rand) {
		for _, d := range m.fromNOn(r) {
			checkNone(t, m.id, natOf(d), api.ErrBaseRange)
		}
	})
}

// TestTinyJustTheNumbers: of all numbers around N just those below it are taken.
func TestTinyJustTheNumbers(t *testing.T) {
	t.Parallel()
	for _, m := range tinyModels() {
		for d := range 1100 {
			if int64(d) < m.n.Int64() {
				product(t, m, big.NewInt(int64(d)))
			} else {
				checkNone(t, m.id, small(d), api.ErrBaseRange)
			}
		}
	}
}

// TestJustBelowN: N less one in one of its words is taken.
func TestJustBelowN(t *testing.T) {
	eachCurve(t, func(t *testing.T, m model, _ *rand.Rand) {
		for k := 0; k < m.n.BitLen(); k += 64 {
			d := new(big.Int).Sub(m.n, new(big.Int).Lsh(big.NewInt(1), uint(k)))
			if d.Sign() >= 0 {
				checkMul(t, m, d, m.want(d))
			}
		}
	})
}

// P19.2

// TestSameForAllSecrets (T4): event by event.
func TestSameForAllSecrets(t *testing.T) {
	eachCurve(t, func(t *testing.T, m model, r *rand.Rand) {
		first := recorded(t, m, big.NewInt(0))
		for _, d := range append(m.edges(), m.drawn(r)...) {
			if events := recorded(t, m, d); !slices.Equal(first, events) {
				t.Fatalf("%x: %v; of 0: %v", d, events, first)
			}
		}
	})
}

func TestSameForAllTinySecrets(t *testing.T) {
	t.Parallel()
	for _, m := range tinyModels() {
		first := recorded(t, m, big.NewInt(0))
		for d := range m.n.Int64() {
			if events := recorded(t, m, big.NewInt(d)); !slices.Equal(first, events) {
				t.Fatalf("curve %d: %d: %v; of 0: %v", m.id, d, events, first)
			}
		}
	}
}

// TestEachPlaceOfEachDigit: how many digits there are is written out here.
func TestEachPlaceOfEachDigit(t *testing.T) {
	count := [...]int{48, 56, 64, 96, 131, 64, 40, 56, 64, 80, 96, 128, 2, 2, 2}
	eachCurve(t, func(t *testing.T, m model, r *rand.Rand) {
		for _, d := range []*big.Int{big.NewInt(0), big.NewInt(1), less(m.n, 1), m.below(r)} {
			var seen [places]int
			for _, e := range recorded(t, m, d) {
				if e.Kind == api.EventIndex && 0 <= e.At && e.At < places {
					seen[e.At]++
				}
			}
			for place, times := range seen {
				if times < count[m.id-1] {
					t.Errorf("%x: place %d: %d times, of %d digits", d, place, times, count[m.id-1])
				}
			}
		}
	})
}

// TestRecordedBehind: what a recorder holds stays, and what is recorded stands
// behind it; refused calls add nothing.
func TestRecordedBehind(t *testing.T) {
	eachCurve(t, func(t *testing.T, m model, r *rand.Rand) {
		tr, events := held(t)
		row := recorded(t, m, big.NewInt(0))
		for _, d := range []*big.Int{big.NewInt(0), m.below(r), less(m.n, 1)} {
			if got, errno := Mul(tr, m.id, natOf(d)); got != m.want(d).point() || errno != api.OK {
				t.Fatalf("%x: %v, %d", d, got, errno)
			}
			Mul(tr, m.id, natOf(m.n))
			Mul(tr, -m.id, natOf(d))
			events = append(events, row...)
			if !slices.Equal(tr.Events(), events) {
				t.Fatalf("%x: %d events", d, tr.Len())
			}
		}
	})
}

// TestRecorderIsNotKept: a later call records to its own recorder alone.
func TestRecorderIsNotKept(t *testing.T) {
	t.Parallel()
	m := models()[api.CurveTiny2-1]
	row := recorded(t, m, big.NewInt(0))
	one, two := trace.New(), trace.New()
	Mul(one, m.id, small(1))
	Mul(two, m.id, small(2))
	Mul(nil, m.id, small(3))
	Mul(two, m.id, small(4))
	if !slices.Equal(one.Events(), row) || !slices.Equal(two.Events(), append(row, row...)) {
		t.Errorf("%v, %v", one.Events(), two.Events())
	}
}

// R5

// asked is a call beside what it has to answer.
type asked struct {
	m    model
	d    *big.Int
	want *spot
}

// drawnCalls go over the curves in their row, from the one of that number on.
func drawnCalls(r *rand.Rand, first int, count int) []asked {
	list := models()
	var calls []asked
	for i := range count {
		m := list[(first-1+i)%len(list)]
		d := m.below(r)
		calls = append(calls, asked{m, d, m.want(d)})
	}
	return calls
}

// TestCallsApart: the same calls over again, with others and refused ones between
// them.
func TestCallsApart(t *testing.T) {
	t.Parallel()
	r := rand.New(rand.NewSource(5))
	calls, ids := drawnCalls(r, api.CurveP192, 30), strangers()
	rows := make([][]api.Event, len(calls))
	for range 120 {
		place := r.Intn(len(calls))
		c := calls[place]
		checkMul(t, c.m, c.d, c.want)
		events := recorded(t, c.m, c.d)
		if rows[place] == nil {
			rows[place] = events
		}
		if !slices.Equal(rows[place], events) {
			t.Fatalf("curve %d: %x: %v; at first: %v", c.m.id, c.d, events, rows[place])
		}
		checkNone(t, ids[r.Intn(len(ids))], natOf(c.d), api.ErrBaseCurve)
		checkNone(t, c.m.id, natOf(c.m.n), api.ErrBaseRange)
	}
}

// TestTwiceTheSame: two calls of the same, one behind the other and with a call
// of another number between them.
func TestTwiceTheSame(t *testing.T) {
	eachCurve(t, func(t *testing.T, m model, r *rand.Rand) {
		d := m.below(r)
		want := m.want(d)
		checkMul(t, m, d, want)
		checkMul(t, m, d, want)
		checkMul(t, m, m.opposite(d), m.neg(want))
		checkMul(t, m, d, want)
		checkMul(t, m, big.NewInt(0), nil)
		checkMul(t, m, d, want)
	})
}

const firstCurve = "BASE_TEST_FIRST_CURVE"

// TestFirstAsked: whichever of the curves is asked for first in a program. Each
// one is the first in a process of its own, which is this test again.
func TestFirstAsked(t *testing.T) {
	if id, err := strconv.Atoi(os.Getenv(firstCurve)); err == nil {
		for _, c := range drawnCalls(rand.New(rand.NewSource(int64(id))), id, 30) {
			checkMul(t, c.m, c.d, c.want)
		}
		return
	}
	eachCurve(t, func(t *testing.T, m model, _ *rand.Rand) {
		again := exec.Command(os.Args[0], "-test.run=^TestFirstAsked$")
		again.Env = append(os.Environ(), firstCurve+"="+strconv.Itoa(m.id))
		if out, err := again.CombinedOutput(); err != nil {
			t.Errorf("%v: %s", err, out)
		}
	})
}

// TestArgumentsStay: what is handed in is a value, and what is answered the
// caller's own.
func TestArgumentsStay(t *testing.T) {
	eachCurve(t, func(t *testing.T, m model, r *rand.Rand) {
		k := m.below(r)
		d := natOf(k)
		got, _ := Mul(trace.New(), m.id, d)
		if d != natOf(k) {
			t.Fatalf("%v", d)
		}
		for i := range got.X.W {
			got.X.W[i], got.Y.W[i], d.W[i] = ^got.X.W[i], 5, 7
		}
		checkMul(t, m, k, m.want(k))
	})
}

func TestSeveralGoroutines(t *testing.T) {
	t.Parallel()
	calls := drawnCalls(rand.New(rand.NewSource(8)), api.CurveP192, 15)
	var rows [][]api.Event
	for _, c := range calls {
		rows = append(rows, recorded(t, c.m, c.d))
	}
	var group sync.WaitGroup
	for i := range 8 {
		group.Go(func() {
			for turn := range calls {
				place := (i + turn) % len(calls)
				c, tr := calls[place], trace.New()
				got, errno := Mul(tr, c.m.id, natOf(c.d))
				if got != c.want.point() || errno != api.OK || !slices.Equal(tr.Events(), rows[place]) {
					t.Errorf("curve %d: %x: %v, %d", c.m.id, c.d, got, errno)
				}
			}
		})
	}
	group.Wait()
}
