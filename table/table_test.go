package table

import (
	"crypto/elliptic"
	"math"
	"math/big"
	"math/rand"
	"slices"
	"sync"
	"testing"

	"curvet/api"
	"curvet/trace"
)

func infinity() api.Point {
	return api.Point{Inf: true}
}

// multiples are 0 s, 1 s and so on, as many as asked for, by the model.
func (m model) multiples(s *spot, size int) []api.Point {
	var list []api.Point
	for k := range size {
		list = append(list, m.times(big.NewInt(int64(k)), s).point())
	}
	return list
}

// some are points of the curve, infinity among them.
func (m model) some(r *rand.Rand) []*spot {
	return []*spot{m.base(), m.neg(m.base()), m.drawn(r), m.drawn(r), nil}
}

// row is what a Pick of a table of that size records.
func row(size int) []api.Event {
	var list []api.Event
	for place := range size {
		list = append(list, api.Event{Kind: api.EventIndex, At: place})
	}
	return list
}

// newTable answers what a New answers that has to succeed.
func newTable(t *testing.T, id int, p api.Point, size int) *Table {
	t.Helper()
	x, errno := New(id, p, size)
	if x == nil || errno != api.OK {
		t.Fatalf("curve %d: New of %v, %d: %v, %d", id, p, size, x, errno)
	}
	return x
}

// checkTable holds each place against want: with a recorder that is new, and
// with none.
func checkTable(t *testing.T, x *Table, want []api.Point) {
	t.Helper()
	if x.Size() != len(want) {
		t.Fatalf("Size: %d, not %d", x.Size(), len(want))
	}
	for i, p := range want {
		tr := trace.New()
		if got, errno := x.Pick(tr, i); got != p || errno != api.OK {
			t.Fatalf("place %d of %d: %v, %d", i, len(want), got, errno)
		}
		if events := tr.Events(); !slices.Equal(events, row(len(want))) {
			t.Fatalf("place %d of %d: %v", i, len(want), events)
		}
		if got, errno := x.Pick(nil, i); got != p || errno != api.OK {
			t.Fatalf("place %d of %d, without a recorder: %v, %d", i, len(want), got, errno)
		}
	}
}

// outside are numbers that are no place of a table of that size; the low bits of
// some are a place's.
func outside(size int) []int {
	list := []int{
		-1, -2, -size, -size - 1, size, size + 1, size + api.MaxTable, 2*size + 1, api.MaxTable, api.MaxTable + 1,
		math.MaxInt, math.MaxInt - 1, math.MinInt, math.MinInt + 1, math.MaxInt32, math.MinInt32, math.MaxUint32, 1 << 62, -1 << 62,
	}
	for place := range size {
		list = append(list, place+1<<4, place+1<<8, place+1<<16, place+1<<32, place-1<<4, place-1<<8, place-1<<32, math.MinInt+place)
	}
	return slices.DeleteFunc(list, func(i int) bool { return 0 <= i && i < size })
}

// sizes are numbers that are no size; the low bits of some are one's.
func sizes() []int {
	list := []int{
		0, -1, -2, -15, -16, -17, api.MaxTable + 1, api.MaxTable + 2, 31, 32, 100,
		math.MaxInt, math.MaxInt - 1, math.MinInt, math.MinInt + 1, math.MaxInt32, math.MinInt32, math.MaxUint32, 1 << 62, -1 << 62,
	}
	for size := 1; size <= api.MaxTable; size++ {
		list = append(list, -size, size+1<<4, size+1<<5, size+1<<8, size+1<<16, size+1<<32, size-1<<5, size-1<<8, size-1<<32, math.MinInt+size)
	}
	return list
}

// P16.1: New, Pick and Size

func TestEachSize(t *testing.T) {
	eachCurve(t, func(t *testing.T, m model, r *rand.Rand) {
		for _, s := range m.some(r) {
			want := m.multiples(s, api.MaxTable)
			for size := 1; size <= api.MaxTable; size++ {
				checkTable(t, newTable(t, m.id, s.point(), size), want[:size])
			}
		}
	})
}

func TestMaxTable(t *testing.T) {
	if api.MaxTable != 16 {
		t.Fatalf("MaxTable: %d", api.MaxTable)
	}
}

func TestDrawnPoints(t *testing.T) {
	eachCurve(t, func(t *testing.T, m model, r *rand.Rand) {
		for range 10 {
			s := m.drawn(r)
			checkTable(t, newTable(t, m.id, s.point(), api.MaxTable), m.multiples(s, api.MaxTable))
		}
	})
}

// TestInfinityAlone: its multiples are all infinity, and the 0-th of any point
// is.
func TestInfinityAlone(t *testing.T) {
	eachCurve(t, func(t *testing.T, m model, r *rand.Rand) {
		x := newTable(t, m.id, infinity(), api.MaxTable)
		for i := range api.MaxTable {
			if got, errno := x.Pick(nil, i); got != infinity() || errno != api.OK {
				t.Fatalf("%d times infinity: %v, %d", i, got, errno)
			}
		}
		x = newTable(t, m.id, m.drawn(r).point(), api.MaxTable)
		for i := range api.MaxTable {
			if got, _ := x.Pick(nil, i); got.Inf != (i == 0) {
				t.Fatalf("%d times a point: %v", i, got)
			}
		}
	})
}

// TestXOfNought: where there is a point with an X of 0 it is a point like
// others, not infinity.
func TestXOfNought(t *testing.T) {
	found := 0
	for _, m := range models() {
		y := new(big.Int).ModSqrt(m.b, m.p)
		if y == nil {
			continue
		}
		found++
		s := &spot{new(big.Int), y}
		checkTable(t, newTable(t, m.id, s.point(), api.MaxTable), m.multiples(s, api.MaxTable))
	}
	if found < 2 {
		t.Errorf("%d curves have a point with an X of 0", found)
	}
}

// TestPublished: multiples of base points that were told with the curves.
func TestPublished(t *testing.T) {
	for _, c := range []struct {
		id, k int
		x, y  string
	}{
		{api.CurveP192, 2, "dafebf5828783f2ad35534631588a3f629a70fb16982a888", "dd6bda0d993da0fa46b27bbc141b868f59331afa5c7e93ab"},
		{api.CurveP256, 2, "7cf27b188d034f7e8a52380304b51ac3c08969e277f21b35a60b48fc47669978", "07775510db8ed040293d9ac69f7430dbba7dade63ce982299e04b79d227873d1"},
		{api.CurveK256, 2, "c6047f9441ed7d6d3045406e95c07cd85c778e4b8cef3ca7abac09b95c709ee5", "1ae168fea63dc339a3c58419466ceaeef7f632653266d0e1236431a950cfe52a"},
		{api.CurveK256, 3, "f9308a019258c31049344f85f89d5229b531c845836f99b08601f113bce036f9", "388f7b0f632de8140fe337e62a37f3566500a99934c2231b6cb9fd7584b8e672"},
	} {
		x := newTable(t, c.id, models()[c.id-1].base().point(), api.MaxTable)
		want := (&spot{digits(c.x), digits(c.y)}).point()
		if got, errno := x.Pick(nil, c.k); got != want || errno != api.OK {
			t.Errorf("curve %d: %d G: %v, %d", c.id, c.k, got, errno)
		}
	}
}

// TestAgainstTheLibrary: Go's own curves go another way to multiples.
func TestAgainstTheLibrary(t *testing.T) {
	for id, c := range map[int]elliptic.Curve{
		api.CurveP224: elliptic.P224(), api.CurveP256: elliptic.P256(), api.CurveP384: elliptic.P384(), api.CurveP521: elliptic.P521(),
	} {
		m, r := models()[id-1], rand.New(rand.NewSource(int64(id)))
		for _, s := range []*spot{m.base(), m.drawn(r)} {
			want := []api.Point{infinity()}
			for k := 1; k < api.MaxTable; k++ {
				x, y := c.ScalarMult(s.x, s.y, []byte{byte(k)})
				want = append(want, (&spot{x, y}).point())
			}
			checkTable(t, newTable(t, id, s.point(), api.MaxTable), want)
		}
	}
}

// P16.1: the tiny curves, whole

// walk answers the multiples of the base point, by the model.
func (m model) walk() []*spot {
	all := []*spot{nil}
	for s := m.base(); s != nil; s = m.add(s, m.base()) {
		all = append(all, s)
	}
	return all
}

func TestTinyEveryPoint(t *testing.T) {
	eachCurve(t, func(t *testing.T, m model, _ *rand.Rand) {
		if !m.tiny() {
			return
		}
		all := m.walk()
		if big.NewInt(int64(len(all))).Cmp(m.n) != 0 {
			t.Fatalf("%d points", len(all))
		}
		for place, s := range all {
			var want []api.Point
			for size := 1; size <= api.MaxTable; size++ {
				want = append(want, all[place*(size-1)%len(all)].point())
				checkTable(t, newTable(t, m.id, s.point(), size), want)
			}
		}
	})
}

// TestTinyJustThePoints: of all pairs of bytes just the points are taken.
func TestTinyJustThePoints(t *testing.T) {
	eachCurve(t, func(t *testing.T, m model, _ *rand.Rand) {
		if !m.tiny() {
			return
		}
		taken := 0
		for a := range 256 {
			for b := range 256 {
				p := api.Point{X: small(a), Y: small(b)}
				if m.on(p) {
					x := newTable(t, m.id, p, 2)
					if got, errno := x.Pick(nil, 1); got != p || errno != api.OK {
						t.Fatalf("%v: %v, %d", p, got, errno)
					}
					taken++
				} else {
					checkNone(t, m.id, p, 2, api.ErrTablePoint)
				}
				if p.Inf = true; a+b > 0 {
					checkNone(t, m.id, p, 2, api.ErrTablePoint)
				}
			}
		}
		if big.NewInt(int64(taken+1)).Cmp(m.n) != 0 {
			t.Errorf("%d points", taken)
		}
	})
}

// P16.1: what is recorded

// held answers a recorder that holds events already, and these.
func held(t *testing.T) (*trace.Trace, []api.Event) {
	t.Helper()
	tr := trace.New()
	for _, errno := range []api.Errno{tr.Branch(true), tr.Index(7), tr.Branch(false), tr.Index(-3), tr.Index(math.MaxInt), tr.Index(0), tr.Index(1)} {
		if errno != api.OK {
			t.Fatalf("error %d", errno)
		}
	}
	return tr, []api.Event{
		{Kind: api.EventBranch, At: 1}, {Kind: api.EventIndex, At: 7}, {Kind: api.EventBranch}, {Kind: api.EventIndex, At: -3},
		{Kind: api.EventIndex, At: math.MaxInt}, {Kind: api.EventIndex}, {Kind: api.EventIndex, At: 1},
	}
}

// TestRecordedBehind: what a recorder holds stays, and what is recorded stands
// behind it.
func TestRecordedBehind(t *testing.T) {
	eachCurve(t, func(t *testing.T, m model, r *rand.Rand) {
		for _, s := range []*spot{m.base(), m.drawn(r), nil} {
			want := m.multiples(s, api.MaxTable)
			for size := 1; size <= api.MaxTable; size++ {
				x := newTable(t, m.id, s.point(), size)
				for i := range size {
					tr, events := held(t)
					got, errno := x.Pick(tr, i)
					if got != want[i] || errno != api.OK {
						t.Fatalf("place %d of %d: %v, %d", i, size, got, errno)
					}
					if all := tr.Events(); !slices.Equal(all, append(events, row(size)...)) {
						t.Fatalf("place %d of %d: %v", i, size, all)
					}
				}
			}
		}
	})
}

// TestRecordedRowByRow: one recorder for many picks, of one table and of others.
func TestRecordedRowByRow(t *testing.T) {
	r := rand.New(rand.NewSource(16))
	list := models()
	tr, events := held(t)
	for range 300 {
		m, size := list[r.Intn(15)], 1+r.Intn(api.MaxTable)
		x := newTable(t, m.id, m.drawn(r).point(), size)
		for range 1 + r.Intn(3) {
			if _, errno := x.Pick(tr, r.Intn(size)); errno != api.OK {
				t.Fatalf("error %d", errno)
			}
			events = append(events, row(size)...)
		}
		if _, errno := x.Pick(tr, size+r.Intn(3)); errno != api.ErrTableIndex {
			t.Fatalf("error %d", errno)
		}
		if tr.Len() != len(events) {
			t.Fatalf("%d events, not %d", tr.Len(), len(events))
		}
	}
	if !slices.Equal(tr.Events(), events) {
		t.Errorf("%v", tr.Events())
	}
}

// TestSameWhateverIsPicked (T4): the events of tables of one size are one row,
// whatever the place, the point and the curve are.
func TestSameWhateverIsPicked(t *testing.T) {
	r := rand.New(rand.NewSource(4))
	for size := 1; size <= api.MaxTable; size++ {
		var first []api.Event
		for _, m := range models() {
			for _, s := range []*spot{m.drawn(r), nil} {
				x := newTable(t, m.id, s.point(), size)
				for i := range size {
					tr := trace.New()
					x.Pick(tr, i)
					if first == nil {
						first = tr.Events()
					}
					if !trace.Same(first, tr.Events()) || tr.Len() != size {
						t.Fatalf("curve %d, place %d of %d: %v", m.id, i, size, tr.Events())
					}
				}
			}
		}
	}
}

// TestRecorderIsNotKept: a later Pick records to its own recorder alone.
func TestRecorderIsNotKept(t *testing.T) {
	m := models()[api.CurveP256-1]
	x := newTable(t, m.id, m.base().point(), 5)
	one, two := trace.New(), trace.New()
	x.Pick(one, 1)
	x.Pick(two, 2)
	x.Pick(nil, 3)
	x.Pick(two, 4)
	if !slices.Equal(one.Events(), row(5)) || !slices.Equal(two.Events(), append(row(5), row(5)...)) {
		t.Errorf("%v, %v", one.Events(), two.Events())
	}
}

// P16.1: ErrTableIndex

func TestNoSuchPlace(t *testing.T) {
	eachCurve(t, func(t *testing.T, m model, r *rand.Rand) {
		for _, s := range []*spot{m.drawn(r), nil} {
			want := m.multiples(s, api.MaxTable)
			for size := 1; size <= api.MaxTable; size++ {
				x := newTable(t, m.id, s.point(), size)
				for _, i := range outside(size) {
					checkNoPick(t, x, i, api.ErrTableIndex)
				}
				checkTable(t, x, want[:size])
			}
		}
	})
}

// TestJustThePlaces: of all numbers around the sizes just those from 0 to size -
// 1 are taken.
func TestJustThePlaces(t *testing.T) {
	m := models()[api.CurveTiny1-1]
	for size := 1; size <= api.MaxTable; size++ {
		x := newTable(t, m.id, m.base().point(), size)
		for i := -600; i <= 600; i++ {
			if i < 0 || i >= size {
				checkNoPick(t, x, i, api.ErrTableIndex)
			} else if _, errno := x.Pick(nil, i); errno != api.OK {
				t.Fatalf("place %d of %d: %d", i, size, errno)
			}
		}
	}
}

// checkNoPick: beside an error nothing is recorded, whether the recorder is new,
// holds events already or is none.
func checkNoPick(t *testing.T, x *Table, i int, want api.Errno) {
	t.Helper()
	full, events := held(t)
	empty := trace.New()
	for _, tr := range []*trace.Trace{empty, full, nil} {
		if got, errno := x.Pick(tr, i); got != (api.Point{}) || errno != want {
			t.Fatalf("place %d of %d: %v, %d", i, x.Size(), got, errno)
		}
	}
	if empty.Len() != 0 || !slices.Equal(full.Events(), events) {
		t.Fatalf("place %d of %d: %v, %v", i, x.Size(), empty.Events(), full.Events())
	}
}

// P16.1: the errors of New

func checkNone(t *testing.T, id int, p api.Point, size int, want api.Errno) {
	t.Helper()
	if x, errno := New(id, p, size); x != nil || errno != want {
		t.Fatalf("curve %d: New of %v, %d: %v, %d", id, p, size, x, errno)
	}
}

// TestNoCurve: whatever the point and the size are, the curve is told first.
func TestNoCurve(t *testing.T) {
	top := natOf(greatest())
	points := []api.Point{{}, infinity(), {X: small(1), Y: small(1)}, {X: top, Y: top, Inf: true}, {X: small(1), Inf: true}}
	for _, m := range models() {
		points = append(points, m.base().point())
	}
	for _, id := range strangers() {
		for _, p := range points {
			for _, size := range []int{1, 2, api.MaxTable, 0, api.MaxTable + 1, -1, math.MaxInt, math.MinInt} {
				checkNone(t, id, p, size, api.ErrTableCurve)
			}
		}
	}
}

func TestOnlyFifteenCurves(t *testing.T) {
	for id := -2000; id <= 2000; id++ {
		if 1 <= id && id <= 15 {
			checkTable(t, newTable(t, id, infinity(), 2), []api.Point{infinity(), infinity()})
			checkNone(t, id, api.Point{}, 2, api.ErrTablePoint)
		} else {
			checkNone(t, id, infinity(), 2, api.ErrTableCurve)
			checkNone(t, id, api.Point{}, 2, api.ErrTableCurve)
		}
	}
}

// TestNotOn: whatever the size is, the point is told ahead of it.
func TestNotOn(t *testing.T) {
	eachCurve(t, func(t *testing.T, m model, r *rand.Rand) {
		for _, p := range m.wrong(t, r) {
			for _, size := range []int{1, 2, api.MaxTable, 0, api.MaxTable + 1, -1, math.MaxInt, math.MinInt} {
				checkNone(t, m.id, p, size, api.ErrTablePoint)
			}
		}
	})
}

// TestNotOnByName: what P13.1's words rule out, one by one.
func TestNotOnByName(t *testing.T) {
	eachCurve(t, func(t *testing.T, m model, _ *rand.Rand) {
		g, p := m.base().point(), natOf(m.p)
		list := []api.Point{
			{}, {X: g.X, Y: natOf(more(m.y, 1))}, {X: natOf(more(m.x, 1)), Y: g.Y}, {X: g.Y, Y: g.X},
			{X: small(1), Inf: true}, {Y: small(1), Inf: true}, {X: g.X, Y: g.Y, Inf: true},
			{X: p, Y: g.Y}, {X: g.X, Y: p}, {X: natOf(new(big.Int).Add(m.x, m.p)), Y: g.Y}, {X: g.X, Y: natOf(new(big.Int).Add(m.y, m.p))},
		}
		for _, wrong := range slices.DeleteFunc(list, m.on) {
			for size := 0; size <= api.MaxTable+1; size++ {
				checkNone(t, m.id, wrong, size, api.ErrTablePoint)
			}
		}
	})
}

func TestNoSize(t *testing.T) {
	eachCurve(t, func(t *testing.T, m model, r *rand.Rand) {
		for _, s := range []*spot{m.base(), m.drawn(r), nil} {
			for _, size := range sizes() {
				checkNone(t, m.id, s.point(), size, api.ErrTableSize)
			}
		}
	})
}

// R1 and R3

func TestNil(t *testing.T) {
	var none *Table
	if none.Size() != 0 {
		t.Errorf("Size: %d", none.Size())
	}
	for _, i := range append(outside(api.MaxTable), 0, 1, 2, api.MaxTable-1) {
		checkNoPick(t, none, i, api.ErrNil)
	}
}

// TestNotMadeByNew: such a table has no place, so no number is one.
func TestNotMadeByNew(t *testing.T) {
	var plain Table
	for _, x := range []*Table{&plain, new(Table), {}} {
		if x.Size() != 0 {
			t.Errorf("Size: %d", x.Size())
		}
		for _, i := range append(outside(api.MaxTable), 0, 1, 2, api.MaxTable-1) {
			checkNoPick(t, x, i, api.ErrTableIndex)
		}
	}
}

// R4

// TestAnswersAreTheCallers: what is answered is changed, and so is what was
// handed in; the table stays as it is.
func TestAnswersAreTheCallers(t *testing.T) {
	eachCurve(t, func(t *testing.T, m model, r *rand.Rand) {
		s := m.drawn(r)
		p := s.point()
		x := newTable(t, m.id, p, api.MaxTable)
		spoil(&p)
		for i := range api.MaxTable {
			tr := trace.New()
			got, _ := x.Pick(tr, i)
			spoil(&got)
			for place, list := 0, tr.Events(); place < len(list); place++ {
				list[place] = api.Event{Kind: -1, At: -1}
			}
			if !slices.Equal(tr.Events(), row(api.MaxTable)) {
				t.Fatalf("%v", tr.Events())
			}
		}
		checkTable(t, x, m.multiples(s, api.MaxTable))
	})
}

func spoil(p *api.Point) {
	for i := range p.X.W {
		p.X.W[i] = ^p.X.W[i]
		p.Y.W[i] += 5
	}
	p.Inf = !p.Inf
}

// TestPointIsNotChanged: the point that is handed in is a value, and stays one.
func TestPointIsNotChanged(t *testing.T) {
	eachCurve(t, func(t *testing.T, m model, r *rand.Rand) {
		p := m.drawn(r).point()
		before := p
		newTable(t, m.id, p, api.MaxTable)
		if p != before {
			t.Errorf("%v, then %v", before, p)
		}
	})
}

// R5

// made is a table beside what it has to hold.
type made struct {
	x    *Table
	want []api.Point
}

func drawnTable(t *testing.T, r *rand.Rand) made {
	t.Helper()
	list := models()
	m, size := list[r.Intn(15)], 1+r.Intn(api.MaxTable)
	s := m.drawn(r)
	return made{newTable(t, m.id, s.point(), size), m.multiples(s, size)}
}

// TestTablesApart: many tables at one time, made, asked and refused in turns.
func TestTablesApart(t *testing.T) {
	r := rand.New(rand.NewSource(5))
	ids := strangers()
	var tables []made
	for range 60 {
		tables = append(tables, drawnTable(t, r))
		New(ids[r.Intn(len(ids))], infinity(), 3)
		New(1+r.Intn(15), api.Point{}, 3)
		New(1+r.Intn(15), infinity(), api.MaxTable+1)
		for range 5 {
			one := tables[r.Intn(len(tables))]
			one.x.Pick(nil, one.x.Size())
			one.x.Pick(trace.New(), -1)
			checkTable(t, one.x, one.want)
		}
	}
	for _, one := range tables {
		checkTable(t, one.x, one.want)
	}
}

// TestTwoOfTheSame: two tables of one point are alike, and not one.
func TestTwoOfTheSame(t *testing.T) {
	eachCurve(t, func(t *testing.T, m model, r *rand.Rand) {
		s := m.drawn(r)
		want := m.multiples(s, api.MaxTable)
		long, short := newTable(t, m.id, s.point(), api.MaxTable), newTable(t, m.id, s.point(), 3)
		other := newTable(t, m.id, m.neg(s).point(), api.MaxTable)
		again := newTable(t, m.id, s.point(), api.MaxTable)
		if long == again {
			t.Error("one table for two")
		}
		checkTable(t, other, m.multiples(m.neg(s), api.MaxTable))
		checkTable(t, long, want)
		checkTable(t, short, want[:3])
		checkTable(t, again, want)
		checkTable(t, long, want)
	})
}

func TestSeveralGoroutines(t *testing.T) {
	list := models()
	var group sync.WaitGroup
	for i := range 8 {
		group.Go(func() {
			r := rand.New(rand.NewSource(int64(i)))
			for turn := range 45 {
				m, size := list[(i+turn)%15], 1+(i+turn)%api.MaxTable
				s := m.drawn(r)
				x, errno := New(m.id, s.point(), size)
				if errno != api.OK {
					t.Errorf("curve %d: error %d", m.id, errno)
					return
				}
				for k, p := range m.multiples(s, size) {
					if got, errno := x.Pick(trace.New(), k); got != p || errno != api.OK {
						t.Errorf("curve %d: place %d of %d: %v, %d", m.id, k, size, got, errno)
					}
				}
			}
		})
	}
	group.Wait()
}

// Ways: all entries are masked and put together

// TestMasks: just the place that is asked for has a mask, and that one is all
// ones.
func TestMasks(t *testing.T) {
	for i := range api.MaxTable {
		wanted := only(i)
		for place := range api.MaxTable {
			want := uint64(0)
			if place == i {
				want = math.MaxUint64
			}
			if wanted(place) != want {
				t.Errorf("%d of %d: %x", place, i, wanted(place))
			}
		}
	}
}

// drawnEntries are entries of any words, more than any curve's point has.
func drawnEntries(r *rand.Rand, size int) []entry {
	list := make([]entry, size)
	for i := range list {
		for k := range list[i].x.W {
			list[i].x.W[k], list[i].y.W[k] = r.Uint64(), r.Uint64()
		}
		list[i].inf = uint64(r.Intn(2))
	}
	return list
}

// TestEveryBitOfAnEntry: nothing of the others is left in what is picked, and
// nothing of that one is missing.
func TestEveryBitOfAnEntry(t *testing.T) {
	r := rand.New(rand.NewSource(9))
	for range 200 {
		size := 1 + r.Intn(api.MaxTable)
		list := drawnEntries(r, size)
		x := &Table{entries: list}
		for i, e := range list {
			want := api.Point{X: e.x, Y: e.y, Inf: e.inf == 1}
			if got, errno := x.Pick(nil, i); got != want || errno != api.OK {
				t.Fatalf("place %d of %d: %v, not %v", i, size, got, want)
			}
		}
	}
}

// TestEveryEntryIsRead: with a mask of ones for every place the last entry is
// left, with none nothing is, and half of a mask takes half of each; each place
// is looked up once, in the row.
func TestEveryEntryIsRead(t *testing.T) {
	r := rand.New(rand.NewSource(10))
	list := drawnEntries(r, api.MaxTable)
	list[0].inf, list[api.MaxTable-1].inf = 1, 0
	x := &Table{entries: list}
	var looked, asked []int
	look := func(place int) api.Errno {
		looked = append(looked, place)
		return api.OK
	}
	each := func(mask func(place int) uint64) api.Point {
		looked, asked = nil, nil
		return x.gather(look, func(place int) uint64 {
			asked = append(asked, place)
			return mask(place)
		})
	}
	last := list[api.MaxTable-1]
	if got := each(func(int) uint64 { return math.MaxUint64 }); got != last.point() {
		t.Errorf("all: %v", got)
	}
	if got := each(func(int) uint64 { return 0 }); got != (api.Point{}) {
		t.Errorf("none: %v", got)
	}
	got := each(func(place int) uint64 { return uint64(0xf) << (4 * place) })
	for i, e := range list {
		if got.X.W[3]>>(4*i)&0xf != e.x.W[3]>>(4*i)&0xf || got.Y.W[8]>>(4*i)&0xf != e.y.W[8]>>(4*i)&0xf {
			t.Errorf("part %d: %v", i, got)
		}
	}
	var places []int
	for place := range api.MaxTable {
		places = append(places, place)
	}
	if !slices.Equal(looked, places) || !slices.Equal(asked, places) {
		t.Errorf("%v, %v", looked, asked)
	}
}
