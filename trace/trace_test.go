package trace

import (
	"math"
	"math/rand"
	"testing"

	"curvet/api"
)

func taken() api.Event    { return api.Event{Kind: 1, At: 1} }
func notTaken() api.Event { return api.Event{Kind: 1, At: 0} }

func at(i int) api.Event { return api.Event{Kind: 2, At: i} }

// holds checks a trace against the events it must hold, one by one and not by
// Same, which is under test itself.
func holds(t *testing.T, tr *Trace, want []api.Event) {
	t.Helper()
	if got := tr.Len(); got != len(want) {
		t.Errorf("Len() = %d, want %d", got, len(want))
	}
	listed(t, tr.Events(), want)
}

func listed(t *testing.T, got []api.Event, want []api.Event) {
	t.Helper()
	if len(got) != len(want) {
		t.Fatalf("%d events, want %d", len(got), len(want))
	}
	for i := range want {
		if got[i] != want[i] {
			t.Fatalf("event %d is %v, want %v", i, got[i], want[i])
		}
	}
}

func recorded(t *testing.T, errno api.Errno) {
	t.Helper()
	if errno != api.OK {
		t.Errorf("recording answered %d", errno)
	}
}

// P3.1

func TestNewHoldsNothing(t *testing.T) {
	tr := New()
	if tr == nil {
		t.Fatal("New() is nil")
	}
	holds(t, tr, nil)
	holds(t, tr, nil)
}

func TestBranch(t *testing.T) {
	for _, c := range []struct {
		taken bool
		want  api.Event
	}{{true, taken()}, {false, notTaken()}} {
		tr := New()
		recorded(t, tr.Branch(c.taken))
		holds(t, tr, []api.Event{c.want})
	}
}

func TestIndex(t *testing.T) {
	for _, i := range []int{
		0, 1, 2, 15, 16, 255, 256, -1, -2, -7, -256,
		math.MaxInt32, math.MaxInt32 + 1, math.MinInt32, math.MinInt32 - 1,
		math.MaxUint32, math.MaxUint32 + 1, 1 << 53, 1<<53 + 1,
		math.MaxInt - 1, math.MaxInt, math.MinInt + 1, math.MinInt,
	} {
		tr := New()
		recorded(t, tr.Index(i))
		holds(t, tr, []api.Event{at(i)})
	}
}

// A branch that was taken and an index of 1 have one number and two kinds.
func TestKindsStayApart(t *testing.T) {
	tr := New()
	recorded(t, tr.Branch(true))
	recorded(t, tr.Index(1))
	recorded(t, tr.Branch(false))
	recorded(t, tr.Index(0))
	holds(t, tr, []api.Event{taken(), at(1), notTaken(), at(0)})
}

// The same event over and over is as many events.
func TestRepeatedEvents(t *testing.T) {
	tr := New()
	var want []api.Event
	for range 5 {
		recorded(t, tr.Index(3))
		want = append(want, at(3))
	}
	for range 5 {
		recorded(t, tr.Branch(false))
		want = append(want, notTaken())
	}
	holds(t, tr, want)
}

func TestManyEventsKeepTheirRow(t *testing.T) {
	r := rand.New(rand.NewSource(1))
	tr := New()
	var want []api.Event
	for n := range 200_000 {
		if tr.Len() != n {
			t.Fatalf("Len() = %d behind %d events", tr.Len(), n)
		}
		switch r.Intn(3) {
		case 0:
			recorded(t, tr.Branch(true))
			want = append(want, taken())
		case 1:
			recorded(t, tr.Branch(false))
			want = append(want, notTaken())
		default:
			i := int(r.Uint64())
			recorded(t, tr.Index(i))
			want = append(want, at(i))
		}
	}
	holds(t, tr, want)
	if !Same(tr.Events(), want) {
		t.Error("Same of many events")
	}
}

// Every length up to some hundreds, so that no growth of the list loses one.
func TestEachLength(t *testing.T) {
	tr := New()
	var want []api.Event
	for i := range 300 {
		holds(t, tr, want)
		recorded(t, tr.Index(i))
		want = append(want, at(i))
	}
}

func TestTracesAreApart(t *testing.T) {
	first, second := New(), New()
	recorded(t, first.Index(1))
	recorded(t, second.Branch(true))
	recorded(t, first.Index(2))
	recorded(t, second.Branch(false))
	recorded(t, second.Index(9))
	holds(t, first, []api.Event{at(1), at(2)})
	holds(t, second, []api.Event{taken(), notTaken(), at(9)})
	holds(t, New(), nil)
}

// As the layers that work on secrets hand a recorder on.
func TestRecordersAsMethodValues(t *testing.T) {
	tr := New()
	look, choose := tr.Index, tr.Branch
	recorded(t, look(4))
	recorded(t, choose(true))
	recorded(t, look(5))
	holds(t, tr, []api.Event{at(4), taken(), at(5)})
}

// R3

func TestNilTrace(t *testing.T) {
	var none *Trace
	for _, c := range []bool{true, false} {
		if got := none.Branch(c); got != api.ErrNil {
			t.Errorf("Branch(%v) = %d", c, got)
		}
	}
	for _, i := range []int{0, 1, -1, math.MaxInt, math.MinInt} {
		if got := none.Index(i); got != api.ErrNil {
			t.Errorf("Index(%d) = %d", i, got)
		}
	}
	holds(t, none, nil)
}

func TestNilTraceAsMethodValues(t *testing.T) {
	var none *Trace
	look, choose := none.Index, none.Branch
	if look(1) != api.ErrNil || choose(true) != api.ErrNil {
		t.Error("a method value of nil answers ErrNil")
	}
	events, length := none.Events, none.Len
	if len(events()) != 0 || length() != 0 {
		t.Error("a method value of nil answers zero values")
	}
}

// R4

func three(t *testing.T) (*Trace, []api.Event) {
	t.Helper()
	tr := New()
	recorded(t, tr.Branch(true))
	recorded(t, tr.Index(-7))
	recorded(t, tr.Branch(false))
	return tr, []api.Event{taken(), at(-7), notTaken()}
}

func TestHolderChangesEvents(t *testing.T) {
	tr, want := three(t)
	first, second := tr.Events(), tr.Events()
	for i := range first {
		first[i] = at(99)
	}
	listed(t, second, want)
	holds(t, tr, want)
}

// What lies behind the end of a list that was handed out is its holder's too.
func TestHolderFillsSpareRoom(t *testing.T) {
	tr := New()
	var want []api.Event
	for i := range 100 {
		recorded(t, tr.Index(i))
		want = append(want, at(i))
		first, second := tr.Events(), tr.Events()
		fill(first)
		recorded(t, tr.Branch(true))
		want = append(want, taken())
		fill(second)
		holds(t, tr, want)
	}
}

func fill(list []api.Event) {
	whole := list[:cap(list)]
	for i := range whole {
		whole[i] = api.Event{Kind: 77, At: 77}
	}
}

func TestEventsStayAsTheyWereHandedOut(t *testing.T) {
	tr := New()
	var want []api.Event
	var lists [][]api.Event
	for i := range 70 {
		lists = append(lists, tr.Events())
		recorded(t, tr.Index(i))
		want = append(want, at(i))
	}
	for n, list := range lists {
		listed(t, list, want[:n])
	}
}

func TestAskingChangesNothing(t *testing.T) {
	tr, want := three(t)
	for range 3 {
		holds(t, tr, want)
	}
	recorded(t, tr.Index(8))
	holds(t, tr, append(want, at(8)))
}

// P3.1: Same

// check asks both ways round, of copies, so that no answer leans on where a
// list lies, and of each with itself.
func check(t *testing.T, a []api.Event, b []api.Event, want bool) {
	t.Helper()
	if Same(a, b) != want || Same(b, a) != want {
		t.Errorf("Same of %v and %v is not %v", a, b, want)
	}
	for _, list := range [][]api.Event{a, b} {
		if !Same(list, list) || !Same(list, append([]api.Event(nil), list...)) {
			t.Errorf("%v is not the same as itself", list)
		}
	}
}

func TestSameOfEmptyOnes(t *testing.T) {
	check(t, nil, nil, true)
	check(t, nil, []api.Event{}, true)
	check(t, []api.Event{}, []api.Event{}, true)
	check(t, New().Events(), nil, true)
	check(t, make([]api.Event, 0, 8), nil, true)
	check(t, nil, []api.Event{{}}, false)
	check(t, []api.Event{}, []api.Event{taken()}, false)
}

func TestSameOfOneEvent(t *testing.T) {
	events := []api.Event{
		{}, taken(), notTaken(), at(0), at(1), at(-1), at(2), at(1 << 32), at(1<<32 + 1),
		at(math.MaxInt), at(math.MinInt), at(math.MaxInt - 1), at(math.MinInt + 1),
		{Kind: 3}, {Kind: -1}, {Kind: 1 << 32, At: 1}, {Kind: 1<<32 + 1, At: 1},
		{Kind: math.MaxInt, At: 1}, {Kind: math.MinInt, At: 1}, {Kind: 1, At: 2},
	}
	for i, a := range events {
		for j, b := range events {
			check(t, []api.Event{a}, []api.Event{b}, i == j)
		}
	}
}

func TestSameTellsEachPlace(t *testing.T) {
	var row []api.Event
	for i := range 40 {
		row = append(row, at(i))
	}
	for i := range row {
		kind := append([]api.Event(nil), row...)
		kind[i].Kind = api.EventBranch
		check(t, row, kind, false)
		number := append([]api.Event(nil), row...)
		number[i].At = ^i
		check(t, row, number, false)
		check(t, row, row[:i], false)
	}
}

func TestSameTellsTheOrder(t *testing.T) {
	check(t, []api.Event{at(1), at(2)}, []api.Event{at(2), at(1)}, false)
	check(t, []api.Event{taken(), at(1)}, []api.Event{at(1), taken()}, false)
	check(t, []api.Event{taken(), notTaken(), at(3)}, []api.Event{taken(), at(3), notTaken()}, false)
	// the same numbers of two events, each beside the other's kind
	check(t, []api.Event{{Kind: 1, At: 2}}, []api.Event{{Kind: 2, At: 1}}, false)
}

// Two differences must not make up for one another.
func TestSameTellsPairs(t *testing.T) {
	check(t, []api.Event{at(1), at(1)}, []api.Event{at(0), at(2)}, false)
	check(t, []api.Event{at(1), at(1)}, []api.Event{at(2), at(2)}, false)
	check(t, []api.Event{taken(), at(1)}, []api.Event{at(1), at(1)}, false)
	check(t, []api.Event{taken(), at(1)}, []api.Event{notTaken(), at(0)}, false)
}

func TestSameTellsTheLength(t *testing.T) {
	row := []api.Event{taken(), at(4), {}}
	check(t, row, row[:2], false)
	check(t, row, append(row[:3:3], api.Event{}), false)
	check(t, row, append(row[:3:3], row...), false)
	// what is left out in front, not behind
	check(t, row, row[1:], false)
}

// What lies behind a list's end is not part of it.
func TestSameLeavesOutSpareRoom(t *testing.T) {
	a := []api.Event{taken(), at(1), at(2)}
	b := []api.Event{taken(), at(1), at(3), at(4)}
	check(t, a[:2], b[:2], true)
	check(t, a[:0], b[:0], true)
	check(t, a, b[:3], false)
}

func TestSameChangesNothing(t *testing.T) {
	a := []api.Event{taken(), at(1), at(2)}
	b := []api.Event{taken(), at(2), at(1)}
	Same(a[:2], b[:2])
	Same(a, b)
	listed(t, a, []api.Event{taken(), at(1), at(2)})
	listed(t, b, []api.Event{taken(), at(2), at(1)})
}

func TestSameOfTraces(t *testing.T) {
	first, want := three(t)
	second, _ := three(t)
	check(t, first.Events(), second.Events(), true)
	check(t, first.Events(), want, true)
	recorded(t, second.Branch(false))
	check(t, first.Events(), second.Events(), false)
	recorded(t, first.Index(0))
	check(t, first.Events(), second.Events(), false)
}
