package window

import (
	"math/big"
	"math/rand"
	"slices"
	"strings"
	"sync"
	"testing"

	"curvet/api"
)

// mustDigits answers what a Digits answers that has to succeed.
func mustDigits(t *testing.T, k api.Nat, bits int, width int) []int {
	t.Helper()
	ds, errno := Digits(k, bits, width)
	if errno != api.OK {
		t.Fatalf("Digits(%x, %d, %d): %d", k.W, bits, width, errno)
	}
	return ds
}

// checkDigits holds the digits of k against math/big's, asks each what the
// chapter asks of it, and puts them together again.
func checkDigits(t *testing.T, k *big.Int, bits int, width int) {
	t.Helper()
	ds := mustDigits(t, natOf(k), bits, width)
	count := rounded(bits, width)
	if len(ds) != count {
		t.Fatalf("Digits(%x, %d, %d): %d digits, not %d", k, bits, width, len(ds), count)
	}
	for _, d := range ds {
		if d < 0 || d > 1<<width-1 {
			t.Fatalf("Digits(%x, %d, %d): the digit %d", k, bits, width, d)
		}
	}
	if sumBig(ds, width).Cmp(k) != 0 || !slices.Equal(ds, cutBig(k, count, width)) {
		t.Fatalf("Digits(%x, %d, %d): %v", k, bits, width, ds)
	}
	checkValue(t, ds, width, k)
}

func checkValue(t *testing.T, ds []int, width int, want *big.Int) {
	t.Helper()
	if got, errno := Value(ds, width); got != natOf(want) || errno != api.OK {
		t.Fatalf("Value of %d digits, %d: %x, %d, not %x", len(ds), width, got.W, errno, want)
	}
}

// refuseDigits: beside the error there is nothing.
func refuseDigits(t *testing.T, k api.Nat, bits int, width int) {
	t.Helper()
	if ds, errno := Digits(k, bits, width); ds != nil || errno != api.ErrWindowForm {
		t.Fatalf("Digits(%x, %d, %d): %v, %d", k.W, bits, width, ds, errno)
	}
}

func refuseValue(t *testing.T, ds []int, width int) {
	t.Helper()
	if got, errno := Value(ds, width); got != (api.Nat{}) || errno != api.ErrWindowForm {
		t.Fatalf("Value of %d digits, %d: %x, %d", len(ds), width, got.W, errno)
	}
}

// P17.1: Digits, and Value of them

func TestLimits(t *testing.T) {
	if api.MaxWindow != 6 || api.Words != 9 || api.ErrWindowForm != 1700 {
		t.Fatalf("%d, %d, %d", api.MaxWindow, api.Words, api.ErrWindowForm)
	}
}

func TestEachNumberOfBits(t *testing.T) {
	eachWidth(t, func(t *testing.T, width int, r *rand.Rand) {
		for bits := 1; bits <= 576; bits++ {
			for _, k := range []*big.Int{
				new(big.Int), one(), below(bits), power(bits - 1), below(bits - 1),
				drawnTop(r, bits), drawn(r, bits), drawn(r, 1+r.Intn(bits)),
			} {
				checkDigits(t, k, bits, width)
			}
		}
	})
}

// TestEachNumberThatIsSmall: all numbers of up to ten bits.
func TestEachNumberThatIsSmall(t *testing.T) {
	eachWidth(t, func(t *testing.T, width int, r *rand.Rand) {
		for bits := 1; bits <= 10; bits++ {
			for k := range int64(1) << bits {
				checkDigits(t, big.NewInt(k), bits, width)
			}
		}
	})
}

// TestWritten: rows that can be read off the number as it is written.
func TestWritten(t *testing.T) {
	for _, c := range []struct {
		k           uint64
		bits, width int
		want        []int
	}{
		{0, 1, 1, []int{0}},
		{1, 1, 6, []int{1}},
		{0b1011, 4, 1, []int{1, 0, 1, 1}},
		{0b1011, 5, 1, []int{0, 1, 0, 1, 1}},
		{0b10_01_11, 6, 2, []int{2, 1, 3}},
		{0b1_10_01, 5, 2, []int{1, 2, 1}},
		{0o7654321, 21, 3, []int{7, 6, 5, 4, 3, 2, 1}},
		{0o1234567, 22, 3, []int{0, 1, 2, 3, 4, 5, 6, 7}},
		{0xdeadbeef, 32, 4, []int{13, 14, 10, 13, 11, 14, 14, 15}},
		{0xdeadbeef, 33, 4, []int{0, 13, 14, 10, 13, 11, 14, 14, 15}},
		{0x1234, 13, 4, []int{1, 2, 3, 4}},
		{0x1234, 16, 4, []int{1, 2, 3, 4}},
		{0x1234, 17, 4, []int{0, 1, 2, 3, 4}},
		{0b1_00010_11111, 11, 5, []int{1, 2, 31}},
		{0b1_000010_111111, 13, 6, []int{1, 2, 63}},
	} {
		k := api.Nat{W: [9]uint64{c.k}}
		if ds, errno := Digits(k, c.bits, c.width); !slices.Equal(ds, c.want) || errno != api.OK {
			t.Errorf("Digits(%x, %d, %d): %v, %d", c.k, c.bits, c.width, ds, errno)
		}
		if got, errno := Value(c.want, c.width); got != k || errno != api.OK {
			t.Errorf("Value(%v, %d): %x, %d", c.want, c.width, got.W, errno)
		}
	}
}

// TestAgainstTexts: the digits of 1, 3, 4 and 5 bits are those of math/big's
// texts.
func TestAgainstTexts(t *testing.T) {
	const figures = "0123456789abcdefghijklmnopqrstuv"
	r := rand.New(rand.NewSource(1))
	for range 200 {
		bits := 1 + r.Intn(576)
		k := drawnTop(r, bits)
		for _, width := range []int{1, 3, 4, 5} {
			text := k.Text(1 << width)
			ds := mustDigits(t, natOf(k), bits, width)
			if len(ds) != len(text) {
				t.Fatalf("%x, %d: %d digits of %q", k, width, len(ds), text)
			}
			for i, d := range ds {
				if d != strings.IndexByte(figures, text[i]) {
					t.Fatalf("%x, %d: %v of %q", k, width, ds, text)
				}
			}
		}
	}
}

// TestUneven: where width does not go into bits, the highest digit has fewer
// bits, and the others have all of theirs.
func TestUneven(t *testing.T) {
	for width := 2; width <= api.MaxWindow; width++ {
		for bits := 1; bits <= 576; bits++ {
			over := bits % width
			if over == 0 {
				continue
			}
			ds := mustDigits(t, natOf(below(bits)), bits, width)
			if len(ds) != bits/width+1 || ds[0] != 1<<over-1 {
				t.Fatalf("width %d of %d bits: %v", width, bits, ds)
			}
			for _, d := range ds[1:] {
				if d != 1<<width-1 {
					t.Fatalf("width %d of %d bits: %v", width, bits, ds)
				}
			}
		}
	}
}

// TestAcrossWords: each digit that begins in one word and ends in the next has
// each of its values.
func TestAcrossWords(t *testing.T) {
	found := 0
	for width := 2; width <= api.MaxWindow; width++ {
		for low := 0; low+width <= 576; low += width {
			if low/64 == (low+width-1)/64 {
				continue
			}
			found++
			for d := range 1 << width {
				part := new(big.Int).Lsh(big.NewInt(int64(d)), uint(low))
				checkDigits(t, part, 576, width)
				ds := mustDigits(t, natOf(part), 576, width)
				if ds[len(ds)-1-low/width] != d {
					t.Fatalf("width %d, bit %d: %d in %v", width, low, d, ds)
				}
				// ones all around show a bit that is lost, noughts one too many
				hole := new(big.Int).Lsh(below(width), uint(low))
				checkDigits(t, new(big.Int).Or(new(big.Int).AndNot(below(576), hole), part), 576, width)
			}
		}
	}
	if found < 8*2 {
		t.Errorf("%d digits lie across two words", found)
	}
}

// TestEachBit: a bit alone is in one digit alone.
func TestEachBit(t *testing.T) {
	for width := 1; width <= api.MaxWindow; width++ {
		for i := range 576 {
			want := noughts(rounded(576, width))
			want[len(want)-1-i/width] = 1 << (i % width)
			if ds := mustDigits(t, natOf(power(i)), 576, width); !slices.Equal(ds, want) {
				t.Fatalf("2^%d, %d: %v", i, width, ds)
			}
			checkValue(t, want, width, power(i))
		}
	}
}

// TestCountHangsOnBits: a number of few bits has as many digits as one of all.
func TestCountHangsOnBits(t *testing.T) {
	for width := 1; width <= api.MaxWindow; width++ {
		for bits := 1; bits <= 576; bits++ {
			for _, k := range []*big.Int{new(big.Int), one(), below(bits)} {
				if ds := mustDigits(t, natOf(k), bits, width); len(ds) != rounded(bits, width) {
					t.Fatalf("%x, %d, %d: %d digits", k, bits, width, len(ds))
				}
			}
		}
	}
}

// P17.1: Value of other rows

func TestNoDigit(t *testing.T) {
	for width := 1; width <= api.MaxWindow; width++ {
		checkValue(t, nil, width, new(big.Int))
		checkValue(t, []int{}, width, new(big.Int))
		checkValue(t, []int{1, 2, 3}[:0], width, new(big.Int))
	}
}

func TestOneDigit(t *testing.T) {
	for width := 1; width <= api.MaxWindow; width++ {
		for d := range 1 << width {
			checkValue(t, []int{d}, width, big.NewInt(int64(d)))
		}
	}
}

func TestDrawnRows(t *testing.T) {
	eachWidth(t, func(t *testing.T, width int, r *rand.Rand) {
		for range 2000 {
			ds := noughts(r.Intn(576/width + 1))
			for i := range ds {
				ds[i] = r.Intn(1 << width)
			}
			checkValue(t, ds, width, sumBig(ds, width))
		}
	})
}

func TestNoughtsInFront(t *testing.T) {
	eachWidth(t, func(t *testing.T, width int, r *rand.Rand) {
		for _, count := range []int{1, 2, 3, 63, 64, 65, 200, 576, 577, 5000} {
			for _, k := range []*big.Int{new(big.Int), one(), below(576), power(575), drawn(r, 300), drawnTop(r, 576)} {
				checkValue(t, joined(noughts(count), whole(k, width)), width, k)
			}
			for _, k := range []*big.Int{power(576), below(577), drawnTop(r, 577), drawnTop(r, 640)} {
				refuseValue(t, joined(noughts(count), whole(k, width)), width)
			}
		}
	})
}

// TestNoughtsBehind: each is a shift, until the sum does not fit.
func TestNoughtsBehind(t *testing.T) {
	for width := 1; width <= api.MaxWindow; width++ {
		for d := 1; d < 1<<width; d++ {
			for count := range 600 {
				ds := joined([]int{d}, noughts(count))
				sum := sumBig([]int{d}, width)
				sum.Lsh(sum, uint(count*width))
				if sum.BitLen() <= 576 {
					checkValue(t, ds, width, sum)
				} else {
					refuseValue(t, ds, width)
				}
			}
		}
	}
}

// TestAtTheLimit: sums of 576 bits, and of one more or some more.
func TestAtTheLimit(t *testing.T) {
	eachWidth(t, func(t *testing.T, width int, r *rand.Rand) {
		for range 20 {
			for _, k := range []*big.Int{below(576), power(575), drawnTop(r, 576), new(big.Int).Sub(below(576), drawn(r, 64))} {
				checkValue(t, whole(k, width), width, k)
			}
			for more := 577; more <= 720; more++ {
				refuseValue(t, whole(drawnTop(r, more), width), width)
			}
			// what lies below 2^576 is a number like others
			for _, low := range []*big.Int{new(big.Int), one(), below(576), drawn(r, 576), drawn(r, 64)} {
				for _, bit := range []int{576, 577, 581, 582, 583, 640, 1000, 1152, 10000} {
					refuseValue(t, whole(new(big.Int).Add(power(bit), low), width), width)
				}
			}
		}
	})
}

// TestLongRows: a row takes a time that grows as it does.
func TestLongRows(t *testing.T) {
	eachWidth(t, func(t *testing.T, width int, r *rand.Rand) {
		const long = 1 << 20
		k := drawnTop(r, 576)
		ds := joined(noughts(long), whole(k, width))
		checkValue(t, ds, width, k)
		checkValue(t, ds[:long], width, new(big.Int))
		refuseValue(t, joined(ds, []int{0}), width)
		refuseValue(t, joined(ds, []int{-1}), width)
		refuseValue(t, joined(noughts(long), []int{1 << width}), width)
		refuseValue(t, joined([]int{1}, noughts(long)), width)
		refuseValue(t, slices.Repeat([]int{1<<width - 1}, long), width)
	})
}

// P17.1: wrong inputs

func TestWrongWidth(t *testing.T) {
	for _, width := range widths() {
		for _, bits := range []int{1, 8, 64, 576} {
			for _, k := range []api.Nat{{}, natOf(one()), natOf(below(bits))} {
				refuseDigits(t, k, bits, width)
			}
		}
		for _, ds := range [][]int{nil, {}, {0}, {1}, {0, 1}, noughts(600), {-1}, {1 << 6}} {
			refuseValue(t, ds, width)
		}
	}
}

func TestWrongBits(t *testing.T) {
	for _, bits := range lengths() {
		for width := 1; width <= api.MaxWindow; width++ {
			for _, k := range []api.Nat{{}, natOf(one()), natOf(below(64)), natOf(power(575)), filled(ones)} {
				refuseDigits(t, k, bits, width)
			}
		}
		for _, width := range widths() {
			refuseDigits(t, api.Nat{}, bits, width)
		}
	}
}

// TestTooManyBits: by a single bit, and by all there are.
func TestTooManyBits(t *testing.T) {
	eachWidth(t, func(t *testing.T, width int, r *rand.Rand) {
		for bits := 1; bits < 576; bits++ {
			for _, k := range []*big.Int{
				power(bits), below(bits + 1), drawnTop(r, bits+1), power(575), below(576),
				drawnTop(r, bits+1+r.Intn(576-bits)), new(big.Int).Add(power(575), one()),
			} {
				refuseDigits(t, natOf(k), bits, width)
			}
			checkDigits(t, power(bits), bits+1, width)
		}
	})
}

// TestSpareRoomOfTheHighestDigit: what the digits could hold is not what bits
// allows.
func TestSpareRoomOfTheHighestDigit(t *testing.T) {
	for width := 2; width <= api.MaxWindow; width++ {
		for bits := 1; bits < 576; bits++ {
			for i := bits; i < rounded(bits, width)*width && i < 576; i++ {
				refuseDigits(t, natOf(power(i)), bits, width)
			}
		}
	}
}

func TestWrongDigit(t *testing.T) {
	eachWidth(t, func(t *testing.T, width int, r *rand.Rand) {
		for _, d := range strangers(width) {
			if 0 <= d && d < 1<<width {
				continue
			}
			for _, count := range []int{1, 2, 3, 10, 96, 200} {
				for i := range count {
					ds := noughts(count)
					ds[i] = d
					refuseValue(t, ds, width)
				}
			}
			full := whole(drawnTop(r, 576), width)
			for i := range full {
				ds := slices.Clone(full)
				ds[i] = d
				refuseValue(t, ds, width)
			}
			refuseValue(t, joined(full, []int{0, d}), width)
		}
	})
}

// TestSumOfWrongDigits: that the sum would be a number makes no digit of what is
// none.
func TestSumOfWrongDigits(t *testing.T) {
	for width := 1; width <= api.MaxWindow; width++ {
		top := 1 << width
		for _, ds := range [][]int{
			{1, -1}, {1, -top}, {1, 1 - top}, {0, top}, {top, 0}, {0, top + 1}, {-1, top}, {top, -top * top}, {1, 0, -1}, {0, 0, 1, -top + 1},
		} {
			refuseValue(t, ds, width)
		}
	}
}

// TestDigitOfAnotherWidth: the greatest digit of a width is none of the width
// below.
func TestDigitOfAnotherWidth(t *testing.T) {
	for width := 1; width <= api.MaxWindow; width++ {
		for d := range 70 {
			if d < 1<<width {
				checkValue(t, []int{0, d}, width, big.NewInt(int64(d)))
			} else {
				refuseValue(t, []int{0, d}, width)
			}
		}
	}
}

// R4 and R5

func TestRowIsLeftAsItWas(t *testing.T) {
	eachWidth(t, func(t *testing.T, width int, r *rand.Rand) {
		full := whole(drawnTop(r, 576), width)
		for _, row := range [][]int{
			nil, {0}, {1}, full, joined(noughts(9), full), joined(full, []int{0}), {-1}, {1, 1 << width}, joined(full, []int{-1}),
		} {
			back := joined([]int{-7, -8}, row, []int{-9, 7, 1 << width})
			was := slices.Clone(back)
			ds := back[2 : 2+len(row)]
			first, errno := Value(ds, width)
			if !slices.Equal(back, was) {
				t.Fatalf("Value changed %v to %v", was, back)
			}
			Value(ds, 0)
			Value(ds, 7)
			if !slices.Equal(back, was) {
				t.Fatalf("a refused Value changed %v to %v", was, back)
			}
			if again, other := Value(row, width); again != first || other != errno {
				t.Fatalf("Value of %v with spare room: %x, %d, without: %x, %d", row, first.W, errno, again.W, other)
			}
		}
	})
}

// TestAnswersAreNew: also what lies behind a row's length up to its capacity.
func TestAnswersAreNew(t *testing.T) {
	eachWidth(t, func(t *testing.T, width int, r *rand.Rand) {
		for bits := 1; bits <= 576; bits++ {
			k := drawnTop(r, bits)
			want := cutBig(k, rounded(bits, width), width)
			first, second := mustDigits(t, natOf(k), bits, width), mustDigits(t, natOf(k), bits, width)
			for i := range first[:cap(first)] {
				first[:cap(first)][i] = -7
			}
			if !slices.Equal(second, want) {
				t.Fatalf("%x, %d, %d: two answers share memory", k, bits, width)
			}
			if third := mustDigits(t, natOf(k), bits, width); !slices.Equal(third, want) {
				t.Fatalf("%x, %d, %d: a change of an answer is seen in a later one", k, bits, width)
			}
		}
	})
}

// TestRowIsNotKept: a row may be changed behind a call.
func TestRowIsNotKept(t *testing.T) {
	for width := 1; width <= api.MaxWindow; width++ {
		ds := []int{1, 0, 1}
		checkValue(t, ds, width, sumBig(ds, width))
		ds[2] = 0
		checkValue(t, ds, width, sumBig(ds, width))
		ds[0] = -1
		refuseValue(t, ds, width)
		ds[0] = 0
		checkValue(t, ds, width, new(big.Int))
	}
}

// TestCallsLeaveNothingBehind: whatever was called between two calls, also what
// was refused.
func TestCallsLeaveNothingBehind(t *testing.T) {
	r := rand.New(rand.NewSource(1))
	k := drawnTop(r, 521)
	ds := cutBig(k, rounded(521, api.WindowWidth), api.WindowWidth)
	between := []func(){
		func() {},
		func() { Digits(natOf(k), 521, 5) },
		func() { Digits(natOf(k), 576, 4) },
		func() { Digits(filled(ones), 576, 1) },
		func() { Digits(filled(ones), 521, 4) },
		func() { Digits(api.Nat{}, 0, 4) },
		func() { Digits(api.Nat{}, 8, 0) },
		func() { Value(nil, 4) },
		func() { Value(noughts(1000), 6) },
		func() { Value([]int{1, 2, -1}, 4) },
		func() { Value(joined(ds, ds), 4) },
		func() { Value(ds, 7) },
	}
	for i, call := range between {
		for j, other := range between {
			call()
			other()
			if got := mustDigits(t, natOf(k), 521, 4); !slices.Equal(got, ds) {
				t.Fatalf("Digits behind %d and %d: %v", i, j, got)
			}
			call()
			other()
			checkValue(t, ds, 4, k)
			refuseDigits(t, natOf(k), 520, 4)
			refuseValue(t, joined(ds, noughts(14)), 4)
		}
	}
}

// TestAtOneTime: plain functions may be called from several goroutines.
func TestAtOneTime(t *testing.T) {
	var group sync.WaitGroup
	for n := range 8 {
		group.Go(func() {
			r := rand.New(rand.NewSource(int64(n)))
			for range 2000 {
				bits, width := 1+r.Intn(576), 1+r.Intn(6)
				k := drawnTop(r, bits)
				ds, errno := Digits(natOf(k), bits, width)
				if errno != api.OK || !slices.Equal(ds, whole(k, width)) {
					t.Errorf("Digits(%x, %d, %d): %v, %d", k, bits, width, ds, errno)
				}
				if got, errno := Value(ds, width); got != natOf(k) || errno != api.OK {
					t.Errorf("Value(%v, %d): %x, %d", ds, width, got.W, errno)
				}
			}
		})
	}
	group.Wait()
}
