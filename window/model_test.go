package window

import (
	"math"
	"math/big"
	"math/rand"
	"slices"
	"strconv"
	"testing"

	"curvet/api"
)

const ones = uint64(math.MaxUint64)

func one() *big.Int {
	return big.NewInt(1)
}

// power is 2^k.
func power(k int) *big.Int {
	return new(big.Int).Lsh(one(), uint(k))
}

// below is 2^k - 1, the greatest number of k bits.
func below(k int) *big.Int {
	return new(big.Int).Sub(power(k), one())
}

// natOf answers x, which has to have 576 bits at most, in words.
func natOf(x *big.Int) api.Nat {
	if x.Sign() < 0 || x.BitLen() > 576 {
		panic("no number of 576 bits: " + x.String())
	}
	rest, word := new(big.Int).Set(x), new(big.Int).SetUint64(ones)
	var a api.Nat
	for i := range a.W {
		a.W[i] = new(big.Int).And(rest, word).Uint64()
		rest.Rsh(rest, 64)
	}
	return a
}

// filled has w in each of its words.
func filled(w uint64) api.Nat {
	var a api.Nat
	for i := range a.W {
		a.W[i] = w
	}
	return a
}

// rounded is how often width goes into bits, rounded up.
func rounded(bits int, width int) int {
	count := 0
	for count*width < bits {
		count++
	}
	return count
}

// cutBig are the lowest count digits of x, the highest first, by quotients and
// rests of math/big, which shares no code with the program.
func cutBig(x *big.Int, count int, width int) []int {
	var list []int
	rest, digit := new(big.Int).Set(x), new(big.Int)
	for range count {
		rest.QuoRem(rest, power(width), digit)
		list = append(list, int(digit.Int64()))
	}
	slices.Reverse(list)
	return list
}

// whole are the digits of x, as few as it has.
func whole(x *big.Int, width int) []int {
	return cutBig(x, rounded(x.BitLen(), width), width)
}

// sumBig is the sum of the i-th from the end times 2^(width i).
func sumBig(ds []int, width int) *big.Int {
	sum := new(big.Int)
	for i := range ds {
		part := big.NewInt(int64(ds[len(ds)-1-i]))
		sum.Add(sum, part.Mul(part, power(width*i)))
	}
	return sum
}

// drawn is a number of bits bits at most, in many of them with long rows of
// noughts or of ones.
func drawn(r *rand.Rand, bits int) *big.Int {
	x := new(big.Int)
	for x.BitLen() < 576 {
		part := 1 + r.Intn(70)
		x.Lsh(x, uint(part))
		switch r.Intn(4) {
		case 0:
		case 1:
			x.Or(x, below(part))
		default:
			x.Or(x, new(big.Int).Rand(r, power(part)))
		}
		if x.Sign() == 0 {
			x.SetInt64(1)
		}
	}
	return x.And(x, below(bits))
}

// drawnTop is a number of just bits bits.
func drawnTop(r *rand.Rand, bits int) *big.Int {
	return new(big.Int).SetBit(drawn(r, bits), bits-1, 1)
}

// noughts is a row of so many.
func noughts(count int) []int {
	return make([]int, count)
}

// joined are the rows behind one another, in memory of its own.
func joined(rows ...[]int) []int {
	return slices.Concat(rows...)
}

// eachWidth runs a test for each width, of all widths at one time.
func eachWidth(t *testing.T, test func(t *testing.T, width int, r *rand.Rand)) {
	t.Helper()
	for width := 1; width <= 6; width++ {
		t.Run(strconv.Itoa(width), func(t *testing.T) {
			t.Parallel()
			test(t, width, rand.New(rand.NewSource(int64(width))))
		})
	}
}

// widths are numbers that are no width; the low bits of some are one's.
func widths() []int {
	list := []int{
		0, -1, api.MaxWindow + 1, api.MaxWindow + 2, 8, 16, 32, 63, 64, 65, 100, 576, 577,
		math.MaxInt, math.MaxInt - 1, math.MinInt, math.MinInt + 1, math.MaxInt32, math.MinInt32, math.MaxUint32, 1 << 62, -1 << 62,
	}
	for width := 1; width <= api.MaxWindow; width++ {
		list = append(list, -width, width+1<<3, width+1<<6, width+1<<8, width+1<<16, width+1<<32, width-1<<3, width-1<<6, width-1<<8, width-1<<32, math.MinInt+width)
	}
	return list
}

// lengths are numbers that are no number of bits; the low bits of some are one's.
func lengths() []int {
	list := []int{
		0, -1, -2, -63, -64, -576, -577, 577, 578, 582, 583, 639, 640, 641, 1024, 1152,
		math.MaxInt, math.MaxInt - 1, math.MaxInt - 5, math.MaxInt - 6, math.MinInt, math.MinInt + 1, math.MinInt + 6,
		math.MaxInt32, math.MinInt32, math.MaxUint32, 1 << 62, -1 << 62,
	}
	for _, bits := range []int{1, 2, 4, 64, 65, 256, 521, 575, 576} {
		list = append(list, -bits, bits+1<<10, bits+1<<16, bits+1<<32, bits-1<<10, bits-1<<16, bits-1<<32, math.MinInt+bits)
	}
	return list
}

// strangers are numbers that are no digit of that width; the low bits of some
// are one's.
func strangers(width int) []int {
	top := 1 << width
	list := []int{
		-1, -2, -top, -top - 1, 1 - top, top, top + 1, 2*top - 1, 2 * top, 64, 65, 100, 576, 577,
		math.MaxInt, math.MaxInt - 1, math.MinInt, math.MinInt + 1, math.MaxInt32, math.MinInt32, math.MaxUint32, 1 << 62, -1 << 62,
	}
	for _, d := range []int{0, 1, top - 1} {
		list = append(list, d+1<<6, d+1<<8, d+1<<16, d+1<<32, d-1<<6, d-1<<8, d-1<<32, math.MinInt+d)
	}
	return list
}
