package nat

import (
	"math"
	"math/big"
	"math/rand"
	"strings"
	"testing"

	"curvet/api"
)

const ones = uint64(math.MaxUint64)

// toBig makes math/big the judge: it shares no code with this package.
func toBig(words []uint64) *big.Int {
	x := new(big.Int)
	for i := len(words) - 1; i >= 0; i-- {
		x.Lsh(x, 64).Or(x, new(big.Int).SetUint64(words[i]))
	}
	return x
}

func big576() *big.Int {
	return new(big.Int).Lsh(big.NewInt(1), 576)
}

// fromBig answers x modulo 2^576.
func fromBig(x *big.Int) api.Nat {
	rest := new(big.Int).Mod(x, big576())
	mask := new(big.Int).SetUint64(ones)
	var a api.Nat
	for i := range a.W {
		a.W[i] = new(big.Int).And(rest, mask).Uint64()
		rest.Rsh(rest, 64)
	}
	return a
}

// filled has w in each of its words.
func filled(w uint64) api.Nat {
	var a api.Nat
	for i := range a.W {
		a.W[i] = w
	}
	return a
}

// power is 2^k, and 0 of a k beyond 575.
func power(k int) api.Nat {
	return fromBig(new(big.Int).Lsh(big.NewInt(1), uint(k)))
}

// edges are where carries begin, go on through all words, or end.
func edges() []api.Nat {
	list := []api.Nat{{}, filled(ones), filled(1), filled(1 << 63), filled(0xAAAAAAAAAAAAAAAA)}
	for _, k := range []int{0, 1, 7, 8, 63, 64, 65, 127, 128, 511, 512, 520, 521, 574, 575} {
		p := new(big.Int).Lsh(big.NewInt(1), uint(k))
		list = append(list,
			fromBig(p),
			fromBig(new(big.Int).Sub(p, big.NewInt(1))),
			fromBig(new(big.Int).Add(p, big.NewInt(1))),
			fromBig(new(big.Int).Neg(p)))
	}
	return list
}

// drawn are numbers of all lengths, many of them with words of noughts or ones.
func drawn(count int) []api.Nat {
	r := rand.New(rand.NewSource(1))
	list := make([]api.Nat, count)
	for n := range list {
		words := r.Intn(api.Words + 1)
		for i := range words {
			switch r.Intn(4) {
			case 0:
			case 1:
				list[n].W[i] = ones
			default:
				list[n].W[i] = r.Uint64() >> r.Intn(64)
			}
		}
	}
	return list
}

func samples() []api.Nat {
	return append(edges(), drawn(60)...)
}

// P1.1

func TestAdd(t *testing.T) {
	for _, a := range samples() {
		for _, b := range samples() {
			want := new(big.Int).Add(toBig(a.W[:]), toBig(b.W[:]))
			got, over := Add(a, b)
			if got != fromBig(want) || over != (want.Cmp(big576()) >= 0) {
				t.Fatalf("Add(%x, %x) = %x, %v", a.W, b.W, got.W, over)
			}
		}
	}
}

func TestAddAtTheLimit(t *testing.T) {
	all, one := filled(ones), Small(1)
	if got, over := Add(all, one); got != (api.Nat{}) || !over {
		t.Errorf("a sum of 2^576: %x, %v", got.W, over)
	}
	if got, over := Add(all, api.Nat{}); got != all || over {
		t.Errorf("a sum of 2^576 - 1: %x, %v", got.W, over)
	}
	if got, over := Add(all, all); got.W[0] != ones-1 || got.W[8] != ones || !over {
		t.Errorf("the greatest sum: %x, %v", got.W, over)
	}
}

func TestSub(t *testing.T) {
	for _, a := range samples() {
		for _, b := range samples() {
			want := new(big.Int).Sub(toBig(a.W[:]), toBig(b.W[:]))
			got, under := Sub(a, b)
			if got != fromBig(want) || under != (want.Sign() < 0) {
				t.Fatalf("Sub(%x, %x) = %x, %v", a.W, b.W, got.W, under)
			}
		}
	}
}

func TestSubAtTheLimit(t *testing.T) {
	if got, under := Sub(api.Nat{}, Small(1)); got != filled(ones) || !under {
		t.Errorf("0 - 1: %x, %v", got.W, under)
	}
	if got, under := Sub(power(575), Small(1)); got.W[0] != ones || got.W[8] != 1<<63-1 || under {
		t.Errorf("2^575 - 1: %x, %v", got.W, under)
	}
	if got, under := Sub(filled(ones), filled(ones)); got != (api.Nat{}) || under {
		t.Errorf("a - a: %x, %v", got.W, under)
	}
}

func TestMul(t *testing.T) {
	for _, a := range samples() {
		for _, b := range samples() {
			want := new(big.Int).Mul(toBig(a.W[:]), toBig(b.W[:]))
			got := Mul(a, b)
			if toBig(got.W[:]).Cmp(want) != 0 {
				t.Fatalf("Mul(%x, %x) = %x", a.W, b.W, got.W)
			}
		}
	}
}

func TestMulAtTheLimit(t *testing.T) {
	all := filled(ones)
	got := Mul(all, all)
	for i, w := range got.W {
		want := ones
		switch {
		case i == 0:
			want = 1
		case i < api.Words:
			want = 0
		case i == api.Words:
			want = ones - 1
		}
		if w != want {
			t.Errorf("word %d of the greatest product is %x, want %x", i, w, want)
		}
	}
	if Mul(all, api.Nat{}) != (api.Wide{}) {
		t.Error("a product with 0")
	}
}

func TestCmp(t *testing.T) {
	for _, a := range samples() {
		for _, b := range samples() {
			if got := Cmp(a, b); got != toBig(a.W[:]).Cmp(toBig(b.W[:])) {
				t.Fatalf("Cmp(%x, %x) = %d", a.W, b.W, got)
			}
		}
	}
}

func TestCmpTakesTheHighestWordFirst(t *testing.T) {
	low, high := power(511), power(512)
	low.W[0] = ones
	if Cmp(low, high) != -1 || Cmp(high, low) != 1 || Cmp(high, high) != 0 {
		t.Error("a low word stood above a high one")
	}
}

func TestBits(t *testing.T) {
	for _, a := range samples() {
		if got := Bits(a); got != toBig(a.W[:]).BitLen() {
			t.Fatalf("Bits(%x) = %d", a.W, got)
		}
	}
	if Bits(api.Nat{}) != 0 || Bits(Small(1)) != 1 || Bits(filled(ones)) != 576 {
		t.Error("the bits of 0, 1 and 2^576 - 1")
	}
	for k := range 576 {
		if got := Bits(power(k)); got != k+1 {
			t.Fatalf("Bits(2^%d) = %d", k, got)
		}
	}
}

func TestBit(t *testing.T) {
	for _, a := range samples() {
		x := toBig(a.W[:])
		for i := range 576 {
			if got := Bit(a, i); got != int(x.Bit(i)) {
				t.Fatalf("Bit(%x, %d) = %d", a.W, i, got)
			}
		}
	}
}

func TestBitBeyond(t *testing.T) {
	all := filled(ones)
	if Bit(all, 0) != 1 || Bit(all, 575) != 1 {
		t.Error("the first and the last bit")
	}
	for _, i := range []int{-1, -64, 576, 577, 640, math.MinInt, math.MaxInt} {
		if got := Bit(all, i); got != 0 {
			t.Errorf("Bit(.., %d) = %d", i, got)
		}
	}
}

func TestSmall(t *testing.T) {
	for _, x := range []int{0, 1, 2, 255, 1 << 32, math.MaxInt - 1, math.MaxInt} {
		if got := Small(x); got != fromBig(big.NewInt(int64(x))) {
			t.Errorf("Small(%d) = %x", x, got.W)
		}
	}
	for _, x := range []int{-1, -5, math.MinInt + 1, math.MinInt} {
		if got := Small(x); got != (api.Nat{}) {
			t.Errorf("Small(%d) = %x", x, got.W)
		}
	}
}

// P1.2

func TestShifts(t *testing.T) {
	for _, a := range samples() {
		x := toBig(a.W[:])
		for k := 0; k <= 576; k++ {
			up, e := Shl(a, k)
			if e != api.OK || up != fromBig(new(big.Int).Lsh(x, uint(k))) {
				t.Fatalf("Shl(%x, %d) = %x, %d", a.W, k, up.W, e)
			}
			down, e := Shr(a, k)
			if e != api.OK || down != fromBig(new(big.Int).Rsh(x, uint(k))) {
				t.Fatalf("Shr(%x, %d) = %x, %d", a.W, k, down.W, e)
			}
		}
	}
}

func TestShiftsAtTheLimits(t *testing.T) {
	all := filled(ones)
	for _, shift := range []func(api.Nat, int) (api.Nat, api.Errno){Shl, Shr} {
		if got, e := shift(all, 0); got != all || e != api.OK {
			t.Errorf("by 0: %x, %d", got.W, e)
		}
		if got, e := shift(all, 576); got != (api.Nat{}) || e != api.OK {
			t.Errorf("by 576: %x, %d", got.W, e)
		}
		for _, k := range []int{-1, -64, 577, 640, math.MinInt, math.MaxInt} {
			if got, e := shift(all, k); got != (api.Nat{}) || e != api.ErrNatShift {
				t.Errorf("by %d: %x, %d", k, got.W, e)
			}
		}
	}
	if got, e := Shl(Small(1), 575); got != power(575) || e != api.OK {
		t.Errorf("up by 575: %x, %d", got.W, e)
	}
	if got, e := Shr(all, 575); got != Small(1) || e != api.OK {
		t.Errorf("down by 575: %x, %d", got.W, e)
	}
}

func TestOf(t *testing.T) {
	r := rand.New(rand.NewSource(2))
	for size := 0; size <= 72; size++ {
		raw := make([]byte, size)
		r.Read(raw)
		for _, s := range []string{string(raw), strings.Repeat("\xff", size), strings.Repeat("\x00", size)} {
			got, e := Of(s)
			if e != api.OK || got != fromBig(new(big.Int).SetBytes([]byte(s))) {
				t.Fatalf("Of(%q) = %x, %d", s, got.W, e)
			}
		}
	}
}

func TestOfAtTheLimits(t *testing.T) {
	if got, e := Of(""); got != (api.Nat{}) || e != api.OK {
		t.Errorf("no bytes: %x, %d", got.W, e)
	}
	if got, e := Of("\x01\x02"); got != Small(0x0102) || e != api.OK {
		t.Errorf("the highest byte comes first: %x, %d", got.W, e)
	}
	if got, e := Of(strings.Repeat("\xff", 72)); got != filled(ones) || e != api.OK {
		t.Errorf("72 bytes: %x, %d", got.W, e)
	}
	for _, size := range []int{73, 80, 144, api.MaxText} {
		for _, b := range []string{"\x00", "\xff"} {
			if got, e := Of(strings.Repeat(b, size)); got != (api.Nat{}) || e != api.ErrNatLong {
				t.Errorf("%d bytes: %x, %d", size, got.W, e)
			}
		}
	}
}

func TestBytes(t *testing.T) {
	for _, a := range samples() {
		x := toBig(a.W[:])
		for size := 0; size <= 72; size++ {
			got, e := Bytes(a, size)
			if x.BitLen() > 8*size {
				if got != "" || e != api.ErrNatSize {
					t.Fatalf("Bytes(%x, %d) = %q, %d", a.W, size, got, e)
				}
				continue
			}
			if e != api.OK || got != string(x.FillBytes(make([]byte, size))) {
				t.Fatalf("Bytes(%x, %d) = %q, %d", a.W, size, got, e)
			}
			if back, e := Of(got); back != a || e != api.OK {
				t.Fatalf("Of(%q) = %x, %d", got, back.W, e)
			}
		}
	}
}

func TestBytesAtTheLimits(t *testing.T) {
	cases := []struct {
		a    api.Nat
		size int
		want string
		e    api.Errno
	}{
		{api.Nat{}, 0, "", api.OK},
		{Small(1), 0, "", api.ErrNatSize},
		{Small(255), 1, "\xff", api.OK},
		{Small(256), 1, "", api.ErrNatSize},
		{Small(258), 3, "\x00\x01\x02", api.OK},
		{filled(ones), 72, strings.Repeat("\xff", 72), api.OK},
		{filled(ones), 71, "", api.ErrNatSize},
		{power(567), 71, "\x80" + strings.Repeat("\x00", 70), api.OK},
		{power(568), 71, "", api.ErrNatSize},
	}
	for _, c := range cases {
		if got, e := Bytes(c.a, c.size); got != c.want || e != c.e {
			t.Errorf("Bytes(%x, %d) = %q, %d", c.a.W, c.size, got, e)
		}
	}
	for _, size := range []int{-1, -72, 73, 144, math.MinInt, math.MinInt/8 + 1, math.MaxInt/8 + 1, math.MaxInt} {
		for _, a := range []api.Nat{{}, Small(1), filled(ones)} {
			if got, e := Bytes(a, size); got != "" || e != api.ErrNatSize {
				t.Errorf("Bytes(%x, %d) = %q, %d", a.W, size, got, e)
			}
		}
	}
}
