package field

import (
	"math"
	"math/big"
	"math/rand"
	"sync"
	"testing"

	"curvet/api"
)

const ones = uint64(math.MaxUint64)

// published are the P of chapter 13, as its digits stand there.
func published() map[int]string {
	return map[int]string{
		api.CurveP192:  "fffffffffffffffffffffffffffffffeffffffffffffffff",
		api.CurveP224:  "ffffffffffffffffffffffffffffffff000000000000000000000001",
		api.CurveP256:  "ffffffff00000001000000000000000000000000ffffffffffffffffffffffff",
		api.CurveP384:  "fffffffffffffffffffffffffffffffffffffffffffffffffffffffffffffffeffffffff0000000000000000ffffffff",
		api.CurveP521:  "01ffffffffffffffffffffffffffffffffffffffffffffffffffffffffffffffffffffffffffffffffffffffffffffffffffffffffffffffffffffffffffffffffff",
		api.CurveK256:  "fffffffffffffffffffffffffffffffffffffffffffffffffffffffefffffc2f",
		api.CurveB160:  "e95e4a5f737059dc60dfc7ad95b3d8139515620f",
		api.CurveB224:  "d7c134aa264366862a18302575d1d787b09f075797da89f57ec8c0ff",
		api.CurveB256:  "a9fb57dba1eea9bc3e660a909d838d726e3bf623d52620282013481d1f6e5377",
		api.CurveB320:  "d35e472036bc4fb7e13c785ed201e065f98fcfa6f6f40def4f92b9ec7893ec28fcd412b1f1b32e27",
		api.CurveB384:  "8cb91e82a3386d280f5d6f7e50e641df152f7109ed5456b412b1da197fb71123acd3a729901d1a71874700133107ec53",
		api.CurveB512:  "aadd9db8dbe9c48b3fd4e6ae33c9fc07cb308db3b3c9d20ed6639cca703308717d4d9b009bc66842aecda12ae6a380e62881ff2f2d82c68528aa6056583a48f3",
		api.CurveTiny1: "fb",
		api.CurveTiny2: "f1",
		api.CurveTiny3: "ef",
	}
}

// eachCurve runs a test for each curve, with its P.
func eachCurve(t *testing.T, test func(t *testing.T, id int, p *big.Int)) {
	t.Helper()
	for id := 1; id <= 15; id++ {
		p, _ := new(big.Int).SetString(published()[id], 16)
		test(t, id, p)
	}
}

// toBig makes math/big the judge: it shares no code with this package.
func toBig(words []uint64) *big.Int {
	x := new(big.Int)
	for i := len(words) - 1; i >= 0; i-- {
		x.Lsh(x, 64).Or(x, new(big.Int).SetUint64(words[i]))
	}
	return x
}

func bigOf(a api.Nat) *big.Int {
	return toBig(a.W[:])
}

func fillWords(words []uint64, x *big.Int) {
	rest := new(big.Int).Set(x)
	mask := new(big.Int).SetUint64(ones)
	for i := range words {
		words[i] = new(big.Int).And(rest, mask).Uint64()
		rest.Rsh(rest, 64)
	}
}

func natOf(x *big.Int) api.Nat {
	var a api.Nat
	fillWords(a.W[:], x)
	return a
}

func wideOf(x *big.Int) api.Wide {
	var w api.Wide
	fillWords(w.W[:], x)
	return w
}

// plus answers x + d.
func plus(x *big.Int, d int64) *big.Int {
	return new(big.Int).Add(x, big.NewInt(d))
}

// draw gives a number below p, often one with words of noughts or of ones.
func draw(r *rand.Rand, p *big.Int) *big.Int {
	var words [18]uint64
	for i := range words {
		switch r.Intn(4) {
		case 0:
		case 1:
			words[i] = ones
		default:
			words[i] = r.Uint64()
		}
	}
	x := toBig(words[:])
	return x.Mod(x, p)
}

// members are numbers below p: the edges, and some drawn ones.
func members(p *big.Int, count int) []*big.Int {
	half := new(big.Int).Rsh(p, 1)
	list := []*big.Int{
		big.NewInt(0), big.NewInt(1), big.NewInt(2), big.NewInt(3),
		plus(p, -1), plus(p, -2), plus(p, -3),
		half, plus(half, 1), plus(half, -1),
	}
	r := rand.New(rand.NewSource(1))
	for range count {
		list = append(list, draw(r, p))
	}
	return list
}

// outside are numbers that are not below p.
func outside(p *big.Int) []api.Nat {
	all := new(big.Int).Lsh(big.NewInt(1), 576)
	twice := new(big.Int).Lsh(p, 1)
	return []api.Nat{
		natOf(p), natOf(plus(p, 1)), natOf(plus(twice, -1)), natOf(twice),
		natOf(plus(all, -1)), natOf(new(big.Int).Lsh(big.NewInt(1), 575)),
	}
}

// strangers are ids that no curve has.
func strangers() []int {
	return []int{0, -1, -3, -15, 16, 17, 31, 256 + 3, 1<<32 + 3, math.MaxInt, math.MinInt}
}

type binary func(int, api.Nat, api.Nat) (api.Nat, api.Errno)

type unary func(int, api.Nat) (api.Nat, api.Errno)

func binaries() map[string]binary {
	return map[string]binary{"Add": Add, "Sub": Sub, "Mul": Mul}
}

func unaries() map[string]unary {
	return map[string]unary{"Inv": Inv, "Sqrt": Sqrt}
}

// P5.1: Add, Sub, Mul

// judge answers what the operation of that name must answer.
func judge(name string, a *big.Int, b *big.Int, p *big.Int) *big.Int {
	x := new(big.Int)
	switch name {
	case "Add":
		x.Add(a, b)
	case "Sub":
		x.Sub(a, b)
	case "Mul":
		x.Mul(a, b)
	}
	return x.Mod(x, p)
}

func checkBinary(t *testing.T, name string, id int, a *big.Int, b *big.Int, p *big.Int) {
	t.Helper()
	got, errno := binaries()[name](id, natOf(a), natOf(b))
	if got != natOf(judge(name, a, b, p)) || errno != api.OK {
		t.Fatalf("curve %d: %s of %x and %x: %x, %d", id, name, a, b, got.W, errno)
	}
}

func TestBinaries(t *testing.T) {
	eachCurve(t, func(t *testing.T, id int, p *big.Int) {
		for _, a := range members(p, 20) {
			for _, b := range members(p, 20) {
				checkBinary(t, "Add", id, a, b, p)
				checkBinary(t, "Sub", id, a, b, p)
				checkBinary(t, "Mul", id, a, b, p)
			}
		}
	})
}

// TestBinariesOfTinyCurves goes through all pairs there are.
func TestBinariesOfTinyCurves(t *testing.T) {
	for id, p := range map[int]int{13: 251, 14: 241, 15: 239} {
		for a := range p {
			for b := range p {
				x, y := api.Nat{W: [9]uint64{uint64(a)}}, api.Nat{W: [9]uint64{uint64(b)}}
				sum, e := Add(id, x, y)
				diff, f := Sub(id, x, y)
				product, g := Mul(id, x, y)
				if e != api.OK || f != api.OK || g != api.OK ||
					sum.W != [9]uint64{uint64((a + b) % p)} ||
					diff.W != [9]uint64{uint64((a - b + p) % p)} ||
					product.W != [9]uint64{uint64(a * b % p)} {
					t.Fatalf("curve %d: %d, %d: %v, %v, %v", id, a, b, sum.W, diff.W, product.W)
				}
			}
		}
	}
}

func TestAddAroundP(t *testing.T) {
	eachCurve(t, func(t *testing.T, id int, p *big.Int) {
		for _, a := range members(p, 20) {
			for _, d := range []int64{-1, 0, 1} {
				b := plus(new(big.Int).Sub(p, a), d)
				if b.Sign() < 0 || b.Cmp(p) >= 0 {
					continue
				}
				want := natOf(new(big.Int).Mod(big.NewInt(d), p))
				if sum, errno := Add(id, natOf(a), natOf(b)); sum != want || errno != api.OK {
					t.Fatalf("curve %d: %x + %x: %x, %d", id, a, b, sum.W, errno)
				}
			}
		}
	})
}

func TestSubOfLikeNumbers(t *testing.T) {
	eachCurve(t, func(t *testing.T, id int, p *big.Int) {
		for _, a := range members(p, 20) {
			if diff, errno := Sub(id, natOf(a), natOf(a)); diff != (api.Nat{}) || errno != api.OK {
				t.Fatalf("curve %d: %x less itself: %x, %d", id, a, diff.W, errno)
			}
		}
	})
}

func TestSubBelowZero(t *testing.T) {
	eachCurve(t, func(t *testing.T, id int, p *big.Int) {
		for _, a := range members(p, 20)[1:] {
			want := natOf(new(big.Int).Sub(p, a))
			if a.Sign() == 0 {
				want = api.Nat{}
			}
			if diff, errno := Sub(id, api.Nat{}, natOf(a)); diff != want || errno != api.OK {
				t.Fatalf("curve %d: 0 less %x: %x, %d", id, a, diff.W, errno)
			}
		}
	})
}

// P5.1: Reduce

func checkReduce(t *testing.T, id int, w *big.Int, p *big.Int) {
	t.Helper()
	got, errno := Reduce(id, wideOf(w))
	if got != natOf(new(big.Int).Mod(w, p)) || errno != api.OK {
		t.Fatalf("curve %d: Reduce of %x: %x, %d", id, w, got.W, errno)
	}
}

func TestReduce(t *testing.T) {
	eachCurve(t, func(t *testing.T, id int, p *big.Int) {
		all := plus(new(big.Int).Lsh(big.NewInt(1), 1152), -1)
		r := rand.New(rand.NewSource(2))
		for range 300 {
			w := draw(r, all)
			checkReduce(t, id, w.Rsh(w, uint(r.Intn(1152))), p)
		}
		for k := range uint(1152) {
			checkReduce(t, id, new(big.Int).Lsh(big.NewInt(1), k), p)
		}
	})
}

func TestReduceAtEdges(t *testing.T) {
	eachCurve(t, func(t *testing.T, id int, p *big.Int) {
		all := plus(new(big.Int).Lsh(big.NewInt(1), 1152), -1)
		last := plus(p, -1)
		greatest := new(big.Int).Sub(all, new(big.Int).Mod(all, p))
		checkReduce(t, id, big.NewInt(0), p)
		checkReduce(t, id, all, p)
		checkReduce(t, id, new(big.Int).Mul(last, last), p)
		checkReduce(t, id, plus(greatest, -1), p)
		for _, w := range []*big.Int{p, new(big.Int).Mul(p, p), greatest} {
			checkReduce(t, id, plus(w, -1), p)
			if x, errno := Reduce(id, wideOf(w)); x != (api.Nat{}) || errno != api.OK {
				t.Errorf("curve %d: Reduce of %x: %x, %d", id, w, x.W, errno)
			}
			if w.Cmp(all) < 0 {
				checkReduce(t, id, plus(w, 1), p)
			}
		}
	})
}

// P5.2: Inv

func checkInv(t *testing.T, id int, a *big.Int, p *big.Int) {
	t.Helper()
	got, errno := Inv(id, natOf(a))
	if got != natOf(new(big.Int).ModInverse(a, p)) || errno != api.OK {
		t.Fatalf("curve %d: Inv of %x: %x, %d", id, a, got.W, errno)
	}
	if one, _ := Mul(id, natOf(a), got); one != natOf(big.NewInt(1)) {
		t.Fatalf("curve %d: %x by its inverse: %x", id, a, one.W)
	}
}

func TestInv(t *testing.T) {
	eachCurve(t, func(t *testing.T, id int, p *big.Int) {
		for _, a := range members(p, 100) {
			if a.Sign() != 0 {
				checkInv(t, id, a, p)
			}
		}
	})
}

func TestInvOfAllTinyNumbers(t *testing.T) {
	eachCurve(t, func(t *testing.T, id int, p *big.Int) {
		if p.BitLen() > 8 {
			return
		}
		for a := int64(1); a < p.Int64(); a++ {
			checkInv(t, id, big.NewInt(a), p)
		}
	})
}

func TestInvOfItself(t *testing.T) {
	eachCurve(t, func(t *testing.T, id int, p *big.Int) {
		for _, a := range []*big.Int{big.NewInt(1), plus(p, -1)} {
			if got, errno := Inv(id, natOf(a)); got != natOf(a) || errno != api.OK {
				t.Errorf("curve %d: Inv of %x: %x, %d", id, a, got.W, errno)
			}
		}
	})
}

func TestInvOfZero(t *testing.T) {
	eachCurve(t, func(t *testing.T, id int, p *big.Int) {
		if got, errno := Inv(id, api.Nat{}); got != (api.Nat{}) || errno != api.ErrFieldZero {
			t.Errorf("curve %d: %x, %d", id, got.W, errno)
		}
	})
}

// P5.2: Sqrt

// checkSqrt leaves to math/big whether a is a square, and which its roots are.
func checkSqrt(t *testing.T, id int, a *big.Int, p *big.Int) {
	t.Helper()
	got, errno := Sqrt(id, natOf(a))
	if big.Jacobi(a, p) == -1 {
		if got != (api.Nat{}) || errno != api.ErrFieldSquare {
			t.Fatalf("curve %d: Sqrt of %x, which is no square: %x, %d", id, a, got.W, errno)
		}
		return
	}
	root := new(big.Int).ModSqrt(a, p)
	if root.Bit(0) == 1 {
		root.Sub(p, root)
	}
	if got != natOf(root) || got.W[0]%2 != 0 || errno != api.OK {
		t.Fatalf("curve %d: Sqrt of %x: %x, %d; not %x", id, a, got.W, errno, root)
	}
}

func TestSqrt(t *testing.T) {
	eachCurve(t, func(t *testing.T, id int, p *big.Int) {
		squares, others := 0, 0
		for _, a := range members(p, 20) {
			checkSqrt(t, id, a, p)
			checkSqrt(t, id, judge("Mul", a, a, p), p)
			switch big.Jacobi(a, p) {
			case 1:
				squares++
			case -1:
				others++
			}
		}
		if squares < 5 || others < 5 {
			t.Errorf("curve %d: %d squares, %d others", id, squares, others)
		}
	})
}

func TestSqrtOfZeroAndOne(t *testing.T) {
	eachCurve(t, func(t *testing.T, id int, p *big.Int) {
		if x, errno := Sqrt(id, api.Nat{}); x != (api.Nat{}) || errno != api.OK {
			t.Errorf("curve %d: Sqrt of 0: %x, %d", id, x.W, errno)
		}
		want := natOf(plus(p, -1))
		if x, errno := Sqrt(id, natOf(big.NewInt(1))); x != want || errno != api.OK {
			t.Errorf("curve %d: Sqrt of 1: %x, %d", id, x.W, errno)
		}
	})
}

// TestSqrtOfLast: P - 1 is a square just if P leaves 1 modulo 4.
func TestSqrtOfLast(t *testing.T) {
	eachCurve(t, func(t *testing.T, id int, p *big.Int) {
		last := natOf(plus(p, -1))
		x, errno := Sqrt(id, last)
		if id != api.CurveP224 && id != api.CurveTiny2 {
			if x != (api.Nat{}) || errno != api.ErrFieldSquare {
				t.Errorf("curve %d: %x, %d", id, x.W, errno)
			}
			return
		}
		if xx, _ := Mul(id, x, x); xx != last || x.W[0]%2 != 0 || errno != api.OK {
			t.Errorf("curve %d: %x, %d", id, x.W, errno)
		}
	})
}

// TestSqrtOfEachOrder asks for the roots of numbers whose order is a power of
// 2, each there is: with them every turn on the way to a root is taken.
func TestSqrtOfEachOrder(t *testing.T) {
	for id, z := range map[int]int64{api.CurveP224: 11, api.CurveTiny2: 7} {
		p, _ := new(big.Int).SetString(published()[id], 16)
		odd := plus(p, -1)
		twos := odd.TrailingZeroBits()
		odd.Rsh(odd, twos)
		a := new(big.Int).Exp(big.NewInt(z), odd, p)
		if big.Jacobi(a, p) != -1 {
			t.Fatalf("curve %d: %d is a square", id, z)
		}
		for range twos + 1 {
			checkSqrt(t, id, a, p)
			a = judge("Mul", a, a, p)
		}
	}
}

func TestSqrtOfAllTinyNumbers(t *testing.T) {
	for id, p := range map[int]int{13: 251, 14: 241, 15: 239} {
		roots := map[int]int{}
		for x := 0; x < p; x += 2 {
			roots[x*x%p] = x
		}
		if len(roots) != p/2+1 {
			t.Fatalf("curve %d: %d squares", id, len(roots))
		}
		for a := range p {
			x, errno := Sqrt(id, api.Nat{W: [9]uint64{uint64(a)}})
			root, square := roots[a]
			if square && (x.W != [9]uint64{uint64(root)} || errno != api.OK) {
				t.Errorf("curve %d: Sqrt of %d: %v, %d; not %d", id, a, x.W, errno, root)
			}
			if !square && (x != (api.Nat{}) || errno != api.ErrFieldSquare) {
				t.Errorf("curve %d: Sqrt of %d, which is no square: %v, %d", id, a, x.W, errno)
			}
		}
	}
}

// ErrFieldCurve, ErrFieldRange, R2, R6

// TestNoCurve: ErrFieldCurve comes ahead of all other errors.
func TestNoCurve(t *testing.T) {
	all := plus(new(big.Int).Lsh(big.NewInt(1), 1152), -1)
	for _, id := range strangers() {
		for _, a := range []api.Nat{{}, natOf(big.NewInt(1)), natOf(big.NewInt(250)), natOf(all)} {
			for name, call := range unaries() {
				if x, errno := call(id, a); x != (api.Nat{}) || errno != api.ErrFieldCurve {
					t.Errorf("%s: %d: %x, %d", name, id, x.W, errno)
				}
			}
			for name, call := range binaries() {
				if x, errno := call(id, a, a); x != (api.Nat{}) || errno != api.ErrFieldCurve {
					t.Errorf("%s: %d: %x, %d", name, id, x.W, errno)
				}
			}
		}
		for _, w := range []api.Wide{{}, wideOf(big.NewInt(1)), wideOf(all)} {
			if x, errno := Reduce(id, w); x != (api.Nat{}) || errno != api.ErrFieldCurve {
				t.Errorf("Reduce: %d: %x, %d", id, x.W, errno)
			}
		}
	}
}

// TestNotBelowP: P leaves 0, yet its error is the one of the range; so is
// that of numbers that would leave no square.
func TestNotBelowP(t *testing.T) {
	eachCurve(t, func(t *testing.T, id int, p *big.Int) {
		for _, far := range outside(p) {
			for name, call := range unaries() {
				if x, errno := call(id, far); x != (api.Nat{}) || errno != api.ErrFieldRange {
					t.Errorf("%s: curve %d: %x: %x, %d", name, id, far.W, x.W, errno)
				}
			}
			for name, call := range binaries() {
				for _, near := range []api.Nat{{}, natOf(big.NewInt(1)), natOf(plus(p, -1)), far} {
					x, e := call(id, near, far)
					y, f := call(id, far, near)
					if x != (api.Nat{}) || y != x || e != api.ErrFieldRange || f != e {
						t.Errorf("%s: curve %d: %x, %x: %d, %d", name, id, near.W, far.W, e, f)
					}
				}
			}
		}
	})
}

// R5

// TestManyAtOnce: the calls keep nothing, so they do not disturb one another.
func TestManyAtOnce(t *testing.T) {
	var group sync.WaitGroup
	for range 8 {
		group.Go(func() {
			for id := 15; id >= 1; id-- {
				p, _ := new(big.Int).SetString(published()[id], 16)
				for _, a := range members(p, 2)[1:] {
					if got, _ := Mul(id, natOf(a), natOf(a)); got != natOf(judge("Mul", a, a, p)) {
						t.Errorf("curve %d: %x times itself: %x", id, a, got.W)
					}
				}
				if got, errno := Sqrt(id, natOf(big.NewInt(1))); got != natOf(plus(p, -1)) || errno != api.OK {
					t.Errorf("curve %d: Sqrt of 1: %x, %d", id, got.W, errno)
				}
			}
		})
	}
	group.Wait()
}
