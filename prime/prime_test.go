package prime

import (
	"math"
	"math/big"
	"testing"

	"curvet/api"
)

// published are the P of chapter 13, as its digits stand there.
func published() map[int]string {
	return map[int]string{
		api.CurveP192:  "fffffffffffffffffffffffffffffffeffffffffffffffff",
		api.CurveP224:  "ffffffffffffffffffffffffffffffff000000000000000000000001",
		api.CurveP256:  "ffffffff00000001000000000000000000000000ffffffffffffffffffffffff",
		api.CurveP384:  "fffffffffffffffffffffffffffffffffffffffffffffffffffffffffffffffeffffffff0000000000000000ffffffff",
		api.CurveP521:  "01ffffffffffffffffffffffffffffffffffffffffffffffffffffffffffffffffffffffffffffffffffffffffffffffffffffffffffffffffffffffffffffffffff",
		api.CurveK256:  "fffffffffffffffffffffffffffffffffffffffffffffffffffffffefffffc2f",
		api.CurveB160:  "e95e4a5f737059dc60dfc7ad95b3d8139515620f",
		api.CurveB224:  "d7c134aa264366862a18302575d1d787b09f075797da89f57ec8c0ff",
		api.CurveB256:  "a9fb57dba1eea9bc3e660a909d838d726e3bf623d52620282013481d1f6e5377",
		api.CurveB320:  "d35e472036bc4fb7e13c785ed201e065f98fcfa6f6f40def4f92b9ec7893ec28fcd412b1f1b32e27",
		api.CurveB384:  "8cb91e82a3386d280f5d6f7e50e641df152f7109ed5456b412b1da197fb71123acd3a729901d1a71874700133107ec53",
		api.CurveB512:  "aadd9db8dbe9c48b3fd4e6ae33c9fc07cb308db3b3c9d20ed6639cca703308717d4d9b009bc66842aecda12ae6a380e62881ff2f2d82c68528aa6056583a48f3",
		api.CurveTiny1: "fb",
		api.CurveTiny2: "f1",
		api.CurveTiny3: "ef",
	}
}

func bigOf(a api.Nat) *big.Int {
	x := new(big.Int)
	for i := len(a.W) - 1; i >= 0; i-- {
		x.Lsh(x, 64).Or(x, new(big.Int).SetUint64(a.W[i]))
	}
	return x
}

func TestOf(t *testing.T) {
	for id, digits := range published() {
		want, _ := new(big.Int).SetString(digits, 16)
		p, known := Of(id)
		if !known || bigOf(p).Cmp(want) != 0 {
			t.Errorf("curve %d: %x, %v", id, p.W, known)
		}
		if !bigOf(p).ProbablyPrime(20) {
			t.Errorf("curve %d: %x is no prime", id, p.W)
		}
	}
}

func TestOfNoCurve(t *testing.T) {
	for _, id := range []int{0, -1, -3, 16, 17, 256 + 3, math.MaxInt, math.MinInt} {
		if p, known := Of(id); known || p != (api.Nat{}) {
			t.Errorf("%d: %x, %v", id, p.W, known)
		}
	}
}
