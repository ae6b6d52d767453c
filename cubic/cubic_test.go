package cubic_test

import (
	"math/big"
	"math/rand"
	"testing"

	"curvet/api"
	"curvet/cubic"
	"curvet/curve"
)

func bigOf(a api.Nat) *big.Int {
	x := new(big.Int)
	for i := len(a.W) - 1; i >= 0; i-- {
		x.Lsh(x, 64).Or(x, new(big.Int).SetUint64(a.W[i]))
	}
	return x
}

func natOf(x *big.Int) api.Nat {
	var a api.Nat
	rest := new(big.Int).Set(x)
	for i := range a.W {
		a.W[i] = new(big.Int).And(rest, new(big.Int).SetUint64(1<<64-1)).Uint64()
		rest.Rsh(rest, 64)
	}
	return a
}

// check holds the answer against X X X + A X + B of math/big.
func check(t *testing.T, c api.Curve, x *big.Int) {
	t.Helper()
	want := new(big.Int).Exp(x, big.NewInt(3), nil)
	want.Add(want, new(big.Int).Mul(bigOf(c.A), x)).Add(want, bigOf(c.B))
	want.Mod(want, bigOf(c.P))
	if got := cubic.Of(c, natOf(x)); got != natOf(want) {
		t.Fatalf("curve %d: of %x: %x, not %x", c.Id, x, bigOf(got), want)
	}
}

func TestOf(t *testing.T) {
	r := rand.New(rand.NewSource(1))
	for _, id := range curve.Ids() {
		c, _ := curve.Get(id)
		p := bigOf(c.P)
		for d := range int64(20) {
			check(t, c, big.NewInt(d))
			check(t, c, new(big.Int).Sub(p, big.NewInt(d+1)))
		}
		for range 200 {
			check(t, c, new(big.Int).Rand(r, p))
		}
	}
}

// TestOfBasePoints: the square of a base point's Y, which needs no reckoning of
// this package's kind.
func TestOfBasePoints(t *testing.T) {
	for _, id := range curve.Ids() {
		c, _ := curve.Get(id)
		y := bigOf(c.G.Y)
		want := y.Mul(y, y).Mod(y, bigOf(c.P))
		if got := cubic.Of(c, c.G.X); got != natOf(want) {
			t.Errorf("curve %d: %x, not %x", id, bigOf(got), want)
		}
	}
}
