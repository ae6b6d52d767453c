// Package cubic works out the right side of a curve's equation for the layers
// that hold points against it, or look for the Y beside an X.
package cubic

import (
	"curvet/api"
	"curvet/field"
)

// Of answers X X X + A X + B modulo P, as (X X + A) X + B: that is one product
// less. It expects an X below P: of such a one layer 5 knows no error.
func Of(c api.Curve, x api.Nat) api.Nat {
	sum, _ := field.Mul(c.Id, x, x)
	sum, _ = field.Add(c.Id, sum, c.A)
	sum, _ = field.Mul(c.Id, sum, x)
	sum, _ = field.Add(c.Id, sum, c.B)
	return sum
}
