// Package prime keeps the P of each curve for the layers that reckon with it:
// field stands ahead of curve and cannot ask it.
package prime

import (
	"curvet/api"
)

// Of answers the P of the curve id, its lowest word first, and whether there
// is such a curve.
func Of(id int) (api.Nat, bool) {
	var p api.Nat
	switch id {
	case api.CurveP192:
		p.W = [api.Words]uint64{0xffffffffffffffff, 0xfffffffffffffffe, 0xffffffffffffffff}
	case api.CurveP224:
		p.W = [api.Words]uint64{0x0000000000000001, 0xffffffff00000000, 0xffffffffffffffff, 0x00000000ffffffff}
	case api.CurveP256:
		p.W = [api.Words]uint64{0xffffffffffffffff, 0x00000000ffffffff, 0x0000000000000000, 0xffffffff00000001}
	case api.CurveP384:
		p.W = [api.Words]uint64{0x00000000ffffffff, 0xffffffff00000000, 0xfffffffffffffffe, 0xffffffffffffffff, 0xffffffffffffffff, 0xffffffffffffffff}
	case api.CurveP521:
		p.W = [api.Words]uint64{0xffffffffffffffff, 0xffffffffffffffff, 0xffffffffffffffff, 0xffffffffffffffff, 0xffffffffffffffff, 0xffffffffffffffff, 0xffffffffffffffff, 0xffffffffffffffff, 0x00000000000001ff}
	case api.CurveK256:
		p.W = [api.Words]uint64{0xfffffffefffffc2f, 0xffffffffffffffff, 0xffffffffffffffff, 0xffffffffffffffff}
	case api.CurveB160:
		p.W = [api.Words]uint64{0x95b3d8139515620f, 0x737059dc60dfc7ad, 0x00000000e95e4a5f}
	case api.CurveB224:
		p.W = [api.Words]uint64{0x97da89f57ec8c0ff, 0x75d1d787b09f0757, 0x264366862a183025, 0x00000000d7c134aa}
	case api.CurveB256:
		p.W = [api.Words]uint64{0x2013481d1f6e5377, 0x6e3bf623d5262028, 0x3e660a909d838d72, 0xa9fb57dba1eea9bc}
	case api.CurveB320:
		p.W = [api.Words]uint64{0xfcd412b1f1b32e27, 0x4f92b9ec7893ec28, 0xf98fcfa6f6f40def, 0xe13c785ed201e065, 0xd35e472036bc4fb7}
	case api.CurveB384:
		p.W = [api.Words]uint64{0x874700133107ec53, 0xacd3a729901d1a71, 0x12b1da197fb71123, 0x152f7109ed5456b4, 0x0f5d6f7e50e641df, 0x8cb91e82a3386d28}
	case api.CurveB512:
		p.W = [api.Words]uint64{0x28aa6056583a48f3, 0x2881ff2f2d82c685, 0xaecda12ae6a380e6, 0x7d4d9b009bc66842, 0xd6639cca70330871, 0xcb308db3b3c9d20e, 0x3fd4e6ae33c9fc07, 0xaadd9db8dbe9c48b}
	case api.CurveTiny1:
		p.W = [api.Words]uint64{0xfb}
	case api.CurveTiny2:
		p.W = [api.Words]uint64{0xf1}
	case api.CurveTiny3:
		p.W = [api.Words]uint64{0xef}
	default:
		return api.Nat{}, false
	}
	return p, true
}
