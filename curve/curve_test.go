package curve

import (
	"math"
	"math/big"
	"math/rand"
	"slices"
	"sync"
	"testing"

	"curvet/api"
	"curvet/prime"
)

// row is a curve as chapter 13 tells it, digit by digit, with what Get tells
// beside its numbers.
type row struct {
	id               int
	p, a, b, n, x, y string
	bits, size       int
	legacy           bool
}

func published() []row {
	return []row{
		{
			id: api.CurveP192, bits: 192, size: 24, legacy: true,
			p: "fffffffffffffffffffffffffffffffeffffffffffffffff",
			a: "-3",
			b: "64210519e59c80e70fa7e9ab72243049feb8deecc146b9b1",
			n: "ffffffffffffffffffffffff99def836146bc9b1b4d22831",
			x: "188da80eb03090f67cbf20eb43a18800f4ff0afd82ff1012",
			y: "07192b95ffc8da78631011ed6b24cdd573f977a11e794811",
		},
		{
			id: api.CurveP224, bits: 224, size: 28,
			p: "ffffffffffffffffffffffffffffffff000000000000000000000001",
			a: "-3",
			b: "b4050a850c04b3abf54132565044b0b7d7bfd8ba270b39432355ffb4",
			n: "ffffffffffffffffffffffffffff16a2e0b8f03e13dd29455c5c2a3d",
			x: "b70e0cbd6bb4bf7f321390b94a03c1d356c21122343280d6115c1d21",
			y: "bd376388b5f723fb4c22dfe6cd4375a05a07476444d5819985007e34",
		},
		{
			id: api.CurveP256, bits: 256, size: 32,
			p: "ffffffff00000001000000000000000000000000ffffffffffffffffffffffff",
			a: "-3",
			b: "5ac635d8aa3a93e7b3ebbd55769886bc651d06b0cc53b0f63bce3c3e27d2604b",
			n: "ffffffff00000000ffffffffffffffffbce6faada7179e84f3b9cac2fc632551",
			x: "6b17d1f2e12c4247f8bce6e563a440f277037d812deb33a0f4a13945d898c296",
			y: "4fe342e2fe1a7f9b8ee7eb4a7c0f9e162bce33576b315ececbb6406837bf51f5",
		},
		{
			id: api.CurveP384, bits: 384, size: 48,
			p: "fffffffffffffffffffffffffffffffffffffffffffffffffffffffffffffffeffffffff0000000000000000ffffffff",
			a: "-3",
			b: "b3312fa7e23ee7e4988e056be3f82d19181d9c6efe8141120314088f5013875ac656398d8a2ed19d2a85c8edd3ec2aef",
			n: "ffffffffffffffffffffffffffffffffffffffffffffffffc7634d81f4372ddf581a0db248b0a77aecec196accc52973",
			x: "aa87ca22be8b05378eb1c71ef320ad746e1d3b628ba79b9859f741e082542a385502f25dbf55296c3a545e3872760ab7",
			y: "3617de4a96262c6f5d9e98bf9292dc29f8f41dbd289a147ce9da3113b5f0b8c00a60b1ce1d7e819d7a431d7c90ea0e5f",
		},
		{
			id: api.CurveP521, bits: 521, size: 66,
			p: "01ffffffffffffffffffffffffffffffffffffffffffffffffffffffffffffffffffffffffffffffffffffffffffffffffffffffffffffffffffffffffffffffffff",
			a: "-3",
			b: "0051953eb9618e1c9a1f929a21a0b68540eea2da725b99b315f3b8b489918ef109e156193951ec7e937b1652c0bd3bb1bf073573df883d2c34f1ef451fd46b503f00",
			n: "01fffffffffffffffffffffffffffffffffffffffffffffffffffffffffffffffffa51868783bf2f966b7fcc0148f709a5d03bb5c9b8899c47aebb6fb71e91386409",
			x: "00c6858e06b70404e9cd9e3ecb662395b4429c648139053fb521f828af606b4d3dbaa14b5e77efe75928fe1dc127a2ffa8de3348b3c1856a429bf97e7e31c2e5bd66",
			y: "011839296a789a3bc0045c8a5fb42c7d1bd998f54449579b446817afbd17273e662c97ee72995ef42640c550b9013fad0761353c7086a272c24088be94769fd16650",
		},
		{
			id: api.CurveK256, bits: 256, size: 32,
			p: "fffffffffffffffffffffffffffffffffffffffffffffffffffffffefffffc2f",
			a: "0",
			b: "7",
			n: "fffffffffffffffffffffffffffffffebaaedce6af48a03bbfd25e8cd0364141",
			x: "79be667ef9dcbbac55a06295ce870b07029bfcdb2dce28d959f2815b16f81798",
			y: "483ada7726a3c4655da4fbfc0e1108a8fd17b448a68554199c47d08ffb10d4b8",
		},
		{
			id: api.CurveB160, bits: 160, size: 20, legacy: true,
			p: "e95e4a5f737059dc60dfc7ad95b3d8139515620f",
			a: "340e7be2a280eb74e2be61bada745d97e8f7c300",
			b: "1e589a8595423412134faa2dbdec95c8d8675e58",
			n: "e95e4a5f737059dc60df5991d45029409e60fc09",
			x: "bed5af16ea3f6a4f62938c4631eb5af7bdbcdbc3",
			y: "1667cb477a1a8ec338f94741669c976316da6321",
		},
		{
			id: api.CurveB224, bits: 224, size: 28,
			p: "d7c134aa264366862a18302575d1d787b09f075797da89f57ec8c0ff",
			a: "68a5e62ca9ce6c1c299803a6c1530b514e182ad8b0042a59cad29f43",
			b: "2580f63ccfe44138870713b1a92369e33e2135d266dbb372386c400b",
			n: "d7c134aa264366862a18302575d0fb98d116bc4b6ddebca3a5a7939f",
			x: "0d9029ad2c7e5cf4340823b2a87dc68c9e4ce3174c1e6efdee12c07d",
			y: "58aa56f772c0726f24c6b89e4ecdac24354b9e99caa3f6d3761402cd",
		},
		{
			id: api.CurveB256, bits: 256, size: 32,
			p: "a9fb57dba1eea9bc3e660a909d838d726e3bf623d52620282013481d1f6e5377",
			a: "7d5a0975fc2c3057eef67530417affe7fb8055c126dc5c6ce94a4b44f330b5d9",
			b: "26dc5c6ce94a4b44f330b5d9bbd77cbf958416295cf7e1ce6bccdc18ff8c07b6",
			n: "a9fb57dba1eea9bc3e660a909d838d718c397aa3b561a6f7901e0e82974856a7",
			x: "8bd2aeb9cb7e57cb2c4b482ffc81b7afb9de27e1e3bd23c23a4453bd9ace3262",
			y: "547ef835c3dac4fd97f8461a14611dc9c27745132ded8e545c1d54c72f046997",
		},
		{
			id: api.CurveB320, bits: 320, size: 40,
			p: "d35e472036bc4fb7e13c785ed201e065f98fcfa6f6f40def4f92b9ec7893ec28fcd412b1f1b32e27",
			a: "3ee30b568fbab0f883ccebd46d3f3bb8a2a73513f5eb79da66190eb085ffa9f492f375a97d860eb4",
			b: "520883949dfdbc42d3ad198640688a6fe13f41349554b49acc31dccd884539816f5eb4ac8fb1f1a6",
			n: "d35e472036bc4fb7e13c785ed201e065f98fcfa5b68f12a32d482ec7ee8658e98691555b44c59311",
			x: "43bd7e9afb53d8b85289bcc48ee5bfe6f20137d10a087eb6e7871e2a10a599c710af8d0d39e20611",
			y: "14fdd05545ec1cc8ab4093247f77275e0743ffed117182eaa9c77877aaac6ac7d35245d1692e8ee1",
		},
		{
			id: api.CurveB384, bits: 384, size: 48,
			p: "8cb91e82a3386d280f5d6f7e50e641df152f7109ed5456b412b1da197fb71123acd3a729901d1a71874700133107ec53",
			a: "7bc382c63d8c150c3c72080ace05afa0c2bea28e4fb22787139165efba91f90f8aa5814a503ad4eb04a8c7dd22ce2826",
			b: "04a8c7dd22ce28268b39b55416f0447c2fb77de107dcd2a62e880ea53eeb62d57cb4390295dbc9943ab78696fa504c11",
			n: "8cb91e82a3386d280f5d6f7e50e641df152f7109ed5456b31f166e6cac0425a7cf3ab6af6b7fc3103b883202e9046565",
			x: "1d1c64f068cf45ffa2a63a81b7c13f6b8847a3e77ef14fe3db7fcafe0cbd10e8e826e03436d646aaef87b2e247d4af1e",
			y: "8abe1d7520f9c2a45cb1eb8e95cfd55262b70b29feec5864e19c054ff99129280e4646217791811142820341263c5315",
		},
		{
			id: api.CurveB512, bits: 512, size: 64,
			p: "aadd9db8dbe9c48b3fd4e6ae33c9fc07cb308db3b3c9d20ed6639cca703308717d4d9b009bc66842aecda12ae6a380e62881ff2f2d82c68528aa6056583a48f3",
			a: "7830a3318b603b89e2327145ac234cc594cbdd8d3df91610a83441caea9863bc2ded5d5aa8253aa10a2ef1c98b9ac8b57f1117a72bf2c7b9e7c1ac4d77fc94ca",
			b: "3df91610a83441caea9863bc2ded5d5aa8253aa10a2ef1c98b9ac8b57f1117a72bf2c7b9e7c1ac4d77fc94cadc083e67984050b75ebae5dd2809bd638016f723",
			n: "aadd9db8dbe9c48b3fd4e6ae33c9fc07cb308db3b3c9d20ed6639cca70330870553e5c414ca92619418661197fac10471db1d381085ddaddb58796829ca90069",
			x: "81aee4bdd82ed9645a21322e9c4c6a9385ed9f70b5d916c1b43b62eef4d0098eff3b1f78e2d0d48d50d1687b93b97d5f7c6d5047406a5e688b352209bcb9f822",
			y: "7dde385d566332ecc0eabfa9cf7822fdf209f70024a57b1aa000c55b881f8111b2dcde494a5f485e5bca4bd88a2763aed1ca2b2fa8f0540678cd1e0f3ad80892",
		},
		{
			id: api.CurveTiny1, bits: 8, size: 1,
			p: "fb",
			a: "-3",
			b: "1a",
			n: "df",
			x: "2",
			y: "54",
		},
		{
			id: api.CurveTiny2, bits: 8, size: 1,
			p: "f1",
			a: "0",
			b: "d",
			n: "d3",
			x: "3",
			y: "2f",
		},
		{
			id: api.CurveTiny3, bits: 8, size: 1,
			p: "ef",
			a: "75",
			b: "8",
			n: "e5",
			x: "0",
			y: "29",
		},
	}
}

// model is a curve in math/big's numbers, which share no code with the program.
type model struct {
	id, bits, size   int
	legacy           bool
	p, a, b, n, x, y *big.Int
}

func digits(s string) *big.Int {
	n, fine := new(big.Int).SetString(s, 16)
	if !fine {
		panic(s)
	}
	return n
}

// models are the curves of the chapter; an A of -3 is P less 3.
func models() []model {
	var list []model
	for _, r := range published() {
		m := model{
			id: r.id, bits: r.bits, size: r.size, legacy: r.legacy,
			p: digits(r.p), a: digits(r.a), b: digits(r.b), n: digits(r.n), x: digits(r.x), y: digits(r.y),
		}
		if m.a.Sign() < 0 {
			m.a.Add(m.a, m.p)
		}
		list = append(list, m)
	}
	return list
}

func bigOf(a api.Nat) *big.Int {
	x := new(big.Int)
	for i := len(a.W) - 1; i >= 0; i-- {
		x.Lsh(x, 64).Or(x, new(big.Int).SetUint64(a.W[i]))
	}
	return x
}

// natOf answers x as a number, if it has room there.
func natOf(x *big.Int) api.Nat {
	if x.Sign() < 0 || x.BitLen() > 576 {
		panic(x)
	}
	var a api.Nat
	mask := new(big.Int).SetUint64(math.MaxUint64)
	for i := range a.W {
		part := new(big.Int).Rsh(x, uint(64*i))
		a.W[i] = part.And(part, mask).Uint64()
	}
	return a
}

func small(x int) api.Nat {
	return api.Nat{W: [9]uint64{uint64(x)}}
}

// greatest is the greatest number that there is.
func greatest() api.Nat {
	var a api.Nat
	for i := range a.W {
		a.W[i] = math.MaxUint64
	}
	return a
}

func pointOf(x *big.Int, y *big.Int) api.Point {
	return api.Point{X: natOf(x), Y: natOf(y)}
}

// right answers X X X + A X + B modulo P, each part by itself.
func (m model) right(x *big.Int) *big.Int {
	cube := new(big.Int).Exp(x, big.NewInt(3), m.p)
	cube.Add(cube, new(big.Int).Mul(m.a, x))
	cube.Add(cube, m.b)
	return cube.Mod(cube, m.p)
}

// meets answers whether the equation holds, whatever the size of x and y.
func (m model) meets(x *big.Int, y *big.Int) bool {
	square := new(big.Int).Mul(y, y)
	return square.Mod(square, m.p).Cmp(m.right(x)) == 0
}

// on is the rule of P13.1, word by word.
func (m model) on(p api.Point) bool {
	x, y := bigOf(p.X), bigOf(p.Y)
	if p.Inf {
		return x.Sign() == 0 && y.Sign() == 0
	}
	return x.Cmp(m.p) < 0 && y.Cmp(m.p) < 0 && m.meets(x, y)
}

func (m model) base() api.Point {
	return pointOf(m.x, m.y)
}

func (m model) opposite(y *big.Int) *big.Int {
	return new(big.Int).Sub(m.p, y)
}

// add answers the sum of two points; nil is the one at infinity.
func (m model) add(p *[2]*big.Int, q *[2]*big.Int) *[2]*big.Int {
	if p == nil {
		return q
	}
	if q == nil {
		return p
	}
	above, under := new(big.Int).Sub(q[1], p[1]), new(big.Int).Sub(q[0], p[0])
	if under.Sign() == 0 {
		if p[1].Cmp(q[1]) != 0 || p[1].Sign() == 0 {
			return nil
		}
		above.Mul(p[0], p[0]).Mul(above, big.NewInt(3)).Add(above, m.a)
		under.Lsh(p[1], 1)
	}
	under.Mod(under, m.p).ModInverse(under, m.p)
	l := above.Mul(above, under)
	x := new(big.Int).Mul(l, l)
	x.Sub(x, p[0]).Sub(x, q[0]).Mod(x, m.p)
	y := new(big.Int).Sub(p[0], x)
	y.Mul(y, l).Sub(y, p[1]).Mod(y, m.p)
	return &[2]*big.Int{x, y}
}

func (m model) times(k *big.Int) *[2]*big.Int {
	var sum *[2]*big.Int
	for i := k.BitLen() - 1; i >= 0; i-- {
		sum = m.add(sum, sum)
		if k.Bit(i) == 1 {
			sum = m.add(sum, &[2]*big.Int{m.x, m.y})
		}
	}
	return sum
}

// strangers are ids that no curve has; the low bits of some are a curve's.
func strangers() []int {
	list := []int{0, 16, 17, 31, 32, -1, -2, -3, -13, -15, -16, 100, 1300, math.MaxInt, math.MaxInt - 1, math.MinInt, math.MinInt + 1, math.MaxInt32, math.MinInt32}
	for id := 1; id <= 15; id++ {
		list = append(list, id+16, id+256, id+1<<16, id+1<<32, id-16, id-256, id-1<<32, math.MinInt+id)
	}
	return slices.DeleteFunc(list, func(id int) bool { return 1 <= id && id <= 15 })
}

func checkOn(t *testing.T, m model, p api.Point) {
	t.Helper()
	if got := On(m.id, p); got != m.on(p) {
		t.Fatalf("curve %d: (%x, %x, %v): %v", m.id, bigOf(p.X), bigOf(p.Y), p.Inf, got)
	}
}

func checkTaken(t *testing.T, m model, p api.Point) {
	t.Helper()
	if !On(m.id, p) || !m.on(p) {
		t.Fatalf("curve %d: (%x, %x, %v) is not taken", m.id, bigOf(p.X), bigOf(p.Y), p.Inf)
	}
}

func checkRefused(t *testing.T, m model, p api.Point) {
	t.Helper()
	if On(m.id, p) || m.on(p) {
		t.Fatalf("curve %d: (%x, %x, %v) is taken", m.id, bigOf(p.X), bigOf(p.Y), p.Inf)
	}
}

// The tests' own copy of the chapter

// TestPublished: a digit that is miswritten here would hardly leave P and N
// primes, G on the curve and of order N.
func TestPublished(t *testing.T) {
	if len(models()) != 15 {
		t.Fatalf("%d curves", len(models()))
	}
	for i, m := range models() {
		if m.id != i+1 || !m.p.ProbablyPrime(20) || !m.n.ProbablyPrime(20) || !m.meets(m.x, m.y) || m.times(m.n) != nil {
			t.Errorf("curve %d is not as it was published", m.id)
		}
	}
}

// P13.1: Get

func TestGet(t *testing.T) {
	for _, m := range models() {
		c, errno := Get(m.id)
		if errno != api.OK {
			t.Fatalf("curve %d: %d", m.id, errno)
		}
		for _, part := range []struct {
			name string
			got  api.Nat
			want *big.Int
		}{{"P", c.P, m.p}, {"A", c.A, m.a}, {"B", c.B, m.b}, {"N", c.N, m.n}, {"X", c.G.X, m.x}, {"Y", c.G.Y, m.y}} {
			if bigOf(part.got).Cmp(part.want) != 0 {
				t.Errorf("curve %d: %s: %x, not %x", m.id, part.name, bigOf(part.got), part.want)
			}
		}
		if c.Id != m.id || c.Bits != m.bits || c.Size != m.size || c.Legacy != m.legacy || c.G.Inf {
			t.Errorf("curve %d: %d, %d bits, %d bytes, %v, %v", m.id, c.Id, c.Bits, c.Size, c.Legacy, c.G.Inf)
		}
	}
}

func TestGetBitsAndSize(t *testing.T) {
	for _, m := range models() {
		c, _ := Get(m.id)
		if c.Bits != m.n.BitLen() || c.Size != len(m.p.Bytes()) {
			t.Errorf("curve %d: %d bits, %d bytes", m.id, c.Bits, c.Size)
		}
	}
}

func TestGetLegacy(t *testing.T) {
	var legacy []int
	for id := 1; id <= 15; id++ {
		if c, _ := Get(id); c.Legacy {
			legacy = append(legacy, id)
		}
	}
	if !slices.Equal(legacy, []int{api.CurveP192, api.CurveB160}) {
		t.Errorf("%v", legacy)
	}
}

func TestGetMinusThree(t *testing.T) {
	var list []int
	for _, m := range models() {
		c, _ := Get(m.id)
		if new(big.Int).Add(bigOf(c.A), big.NewInt(3)).Cmp(m.p) == 0 {
			list = append(list, m.id)
		}
	}
	if !slices.Equal(list, []int{api.CurveP192, api.CurveP224, api.CurveP256, api.CurveP384, api.CurveP521, api.CurveTiny1}) {
		t.Errorf("A is P less 3: %v", list)
	}
}

func TestGetNoCurve(t *testing.T) {
	for _, id := range strangers() {
		if c, errno := Get(id); c != (api.Curve{}) || errno != api.ErrCurveId {
			t.Errorf("%d: %v, %d", id, c, errno)
		}
	}
}

func TestOnlyFifteenCurves(t *testing.T) {
	for id := -2000; id <= 2000; id++ {
		is := 1 <= id && id <= 15
		c, errno := Get(id)
		if is != (errno == api.OK) || is != (c != api.Curve{}) || !is && errno != api.ErrCurveId {
			t.Errorf("%d: %v, %d", id, c, errno)
		}
		if On(id, api.Point{Inf: true}) != is {
			t.Errorf("%d: infinity: %v", id, !is)
		}
	}
}

// The P of a curve stands in another package: it knows the same curves.
func TestPrimesAreThoseOfTheTable(t *testing.T) {
	for id := -20; id <= 40; id++ {
		p, known := prime.Of(id)
		c, errno := Get(id)
		if known != (errno == api.OK) || p != c.P {
			t.Errorf("%d: %v, %d", id, known, errno)
		}
	}
}

// P13.1: On

func TestOnBaseAndOpposite(t *testing.T) {
	for _, m := range models() {
		c, _ := Get(m.id)
		checkTaken(t, m, c.G)
		checkTaken(t, m, m.base())
		checkTaken(t, m, pointOf(m.x, m.opposite(m.y)))
		checkOn(t, m, pointOf(m.opposite(m.x), m.y))
		checkOn(t, m, pointOf(m.y, m.x))
	}
}

func TestOnInfinity(t *testing.T) {
	for _, m := range models() {
		checkTaken(t, m, api.Point{Inf: true})
		some := []api.Nat{small(1), small(2), natOf(m.x), natOf(m.y), natOf(m.p), natOf(m.n), greatest()}
		for i := range 576 {
			some = append(some, natOf(new(big.Int).Lsh(big.NewInt(1), uint(i))))
		}
		for _, a := range some {
			if a != (api.Nat{}) {
				checkRefused(t, m, api.Point{X: a, Inf: true})
				checkRefused(t, m, api.Point{Y: a, Inf: true})
				checkRefused(t, m, api.Point{X: a, Y: a, Inf: true})
			}
		}
	}
}

func TestOnBaseWithInf(t *testing.T) {
	for _, m := range models() {
		p := m.base()
		p.Inf = true
		checkRefused(t, m, p)
	}
}

func TestOnNoughts(t *testing.T) {
	for _, m := range models() {
		checkRefused(t, m, api.Point{})
	}
}

// TestOnABitTurned: on the tiny curves another number may chance to be right,
// so the model is asked; on the others none is.
func TestOnABitTurned(t *testing.T) {
	for _, m := range models() {
		for i := range 576 {
			p, q := m.base(), m.base()
			p.X.W[i/64] ^= 1 << (i % 64)
			q.Y.W[i/64] ^= 1 << (i % 64)
			checkOn(t, m, p)
			checkOn(t, m, q)
			if m.id < api.CurveTiny1 || i >= 8 {
				checkRefused(t, m, p)
				checkRefused(t, m, q)
			}
		}
	}
}

// TestOnFromPOn: the equation holds of all of these, so only the bound tells
// them apart.
func TestOnFromPOn(t *testing.T) {
	for _, m := range models() {
		room := new(big.Int).Lsh(big.NewInt(1), 575)
		room.Div(room, m.p)
		for _, k := range []*big.Int{big.NewInt(1), big.NewInt(2), big.NewInt(3), room} {
			more := new(big.Int).Mul(k, m.p)
			x, y := new(big.Int).Add(m.x, more), new(big.Int).Add(m.y, more)
			for _, pair := range [][2]*big.Int{{x, m.y}, {m.x, y}, {x, y}, {x, m.opposite(m.y)}} {
				if !m.meets(pair[0], pair[1]) {
					t.Fatalf("curve %d: (%x, %x) does not meet the equation", m.id, pair[0], pair[1])
				}
				checkRefused(t, m, pointOf(pair[0], pair[1]))
			}
		}
	}
}

// TestOnXOfP: where there is a point with an X of 0, its X may not be P.
func TestOnXOfP(t *testing.T) {
	found := 0
	for _, m := range models() {
		y := new(big.Int).ModSqrt(m.b, m.p)
		if y == nil {
			checkRefused(t, m, pointOf(m.p, m.y))
			continue
		}
		found++
		for _, y := range []*big.Int{y, m.opposite(y)} {
			checkTaken(t, m, pointOf(new(big.Int), y))
			checkRefused(t, m, pointOf(m.p, y))
			checkRefused(t, m, pointOf(m.p, new(big.Int).Add(y, m.p)))
		}
	}
	if found < 2 {
		t.Errorf("%d curves have a point with an X of 0", found)
	}
}

func TestOnAboutP(t *testing.T) {
	for _, m := range models() {
		for d := int64(-4); d <= 4; d++ {
			at := new(big.Int).Add(m.p, big.NewInt(d))
			for _, other := range []*big.Int{m.x, m.y, new(big.Int), big.NewInt(1), at} {
				checkOn(t, m, pointOf(at, other))
				checkOn(t, m, pointOf(other, at))
				if d >= 0 {
					checkRefused(t, m, pointOf(at, other))
					checkRefused(t, m, pointOf(other, at))
				}
			}
		}
	}
}

func TestOnTheGreatest(t *testing.T) {
	for _, m := range models() {
		p := m.base()
		for _, q := range []api.Point{
			{X: greatest(), Y: greatest()}, {X: greatest(), Y: greatest(), Inf: true},
			{X: greatest(), Y: p.Y}, {X: p.X, Y: greatest()}, {X: greatest()}, {Y: greatest()},
		} {
			checkRefused(t, m, q)
		}
	}
}

func TestOnNoCurve(t *testing.T) {
	points := []api.Point{{}, {Inf: true}, {X: small(1), Y: small(1)}, {X: greatest(), Y: greatest()}, {X: greatest(), Y: greatest(), Inf: true}}
	for _, m := range models() {
		points = append(points, m.base())
	}
	for _, id := range strangers() {
		for _, p := range points {
			if On(id, p) {
				t.Errorf("%d: (%x, %x, %v) is taken", id, bigOf(p.X), bigOf(p.Y), p.Inf)
			}
		}
	}
}

// A base point is on its own curve alone, but for tiny ones, where the model
// is asked.
func TestOnOtherCurves(t *testing.T) {
	for _, m := range models() {
		for _, other := range models() {
			checkOn(t, m, other.base())
			if m.id != other.id && (m.id < api.CurveTiny1 || other.id < api.CurveTiny1) {
				checkRefused(t, m, other.base())
			}
		}
	}
}

func TestOnMultiples(t *testing.T) {
	r := rand.New(rand.NewSource(1))
	for _, m := range models() {
		last := new(big.Int).Sub(m.n, big.NewInt(1))
		scalars := []*big.Int{last, new(big.Int).Rsh(m.n, 1), new(big.Int).Add(m.n, big.NewInt(2))}
		for k := range int64(30) {
			scalars = append(scalars, big.NewInt(k+1), new(big.Int).Add(new(big.Int).Rand(r, last), big.NewInt(1)))
		}
		for _, k := range scalars {
			p := m.times(k)
			checkTaken(t, m, pointOf(p[0], p[1]))
			checkTaken(t, m, pointOf(p[0], m.opposite(p[1])))
			checkRefused(t, m, api.Point{X: natOf(p[0]), Y: natOf(p[1]), Inf: true})
			checkRefused(t, m, pointOf(new(big.Int).Add(p[0], m.p), p[1]))
			checkRefused(t, m, pointOf(p[0], new(big.Int).Add(p[1], m.p)))
		}
		if p := m.times(last); p[0].Cmp(m.x) != 0 || p[1].Cmp(m.opposite(m.y)) != 0 {
			t.Errorf("curve %d: N - 1 times G is not the opposite of G", m.id)
		}
	}
}

// TestOnDrawnX: an X has two Y or none; other numbers are no Y of it.
func TestOnDrawnX(t *testing.T) {
	r := rand.New(rand.NewSource(2))
	for _, m := range models() {
		with, without := 0, 0
		for range 60 {
			x := new(big.Int).Rand(r, m.p)
			checkOn(t, m, pointOf(x, new(big.Int).Rand(r, m.p)))
			y := new(big.Int).ModSqrt(m.right(x), m.p)
			if y == nil {
				without++
				continue
			}
			with++
			checkTaken(t, m, pointOf(x, y))
			checkTaken(t, m, pointOf(x, m.opposite(y)))
			for d := int64(1); d <= 4; d++ {
				checkOn(t, m, pointOf(x, new(big.Int).Add(y, big.NewInt(d))))
			}
		}
		if with < 10 || without < 10 {
			t.Errorf("curve %d: %d with a Y, %d without", m.id, with, without)
		}
	}
}

func TestOnAllTinyPairs(t *testing.T) {
	for _, c := range []struct{ id, p, a, b, n int }{
		{api.CurveTiny1, 251, 248, 26, 223}, {api.CurveTiny2, 241, 0, 13, 211}, {api.CurveTiny3, 239, 117, 8, 229},
	} {
		count := 0
		for x := range 256 {
			for y := range 256 {
				is := x < c.p && y < c.p && y*y%c.p == (x*x*x+c.a*x+c.b)%c.p
				if got := On(c.id, api.Point{X: small(x), Y: small(y)}); got != is {
					t.Fatalf("curve %d: (%d, %d): %v", c.id, x, y, got)
				}
				if is {
					count++
				}
			}
		}
		if count != c.n-1 {
			t.Errorf("curve %d: %d points but infinity", c.id, count)
		}
	}
}

// TestOnTinyPairsFromAWordOn: what goes beyond the lowest word counts too.
func TestOnTinyPairsFromAWordOn(t *testing.T) {
	for _, m := range models()[api.CurveTiny1-1:] {
		for word := 1; word < 9; word++ {
			for k := range int64(m.n.Int64() - 1) {
				p := m.times(big.NewInt(k + 1))
				q := pointOf(p[0], p[1])
				q.X.W[word] = 1
				checkRefused(t, m, q)
				q.X.W[word], q.Y.W[word] = 0, 1
				checkRefused(t, m, q)
			}
		}
	}
}

// P13.1: Ids

func TestIds(t *testing.T) {
	want := []int{1, 2, 3, 4, 5, 6, 7, 8, 9, 10, 11, 12, 13, 14, 15}
	if ids := Ids(); !slices.Equal(ids, want) {
		t.Errorf("%v", ids)
	}
	for _, id := range Ids() {
		if _, errno := Get(id); errno != api.OK {
			t.Errorf("%d: %d", id, errno)
		}
	}
}

// R4

func TestIdsAreNewEachTime(t *testing.T) {
	first, second := Ids(), Ids()
	for i := range first[:cap(first)] {
		first[:cap(first)][i] = -7
	}
	if !slices.Equal(second, []int{1, 2, 3, 4, 5, 6, 7, 8, 9, 10, 11, 12, 13, 14, 15}) {
		t.Errorf("the other answer is %v now", second)
	}
	if third := Ids(); !slices.Equal(third, second) {
		t.Errorf("the next answer is %v", third)
	}
	if _, errno := Get(-7); errno != api.ErrCurveId {
		t.Errorf("%d", errno)
	}
	for _, m := range models() {
		checkTaken(t, m, m.base())
	}
}

func TestWhatGetAnswersIsTheCallers(t *testing.T) {
	for _, m := range models() {
		was, _ := Get(m.id)
		c := was
		c.P, c.A, c.B, c.N, c.G, c.Legacy = greatest(), greatest(), greatest(), greatest(), api.Point{}, !c.Legacy
		if again, errno := Get(m.id); again != was || errno != api.OK {
			t.Errorf("curve %d: %v", m.id, again)
		}
		checkTaken(t, m, m.base())
	}
}

// R5

func TestWhatWasCalledBetween(t *testing.T) {
	r := rand.New(rand.NewSource(3))
	list := models()
	for range 300 {
		m, other := list[r.Intn(15)], list[r.Intn(15)]
		p := pointOf(new(big.Int).Rand(r, m.p), new(big.Int).Rand(r, m.p))
		c, errno := Get(m.id)
		was := On(m.id, p)
		Get(other.id)
		Get(strangers()[r.Intn(len(strangers()))])
		On(other.id, m.base())
		On(other.id, other.base())
		On(16, p)
		Ids()[0] = 16
		if again, same := Get(m.id); again != c || same != errno || On(m.id, p) != was || was != m.on(p) {
			t.Fatalf("curve %d: %v, then %v", m.id, c, again)
		}
		checkTaken(t, m, m.base())
	}
}

func TestSeveralGoroutines(t *testing.T) {
	list := models()
	var group sync.WaitGroup
	for i := range 8 {
		group.Go(func() {
			for k := range 60 {
				m := list[(i+k)%15]
				c, errno := Get(m.id)
				if errno != api.OK || c.N != natOf(m.n) || c.G != m.base() || !On(m.id, m.base()) || On(m.id, api.Point{}) || len(Ids()) != 15 {
					t.Errorf("curve %d: %v, %d", m.id, c, errno)
				}
			}
		})
	}
	group.Wait()
}
