package key

import (
	"math"
	"math/big"
	"math/rand"
	"strconv"
	"strings"
	"testing"

	"curvet/api"
)

// chapter is the table of chapter 13, digit by digit, a line for each curve in
// the order of their numbers: P, A, B, N and both numbers of G.
const chapter = `
fffffffffffffffffffffffffffffffeffffffffffffffff -3 64210519e59c80e70fa7e9ab72243049feb8deecc146b9b1 ffffffffffffffffffffffff99def836146bc9b1b4d22831 188da80eb03090f67cbf20eb43a18800f4ff0afd82ff1012 07192b95ffc8da78631011ed6b24cdd573f977a11e794811
ffffffffffffffffffffffffffffffff000000000000000000000001 -3 b4050a850c04b3abf54132565044b0b7d7bfd8ba270b39432355ffb4 ffffffffffffffffffffffffffff16a2e0b8f03e13dd29455c5c2a3d b70e0cbd6bb4bf7f321390b94a03c1d356c21122343280d6115c1d21 bd376388b5f723fb4c22dfe6cd4375a05a07476444d5819985007e34
ffffffff00000001000000000000000000000000ffffffffffffffffffffffff -3 5ac635d8aa3a93e7b3ebbd55769886bc651d06b0cc53b0f63bce3c3e27d2604b ffffffff00000000ffffffffffffffffbce6faada7179e84f3b9cac2fc632551 6b17d1f2e12c4247f8bce6e563a440f277037d812deb33a0f4a13945d898c296 4fe342e2fe1a7f9b8ee7eb4a7c0f9e162bce33576b315ececbb6406837bf51f5
fffffffffffffffffffffffffffffffffffffffffffffffffffffffffffffffeffffffff0000000000000000ffffffff -3 b3312fa7e23ee7e4988e056be3f82d19181d9c6efe8141120314088f5013875ac656398d8a2ed19d2a85c8edd3ec2aef ffffffffffffffffffffffffffffffffffffffffffffffffc7634d81f4372ddf581a0db248b0a77aecec196accc52973 aa87ca22be8b05378eb1c71ef320ad746e1d3b628ba79b9859f741e082542a385502f25dbf55296c3a545e3872760ab7 3617de4a96262c6f5d9e98bf9292dc29f8f41dbd289a147ce9da3113b5f0b8c00a60b1ce1d7e819d7a431d7c90ea0e5f
01ffffffffffffffffffffffffffffffffffffffffffffffffffffffffffffffffffffffffffffffffffffffffffffffffffffffffffffffffffffffffffffffffff -3 0051953eb9618e1c9a1f929a21a0b68540eea2da725b99b315f3b8b489918ef109e156193951ec7e937b1652c0bd3bb1bf073573df883d2c34f1ef451fd46b503f00 01fffffffffffffffffffffffffffffffffffffffffffffffffffffffffffffffffa51868783bf2f966b7fcc0148f709a5d03bb5c9b8899c47aebb6fb71e91386409 00c6858e06b70404e9cd9e3ecb662395b4429c648139053fb521f828af606b4d3dbaa14b5e77efe75928fe1dc127a2ffa8de3348b3c1856a429bf97e7e31c2e5bd66 011839296a789a3bc0045c8a5fb42c7d1bd998f54449579b446817afbd17273e662c97ee72995ef42640c550b9013fad0761353c7086a272c24088be94769fd16650
fffffffffffffffffffffffffffffffffffffffffffffffffffffffefffffc2f 0 7 fffffffffffffffffffffffffffffffebaaedce6af48a03bbfd25e8cd0364141 79be667ef9dcbbac55a06295ce870b07029bfcdb2dce28d959f2815b16f81798 483ada7726a3c4655da4fbfc0e1108a8fd17b448a68554199c47d08ffb10d4b8
e95e4a5f737059dc60dfc7ad95b3d8139515620f 340e7be2a280eb74e2be61bada745d97e8f7c300 1e589a8595423412134faa2dbdec95c8d8675e58 e95e4a5f737059dc60df5991d45029409e60fc09 bed5af16ea3f6a4f62938c4631eb5af7bdbcdbc3 1667cb477a1a8ec338f94741669c976316da6321
d7c134aa264366862a18302575d1d787b09f075797da89f57ec8c0ff 68a5e62ca9ce6c1c299803a6c1530b514e182ad8b0042a59cad29f43 2580f63ccfe44138870713b1a92369e33e2135d266dbb372386c400b d7c134aa264366862a18302575d0fb98d116bc4b6ddebca3a5a7939f 0d9029ad2c7e5cf4340823b2a87dc68c9e4ce3174c1e6efdee12c07d 58aa56f772c0726f24c6b89e4ecdac24354b9e99caa3f6d3761402cd
a9fb57dba1eea9bc3e660a909d838d726e3bf623d52620282013481d1f6e5377 7d5a0975fc2c3057eef67530417affe7fb8055c126dc5c6ce94a4b44f330b5d9 26dc5c6ce94a4b44f330b5d9bbd77cbf958416295cf7e1ce6bccdc18ff8c07b6 a9fb57dba1eea9bc3e660a909d838d718c397aa3b561a6f7901e0e82974856a7 8bd2aeb9cb7e57cb2c4b482ffc81b7afb9de27e1e3bd23c23a4453bd9ace3262 547ef835c3dac4fd97f8461a14611dc9c27745132ded8e545c1d54c72f046997
d35e472036bc4fb7e13c785ed201e065f98fcfa6f6f40def4f92b9ec7893ec28fcd412b1f1b32e27 3ee30b568fbab0f883ccebd46d3f3bb8a2a73513f5eb79da66190eb085ffa9f492f375a97d860eb4 520883949dfdbc42d3ad198640688a6fe13f41349554b49acc31dccd884539816f5eb4ac8fb1f1a6 d35e472036bc4fb7e13c785ed201e065f98fcfa5b68f12a32d482ec7ee8658e98691555b44c59311 43bd7e9afb53d8b85289bcc48ee5bfe6f20137d10a087eb6e7871e2a10a599c710af8d0d39e20611 14fdd05545ec1cc8ab4093247f77275e0743ffed117182eaa9c77877aaac6ac7d35245d1692e8ee1
8cb91e82a3386d280f5d6f7e50e641df152f7109ed5456b412b1da197fb71123acd3a729901d1a71874700133107ec53 7bc382c63d8c150c3c72080ace05afa0c2bea28e4fb22787139165efba91f90f8aa5814a503ad4eb04a8c7dd22ce2826 04a8c7dd22ce28268b39b55416f0447c2fb77de107dcd2a62e880ea53eeb62d57cb4390295dbc9943ab78696fa504c11 8cb91e82a3386d280f5d6f7e50e641df152f7109ed5456b31f166e6cac0425a7cf3ab6af6b7fc3103b883202e9046565 1d1c64f068cf45ffa2a63a81b7c13f6b8847a3e77ef14fe3db7fcafe0cbd10e8e826e03436d646aaef87b2e247d4af1e 8abe1d7520f9c2a45cb1eb8e95cfd55262b70b29feec5864e19c054ff99129280e4646217791811142820341263c5315
aadd9db8dbe9c48b3fd4e6ae33c9fc07cb308db3b3c9d20ed6639cca703308717d4d9b009bc66842aecda12ae6a380e62881ff2f2d82c68528aa6056583a48f3 7830a3318b603b89e2327145ac234cc594cbdd8d3df91610a83441caea9863bc2ded5d5aa8253aa10a2ef1c98b9ac8b57f1117a72bf2c7b9e7c1ac4d77fc94ca 3df91610a83441caea9863bc2ded5d5aa8253aa10a2ef1c98b9ac8b57f1117a72bf2c7b9e7c1ac4d77fc94cadc083e67984050b75ebae5dd2809bd638016f723 aadd9db8dbe9c48b3fd4e6ae33c9fc07cb308db3b3c9d20ed6639cca70330870553e5c414ca92619418661197fac10471db1d381085ddaddb58796829ca90069 81aee4bdd82ed9645a21322e9c4c6a9385ed9f70b5d916c1b43b62eef4d0098eff3b1f78e2d0d48d50d1687b93b97d5f7c6d5047406a5e688b352209bcb9f822 7dde385d566332ecc0eabfa9cf7822fdf209f70024a57b1aa000c55b881f8111b2dcde494a5f485e5bca4bd88a2763aed1ca2b2fa8f0540678cd1e0f3ad80892
fb -3 1a df 2 54
f1 0 d d3 3 2f
ef 75 8 e5 0 29
`

// model is a curve in math/big's numbers, which share no code with the program.
type model struct {
	id               int
	p, a, b, n, x, y *big.Int
}

// spot is a point of a model; nil is the one at infinity.
type spot struct {
	x, y *big.Int
}

func digits(s string) *big.Int {
	n, fine := new(big.Int).SetString(s, 16)
	if !fine {
		panic(s)
	}
	return n
}

// models are the curves of the chapter; an A of -3 is P less 3.
func models() []model {
	var list []model
	for i, line := range strings.Split(strings.TrimSpace(chapter), "\n") {
		part := strings.Fields(line)
		m := model{
			id: i + 1,
			p:  digits(part[0]), a: digits(part[1]), b: digits(part[2]), n: digits(part[3]), x: digits(part[4]), y: digits(part[5]),
		}
		m.a.Mod(m.a, m.p)
		list = append(list, m)
	}
	return list
}

func tinyModels() []model {
	return models()[api.CurveTiny1-1:]
}

// eachCurve runs a test for each curve, of all curves at one time, and beside
// other tests: products on the greater curves take long.
func eachCurve(t *testing.T, test func(t *testing.T, m model, r *rand.Rand)) {
	t.Helper()
	t.Parallel()
	for _, m := range models() {
		t.Run(strconv.Itoa(m.id), func(t *testing.T) {
			t.Parallel()
			test(t, m, rand.New(rand.NewSource(int64(m.id))))
		})
	}
}

func bigOf(a api.Nat) *big.Int {
	x := new(big.Int)
	for i := len(a.W) - 1; i >= 0; i-- {
		x.Lsh(x, 64).Or(x, new(big.Int).SetUint64(a.W[i]))
	}
	return x
}

// natOf answers x as a number, if it has room there.
func natOf(x *big.Int) api.Nat {
	if x.Sign() < 0 || x.BitLen() > 576 {
		panic(x)
	}
	var a api.Nat
	mask := new(big.Int).SetUint64(math.MaxUint64)
	for i := range a.W {
		part := new(big.Int).Rsh(x, uint(64*i))
		a.W[i] = part.And(part, mask).Uint64()
	}
	return a
}

func small(x int) api.Nat {
	return api.Nat{W: [9]uint64{uint64(x)}}
}

// greatest is the greatest number that there is.
func greatest() *big.Int {
	return power(576, -1)
}

func more(x *big.Int, d int64) *big.Int {
	return new(big.Int).Add(x, big.NewInt(d))
}

// power answers 2^k and d.
func power(k int, d int64) *big.Int {
	return more(new(big.Int).Lsh(big.NewInt(1), uint(k)), d)
}

// point answers how the program tells s.
func (s *spot) point() api.Point {
	if s == nil {
		return api.Point{Inf: true}
	}
	return api.Point{X: natOf(s.x), Y: natOf(s.y)}
}

func (m model) base() *spot {
	return &spot{m.x, m.y}
}

func (m model) neg(s *spot) *spot {
	if s == nil {
		return nil
	}
	y := new(big.Int).Neg(s.y)
	return &spot{s.x, y.Mod(y, m.p)}
}

func (m model) add(s *spot, o *spot) *spot {
	if s == nil {
		return o
	}
	if o == nil {
		return s
	}
	above, under := new(big.Int).Sub(o.y, s.y), new(big.Int).Sub(o.x, s.x)
	if under.Sign() == 0 {
		if s.y.Cmp(o.y) != 0 || s.y.Sign() == 0 {
			return nil
		}
		above.Mul(s.x, s.x).Mul(above, big.NewInt(3)).Add(above, m.a)
		under.Lsh(s.y, 1)
	}
	under.Mod(under, m.p).ModInverse(under, m.p)
	l := above.Mul(above, under)
	l.Mod(l, m.p)
	x := new(big.Int).Mul(l, l)
	x.Sub(x, s.x).Sub(x, o.x).Mod(x, m.p)
	y := new(big.Int).Sub(s.x, x)
	y.Mul(y, l).Sub(y, s.y).Mod(y, m.p)
	return &spot{x, y}
}

// times goes from the lowest bit up, the other way round than the program.
func (m model) times(k *big.Int, s *spot) *spot {
	var sum *spot
	for i := range k.BitLen() {
		if k.Bit(i) == 1 {
			sum = m.add(sum, s)
		}
		s = m.add(s, s)
	}
	return sum
}

// want is d times the base point.
func (m model) want(d *big.Int) *spot {
	return m.times(d, m.base())
}

// walk answers the multiples of the base point, each the one before and one more.
func (m model) walk() []*spot {
	all := []*spot{nil}
	for s := m.base(); s != nil; s = m.add(s, m.base()) {
		all = append(all, s)
	}
	return all
}

// takes answers whether d is a key.
func (m model) takes(d *big.Int) bool {
	return d.Sign() > 0 && d.Cmp(m.n) < 0
}

// drawn answers a key.
func (m model) drawn(r *rand.Rand) *big.Int {
	return more(new(big.Int).Rand(r, more(m.n, -1)), 1)
}

// opposite answers N less d.
func (m model) opposite(d *big.Int) *big.Int {
	return new(big.Int).Sub(m.n, d)
}

// bytes answers how many bytes a try asks for.
func (m model) bytes() int {
	return len(m.n.Bytes())
}

// spare answers how many of their bits it leaves out.
func (m model) spare() int {
	return 8*m.bytes() - m.n.BitLen()
}

// tries is the rule of P24.2 on tries, word by word; ask answers a false for an error.
func (m model) tries(ask func(size int) (string, bool)) (*big.Int, int, api.Errno) {
	for ahead := range 64 {
		text, fine := ask(m.bytes())
		if !fine {
			return new(big.Int), ahead, api.ErrKeyDrbg
		}
		d := new(big.Int).SetBytes([]byte(text))
		if d.Div(d, power(m.spare(), 0)); m.takes(d) {
			return d, ahead + 1, api.OK
		}
	}
	return new(big.Int), 64, api.ErrKeyTries
}

// TestModels: a digit that is miswritten here would hardly leave P and N
// primes, G on the curve and of order N.
func TestModels(t *testing.T) {
	if len(models()) != 15 {
		t.Fatalf("%d curves", len(models()))
	}
	for _, m := range models() {
		square, cube := new(big.Int).Mul(m.y, m.y), new(big.Int).Exp(m.x, big.NewInt(3), m.p)
		cube.Add(cube, new(big.Int).Mul(m.a, m.x)).Add(cube, m.b)
		on := square.Mod(square, m.p).Cmp(cube.Mod(cube, m.p)) == 0
		if !m.p.ProbablyPrime(20) || !m.n.ProbablyPrime(20) || !on || m.want(m.n) != nil {
			t.Errorf("curve %d is not as it was published", m.id)
		}
	}
}
