package raw

import (
	"encoding/hex"
	"math"
	"math/big"
	"math/rand"
	"slices"
	"strconv"
	"strings"
	"testing"

	"curvet/api"
)

// orders are the N of chapter 13, the first curve's first.
const orders = `
ffffffffffffffffffffffff99def836146bc9b1b4d22831
ffffffffffffffffffffffffffff16a2e0b8f03e13dd29455c5c2a3d
ffffffff00000000ffffffffffffffffbce6faada7179e84f3b9cac2fc632551
ffffffffffffffffffffffffffffffffffffffffffffffffc7634d81f4372ddf581a0db248b0a77aecec196accc52973
01fffffffffffffffffffffffffffffffffffffffffffffffffffffffffffffffffa51868783bf2f966b7fcc0148f709a5d03bb5c9b8899c47aebb6fb71e91386409
fffffffffffffffffffffffffffffffebaaedce6af48a03bbfd25e8cd0364141
e95e4a5f737059dc60df5991d45029409e60fc09
d7c134aa264366862a18302575d0fb98d116bc4b6ddebca3a5a7939f
a9fb57dba1eea9bc3e660a909d838d718c397aa3b561a6f7901e0e82974856a7
d35e472036bc4fb7e13c785ed201e065f98fcfa5b68f12a32d482ec7ee8658e98691555b44c59311
8cb91e82a3386d280f5d6f7e50e641df152f7109ed5456b31f166e6cac0425a7cf3ab6af6b7fc3103b883202e9046565
aadd9db8dbe9c48b3fd4e6ae33c9fc07cb308db3b3c9d20ed6639cca70330870553e5c414ca92619418661197fac10471db1d381085ddaddb58796829ca90069
df
d3
e5
`

// model is a curve's N in math/big's numbers, which share no code with the program,
// and how many bytes a half has.
type model struct {
	id int
	n  *big.Int
	k  int
}

func models() []model {
	var list []model
	for i, line := range strings.Fields(orders) {
		n, fine := new(big.Int).SetString(line, 16)
		if !fine {
			panic(line)
		}
		list = append(list, model{id: i + 1, n: n, k: len(n.Bytes())})
	}
	return list
}

func tinyModels() []model {
	return models()[api.CurveTiny1-1:]
}

// TestModels: a digit that is miswritten here would hardly leave N a prime. The bytes
// are counted by the digits of chapter 13 too.
func TestModels(t *testing.T) {
	t.Parallel()
	lines, list := strings.Fields(orders), models()
	if len(list) != 15 {
		t.Fatalf("%d curves", len(list))
	}
	for i, m := range list {
		if !m.n.ProbablyPrime(20) || 2*m.k != len(lines[i]) || m.k != (m.n.BitLen()+7)/8 {
			t.Errorf("curve %d: %x, %d bytes", m.id, m.n, m.k)
		}
	}
}

// eachCurve runs a test for each curve, of all curves at one time.
func eachCurve(t *testing.T, test func(t *testing.T, m model, r *rand.Rand)) {
	t.Helper()
	t.Parallel()
	for _, m := range models() {
		t.Run(strconv.Itoa(m.id), func(t *testing.T) {
			t.Parallel()
			test(t, m, rand.New(rand.NewSource(int64(m.id))))
		})
	}
}

// two is a signature in math/big's numbers.
type two struct {
	r, s *big.Int
}

func (x two) sig() api.Sig {
	return api.Sig{R: natOf(x.r), S: natOf(x.s)}
}

// half answers the bytes of a number, by math/big's own bytes.
func (m model) half(x *big.Int) string {
	return string(x.FillBytes(make([]byte, m.k)))
}

// write answers what Put is to write.
func (m model) write(x two) string {
	return m.half(x.r) + m.half(x.s)
}

// takes answers whether Put is to write x.
func (m model) takes(x two) bool {
	return x.r.Cmp(m.n) < 0 && x.s.Cmp(m.n) < 0
}

// read is the rule of P23.1 on Get, word by word.
func (m model) read(text string) (two, api.Errno) {
	if len(text) != 2*m.k {
		return two{}, api.ErrRawForm
	}
	x := two{new(big.Int).SetBytes([]byte(text[:m.k])), new(big.Int).SetBytes([]byte(text[m.k:]))}
	if !m.takes(x) {
		return two{}, api.ErrRawRange
	}
	return x, api.OK
}

func bigOf(a api.Nat) *big.Int {
	x := new(big.Int)
	for i := len(a.W) - 1; i >= 0; i-- {
		x.Lsh(x, 64).Or(x, new(big.Int).SetUint64(a.W[i]))
	}
	return x
}

// natOf answers x as a number, if it has room there.
func natOf(x *big.Int) api.Nat {
	if x.Sign() < 0 || x.BitLen() > 576 {
		panic(x)
	}
	var a api.Nat
	mask := new(big.Int).SetUint64(math.MaxUint64)
	for i := range a.W {
		part := new(big.Int).Rsh(x, uint(64*i))
		a.W[i] = part.And(part, mask).Uint64()
	}
	return a
}

// power answers 2^k and d.
func power(k int, d int64) *big.Int {
	return more(new(big.Int).Lsh(big.NewInt(1), uint(k)), d)
}

func more(x *big.Int, d int64) *big.Int {
	return new(big.Int).Add(x, big.NewInt(d))
}

// greatest is the greatest number that there is.
func greatest() *big.Int {
	return power(576, -1)
}

// full is the greatest number of k bytes.
func (m model) full() *big.Int {
	return power(8*m.k, -1)
}

// drawnOf answers a number of so many bits, if that is one below N.
func (m model) drawnOf(r *rand.Rand, bits int) *big.Int {
	x := new(big.Int)
	if bits == 0 {
		return x
	}
	x.Rand(r, power(bits-1, 0)).SetBit(x, bits-1, 1)
	if x.Cmp(m.n) >= 0 {
		return x.Rand(r, m.n)
	}
	return x
}

// drawn answers a number below N of any length.
func (m model) drawn(r *rand.Rand) *big.Int {
	return m.drawnOf(r, r.Intn(m.n.BitLen()+1))
}

func (m model) drawnTwo(r *rand.Rand) two {
	return two{m.drawn(r), m.drawn(r)}
}

// edges are the numbers below N around each power of 2, and those at the end.
func (m model) edges() []*big.Int {
	list := []*big.Int{big.NewInt(0), big.NewInt(255), big.NewInt(256), more(m.n, -2), more(m.n, -1)}
	for k := range m.n.BitLen() {
		for d := int64(-1); d <= 1; d++ {
			list = append(list, power(k, d))
		}
	}
	return m.sorted(list)
}

// sorted leaves out what is not below N and what is there twice.
func (m model) sorted(list []*big.Int) []*big.Int {
	list = slices.DeleteFunc(list, func(x *big.Int) bool { return x.Sign() < 0 || x.Cmp(m.n) >= 0 })
	slices.SortFunc(list, (*big.Int).Cmp)
	return slices.CompactFunc(list, func(x *big.Int, y *big.Int) bool { return x.Cmp(y) == 0 })
}

// few are the edges of bytes and of words, and drawn numbers.
func (m model) few(r *rand.Rand) []*big.Int {
	list := []*big.Int{big.NewInt(0), big.NewInt(1), big.NewInt(255), big.NewInt(256), more(m.n, -2), more(m.n, -1), new(big.Int).Rsh(m.n, 1)}
	for _, k := range []int{1, 7, 8, 16, 63, 64, 65, 127, 128, 8*m.k - 9, 8*m.k - 8, 8*m.k - 7} {
		for d := int64(-1); d <= 1; d++ {
			list = append(list, power(max(k, 0), d))
		}
	}
	return m.sorted(append(list, m.drawn(r), m.drawn(r), new(big.Int).Rand(r, m.n), new(big.Int).Rand(r, m.n)))
}

// fromNOn are numbers that are not below N: of as many bits, of more bits, of more
// bytes than k, and those that leave a small rest modulo N or modulo k's bytes.
func (m model) fromNOn(r *rand.Rand) []*big.Int {
	list := m.fromNInside(r)
	for k := m.n.BitLen(); k < 576; k++ {
		for d := int64(-1); d <= 1; d++ {
			list = append(list, power(k, d), new(big.Int).Add(power(k, d), m.n))
		}
	}
	for range 8 {
		x := new(big.Int).Rand(r, greatest())
		list = append(list, x, new(big.Int).Add(m.n, new(big.Int).Rsh(x, uint(r.Intn(576)))))
	}
	list = append(list, greatest(), more(greatest(), -1), power(575, 0))
	return slices.DeleteFunc(list, func(x *big.Int) bool { return x.Cmp(m.n) < 0 || x.BitLen() > 576 })
}

// fromNInside are those of k bytes.
func (m model) fromNInside(r *rand.Rand) []*big.Int {
	list := []*big.Int{m.n, more(m.n, 1), more(m.n, 2), more(m.full(), -1), m.full()}
	for i := range m.n.BitLen() {
		list = append(list, new(big.Int).Add(m.n, power(i, 0)), new(big.Int).Add(m.n, power(i, -1)))
	}
	room := new(big.Int).Sub(m.full(), m.n)
	for range 8 {
		list = append(list, new(big.Int).Add(m.n, new(big.Int).Rand(r, room)))
	}
	return slices.DeleteFunc(list, func(x *big.Int) bool { return x.Cmp(m.full()) > 0 })
}

// samples are signatures of all kinds.
func (m model) samples(r *rand.Rand) []two {
	zero, one, top := big.NewInt(0), big.NewInt(1), more(m.n, -1)
	list := []two{{zero, zero}, {zero, one}, {one, zero}, {one, one}, {zero, top}, {top, zero}, {top, top}, {one, top}, {top, one}}
	for range 8 {
		list = append(list, m.drawnTwo(r), two{new(big.Int).Rand(r, m.n), new(big.Int).Rand(r, m.n)})
	}
	return list
}

// strangers are ids that no curve has; the low bits of some are a curve's.
func strangers() []int {
	list := []int{0, 16, 17, 31, 32, -1, -2, -3, -13, -15, -16, 100, 2000, math.MaxInt, math.MaxInt - 1, math.MinInt, math.MinInt + 1, math.MaxInt32, math.MinInt32}
	for id := 1; id <= 15; id++ {
		list = append(list, id+16, id+256, id+1<<16, id+1<<32, id-16, id-256, id-1<<32, math.MinInt+id)
	}
	return slices.DeleteFunc(list, func(id int) bool { return 1 <= id && id <= 15 })
}

func unhex(t *testing.T, digits string) string {
	t.Helper()
	text, err := hex.DecodeString(digits)
	if err != nil {
		t.Fatalf("%s: %v", digits, err)
	}
	return string(text)
}
