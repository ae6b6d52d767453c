package der

import (
	"encoding/asn1"
	"encoding/hex"
	"math"
	"math/big"
	"math/rand"
	"testing"

	"curvet/api"
)

// two is a signature in math/big's numbers, which share no code with the program.
type two struct {
	R, S *big.Int
}

func (x two) sig() api.Sig {
	return api.Sig{R: natOf(x.R), S: natOf(x.S)}
}

// write answers what Put is to write, by the words of the chapter.
func (x two) write() string {
	inside := writeNumber(x.R) + writeNumber(x.S)
	return "\x30" + writeLength(len(inside)) + inside
}

func writeNumber(x *big.Int) string {
	digits := x.Bytes()
	if len(digits) == 0 || digits[0] > 127 {
		digits = append([]byte{0}, digits...)
	}
	return "\x02" + writeLength(len(digits)) + string(digits)
}

func writeLength(n int) string {
	if n > 255 {
		panic(n)
	}
	if n < 128 {
		return string([]byte{byte(n)})
	}
	return string([]byte{129, byte(n)})
}

// read answers the signature that a text is, if it is one, field by field; Go's
// library is to say the same (see TestModel).
func read(text string) (two, bool) {
	if len(text) > 2*(2+73)+3 {
		return two{}, false
	}
	inside, behind, fine := readField(text, 48)
	if !fine || behind != "" {
		return two{}, false
	}
	r, inside, fine := readNumber(inside)
	if !fine {
		return two{}, false
	}
	s, behind, fine := readNumber(inside)
	if !fine || behind != "" {
		return two{}, false
	}
	return two{r, s}, true
}

// readField answers what stands in a field of a kind, and what stands behind it.
func readField(text string, kind byte) (string, string, bool) {
	if len(text) < 2 || text[0] != kind {
		return "", "", false
	}
	size, text := int(text[1]), text[2:]
	if size > 129 || size == 128 {
		return "", "", false
	}
	if size == 129 {
		if text == "" || text[0] < 128 {
			return "", "", false
		}
		size, text = int(text[0]), text[1:]
	}
	if len(text) < size {
		return "", "", false
	}
	return text[:size], text[size:], true
}

func readNumber(text string) (*big.Int, string, bool) {
	inside, behind, fine := readField(text, 2)
	if !fine || inside == "" || inside[0] > 127 {
		return nil, "", false
	}
	if len(inside) > 1 && inside[0] == 0 && inside[1] < 128 {
		return nil, "", false
	}
	x := new(big.Int).SetBytes([]byte(inside))
	return x, behind, x.BitLen() <= 576
}

// readAsGo is what Go's library says of a text. It reads on where something stands
// behind a pair or at its end, and reads numbers below 0 and longer ones.
func readAsGo(text string) (two, bool) {
	var x two
	rest, e := asn1.Unmarshal([]byte(text), &x)
	if e != nil || len(rest) != 0 || x.R.Sign() < 0 || x.S.Sign() < 0 || x.R.BitLen() > 576 || x.S.BitLen() > 576 {
		return two{}, false
	}
	again, e := asn1.Marshal(x)
	return x, e == nil && string(again) == text
}

func bigOf(a api.Nat) *big.Int {
	x := new(big.Int)
	for i := len(a.W) - 1; i >= 0; i-- {
		x.Lsh(x, 64).Or(x, new(big.Int).SetUint64(a.W[i]))
	}
	return x
}

// natOf answers x as a number, if it has room there.
func natOf(x *big.Int) api.Nat {
	if x.Sign() < 0 || x.BitLen() > 576 {
		panic(x)
	}
	var a api.Nat
	mask := new(big.Int).SetUint64(math.MaxUint64)
	for i := range a.W {
		part := new(big.Int).Rsh(x, uint(64*i))
		a.W[i] = part.And(part, mask).Uint64()
	}
	return a
}

// power answers 2^k and d.
func power(k int, d int64) *big.Int {
	x := new(big.Int).Lsh(big.NewInt(1), uint(k))
	return x.Add(x, big.NewInt(d))
}

// greatest is the greatest number that there is.
func greatest() *big.Int {
	return power(576, -1)
}

// edges are the numbers around each power of 2, as far as there are such.
func edges() []*big.Int {
	list := []*big.Int{big.NewInt(0)}
	for k := range 577 {
		for d := int64(-1); d <= 1; d++ {
			if x := power(k, d); x.BitLen() <= 576 {
				list = append(list, x)
			}
		}
	}
	return list
}

// few are the edges of bytes, of words and of all bits.
func few() []*big.Int {
	list := []*big.Int{big.NewInt(0)}
	for _, k := range []int{0, 1, 7, 8, 9, 15, 16, 63, 64, 65, 127, 128, 255, 256, 511, 512, 521, 567, 568, 575} {
		for d := int64(-1); d <= 1; d++ {
			list = append(list, power(k, d))
		}
	}
	return append(list, power(576, -2), greatest())
}

// drawn answers a number of so many bytes, the first of which is not 0.
func drawn(r *rand.Rand, size int) *big.Int {
	b := make([]byte, size)
	r.Read(b)
	if size > 0 && b[0] == 0 {
		b[0] = byte(1 + r.Intn(255))
	}
	return new(big.Int).SetBytes(b)
}

// full answers a number of so many bytes whose first bit is 1.
func full(r *rand.Rand, size int) *big.Int {
	x := drawn(r, size)
	if size > 0 {
		x.SetBit(x, 8*size-1, 1)
	}
	return x
}

// drawnTwo answers a signature whose numbers have any length.
func drawnTwo(r *rand.Rand) two {
	return two{drawn(r, r.Intn(73)), drawn(r, r.Intn(73))}
}

// samples are signatures whose texts have a length byte of both forms, numbers with
// a byte 0 ahead and without one.
func samples(r *rand.Rand) []two {
	zero, one, top := big.NewInt(0), big.NewInt(1), greatest()
	list := []two{
		{zero, zero}, {zero, one}, {one, zero}, {big.NewInt(127), big.NewInt(128)}, {big.NewInt(255), big.NewInt(256)},
		{zero, top}, {top, zero}, {top, top}, {power(575, 0), power(575, -1)}, {power(568, 0), power(8, 0)},
	}
	for _, size := range []int{20, 28, 32, 48, 61, 62, 64, 66, 72} {
		list = append(list, two{drawn(r, size), drawn(r, size)})
	}
	return append(list, two{power(490, 0), power(487, -1)}, two{power(490, 0), power(495, -1)}, two{power(495, 0), power(495, -1)})
}

func unhex(t *testing.T, s string) string {
	t.Helper()
	b, e := hex.DecodeString(s)
	if e != nil {
		t.Fatal(e)
	}
	return string(b)
}
