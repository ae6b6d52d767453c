package der

import (
	"crypto/ecdsa"
	"crypto/elliptic"
	"encoding/asn1"
	"math/big"
	"math/rand"
	"slices"
	"strings"
	"sync"
	"testing"

	"curvet/api"
)

func checkPut(t *testing.T, x two) {
	t.Helper()
	if got := Put(x.sig()); got != x.write() {
		t.Fatalf("%x, %x: %x; not %x", x.R, x.S, got, x.write())
	}
}

// checkTaken: a text is taken for x, and written as it stood.
func checkTaken(t *testing.T, text string, x two) {
	t.Helper()
	got, errno := Get(text)
	if got != x.sig() || errno != api.OK {
		t.Fatalf("%x: %v, %d; not %v", text, got, errno, x.sig())
	}
	if again := Put(got); again != text {
		t.Fatalf("%x came back as %x", text, again)
	}
}

// checkNone: beside the error the signature is a zero value.
func checkNone(t *testing.T, text string) {
	t.Helper()
	if got, errno := Get(text); got != (api.Sig{}) || errno != api.ErrDerForm {
		t.Fatalf("%d bytes, %x: %v, %d", len(text), beginning(text), got, errno)
	}
}

// beginning answers no more of a text than is good to read.
func beginning(text string) string {
	return text[:min(len(text), 200)]
}

// checkRead: a text is taken or refused as the model reads it.
func checkRead(t *testing.T, text string) {
	t.Helper()
	if x, fine := read(text); fine {
		checkTaken(t, text, x)
	} else {
		checkNone(t, text)
	}
}

// checkBoth: a signature is written and comes back.
func checkBoth(t *testing.T, x two) {
	t.Helper()
	checkPut(t, x)
	checkTaken(t, x.write(), x)
}

// TestModel: what the other tests hold the program against says what Go's library
// says.
func TestModel(t *testing.T) {
	t.Parallel()
	r := rand.New(rand.NewSource(1))
	for range 5000 {
		x := drawnTwo(r)
		if b, e := asn1.Marshal(x); e != nil || string(b) != x.write() {
			t.Fatalf("%x, %x: %x", x.R, x.S, b)
		}
		for _, text := range []string{x.write(), drawnText(r, x)} {
			got, fine := read(text)
			want, same := readAsGo(text)
			if fine != same || fine && (got.R.Cmp(want.R) != 0 || got.S.Cmp(want.S) != 0) {
				t.Fatalf("%x: %v; %v", text, fine, same)
			}
		}
	}
}

// drawnText answers a signature's text with one thing or two changed.
func drawnText(r *rand.Rand, x two) string {
	text := []byte(x.write())
	for range 1 + r.Intn(2) {
		at := r.Intn(len(text))
		if r.Intn(2) == 0 {
			at = min(at, 5)
		}
		switch r.Intn(5) {
		case 0:
			text[at] ^= 1 << r.Intn(8)
		case 1:
			text[at] = []byte{0, 1, 2, 48, 127, 128, 129, 130, 255}[r.Intn(9)]
		case 2:
			text = slices.Insert(text, at, byte(r.Intn(3)*64))
		case 3:
			text[1] += byte(1 - 2*r.Intn(2))
			text = slices.Insert(text, at, 0)
		case 4:
			if len(text) > 6 {
				text = slices.Delete(text, at, at+1)
			}
		}
	}
	return string(text)
}

// P22.1: what is written

// TestWritten: rows that were written by hand.
func TestWritten(t *testing.T) {
	t.Parallel()
	for _, c := range []struct{ r, s, want string }{
		{"0", "0", "3006020100020100"},
		{"1", "0", "3006020101020100"},
		{"0", "1", "3006020100020101"},
		{"7f", "1", "300602017f020101"},
		{"1", "7f", "300602010102017f"},
		{"80", "1", "300702020080020101"},
		{"1", "80", "300702010102020080"},
		{"ff", "100", "3008020200ff02020100"},
		{"100", "ff", "300802020100020200ff"},
		{"7fff", "8000", "300902027fff0203008000"},
		{"123456789abcdef0", "fedcba9876543210", "30150208123456789abcdef0020900fedcba9876543210"},
		{"10000000000000000", "ffffffffffffffff", "301602090100000000000000000209" + "00ffffffffffffffff"},
	} {
		x := two{big.NewInt(0), big.NewInt(0)}
		x.R.SetString(c.r, 16)
		x.S.SetString(c.s, 16)
		if got := Put(x.sig()); got != unhex(t, c.want) {
			t.Errorf("%s, %s: %x", c.r, c.s, got)
		}
		checkTaken(t, unhex(t, c.want), x)
	}
}

// TestGreatest: the greatest number has 73 bytes, and a pair of it 150.
func TestGreatest(t *testing.T) {
	t.Parallel()
	top := "\x02\x49\x00" + strings.Repeat("\xff", 72)
	x := two{greatest(), greatest()}
	if got := Put(x.sig()); got != "\x30\x81\x96"+top+top {
		t.Errorf("%x", got)
	}
	checkBoth(t, x)
}

// TestEdges: every number around a power of 2, with the least, with the greatest and
// with itself, as R and as S.
func TestEdges(t *testing.T) {
	t.Parallel()
	for _, x := range edges() {
		for _, y := range []*big.Int{big.NewInt(0), big.NewInt(128), x, greatest()} {
			checkBoth(t, two{x, y})
			checkBoth(t, two{y, x})
		}
	}
}

func TestEdgesTogether(t *testing.T) {
	t.Parallel()
	list := few()
	for _, x := range list {
		for _, y := range list {
			checkBoth(t, two{x, y})
		}
	}
}

// TestEachLength: of R, of S, and so of both together, around the length that a byte
// of its own does not tell.
func TestEachLength(t *testing.T) {
	t.Parallel()
	r := rand.New(rand.NewSource(2))
	var seen [256]int
	for i := range 73 {
		for j := range 73 {
			for _, x := range []two{{drawn(r, i), drawn(r, j)}, {full(r, i), full(r, j)}, {drawn(r, i), full(r, j)}, {full(r, i), drawn(r, j)}} {
				checkBoth(t, x)
				seen[insideOf(t, x)]++
			}
		}
	}
	for size := 6; size <= 150; size++ {
		if seen[size] == 0 {
			t.Errorf("no pair of %d bytes", size)
		}
	}
}

// insideOf answers how many bytes stand in a pair, and looks at what is ahead of them.
func insideOf(t *testing.T, x two) int {
	t.Helper()
	text := Put(x.sig())
	count := len(text) - 2
	if count >= 128 {
		count--
	}
	if head := text[:len(text)-count]; head != "\x30"+writeLength(count) {
		t.Fatalf("%d bytes behind %x", count, head)
	}
	return count
}

// TestFirstBytes: each first byte of a number of each length, and each second one
// behind a first of 0: a number is as long as its first byte that is not 0 says.
func TestFirstBytes(t *testing.T) {
	t.Parallel()
	r := rand.New(rand.NewSource(3))
	for size := 1; size <= 72; size++ {
		for first := range 256 {
			b := make([]byte, size)
			r.Read(b)
			b[0] = byte(first)
			x := two{new(big.Int).SetBytes(b), drawn(r, r.Intn(73))}
			checkBoth(t, x)
			checkBoth(t, two{x.S, x.R})
		}
	}
}

func TestDrawn(t *testing.T) {
	t.Parallel()
	r := rand.New(rand.NewSource(4))
	for range 20000 {
		checkBoth(t, drawnTwo(r))
	}
}

// TestEachBit: a number with one bit has no other when it comes back.
func TestEachBit(t *testing.T) {
	t.Parallel()
	for i := range 576 {
		for j := range 9 {
			checkBoth(t, two{power(i, 0), power(64*j, 0)})
			checkBoth(t, two{power(64*j, 0), power(i, 0)})
		}
	}
}

// P22.1: what is refused

// TestCut: no text that is cut, ahead or at the end, is taken.
func TestCut(t *testing.T) {
	t.Parallel()
	for _, x := range samples(rand.New(rand.NewSource(5))) {
		text := x.write()
		for i := range text {
			checkNone(t, text[:i])
			if i > 0 {
				checkNone(t, text[i:])
			}
		}
	}
}

// TestCutAndTold: the same, where the whole's length tells how much is left.
func TestCutAndTold(t *testing.T) {
	t.Parallel()
	for _, x := range samples(rand.New(rand.NewSource(6))) {
		inside := writeNumber(x.R) + writeNumber(x.S)
		for i := range inside {
			checkNone(t, pairOf(inside[:i]))
		}
		for i := 1; i < len(inside); i++ {
			checkRead(t, pairOf(inside[i:]))
		}
	}
}

// pairOf answers what stands in a pair with what is ahead of it.
func pairOf(inside string) string {
	return "\x30" + writeLength(len(inside)) + inside
}

// TestBehind: nothing stands behind a pair.
func TestBehind(t *testing.T) {
	t.Parallel()
	for _, x := range samples(rand.New(rand.NewSource(7))) {
		text := x.write()
		for b := range 256 {
			checkNone(t, text+string([]byte{byte(b)}))
		}
		for _, more := range []string{"\x00\x00", "\x05\x00", "\x02\x01\x00", "\x02\x00", text, strings.Repeat("\x00", 100), strings.Repeat("\xff", 1000)} {
			checkNone(t, text+more)
			checkNone(t, more+text)
		}
	}
}

// TestByteInside: a byte more anywhere, with the lengths as they were.
func TestByteInside(t *testing.T) {
	t.Parallel()
	for _, x := range samples(rand.New(rand.NewSource(8))) {
		text := x.write()
		for i := range len(text) + 1 {
			for _, b := range []byte{0, 1, 2, 48, 127, 128, 129, 255} {
				checkNone(t, text[:i]+string([]byte{b})+text[i:])
			}
		}
	}
}

// TestMoreInside: more than two numbers in a pair, or fewer, or other things.
func TestMoreInside(t *testing.T) {
	t.Parallel()
	for _, x := range samples(rand.New(rand.NewSource(9))) {
		r, s := writeNumber(x.R), writeNumber(x.S)
		for _, more := range []string{"\x00", "\x00\x00", "\x05\x00", "\x02\x00", "\x02\x01\x00", "\x02\x01\x01", "\x30\x00"} {
			checkNone(t, pairOf(r+s+more))
			checkNone(t, pairOf(r+more+s))
			checkNone(t, pairOf(more+r+s))
			checkRead(t, pairOf(r+more))
			checkRead(t, pairOf(more+s))
		}
		checkNone(t, pairOf(r+s+"\x02"))
		checkRead(t, pairOf(r+"\x02"+s)) // 2, 2, 1 and 0 are a number of two bytes
		checkRead(t, pairOf("\x02"+r+s))
		checkNone(t, pairOf(r))
		checkNone(t, pairOf(""))
		checkNone(t, r+s)
		checkNone(t, pairOf(pairOf(r+s)))
		checkNone(t, pairOf(pairOf(r)+s))
		checkNone(t, pairOf(r+pairOf(s)))
		checkNone(t, pairOf(r)+s)
	}
}

// TestTurnedBits: any one bit of a text that is turned makes another signature's
// text or none.
func TestTurnedBits(t *testing.T) {
	t.Parallel()
	for _, x := range samples(rand.New(rand.NewSource(10))) {
		text := x.write()
		for i := range 8 * len(text) {
			b := []byte(text)
			b[i/8] ^= 1 << (i % 8)
			checkRead(t, string(b))
		}
	}
}

// TestTurnedBytes: so does any one byte.
func TestTurnedBytes(t *testing.T) {
	t.Parallel()
	for _, x := range samples(rand.New(rand.NewSource(11))) {
		text := x.write()
		for i := range text {
			for b := range 256 {
				other := []byte(text)
				other[i] = byte(b)
				checkRead(t, string(other))
			}
		}
	}
}

// TestKinds: one byte alone begins a pair, and one alone a number.
func TestKinds(t *testing.T) {
	t.Parallel()
	for _, x := range samples(rand.New(rand.NewSource(12))) {
		text, inside, r := x.write(), writeNumber(x.R)+writeNumber(x.S), len(writeNumber(x.R))
		for b := range 256 {
			kind := string([]byte{byte(b)})
			if b != 48 {
				checkNone(t, kind+text[1:])
			}
			if b != 2 {
				checkNone(t, pairOf(kind+inside[1:]))
				checkNone(t, pairOf(inside[:r]+kind+inside[r+1:]))
				checkNone(t, pairOf(kind+inside[1:r]+kind+inside[r+1:]))
			}
		}
	}
}

// TestLengths: any one length, of the whole, of R or of S, that is not the right one.
// A number whose last bytes are as a field's first ones may be longer.
func TestLengths(t *testing.T) {
	t.Parallel()
	for _, x := range samples(rand.New(rand.NewSource(13))) {
		inside, r := writeNumber(x.R)+writeNumber(x.S), len(writeNumber(x.R))
		for n := range 256 {
			size := string([]byte{byte(n)})
			if n != len(inside) {
				checkNone(t, "\x30"+writeLength(n)+inside)
			}
			checkRead(t, pairOf("\x02"+size+inside[2:]))
			if n != int(inside[r+1]) {
				checkNone(t, pairOf(inside[:r+1]+size+inside[r+2:]))
			}
		}
	}
}

// TestOneBeside: lengths that are one too small or one too great, with the bytes
// that they tell.
func TestOneBeside(t *testing.T) {
	t.Parallel()
	for _, x := range samples(rand.New(rand.NewSource(14))) {
		r, s := writeNumber(x.R), writeNumber(x.S)
		for _, d := range []int{-1, 1} {
			checkNone(t, "\x30"+writeLength(len(r+s)+d)+r+s)
			checkRead(t, pairOf(beside(r, d)+s)) // 255 and 256 may be 65282 and 0
			checkNone(t, pairOf(r+beside(s, d)))
			checkRead(t, pairOf(beside(r, d)+beside(s, -d)))
			checkRead(t, pairOf(beside(r, d)+beside(s, d)))
		}
		checkNone(t, "\x30"+writeLength(len(r+s)+1)+r+s+"\x00")
		checkNone(t, "\x30"+writeLength(len(r+s)-1)+(r + s)[:len(r+s)-1])
		checkNone(t, "\x30"+writeLength(len(r+s)-1)+(r + s)[1:])
	}
}

// beside answers a number's field whose length is d beside the right one.
func beside(field string, d int) string {
	return field[:1] + string([]byte{byte(int(field[1]) + d)}) + field[2:]
}

// TestFormsOfLengths: one length is written in one form alone.
func TestFormsOfLengths(t *testing.T) {
	t.Parallel()
	for _, x := range samples(rand.New(rand.NewSource(15))) {
		r, s := writeNumber(x.R), writeNumber(x.S)
		n := byte(len(r + s))
		for _, size := range []string{
			"\x80", "\xff", string([]byte{130, 0, n}), string([]byte{131, 0, 0, n}), string([]byte{132, 0, 0, 0, n}),
			string([]byte{130, n, 0}), string([]byte{130, n}), string([]byte{128, n}), string([]byte{255, n}), string([]byte{255, 0, n}),
			string([]byte{129, 0, n}), string([]byte{129, 129, n}), "\x88" + strings.Repeat("\x00", 7) + string([]byte{n}),
		} {
			checkNone(t, "\x30"+size+r+s)
			checkNone(t, "\x30"+size+r+s+"\x00\x00")
		}
		checkRead(t, "\x30\x81"+string([]byte{n})+r+s)
		checkRead(t, "\x30"+string([]byte{n})+r+s)
		for _, form := range []string{"\x81", "\x82\x00", "\x83\x00\x00", "\x80", "\xff"} {
			checkNone(t, pairOf(r[:1]+form+r[1:]+s))
			checkNone(t, pairOf(r+s[:1]+form+s[1:]))
		}
		checkNone(t, "\x30\x80"+r+s+"\x00\x00")
		checkNone(t, pairOf("\x02\x80"+r[2:]+"\x00\x00"+s))
	}
}

// TestLengthForms: around 128 just one of both forms is taken.
func TestLengthForms(t *testing.T) {
	t.Parallel()
	for size := 120; size <= 140; size++ {
		x := two{power(8*63, 1), power(8*(size-69), 5)} // 64 bytes and size - 68
		inside := writeNumber(x.R) + writeNumber(x.S)
		short, long := "\x30"+string([]byte{byte(size)})+inside, "\x30\x81"+string([]byte{byte(size)})+inside
		if size < 128 {
			checkTaken(t, short, x)
			checkNone(t, long)
		} else {
			checkNone(t, short)
			checkTaken(t, long, x)
		}
	}
}

// TestZerosAhead: a byte 0 ahead stands just where the number would be one below 0
// without it.
func TestZerosAhead(t *testing.T) {
	t.Parallel()
	r := rand.New(rand.NewSource(17))
	for size := range 80 {
		for zeros := range 4 {
			for _, first := range []byte{0, 1, 127, 128, 255} {
				b := make([]byte, zeros+size)
				r.Read(b[zeros:])
				if size > 0 {
					b[zeros] = first
				}
				for _, other := range []*big.Int{big.NewInt(0), greatest()} {
					s := writeNumber(other)
					checkRead(t, pairOf("\x02"+writeLength(len(b))+string(b)+s))
					checkRead(t, pairOf(s+"\x02"+writeLength(len(b))+string(b)))
				}
			}
		}
	}
}

// TestBelowZero: without its byte 0 ahead a number is refused, and so is any number
// whose first byte is 128 or more.
func TestBelowZero(t *testing.T) {
	t.Parallel()
	r := rand.New(rand.NewSource(18))
	for size := 1; size <= 76; size++ {
		for first := 128; first < 256; first++ {
			b := make([]byte, size)
			r.Read(b)
			b[0] = byte(first)
			s := writeNumber(drawn(r, r.Intn(73)))
			wrong := "\x02" + string([]byte{byte(size)}) + string(b)
			checkNone(t, pairOf(wrong+s))
			checkNone(t, pairOf(s+wrong))
			checkNone(t, pairOf(wrong+wrong))
		}
	}
}

func TestNoBytes(t *testing.T) {
	t.Parallel()
	for _, x := range samples(rand.New(rand.NewSource(19))) {
		r, s := writeNumber(x.R), writeNumber(x.S)
		checkNone(t, pairOf("\x02\x00"+s))
		checkNone(t, pairOf(r+"\x02\x00"))
		checkNone(t, pairOf("\x02\x00\x02\x00"))
	}
}

// TestLongNumbers: from 73 bytes on, of which a byte 0 ahead is one if the next is 128
// or more, a number has no room.
func TestLongNumbers(t *testing.T) {
	t.Parallel()
	one := writeNumber(big.NewInt(1))
	for _, x := range []*big.Int{
		power(576, 0), power(576, 1), power(577, -1), power(583, -1), power(583, 0), power(584, -1), power(584, 0), power(639, 0), power(640, 0), power(800, 5), power(1000, -1),
	} {
		long := writeNumber(x)
		checkNone(t, pairOf(long+one))
		checkNone(t, pairOf(one+long))
	}
	for size := 73; size <= 300; size++ {
		for _, first := range []byte{0, 1, 127, 128, 255} {
			for _, rest := range []string{"\x00", "\x80", "\xff"} {
				wrong := string([]byte{first}) + strings.Repeat(rest, size-1)
				for _, head := range []string{string([]byte{2, byte(size)}), string([]byte{2, 129, byte(size)}), string([]byte{2, 130, byte(size >> 8), byte(size)})} {
					checkAround(t, head+wrong, one)
				}
			}
		}
	}
}

// checkAround: a pair of a number's field and another, in any form of the length.
func checkAround(t *testing.T, wrong string, other string) {
	t.Helper()
	for _, inside := range []string{wrong + other, other + wrong, wrong + wrong} {
		n := len(inside)
		for _, size := range [][]byte{{byte(n)}, {129, byte(n)}, {130, byte(n >> 8), byte(n)}} {
			checkRead(t, "\x30"+string(size)+inside)
		}
	}
}

// TestSeventyThree: of 73 bytes one is 0 and ahead of 128 or more.
func TestSeventyThree(t *testing.T) {
	t.Parallel()
	one, many := writeNumber(big.NewInt(1)), strings.Repeat("\x55", 71)
	fine := "\x02\x49\x00\x80" + many
	x := new(big.Int).SetBytes([]byte("\x80" + many))
	checkTaken(t, pairOf(fine+one), two{x, big.NewInt(1)})
	checkTaken(t, pairOf(one+fine), two{big.NewInt(1), x})
	for _, wrong := range []string{
		"\x02\x49\x00\x7f" + many, "\x02\x49\x01\x80" + many, "\x02\x49\x7f\xff" + many, "\x02\x49\x80\x00" + many, "\x02\x48\x80" + many,
		"\x02\x4a\x00\x00\x80" + many, "\x02\x4a\x00\x80\x00" + many, "\x02\x4a\x01\x80\x00" + many, "\x02\x81\x49\x00\x80" + many,
	} {
		checkNone(t, pairOf(wrong+one))
		checkNone(t, pairOf(one+wrong))
		checkNone(t, pairOf(wrong+fine))
		checkNone(t, pairOf(fine+wrong))
	}
}

// TestShortTexts: no text of up to three bytes is taken, nor one of up to 7 with the
// bytes that texts are made of; of 8 those that the model reads.
func TestShortTexts(t *testing.T) {
	t.Parallel()
	checkNone(t, "")
	for a := range 256 {
		checkNone(t, string([]byte{byte(a)}))
		for b := range 256 {
			checkNone(t, string([]byte{byte(a), byte(b)}))
		}
	}
	walk(t, "0", 3, "\x00\x01\x02\x03\x06\x07\x30\x7f\x80\x81\x82\xff")
	walk(t, "", 8, "\x00\x01\x02\x06\x30")
	walk(t, "0\x06\x02", 5, "\x00\x01\x02\x7f\x80\x81\xff")
	walk(t, "0\x07\x02", 6, "\x00\x01\x02\x03\x7f\x80")
}

// walk: each text that begins so, with up to so many of the bytes behind it.
func walk(t *testing.T, text string, more int, bytes string) {
	t.Helper()
	checkRead(t, text)
	if more == 0 {
		return
	}
	for i := range bytes {
		walk(t, text+bytes[i:i+1], more-1, bytes)
	}
}

// TestAnyBytes: texts that are nothing, of each length.
func TestAnyBytes(t *testing.T) {
	t.Parallel()
	r := rand.New(rand.NewSource(20))
	for size := range 400 {
		for range 20 {
			b := make([]byte, size)
			r.Read(b)
			checkRead(t, string(b))
			for i, head := range []byte{48, byte(size - 2), 2} {
				if i < size {
					b[i] = head
				}
			}
			checkRead(t, string(b))
		}
		for _, b := range []string{"\x00", "\x02", "\x30", "\x80", "\x81", "\xff"} {
			checkNone(t, strings.Repeat(b, size))
		}
	}
}

// TestChanged: signatures' texts with one thing or two changed, that the model reads
// or refuses.
func TestChanged(t *testing.T) {
	t.Parallel()
	r := rand.New(rand.NewSource(21))
	taken := 0
	const all = 50000
	for range all {
		text := drawnText(r, drawnTwo(r))
		checkRead(t, text)
		if _, fine := read(text); fine {
			taken++
		}
	}
	if taken < all/20 || taken > all-all/20 {
		t.Errorf("%d of %d are taken", taken, all)
	}
}

// TestVeryLong: texts of millions of bytes, whatever they tell of their length.
func TestVeryLong(t *testing.T) {
	t.Parallel()
	x := two{greatest(), power(575, 0)}
	for _, much := range []string{strings.Repeat("\x00", 1<<22), strings.Repeat("\xff", 1<<22), strings.Repeat(x.write(), 1<<15)} {
		for _, head := range []string{
			"", "\x30", "\x30\x06", "\x30\x81\xff", "\x30\x83\x40\x00\x00", "\x30\x84\x00\x40\x00\x00", "\x30\x88\xff\xff\xff\xff\xff\xff\xff\xff",
			"\x30\x81\xff\x02\x81\xff", "\x30\x84\x00\x40\x00\x06\x02\x84\x00\x40\x00\x00", "\x30\x81\x96\x02\x49", "\x30\x81\x96\x02\x49\x00\xff", x.write(),
		} {
			checkNone(t, head+much)
			checkNone(t, much+head)
		}
		for range 1000 {
			checkNone(t, much)
		}
	}
}

// P22.2

// TestThereAndBack: by the program alone.
func TestThereAndBack(t *testing.T) {
	t.Parallel()
	r := rand.New(rand.NewSource(22))
	for range 20000 {
		var s api.Sig
		for i := range r.Intn(10) {
			s.R.W[i] = r.Uint64() >> r.Intn(64)
		}
		for i := range r.Intn(10) {
			s.S.W[i] = r.Uint64() >> r.Intn(64)
		}
		if got, errno := Get(Put(s)); got != s || errno != api.OK {
			t.Fatalf("%v: %v, %d", s, got, errno)
		}
	}
}

// TestOneText: two signatures never have one text, nor does one stand ahead in another.
func TestOneText(t *testing.T) {
	t.Parallel()
	list := few()
	var texts []string
	for _, x := range list {
		for _, y := range list {
			texts = append(texts, Put(two{x, y}.sig()))
		}
	}
	slices.Sort(texts)
	texts = slices.Compact(texts)
	var different []string
	for _, x := range list {
		different = append(different, x.String())
	}
	slices.Sort(different)
	if count := len(slices.Compact(different)); len(texts) != count*count {
		t.Errorf("%d texts of %d numbers", len(texts), count)
	}
	for i := 1; i < len(texts); i++ {
		if strings.HasPrefix(texts[i], texts[i-1]) {
			t.Errorf("%x begins as %x", texts[i], texts[i-1])
		}
	}
}

// TestPlaces: R is the first of both.
func TestPlaces(t *testing.T) {
	t.Parallel()
	r := rand.New(rand.NewSource(23))
	for range 1000 {
		x := drawnTwo(r)
		one, e := Get(x.write())
		other, f := Get(two{x.S, x.R}.write())
		if one.R != other.S || one.S != other.R || bigOf(one.R).Cmp(x.R) != 0 || bigOf(one.S).Cmp(x.S) != 0 || e != api.OK || f != api.OK {
			t.Fatalf("%x, %x: %v, %v", x.R, x.S, one, other)
		}
	}
}

// P22.1: as others write and read

// TestAgainstGo: Go's library writes and reads the same.
func TestAgainstGo(t *testing.T) {
	t.Parallel()
	r := rand.New(rand.NewSource(24))
	for range 5000 {
		x := drawnTwo(r)
		b, e := asn1.Marshal(x)
		if e != nil || Put(x.sig()) != string(b) {
			t.Fatalf("%x, %x: %x", x.R, x.S, b)
		}
		text := drawnText(r, x)
		want, fine := readAsGo(text)
		if fine {
			checkTaken(t, text, want)
		} else {
			checkNone(t, text)
		}
	}
}

// TestSigned: what Go's library signs is taken, and what is written anew it verifies.
func TestSigned(t *testing.T) {
	t.Parallel()
	r := rand.New(rand.NewSource(25))
	for _, c := range []elliptic.Curve{elliptic.P224(), elliptic.P256(), elliptic.P384(), elliptic.P521()} {
		key, e := ecdsa.GenerateKey(c, r)
		if e != nil {
			t.Fatal(e)
		}
		for range 20 {
			digest := make([]byte, 32)
			r.Read(digest)
			text, e := ecdsa.SignASN1(r, key, digest)
			if e != nil {
				t.Fatal(e)
			}
			got, errno := Get(string(text))
			if errno != api.OK || !ecdsa.Verify(&key.PublicKey, digest, bigOf(got.R), bigOf(got.S)) {
				t.Fatalf("%x: %v, %d", text, got, errno)
			}
			if again := Put(got); again != string(text) || !ecdsa.VerifyASN1(&key.PublicKey, digest, []byte(again)) {
				t.Fatalf("%x came back as %x", text, again)
			}
		}
	}
}

// openSSL are signatures as i2d_ECDSA_SIG of OpenSSL 3.0 wrote them: R, S and the
// text; drawn numbers as long as those of the curves, numbers whose pair has around
// 128 bytes, and the longest.
const openSSL = `
0 0 3006020100020100
0 7f 300602010002017f
80 0 300702020080020100
ff 100 3008020200ff02020100
860bb5253e1c26d323ef323ee848f808f54d35bf 59d9a0362f2b3f2c72775666ffa642399cf342ca 302d021500860bb5253e1c26d323ef323ee848f808f54d35bf021459d9a0362f2b3f2c72775666ffa642399cf342ca
cae64fa6587c2e15e0ed9827a6c38ad2bd55fcad1edf1f1e 465b4d5bf5a0d02e44ee9bd73b53690a14646e57e3b99c58 3035021900cae64fa6587c2e15e0ed9827a6c38ad2bd55fcad1edf1f1e0218465b4d5bf5a0d02e44ee9bd73b53690a14646e57e3b99c58
af6d39398d4fc201ee9d4b092ddbd20899e47610f9e20aa751c7987e 49dfddc50c6695ffe232a3dab54705e46e15336bec816103bbae4d5f 303d021d00af6d39398d4fc201ee9d4b092ddbd20899e47610f9e20aa751c7987e021c49dfddc50c6695ffe232a3dab54705e46e15336bec816103bbae4d5f
ae37499e30ac8b566be8a4d74f88cda74393b3a296ed215605752205e1a14b1b 7dd45407c621ba26ba983107f0200a7787e54b499533f2491c8fb400d98d0c6c 3045022100ae37499e30ac8b566be8a4d74f88cda74393b3a296ed215605752205e1a14b1b02207dd45407c621ba26ba983107f0200a7787e54b499533f2491c8fb400d98d0c6c
af3835fa422737a355b650d19cc14e74539129deb2c9612d0fa8f64290f9e229f3427d74f610ae8c 83ea22e7a69fcff2f4c0c5f7f462ea71dee6ea94c7f6cc42e69660c34ffe307a64a75371f4eb6820 3056022900af3835fa422737a355b650d19cc14e74539129deb2c9612d0fa8f64290f9e229f3427d74f610ae8c02290083ea22e7a69fcff2f4c0c5f7f462ea71dee6ea94c7f6cc42e69660c34ffe307a64a75371f4eb6820
e6b6ab9e8825217357a8b8930c9376906e91a2a32f5e04e2b11f86fdaae15479454649d7d3420229478f02262468c08f 1d9538da93748e465b3826868d132fae1da5ffc846e893e48c63e18819b8bb44067da30ecd21a066b5ce807084279a7 3065023100e6b6ab9e8825217357a8b8930c9376906e91a2a32f5e04e2b11f86fdaae15479454649d7d3420229478f02262468c08f023001d9538da93748e465b3826868d132fae1da5ffc846e893e48c63e18819b8bb44067da30ecd21a066b5ce807084279a7
777c015286f2515a8b09f22c8fb18f9d987b806393561ca94c1d10fb0673b6899524df2865afc9a55faff222903295ed4eaba0352f52d9feea9d5b1a 76f90edcf376671e1ba7c7fe874f6e87c7ad193bf4905b0f22647198ae0cff1995d8172f7e96168e57646d664ecb873ac894e6328b8bac594e8dc1ee8e46 307e023c777c015286f2515a8b09f22c8fb18f9d987b806393561ca94c1d10fb0673b6899524df2865afc9a55faff222903295ed4eaba0352f52d9feea9d5b1a023e76f90edcf376671e1ba7c7fe874f6e87c7ad193bf4905b0f22647198ae0cff1995d8172f7e96168e57646d664ecb873ac894e6328b8bac594e8dc1ee8e46
e05248788befaee707b817802be09a133185844be53f83ae757fb2dc18b88a0201bae140669197a93d1e542d8312011a326b19baf3c08c03d757b49d bda5a6e0c8c7623186cbc0946a2274bc0889136a4f1014e043097735a2718ec74230f66ff3a129b8c85b71fe54e8e6fb63540aaf632dc989fa596128ba 307f023d00e05248788befaee707b817802be09a133185844be53f83ae757fb2dc18b88a0201bae140669197a93d1e542d8312011a326b19baf3c08c03d757b49d023e00bda5a6e0c8c7623186cbc0946a2274bc0889136a4f1014e043097735a2718ec74230f66ff3a129b8c85b71fe54e8e6fb63540aaf632dc989fa596128ba
d8b666690b10704b75e84e10964abe0debc7a52625c70204d3fe693b1f3ae7096926b10731ef0e2b0d55e82319db0e85b1934e02a7d3f2073395fe6b 525610dc75a4ba2d517279e66f117918fe96dbbc53f0be61b28daf11119efdc4cef148c1a13695a49eca22b4ae128621f28bb52789a37f9fc5181ebc9c78 307f023d00d8b666690b10704b75e84e10964abe0debc7a52625c70204d3fe693b1f3ae7096926b10731ef0e2b0d55e82319db0e85b1934e02a7d3f2073395fe6b023e525610dc75a4ba2d517279e66f117918fe96dbbc53f0be61b28daf11119efdc4cef148c1a13695a49eca22b4ae128621f28bb52789a37f9fc5181ebc9c78
d9a9e30480008e762fd428a304a810a61e965e16f1569c7f4245f37c9bc09dd1cec65776d1de19091c5bbe3bc8bfa7bbf46a74c75a90e2a8b6ce5b32 b0c9f7961ec1139155330ab7cd8b2d64c3c044dcf78cb32f7b9b6f34ca3898cdf3a0b12c06efa1072b942bdf7af418e56a86572fd81b1065893fa273a074 308180023d00d9a9e30480008e762fd428a304a810a61e965e16f1569c7f4245f37c9bc09dd1cec65776d1de19091c5bbe3bc8bfa7bbf46a74c75a90e2a8b6ce5b32023f00b0c9f7961ec1139155330ab7cd8b2d64c3c044dcf78cb32f7b9b6f34ca3898cdf3a0b12c06efa1072b942bdf7af418e56a86572fd81b1065893fa273a074
4a5ba418ec3439c0a5ed3746bfe27405f81a682e3f4e74116a7f93ddbf0bfa7c942a454144486d88cf9063376284a9fe3dfc4b1e3b3b4dadc820e65a2ef542 e0b4851e3cd9d6d909ccd8ac2e2f9859d58b00f886576bb0ecd0be12e87dd7bbbc22b8e31e176a185818fe67671b836b352cb3f79e525384784f5734 308180023f4a5ba418ec3439c0a5ed3746bfe27405f81a682e3f4e74116a7f93ddbf0bfa7c942a454144486d88cf9063376284a9fe3dfc4b1e3b3b4dadc820e65a2ef542023d00e0b4851e3cd9d6d909ccd8ac2e2f9859d58b00f886576bb0ecd0be12e87dd7bbbc22b8e31e176a185818fe67671b836b352cb3f79e525384784f5734
f6e6f6406b5c8312b7d7b96db056f1bec013007a0c94281261e70026a2911ef87d7013d0c0f49d5734053ac43486fb0e0870e1179fe51164d9545029d753dfc8 a55d2108f63264e3e3b034982da63228286522a790ea60b0aa6efcd2ee48c23c10b15630ec276fed442a928d1cd066203b11b951e3a8dfe93fbfa56740fcb56c 308186024100f6e6f6406b5c8312b7d7b96db056f1bec013007a0c94281261e70026a2911ef87d7013d0c0f49d5734053ac43486fb0e0870e1179fe51164d9545029d753dfc8024100a55d2108f63264e3e3b034982da63228286522a790ea60b0aa6efcd2ee48c23c10b15630ec276fed442a928d1cd066203b11b951e3a8dfe93fbfa56740fcb56c
16e010aa95dc4bf5f5fc42aacb846ee62ba07a3fb45b34f383c7c9a68b5d8db47890ad1354847af2c4b9a89d375288a23d67faea63707acb4d20e89b7ad519f61da 1a2f89cf47fdd261cb5424fb5cb57a051c85aecf03523cceda16e07573488d80ba0716be0e93bbad885a94631bbd8ac432e73f4f62bfc4cd287cfc29c70a1ca31d6 3081880242016e010aa95dc4bf5f5fc42aacb846ee62ba07a3fb45b34f383c7c9a68b5d8db47890ad1354847af2c4b9a89d375288a23d67faea63707acb4d20e89b7ad519f61da024201a2f89cf47fdd261cb5424fb5cb57a051c85aecf03523cceda16e07573488d80ba0716be0e93bbad885a94631bbd8ac432e73f4f62bfc4cd287cfc29c70a1ca31d6
18e5cb0901da5b4346e8d2872fd9efdcb68e4a06ec6f4558fddcd78d1f4d897fd1a2cec705f1b72624ca3e667549bbc8154613fff85b3f13f5a02544f4ab06e51d5 1 30470242018e5cb0901da5b4346e8d2872fd9efdcb68e4a06ec6f4558fddcd78d1f4d897fd1a2cec705f1b72624ca3e667549bbc8154613fff85b3f13f5a02544f4ab06e51d5020101
7ca4c09122c2f14dd13e6a897ff7f503b2588e8f7eeb78cd82866a08cb4886d9d6b65e9a5910556728bc9c3f8681cd80471bbf02425e20b930378ad6435a048c8348d7b7d82ebaef 8cf4a73c15ef6bdf2968601bb4fc898e31eaaffa86c07018a7e08aecaa7f982063011a3c13dd9f29c2fddd4ce01fb9cddfcbc0be57e16c0967dd89297fc6f8f830c4789389f9a130 30819502487ca4c09122c2f14dd13e6a897ff7f503b2588e8f7eeb78cd82866a08cb4886d9d6b65e9a5910556728bc9c3f8681cd80471bbf02425e20b930378ad6435a048c8348d7b7d82ebaef0249008cf4a73c15ef6bdf2968601bb4fc898e31eaaffa86c07018a7e08aecaa7f982063011a3c13dd9f29c2fddd4ce01fb9cddfcbc0be57e16c0967dd89297fc6f8f830c4789389f9a130
86f6266f002861139930f2d0f3e4556bdd5a1eee5cacd7378ec48774326536c227224374d9a5e7edf8318a31864060c38486846b0de7f5463c66f18b56986eea61346150ebc311fb 56d49e56ebddc7de110d48cd920a6528193c318410ac2fa6d3416fdba1e08047ce80717f0d2bd1f2afbc562281b8a00df2d4f8681d08819f05966b27c42b1e92c48e5689522fbf4e 30819502490086f6266f002861139930f2d0f3e4556bdd5a1eee5cacd7378ec48774326536c227224374d9a5e7edf8318a31864060c38486846b0de7f5463c66f18b56986eea61346150ebc311fb024856d49e56ebddc7de110d48cd920a6528193c318410ac2fa6d3416fdba1e08047ce80717f0d2bd1f2afbc562281b8a00df2d4f8681d08819f05966b27c42b1e92c48e5689522fbf4e
ffffffffffffffffffffffffffffffffffffffffffffffffffffffffffffffffffffffffffffffffffffffffffffffffffffffffffffffffffffffffffffffffffffffffffffffff ffffffffffffffffffffffffffffffffffffffffffffffffffffffffffffffffffffffffffffffffffffffffffffffffffffffffffffffffffffffffffffffffffffffffffffffff 308196024900ffffffffffffffffffffffffffffffffffffffffffffffffffffffffffffffffffffffffffffffffffffffffffffffffffffffffffffffffffffffffffffffffffffffffffffffff024900ffffffffffffffffffffffffffffffffffffffffffffffffffffffffffffffffffffffffffffffffffffffffffffffffffffffffffffffffffffffffffffffffffffffffffffffff
800000000000000000000000000000000000000000000000000000000000000000000000000000000000000000000000000000000000000000000000000000000000000000000000 ffffffffffffffffffffffffffffffffffffffffffffffffffffffffffffffffffffffffffffffffffffffffffffffffffffffffffffffffffffffffffffffffffffffffffffff 308195024900800000000000000000000000000000000000000000000000000000000000000000000000000000000000000000000000000000000000000000000000000000000000000000000000024800ffffffffffffffffffffffffffffffffffffffffffffffffffffffffffffffffffffffffffffffffffffffffffffffffffffffffffffffffffffffffffffffffffffffffffffff
`

func TestAgainstOpenSSL(t *testing.T) {
	t.Parallel()
	for line := range strings.SplitSeq(strings.TrimSpace(openSSL), "\n") {
		part := strings.Fields(line)
		x, text := two{new(big.Int), new(big.Int)}, unhex(t, part[2])
		x.R.SetString(part[0], 16)
		x.S.SetString(part[1], 16)
		if got := Put(x.sig()); got != text {
			t.Errorf("%s: %x", line, got)
		}
		checkTaken(t, text, x)
	}
}

// R4 and R5

// TestCallsApart: the same calls over again, with others and refused ones between
// them.
func TestCallsApart(t *testing.T) {
	t.Parallel()
	r := rand.New(rand.NewSource(26))
	list := samples(r)
	for range 5000 {
		x := list[r.Intn(len(list))]
		checkBoth(t, x)
		checkNone(t, x.write()[1:])
		checkRead(t, drawnText(r, x))
	}
}

// TestTwiceTheSame: two calls of the same, one behind the other and with a call
// between them of another signature or of a text that is none.
func TestTwiceTheSame(t *testing.T) {
	t.Parallel()
	list := samples(rand.New(rand.NewSource(27)))
	for _, x := range list {
		checkBoth(t, x)
		checkBoth(t, x)
		for _, y := range list {
			checkTaken(t, y.write(), y)
			checkTaken(t, x.write(), x)
			checkNone(t, y.write()+"\x00")
			checkTaken(t, x.write(), x)
			checkPut(t, y)
			checkPut(t, x)
			checkNone(t, "")
			checkPut(t, x)
		}
	}
}

// TestArgumentsStay: what is handed in is a value, and what is answered the caller's
// own.
func TestArgumentsStay(t *testing.T) {
	t.Parallel()
	for _, x := range samples(rand.New(rand.NewSource(28))) {
		s, text := x.sig(), x.write()
		copied := strings.Clone(text)
		written := Put(s)
		got, _ := Get(text)
		if s != x.sig() || text != copied {
			t.Fatalf("%v, %x", s, text)
		}
		for i := range got.R.W {
			got.R.W[i], got.S.W[i], s.R.W[i], s.S.W[i] = ^got.R.W[i], 5, ^s.R.W[i], 7
		}
		if written != x.write() {
			t.Fatalf("%x", written)
		}
		checkBoth(t, x)
	}
}

// TestBytesNotKept: a text made of bytes that are changed behind the call.
func TestBytesNotKept(t *testing.T) {
	t.Parallel()
	r := rand.New(rand.NewSource(29))
	for range 1000 {
		x := drawnTwo(r)
		b := []byte(x.write())
		got, _ := Get(string(b))
		clear(b)
		if got != x.sig() {
			t.Fatalf("%v", got)
		}
	}
}

func TestSeveralGoroutines(t *testing.T) {
	t.Parallel()
	list := samples(rand.New(rand.NewSource(30)))
	var group sync.WaitGroup
	for i := range 8 {
		group.Go(func() {
			for turn := range 200 * len(list) {
				x := list[(i+turn)%len(list)]
				got, errno := Get(x.write())
				none, refused := Get(x.write()[1:])
				if got != x.sig() || errno != api.OK || Put(got) != x.write() || none != (api.Sig{}) || refused != api.ErrDerForm {
					t.Errorf("%x: %v, %d", x.write(), got, errno)
				}
			}
		})
	}
	group.Wait()
}
