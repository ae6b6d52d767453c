package sha256

import (
	judge "crypto/sha256"
	"encoding/binary"
	"encoding/hex"
	"math"
	"math/big"
	"math/rand"
	"strings"
	"sync"
	"testing"
	"unsafe"

	"curvet/api"
)

// crypto/sha256 is the judge: it shares no code with this package.
func judged(bits int, s string) string {
	if bits == 224 {
		digest := judge.Sum224([]byte(s))
		return string(digest[:])
	}
	digest := judge.Sum256([]byte(s))
	return string(digest[:])
}

func sizes() []int {
	return []int{224, 256}
}

func wrongSizes() []int {
	return []int{
		0, 1, -1, 7, 8, 28, 32, 64, 223, 225, 240, 255, 257, 384, 448, 512, -224, -256,
		224 + 1<<32, 256 + 1<<32, 224 - 1<<32, 256 - 1<<32, math.MinInt, math.MinInt + 224, math.MinInt + 256, math.MaxInt,
	}
}

// lengths are all about the ends of the first blocks, and some beyond them.
func lengths() []int {
	var list []int
	for n := range 330 {
		list = append(list, n)
	}
	for _, blocks := range []int{8, 15, 16, 17, 64, 1024} {
		for _, more := range []int{-9, -8, -7, -1, 0, 1, 55, 56, 57} {
			list = append(list, 64*blocks+more)
		}
	}
	return list
}

func drawn(r *rand.Rand, n int) string {
	text := make([]byte, n)
	r.Read(text)
	return string(text)
}

// pieces cuts s anywhere, with empty pieces among the others.
func pieces(r *rand.Rand, s string) []string {
	var list []string
	for len(s) > 0 {
		n := min(len(s), r.Intn(3)*r.Intn(100))
		list = append(list, s[:n])
		s = s[n:]
	}
	return append(list, "")
}

func made(t *testing.T, bits int) *Hash {
	t.Helper()
	h, errno := New(bits)
	if h == nil || errno != api.OK {
		t.Fatalf("New(%d) = %v, %d", bits, h, errno)
	}
	return h
}

func write(t *testing.T, h *Hash, list ...string) {
	t.Helper()
	for _, s := range list {
		if errno := h.Write(s); errno != api.OK {
			t.Fatalf("Write of %d bytes: %d", len(s), errno)
		}
	}
}

func checkSum(t *testing.T, h *Hash, bits int, s string) {
	t.Helper()
	if got, want := h.Sum(), judged(bits, s); got != want {
		t.Fatalf("%d bits of %d bytes: %x, not %x", bits, len(s), got, want)
	}
}

func checkOf(t *testing.T, bits int, s string) {
	t.Helper()
	got, errno := Of(bits, s)
	if want := judged(bits, s); got != want || errno != api.OK {
		t.Fatalf("%d bits of %d bytes: %x, %d, not %x", bits, len(s), got, errno, want)
	}
}

// P7.1

func TestPublishedDigests(t *testing.T) {
	const (
		twoBlocks  = "abcdbcdecdefdefgefghfghighijhijkijkljklmklmnlmnomnopnopq"
		longBlocks = "abcdefghbcdefghicdefghijdefghijkefghijklfghijklmghijklmnhijklmnoijklmnopjklmnopqklmnopqrlmnopqrsmnopqrstnopqrstu"
	)
	million := strings.Repeat("a", 1000000)
	cases := []struct {
		bits    int
		s, want string
	}{
		{224, "", "d14a028c2a3a2bc9476102bb288234c415a2b01f828ea62ac5b3e42f"},
		{224, "abc", "23097d223405d8228642a477bda255b32aadbce4bda0b3f7e36c9da7"},
		{224, twoBlocks, "75388b16512776cc5dba5da1fd890150b0c6455cb4f58b1952522525"},
		{224, longBlocks, "c97ca9a559850ce97a04a96def6d99a9e0e0e2ab14e6b8df265fc0b3"},
		{224, million, "20794655980c91d8bbb4c1ea97618a4bf03f42581948b2ee4ee7ad67"},
		{256, "", "e3b0c44298fc1c149afbf4c8996fb92427ae41e4649b934ca495991b7852b855"},
		{256, "abc", "ba7816bf8f01cfea414140de5dae2223b00361a396177a9cb410ff61f20015ad"},
		{256, twoBlocks, "248d6a61d20638b8e5c026930c3e6039a33ce45964ff2167f6ecedd419db06c1"},
		{256, longBlocks, "cf5b16a778af8380036ce59e7b0492370b249b11e8f07a51afac45037afee9d1"},
		{256, million, "cdc76e5c9914fb9281a1c7e284d73e67f1809a48a497200e046d39ccc7112cd0"},
	}
	for i, c := range cases {
		if got, errno := Of(c.bits, c.s); hex.EncodeToString([]byte(got)) != c.want || errno != api.OK {
			t.Errorf("Of, row %d: %x, %d", i, got, errno)
		}
		h := made(t, c.bits)
		write(t, h, c.s)
		if got := h.Sum(); hex.EncodeToString([]byte(got)) != c.want {
			t.Errorf("Sum, row %d: %x", i, got)
		}
	}
}

func TestDigestsOfAllLengths(t *testing.T) {
	r := rand.New(rand.NewSource(1))
	for _, n := range lengths() {
		texts := []string{drawn(r, n), strings.Repeat("\x00", n), strings.Repeat("\xff", n), strings.Repeat("\x80", n)}
		for _, bits := range sizes() {
			for _, s := range texts {
				checkOf(t, bits, s)
				h := made(t, bits)
				write(t, h, s)
				checkSum(t, h, bits, s)
			}
		}
	}
}

func TestDigestsOfLongTexts(t *testing.T) {
	r := rand.New(rand.NewSource(2))
	for _, n := range []int{api.MaxText - 1, api.MaxText, api.MaxText + 1, 1<<20 + 55, 1<<20 + 56, 1 << 22} {
		s := drawn(r, n)
		for _, bits := range sizes() {
			checkOf(t, bits, s)
		}
	}
}

func TestDigestsAreAsLongAsTheyShould(t *testing.T) {
	for _, s := range []string{"", "x", strings.Repeat("x", 1000)} {
		if digest, _ := Of(224, s); len(digest) != 28 {
			t.Errorf("224 bits: %d bytes", len(digest))
		}
		if digest, _ := Of(256, s); len(digest) != 32 {
			t.Errorf("256 bits: %d bytes", len(digest))
		}
	}
}

func TestWrongSizes(t *testing.T) {
	for _, bits := range wrongSizes() {
		for _, s := range []string{"", "abc", strings.Repeat("x", 200)} {
			if digest, errno := Of(bits, s); digest != "" || errno != api.ErrSha256Size {
				t.Errorf("Of(%d) = %x, %d", bits, digest, errno)
			}
		}
		if h, errno := New(bits); h != nil || errno != api.ErrSha256Size {
			t.Errorf("New(%d) = %v, %d", bits, h, errno)
		}
	}
}

func TestNothingWritten(t *testing.T) {
	for _, bits := range sizes() {
		checkSum(t, made(t, bits), bits, "")
		h := made(t, bits)
		write(t, h, "", "", "")
		checkSum(t, h, bits, "")
	}
}

// The length in bits is one of 64 bits, of which texts that a test can hash
// fill the lowest only.
func TestPaddingTellsTheLength(t *testing.T) {
	for _, length := range []uint64{0, 1, 31, 32, 1 << 13, 1 << 21, 1<<29 - 1, 1 << 29, 1<<29 + 1, 1<<31 - 1, 1 << 31, 0x0123456789abcdef, 1<<61 - 1} {
		text := padding(length)
		if len(text) < 9 || len(text) > 72 || (length+uint64(len(text)))%64 != 0 {
			t.Fatalf("behind %d bytes: %d", length, len(text))
		}
		split := len(text) - 8
		if text[:split] != "\x80"+strings.Repeat("\x00", split-1) {
			t.Errorf("behind %d bytes: %x", length, text)
		}
		if told := binary.BigEndian.Uint64([]byte(text[split:])); told != 8*length {
			t.Errorf("behind %d bytes: %d bits", length, told)
		}
	}
}

// rootBits answers the 32 bits of the k-th root of n that begin so many bits
// behind the point.
func rootBits(n int64, k int64, skip uint) uint32 {
	want := new(big.Int).Lsh(big.NewInt(n), uint(k)*(skip+32))
	low, high := big.NewInt(0), new(big.Int).Lsh(big.NewInt(n), skip+32)
	for one := big.NewInt(1); low.Cmp(high) < 0; {
		middle := new(big.Int).Add(low, high)
		middle.Add(middle, one).Rsh(middle, 1)
		if new(big.Int).Exp(middle, big.NewInt(k), nil).Cmp(want) <= 0 {
			low = middle
		} else {
			high = middle.Sub(middle, one)
		}
	}
	return uint32(low.Uint64())
}

func TestConstantsAreTheRootsOfPrimes(t *testing.T) {
	var primes []int64
	for n := int64(2); len(primes) < 64; n++ {
		if big.NewInt(n).ProbablyPrime(20) {
			primes = append(primes, n)
		}
	}
	for i, p := range primes {
		if want := rootBits(p, 3, 0); constants[i] != want {
			t.Errorf("constant %d: %08x, not %08x", i, constants[i], want)
		}
	}
	short, _ := beginning(224)
	long, _ := beginning(256)
	for i := range 8 {
		if want := rootBits(primes[8+i], 2, 32); short[i] != want {
			t.Errorf("224 bits begin, at %d, with %08x, not %08x", i, short[i], want)
		}
		if want := rootBits(primes[i], 2, 0); long[i] != want {
			t.Errorf("256 bits begin, at %d, with %08x, not %08x", i, long[i], want)
		}
	}
}

func TestSumTwice(t *testing.T) {
	r := rand.New(rand.NewSource(3))
	for n := range 200 {
		s := drawn(r, n)
		for _, bits := range sizes() {
			h := made(t, bits)
			write(t, h, s)
			for range 3 {
				checkSum(t, h, bits, s)
			}
		}
	}
}

func TestMoreBehindASum(t *testing.T) {
	r := rand.New(rand.NewSource(4))
	for _, step := range []int{1, 7, 55, 56, 63, 64, 65, 128, 129} {
		s := drawn(r, 400)
		for _, bits := range sizes() {
			h := made(t, bits)
			for at := 0; at < len(s); at += step {
				checkSum(t, h, bits, s[:at])
				write(t, h, s[at:min(at+step, len(s))])
			}
			checkSum(t, h, bits, s)
		}
	}
}

// P7.2

func TestOneCutAnywhere(t *testing.T) {
	r := rand.New(rand.NewSource(5))
	for _, n := range []int{1, 2, 55, 56, 57, 63, 64, 65, 119, 120, 127, 128, 129, 192, 200, 257} {
		s := drawn(r, n)
		for at := range n + 1 {
			for _, bits := range sizes() {
				h := made(t, bits)
				write(t, h, s[:at], s[at:])
				checkSum(t, h, bits, s)
			}
		}
	}
}

func TestByteByByte(t *testing.T) {
	r := rand.New(rand.NewSource(6))
	for _, n := range []int{1, 64, 65, 300, 5000} {
		s := drawn(r, n)
		for _, bits := range sizes() {
			h := made(t, bits)
			for i := range n {
				write(t, h, s[i:i+1])
			}
			checkSum(t, h, bits, s)
		}
	}
}

func TestManyCuts(t *testing.T) {
	r := rand.New(rand.NewSource(7))
	for range 1500 {
		s := drawn(r, r.Intn(900))
		for _, bits := range sizes() {
			h := made(t, bits)
			write(t, h, pieces(r, s)...)
			checkSum(t, h, bits, s)
			whole, _ := Of(bits, s)
			if h.Sum() != whole {
				t.Fatalf("%d bits of %d bytes: pieces and whole differ", bits, len(s))
			}
		}
	}
}

func TestEmptyPiecesChangeNothing(t *testing.T) {
	r := rand.New(rand.NewSource(8))
	for n := range 140 {
		s := drawn(r, n)
		h := made(t, 256)
		write(t, h, "", s, "", "")
		checkSum(t, h, 256, s)
		write(t, h, "", "x")
		checkSum(t, h, 256, s+"x")
	}
}

func TestSumsAmongTheCuts(t *testing.T) {
	r := rand.New(rand.NewSource(9))
	for range 300 {
		s := drawn(r, r.Intn(700))
		for _, bits := range sizes() {
			h, written := made(t, bits), ""
			for _, piece := range pieces(r, s) {
				write(t, h, piece)
				written += piece
				if r.Intn(2) == 0 {
					checkSum(t, h, bits, written)
				}
			}
			checkSum(t, h, bits, s)
		}
	}
}

// R3

func TestNil(t *testing.T) {
	var none *Hash
	for _, s := range []string{"", "x", strings.Repeat("x", 200)} {
		if errno := none.Write(s); errno != api.ErrNil {
			t.Errorf("Write: %d", errno)
		}
	}
	if digest := none.Sum(); digest != "" {
		t.Errorf("Sum: %x", digest)
	}
}

// R1: whatever it answers, it does so without a panic.
func TestNotMadeByNew(t *testing.T) {
	var h Hash
	if digest := h.Sum(); digest != "" {
		t.Errorf("Sum: %x", digest)
	}
	for range 200 {
		h.Write("some text")
	}
	if digest := h.Sum(); digest != "" {
		t.Errorf("Sum: %x", digest)
	}
}

// R4

func TestWhatIsWrittenIsNotKept(t *testing.T) {
	for _, n := range []int{1, 10, 63, 64, 65, 130} {
		text := []byte(strings.Repeat("a", n))
		h := made(t, 256)
		write(t, h, unsafe.String(&text[0], n))
		if string(text) != strings.Repeat("a", n) {
			t.Fatalf("what was written was changed: %q", text)
		}
		for i := range text {
			text[i] = 'b'
		}
		checkSum(t, h, 256, strings.Repeat("a", n))
	}
}

// R5

func TestStreamsDoNotKnowOfOneAnother(t *testing.T) {
	r := rand.New(rand.NewSource(10))
	for range 100 {
		all := []int{224, 256, 224, 256}
		hashes, written := make([]*Hash, len(all)), make([]string, len(all))
		for i, bits := range all {
			hashes[i] = made(t, bits)
		}
		for range 40 {
			i := r.Intn(len(all))
			piece := drawn(r, r.Intn(100))
			write(t, hashes[i], piece)
			written[i] += piece
			k := r.Intn(len(all))
			checkSum(t, hashes[k], all[k], written[k])
		}
	}
}

func TestAFailedNewChangesNothing(t *testing.T) {
	h := made(t, 256)
	write(t, h, "abc")
	for _, bits := range wrongSizes() {
		New(bits)
		Of(bits, "x")
	}
	checkSum(t, h, 256, "abc")
	checkOf(t, 224, "abc")
}

func TestACopyGoesItsOwnWay(t *testing.T) {
	r := rand.New(rand.NewSource(11))
	for n := range 140 {
		s := drawn(r, n)
		h := made(t, 224)
		write(t, h, s)
		other := *h
		write(t, h, "one", strings.Repeat("1", n))
		write(t, &other, "two")
		checkSum(t, h, 224, s+"one"+strings.Repeat("1", n))
		checkSum(t, &other, 224, s+"two")
	}
}

func TestSeveralGoroutines(t *testing.T) {
	r := rand.New(rand.NewSource(12))
	texts := make([]string, 8)
	for i := range texts {
		texts[i] = drawn(r, 100*i+50)
	}
	var group sync.WaitGroup
	for i, s := range texts {
		group.Go(func() {
			for range 50 {
				for _, bits := range sizes() {
					if got, errno := Of(bits, s); got != judged(bits, s) || errno != api.OK {
						t.Errorf("text %d: %x, %d", i, got, errno)
					}
				}
			}
		})
	}
	group.Wait()
}
