package sha512

import (
	judge "crypto/sha512"
	"encoding/binary"
	"encoding/hex"
	"math"
	"math/big"
	"math/rand"
	"strings"
	"sync"
	"testing"
	"unsafe"

	"curvet/api"
)

// crypto/sha512 is the judge: it shares no code with this package.
func judged(bits int, s string) string {
	if bits == 384 {
		digest := judge.Sum384([]byte(s))
		return string(digest[:])
	}
	digest := judge.Sum512([]byte(s))
	return string(digest[:])
}

func sizes() []int {
	return []int{384, 512}
}

func wrongSizes() []int {
	return []int{
		0, 1, -1, 7, 8, 48, 64, 128, 160, 224, 256, 383, 385, 448, 511, 513, 768, 1024, -384, -512,
		384 + 1<<32, 512 + 1<<32, 384 - 1<<32, 512 - 1<<32, math.MinInt, math.MinInt + 384, math.MinInt + 512, math.MaxInt,
	}
}

// lengths are all about the ends of the first blocks, and some beyond them.
func lengths() []int {
	var list []int
	for n := range 530 {
		list = append(list, n)
	}
	for _, blocks := range []int{8, 15, 16, 17, 64, 512} {
		for _, more := range []int{-17, -16, -15, -9, -8, -1, 0, 1, 111, 112, 113, 119, 120} {
			list = append(list, 128*blocks+more)
		}
	}
	return list
}

func drawn(r *rand.Rand, n int) string {
	text := make([]byte, n)
	r.Read(text)
	return string(text)
}

// pieces cuts s anywhere, with empty pieces among the others.
func pieces(r *rand.Rand, s string) []string {
	var list []string
	for len(s) > 0 {
		n := min(len(s), r.Intn(3)*r.Intn(200))
		list = append(list, s[:n])
		s = s[n:]
	}
	return append(list, "")
}

func made(t *testing.T, bits int) *Hash {
	t.Helper()
	h, errno := New(bits)
	if h == nil || errno != api.OK {
		t.Fatalf("New(%d) = %v, %d", bits, h, errno)
	}
	return h
}

func write(t *testing.T, h *Hash, list ...string) {
	t.Helper()
	for _, s := range list {
		if errno := h.Write(s); errno != api.OK {
			t.Fatalf("Write of %d bytes: %d", len(s), errno)
		}
	}
}

func checkSum(t *testing.T, h *Hash, bits int, s string) {
	t.Helper()
	if got, want := h.Sum(), judged(bits, s); got != want {
		t.Fatalf("%d bits of %d bytes: %x, not %x", bits, len(s), got, want)
	}
}

func checkOf(t *testing.T, bits int, s string) {
	t.Helper()
	got, errno := Of(bits, s)
	if want := judged(bits, s); got != want || errno != api.OK {
		t.Fatalf("%d bits of %d bytes: %x, %d, not %x", bits, len(s), got, errno, want)
	}
}

// P8.1: digests

func TestPublishedDigests(t *testing.T) {
	const (
		oneBlock  = "abcdbcdecdefdefgefghfghighijhijkijkljklmklmnlmnomnopnopq"
		twoBlocks = "abcdefghbcdefghicdefghijdefghijkefghijklfghijklmghijklmnhijklmnoijklmnopjklmnopqklmnopqrlmnopqrsmnopqrstnopqrstu"
	)
	million := strings.Repeat("a", 1000000)
	cases := []struct {
		bits    int
		s, want string
	}{
		{384, "", "38b060a751ac96384cd9327eb1b1e36a21fdb71114be07434c0cc7bf63f6e1da274edebfe76f65fbd51ad2f14898b95b"},
		{384, "abc", "cb00753f45a35e8bb5a03d699ac65007272c32ab0eded1631a8b605a43ff5bed8086072ba1e7cc2358baeca134c825a7"},
		{384, oneBlock, "3391fdddfc8dc7393707a65b1b4709397cf8b1d162af05abfe8f450de5f36bc6b0455a8520bc4e6f5fe95b1fe3c8452b"},
		{384, twoBlocks, "09330c33f71147e83d192fc782cd1b4753111b173b3b05d22fa08086e3b0f712fcc7c71a557e2db966c3e9fa91746039"},
		{384, million, "9d0e1809716474cb086e834e310a4a1ced149e9c00f248527972cec5704c2a5b07b8b3dc38ecc4ebae97ddd87f3d8985"},
		{512, "", "cf83e1357eefb8bdf1542850d66d8007d620e4050b5715dc83f4a921d36ce9ce47d0d13c5d85f2b0ff8318d2877eec2f63b931bd47417a81a538327af927da3e"},
		{512, "abc", "ddaf35a193617abacc417349ae20413112e6fa4e89a97ea20a9eeee64b55d39a2192992a274fc1a836ba3c23a3feebbd454d4423643ce80e2a9ac94fa54ca49f"},
		{512, oneBlock, "204a8fc6dda82f0a0ced7beb8e08a41657c16ef468b228a8279be331a703c33596fd15c13b1b07f9aa1d3bea57789ca031ad85c7a71dd70354ec631238ca3445"},
		{512, twoBlocks, "8e959b75dae313da8cf4f72814fc143f8f7779c6eb9f7fa17299aeadb6889018501d289e4900f7e4331b99dec4b5433ac7d329eeb6dd26545e96e55b874be909"},
		{512, million, "e718483d0ce769644e2e42c7bc15b4638e1f98b13b2044285632a803afa973ebde0ff244877ea60a4cb0432ce577c31beb009c5c2c49aa2e4eadb217ad8cc09b"},
	}
	for i, c := range cases {
		if got, errno := Of(c.bits, c.s); hex.EncodeToString([]byte(got)) != c.want || errno != api.OK {
			t.Errorf("Of, row %d: %x, %d", i, got, errno)
		}
		h := made(t, c.bits)
		write(t, h, c.s)
		if got := h.Sum(); hex.EncodeToString([]byte(got)) != c.want {
			t.Errorf("Sum, row %d: %x", i, got)
		}
	}
}

func TestDigestsOfAllLengths(t *testing.T) {
	r := rand.New(rand.NewSource(1))
	for _, n := range lengths() {
		texts := []string{drawn(r, n), strings.Repeat("\x00", n), strings.Repeat("\xff", n), strings.Repeat("\x80", n)}
		for _, bits := range sizes() {
			for _, s := range texts {
				checkOf(t, bits, s)
				h := made(t, bits)
				write(t, h, s)
				checkSum(t, h, bits, s)
			}
		}
	}
}

func TestDigestsOfLongTexts(t *testing.T) {
	r := rand.New(rand.NewSource(2))
	for _, n := range []int{api.MaxText - 1, api.MaxText, api.MaxText + 1, 1<<20 + 111, 1<<20 + 112, 1 << 22} {
		s := drawn(r, n)
		for _, bits := range sizes() {
			checkOf(t, bits, s)
		}
	}
}

func TestDigestsAreAsLongAsTheyShould(t *testing.T) {
	for _, s := range []string{"", "x", strings.Repeat("x", 1000)} {
		if digest, _ := Of(384, s); len(digest) != 48 {
			t.Errorf("384 bits: %d bytes", len(digest))
		}
		if digest, _ := Of(512, s); len(digest) != 64 {
			t.Errorf("512 bits: %d bytes", len(digest))
		}
	}
}

func TestWrongSizes(t *testing.T) {
	for _, bits := range wrongSizes() {
		for _, s := range []string{"", "abc", strings.Repeat("x", 400)} {
			if digest, errno := Of(bits, s); digest != "" || errno != api.ErrSha512Size {
				t.Errorf("Of(%d) = %x, %d", bits, digest, errno)
			}
		}
		if h, errno := New(bits); h != nil || errno != api.ErrSha512Size {
			t.Errorf("New(%d) = %v, %d", bits, h, errno)
		}
	}
}

func TestNothingWritten(t *testing.T) {
	for _, bits := range sizes() {
		checkSum(t, made(t, bits), bits, "")
		h := made(t, bits)
		write(t, h, "", "", "")
		checkSum(t, h, bits, "")
	}
}

// The length in bits is one of 128 bits, of which texts that a test can hash
// fill the lowest only.
func TestPaddingTellsTheLength(t *testing.T) {
	for _, length := range []uint64{
		0, 1, 31, 32, 1 << 13, 1 << 21, 1<<29 - 1, 1 << 29, 1<<29 + 1, 1<<31 - 1, 1 << 31, 0x0123456789abcdef,
		1<<61 - 1, 1 << 61, 1<<61 + 1, 0xfedcba9876543210, math.MaxUint64,
	} {
		text := padding(length)
		if len(text) < 17 || len(text) > 144 || (length+uint64(len(text)))%128 != 0 {
			t.Fatalf("behind %d bytes: %d", length, len(text))
		}
		split := len(text) - 16
		if text[:split] != "\x80"+strings.Repeat("\x00", split-1) {
			t.Errorf("behind %d bytes: %x", length, text)
		}
		if told := binary.BigEndian.Uint64([]byte(text[split:])); told != length>>61 {
			t.Errorf("behind %d bytes: %d times 2^64 bits", length, told)
		}
		if told := binary.BigEndian.Uint64([]byte(text[split+8:])); told != 8*length {
			t.Errorf("behind %d bytes: %d bits", length, told)
		}
	}
}

// rootBits answers the first 64 bits behind the point of the k-th root of n.
func rootBits(n int64, k int64) uint64 {
	want := new(big.Int).Lsh(big.NewInt(n), uint(k)*64)
	low, high := big.NewInt(0), new(big.Int).Lsh(big.NewInt(n), 64)
	for one := big.NewInt(1); low.Cmp(high) < 0; {
		middle := new(big.Int).Add(low, high)
		middle.Add(middle, one).Rsh(middle, 1)
		if new(big.Int).Exp(middle, big.NewInt(k), nil).Cmp(want) <= 0 {
			low = middle
		} else {
			high = middle.Sub(middle, one)
		}
	}
	whole := new(big.Int).Lsh(big.NewInt(1), 64)
	return low.Mod(low, whole).Uint64()
}

func TestConstantsAreTheRootsOfPrimes(t *testing.T) {
	var primes []int64
	for n := int64(2); len(primes) < 80; n++ {
		if big.NewInt(n).ProbablyPrime(20) {
			primes = append(primes, n)
		}
	}
	for i, p := range primes {
		if want := rootBits(p, 3); constants[i] != want {
			t.Errorf("constant %d: %016x, not %016x", i, constants[i], want)
		}
	}
	short, _ := beginning(384)
	long, _ := beginning(512)
	for i := range 8 {
		if want := rootBits(primes[8+i], 2); short[i] != want {
			t.Errorf("384 bits begin, at %d, with %016x, not %016x", i, short[i], want)
		}
		if want := rootBits(primes[i], 2); long[i] != want {
			t.Errorf("512 bits begin, at %d, with %016x, not %016x", i, long[i], want)
		}
	}
}

func TestSumTwice(t *testing.T) {
	r := rand.New(rand.NewSource(3))
	for n := range 400 {
		s := drawn(r, n)
		for _, bits := range sizes() {
			h := made(t, bits)
			write(t, h, s)
			for range 3 {
				checkSum(t, h, bits, s)
			}
		}
	}
}

func TestMoreBehindASum(t *testing.T) {
	r := rand.New(rand.NewSource(4))
	for _, step := range []int{1, 7, 111, 112, 127, 128, 129, 256, 257} {
		s := drawn(r, 800)
		for _, bits := range sizes() {
			h := made(t, bits)
			for at := 0; at < len(s); at += step {
				checkSum(t, h, bits, s[:at])
				write(t, h, s[at:min(at+step, len(s))])
			}
			checkSum(t, h, bits, s)
		}
	}
}

// P8.1: what is written may be cut anywhere

func TestOneCutAnywhere(t *testing.T) {
	r := rand.New(rand.NewSource(5))
	for _, n := range []int{1, 2, 111, 112, 113, 119, 120, 127, 128, 129, 239, 240, 241, 255, 256, 257, 384, 513} {
		s := drawn(r, n)
		for at := range n + 1 {
			for _, bits := range sizes() {
				h := made(t, bits)
				write(t, h, s[:at], s[at:])
				checkSum(t, h, bits, s)
			}
		}
	}
}

func TestByteByByte(t *testing.T) {
	r := rand.New(rand.NewSource(6))
	for _, n := range []int{1, 128, 129, 600, 5000} {
		s := drawn(r, n)
		for _, bits := range sizes() {
			h := made(t, bits)
			for i := range n {
				write(t, h, s[i:i+1])
			}
			checkSum(t, h, bits, s)
		}
	}
}

func TestManyCuts(t *testing.T) {
	r := rand.New(rand.NewSource(7))
	for range 1500 {
		s := drawn(r, r.Intn(1500))
		for _, bits := range sizes() {
			h := made(t, bits)
			write(t, h, pieces(r, s)...)
			checkSum(t, h, bits, s)
			whole, _ := Of(bits, s)
			if h.Sum() != whole {
				t.Fatalf("%d bits of %d bytes: pieces and whole differ", bits, len(s))
			}
		}
	}
}

func TestEmptyPiecesChangeNothing(t *testing.T) {
	r := rand.New(rand.NewSource(8))
	for n := range 270 {
		s := drawn(r, n)
		for _, bits := range sizes() {
			h := made(t, bits)
			write(t, h, "", s, "", "")
			checkSum(t, h, bits, s)
			write(t, h, "", "x")
			checkSum(t, h, bits, s+"x")
		}
	}
}

func TestSumsAmongTheCuts(t *testing.T) {
	r := rand.New(rand.NewSource(9))
	for range 300 {
		s := drawn(r, r.Intn(1200))
		for _, bits := range sizes() {
			h, written := made(t, bits), ""
			for _, piece := range pieces(r, s) {
				write(t, h, piece)
				written += piece
				if r.Intn(2) == 0 {
					checkSum(t, h, bits, written)
				}
			}
			checkSum(t, h, bits, s)
		}
	}
}

// R3

func TestNil(t *testing.T) {
	var none *Hash
	for _, s := range []string{"", "x", strings.Repeat("x", 400)} {
		if errno := none.Write(s); errno != api.ErrNil {
			t.Errorf("Write: %d", errno)
		}
	}
	if digest := none.Sum(); digest != "" {
		t.Errorf("Sum: %x", digest)
	}
}

// R1: whatever it answers, it does so without a panic.
func TestNotMadeByNew(t *testing.T) {
	var h Hash
	if digest := h.Sum(); digest != "" {
		t.Errorf("Sum: %x", digest)
	}
	for range 200 {
		h.Write("some text")
	}
	if digest := h.Sum(); digest != "" {
		t.Errorf("Sum: %x", digest)
	}
}

// R4

func TestWhatIsWrittenIsNotKept(t *testing.T) {
	for _, n := range []int{1, 10, 127, 128, 129, 260} {
		for _, bits := range sizes() {
			text := []byte(strings.Repeat("a", n))
			h := made(t, bits)
			write(t, h, unsafe.String(&text[0], n))
			if string(text) != strings.Repeat("a", n) {
				t.Fatalf("what was written was changed: %q", text)
			}
			for i := range text {
				text[i] = 'b'
			}
			checkSum(t, h, bits, strings.Repeat("a", n))
		}
	}
}

func TestSumsShareNoMemory(t *testing.T) {
	for _, bits := range sizes() {
		h := made(t, bits)
		write(t, h, "abc")
		first, second := h.Sum(), h.Sum()
		if unsafe.StringData(first) == unsafe.StringData(second) {
			t.Errorf("%d bits: two sums share memory", bits)
		}
		write(t, h, strings.Repeat("x", 400))
		h.Sum()
		if want := judged(bits, "abc"); first != want || second != want {
			t.Errorf("%d bits: a sum was changed by what came behind it", bits)
		}
	}
}

// R5

func TestStreamsDoNotKnowOfOneAnother(t *testing.T) {
	r := rand.New(rand.NewSource(10))
	for range 100 {
		all := []int{384, 512, 384, 512}
		hashes, written := make([]*Hash, len(all)), make([]string, len(all))
		for i, bits := range all {
			hashes[i] = made(t, bits)
		}
		for range 40 {
			i := r.Intn(len(all))
			piece := drawn(r, r.Intn(200))
			write(t, hashes[i], piece)
			written[i] += piece
			k := r.Intn(len(all))
			checkSum(t, hashes[k], all[k], written[k])
		}
	}
}

func TestAFailedNewChangesNothing(t *testing.T) {
	h := made(t, 512)
	write(t, h, "abc")
	for _, bits := range wrongSizes() {
		New(bits)
		Of(bits, "x")
	}
	checkSum(t, h, 512, "abc")
	checkOf(t, 384, "abc")
}

func TestACopyGoesItsOwnWay(t *testing.T) {
	r := rand.New(rand.NewSource(11))
	for n := range 270 {
		s := drawn(r, n)
		h := made(t, 384)
		write(t, h, s)
		other := *h
		write(t, h, "one", strings.Repeat("1", n))
		write(t, &other, "two")
		checkSum(t, h, 384, s+"one"+strings.Repeat("1", n))
		checkSum(t, &other, 384, s+"two")
	}
}

func TestSeveralGoroutines(t *testing.T) {
	r := rand.New(rand.NewSource(12))
	texts := make([]string, 8)
	for i := range texts {
		texts[i] = drawn(r, 200*i+50)
	}
	var group sync.WaitGroup
	for i, s := range texts {
		group.Go(func() {
			for range 50 {
				for _, bits := range sizes() {
					if got, errno := Of(bits, s); got != judged(bits, s) || errno != api.OK {
						t.Errorf("text %d: %x, %d", i, got, errno)
					}
				}
			}
		})
	}
	group.Wait()
}
