package hash

import (
	judge256 "crypto/sha256"
	judge512 "crypto/sha512"
	"encoding/hex"
	"math"
	"math/rand"
	"strings"
	"sync"
	"testing"
	"unsafe"

	"curvet/api"
	"curvet/sha256"
	"curvet/sha512"
)

// The library's hashes are the judge: they share no code with the program.
func judged(id int, s string) string {
	switch id {
	case api.Hash224:
		digest := judge256.Sum224([]byte(s))
		return string(digest[:])
	case api.Hash256:
		digest := judge256.Sum256([]byte(s))
		return string(digest[:])
	case api.Hash384:
		digest := judge512.Sum384([]byte(s))
		return string(digest[:])
	}
	digest := judge512.Sum512([]byte(s))
	return string(digest[:])
}

// layered is what layer 7 or 8 answers itself.
func layered(id int, s string) (string, api.Errno) {
	switch id {
	case api.Hash224:
		return sha256.Of(224, s)
	case api.Hash256:
		return sha256.Of(256, s)
	case api.Hash384:
		return sha512.Of(384, s)
	}
	return sha512.Of(512, s)
}

func ids() []int {
	return []int{api.Hash224, api.Hash256, api.Hash384, api.Hash512}
}

func wrongIds() []int {
	return []int{
		0, 5, 6, 7, 8, 9, 10, 28, 32, 48, 64, 128, 160, 224, 255, 256, 257, 260, 384, 512, 513,
		-1, -2, -3, -4, -5, -224, -256, -384, -512, 1 << 16, 1<<16 + 2,
		1 << 32, 1<<32 + 1, 1<<32 + 2, 1<<32 + 3, 1<<32 + 4, 1 - 1<<32, 4 - 1<<32,
		math.MinInt, math.MinInt + 1, math.MinInt + 4, math.MaxInt, math.MaxInt - 1, math.MaxInt - 3,
	}
}

// lengths are those about the ends of the first blocks, of 64 and of 128 bytes,
// and some beyond them.
func lengths() []int {
	var list []int
	for n := range 400 {
		list = append(list, n)
	}
	for _, blocks := range []int{8, 15, 16, 17, 64, 512} {
		for _, more := range []int{-17, -16, -9, -8, -1, 0, 1, 55, 56, 63, 64, 111, 112, 119, 120} {
			list = append(list, 128*blocks+more)
		}
	}
	return list
}

func drawn(r *rand.Rand, n int) string {
	text := make([]byte, n)
	r.Read(text)
	return string(text)
}

// pieces cuts s anywhere, with empty pieces among the others.
func pieces(r *rand.Rand, s string) []string {
	var list []string
	for len(s) > 0 {
		n := min(len(s), r.Intn(3)*r.Intn(150))
		list = append(list, s[:n])
		s = s[n:]
	}
	return append(list, "")
}

func made(t *testing.T, id int) *Stream {
	t.Helper()
	s, errno := New(id)
	if s == nil || errno != api.OK {
		t.Fatalf("New(%d) = %v, %d", id, s, errno)
	}
	return s
}

func write(t *testing.T, s *Stream, list ...string) {
	t.Helper()
	for _, b := range list {
		if errno := s.Write(b); errno != api.OK {
			t.Fatalf("Write of %d bytes: %d", len(b), errno)
		}
	}
}

func checkSum(t *testing.T, s *Stream, id int, text string) {
	t.Helper()
	if got, want := s.Sum(), judged(id, text); got != want {
		t.Fatalf("hash %d of %d bytes: %x, not %x", id, len(text), got, want)
	}
}

func checkOf(t *testing.T, id int, text string) {
	t.Helper()
	got, errno := Of(id, text)
	if want := judged(id, text); got != want || errno != api.OK {
		t.Fatalf("hash %d of %d bytes: %x, %d, not %x", id, len(text), got, errno, want)
	}
}

// P9.1: Size, Block

func TestSizesAndBlocks(t *testing.T) {
	for _, c := range []struct{ id, size, block int }{
		{api.Hash224, 28, 64}, {api.Hash256, 32, 64}, {api.Hash384, 48, 128}, {api.Hash512, 64, 128},
	} {
		if got := Size(c.id); got != c.size {
			t.Errorf("Size(%d) = %d", c.id, got)
		}
		if got := Block(c.id); got != c.block {
			t.Errorf("Block(%d) = %d", c.id, got)
		}
	}
}

func TestSizesAndBlocksAreTheJudges(t *testing.T) {
	for id, want := range map[int]interface {
		Size() int
		BlockSize() int
	}{
		api.Hash224: judge256.New224(), api.Hash256: judge256.New(), api.Hash384: judge512.New384(), api.Hash512: judge512.New(),
	} {
		if Size(id) != want.Size() || Block(id) != want.BlockSize() {
			t.Errorf("hash %d: %d, %d", id, Size(id), Block(id))
		}
	}
}

func TestNoSuchHash(t *testing.T) {
	for _, id := range wrongIds() {
		if size, block := Size(id), Block(id); size != 0 || block != 0 {
			t.Errorf("hash %d: %d, %d", id, size, block)
		}
		for _, text := range []string{"", "abc", strings.Repeat("x", 400)} {
			if digest, errno := Of(id, text); digest != "" || errno != api.ErrHashId {
				t.Errorf("Of(%d) = %x, %d", id, digest, errno)
			}
		}
		if s, errno := New(id); s != nil || errno != api.ErrHashId {
			t.Errorf("New(%d) = %v, %d", id, s, errno)
		}
	}
}

func TestOnlyFourHashes(t *testing.T) {
	for id := -2000; id <= 2000; id++ {
		is := 1 <= id && id <= 4
		digest, errno := Of(id, "abc")
		s, other := New(id)
		if is != (Size(id) > 0) || is != (Block(id) > 0) || is != (digest != "") || is != (s != nil) {
			t.Errorf("hash %d: %d, %d, %x, %v", id, Size(id), Block(id), digest, s)
		}
		if is != (errno == api.OK) || errno != other {
			t.Errorf("hash %d: %d, %d", id, errno, other)
		}
	}
}

// P9.1: digests

func TestPublishedDigests(t *testing.T) {
	const (
		short = "abcdbcdecdefdefgefghfghighijhijkijkljklmklmnlmnomnopnopq"
		long  = "abcdefghbcdefghicdefghijdefghijkefghijklfghijklmghijklmnhijklmnoijklmnopjklmnopqklmnopqrlmnopqrsmnopqrstnopqrstu"
	)
	for i, c := range []struct {
		id         int
		text, want string
	}{
		{api.Hash224, "", "d14a028c2a3a2bc9476102bb288234c415a2b01f828ea62ac5b3e42f"},
		{api.Hash224, "abc", "23097d223405d8228642a477bda255b32aadbce4bda0b3f7e36c9da7"},
		{api.Hash224, short, "75388b16512776cc5dba5da1fd890150b0c6455cb4f58b1952522525"},
		{api.Hash224, long, "c97ca9a559850ce97a04a96def6d99a9e0e0e2ab14e6b8df265fc0b3"},
		{api.Hash256, "", "e3b0c44298fc1c149afbf4c8996fb92427ae41e4649b934ca495991b7852b855"},
		{api.Hash256, "abc", "ba7816bf8f01cfea414140de5dae2223b00361a396177a9cb410ff61f20015ad"},
		{api.Hash256, short, "248d6a61d20638b8e5c026930c3e6039a33ce45964ff2167f6ecedd419db06c1"},
		{api.Hash256, long, "cf5b16a778af8380036ce59e7b0492370b249b11e8f07a51afac45037afee9d1"},
		{api.Hash384, "", "38b060a751ac96384cd9327eb1b1e36a21fdb71114be07434c0cc7bf63f6e1da274edebfe76f65fbd51ad2f14898b95b"},
		{api.Hash384, "abc", "cb00753f45a35e8bb5a03d699ac65007272c32ab0eded1631a8b605a43ff5bed8086072ba1e7cc2358baeca134c825a7"},
		{api.Hash384, short, "3391fdddfc8dc7393707a65b1b4709397cf8b1d162af05abfe8f450de5f36bc6b0455a8520bc4e6f5fe95b1fe3c8452b"},
		{api.Hash384, long, "09330c33f71147e83d192fc782cd1b4753111b173b3b05d22fa08086e3b0f712fcc7c71a557e2db966c3e9fa91746039"},
		{api.Hash512, "", "cf83e1357eefb8bdf1542850d66d8007d620e4050b5715dc83f4a921d36ce9ce47d0d13c5d85f2b0ff8318d2877eec2f63b931bd47417a81a538327af927da3e"},
		{api.Hash512, "abc", "ddaf35a193617abacc417349ae20413112e6fa4e89a97ea20a9eeee64b55d39a2192992a274fc1a836ba3c23a3feebbd454d4423643ce80e2a9ac94fa54ca49f"},
		{api.Hash512, short, "204a8fc6dda82f0a0ced7beb8e08a41657c16ef468b228a8279be331a703c33596fd15c13b1b07f9aa1d3bea57789ca031ad85c7a71dd70354ec631238ca3445"},
		{api.Hash512, long, "8e959b75dae313da8cf4f72814fc143f8f7779c6eb9f7fa17299aeadb6889018501d289e4900f7e4331b99dec4b5433ac7d329eeb6dd26545e96e55b874be909"},
	} {
		if got, errno := Of(c.id, c.text); hex.EncodeToString([]byte(got)) != c.want || errno != api.OK {
			t.Errorf("Of, row %d: %x, %d", i, got, errno)
		}
		s := made(t, c.id)
		write(t, s, c.text)
		if got := s.Sum(); hex.EncodeToString([]byte(got)) != c.want {
			t.Errorf("Sum, row %d: %x", i, got)
		}
	}
}

func TestDigestsOfAllLengths(t *testing.T) {
	r := rand.New(rand.NewSource(1))
	for _, n := range lengths() {
		for _, text := range []string{drawn(r, n), strings.Repeat("\x00", n), strings.Repeat("\xff", n)} {
			for _, id := range ids() {
				checkOf(t, id, text)
				s := made(t, id)
				write(t, s, text)
				checkSum(t, s, id, text)
			}
		}
	}
}

func TestDigestsAreTheLayersOwn(t *testing.T) {
	r := rand.New(rand.NewSource(2))
	for _, n := range lengths() {
		text := drawn(r, n)
		for _, id := range ids() {
			got, errno := Of(id, text)
			want, other := layered(id, text)
			if got != want || errno != api.OK || other != api.OK {
				t.Fatalf("hash %d of %d bytes: %x, %d, not %x, %d", id, n, got, errno, want, other)
			}
		}
	}
}

func TestDigestsOfLongTexts(t *testing.T) {
	r := rand.New(rand.NewSource(3))
	for _, n := range []int{api.MaxText - 1, api.MaxText, api.MaxText + 1, 1<<20 + 55, 1<<20 + 56, 1<<20 + 112} {
		text := drawn(r, n)
		for _, id := range ids() {
			checkOf(t, id, text)
		}
	}
}

func TestDigestsAreAsLongAsTheirSize(t *testing.T) {
	r := rand.New(rand.NewSource(4))
	for n := range 300 {
		text := drawn(r, n)
		for _, id := range ids() {
			if digest, _ := Of(id, text); len(digest) != Size(id) {
				t.Fatalf("hash %d: %d bytes, not %d", id, len(digest), Size(id))
			}
			s := made(t, id)
			write(t, s, text)
			if digest := s.Sum(); len(digest) != Size(id) {
				t.Fatalf("hash %d, a stream: %d bytes, not %d", id, len(digest), Size(id))
			}
		}
	}
}

// P9.1: streams

func TestNothingWritten(t *testing.T) {
	for _, id := range ids() {
		checkSum(t, made(t, id), id, "")
		s := made(t, id)
		write(t, s, "", "", "")
		checkSum(t, s, id, "")
	}
}

func TestSumTwice(t *testing.T) {
	r := rand.New(rand.NewSource(5))
	for n := range 300 {
		text := drawn(r, n)
		for _, id := range ids() {
			s := made(t, id)
			write(t, s, text)
			for range 3 {
				checkSum(t, s, id, text)
			}
		}
	}
}

func TestMoreBehindASum(t *testing.T) {
	r := rand.New(rand.NewSource(6))
	for _, step := range []int{1, 7, 55, 56, 63, 64, 65, 111, 112, 127, 128, 129, 257} {
		text := drawn(r, 600)
		for _, id := range ids() {
			s := made(t, id)
			for at := 0; at < len(text); at += step {
				checkSum(t, s, id, text[:at])
				write(t, s, text[at:min(at+step, len(text))])
			}
			checkSum(t, s, id, text)
		}
	}
}

func TestOneCutAnywhere(t *testing.T) {
	r := rand.New(rand.NewSource(7))
	for _, n := range []int{1, 2, 55, 56, 63, 64, 65, 111, 112, 113, 127, 128, 129, 255, 256, 257} {
		text := drawn(r, n)
		for at := range n + 1 {
			for _, id := range ids() {
				s := made(t, id)
				write(t, s, text[:at], text[at:])
				checkSum(t, s, id, text)
			}
		}
	}
}

func TestByteByByte(t *testing.T) {
	r := rand.New(rand.NewSource(8))
	for _, n := range []int{1, 64, 128, 129, 2000} {
		text := drawn(r, n)
		for _, id := range ids() {
			s := made(t, id)
			for i := range n {
				write(t, s, text[i:i+1])
			}
			checkSum(t, s, id, text)
		}
	}
}

func TestManyCuts(t *testing.T) {
	r := rand.New(rand.NewSource(9))
	for range 600 {
		text := drawn(r, r.Intn(1200))
		for _, id := range ids() {
			s, written := made(t, id), ""
			for _, piece := range pieces(r, text) {
				write(t, s, piece)
				written += piece
				if r.Intn(4) == 0 {
					checkSum(t, s, id, written)
				}
			}
			whole, _ := Of(id, text)
			if s.Sum() != whole {
				t.Fatalf("hash %d of %d bytes: pieces and whole differ", id, len(text))
			}
		}
	}
}

// R3

func TestNil(t *testing.T) {
	var none *Stream
	for _, b := range []string{"", "x", strings.Repeat("x", 400)} {
		if errno := none.Write(b); errno != api.ErrNil {
			t.Errorf("Write: %d", errno)
		}
	}
	if digest := none.Sum(); digest != "" {
		t.Errorf("Sum: %x", digest)
	}
}

// R1: without a panic, and as a Hash of layer 7 that New did not make.
func TestNotMadeByNew(t *testing.T) {
	var s Stream
	var like sha256.Hash
	for range 200 {
		if digest := s.Sum(); digest != like.Sum() || digest != "" {
			t.Fatalf("Sum: %x", digest)
		}
		if errno := s.Write("some text"); errno != like.Write("some text") || errno != api.OK {
			t.Fatalf("Write: %d", errno)
		}
	}
}

// R4

func TestWhatIsWrittenIsNotKept(t *testing.T) {
	for _, n := range []int{1, 10, 63, 64, 65, 127, 128, 129, 260} {
		for _, id := range ids() {
			text := []byte(strings.Repeat("a", n))
			s := made(t, id)
			write(t, s, unsafe.String(&text[0], n))
			if string(text) != strings.Repeat("a", n) {
				t.Fatalf("what was written was changed: %q", text)
			}
			for i := range text {
				text[i] = 'b'
			}
			checkSum(t, s, id, strings.Repeat("a", n))
		}
	}
}

func TestSumsShareNoMemory(t *testing.T) {
	for _, id := range ids() {
		s := made(t, id)
		write(t, s, "abc")
		first, second := s.Sum(), s.Sum()
		if unsafe.StringData(first) == unsafe.StringData(second) {
			t.Errorf("hash %d: two sums share memory", id)
		}
		write(t, s, strings.Repeat("x", 400))
		s.Sum()
		if want := judged(id, "abc"); first != want || second != want {
			t.Errorf("hash %d: a sum was changed by what came behind it", id)
		}
	}
}

// R5

func TestStreamsDoNotKnowOfOneAnother(t *testing.T) {
	r := rand.New(rand.NewSource(10))
	for range 60 {
		all := append(ids(), ids()...)
		streams, written := make([]*Stream, len(all)), make([]string, len(all))
		for i, id := range all {
			streams[i] = made(t, id)
		}
		for range 80 {
			i := r.Intn(len(all))
			piece := drawn(r, r.Intn(200))
			write(t, streams[i], piece)
			written[i] += piece
			k := r.Intn(len(all))
			checkSum(t, streams[k], all[k], written[k])
			checkOf(t, all[k], piece)
		}
	}
}

func TestAFailedNewChangesNothing(t *testing.T) {
	for _, id := range ids() {
		s := made(t, id)
		write(t, s, "abc")
		for _, wrong := range wrongIds() {
			New(wrong)
			Of(wrong, "x")
		}
		checkSum(t, s, id, "abc")
		checkOf(t, id, "abc")
	}
}

func TestSeveralGoroutines(t *testing.T) {
	r := rand.New(rand.NewSource(11))
	texts := make([]string, 8)
	for i := range texts {
		texts[i] = drawn(r, 100*i+50)
	}
	var group sync.WaitGroup
	for i, text := range texts {
		group.Go(func() {
			for range 30 {
				for _, id := range ids() {
					s, errno := New(id)
					if s.Write(text); errno != api.OK || s.Sum() != judged(id, text) {
						t.Errorf("text %d, hash %d, a stream: %d", i, id, errno)
					}
					if got, errno := Of(id, text); got != judged(id, text) || len(got) != Size(id) || errno != api.OK {
						t.Errorf("text %d, hash %d: %x, %d", i, id, got, errno)
					}
				}
			}
		})
	}
	group.Wait()
}
