package kdf

import (
	judge256 "crypto/sha256"
	judge512 "crypto/sha512"
	"encoding/binary"
	"encoding/hex"
	stdhash "hash"
	"math"
	"math/rand"
	"slices"
	"strings"
	"sync"
	"testing"
	"unsafe"

	"curvet/api"
	"curvet/hash"
)

func ids() []int {
	return []int{api.Hash224, api.Hash256, api.Hash384, api.Hash512}
}

func sizeOf(id int) int {
	return map[int]int{api.Hash224: 28, api.Hash256: 32, api.Hash384: 48, api.Hash512: 64}[id]
}

func wrongIds() []int {
	return []int{
		0, 5, 6, 7, 8, 9, 10, 28, 32, 48, 64, 128, 160, 224, 255, 256, 257, 260, 384, 512, 513,
		-1, -2, -3, -4, -5, -224, -256, -384, -512, 1 << 16, 1<<16 + 2,
		1 << 32, 1<<32 + 1, 1<<32 + 2, 1<<32 + 3, 1<<32 + 4, 1 - 1<<32, 4 - 1<<32,
		math.MinInt, math.MinInt + 1, math.MinInt + 4, math.MaxInt, math.MaxInt - 1, math.MaxInt - 3,
	}
}

// sizes are those of keys: none, one, those about the ends of digests, the
// greatest.
func sizes(id int) []int {
	list := []int{0, 1, 2, 7, api.MaxKdf - 1, api.MaxKdf}
	for at := sizeOf(id); at < api.MaxKdf; at += sizeOf(id) {
		list = append(list, at-1, at, at+1)
	}
	return slices.DeleteFunc(list, func(n int) bool { return n > api.MaxKdf })
}

// wrongSizes are those that no key may have.
func wrongSizes() []int {
	return []int{
		-1, -2, -28, -32, -64, -1023, -1024, -1025, 1025, 1026, 1036, 1037, 2048, 65536,
		1 << 31, 1 << 32, 1<<32 + 1, 1<<32 + 1024, 1 - 1<<32, 1024 - 1<<32, 1 << 62,
		math.MinInt, math.MinInt + 1, math.MinInt + 1024, math.MaxInt, math.MaxInt - 1,
	}
}

// lengths are those of z and info: none, short, those about the ends of blocks
// of 64 and of 128 bytes (with the number, and with what a hash adds), long.
func lengths() []int {
	list := []int{0, 1, 2, 3, 4, 5, 31, 32, 33}
	for _, at := range []int{64, 128, 192, 256} {
		for _, more := range []int{-21, -20, -13, -12, -9, -8, -5, -4, -3, -1, 0, 1} {
			list = append(list, at+more)
		}
	}
	return append(list, 1000, 4096)
}

func drawn(r *rand.Rand, n int) string {
	text := make([]byte, n)
	r.Read(text)
	return string(text)
}

// ruled is the rule of P12.1, word by word, with layer 9's digests of whole
// texts: it knows of no limit and of no error.
func ruled(id int, z string, info string, size int) string {
	key := ""
	for number := 1; len(key) < size; number++ {
		four := string([]byte{byte(number >> 24), byte(number >> 16), byte(number >> 8), byte(number)})
		digest, _ := hash.Of(id, four+z+info)
		key += digest
	}
	return key[:size]
}

// judged goes by the library's digests, which share no code with the program.
func judged(id int, z string, info string, size int) string {
	var key []byte
	for number := uint32(1); len(key) < size; number++ {
		judge := judges(id)
		judge.Write(binary.BigEndian.AppendUint32(nil, number))
		judge.Write([]byte(z))
		judge.Write([]byte(info))
		key = judge.Sum(key)
	}
	return string(key[:size])
}

func judges(id int) stdhash.Hash {
	switch id {
	case api.Hash224:
		return judge256.New224()
	case api.Hash256:
		return judge256.New()
	case api.Hash384:
		return judge512.New384()
	}
	return judge512.New()
}

func made(t *testing.T, id int, z string, info string, size int) string {
	t.Helper()
	key, errno := Of(id, z, info, size)
	if len(key) != size || errno != api.OK {
		t.Fatalf("Of(%d, %d, %d bytes, %d): %d bytes, %d", id, len(z), len(info), size, len(key), errno)
	}
	return key
}

// checkKey holds a key against the rule by both kinds of digests.
func checkKey(t *testing.T, id int, z string, info string, size int) {
	t.Helper()
	got := made(t, id, z, info, size)
	if want := ruled(id, z, info, size); got != want {
		t.Fatalf("Of(%d, %d, %d bytes, %d): %x, not %x by the rule", id, len(z), len(info), size, got, want)
	}
	if want := judged(id, z, info, size); got != want {
		t.Fatalf("Of(%d, %d, %d bytes, %d): %x, not %x by the judge", id, len(z), len(info), size, got, want)
	}
}

func checkRefused(t *testing.T, id int, z string, info string, size int, want api.Errno) {
	t.Helper()
	if key, errno := Of(id, z, info, size); key != "" || errno != want {
		t.Errorf("Of(%d, %d, %d bytes, %d): %x, %d, not %d", id, len(z), len(info), size, key, errno, want)
	}
}

// P12.1: keys

func unhex(t *testing.T, digits string) string {
	t.Helper()
	text, err := hex.DecodeString(digits)
	if err != nil {
		t.Fatal(err)
	}
	return string(text)
}

func TestPublished(t *testing.T) {
	for _, c := range []struct{ z, info, want string }{
		// RFC 7518, appendix C: the info is A128GCM, Alice and Bob, each with its
		// length ahead of it, and the key's length in bits
		{
			"9e56d91d817135d372834283bf84269cfb316ea3da806a48f6daa7798cfe90c4",
			hex.EncodeToString([]byte("\x00\x00\x00\x07A128GCM\x00\x00\x00\x05Alice\x00\x00\x00\x03Bob\x00\x00\x00\x80")),
			"56aa8deaf8236d205c2228cd71a7101a",
		},
		// one that other programs of this derivation are tested by
		{
			"52169af5c485dcc2321eb8d26d5efa21fb9b93c98e38412ee2484cf14f0d0d23",
			"a1b2c3d4e53728157e634612c12d6d5223e204aeea4341565369647bd184bcd246f72971f292badaa2fe4124612cba",
			"1c3bc9e7c4547c5191c0d478cccaed55",
		},
	} {
		got := made(t, api.Hash256, unhex(t, c.z), unhex(t, c.info), len(c.want)/2)
		if hex.EncodeToString([]byte(got)) != c.want {
			t.Errorf("%x, not %s", got, c.want)
		}
	}
}

// Each block is a digest of its own, of a text that begins with its number.
func TestBlocksAreDigests(t *testing.T) {
	for _, id := range ids() {
		size := sizeOf(id)
		key := made(t, id, "z", "i", api.MaxKdf)
		for number := 1; number*size <= api.MaxKdf; number++ {
			want, _ := hash.Of(id, "\x00\x00\x00"+string([]byte{byte(number)})+"zi")
			if got := key[(number-1)*size : number*size]; got != want {
				t.Errorf("hash %d, block %d: %x, not %x", id, number, got, want)
			}
		}
	}
}

func TestEverySize(t *testing.T) {
	r := rand.New(rand.NewSource(1))
	for _, id := range ids() {
		for size := range api.MaxKdf + 1 {
			checkKey(t, id, drawn(r, 32), drawn(r, r.Intn(60)), size)
		}
	}
}

func TestTheGreatestNumbers(t *testing.T) {
	for i, id := range ids() {
		// as many blocks as MaxKdf needs, the last of them whole or not
		blocks := []int{37, 32, 22, 16}[i]
		if (api.MaxKdf+sizeOf(id)-1)/sizeOf(id) != blocks {
			t.Fatalf("hash %d: not %d blocks", id, blocks)
		}
		key := made(t, id, "zz", "info", api.MaxKdf)
		last, _ := hash.Of(id, "\x00\x00\x00"+string([]byte{byte(blocks)})+"zzinfo")
		if tail := key[(blocks-1)*sizeOf(id):]; !strings.HasPrefix(last, tail) || tail == "" {
			t.Errorf("hash %d: ends with %x, not with %x", id, tail, last)
		}
	}
}

// The numbers of the keys that may be asked have but one byte that is not 0;
// all four are the number's all the same.
func TestNumbersAsBytes(t *testing.T) {
	for _, c := range []struct {
		number uint32
		want   string
	}{
		{0, "\x00\x00\x00\x00"}, {1, "\x00\x00\x00\x01"}, {2, "\x00\x00\x00\x02"}, {37, "\x00\x00\x00\x25"},
		{255, "\x00\x00\x00\xff"}, {256, "\x00\x00\x01\x00"}, {65536, "\x00\x01\x00\x00"}, {1 << 24, "\x01\x00\x00\x00"},
		{0x12345678, "\x12\x34\x56\x78"}, {math.MaxUint32, "\xff\xff\xff\xff"},
	} {
		if got := fourBytes(c.number); got != c.want {
			t.Errorf("%d: %x, not %x", c.number, got, c.want)
		}
	}
}

func TestZAndInfoOfEveryShortLength(t *testing.T) {
	r := rand.New(rand.NewSource(2))
	for _, id := range ids() {
		for n := range 300 {
			text := drawn(r, n)
			for _, pair := range [][2]string{{text, ""}, {"", text}, {text, text}, {text, "info"}, {"zz", text}} {
				checkKey(t, id, pair[0], pair[1], 2*sizeOf(id)+1)
			}
		}
	}
}

func TestZAndInfoAboutBlocks(t *testing.T) {
	r := rand.New(rand.NewSource(3))
	for _, id := range ids() {
		for _, n := range lengths() {
			for _, k := range lengths() {
				checkKey(t, id, drawn(r, n), drawn(r, k), sizeOf(id)+1)
			}
		}
	}
}

func TestZAndInfoLong(t *testing.T) {
	r := rand.New(rand.NewSource(4))
	for _, n := range []int{api.MaxText - 1, api.MaxText, api.MaxText + 1, 1<<18 + 55} {
		long := drawn(r, n)
		for _, id := range ids() {
			checkKey(t, id, long, "", sizeOf(id)+1)
			checkKey(t, id, "", long, sizeOf(id)+1)
			checkKey(t, id, long, long, api.MaxKdf)
		}
	}
}

func TestZAndInfoOfNoughtsAndOnes(t *testing.T) {
	for _, with := range []string{"\x00", "\x01", "\x80", "\xff"} {
		for _, n := range []int{1, 3, 4, 5, 28, 32, 59, 60, 64, 123, 124, 128} {
			text := strings.Repeat(with, n)
			for _, id := range ids() {
				checkKey(t, id, text, "", 3*sizeOf(id))
				checkKey(t, id, "", text, 3*sizeOf(id))
				checkKey(t, id, text, text, 3*sizeOf(id))
			}
		}
	}
}

func TestEmptyZAndInfo(t *testing.T) {
	for _, id := range ids() {
		for _, size := range sizes(id) {
			checkKey(t, id, "", "", size)
			checkKey(t, id, "zz", "", size)
			checkKey(t, id, "", "info", size)
		}
		cut := "text"
		if made(t, id, "zz", "", 100) != made(t, id, "zz", cut[4:], 100) || made(t, id, "", "i", 100) != made(t, id, cut[:0], "i", 100) {
			t.Errorf("hash %d: a piece of no bytes is not an empty text", id)
		}
	}
}

func TestALongerKeyBeginsAsAShorter(t *testing.T) {
	r := rand.New(rand.NewSource(5))
	for _, id := range ids() {
		for _, pair := range [][2]string{{"", ""}, {"zz", "info"}, {drawn(r, 66), drawn(r, 300)}} {
			whole := made(t, id, pair[0], pair[1], api.MaxKdf)
			for size := range api.MaxKdf {
				if got := made(t, id, pair[0], pair[1], size); got != whole[:size] {
					t.Fatalf("hash %d: %d bytes: %x, not %x", id, size, got, whole[:size])
				}
			}
		}
	}
}

func TestWhereZEndsIsNotTold(t *testing.T) {
	r := rand.New(rand.NewSource(6))
	for _, id := range ids() {
		for _, n := range []int{1, 2, 59, 60, 61, 64, 123, 124, 125, 128, 200} {
			text := drawn(r, n)
			want := judged(id, text, "", 2*sizeOf(id)+5)
			for at := range n + 1 {
				if got := made(t, id, text[:at], text[at:], 2*sizeOf(id)+5); got != want {
					t.Errorf("hash %d, %d bytes cut at %d: %x, not %x", id, n, at, got, want)
				}
			}
		}
	}
}

func TestZAndInfoInTheirOrder(t *testing.T) {
	for _, id := range ids() {
		if made(t, id, "zz", "info", 64) == made(t, id, "info", "zz", 64) {
			t.Errorf("hash %d: z and info may change their places", id)
		}
	}
}

func TestEveryByteCounts(t *testing.T) {
	r := rand.New(rand.NewSource(7))
	for _, id := range ids() {
		for _, n := range []int{1, 32, 66, 130} {
			text := drawn(r, 2*n)
			size := 3 * sizeOf(id)
			was := made(t, id, text[:n], text[n:], size)
			for i := range 2 * n {
				other := []byte(text)
				other[i] ^= 1 << r.Intn(8)
				key := made(t, id, string(other[:n]), string(other[n:]), size)
				for at := 0; at < size; at += sizeOf(id) {
					if key[at:at+sizeOf(id)] == was[at:at+sizeOf(id)] {
						t.Errorf("hash %d, twice %d bytes: byte %d does not count for the block at %d", id, n, i, at)
					}
				}
			}
		}
	}
}

func TestBlocksAndHashesDiffer(t *testing.T) {
	seen := map[string]int{}
	for _, id := range ids() {
		key := made(t, id, "zz", "info", api.MaxKdf)
		for at := 0; at+28 <= len(key); at += sizeOf(id) {
			if other, was := seen[key[at:at+28]]; was {
				t.Errorf("hash %d, the block at %d: that of hash %d too", id, at, other)
			}
			seen[key[at:at+28]] = id
		}
	}
}

// P12.1: errors

func TestNoSuchHash(t *testing.T) {
	long := strings.Repeat("x", 1<<16)
	for _, id := range wrongIds() {
		for _, size := range []int{0, 1, 28, 32, 64, 65, 1023, 1024} {
			for _, pair := range [][2]string{{"", ""}, {"zz", "info"}, {"zz", ""}, {"", "info"}, {long, long}} {
				checkRefused(t, id, pair[0], pair[1], size, api.ErrKdfHash)
			}
		}
	}
}

func TestOnlyFourHashes(t *testing.T) {
	for id := -2000; id <= 2000; id++ {
		is := 1 <= id && id <= 4
		key, errno := Of(id, "zz", "info", 16)
		if is != (len(key) == 16) || is != (errno == api.OK) || !is && (key != "" || errno != api.ErrKdfHash) {
			t.Errorf("hash %d: %x, %d", id, key, errno)
		}
	}
}

func TestWrongSizes(t *testing.T) {
	long := strings.Repeat("x", 1<<16)
	for _, id := range ids() {
		for _, size := range wrongSizes() {
			for _, pair := range [][2]string{{"", ""}, {"zz", "info"}, {"zz", ""}, {"", "info"}, {long, long}} {
				checkRefused(t, id, pair[0], pair[1], size, api.ErrKdfLong)
			}
		}
	}
}

func TestOnlySizesUpToMaxKdf(t *testing.T) {
	for _, id := range ids() {
		for size := -3000; size <= 3000; size++ {
			fine := 0 <= size && size <= 1024
			key, errno := Of(id, "zz", "info", size)
			if fine != (errno == api.OK) || fine && len(key) != size || !fine && (key != "" || errno != api.ErrKdfLong) {
				t.Errorf("hash %d, %d bytes: %d bytes, %d", id, size, len(key), errno)
			}
		}
	}
}

// R6

func TestBothErrors(t *testing.T) {
	for _, id := range wrongIds() {
		for _, size := range wrongSizes() {
			checkRefused(t, id, "zz", "info", size, api.ErrKdfHash)
			checkRefused(t, id, "", "", size, api.ErrKdfHash)
		}
	}
}

// R4

func TestWhatIsHandedInIsNotKept(t *testing.T) {
	for _, n := range []int{1, 10, 59, 60, 64, 124, 128, 260} {
		for _, id := range ids() {
			same := strings.Repeat("a", n)
			z, info := []byte(same), []byte(same)
			key := made(t, id, unsafe.String(&z[0], n), unsafe.String(&info[0], n), 200)
			if string(z) != same || string(info) != same {
				t.Fatalf("what was handed in was changed: %q, %q", z, info)
			}
			for i := range n {
				z[i], info[i] = 'b', 'c'
			}
			if key != judged(id, same, same, 200) {
				t.Errorf("hash %d: a key was changed by what was done behind it", id)
			}
		}
	}
}

func TestKeysShareNoMemory(t *testing.T) {
	for _, id := range ids() {
		for _, size := range []int{2, sizeOf(id), sizeOf(id) + 1, api.MaxKdf} {
			first, second := made(t, id, "zz", "info", size), made(t, id, "zz", "info", size)
			if unsafe.StringData(first) == unsafe.StringData(second) {
				t.Errorf("hash %d, %d bytes: two keys share memory", id, size)
			}
		}
	}
}

// R5

func TestWhatWasCalledBetween(t *testing.T) {
	r := rand.New(rand.NewSource(8))
	for range 200 {
		id := ids()[r.Intn(4)]
		z, info, size := drawn(r, r.Intn(150)), drawn(r, r.Intn(150)), r.Intn(api.MaxKdf+1)
		first := made(t, id, z, info, size)
		for _, other := range ids() {
			made(t, other, drawn(r, r.Intn(150)), drawn(r, r.Intn(150)), r.Intn(api.MaxKdf+1))
			Of(other, z, info, wrongSizes()[r.Intn(len(wrongSizes()))])
			Of(wrongIds()[r.Intn(len(wrongIds()))], z, info, size)
		}
		if second := made(t, id, z, info, size); first != second || first != judged(id, z, info, size) {
			t.Fatalf("hash %d, %d bytes: %x, then %x", id, size, first, second)
		}
	}
}

func TestSeveralGoroutines(t *testing.T) {
	r := rand.New(rand.NewSource(9))
	texts := make([]string, 8)
	for i := range texts {
		texts[i] = drawn(r, 40*i+20)
	}
	var group sync.WaitGroup
	for i, text := range texts {
		group.Go(func() {
			for round := range 30 {
				for _, id := range ids() {
					want := judged(id, texts[0], text, 10*round)
					if got, errno := Of(id, texts[0], text, 10*round); got != want || errno != api.OK {
						t.Errorf("text %d, hash %d: %x, %d", i, id, got, errno)
					}
				}
			}
		})
	}
	group.Wait()
}
