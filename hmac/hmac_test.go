package hmac

import (
	judge "crypto/hmac"
	judge256 "crypto/sha256"
	judge512 "crypto/sha512"
	"encoding/hex"
	stdhash "hash"
	"math"
	"math/rand"
	"strings"
	"sync"
	"testing"
	"unsafe"

	"curvet/api"
	"curvet/hash"
)

// The library's macs are the judge: they share no code with the program.
func judged(id int, key string, msg string) string {
	begin := map[int]func() stdhash.Hash{
		api.Hash224: judge256.New224, api.Hash256: judge256.New, api.Hash384: judge512.New384, api.Hash512: judge512.New,
	}[id]
	mac := judge.New(begin, []byte(key))
	mac.Write([]byte(msg))
	return string(mac.Sum(nil))
}

// ruled is the rule of P10.1, word by word, with layer 9's digests of whole texts.
func ruled(id int, key string, msg string) string {
	if len(key) > hash.Block(id) {
		key, _ = hash.Of(id, key)
	}
	key += strings.Repeat("\x00", hash.Block(id)-len(key))
	xored := func(with byte) string {
		text := []byte(key)
		for i := range text {
			text[i] ^= with
		}
		return string(text)
	}
	inner, _ := hash.Of(id, xored(54)+msg)
	outer, _ := hash.Of(id, xored(92)+inner)
	return outer
}

func ids() []int {
	return []int{api.Hash224, api.Hash256, api.Hash384, api.Hash512}
}

func wrongIds() []int {
	return []int{
		0, 5, 6, 7, 8, 9, 10, 28, 32, 48, 64, 128, 160, 224, 255, 256, 257, 260, 384, 512, 513,
		-1, -2, -3, -4, -5, -224, -256, -384, -512, 1 << 16, 1<<16 + 2,
		1 << 32, 1<<32 + 1, 1<<32 + 2, 1<<32 + 3, 1<<32 + 4, 1 - 1<<32, 4 - 1<<32,
		math.MinInt, math.MinInt + 1, math.MinInt + 4, math.MaxInt, math.MaxInt - 1, math.MaxInt - 3,
	}
}

// lengths are those about the ends of the first blocks, of 64 and of 128 bytes.
func lengths() []int {
	list := []int{0, 1, 2, 19, 20, 27, 28, 29, 31, 32, 33, 47, 48, 49}
	for _, block := range []int{64, 128, 192, 256, 384, 512} {
		for _, more := range []int{-17, -16, -9, -8, -1, 0, 1, 2} {
			list = append(list, block+more)
		}
	}
	return append(list, 1000)
}

func drawn(r *rand.Rand, n int) string {
	text := make([]byte, n)
	r.Read(text)
	return string(text)
}

// pieces cuts s anywhere, with empty pieces among the others.
func pieces(r *rand.Rand, s string) []string {
	var list []string
	for len(s) > 0 {
		n := min(len(s), r.Intn(3)*r.Intn(150))
		list = append(list, s[:n])
		s = s[n:]
	}
	return append(list, "")
}

func made(t *testing.T, id int, key string) *Mac {
	t.Helper()
	m, errno := New(id, key)
	if m == nil || errno != api.OK {
		t.Fatalf("New(%d, a key of %d bytes) = %v, %d", id, len(key), m, errno)
	}
	return m
}

func write(t *testing.T, m *Mac, list ...string) {
	t.Helper()
	for _, s := range list {
		if errno := m.Write(s); errno != api.OK {
			t.Fatalf("Write of %d bytes: %d", len(s), errno)
		}
	}
}

func checkSum(t *testing.T, m *Mac, id int, key string, msg string) {
	t.Helper()
	if got, want := m.Sum(), judged(id, key, msg); got != want {
		t.Fatalf("hash %d, a key of %d bytes, %d bytes: %x, not %x", id, len(key), len(msg), got, want)
	}
}

func checkOf(t *testing.T, id int, key string, msg string) {
	t.Helper()
	got, errno := Of(id, key, msg)
	if want := judged(id, key, msg); got != want || errno != api.OK {
		t.Fatalf("hash %d, a key of %d bytes, %d bytes: %x, %d, not %x", id, len(key), len(msg), got, errno, want)
	}
}

// check holds Of, a Mac, the judge and the rule against one another.
func check(t *testing.T, id int, key string, msg string) {
	t.Helper()
	checkOf(t, id, key, msg)
	m := made(t, id, key)
	write(t, m, msg)
	checkSum(t, m, id, key, msg)
	if got, _ := Of(id, key, msg); got != ruled(id, key, msg) {
		t.Fatalf("hash %d, a key of %d bytes, %d bytes: %x, not by the rule", id, len(key), len(msg), got)
	}
}

// P10.1: macs

func TestPublishedMacs(t *testing.T) {
	counted := ""
	for i := range 25 {
		counted += string([]byte{byte(i + 1)})
	}
	// the cases of RFC 4231, each by the four hashes in the order of their numbers
	for i, c := range []struct {
		key, msg string
		want     [4]string
	}{
		{strings.Repeat("\x0b", 20), "Hi There", [...]string{
			"896fb1128abbdf196832107cd49df33f47b4b1169912ba4f53684b22",
			"b0344c61d8db38535ca8afceaf0bf12b881dc200c9833da726e9376c2e32cff7",
			"afd03944d84895626b0825f4ab46907f15f9dadbe4101ec682aa034c7cebc59cfaea9ea9076ede7f4af152e8b2fa9cb6",
			"87aa7cdea5ef619d4ff0b4241a1d6cb02379f4e2ce4ec2787ad0b30545e17cdedaa833b7d6b8a702038b274eaea3f4e4be9d914eeb61f1702e696c203a126854",
		}},
		{"Jefe", "what do ya want for nothing?", [...]string{
			"a30e01098bc6dbbf45690f3a7e9e6d0f8bbea2a39e6148008fd05e44",
			"5bdcc146bf60754e6a042426089575c75a003f089d2739839dec58b964ec3843",
			"af45d2e376484031617f78d2b58a6b1b9c7ef464f5a01b47e42ec3736322445e8e2240ca5e69e2c78b3239ecfab21649",
			"164b7a7bfcf819e2e395fbe73b56e0a387bd64222e831fd610270cd7ea2505549758bf75c05a994a6d034f65f8f0e6fdcaeab1a34d4a6b4b636e070a38bce737",
		}},
		{strings.Repeat("\xaa", 20), strings.Repeat("\xdd", 50), [...]string{
			"7fb3cb3588c6c1f6ffa9694d7d6ad2649365b0c1f65d69d1ec8333ea",
			"773ea91e36800e46854db8ebd09181a72959098b3ef8c122d9635514ced565fe",
			"88062608d3e6ad8a0aa2ace014c8a86f0aa635d947ac9febe83ef4e55966144b2a5ab39dc13814b94e3ab6e101a34f27",
			"fa73b0089d56a284efb0f0756c890be9b1b5dbdd8ee81a3655f83e33b2279d39bf3e848279a722c806b485a47e67c807b946a337bee8942674278859e13292fb",
		}},
		{counted, strings.Repeat("\xcd", 50), [...]string{
			"6c11506874013cac6a2abc1bb382627cec6a90d86efc012de7afec5a",
			"82558a389a443c0ea4cc819899f2083a85f0faa3e578f8077a2e3ff46729665b",
			"3e8a69b7783c25851933ab6290af6ca77a9981480850009cc5577c6e1f573b4e6801dd23c4a7d679ccf8a386c674cffb",
			"b0ba465637458c6990e5a8c5f61d4af7e576d97ff94b872de76f8050361ee3dba91ca5c11aa25eb4d679275cc5788063a5f19741120c4f2de2adebeb10a298dd",
		}},
		// the first 16 bytes of this case are published
		{strings.Repeat("\x0c", 20), "Test With Truncation", [...]string{
			"0e2aea68a90c8d37c988bcdb9fca6fa8",
			"a3b6167473100ee06e0c796c2955552b",
			"3abf34c3503b2a23a46efc619baef897",
			"415fad6271580a531d4179bc891d87a6",
		}},
		{strings.Repeat("\xaa", 131), "Test Using Larger Than Block-Size Key - Hash Key First", [...]string{
			"95e9a0db962095adaebe9b2d6f0dbce2d499f112f2d2b7273fa6870e",
			"60e431591ee0b67f0d8a26aacbf5b77f8e0bc6213728c5140546040f0ee37f54",
			"4ece084485813e9088d2c63a041bc5b44f9ef1012a2b588f3cd11f05033ac4c60c2ef6ab4030fe8296248df163f44952",
			"80b24263c7c1a3ebb71493c1dd7be8b49b46d1f41b4aeec1121b013783f8f3526b56d037e05f2598bd0fd2215d6a1e5295e64f73f63f0aec8b915a985d786598",
		}},
		{strings.Repeat("\xaa", 131), "This is a test using a larger than block-size key and a larger than block-size data. The key needs to be hashed before being used by the HMAC algorithm.", [...]string{
			"3a854166ac5d9f023f54d517d0b39dbd946770db9c2b95c9f6f565d1",
			"9b09ffa71b942fcb27635fbcd5b0e944bfdc63644f0713938a7f51535c3a35e2",
			"6617178e941f020d351e2f254e8fd32c602420feb0b8fb9adccebb82461e99c5a678cc31e799176d3860e6110c46523e",
			"e37b6a775dc87dbaa4dfa9f96e5e3ffddebd71f8867289865df5a32d20cdc944b6022cac3c4982b10d5eeb55c3e4de15134676fb6de0446065c97440fa8c6a58",
		}},
	} {
		for k, id := range ids() {
			got, errno := Of(id, c.key, c.msg)
			if !strings.HasPrefix(hex.EncodeToString([]byte(got)), c.want[k]) || len(got) != hash.Size(id) || errno != api.OK {
				t.Errorf("Of, case %d, hash %d: %x, %d", i+1, id, got, errno)
			}
			m := made(t, id, c.key)
			write(t, m, c.msg)
			if m.Sum() != got {
				t.Errorf("Sum, case %d, hash %d: %x", i+1, id, m.Sum())
			}
		}
	}
}

func TestKeysOfAllLengths(t *testing.T) {
	r := rand.New(rand.NewSource(1))
	for n := range 400 {
		for _, key := range []string{drawn(r, n), strings.Repeat("\x00", n), strings.Repeat("\xff", n)} {
			for _, id := range ids() {
				check(t, id, key, "some text")
				check(t, id, key, "")
			}
		}
	}
}

func TestMessagesOfAllLengths(t *testing.T) {
	r := rand.New(rand.NewSource(2))
	for n := range 400 {
		for _, msg := range []string{drawn(r, n), strings.Repeat("\x00", n), strings.Repeat("\xff", n)} {
			for _, id := range ids() {
				check(t, id, "some key", msg)
				check(t, id, "", msg)
			}
		}
	}
}

func TestKeysAndMessagesAboutBlocks(t *testing.T) {
	r := rand.New(rand.NewSource(3))
	for _, n := range lengths() {
		for _, k := range lengths() {
			key, msg := drawn(r, n), drawn(r, k)
			for _, id := range ids() {
				check(t, id, key, msg)
			}
		}
	}
}

func TestKeysOfPadBytes(t *testing.T) {
	for _, with := range []string{"\x36", "\x5c", "\x6a", "\x00", "\xff"} {
		for _, n := range lengths() {
			for _, id := range ids() {
				check(t, id, strings.Repeat(with, n), "some text")
			}
		}
	}
}

func TestLongKeysAndMessages(t *testing.T) {
	r := rand.New(rand.NewSource(4))
	for _, n := range []int{api.MaxText - 1, api.MaxText, api.MaxText + 1, 1<<18 + 55} {
		long := drawn(r, n)
		for _, id := range ids() {
			check(t, id, long, "some text")
			check(t, id, "some key", long)
			check(t, id, long, long)
		}
	}
}

func TestALongKeyIsItsDigest(t *testing.T) {
	r := rand.New(rand.NewSource(5))
	for _, id := range ids() {
		block := hash.Block(id)
		for n := range 3 * block {
			key := drawn(r, n)
			digest, _ := hash.Of(id, key)
			got, _ := Of(id, key, "some text")
			short, _ := Of(id, digest, "some text")
			if (got == short) != (n > block) {
				t.Errorf("hash %d, a key of %d bytes: its digest as the key: %t", id, n, got == short)
			}
		}
	}
}

func TestNoughtsBehindAKey(t *testing.T) {
	r := rand.New(rand.NewSource(6))
	for _, id := range ids() {
		block := hash.Block(id)
		for _, n := range []int{0, 1, 20, block - 1, block} {
			key := drawn(r, n)
			want, _ := Of(id, key, "some text")
			for more := range 2 * block {
				got, _ := Of(id, key+strings.Repeat("\x00", more), "some text")
				if (got == want) != (n+more <= block) {
					t.Errorf("hash %d, a key of %d bytes, %d noughts behind it: the same: %t", id, n, more, got == want)
				}
			}
		}
	}
}

func TestNoughtsAheadOfAKey(t *testing.T) {
	for _, id := range ids() {
		want, _ := Of(id, "key", "some text")
		for more := 1; more < 2*hash.Block(id); more++ {
			if got, _ := Of(id, strings.Repeat("\x00", more)+"key", "some text"); got == want {
				t.Errorf("hash %d, %d noughts ahead of a key: the same", id, more)
			}
		}
	}
}

func TestEveryByteOfAKeyCounts(t *testing.T) {
	r := rand.New(rand.NewSource(7))
	for _, id := range ids() {
		for _, n := range []int{1, hash.Block(id) - 1, hash.Block(id), hash.Block(id) + 1, 2*hash.Block(id) + 1} {
			key := drawn(r, n)
			want, _ := Of(id, key, "some text")
			for i := range n {
				other := []byte(key)
				other[i] ^= 1 << r.Intn(8)
				if got, _ := Of(id, string(other), "some text"); got == want {
					t.Errorf("hash %d, a key of %d bytes: byte %d does not count", id, n, i)
				}
				check(t, id, string(other), "some text")
			}
		}
	}
}

func TestKeyAndMessageAreNotOneText(t *testing.T) {
	for _, id := range ids() {
		seen := map[string]int{}
		for at := range len("some key and text") + 1 {
			mac, _ := Of(id, "some key and text"[:at], "some key and text"[at:])
			if other, was := seen[mac]; was {
				t.Errorf("hash %d: cut at %d and at %d: the same", id, at, other)
			}
			seen[mac] = at
		}
	}
}

func TestMacsAreAsLongAsDigests(t *testing.T) {
	r := rand.New(rand.NewSource(8))
	for n := range 300 {
		key, msg := drawn(r, n), drawn(r, 300-n)
		for i, id := range ids() {
			want := []int{28, 32, 48, 64}[i]
			if mac, _ := Of(id, key, msg); len(mac) != want {
				t.Fatalf("hash %d: %d bytes, not %d", id, len(mac), want)
			}
			m := made(t, id, key)
			write(t, m, msg)
			if mac := m.Sum(); len(mac) != want {
				t.Fatalf("hash %d, a Mac: %d bytes, not %d", id, len(mac), want)
			}
		}
	}
}

// P10.1: no such hash

func TestNoSuchHash(t *testing.T) {
	for _, id := range wrongIds() {
		for _, n := range []int{0, 1, 64, 65, 128, 129, 400} {
			text := strings.Repeat("x", n)
			for _, pair := range [][2]string{{text, text}, {text, ""}, {"", text}} {
				if mac, errno := Of(id, pair[0], pair[1]); mac != "" || errno != api.ErrHmacHash {
					t.Errorf("Of(%d) = %x, %d", id, mac, errno)
				}
			}
			if m, errno := New(id, text); m != nil || errno != api.ErrHmacHash {
				t.Errorf("New(%d) = %v, %d", id, m, errno)
			}
		}
	}
}

func TestOnlyFourHashes(t *testing.T) {
	for id := -2000; id <= 2000; id++ {
		is := 1 <= id && id <= 4
		mac, errno := Of(id, "key", "abc")
		m, other := New(id, "key")
		if is != (mac != "") || is != (m != nil) {
			t.Errorf("hash %d: %x, %v", id, mac, m)
		}
		if is != (errno == api.OK) || errno != other || !is && errno != api.ErrHmacHash {
			t.Errorf("hash %d: %d, %d", id, errno, other)
		}
	}
}

// P10.1: Macs

func TestNothingWritten(t *testing.T) {
	r := rand.New(rand.NewSource(9))
	for _, n := range lengths() {
		key := drawn(r, n)
		for _, id := range ids() {
			m := made(t, id, key)
			checkSum(t, m, id, key, "")
			write(t, m, "", "", "")
			checkSum(t, m, id, key, "")
		}
	}
}

func TestSumTwice(t *testing.T) {
	r := rand.New(rand.NewSource(10))
	for n := range 300 {
		key, msg := drawn(r, r.Intn(300)), drawn(r, n)
		for _, id := range ids() {
			m := made(t, id, key)
			write(t, m, msg)
			for range 3 {
				checkSum(t, m, id, key, msg)
			}
		}
	}
}

func TestMoreBehindASum(t *testing.T) {
	r := rand.New(rand.NewSource(11))
	for _, step := range []int{1, 7, 55, 56, 63, 64, 65, 111, 112, 127, 128, 129, 257} {
		key, msg := drawn(r, 2*step), drawn(r, 600)
		for _, id := range ids() {
			m := made(t, id, key)
			for at := 0; at < len(msg); at += step {
				checkSum(t, m, id, key, msg[:at])
				write(t, m, msg[at:min(at+step, len(msg))])
			}
			checkSum(t, m, id, key, msg)
		}
	}
}

func TestOneCutAnywhere(t *testing.T) {
	r := rand.New(rand.NewSource(12))
	for _, n := range []int{1, 2, 55, 56, 63, 64, 65, 111, 112, 113, 127, 128, 129, 255, 256, 257} {
		key, msg := drawn(r, n), drawn(r, n)
		for at := range n + 1 {
			for _, id := range ids() {
				m := made(t, id, key)
				write(t, m, msg[:at], msg[at:])
				checkSum(t, m, id, key, msg)
			}
		}
	}
}

func TestByteByByte(t *testing.T) {
	r := rand.New(rand.NewSource(13))
	for _, n := range []int{1, 64, 128, 129, 2000} {
		key, msg := drawn(r, n), drawn(r, n)
		for _, id := range ids() {
			m := made(t, id, key)
			for i := range n {
				write(t, m, msg[i:i+1])
			}
			checkSum(t, m, id, key, msg)
		}
	}
}

func TestManyCuts(t *testing.T) {
	r := rand.New(rand.NewSource(14))
	for range 600 {
		key, msg := drawn(r, r.Intn(300)), drawn(r, r.Intn(1200))
		for _, id := range ids() {
			m, written := made(t, id, key), ""
			for _, piece := range pieces(r, msg) {
				write(t, m, piece)
				written += piece
				if r.Intn(4) == 0 {
					checkSum(t, m, id, key, written)
				}
			}
			whole, _ := Of(id, key, msg)
			if m.Sum() != whole {
				t.Fatalf("hash %d of %d bytes: pieces and whole differ", id, len(msg))
			}
		}
	}
}

// R3

func TestNil(t *testing.T) {
	var none *Mac
	for _, s := range []string{"", "x", strings.Repeat("x", 400)} {
		if errno := none.Write(s); errno != api.ErrNil {
			t.Errorf("Write: %d", errno)
		}
	}
	if mac := none.Sum(); mac != "" {
		t.Errorf("Sum: %x", mac)
	}
}

// R1: without a panic, and as a Stream of layer 9 that New did not make.
func TestNotMadeByNew(t *testing.T) {
	var m Mac
	var like hash.Stream
	for range 200 {
		if mac := m.Sum(); mac != like.Sum() || mac != "" {
			t.Fatalf("Sum: %x", mac)
		}
		if errno := m.Write("some text"); errno != like.Write("some text") || errno != api.OK {
			t.Fatalf("Write: %d", errno)
		}
	}
}

// R4

func TestWhatIsHandedInIsNotKept(t *testing.T) {
	for _, n := range []int{1, 10, 63, 64, 65, 127, 128, 129, 260} {
		for _, id := range ids() {
			same := strings.Repeat("a", n)
			key, msg := []byte(same), []byte(same)
			m := made(t, id, unsafe.String(&key[0], n))
			write(t, m, unsafe.String(&msg[0], n))
			if string(key) != same || string(msg) != same {
				t.Fatalf("what was handed in was changed: %q, %q", key, msg)
			}
			for i := range n {
				key[i], msg[i] = 'b', 'c'
			}
			checkSum(t, m, id, same, same)
			write(t, m, "more")
			checkSum(t, m, id, same, same+"more")
		}
	}
}

func TestSumsShareNoMemory(t *testing.T) {
	for _, id := range ids() {
		m := made(t, id, "key")
		write(t, m, "abc")
		first, second := m.Sum(), m.Sum()
		if unsafe.StringData(first) == unsafe.StringData(second) {
			t.Errorf("hash %d: two sums share memory", id)
		}
		write(t, m, strings.Repeat("x", 400))
		m.Sum()
		if want := judged(id, "key", "abc"); first != want || second != want {
			t.Errorf("hash %d: a sum was changed by what came behind it", id)
		}
	}
}

// R5

func TestMacsDoNotKnowOfOneAnother(t *testing.T) {
	r := rand.New(rand.NewSource(15))
	for range 60 {
		// two of each hash with one key, and a third with a key of its own
		all := append(append(ids(), ids()...), ids()...)
		keys := make([]string, len(all))
		macs, written := make([]*Mac, len(all)), make([]string, len(all))
		shared := drawn(r, r.Intn(300))
		for i, id := range all {
			if keys[i] = shared; i >= 2*len(ids()) {
				keys[i] = drawn(r, r.Intn(300))
			}
			macs[i] = made(t, id, keys[i])
		}
		for range 80 {
			i := r.Intn(len(all))
			piece := drawn(r, r.Intn(200))
			write(t, macs[i], piece)
			written[i] += piece
			k := r.Intn(len(all))
			checkSum(t, macs[k], all[k], keys[k], written[k])
			checkOf(t, all[k], keys[k], piece)
		}
	}
}

func TestAFailedNewChangesNothing(t *testing.T) {
	for _, id := range ids() {
		m := made(t, id, "key")
		write(t, m, "abc")
		for _, wrong := range wrongIds() {
			New(wrong, "other")
			Of(wrong, "other", "x")
		}
		checkSum(t, m, id, "key", "abc")
		checkOf(t, id, "key", "abc")
	}
}

func TestSeveralGoroutines(t *testing.T) {
	r := rand.New(rand.NewSource(16))
	texts := make([]string, 8)
	for i := range texts {
		texts[i] = drawn(r, 40*i+20)
	}
	var group sync.WaitGroup
	for i, text := range texts {
		group.Go(func() {
			for range 30 {
				for _, id := range ids() {
					want := judged(id, texts[0], text)
					m, errno := New(id, texts[0])
					if m.Write(text); errno != api.OK || m.Sum() != want {
						t.Errorf("text %d, hash %d, a Mac: %d", i, id, errno)
					}
					if got, errno := Of(id, texts[0], text); got != want || errno != api.OK {
						t.Errorf("text %d, hash %d: %x, %d", i, id, got, errno)
					}
				}
			}
		})
	}
	group.Wait()
}
