package drbg

import (
	judge "crypto/hmac"
	judge256 "crypto/sha256"
	judge512 "crypto/sha512"
	"encoding/hex"
	stdhash "hash"
	"math"
	"math/rand"
	"slices"
	"strings"
	"sync"
	"testing"
	"unsafe"

	"curvet/api"
	"curvet/hash"
	"curvet/hmac"
)

// rule is that of P11.1, word by word, for macs of whole texts: it knows of no
// limit and of no error.
type rule struct {
	mac   func(key string, msg string) string
	k, v  string
	count int
}

func (r *rule) update(s string) {
	r.k = r.mac(r.k, r.v+"\x00"+s)
	r.v = r.mac(r.k, r.v)
	if s != "" {
		r.k = r.mac(r.k, r.v+"\x01"+s)
		r.v = r.mac(r.k, r.v)
	}
}

func (r *rule) reseed(entropy string, more string) {
	r.update(entropy + more)
	r.count = 1
}

func (r *rule) generate(size int, more string) string {
	if more != "" {
		r.update(more)
	}
	out := ""
	for len(out) < size {
		r.v = r.mac(r.k, r.v)
		out += r.v
	}
	r.update(more)
	r.count++
	return out[:size]
}

// ruled goes by layer 10's macs.
func ruled(id int, entropy string, nonce string, personal string) *rule {
	return begun(id, func(key string, msg string) string {
		mac, _ := hmac.Of(id, key, msg)
		return mac
	}, entropy+nonce+personal)
}

// judged goes by the library's macs, which share no code with the program.
func judged(id int, entropy string, nonce string, personal string) *rule {
	return begun(id, func(key string, msg string) string {
		mac := judge.New(judges(id), []byte(key))
		mac.Write([]byte(msg))
		return string(mac.Sum(nil))
	}, entropy+nonce+personal)
}

func judges(id int) func() stdhash.Hash {
	switch id {
	case api.Hash224:
		return judge256.New224
	case api.Hash256:
		return judge256.New
	case api.Hash384:
		return judge512.New384
	}
	return judge512.New
}

func begun(id int, mac func(key string, msg string) string, seed string) *rule {
	size := sizeOf(id)
	r := &rule{mac: mac, k: strings.Repeat("\x00", size), v: strings.Repeat("\x01", size), count: 1}
	r.update(seed)
	return r
}

func sizeOf(id int) int {
	return map[int]int{api.Hash224: 28, api.Hash256: 32, api.Hash384: 48, api.Hash512: 64}[id]
}

func ids() []int {
	return []int{api.Hash224, api.Hash256, api.Hash384, api.Hash512}
}

func wrongIds() []int {
	return []int{
		0, 5, 6, 7, 8, 9, 10, 28, 32, 48, 64, 128, 160, 224, 255, 256, 257, 260, 384, 512, 513,
		-1, -2, -3, -4, -5, -224, -256, -384, -512, 1 << 16, 1<<16 + 2,
		1 << 32, 1<<32 + 1, 1<<32 + 2, 1<<32 + 3, 1<<32 + 4, 1 - 1<<32, 4 - 1<<32,
		math.MinInt, math.MinInt + 1, math.MinInt + 4, math.MaxInt, math.MaxInt - 1, math.MaxInt - 3,
	}
}

// sizes are those of requests: none, one, those about the ends of the first
// digests, the greatest.
func sizes(id int) []int {
	size := sizeOf(id)
	list := []int{0, 1, 2, 7, api.MaxRequest - 1, api.MaxRequest}
	for at := size; at < api.MaxRequest; at += size {
		list = append(list, at-1, at, at+1)
	}
	return slices.DeleteFunc(list, func(n int) bool { return n > api.MaxRequest })
}

// wrongSizes are those that no request may have.
func wrongSizes() []int {
	return []int{
		-1, -2, -28, -32, -256, -257, api.MaxRequest + 1, api.MaxRequest + 2, 300, 512, 65536,
		1 << 31, 1 << 32, 1<<32 + 1, 1<<32 + 256, 1 - 1<<32, 1 << 62,
		math.MinInt, math.MinInt + 1, math.MinInt + 256, math.MaxInt, math.MaxInt - 1,
	}
}

// longs are lengths beyond MaxEntropy.
func longs() []int {
	return []int{api.MaxEntropy + 1, api.MaxEntropy + 2, api.MaxEntropy + 16, 2 * api.MaxEntropy, 1 << 16, 1<<16 + 32}
}

func drawn(r *rand.Rand, n int) string {
	text := make([]byte, n)
	r.Read(text)
	return string(text)
}

// seedOf is entropy that is long enough for each hash.
func seedOf(r *rand.Rand) string {
	return drawn(r, 32+r.Intn(api.MaxEntropy-31))
}

func unhex(t *testing.T, digits string) string {
	t.Helper()
	text, err := hex.DecodeString(digits)
	if err != nil {
		t.Fatal(err)
	}
	return string(text)
}

func made(t *testing.T, id int, entropy string, nonce string, personal string) *Drbg {
	t.Helper()
	d, errno := New(id, entropy, nonce, personal)
	if d == nil || errno != api.OK {
		t.Fatalf("New(%d, %d, %d, %d bytes): %t, %d", id, len(entropy), len(nonce), len(personal), d != nil, errno)
	}
	if d.Count() != 1 {
		t.Fatalf("New(%d): Count %d", id, d.Count())
	}
	return d
}

func generate(t *testing.T, d *Drbg, size int, more string) string {
	t.Helper()
	was := d.Count()
	text, errno := d.Generate(size, more)
	if len(text) != size || errno != api.OK {
		t.Fatalf("Generate(%d, %d bytes): %d bytes, %d", size, len(more), len(text), errno)
	}
	if d.Count() != was+1 {
		t.Fatalf("Generate(%d, %d bytes): Count %d behind %d", size, len(more), d.Count(), was)
	}
	return text
}

func reseed(t *testing.T, d *Drbg, entropy string, more string) {
	t.Helper()
	if errno := d.Reseed(entropy, more); errno != api.OK || d.Count() != 1 {
		t.Fatalf("Reseed(%d, %d bytes): %d, Count %d", len(entropy), len(more), errno, d.Count())
	}
}

// follow asks for size bytes and holds them against those of the rules.
func follow(t *testing.T, d *Drbg, size int, more string, rules ...*rule) {
	t.Helper()
	got := generate(t, d, size, more)
	for _, r := range rules {
		if want := r.generate(size, more); got != want {
			t.Fatalf("Generate(%d, %d bytes): %x, not %x", size, len(more), got, want)
		}
		if d.Count() != r.count {
			t.Fatalf("Count %d, not %d", d.Count(), r.count)
		}
	}
}

// P11.1: bytes

func TestPublished(t *testing.T) {
	// the answers of the standard's own tests (without prediction resistance)
	// are those of the second request
	d := made(t, api.Hash256,
		unhex(t, "ca851911349384bffe89de1cbdc46e6831e44d34a4fb935ee285dd14b71a7488"),
		unhex(t, "659ba96c601dc69fc902940805ec0ca8"), "")
	generate(t, d, 128, "")
	if got := hex.EncodeToString([]byte(generate(t, d, 128, ""))); got != "e528e9abf2dece54d47c7e75e5fe302149f817ea9fb4bee6f4199697d04d5b89d54fbb978a15b5c443c9ec21036d2460b6f73ebad0dc2aba6e624abf07745bc107694bb7547bb0995f70de25d6b29e2d3011bb19d27676c07162c8b5ccde0668961df86803482cb37ed6d5c0bb8d50cf1f50d476aa0458bdaba806f48be9dcb8" {
		t.Errorf("without a Reseed: %s", got)
	}
	d = made(t, api.Hash256,
		unhex(t, "06032cd5eed33f39265f49ecb142c511da9aff2af71203bffaf34a9ca5bd9c0d"),
		unhex(t, "0e66f71edc43e42a45ad3c6fc6cdc4df"), "")
	reseed(t, d, unhex(t, "01920a4e669ed3a85ae8a33b35a74ad7fb2a6bb4cf395ce00334a9c9a5a5d552"), "")
	generate(t, d, 128, "")
	if got := hex.EncodeToString([]byte(generate(t, d, 128, ""))); got != "76fc79fe9b50beccc991a11b5635783a83536add03c157fb30645e611c2898bb2b1bc215000209208cd506cb28da2a51bdb03826aaf2bd2335d576d519160842e7158ad0949d1a9ec3e66ea1b1a064b005de914eac2e9d4f2d72a8616a80225422918250ff66a41bd2f864a6a38cc5b6499dc43f7f2bd09e1e0f8f5885935124" {
		t.Errorf("with a Reseed: %s", got)
	}
}

// The numbers k of RFC 6979 are what a generator gives whose entropy is the
// private key and whose nonce is the message's digest (cut to 256 bits, modulo
// N): those of A.2.5, by the four hashes in the order of their numbers.
func TestPublishedOfEachHash(t *testing.T) {
	entropy := unhex(t, "c9afa9d845ba75166b5c215767b1d6934e50c3db36e89b127b8a622b120f6721")
	for _, c := range []struct {
		id          int
		nonce, want string
	}{
		{api.Hash224, "000000009003e374bc726550c2c289447fd0533160f875709386dfa377bfd41c", "103f90ee9dc52e5e7fb5132b7033c63066d194321491862059967c715985d473"},
		{api.Hash256, "af2bdbe1aa9b6ec1e2ade1d694f41fc71a831d0268e9891562113d8a62add1bf", "a6e3c57dd01abe90086538398355dd4c3b17aa873382b0f24d6129493d8aad60"},
		{api.Hash384, "9a9083505bc92276aec4be312696ef7bf3bf603f4bbd381196a029f340585312", "09f634b188cefd98e7ec88b1aa9852d734d0bc272f7d2a47decc6ebeb375aad4"},
		{api.Hash512, "39a5e04aaff7455d9850c605364f514c11324ce64016960d23d5dc57d3ffd8f4", "5fa81c63109badb88c1f367b47da606da28cad69aa22c4fe6ad7df73a7173aa5"},
		{api.Hash224, "0000000090a3ed9e32b2aaf4c61c410eb925426119e1a9dc53d4286ade99a809", "669f4426f2688b8be0db3a6bd1989bdaefff84b649eeb84f3dd26080f667faa7"},
		{api.Hash256, "9f86d081884c7d659a2feaa0c55ad015a3bf4f1b2b0b822cd15d6c15b0f00a08", "d16b6ae827f17175e040871a1c7ec3500192c4c92677336ec2537acaee0008e0"},
		{api.Hash384, "768412320f7b0aa5812fce428dc4706b3cae50e02a64caa16a782249bfe8efc4", "16aeffa357260b04b1dd199693960740066c1a8f3e8edd79070aa914d361b3b8"},
		{api.Hash512, "ee26b0dd4af7e749aa1a8ee3c10ae9923f618980772e473f8819a5d4940e0db2", "6915d11632aca3c40d5d51c08daf9c555933819548784480e93499000d9f0b7f"},
	} {
		d := made(t, c.id, entropy, unhex(t, c.nonce), "")
		if got := hex.EncodeToString([]byte(generate(t, d, 32, ""))); got != c.want {
			t.Errorf("hash %d: %s, not %s", c.id, got, c.want)
		}
	}
}

// Each of nonce, personal and more there or not, requests of each size.
func TestByTheRule(t *testing.T) {
	r := rand.New(rand.NewSource(1))
	for _, id := range ids() {
		for with := range 8 {
			part := func(bit int) string {
				return drawn(r, with>>bit&1*(1+r.Intn(60)))
			}
			entropy, nonce, personal := drawn(r, sizeOf(id)/2+r.Intn(40)), part(0), part(1)
			d := made(t, id, entropy, nonce, personal)
			rules := []*rule{ruled(id, entropy, nonce, personal), judged(id, entropy, nonce, personal)}
			for _, size := range sizes(id) {
				follow(t, d, size, part(2), rules...)
			}
		}
	}
}

func TestFirstRequestsOfEverySize(t *testing.T) {
	for _, id := range ids() {
		for size := range api.MaxRequest + 1 {
			for _, more := range []string{"", "more"} {
				d := made(t, id, strings.Repeat("e", 32), "nonce", "me")
				j := judged(id, strings.Repeat("e", 32), "nonce", "me")
				follow(t, d, size, more, j)
				follow(t, d, 40, "", j)
			}
		}
	}
}

func TestPartsOfEveryLength(t *testing.T) {
	r := rand.New(rand.NewSource(2))
	for _, id := range ids() {
		for n := range api.MaxEntropy + 1 {
			long, seed := drawn(r, n), drawn(r, 32)
			for _, parts := range [][4]string{
				{seed, long, "", ""}, {seed, "", long, ""}, {seed, "", "", long}, {long, "", "", ""}, {seed, long, long, long},
			} {
				if len(parts[0]) < sizeOf(id)/2 {
					continue
				}
				d := made(t, id, parts[0], parts[1], parts[2])
				j := judged(id, parts[0], parts[1], parts[2])
				follow(t, d, 33, parts[3], j)
				reseed(t, d, parts[0], parts[3])
				j.reseed(parts[0], parts[3])
				follow(t, d, 33, "", j)
			}
		}
	}
}

func TestPartsOfNoughtsAndOnes(t *testing.T) {
	for _, id := range ids() {
		for _, with := range []string{"\x00", "\x01", "\xff"} {
			for _, n := range []int{1, sizeOf(id) / 2, sizeOf(id), api.MaxEntropy} {
				text := strings.Repeat(with, n)
				seed := strings.Repeat(with, max(n, sizeOf(id)/2))
				d, j := made(t, id, seed, text, text), judged(id, seed, text, text)
				follow(t, d, 70, text, j)
				follow(t, d, 70, "", j)
				reseed(t, d, seed, text)
				j.reseed(seed, text)
				follow(t, d, 70, text, j)
			}
		}
	}
}

func TestManyCalls(t *testing.T) {
	r := rand.New(rand.NewSource(3))
	for range 60 {
		for _, id := range ids() {
			entropy, nonce, personal := seedOf(r), drawn(r, r.Intn(2)*r.Intn(257)), drawn(r, r.Intn(2)*r.Intn(257))
			d, j := made(t, id, entropy, nonce, personal), judged(id, entropy, nonce, personal)
			for range 60 {
				if r.Intn(6) == 0 {
					fresh, more := seedOf(r), drawn(r, r.Intn(2)*r.Intn(257))
					reseed(t, d, fresh, more)
					j.reseed(fresh, more)
				}
				follow(t, d, r.Intn(api.MaxRequest+1), drawn(r, r.Intn(2)*r.Intn(257)), j)
			}
		}
	}
}

func TestPartsAreTakenTogether(t *testing.T) {
	r := rand.New(rand.NewSource(4))
	text := drawn(r, 120)
	for _, id := range ids() {
		whole := made(t, id, text, "", "")
		want := generate(t, whole, 50, "")
		reseed(t, whole, text, "")
		again := generate(t, whole, 50, "")
		for first := sizeOf(id) / 2; first <= len(text); first++ {
			second := first + r.Intn(len(text)-first+1)
			d := made(t, id, text[:first], text[first:second], text[second:])
			if got := generate(t, d, 50, ""); got != want {
				t.Fatalf("hash %d, cut at %d and %d: %x, not %x", id, first, second, got, want)
			}
			reseed(t, d, text[:first], text[first:])
			if got := generate(t, d, 50, ""); got != again {
				t.Fatalf("hash %d, a Reseed cut at %d: %x, not %x", id, first, got, again)
			}
		}
	}
}

func TestEveryPartCounts(t *testing.T) {
	for _, id := range ids() {
		seen := map[string]int{}
		for i, parts := range [][3]string{
			{strings.Repeat("e", 32), "", ""}, {strings.Repeat("e", 33), "", ""}, {strings.Repeat("f", 32), "", ""},
			{strings.Repeat("e", 32), "n", ""}, {strings.Repeat("e", 32), "", "p"}, {strings.Repeat("e", 32), "n", "p"},
			{strings.Repeat("e", 32), "p", "n"}, {strings.Repeat("e", 32), "\x00", ""}, {strings.Repeat("e", 32), "\x00", "\x00"},
		} {
			for k, more := range []string{"", "m", "\x00", "\x01", "mm"} {
				d := made(t, id, parts[0], parts[1], parts[2])
				text := generate(t, d, 32, more)
				if other, was := seen[text]; was {
					t.Errorf("hash %d: case %d.%d answers as case %d", id, i, k, other)
				}
				seen[text] = i
			}
		}
	}
}

func TestALongerFirstRequestBeginsAsAShorterOne(t *testing.T) {
	for _, id := range ids() {
		for _, more := range []string{"", "more"} {
			whole := generate(t, made(t, id, strings.Repeat("e", 32), "nonce", "me"), api.MaxRequest, more)
			for size := range api.MaxRequest {
				if got := generate(t, made(t, id, strings.Repeat("e", 32), "nonce", "me"), size, more); got != whole[:size] {
					t.Fatalf("hash %d: %d bytes: %x, not %x", id, size, got, whole[:size])
				}
			}
		}
	}
}

// The next request does not go on where the one ahead of it ended.
func TestRequestsAreNotOneRow(t *testing.T) {
	for _, id := range ids() {
		whole := generate(t, made(t, id, strings.Repeat("e", 32), "", ""), api.MaxRequest, "")
		for _, size := range sizes(id)[1:] {
			d := made(t, id, strings.Repeat("e", 32), "", "")
			first, second := generate(t, d, size, ""), generate(t, d, 32, "")
			if strings.Contains(whole, second) || strings.Contains(first, second) || size >= 32 && strings.Contains(second, first) {
				t.Errorf("hash %d: a request behind one of %d bytes", id, size)
			}
		}
	}
}

func TestARequestOfNoBytesMovesOn(t *testing.T) {
	for _, id := range ids() {
		seen := map[string]int{}
		for rounds := range 5 {
			d, j := made(t, id, strings.Repeat("e", 32), "", ""), judged(id, strings.Repeat("e", 32), "", "")
			for range rounds {
				follow(t, d, 0, "", j)
			}
			if d.Count() != rounds+1 {
				t.Errorf("hash %d: Count %d behind %d requests", id, d.Count(), rounds)
			}
			text := generate(t, d, 32, "")
			if want := j.generate(32, ""); text != want {
				t.Errorf("hash %d, behind %d requests of no bytes: %x, not %x", id, rounds, text, want)
			}
			if other, was := seen[text]; was {
				t.Errorf("hash %d: %d and %d requests of no bytes: the same", id, rounds, other)
			}
			seen[text] = rounds
		}
	}
}

// An empty more is none, and one that is not is taken in twice.
func TestEmptyMore(t *testing.T) {
	for _, id := range ids() {
		entropy := strings.Repeat("e", 32)
		d, other := made(t, id, entropy, "", ""), made(t, id, entropy, "", "")
		cut := "text"
		none, with := ruled(id, entropy, "", ""), ruled(id, entropy, "", "")
		for range 3 {
			first, second := generate(t, d, 40, ""), generate(t, other, 40, cut[4:])
			if first != second || first != none.generate(40, "") {
				t.Errorf("hash %d: an empty more counts", id)
			}
			if with.generate(40, "\x00") == first {
				t.Errorf("hash %d: a more of one nought does not count", id)
			}
		}
		reseed(t, d, entropy, "")
		reseed(t, other, entropy, cut[:0])
		if generate(t, d, 40, "") != generate(t, other, 40, "") {
			t.Errorf("hash %d: an empty more of Reseed counts", id)
		}
	}
}

func TestMoreCountsForWhatFollowsToo(t *testing.T) {
	for _, id := range ids() {
		for _, size := range []int{0, 1, 100} {
			d, other := made(t, id, strings.Repeat("e", 32), "", ""), made(t, id, strings.Repeat("e", 32), "", "")
			generate(t, d, size, "more")
			generate(t, other, size, "")
			if generate(t, d, 32, "") == generate(t, other, 32, "") {
				t.Errorf("hash %d, %d bytes: what follows does not hang on more", id, size)
			}
		}
	}
}

// P11.1: New's errors

func TestNoSuchHash(t *testing.T) {
	long := strings.Repeat("x", 1<<16)
	for _, id := range wrongIds() {
		// the second error would apply too to some of these
		for _, parts := range [][3]string{
			{"", "", ""}, {"x", "", ""}, {long[:32], "", ""}, {long[:32], "n", "p"}, {long[:256], long[:256], long[:256]},
			{long[:257], "", ""}, {long[:32], long, ""}, {long[:32], "", long}, {long, long, long}, {"", long, long},
		} {
			if d, errno := New(id, parts[0], parts[1], parts[2]); d != nil || errno != api.ErrDrbgHash {
				t.Errorf("New(%d): %t, %d", id, d != nil, errno)
			}
		}
	}
}

func TestOnlyFourHashes(t *testing.T) {
	for id := -2000; id <= 2000; id++ {
		is := 1 <= id && id <= 4
		d, errno := New(id, strings.Repeat("e", 32), "n", "p")
		if is != (d != nil) || is != (errno == api.OK) || !is && errno != api.ErrDrbgHash {
			t.Errorf("hash %d: %t, %d", id, d != nil, errno)
		}
	}
}

// checkNew holds New, of entropy of n bytes, against the promise.
func checkNew(t *testing.T, id int, n int, nonce string, personal string, fine bool) {
	t.Helper()
	d, errno := New(id, strings.Repeat("e", n), nonce, personal)
	if fine && (d == nil || errno != api.OK || d.Count() != 1) {
		t.Errorf("hash %d, %d, %d, %d bytes: %t, %d", id, n, len(nonce), len(personal), d != nil, errno)
	}
	if !fine && (d != nil || errno != api.ErrDrbgEntropy) {
		t.Errorf("hash %d, %d, %d, %d bytes are not refused: %t, %d", id, n, len(nonce), len(personal), d != nil, errno)
	}
}

func TestLengthsOfEntropy(t *testing.T) {
	for i, id := range ids() {
		least := []int{14, 16, 24, 32}[i]
		for n := range 2 * api.MaxEntropy {
			fine := least <= n && n <= 256
			checkNew(t, id, n, "", "", fine)
			// what goes beside it does not make it longer
			checkNew(t, id, n, strings.Repeat("n", 256), strings.Repeat("p", 256), fine)
		}
		for _, n := range longs() {
			checkNew(t, id, n, "", "", false)
		}
	}
}

func TestLengthsOfNonceAndPersonal(t *testing.T) {
	for _, id := range ids() {
		for n := range 2 * api.MaxEntropy {
			text := strings.Repeat("x", n)
			for _, entropy := range []int{sizeOf(id) / 2, 100, 256} {
				checkNew(t, id, entropy, text, "", n <= 256)
				checkNew(t, id, entropy, "", text, n <= 256)
				checkNew(t, id, entropy, text, text, n <= 256)
			}
		}
		for _, n := range longs() {
			text := strings.Repeat("x", n)
			checkNew(t, id, 64, text, "", false)
			checkNew(t, id, 64, "", text, false)
			checkNew(t, id, 64, text, text, false)
			checkNew(t, id, n, text, text, false)
			checkNew(t, id, 0, text, text, false)
		}
	}
}

// P11.1: Reseed's errors

// checkReseed holds Reseed against the promise. A refused one has changed
// neither Count nor what the next request answers.
func checkReseed(t *testing.T, id int, requests int, entropy string, more string, fine bool) {
	t.Helper()
	d, j := made(t, id, strings.Repeat("s", 32), "", ""), judged(id, strings.Repeat("s", 32), "", "")
	for range requests {
		follow(t, d, 3, "", j)
	}
	errno := d.Reseed(entropy, more)
	if fine {
		j.reseed(entropy, more)
	}
	if fine != (errno == api.OK) || !fine && errno != api.ErrDrbgEntropy {
		t.Errorf("hash %d, Reseed(%d, %d bytes): %d", id, len(entropy), len(more), errno)
	}
	if d.Count() != j.count {
		t.Errorf("hash %d, Reseed(%d, %d bytes): Count %d, not %d", id, len(entropy), len(more), d.Count(), j.count)
	}
	if requests < api.MaxRequests || fine {
		follow(t, d, 40, "", j)
		follow(t, d, 40, "more", j)
	} else if text, errno := d.Generate(1, ""); text != "" || errno != api.ErrDrbgReseed {
		t.Errorf("hash %d, a request behind a refused Reseed: %x, %d", id, text, errno)
	}
}

func TestLengthsOfReseed(t *testing.T) {
	for i, id := range ids() {
		least := []int{14, 16, 24, 32}[i]
		for n := range api.MaxEntropy + 10 {
			text := strings.Repeat("x", n)
			checkReseed(t, id, n%3, text, "", least <= n && n <= 256)
			checkReseed(t, id, n%3, text, strings.Repeat("m", 256), least <= n && n <= 256)
			checkReseed(t, id, n%3, strings.Repeat("e", least), text, n <= 256)
			checkReseed(t, id, n%3, strings.Repeat("e", 256), text, n <= 256)
		}
		for _, n := range longs() {
			text := strings.Repeat("x", n)
			checkReseed(t, id, 1, text, "", false)
			checkReseed(t, id, 1, strings.Repeat("e", least), text, false)
			checkReseed(t, id, 1, text, text, false)
			checkReseed(t, id, 1, "", text, false)
		}
	}
}

func TestReseedBehindTheLastRequest(t *testing.T) {
	for _, id := range ids() {
		for _, requests := range []int{api.MaxRequests - 2, api.MaxRequests} {
			checkReseed(t, id, requests, strings.Repeat("e", 32), "", true)
			checkReseed(t, id, requests, strings.Repeat("e", 32), "more", true)
			checkReseed(t, id, requests, strings.Repeat("e", sizeOf(id)/2-1), "", false)
			checkReseed(t, id, requests, strings.Repeat("e", 257), "", false)
			checkReseed(t, id, requests, "", "", false)
			checkReseed(t, id, requests, strings.Repeat("e", 32), strings.Repeat("m", 257), false)
		}
	}
}

// What was taken in ahead of a Reseed goes on to count.
func TestReseedDoesNotBeginAnew(t *testing.T) {
	for _, id := range ids() {
		fresh := generate(t, made(t, id, strings.Repeat("f", 32), "", ""), 32, "")
		first := made(t, id, strings.Repeat("e", 32), "", "")
		second := made(t, id, strings.Repeat("g", 32), "", "")
		reseed(t, first, strings.Repeat("f", 32), "")
		reseed(t, second, strings.Repeat("f", 32), "")
		a, b := generate(t, first, 32, ""), generate(t, second, 32, "")
		if a == fresh || b == fresh || a == b {
			t.Errorf("hash %d: a Reseed forgets", id)
		}
	}
}

// P11.1: Generate's errors

// checkRefused holds that a request is refused, and that neither Count nor what
// comes next has changed.
func checkRefused(t *testing.T, d *Drbg, size int, more string, want api.Errno) {
	t.Helper()
	was := *d
	if text, errno := d.Generate(size, more); text != "" || errno != want {
		t.Errorf("Generate(%d, %d bytes): %x, %d, not %d", size, len(more), text, errno, want)
	}
	if *d != was || d.Count() != was.Count() {
		t.Errorf("Generate(%d, %d bytes) was refused, but has changed something", size, len(more))
	}
}

func TestWrongSizes(t *testing.T) {
	for _, id := range ids() {
		d, j := made(t, id, strings.Repeat("e", 32), "", ""), judged(id, strings.Repeat("e", 32), "", "")
		for _, size := range wrongSizes() {
			checkRefused(t, d, size, "", api.ErrDrbgLong)
			checkRefused(t, d, size, "more", api.ErrDrbgLong)
			checkRefused(t, d, size, strings.Repeat("m", 256), api.ErrDrbgLong)
			checkRefused(t, d, size, strings.Repeat("m", 257), api.ErrDrbgLong)
			follow(t, d, 40, "", j)
		}
		for size := -600; size <= 600; size++ {
			fresh := made(t, id, strings.Repeat("e", 32), "", "")
			text, errno := fresh.Generate(size, "")
			fine := 0 <= size && size <= 256
			if fine != (errno == api.OK) || !fine && (text != "" || errno != api.ErrDrbgLong || fresh.Count() != 1) {
				t.Errorf("hash %d, %d bytes: %x, %d, Count %d", id, size, text, errno, fresh.Count())
			}
		}
	}
}

func TestLengthsOfMore(t *testing.T) {
	for _, id := range ids() {
		d, j := made(t, id, strings.Repeat("e", 32), "", ""), judged(id, strings.Repeat("e", 32), "", "")
		for _, size := range []int{0, 1, 32, api.MaxRequest} {
			for _, n := range []int{1, 255, 256} {
				follow(t, d, size, strings.Repeat("m", n), j)
			}
			for _, n := range longs() {
				checkRefused(t, d, size, strings.Repeat("m", n), api.ErrDrbgLong)
			}
			follow(t, d, size, "", j)
		}
	}
}

func TestAsManyRequestsAsThereMayBe(t *testing.T) {
	for _, id := range ids() {
		for _, size := range []int{0, 1, 40, api.MaxRequest} {
			d, j := made(t, id, strings.Repeat("e", 32), "n", ""), judged(id, strings.Repeat("e", 32), "n", "")
			for round := range 3 {
				for i := range 64 {
					if d.Count() != i+1 {
						t.Fatalf("hash %d: Count %d ahead of request %d", id, d.Count(), i+1)
					}
					follow(t, d, size, strings.Repeat("m", i%3), j)
				}
				if d.Count() != 65 {
					t.Fatalf("hash %d: Count %d behind the last request", id, d.Count())
				}
				for range 3 {
					checkRefused(t, d, size, "", api.ErrDrbgReseed)
					checkRefused(t, d, 0, "", api.ErrDrbgReseed)
					checkRefused(t, d, api.MaxRequest, strings.Repeat("m", 256), api.ErrDrbgReseed)
				}
				fresh := strings.Repeat("f", 32+round)
				reseed(t, d, fresh, "")
				j.reseed(fresh, "")
			}
		}
	}
}

func TestBothErrorsOfARequest(t *testing.T) {
	for _, id := range ids() {
		d := made(t, id, strings.Repeat("e", 32), "", "")
		for range api.MaxRequests {
			generate(t, d, 1, "")
		}
		for _, size := range wrongSizes() {
			checkRefused(t, d, size, "", api.ErrDrbgLong)
		}
		for _, n := range longs() {
			checkRefused(t, d, 1, strings.Repeat("m", n), api.ErrDrbgLong)
			checkRefused(t, d, -1, strings.Repeat("m", n), api.ErrDrbgLong)
		}
		checkRefused(t, d, 1, "", api.ErrDrbgReseed)
	}
}

// Requests that are refused use none up.
func TestRefusedRequestsAreNotCounted(t *testing.T) {
	for _, id := range ids() {
		d, j := made(t, id, strings.Repeat("e", 32), "", ""), judged(id, strings.Repeat("e", 32), "", "")
		for range 3 * api.MaxRequests {
			checkRefused(t, d, api.MaxRequest+1, "", api.ErrDrbgLong)
			checkRefused(t, d, 1, strings.Repeat("m", 257), api.ErrDrbgLong)
		}
		for range api.MaxRequests {
			follow(t, d, 5, "", j)
		}
		checkRefused(t, d, 5, "", api.ErrDrbgReseed)
	}
}

// P11.1: Count

func TestCount(t *testing.T) {
	for _, id := range ids() {
		d := made(t, id, strings.Repeat("e", 32), "", "")
		for _, requests := range []int{0, 1, 2, 5, 63, 64} {
			for i := range requests {
				generate(t, d, i, "")
				for range 3 {
					if d.Count() != i+2 {
						t.Fatalf("hash %d: Count %d behind %d requests", id, d.Count(), i+1)
					}
				}
			}
			reseed(t, d, strings.Repeat("f", 32), "more")
			reseed(t, d, strings.Repeat("f", 32), "")
		}
	}
}

// R3

func TestNil(t *testing.T) {
	var none *Drbg
	for _, text := range []string{"", "x", strings.Repeat("x", 32), strings.Repeat("x", 400)} {
		if errno := none.Reseed(text, text); errno != api.ErrNil {
			t.Errorf("Reseed: %d", errno)
		}
		for _, size := range append(wrongSizes(), 0, 1, 32, 256) {
			if got, errno := none.Generate(size, text); got != "" || errno != api.ErrNil {
				t.Errorf("Generate: %x, %d", got, errno)
			}
		}
	}
	if none.Count() != 0 {
		t.Errorf("Count: %d", none.Count())
	}
}

// R1: without a panic, and to an end: there is no such hash.
func TestNotMadeByNew(t *testing.T) {
	var d Drbg
	for _, text := range []string{"", "x", strings.Repeat("x", 32), strings.Repeat("x", 400)} {
		if errno := d.Reseed(text, text); errno != api.ErrDrbgHash {
			t.Errorf("Reseed: %d", errno)
		}
		for _, size := range append(wrongSizes(), 0, 1, 32, 256) {
			checkRefused(t, &d, size, text, api.ErrDrbgHash)
		}
	}
	if d != (Drbg{}) || d.Count() != 0 {
		t.Errorf("it was changed: Count %d", d.Count())
	}
}

// R4

func TestWhatIsHandedInIsNotKept(t *testing.T) {
	for _, id := range ids() {
		for _, n := range []int{32, 63, 64, 65, 127, 128, 129, 256} {
			same := strings.Repeat("a", n)
			j := judged(id, same, same, same)
			hand := func() ([]byte, string) {
				text := []byte(same)
				return text, unsafe.String(&text[0], n)
			}
			spoil := func(texts ...[]byte) {
				for _, text := range texts {
					if string(text) != same {
						t.Fatalf("what was handed in was changed: %q", text)
					}
					for i := range text {
						text[i] = 'b'
					}
				}
			}
			entropy, e := hand()
			nonce, o := hand()
			personal, p := hand()
			d := made(t, id, e, o, p)
			spoil(entropy, nonce, personal)
			follow(t, d, 70, "", j)
			more, m := hand()
			follow(t, d, 70, m, j)
			spoil(more)
			follow(t, d, 70, "", j)
			entropy, e = hand()
			more, m = hand()
			reseed(t, d, e, m)
			j.reseed(same, same)
			spoil(entropy, more)
			follow(t, d, 70, "", j)
			// entropy alone: a text with nothing behind it may be handed on as it is
			entropy, e = hand()
			reseed(t, d, e, "")
			j.reseed(same, "")
			spoil(entropy)
			follow(t, d, 70, "", j)
		}
	}
}

func TestAnswersShareNoMemory(t *testing.T) {
	overlap := func(a string, b string) bool {
		from, to := uintptr(unsafe.Pointer(unsafe.StringData(a))), uintptr(unsafe.Pointer(unsafe.StringData(b)))
		return a != "" && b != "" && from < to+uintptr(len(b)) && to < from+uintptr(len(a))
	}
	for _, id := range ids() {
		d, j := made(t, id, strings.Repeat("e", 32), "", ""), judged(id, strings.Repeat("e", 32), "", "")
		var texts, wants []string
		for _, size := range sizes(id) {
			texts, wants = append(texts, generate(t, d, size, "")), append(wants, j.generate(size, ""))
		}
		for i, text := range texts {
			if text != wants[i] {
				t.Errorf("hash %d: an answer was changed by what came behind it", id)
			}
			if overlap(text, d.key.text) || overlap(text, d.value) {
				t.Errorf("hash %d: an answer of %d bytes shares memory with what is kept", id, len(text))
			}
			for _, other := range texts[:i] {
				if overlap(text, other) {
					t.Errorf("hash %d: answers of %d and %d bytes share memory", id, len(text), len(other))
				}
			}
		}
	}
}

// R5

func TestGeneratorsOfTheSameEntropy(t *testing.T) {
	r := rand.New(rand.NewSource(5))
	for _, id := range ids() {
		for range 20 {
			entropy, nonce, personal := seedOf(r), drawn(r, r.Intn(100)), drawn(r, r.Intn(100))
			// called in turn, and one of them well ahead of the others
			first, second, third := made(t, id, entropy, nonce, personal), made(t, id, entropy, nonce, personal), made(t, id, entropy, nonce, personal)
			var rows []string
			for i := range 20 {
				rows = append(rows, generate(t, third, i, "more"))
			}
			for i := range 20 {
				if a, b := generate(t, first, i, "more"), generate(t, second, i, "more"); a != b || a != rows[i] {
					t.Fatalf("hash %d, request %d: %x, %x, %x", id, i, a, b, rows[i])
				}
			}
		}
	}
}

func TestGeneratorsDoNotKnowOfOneAnother(t *testing.T) {
	r := rand.New(rand.NewSource(6))
	for range 20 {
		// two of each hash with one entropy, and a third with entropy of its own
		all := slices.Concat(ids(), ids(), ids())
		shared := seedOf(r)
		list, rules := make([]*Drbg, len(all)), make([]*rule, len(all))
		for i, id := range all {
			entropy := shared
			if i >= 2*len(ids()) {
				entropy = seedOf(r)
			}
			list[i], rules[i] = made(t, id, entropy, "n", ""), judged(id, entropy, "n", "")
		}
		for range 200 {
			i := r.Intn(len(all))
			switch {
			case rules[i].count > api.MaxRequests || r.Intn(8) == 0:
				fresh := seedOf(r)
				reseed(t, list[i], fresh, "m")
				rules[i].reseed(fresh, "m")
			case r.Intn(8) == 0:
				checkRefused(t, list[i], 257, "", api.ErrDrbgLong)
			default:
				follow(t, list[i], r.Intn(100), drawn(r, r.Intn(2)*r.Intn(100)), rules[i])
			}
			if k := r.Intn(len(all)); list[k].Count() != rules[k].count {
				t.Fatalf("Count %d, not %d", list[k].Count(), rules[k].count)
			}
		}
	}
}

func TestAFailedNewChangesNothing(t *testing.T) {
	for _, id := range ids() {
		d, j := made(t, id, strings.Repeat("e", 32), "", ""), judged(id, strings.Repeat("e", 32), "", "")
		for _, wrong := range wrongIds() {
			New(wrong, strings.Repeat("e", 32), "", "")
			New(id, "", "", "")
			New(id, strings.Repeat("e", 257), "", "")
		}
		follow(t, d, 40, "", j)
		follow(t, made(t, id, strings.Repeat("e", 32), "", ""), 40, "", judged(id, strings.Repeat("e", 32), "", ""))
	}
}

func TestSeveralGoroutines(t *testing.T) {
	r := rand.New(rand.NewSource(7))
	seeds := make([]string, 8)
	for i := range seeds {
		seeds[i] = drawn(r, 32+10*i)
	}
	var group sync.WaitGroup
	for i, seed := range seeds {
		group.Go(func() {
			for _, id := range ids() {
				d, errno := New(id, seed, "n", "p")
				if errno != api.OK {
					t.Errorf("seed %d, hash %d: %d", i, id, errno)
					return
				}
				j := judged(id, seed, "n", "p")
				for size := range 60 {
					if got, errno := d.Generate(size, "m"); got != j.generate(size, "m") || errno != api.OK {
						t.Errorf("seed %d, hash %d: %x, %d", i, id, got, errno)
					}
				}
			}
		})
	}
	group.Wait()
}

// The lengths that the tests write out are those of layer 9.
func TestHalfOfADigest(t *testing.T) {
	for _, id := range ids() {
		if hash.Size(id) != sizeOf(id) {
			t.Errorf("hash %d: %d bytes, not %d", id, hash.Size(id), sizeOf(id))
		}
	}
}
