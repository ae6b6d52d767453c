package key

import (
	"crypto/sha256"
	"crypto/sha512"
	"math/big"
	"math/rand"
	"strconv"
	"strings"
	"sync"
	"testing"

	"curvet/api"
	"curvet/drbg"
)

const entropy = "thirty-two bytes of entropy, and"

// others are curves of whose numbers of N's bits a good part is no key.
func others() []int {
	return []int{
		api.CurveB160, api.CurveB224, api.CurveB256, api.CurveB320, api.CurveB384, api.CurveB512,
		api.CurveTiny1, api.CurveTiny2, api.CurveTiny3,
	}
}

// eachDrbg runs a test for each curve and each hash.
func eachDrbg(t *testing.T, test func(t *testing.T, m model, hash int)) {
	t.Helper()
	eachCurve(t, func(t *testing.T, m model, _ *rand.Rand) {
		for _, hash := range hashes() {
			test(t, m, hash)
		}
	})
}

// P24.2: keys

// TestMake: keys one behind the other, as far as one entropy goes and behind a reseed.
func TestMake(t *testing.T) {
	eachDrbg(t, func(t *testing.T, m model, hash int) {
		for _, nonce := range []string{"", "nonce"} {
			p := paired(t, hash, entropy, nonce)
			for turn := range 3 {
				checkRow(p, m)
				p.reseed(entropy + strconv.Itoa(turn))
			}
		}
	})
}

// checkRow makes keys until a reseed is wanted, and once more.
func checkRow(p *pair, m model) {
	p.t.Helper()
	for range api.MaxRequests {
		ahead := p.g.Count()
		_, tries, errno := p.checkMake(m)
		if errno != api.OK {
			break
		}
		if p.g.Count() != ahead+tries {
			p.t.Fatalf("curve %d: Count %d, was %d, of %d tries", m.id, p.g.Count(), ahead, tries)
		}
	}
	checkRefused(p, m, 0)
}

// checkRefused expects a DRBG that wants a reseed behind so many tries.
func checkRefused(p *pair, m model, ahead int) {
	p.t.Helper()
	if d, tries, errno := p.checkMake(m); d != (api.Nat{}) || tries != ahead || errno != api.ErrKeyDrbg {
		p.t.Fatalf("curve %d: %x, %d tries, %d", m.id, bigOf(d), tries, errno)
	}
}

// TestByTurns: one DRBG of each hash, asked for keys of each curve by turns, with
// requests of others between them.
func TestByTurns(t *testing.T) {
	t.Parallel()
	for _, hash := range hashes() {
		p, list := paired(t, hash, entropy, "turns"), models()
		r := rand.New(rand.NewSource(int64(hash)))
		for turn := range 400 {
			m := list[turn%len(list)]
			if turn >= 100 {
				m = list[r.Intn(len(list))]
			}
			if _, _, errno := p.checkMake(m); errno != api.OK {
				p.reseed(entropy + strconv.Itoa(turn))
			}
			if turn%5 == 4 {
				p.takeOut(turn % api.MaxRequest)
			}
		}
	}
}

// takeOut asks both for some bytes that go to no key.
func (p *pair) takeOut(size int) {
	p.t.Helper()
	want, fine := p.ask(size)
	if text, errno := p.g.Generate(size, ""); text != want || fine != (errno == api.OK) {
		p.t.Fatalf("%d bytes: %x, %d", size, text, errno)
	}
}

// TestMorePersonal: whatever the DRBG was made of and asked for, Make goes on from there.
func TestMorePersonal(t *testing.T) {
	eachDrbg(t, func(t *testing.T, m model, hash int) {
		g, errno := drbg.New(hash, entropy, "nonce", "personal")
		if errno != api.OK {
			t.Fatalf("%d", errno)
		}
		beside := *g
		p := &pair{t, g, &beside, ruled(hash, entropy+"noncepersonal")}
		for range 5 {
			p.checkMake(m)
		}
	})
}

// TestTriesOfOneTwoAndMore: a DRBG is found whose first key wants so many tries.
func TestTriesOfOneTwoAndMore(t *testing.T) {
	t.Parallel()
	for _, id := range others() {
		m := models()[id-1]
		for _, hash := range hashes() {
			for tries := 1; tries <= 4; tries++ {
				p := paired(t, hash, entropy, nonceFor(t, m, hash, tries))
				if _, n, errno := p.checkMake(m); n != tries || errno != api.OK || p.g.Count() != 1+tries {
					t.Fatalf("curve %d, hash %d: %d tries, %d; Count %d", id, hash, n, errno, p.g.Count())
				}
			}
		}
	}
}

// nonceFor finds what gives a key at the try with this number, by the rule alone.
func nonceFor(t *testing.T, m model, hash int, tries int) string {
	t.Helper()
	for i := range 40000 {
		nonce := strconv.Itoa(i)
		one := ruled(hash, entropy+nonce)
		if _, n, code := m.tries(one.generate); n == tries && code == api.OK {
			return nonce
		}
	}
	t.Fatalf("curve %d, hash %d: no nonce for %d tries", m.id, hash, tries)
	return ""
}

// TestTriesOfFew: curves on which a second try is hardly ever wanted.
func TestTriesOfFew(t *testing.T) {
	t.Parallel()
	for _, id := range []int{api.CurveP192, api.CurveP224, api.CurveP256, api.CurveP384, api.CurveP521, api.CurveK256} {
		p := paired(t, api.Hash512, entropy, "few")
		for range 64 {
			if _, n, errno := p.checkMake(models()[id-1]); n != 1 || errno != api.OK {
				t.Fatalf("curve %d: %d tries, %d", id, n, errno)
			}
		}
	}
}

// TestAllTinyKeys: of a tiny curve each key comes, N - 1 and 1 too, and each often enough.
func TestAllTinyKeys(t *testing.T) {
	t.Parallel()
	for _, m := range tinyModels() {
		var count [256]int
		g := made(t, api.Hash256, entropy, "tiny")
		for turn := range 20000 {
			d, _, errno := Make(m.id, g)
			if errno == api.OK {
				count[d.W[0]]++
			} else if errno := g.Reseed(entropy, strconv.Itoa(turn)); errno != api.OK {
				t.Fatalf("%d", errno)
			}
		}
		for d, n := range count {
			if mean := 20000 / int(m.n.Int64()); m.takes(big.NewInt(int64(d))) != (n > 0) || n > 0 && (n < mean/2 || n > 2*mean) {
				t.Errorf("curve %d: %d came %d times", m.id, d, n)
			}
		}
	}
}

// TestMakePublished: the numbers k of RFC 6979 (A.2.3 to A.2.7), which are made by the
// same rule of a key and a digest.
func TestMakePublished(t *testing.T) {
	t.Parallel()
	for _, c := range []struct {
		id, hash     int
		sample, test string
	}{
		{api.CurveP192, api.Hash224, "4381526b3fc1e7128f202e194505592f01d5ff4c5af015d8", "f5dc805f76ef851800700cce82e7b98d8911b7d510059fbe"},
		{api.CurveP192, api.Hash256, "32b1b6d7d42a05cb449065727a84804fb1a3e34d8f261496", "5c4ce89cf56d9e7c77c8585339b006b97b5f0680b4306c6c"},
		{api.CurveP192, api.Hash384, "4730005c4fcb01834c063a7b6760096dbe284b8252ef4311", "5afefb5d3393261b828db6c91fbc68c230727b030c975693"},
		{api.CurveP224, api.Hash224, "c1d1f2f10881088301880506805feb4825fe09acb6816c36991aa06d", "df8b38d40dca3e077d0ac520bf56b6d565134d9b5f2eae0d34900524"},
		{api.CurveP224, api.Hash256, "ad3029e0278f80643de33917ce6908c70a8ff50a411f06e41dedfcdc", "ff86f57924da248d6e44e8154eb69f0ae2aebaee9931d0b5a969f904"},
		{api.CurveP224, api.Hash384, "52b40f5a9d3d13040f494e83d3906c6079f29981035c7bd51e5cac40", "7046742b839478c1b5bd31db2e862ad868e1a45c863585b5f22bdc2d"},
		{api.CurveP256, api.Hash224, "103f90ee9dc52e5e7fb5132b7033c63066d194321491862059967c715985d473", "669f4426f2688b8be0db3a6bd1989bdaefff84b649eeb84f3dd26080f667faa7"},
		{api.CurveP256, api.Hash256, "a6e3c57dd01abe90086538398355dd4c3b17aa873382b0f24d6129493d8aad60", "d16b6ae827f17175e040871a1c7ec3500192c4c92677336ec2537acaee0008e0"},
		{api.CurveP256, api.Hash384, "9f634b188cefd98e7ec88b1aa9852d734d0bc272f7d2a47decc6ebeb375aad4", "16aeffa357260b04b1dd199693960740066c1a8f3e8edd79070aa914d361b3b8"},
		{api.CurveP256, api.Hash512, "5fa81c63109badb88c1f367b47da606da28cad69aa22c4fe6ad7df73a7173aa5", "6915d11632aca3c40d5d51c08daf9c555933819548784480e93499000d9f0b7f"},
		{api.CurveP384, api.Hash224, "a4e4d2f0e729eb786b31fc20ad5d849e304450e0ae8e3e341134a5c1afa03cab8083ee4e3c45b06a5899ea56c51b5879", "18fa39db95aa5f561f30fa3591dc59c0fa3653a80daffa0b48d1a4c6dfcbff6e3d33be4dc5eb8886a8ecd093f2935726"},
		{api.CurveP384, api.Hash256, "180ae9f9aec5438a44bc159a1fcb277c7be54fa20e7cf404b490650a8acc414e375572342863c899f9f2edf9747a9b60", "cfac37587532347dc3389fdc98286bba8c73807285b184c83e62e26c401c0faa48dd070ba79921a3457abff2d630ad7"},
		{api.CurveP384, api.Hash384, "94ed910d1a099dad3254e9242ae85abde4ba15168eaf0ca87a555fd56d10fbca2907e3e83ba95368623b8c4686915cf9", "15ee46a5bf88773ed9123a5ab0807962d193719503c527b031b4c2d225092ada71f4a459bc0da98adb95837db8312ea"},
		{api.CurveP384, api.Hash512, "92fc3c7183a883e24216d1141f1a8976c5b0dd797dfa597e3d7b32198bd35331a4e966532593a52980d0e3aaa5e10ec3", "3780c4f67cb15518b6acae34c9f83568d2e12e47deab6c50a4e4ee5319d1e8ce0e2cc8a136036dc4b9c00e6888f66b6c"},
		{api.CurveP521, api.Hash224, "121415ec2cd7726330a61f7f3fa5de14be9436019c4db8cb4041f3b54cf31be0493ee3f427fb906393d895a19c9523f3a1d54bb8702bd4aa9c99dab2597b92113f3", "40d09fcf3c8a5f62cf4fb223cbbb2b9937f6b0577c27020a99602c25a01136987e452988781484edbbcf1c47e554e7fc901bc3085e5206d9f619cff07e73d6f706"},
		{api.CurveP521, api.Hash256, "edf38afcaaecab4383358b34d67c9f2216c8382aaea44a3dad5fdc9c32575761793fef24eb0fc276dfc4f6e3ec476752f043cf01415387470bcbd8678ed2c7e1a0", "1de74955efaabc4c4f17f8e84d881d1310b5392d7700275f82f145c61e843841af09035bf7a6210f5a431a6a9e81c9323354a9e69135d44ebd2fcaa7731b909258"},
		{api.CurveP521, api.Hash384, "1546a108bc23a15d6f21872f7ded661fa8431ddbd922d0dcdb77cc878c8553ffad064c95a920a750ac9137e527390d2d92f153e66196966ea554d9adfcb109c4211", "1f1fc4a349a7da9a9e116bfdd055dc08e78252ff8e23ac276ac88b1770ae0b5dceb1ed14a4916b769a523ce1e90ba22846af11df8b300c38818f713dadd85de0c88"},
		{api.CurveP521, api.Hash512, "1dae2ea071f8110dc26882d4d5eae0621a3256fc8847fb9022e2b7d28e6f10198b1574fdd03a9053c08a1854a168aa5a57470ec97dd5ce090124ef52a2f7ecbffd3", "16200813020ec986863bedfc1b121f605c1215645018aea1a7b215a564de9eb1b38a67aa1128b80ce391c4fb71187654aaa3431027bfc7f395766ca988c964dc56d"},
	} {
		m := models()[c.id-1]
		m.checkPublished(t, c.hash, keys6979(c.id), "sample", c.sample)
		m.checkPublished(t, c.hash, keys6979(c.id), "test", c.test)
	}
	one := strings.Repeat("0", 63) + "1"
	models()[api.CurveK256-1].checkPublished(t, api.Hash256, one, "Satoshi Nakamoto", "8f8a276c19f4149656b280621e358cce24f5f52542772691ee69063b74f15d15")
}

func (m model) checkPublished(t *testing.T, hash int, d string, text string, want string) {
	t.Helper()
	g := made(t, hash, m.octets(digits(d)), m.octets(m.reduced(digest(hash, text))))
	if k, tries, errno := Make(m.id, g); bigOf(k).Cmp(digits(want)) != 0 || tries != 1 || errno != api.OK {
		t.Errorf("curve %d, hash %d, %s: %x, %d, %d; not %s", m.id, hash, text, bigOf(k), tries, errno, want)
	}
}

// octets answers x in as many bytes as N has.
func (m model) octets(x *big.Int) string {
	return string(x.FillBytes(make([]byte, m.bytes())))
}

// reduced answers the first bits of a digest, as many as N has, modulo N.
func (m model) reduced(s string) *big.Int {
	z := new(big.Int).SetBytes([]byte(s))
	if above := 8*len(s) - m.n.BitLen(); above > 0 {
		z.Rsh(z, uint(above))
	}
	return z.Mod(z, m.n)
}

func digest(hash int, s string) string {
	switch hash {
	case api.Hash224:
		sum := sha256.Sum224([]byte(s))
		return string(sum[:])
	case api.Hash256:
		sum := sha256.Sum256([]byte(s))
		return string(sum[:])
	case api.Hash384:
		sum := sha512.Sum384([]byte(s))
		return string(sum[:])
	}
	sum := sha512.Sum512([]byte(s))
	return string(sum[:])
}

// keys6979 answers the private key of RFC 6979 on a curve.
func keys6979(id int) string {
	return []string{
		"6fab034934e4c0fc9ae67f5b5659a9d7d1fefd187ee09fd4",
		"f220266e1105bfe3083e03ec7a3a654651f45e37167e88600bf257c1",
		"c9afa9d845ba75166b5c215767b1d6934e50c3db36e89b127b8a622b120f6721",
		"6b9d3dad2e1b8c1c05b19875b6659f4de23c3b667bf297ba9aa47740787137d896d5724e4c70a825f872c9ea60d2edf5",
		"00fad06daa62ba3b25d2fb40133da757205de67f5bb0018fee8c86e1b68c7e75caa896eb32f1f47c70855836a6d16fcc1466f6d8fbec67db89ec0c08b0e996b83538",
	}[id-api.CurveP192]
}

// P24.2: errors

// TestReseedAtOnce: a DRBG that wants a reseed at the first try; behind one, keys come
// again.
func TestReseedAtOnce(t *testing.T) {
	eachDrbg(t, func(t *testing.T, m model, hash int) {
		p := paired(t, hash, entropy, "at once")
		p.spend(0)
		for range 3 {
			checkRefused(p, m, 0)
		}
		p.reseed(entropy)
		for range 3 {
			p.checkMake(m)
		}
	})
}

// TestReseedBehindTries: the reseed is wanted behind so many tries that gave no key.
func TestReseedBehindTries(t *testing.T) {
	t.Parallel()
	for _, id := range others() {
		m := models()[id-1]
		for _, hash := range hashes() {
			for ahead := 1; ahead <= 3; ahead++ {
				p := paired(t, hash, entropy, nonceForNone(t, m, hash, ahead))
				p.spend(ahead)
				checkRefused(p, m, ahead)
				checkRefused(p, m, 0)
				p.reseed(entropy)
				p.checkMake(m)
			}
		}
	}
}

// nonceForNone finds what gives no key at the last requests, as many as these.
func nonceForNone(t *testing.T, m model, hash int, ahead int) string {
	t.Helper()
	for i := range 20000 {
		nonce := strconv.Itoa(i)
		one := ruled(hash, entropy+nonce)
		for one.count+ahead <= api.MaxRequests {
			one.generate(0)
		}
		if _, n, code := m.tries(one.generate); n == ahead && code == api.ErrKeyDrbg {
			return nonce
		}
	}
	t.Fatalf("curve %d, hash %d: no nonce for %d tries", m.id, hash, ahead)
	return ""
}

// TestLastRequests: keys that come of the very last requests.
func TestLastRequests(t *testing.T) {
	eachDrbg(t, func(t *testing.T, m model, hash int) {
		for left := range 4 {
			p := paired(t, hash, entropy, "last")
			p.spend(left)
			for range left + 1 {
				p.checkMake(m)
			}
			checkRefused(p, m, 0)
		}
	})
}

// TestNoDrbg: a nil DRBG is told first, whatever the curve.
func TestNoDrbg(t *testing.T) {
	t.Parallel()
	ids := strangers()
	for _, m := range models() {
		ids = append(ids, m.id)
	}
	for _, id := range ids {
		if d, tries, errno := Make(id, nil); d != (api.Nat{}) || tries != 0 || errno != api.ErrNil {
			t.Errorf("curve %d: %x, %d, %d", id, bigOf(d), tries, errno)
		}
	}
}

// TestMakeOnNoCurve: the DRBG is asked for nothing, one that wants a reseed and one that
// New did not make as little as any other.
func TestMakeOnNoCurve(t *testing.T) {
	t.Parallel()
	for _, hash := range hashes() {
		fresh, spent := paired(t, hash, entropy, ""), paired(t, hash, entropy, "")
		spent.spend(0)
		for _, id := range strangers() {
			for _, p := range []*pair{fresh, spent} {
				checkNoCurve(t, id, p.g)
				p.checkLevel()
			}
			checkNoCurve(t, id, &drbg.Drbg{})
		}
		if _, _, errno := fresh.checkMake(models()[api.CurveP521-1]); errno != api.OK {
			t.Errorf("%d", errno)
		}
	}
}

func checkNoCurve(t *testing.T, id int, g *drbg.Drbg) {
	t.Helper()
	was := *g
	if d, tries, errno := Make(id, g); d != (api.Nat{}) || tries != 0 || errno != api.ErrKeyCurve || *g != was {
		t.Fatalf("curve %d: %x, %d, %d", id, bigOf(d), tries, errno)
	}
}

// TestNotOfNew: a DRBG that New did not make tells an error of its own.
func TestNotOfNew(t *testing.T) {
	eachCurve(t, func(t *testing.T, m model, _ *rand.Rand) {
		if d, tries, errno := Make(m.id, &drbg.Drbg{}); d != (api.Nat{}) || tries != 0 || errno != api.ErrKeyDrbg {
			t.Errorf("%x, %d, %d", bigOf(d), tries, errno)
		}
	})
}

// P24.2: the tries, of bytes that no DRBG would give

// source gives texts one behind the other, and then an error.
type source struct {
	texts []string
	fault api.Errno
	calls int
	wrong bool
	size  int
}

func (s *source) generate(size int, more string) (string, api.Errno) {
	s.calls++
	s.wrong = s.wrong || size != s.size || more != ""
	if s.calls > len(s.texts) {
		return "", s.fault
	}
	return s.texts[s.calls-1], api.OK
}

// checkDraw asks for a key of these texts, behind which comes this error.
func (m model) checkDraw(t *testing.T, texts []string, fault api.Errno) (api.Nat, int, api.Errno) {
	t.Helper()
	held := &source{texts: texts, fault: fault, size: m.bytes()}
	asked := 0
	want, tries, code := m.tries(func(size int) (string, bool) {
		asked++
		if asked > len(texts) {
			return "", false
		}
		return texts[asked-1], true
	})
	c := api.Curve{N: natOf(m.n), Bits: m.n.BitLen()}
	d, n, errno := draw(c, held.generate)
	if d != natOf(want) || n != tries || errno != code {
		t.Fatalf("curve %d: %x, %d, %d; not %x, %d, %d", m.id, bigOf(d), n, errno, want, tries, code)
	}
	if held.wrong || held.calls != asked {
		t.Fatalf("curve %d: %d requests, not %d; wrong ones: %v", m.id, held.calls, asked, held.wrong)
	}
	return d, n, errno
}

// texts answers those that stand for x: of all bits that are left out.
func (m model) texts(x *big.Int) []string {
	var list []string
	for low := range 1 << m.spare() {
		whole := new(big.Int).Lsh(x, uint(m.spare()))
		list = append(list, m.octets(more(whole, int64(low))))
	}
	return list
}

// refusedTexts are those that stand for no key: 0, N, and what follows to the greatest.
func (m model) refusedTexts() []string {
	greatest := power(m.n.BitLen(), -1)
	var list []string
	for _, x := range []*big.Int{new(big.Int), m.n, more(m.n, 1), more(greatest, -1), greatest} {
		list = append(list, m.texts(x)...)
	}
	return list
}

// TestTextsOfKeys: the least key and the greatest, and others, with any bits that are
// left out.
func TestTextsOfKeys(t *testing.T) {
	eachCurve(t, func(t *testing.T, m model, r *rand.Rand) {
		for _, x := range append(m.edges(), m.drawn(r), m.drawn(r)) {
			for _, text := range m.texts(x) {
				if d, tries, errno := m.checkDraw(t, []string{text}, api.ErrDrbgReseed); bigOf(d).Cmp(x) != 0 || tries != 1 || errno != api.OK {
					t.Fatalf("%x: %x, %d, %d", text, bigOf(d), tries, errno)
				}
			}
		}
	})
}

// TestTextsOfNone: none is made a key by a rest, or by its other bits.
func TestTextsOfNone(t *testing.T) {
	eachCurve(t, func(t *testing.T, m model, r *rand.Rand) {
		x := m.drawn(r)
		for _, text := range m.refusedTexts() {
			if d, tries, errno := m.checkDraw(t, []string{text, m.texts(x)[0]}, api.ErrDrbgReseed); bigOf(d).Cmp(x) != 0 || tries != 2 || errno != api.OK {
				t.Fatalf("%x: %x, %d, %d", text, bigOf(d), tries, errno)
			}
		}
	})
}

// TestAllTinyTexts: what each byte gives.
func TestAllTinyTexts(t *testing.T) {
	t.Parallel()
	for _, m := range tinyModels() {
		for x := range 256 {
			d, tries, errno := m.checkDraw(t, []string{string([]byte{byte(x)})}, api.ErrDrbgReseed)
			if fine := 0 < x && x < int(m.n.Int64()); fine != (errno == api.OK) || fine && d != small(x) || tries != 1 {
				t.Errorf("curve %d: %d: %x, %d, %d", m.id, x, bigOf(d), tries, errno)
			}
		}
	}
}

// TestUpToMaxTries: a key of each try up to the last, and none behind it.
func TestUpToMaxTries(t *testing.T) {
	eachCurve(t, func(t *testing.T, m model, r *rand.Rand) {
		none := m.refusedTexts()
		for ahead := range api.MaxTries + 3 {
			var list []string
			for i := range ahead {
				list = append(list, none[i%len(none)])
			}
			d, tries, errno := m.checkDraw(t, append(list, m.octets(big.NewInt(1<<m.spare()))), api.OK)
			if ahead < 64 && (d != small(1) || tries != ahead+1 || errno != api.OK) {
				t.Fatalf("%d ahead: %x, %d, %d", ahead, bigOf(d), tries, errno)
			}
			if ahead >= 64 && (d != (api.Nat{}) || tries != 64 || errno != api.ErrKeyTries) {
				t.Fatalf("%d ahead: %x, %d, %d", ahead, bigOf(d), tries, errno)
			}
		}
	})
}

// TestErrorsBehindTries: whatever error comes, and whatever text beside it.
func TestErrorsBehindTries(t *testing.T) {
	eachCurve(t, func(t *testing.T, m model, r *rand.Rand) {
		none := m.refusedTexts()
		for ahead := range api.MaxTries {
			var list []string
			for range ahead {
				list = append(list, none[r.Intn(len(none))])
			}
			for _, fault := range []api.Errno{api.ErrDrbgReseed, api.ErrDrbgHash, api.ErrDrbgLong, api.ErrNil, api.ErrKeyTries} {
				if d, tries, errno := m.checkDraw(t, list, fault); d != (api.Nat{}) || tries != ahead || errno != api.ErrKeyDrbg {
					t.Fatalf("%d ahead: %x, %d, %d", ahead, bigOf(d), tries, errno)
				}
			}
		}
	})
}

// R4, R5

// TestMakeTwice: of the same entropy the same keys, whatever was called between them.
func TestMakeTwice(t *testing.T) {
	eachDrbg(t, func(t *testing.T, m model, hash int) {
		one, two, other := made(t, hash, entropy, ""), made(t, hash, entropy, ""), made(t, hash, entropy, "other")
		for range 20 {
			d, n, errno := Make(m.id, one)
			Make(m.id, other)
			Make(m.id%15+1, other)
			Make(0, one)
			Make(m.id, nil)
			Check(m.id, d)
			if e, o, code := Make(m.id, two); e != d || o != n || code != errno {
				t.Fatalf("hash %d: %x, %d, %d; then %x, %d, %d", hash, bigOf(d), n, errno, bigOf(e), o, code)
			}
		}
	})
}

// TestMadeIsOnesOwn: what is done to a key that was answered changes none that follows.
func TestMadeIsOnesOwn(t *testing.T) {
	t.Parallel()
	for _, m := range models() {
		p := paired(t, api.Hash256, entropy, "own")
		for range 10 {
			d, _, _ := p.checkMake(m)
			d.W[0], d.W[api.Words-1] = 5, 7
		}
	}
}

func TestMakeInGoroutines(t *testing.T) {
	t.Parallel()
	var group sync.WaitGroup
	for i := range 8 {
		group.Go(func() {
			g, errno := drbg.New(api.Hash256, entropy, strconv.Itoa(i), "")
			if errno != api.OK {
				t.Errorf("%d", errno)
				return
			}
			one := ruled(api.Hash256, entropy+strconv.Itoa(i))
			for _, m := range models() {
				want, tries, code := m.tries(one.generate)
				if d, n, errno := Make(m.id, g); d != natOf(want) || n != tries || errno != code {
					t.Errorf("curve %d: %x, %d, %d", m.id, bigOf(d), n, errno)
				}
			}
		})
	}
	group.Wait()
}
