package key

import (
	"crypto/hmac"
	"crypto/sha256"
	"crypto/sha512"
	stdhash "hash"
	"strings"
	"testing"

	"curvet/api"
	"curvet/drbg"
)

// rule is that of P11.1, word by word, by the library's macs, which share no code
// with the program.
type rule struct {
	hash  func() stdhash.Hash
	k, v  string
	count int
}

func ruled(id int, seed string) *rule {
	hash := []func() stdhash.Hash{sha256.New224, sha256.New, sha512.New384, sha512.New}[id-api.Hash224]
	size := hash().Size()
	r := &rule{hash: hash, k: strings.Repeat("\x00", size), v: strings.Repeat("\x01", size), count: 1}
	r.update(seed)
	return r
}

func (r *rule) mac(s string) string {
	mac := hmac.New(r.hash, []byte(r.k))
	mac.Write([]byte(s))
	return string(mac.Sum(nil))
}

func (r *rule) update(s string) {
	r.k = r.mac(r.v + "\x00" + s)
	r.v = r.mac(r.v)
	if s != "" {
		r.k = r.mac(r.v + "\x01" + s)
		r.v = r.mac(r.v)
	}
}

// generate answers a false for a reseed that is wanted.
func (r *rule) generate(size int) (string, bool) {
	if r.count > 64 {
		return "", false
	}
	out := ""
	for len(out) < size {
		r.v = r.mac(r.v)
		out += r.v
	}
	r.update("")
	r.count++
	return out[:size], true
}

func (r *rule) reseed(seed string) {
	r.update(seed)
	r.count = 1
}

func hashes() []int {
	return []int{api.Hash224, api.Hash256, api.Hash384, api.Hash512}
}

// pair is a DRBG for Make, one of the same entropy that is asked beside it, and the
// rule that both go by.
type pair struct {
	t         *testing.T
	g, beside *drbg.Drbg
	rule      *rule
}

func paired(t *testing.T, hash int, entropy string, nonce string) *pair {
	t.Helper()
	return &pair{t, made(t, hash, entropy, nonce), made(t, hash, entropy, nonce), ruled(hash, entropy+nonce)}
}

func made(t *testing.T, hash int, entropy string, nonce string) *drbg.Drbg {
	t.Helper()
	g, errno := drbg.New(hash, entropy, nonce, "")
	if errno != api.OK {
		t.Fatalf("hash %d, %d bytes: %d", hash, len(entropy), errno)
	}
	return g
}

// spend asks both for no bytes, until so many requests are left.
func (p *pair) spend(left int) {
	p.t.Helper()
	for p.rule.count+left <= api.MaxRequests {
		p.rule.generate(0)
		for _, g := range []*drbg.Drbg{p.g, p.beside} {
			if _, errno := g.Generate(0, ""); errno != api.OK {
				p.t.Fatalf("%d", errno)
			}
		}
	}
}

func (p *pair) reseed(entropy string) {
	p.t.Helper()
	p.rule.reseed(entropy)
	for _, g := range []*drbg.Drbg{p.g, p.beside} {
		if errno := g.Reseed(entropy, ""); errno != api.OK {
			p.t.Fatalf("%d", errno)
		}
	}
}

// ask asks the one beside, and the rule.
func (p *pair) ask(size int) (string, bool) {
	p.t.Helper()
	text, errno := p.beside.Generate(size, "")
	want, fine := p.rule.generate(size)
	if text != want || fine != (errno == api.OK) {
		p.t.Fatalf("%d bytes: %x, %d; not %x", size, text, errno, want)
	}
	return want, fine
}

// checkLevel: both stand at one place: they count the same, and would give the same
// bytes. Copies are asked, so that no request is used up.
func (p *pair) checkLevel() {
	p.t.Helper()
	if p.g.Count() != p.rule.count || p.beside.Count() != p.rule.count {
		p.t.Fatalf("Count %d and %d, not %d", p.g.Count(), p.beside.Count(), p.rule.count)
	}
	g, rule := *p.g, *p.rule
	text, errno := g.Generate(40, "")
	if want, fine := rule.generate(40); text != want || fine != (errno == api.OK) {
		p.t.Fatalf("next bytes: %x, %d; not %x", text, errno, want)
	}
}

// checkMake asks for a key, and answers it with how many tries there were.
func (p *pair) checkMake(m model) (api.Nat, int, api.Errno) {
	p.t.Helper()
	want, tries, code := m.tries(p.ask)
	d, n, errno := Make(m.id, p.g)
	if d != natOf(want) || n != tries || errno != code {
		p.t.Fatalf("curve %d: %x, %d tries, %d; not %x, %d, %d", m.id, bigOf(d), n, errno, want, tries, code)
	}
	p.checkLevel()
	if errno == api.OK && Check(m.id, d) != api.OK {
		p.t.Fatalf("curve %d: %x is no key", m.id, bigOf(d))
	}
	return d, n, errno
}
