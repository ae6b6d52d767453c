// Package nat holds numbers of a fixed width of words: see DOC.md, chapter 1.
package nat

import (
	"math/bits"

	"curvet/api"
)

const (
	wordBits  = 64
	wordBytes = 8
	maxBits   = api.Words * wordBits
	maxBytes  = api.Words * wordBytes
)

// Add answers the sum modulo 2^576, and whether it went beyond.
func Add(a api.Nat, b api.Nat) (api.Nat, bool) {
	var sum api.Nat
	var carry uint64
	for i := range sum.W {
		sum.W[i], carry = bits.Add64(a.W[i], b.W[i], carry)
	}
	return sum, carry != 0
}

// Sub answers the difference modulo 2^576, and whether b is the greater one.
func Sub(a api.Nat, b api.Nat) (api.Nat, bool) {
	var diff api.Nat
	var borrow uint64
	for i := range diff.W {
		diff.W[i], borrow = bits.Sub64(a.W[i], b.W[i], borrow)
	}
	return diff, borrow != 0
}

// Mul answers the whole product.
func Mul(a api.Nat, b api.Nat) api.Wide {
	var product api.Wide
	for i, x := range a.W {
		var carry uint64
		for j, y := range b.W {
			product.W[i+j], carry = mulAdd(x, y, product.W[i+j], carry)
		}
		product.W[i+api.Words] = carry
	}
	return product
}

// mulAdd answers the low and the high word of x y + c + d. The high word
// cannot overflow: (2^64 - 1)^2 + 2 (2^64 - 1) is 2^128 - 1.
func mulAdd(x uint64, y uint64, c uint64, d uint64) (uint64, uint64) {
	high, low := bits.Mul64(x, y)
	low, carry := bits.Add64(low, c, 0)
	high += carry
	low, carry = bits.Add64(low, d, 0)
	return low, high + carry
}

// Cmp answers -1, 0 or 1: a is less than, equal to, or greater than b.
func Cmp(a api.Nat, b api.Nat) int {
	for i := api.Words - 1; i >= 0; i-- {
		if a.W[i] < b.W[i] {
			return -1
		}
		if a.W[i] > b.W[i] {
			return 1
		}
	}
	return 0
}

// Bits answers how many bits a has up to its highest 1, and 0 of 0.
func Bits(a api.Nat) int {
	for i := api.Words - 1; i >= 0; i-- {
		if a.W[i] != 0 {
			return i*wordBits + bits.Len64(a.W[i])
		}
	}
	return 0
}

// Bit answers bit i of a, and 0 beyond its bits.
func Bit(a api.Nat, i int) int {
	if i < 0 || i >= maxBits {
		return 0
	}
	return int(a.W[i/wordBits] >> (i % wordBits) & 1)
}

// Shl answers a times 2^k modulo 2^576.
func Shl(a api.Nat, k int) (api.Nat, api.Errno) {
	if !shiftFits(k) {
		return api.Nat{}, api.ErrNatShift
	}
	var up api.Nat
	skip, part := k/wordBits, k%wordBits
	var carry uint64
	for i := skip; i < api.Words; i++ {
		x := a.W[i-skip]
		up.W[i] = x<<part | carry
		// a shift by a whole word leaves 0, so a part of 0 carries nothing
		carry = x >> (wordBits - part)
	}
	return up, api.OK
}

// Shr answers a by 2^k, rounded down.
func Shr(a api.Nat, k int) (api.Nat, api.Errno) {
	if !shiftFits(k) {
		return api.Nat{}, api.ErrNatShift
	}
	var down api.Nat
	skip, part := k/wordBits, k%wordBits
	var carry uint64
	for i := api.Words - 1; i >= skip; i-- {
		x := a.W[i]
		down.W[i-skip] = x>>part | carry
		carry = x << (wordBits - part)
	}
	return down, api.OK
}

// shiftFits: a shift by all bits is allowed, and leaves 0.
func shiftFits(k int) bool {
	return k >= 0 && k <= maxBits
}

// Of answers the number of the bytes of s, the highest first.
func Of(s string) (api.Nat, api.Errno) {
	if len(s) > maxBytes {
		return api.Nat{}, api.ErrNatLong
	}
	var a api.Nat
	for i := range len(s) {
		place := len(s) - 1 - i
		a.W[place/wordBytes] |= uint64(s[i]) << (8 * (place % wordBytes))
	}
	return a, api.OK
}

// Bytes answers a in size bytes, the highest first.
func Bytes(a api.Nat, size int) (string, api.Errno) {
	if size < 0 || size > maxBytes || Bits(a) > 8*size {
		return "", api.ErrNatSize
	}
	out := make([]byte, size)
	for i := range out {
		place := size - 1 - i
		out[i] = byte(a.W[place/wordBytes] >> (8 * (place % wordBytes)))
	}
	return string(out), api.OK
}

// Small answers x as a number, and 0 of one below 0.
func Small(x int) api.Nat {
	var a api.Nat
	if x > 0 {
		a.W[0] = uint64(x)
	}
	return a
}
