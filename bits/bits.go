// Package bits is layer 1, bits and bytes: see shared/doc/01-bits.md.
package bits

const wordBytes = 8

// Number reads the last bytes only, because they are those that decide about
// the number modulo 2^64.
func Number(b []byte) uint64 {
	last := b[max(0, len(b)-wordBytes):]
	x := uint64(0)
	for i := range len(last) {
		x = x<<8 | uint64(last[i])
	}
	return x
}

// Bytes inverts Number, for numbers that n bytes have room for.
func Bytes(x uint64, n int) []byte {
	n = min(max(n, 0), wordBytes)
	b := make([]byte, n)
	for i := range n {
		b[n-1-i] = byte(x >> (8 * i))
	}
	return b
}

// Rotate turns to the left, for negative n to the right. As 32 divides 2^64,
// the conversion of n keeps what it is modulo 32.
func Rotate(w uint32, n int) uint32 {
	left := uint64(n) % 32
	return w<<left | w>>(32-left)
}

// Xor has as many bytes as the shorter string.
func Xor(a, b []byte) []byte {
	c := make([]byte, min(len(a), len(b)))
	for i := range len(c) {
		c[i] = a[i] ^ b[i]
	}
	return c
}

// Equal looks at all bytes, wherever the first difference is: what it does
// tells nothing about how much of a tag was right.
func Equal(a, b []byte) bool {
	if len(a) != len(b) {
		return false
	}
	different := byte(0)
	for i := range len(a) {
		different |= a[i] ^ b[i]
	}
	return different == 0
}

// Zeros counts from the lowest bit on.
func Zeros(x uint64) int {
	for i := range 64 {
		if x>>i&1 == 1 {
			return i
		}
	}
	return 64
}

// Bit compares bytes with the length, not bits, because 8*len(b) could
// overflow where an int has 32 bits.
func Bit(b []byte, i int) int {
	if i < 0 || i/8 >= len(b) {
		return 0
	}
	return int(b[i/8]>>(7-i%8)) & 1
}
