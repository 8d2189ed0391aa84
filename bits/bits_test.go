package bits_test

import (
	"bytes"
	"math"
	"math/big"
	"strconv"
	"strings"
	"testing"

	"mooring/bits"
)

// sample returns n bytes that differ from each other, without any regularity
// that a shift or a rotation could keep.
func sample(n int, seed uint32) []byte {
	b := make([]byte, n)
	x := seed
	for i := range b {
		x = x*1664525 + 1013904223
		b[i] = byte(x >> 24)
	}
	return b
}

// words are numbers with all numbers of bits, and of bytes.
func words() []uint64 {
	l := []uint64{0, 0x0123456789abcdef, 0xfedcba9876543210, math.MaxUint64}
	for i := range 64 {
		x := uint64(1) << i
		l = append(l, x, x-1, x+1, ^x)
	}
	return l
}

// ints are numbers of bits or bytes that are far from all that is possible.
func ints() []int {
	return []int{math.MinInt, math.MinInt + 1, math.MinInt32, -64, -33, -32, -31, -9, -8, -1, 64, 65, 1 << 20, math.MaxInt32, math.MaxInt - 1, math.MaxInt}
}

// digits are the bits of a word of 32 bits, the highest one first.
func digits(w uint32) string {
	s := strconv.FormatUint(uint64(w), 2)
	return strings.Repeat("0", 32-len(s)) + s
}

// P1.1

func TestNumberOfExamples(t *testing.T) {
	for _, x := range []struct {
		b    []byte
		want uint64
	}{
		{nil, 0},
		{[]byte{}, 0},
		{[]byte{0}, 0},
		{[]byte{7}, 7},
		{[]byte{255}, 255},
		{[]byte{1, 2}, 258},
		{[]byte{2, 1}, 513},
		{[]byte{0, 0, 1, 2}, 258},
		{[]byte{1, 2, 3, 4, 5, 6, 7}, 0x01020304050607},
		{[]byte{1, 2, 3, 4, 5, 6, 7, 8}, 0x0102030405060708},
		{[]byte{128, 0, 0, 0, 0, 0, 0, 0}, 1 << 63},
		{[]byte{255, 255, 255, 255, 255, 255, 255, 255}, math.MaxUint64},
		{[]byte{9, 1, 2, 3, 4, 5, 6, 7, 8}, 0x0102030405060708},
		{[]byte{9, 9, 9, 9, 0, 0, 0, 0, 0, 0, 0, 0}, 0},
	} {
		if got := bits.Number(x.b); got != x.want {
			t.Errorf("Number(%v) = %#x, want %#x", x.b, got, x.want)
		}
	}
}

func TestNumberIsThatOfTheLastEightBytes(t *testing.T) {
	for n := range 40 {
		b := sample(n, uint32(n))
		whole := new(big.Int).SetBytes(b)
		want := whole.And(whole, new(big.Int).SetUint64(math.MaxUint64)).Uint64()
		if got := bits.Number(b); got != want {
			t.Errorf("Number(%v) = %#x, want %#x", b, got, want)
		}
	}
}

func TestBytesOfExamples(t *testing.T) {
	for _, x := range []struct {
		x    uint64
		n    int
		want []byte
	}{
		{0, 0, nil},
		{258, 0, nil},
		{0, 3, []byte{0, 0, 0}},
		{258, 1, []byte{2}},
		{258, 2, []byte{1, 2}},
		{258, 4, []byte{0, 0, 1, 2}},
		{256, 1, []byte{0}},
		{0x0102030405060708, 8, []byte{1, 2, 3, 4, 5, 6, 7, 8}},
		{0x0102030405060708, 7, []byte{2, 3, 4, 5, 6, 7, 8}},
		{math.MaxUint64, 8, []byte{255, 255, 255, 255, 255, 255, 255, 255}},
		{1 << 63, 8, []byte{128, 0, 0, 0, 0, 0, 0, 0}},
	} {
		if got := bits.Bytes(x.x, x.n); !bytes.Equal(got, x.want) {
			t.Errorf("Bytes(%#x, %d) = %v, want %v", x.x, x.n, got, x.want)
		}
	}
}

func TestBytesAreThoseOfTheRemainder(t *testing.T) {
	for _, x := range words() {
		for n := range 9 {
			modulus := new(big.Int).Lsh(big.NewInt(1), uint(8*n))
			rest := new(big.Int).Mod(new(big.Int).SetUint64(x), modulus)
			want := rest.FillBytes(make([]byte, n))
			if got := bits.Bytes(x, n); !bytes.Equal(got, want) {
				t.Errorf("Bytes(%#x, %d) = %v, want %v", x, n, got, want)
			}
		}
	}
}

func TestBytesCountsOtherNumbersOfBytesAsTheNearest(t *testing.T) {
	x := uint64(0x0102030405060708)
	for _, n := range append(ints(), -2, -7, 9, 10, 16) {
		want := []byte{}
		if n > 8 {
			want = []byte{1, 2, 3, 4, 5, 6, 7, 8}
		}
		if got := bits.Bytes(x, n); !bytes.Equal(got, want) {
			t.Errorf("Bytes(%#x, %d) = %v, want %v", x, n, got, want)
		}
	}
}

// P1.2

func TestRotateOfExamples(t *testing.T) {
	for _, x := range []struct {
		w    uint32
		n    int
		want uint32
	}{
		{1, -1, 2147483648},
		{1, 1, 2},
		{1, 0, 1},
		{1, 31, 1 << 31},
		{1, 32, 1},
		{1, 33, 2},
		{1 << 31, 1, 1},
		{0x12345678, 8, 0x34567812},
		{0x12345678, -8, 0x78123456},
		{0x12345678, 16, 0x56781234},
		{0x12345678, 64, 0x12345678},
		{0, 5, 0},
		{math.MaxUint32, 5, math.MaxUint32},
	} {
		if got := bits.Rotate(x.w, x.n); got != x.want {
			t.Errorf("Rotate(%#x, %d) = %#x, want %#x", x.w, x.n, got, x.want)
		}
	}
}

func TestRotateMovesTheDigits(t *testing.T) {
	numbers := ints()
	for n := -100; n <= 100; n++ {
		numbers = append(numbers, n)
	}
	for _, w := range []uint32{0, 1, 0x80000000, 0x80000001, 0x12345678, 0xdeadbeef, math.MaxUint32} {
		for _, n := range numbers {
			k := (n%32 + 32) % 32
			d := digits(w)
			want := d[k:] + d[:k]
			if got := digits(bits.Rotate(w, n)); got != want {
				t.Errorf("Rotate(%#x, %d) = %s, want %s", w, n, got, want)
			}
		}
	}
}

// P1.3

func TestXorOfExamples(t *testing.T) {
	for _, x := range []struct{ a, b, want []byte }{
		{nil, nil, nil},
		{nil, []byte{1}, nil},
		{[]byte{1}, nil, nil},
		{[]byte{5, 255, 1}, []byte{6, 15}, []byte{3, 240}},
		{[]byte{6, 15}, []byte{5, 255, 1}, []byte{3, 240}},
		{[]byte{0, 255}, []byte{255, 255}, []byte{255, 0}},
		{[]byte{0x55, 0xaa}, []byte{0xff, 0x0f}, []byte{0xaa, 0xa5}},
	} {
		if got := bits.Xor(x.a, x.b); !bytes.Equal(got, x.want) {
			t.Errorf("Xor(%v, %v) = %v, want %v", x.a, x.b, got, x.want)
		}
	}
}

func TestXorHasTheShorterLength(t *testing.T) {
	for m := range 20 {
		for n := range 20 {
			a, b := sample(m, 1), sample(n, 2)
			got := bits.Xor(a, b)
			if len(got) != min(m, n) {
				t.Fatalf("%d and %d bytes: %d bytes", m, n, len(got))
			}
			for i, c := range got {
				if c != a[i]^b[i] {
					t.Errorf("%d and %d bytes: the byte %d is %d", m, n, i, c)
				}
			}
		}
	}
}

func TestXorOfAStringAndItself(t *testing.T) {
	b := sample(9, 3)
	if got := bits.Xor(b, b); !bytes.Equal(got, make([]byte, 9)) {
		t.Error(got)
	}
	if got := bits.Xor(b, b[1:]); len(got) != 8 || got[0] != b[0]^b[1] || got[7] != b[7]^b[8] {
		t.Error(got)
	}
}

func TestEqualStrings(t *testing.T) {
	if !bits.Equal(nil, []byte{}) || !bits.Equal([]byte{}, nil) || !bits.Equal(nil, nil) {
		t.Error("no bytes are equal to no bytes")
	}
	for n := range 40 {
		if !bits.Equal(sample(n, 4), sample(n, 4)) {
			t.Errorf("%d bytes are not equal to their copy", n)
		}
	}
}

func TestEqualFindsEachBit(t *testing.T) {
	for n := 1; n <= 20; n++ {
		for i := range 8 * n {
			a, b := sample(n, 5), sample(n, 5)
			b[i/8] ^= 1 << (i % 8)
			if bits.Equal(a, b) || bits.Equal(b, a) {
				t.Errorf("%d bytes: the bit %d makes no difference", n, i)
			}
		}
	}
}

func TestEqualFindsSeveralDifferences(t *testing.T) {
	for _, x := range []struct{ a, b []byte }{
		{[]byte{1, 1}, []byte{0, 0}},
		{[]byte{128, 128}, []byte{0, 0}},
		{[]byte{1, 2}, []byte{2, 1}},
		{[]byte{0, 1}, []byte{1, 0}},
		{[]byte{255, 1}, []byte{0, 2}},
	} {
		if bits.Equal(x.a, x.b) {
			t.Errorf("Equal(%v, %v)", x.a, x.b)
		}
	}
}

func TestEqualFindsDifferentLengths(t *testing.T) {
	long := sample(20, 6)
	for m := range 20 {
		for n := range m {
			if bits.Equal(long[:m], long[:n]) || bits.Equal(long[:n], long[:m]) {
				t.Errorf("the first %d and %d bytes are equal", m, n)
			}
		}
	}
	if bits.Equal([]byte{1}, []byte{1, 0}) || bits.Equal([]byte{0, 1}, []byte{1}) || bits.Equal(nil, []byte{0}) {
		t.Error("bytes 0 make no difference")
	}
}

// P1.4

func TestZerosBelowTheLowestBit(t *testing.T) {
	if got := bits.Zeros(0); got != 64 {
		t.Errorf("Zeros(0) = %d", got)
	}
	for i := range 64 {
		for _, above := range []uint64{0, 1, 2, 5, math.MaxUint64} {
			x := (above<<1 | 1) << i
			if got := bits.Zeros(x); got != i {
				t.Errorf("Zeros(%#x) = %d, want %d", x, got, i)
			}
		}
	}
}

func TestBitCountsFromTheHighestOne(t *testing.T) {
	b := []byte{0x80, 0x01, 0xa5}
	want := "100000000000000110100101"
	for i, c := range want {
		if got := bits.Bit(b, i); got != int(c-'0') {
			t.Errorf("Bit(%v, %d) = %d", b, i, got)
		}
	}
}

func TestBitOfLongerStrings(t *testing.T) {
	b := sample(40, 7)
	whole := new(big.Int).SetBytes(b)
	for i := range 8 * len(b) {
		if got := bits.Bit(b, i); got != int(whole.Bit(8*len(b)-1-i)) {
			t.Errorf("the bit %d is %d", i, got)
		}
	}
}

func TestBitOutsideOfTheString(t *testing.T) {
	for n := range 4 {
		b := bytes.Repeat([]byte{255}, n)
		for _, i := range append(ints(), -7, 8*n, 8*n+1, 8*n+7, 8*n+8) {
			if got := bits.Bit(b, i); got != 0 {
				t.Errorf("the bit %d of %d bytes is %d", i, n, got)
			}
		}
	}
	longer := []byte{255, 255}
	if got := bits.Bit(longer[:1], 8); got != 0 {
		t.Error("a bit of the unused capacity is", got)
	}
}

// P1.5

func TestNumberInvertsBytes(t *testing.T) {
	for _, x := range words() {
		for n := range 9 {
			if n < 8 && x>>(8*n) != 0 {
				continue
			}
			if got := bits.Number(bits.Bytes(x, n)); got != x {
				t.Errorf("%#x in %d bytes becomes %#x", x, n, got)
			}
		}
	}
}

func TestBytesInvertsNumber(t *testing.T) {
	for n := range 9 {
		b := sample(n, 8)
		if got := bits.Bytes(bits.Number(b), n); !bytes.Equal(got, b) {
			t.Errorf("%v becomes %v", b, got)
		}
	}
}

func TestXorTwiceIsTheFirstString(t *testing.T) {
	for m := range 20 {
		for n := range 20 {
			a, b := sample(m, 9), sample(n, 10)
			want := a[:min(m, n)]
			if got := bits.Xor(bits.Xor(a, b), b); !bytes.Equal(got, want) {
				t.Errorf("%v becomes %v", want, got)
			}
		}
	}
}

// The Rules of DOC.md: arguments, with the capacity behind them, stay as they
// are, and results share no memory with them or with other results.

func TestArgumentsStayAsTheyAre(t *testing.T) {
	for n := range 12 {
		a, b := sample(20, 11), sample(20, 12)
		bits.Number(a[:n])
		bits.Xor(a[:n], b[:n])
		bits.Xor(a[:n], b[:n+1])
		bits.Xor(a[:n+1], b[:n])
		bits.Equal(a[:n], b[:n])
		bits.Bit(a[:n], 3)
		if !bytes.Equal(a, sample(20, 11)) || !bytes.Equal(b, sample(20, 12)) {
			t.Fatalf("%d bytes: an argument has changed", n)
		}
	}
}

func TestResultsOfXorShareNoMemory(t *testing.T) {
	for _, zero := range [][]byte{make([]byte, 5), make([]byte, 9)} {
		a, b := sample(5, 13), sample(5, 13)
		for _, c := range [][]byte{bits.Xor(a, zero), bits.Xor(zero, a)} {
			spoil(c)
			if !bytes.Equal(a, b) || !bytes.Equal(zero, make([]byte, len(zero))) {
				t.Fatal("an argument changes with the result")
			}
			c = bits.Xor(a, zero)
			spoil(a)
			if !bytes.Equal(c, b) {
				t.Fatal("the result changes with an argument")
			}
			copy(a, b)
		}
	}
}

func TestResultsOfBytesShareNoMemory(t *testing.T) {
	for n := range 9 {
		a, b := bits.Bytes(0x0102030405060708, n), bits.Bytes(0x0102030405060708, n)
		want := bytes.Clone(b)
		spoil(a)
		if !bytes.Equal(b, want) || !bytes.Equal(bits.Bytes(0x0102030405060708, n), want) {
			t.Errorf("%d bytes: a result changes with another one", n)
		}
	}
}

// spoil changes the bytes of a slice, with those of its unused capacity.
func spoil(b []byte) {
	b = b[:cap(b)]
	for i := range b {
		b[i] ^= 0xff
	}
}
