package field_test

import (
	"bytes"
	"testing"

	"mooring/field"
)

// modulus is x^8 + x^4 + x^3 + x + 1.
const modulus = 0x11b

// limit is the greatest power that is promised, and its opposite the lowest.
const limit = 1 << 20

// product multiplies the polynomials first, and divides then.
func product(a, b byte) byte {
	p := 0
	for i := range 8 {
		if b>>i&1 == 1 {
			p ^= int(a) << i
		}
	}
	for i := 14; i >= 8; i-- {
		if p>>i&1 == 1 {
			p ^= modulus << (i - 8)
		}
	}
	return byte(p)
}

// inverse looks for the byte with which the product is 1.
func inverse(a byte) byte {
	for i := range 256 {
		if product(a, byte(i)) == 1 {
			return byte(i)
		}
	}
	return 0
}

// products are those of a byte and all others.
func products(a byte) [256]byte {
	var l [256]byte
	for i := range l {
		l[i] = product(a, byte(i))
	}
	return l
}

// table has all products that the package returns.
func table() *[256][256]byte {
	var l [256][256]byte
	for i := range l {
		for j := range l[i] {
			l[i][j] = field.Mul(byte(i), byte(j))
		}
	}
	return &l
}

// sample returns n bytes without any regularity that a sum could keep.
func sample(n int, seed uint32) []byte {
	b := make([]byte, n)
	x := seed
	for i := range b {
		x = x*1664525 + 1013904223
		b[i] = byte(x >> 24)
	}
	return b
}

// P3.1

func TestDoubleOfExamples(t *testing.T) {
	for a, want := range map[byte]byte{0: 0, 1: 2, 2: 4, 0x40: 0x80, 0x7f: 0xfe, 0x80: 0x1b, 0x81: 0x19, 0x8d: 1, 0x57: 0xae, 0xae: 0x47, 0x47: 0x8e, 0x8e: 7, 0xff: 0xe5} {
		if got := field.Double(a); got != want {
			t.Errorf("Double(%#x) = %#x, want %#x", a, got, want)
		}
	}
}

func TestDoubleIsTheProductWithTwo(t *testing.T) {
	for i := range 256 {
		a := byte(i)
		if got := field.Double(a); got != product(a, 2) || got != field.Mul(a, 2) || got != field.Mul(2, a) {
			t.Errorf("Double(%#x) = %#x, want %#x", a, got, product(a, 2))
		}
	}
}

func TestMulOfExamples(t *testing.T) {
	for _, x := range []struct{ a, b, want byte }{
		{0, 0, 0},
		{0, 0xff, 0},
		{1, 0xff, 0xff},
		{2, 0x80, 0x1b},
		{2, 0x8d, 1},
		{3, 3, 5},
		{3, 0xf6, 1},
		{0x10, 0x10, 0x1b},
		{0x53, 0xca, 1},
		{0x57, 0x02, 0xae},
		{0x57, 0x04, 0x47},
		{0x57, 0x08, 0x8e},
		{0x57, 0x10, 0x07},
		{0x57, 0x13, 0xfe},
		{0x57, 0x83, 0xc1},
		{0x80, 0x80, 0x9a},
		{0xff, 0xff, 0x13},
	} {
		if got := field.Mul(x.a, x.b); got != x.want {
			t.Errorf("Mul(%#x, %#x) = %#x, want %#x", x.a, x.b, got, x.want)
		}
		if got := field.Mul(x.b, x.a); got != x.want {
			t.Errorf("Mul(%#x, %#x) = %#x, want %#x", x.b, x.a, got, x.want)
		}
	}
}

func TestMulIsTheRemainder(t *testing.T) {
	for i := range 256 {
		for j := range 256 {
			a, b := byte(i), byte(j)
			if got := field.Mul(a, b); got != product(a, b) {
				t.Errorf("Mul(%#x, %#x) = %#x, want %#x", a, b, got, product(a, b))
			}
		}
	}
}

func TestInverseOfExamples(t *testing.T) {
	for a, want := range map[byte]byte{0: 0, 1: 1, 2: 0x8d, 3: 0xf6, 0x53: 0xca, 0x80: 0x83, 0xff: 0x1c} {
		if got := field.Inverse(a); got != want {
			t.Errorf("Inverse(%#x) = %#x, want %#x", a, got, want)
		}
		if got := field.Inverse(want); got != a {
			t.Errorf("Inverse(%#x) = %#x, want %#x", want, got, a)
		}
	}
}

func TestInverseHasTheProductOne(t *testing.T) {
	seen := map[byte]bool{}
	for i := range 256 {
		a := byte(i)
		got := field.Inverse(a)
		if got != inverse(a) {
			t.Errorf("Inverse(%#x) = %#x, want %#x", a, got, inverse(a))
		}
		if a != 0 && field.Mul(a, got) != 1 {
			t.Errorf("the product of %#x and its inverse is %#x", a, field.Mul(a, got))
		}
		if field.Inverse(got) != a {
			t.Errorf("the inverse of the inverse of %#x is %#x", a, field.Inverse(got))
		}
		seen[got] = true
	}
	if len(seen) != 256 {
		t.Errorf("%d bytes are inverses", len(seen))
	}
}

// P3.2

func TestPowerOfExamples(t *testing.T) {
	for _, x := range []struct {
		a    byte
		n    int
		want byte
	}{
		{2, 1, 2},
		{2, 7, 0x80},
		{2, 8, 0x1b},
		{2, 9, 0x36},
		{2, -1, 0x8d},
		{2, 51, 1},
		{2, 50, 0x8d},
		{3, 2, 5},
		{3, 3, 15},
		{3, 254, 0xf6},
		{3, 255, 1},
		{3, 256, 3},
		{3, -1, 0xf6},
		{3, -254, 3},
		{3, -255, 1},
		{3, -256, 0xf6},
		{0x53, -1, 0xca},
		{0x53, 254, 0xca},
		{3, limit, 0x5f},
		{3, -limit, 0x17},
		{1, limit, 1},
		{1, -limit, 1},
	} {
		if got := field.Power(x.a, x.n); got != x.want {
			t.Errorf("Power(%#x, %d) = %#x, want %#x", x.a, x.n, got, x.want)
		}
	}
}

func TestPowerZero(t *testing.T) {
	for i := range 256 {
		if got := field.Power(byte(i), 0); got != 1 {
			t.Errorf("Power(%#x, 0) = %#x", i, got)
		}
	}
}

func TestPowersOfZero(t *testing.T) {
	for _, n := range []int{1, 2, 5, 8, 254, 255, 256, 510, 65535, 65536, limit - 1, limit} {
		if got := field.Power(0, n); got != 0 {
			t.Errorf("Power(0, %d) = %#x", n, got)
		}
		if got := field.Power(0, -n); got != 0 {
			t.Errorf("Power(0, %d) = %#x", -n, got)
		}
	}
}

func TestPowersOfAllBytes(t *testing.T) {
	for i := range 256 {
		a := byte(i)
		up, down := byte(1), byte(1)
		for n := range 600 {
			if got := field.Power(a, n); got != up {
				t.Errorf("Power(%#x, %d) = %#x, want %#x", a, n, got, up)
			}
			if got := field.Power(a, -n); got != down {
				t.Errorf("Power(%#x, %d) = %#x, want %#x", a, -n, got, down)
			}
			up, down = product(up, a), product(down, inverse(a))
		}
	}
}

func TestPowersOfTheWholeRange(t *testing.T) {
	for _, a := range []byte{2, 3, 0x53, 0x80, 0xff} {
		forth, back := products(a), products(inverse(a))
		up, down := byte(1), byte(1)
		for n := range limit + 1 {
			if n%101 == 0 || n&(n-1) == 0 || n > limit-300 {
				if got := field.Power(a, n); got != up {
					t.Errorf("Power(%#x, %d) = %#x, want %#x", a, n, got, up)
				}
				if got := field.Power(a, -n); got != down {
					t.Errorf("Power(%#x, %d) = %#x, want %#x", a, -n, got, down)
				}
			}
			up, down = forth[up], back[down]
		}
	}
}

func TestPowersAtTheEndsOfTheRange(t *testing.T) {
	for i := 1; i < 256; i++ {
		a := byte(i)
		up := a
		for range 20 {
			up = product(up, up)
		}
		for _, x := range []struct {
			n    int
			want byte
		}{
			{limit, up},
			{limit - 1, product(up, inverse(a))},
			{-limit, inverse(up)},
			{1 - limit, product(inverse(up), a)},
		} {
			if got := field.Power(a, x.n); got != x.want {
				t.Errorf("Power(%#x, %d) = %#x, want %#x", a, x.n, got, x.want)
			}
		}
	}
}

// P3.3

func TestSumOfExamples(t *testing.T) {
	for _, x := range []struct {
		l    []byte
		want byte
	}{
		{nil, 0},
		{[]byte{}, 0},
		{[]byte{0}, 0},
		{[]byte{7}, 7},
		{[]byte{255}, 255},
		{[]byte{1, 2}, 3},
		{[]byte{1, 2, 3}, 0},
		{[]byte{1, 1}, 0},
		{[]byte{1, 1, 1}, 1},
		{[]byte{255, 1}, 254},
		{[]byte{0x57, 0x83}, 0xd4},
		{[]byte{128, 64, 32, 16, 8, 4, 2, 1}, 255},
	} {
		if got := field.Sum(x.l...); got != x.want {
			t.Errorf("Sum of %v = %#x, want %#x", x.l, got, x.want)
		}
	}
	if got := field.Sum(); got != 0 {
		t.Errorf("Sum of no bytes = %#x", got)
	}
}

func TestSumOfTwoBytesIsTheExclusiveOr(t *testing.T) {
	for i := range 256 {
		for j := range 256 {
			if got := field.Sum(byte(i), byte(j)); got != byte(i^j) {
				t.Errorf("Sum(%#x, %#x) = %#x, want %#x", i, j, got, i^j)
			}
		}
	}
}

func TestSumHasTheCoefficientsThatAreOftenOdd(t *testing.T) {
	for _, n := range []int{3, 4, 5, 16, 255, 256, 257, 100003} {
		l := sample(n, uint32(n))
		want := byte(0)
		for bit := range 8 {
			times := 0
			for _, a := range l {
				times += int(a >> bit & 1)
			}
			want |= byte(times%2) << bit
		}
		if got := field.Sum(l...); got != want {
			t.Errorf("Sum of %d bytes = %#x, want %#x", n, got, want)
		}
	}
}

func TestSumKeepsWhatIsGiven(t *testing.T) {
	l := sample(40, 1)
	field.Sum(l[3:30]...)
	if !bytes.Equal(l, sample(40, 1)) {
		t.Errorf("the bytes have become %v", l)
	}
}

func TestDotOfExamples(t *testing.T) {
	for _, x := range []struct {
		a, b [4]byte
		want byte
	}{
		{[4]byte{}, [4]byte{}, 0},
		{[4]byte{}, [4]byte{1, 2, 3, 4}, 0},
		{[4]byte{1, 1, 1, 1}, [4]byte{1, 2, 4, 8}, 15},
		{[4]byte{2, 3, 1, 1}, [4]byte{0xdb, 0x13, 0x53, 0x45}, 0x8e},
		{[4]byte{1, 2, 3, 1}, [4]byte{0xdb, 0x13, 0x53, 0x45}, 0x4d},
		{[4]byte{1, 1, 2, 3}, [4]byte{0xdb, 0x13, 0x53, 0x45}, 0xa1},
		{[4]byte{3, 1, 1, 2}, [4]byte{0xdb, 0x13, 0x53, 0x45}, 0xbc},
		{[4]byte{0x0e, 0x0b, 0x0d, 0x09}, [4]byte{0x8e, 0x4d, 0xa1, 0xbc}, 0xdb},
	} {
		if got := field.Dot(x.a, x.b); got != x.want {
			t.Errorf("Dot(%v, %v) = %#x, want %#x", x.a, x.b, got, x.want)
		}
		if got := field.Dot(x.b, x.a); got != x.want {
			t.Errorf("Dot(%v, %v) = %#x, want %#x", x.b, x.a, got, x.want)
		}
	}
}

func TestDotOfSingleBytes(t *testing.T) {
	for k := range 4 {
		for l := range 4 {
			for i := range 256 {
				var a, b [4]byte
				a[k], b[l] = byte(i), byte(255-i)
				want := byte(0)
				if k == l {
					want = product(a[k], b[l])
				}
				if got := field.Dot(a, b); got != want {
					t.Errorf("Dot(%v, %v) = %#x, want %#x", a, b, got, want)
				}
			}
		}
	}
}

func TestDotIsTheSumOfTheProducts(t *testing.T) {
	for seed := range uint32(5000) {
		l := sample(8, seed)
		a, b := [4]byte(l[:4]), [4]byte(l[4:])
		want := byte(0)
		for i := range a {
			want ^= product(a[i], b[i])
		}
		if got := field.Dot(a, b); got != want {
			t.Errorf("Dot(%v, %v) = %#x, want %#x", a, b, got, want)
		}
	}
}

// P3.4

func TestProductOfTwoBytesInAnyOrder(t *testing.T) {
	for i := range 256 {
		for j := range 256 {
			if field.Mul(byte(i), byte(j)) != field.Mul(byte(j), byte(i)) {
				t.Errorf("the product of %#x and %#x depends on the order", i, j)
			}
		}
	}
}

func TestProductOfThreeBytesInAnyOrder(t *testing.T) {
	mul := table()
	for a := range 256 {
		for b := range 256 {
			for c := range 256 {
				p := mul[mul[a][b]][c]
				if p != mul[a][mul[b][c]] || p != mul[mul[a][c]][b] || p != mul[mul[c][b]][a] {
					t.Fatalf("the product of %#x, %#x and %#x depends on the order", a, b, c)
				}
			}
		}
	}
}

func TestProductDistributesOverSums(t *testing.T) {
	mul := table()
	for a := range 256 {
		for b := range 256 {
			for c := range 256 {
				s := field.Sum(byte(b), byte(c))
				if mul[a][s] != field.Sum(mul[a][b], mul[a][c]) || mul[s][a] != field.Sum(mul[b][a], mul[c][a]) {
					t.Fatalf("the product of %#x does not distribute over the sum of %#x and %#x", a, b, c)
				}
			}
		}
	}
}

func TestProductDistributesOverLongSums(t *testing.T) {
	for n := range 40 {
		l := sample(n, uint32(n))
		for i := range 256 {
			a := byte(i)
			multiples := make([]byte, n)
			for k := range l {
				multiples[k] = field.Mul(a, l[k])
			}
			if field.Mul(a, field.Sum(l...)) != field.Sum(multiples...) {
				t.Errorf("the product of %#x does not distribute over the sum of %v", a, l)
			}
		}
	}
}

func TestPower255(t *testing.T) {
	for i := 1; i < 256; i++ {
		if got := field.Power(byte(i), 255); got != 1 {
			t.Errorf("Power(%#x, 255) = %#x", i, got)
		}
		if got := field.Power(byte(i), -255); got != 1 {
			t.Errorf("Power(%#x, -255) = %#x", i, got)
		}
	}
}
