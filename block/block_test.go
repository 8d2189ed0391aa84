package block_test

import (
	"bytes"
	"iter"
	"math"
	"math/big"
	"runtime"
	"sync"
	"sync/atomic"
	"testing"

	"mooring/block"
)

// zeros is the block of zero bytes.
var zeros [16]byte

// sample returns n bytes without any regularity that a sum could keep.
func sample(n int, seed uint32) []byte {
	b := make([]byte, n)
	x := seed*2654435761 + 1
	for i := range b {
		x = x*1664525 + 1013904223
		b[i] = byte(x >> 24)
	}
	return b
}

// full has the same byte everywhere.
func full(x byte) [16]byte {
	return [16]byte(bytes.Repeat([]byte{x}, 16))
}

// single has one bit, counted as the chapter does.
func single(bit int) [16]byte {
	var b [16]byte
	b[bit/8] = 0x80 >> (bit % 8)
	return b
}

// someBlocks have each bit alone, all bits but one, each byte in each place, and
// bytes without regularity.
func someBlocks() [][16]byte {
	l := [][16]byte{zeros, full(0xff)}
	for bit := range 128 {
		b := single(bit)
		l = append(l, b, block.Xor(b, full(0xff)))
	}
	for x := range 256 {
		l = append(l, full(byte(x)))
		for i := range 16 {
			b, c := zeros, [16]byte(sample(16, uint32(x)))
			b[i], c[i] = byte(x), byte(x)
			l = append(l, b, c)
		}
	}
	for seed := range uint32(1000) {
		l = append(l, [16]byte(sample(16, seed)))
	}
	return l
}

// number is that of a block.
func number(b [16]byte) *big.Int {
	return new(big.Int).SetBytes(b[:])
}

// double is the double of a block, as the chapter defines it by its number.
func double(b [16]byte) [16]byte {
	twice := new(big.Int).Lsh(number(b), 1)
	modulus := new(big.Int).Lsh(big.NewInt(1), 128)
	var d [16]byte
	twice.Mod(twice, modulus).FillBytes(d[:])
	if bit(b[:], 0) == 1 {
		d[15] ^= 0x87
	}
	return d
}

// bit is a bit of bytes, counted as the chapter does.
func bit(b []byte, i int) byte {
	return b[i/8] / (128 >> (i % 8)) % 2
}

// window has the bits from n on, one by one.
func window(b [24]byte, n int) [16]byte {
	var w [16]byte
	for i := range 128 {
		w[i/8] |= bit(b[:], n+i) << (7 - i%8)
	}
	return w
}

// padded is the padded block of a rest.
func padded(rest []byte) [16]byte {
	b := append(bytes.Clone(rest), 0x80)
	for len(b) < 16 {
		b = append(b, 0)
	}
	return [16]byte(b)
}

// blocksOf cuts bytes into blocks, and what is left of them.
func blocksOf(b []byte) (l [][16]byte, rest []byte) {
	for len(b) >= 16 {
		l, b = append(l, [16]byte(b[:16])), b[16:]
	}
	return l, b
}

// item is what an iterator yields.
type item struct {
	index int
	block [16]byte
}

// gather is what a loop that is never stopped gets.
func gather(seq iter.Seq2[int, [16]byte]) []item {
	var l []item
	for i, b := range seq {
		l = append(l, item{i, b})
	}
	return l
}

// checkItems says what is wrong about the items of bytes, if anything is.
func checkItems(t *testing.T, got []item, b []byte, n int) {
	t.Helper()
	want, _ := blocksOf(b)
	if len(got) != n {
		t.Errorf("a loop over the parts of %d bytes got %d of them, want %d", len(b), len(got), n)
		return
	}
	for i, x := range got {
		if x.index != i+1 || x.block != want[i] {
			t.Errorf("the part %d of %d bytes is %d %x, want %d %x", i+1, len(b), x.index, x.block, i+1, want[i])
		}
	}
}

// checkSplit says what is wrong about the parts of bytes, if anything is.
func checkSplit(t *testing.T, b []byte) {
	t.Helper()
	l, rest := block.Split(b)
	want, left := blocksOf(b)
	if len(l) != len(want) {
		t.Errorf("%d bytes have %d parts, want %d", len(b), len(l), len(want))
		return
	}
	for i := range l {
		if l[i] != want[i] {
			t.Errorf("the part %d of %d bytes is %x, want %x", i+1, len(b), l[i], want[i])
		}
	}
	if !bytes.Equal(rest, left) {
		t.Errorf("the rest of %d bytes is %x, want %x", len(b), rest, left)
	}
	checkItems(t, gather(block.All(b)), b, len(want))
}

// P8.1

func TestDoubleOfExamples(t *testing.T) {
	for _, x := range []struct{ b, want [16]byte }{
		{zeros, zeros},
		{[16]byte{0: 0x80}, [16]byte{15: 0x87}},
		{[16]byte{0: 0x80, 15: 0x80}, [16]byte{14: 1, 15: 0x87}},
		{[16]byte{0: 0x80, 15: 0x43}, [16]byte{15: 1}},
		{[16]byte{0: 0x40}, [16]byte{0: 0x80}},
		{[16]byte{0: 0xc0}, [16]byte{0: 0x80, 15: 0x87}},
		{[16]byte{15: 1}, [16]byte{15: 2}},
		{[16]byte{15: 0x80}, [16]byte{14: 1}},
		{[16]byte{1: 0x80}, [16]byte{0: 1}},
		{full(0xff), [16]byte{0xff, 0xff, 0xff, 0xff, 0xff, 0xff, 0xff, 0xff, 0xff, 0xff, 0xff, 0xff, 0xff, 0xff, 0xff, 0x79}},
		{full(0x7f), [16]byte{0xfe, 0xfe, 0xfe, 0xfe, 0xfe, 0xfe, 0xfe, 0xfe, 0xfe, 0xfe, 0xfe, 0xfe, 0xfe, 0xfe, 0xfe, 0xfe}},
	} {
		if got := block.Double(x.b); got != x.want {
			t.Errorf("Double(%x) = %x, want %x", x.b, got, x.want)
		}
		if got := block.Halve(x.want); got != x.b {
			t.Errorf("Halve(%x) = %x, want %x", x.want, got, x.b)
		}
	}
}

// The doubles of what AES encrypts zero bytes as are those of RFC 4493.
func TestDoubleOfSubkeys(t *testing.T) {
	l := [3][16]byte{
		{0x7d, 0xf7, 0x6b, 0x0c, 0x1a, 0xb8, 0x99, 0xb3, 0x3e, 0x42, 0xf0, 0x47, 0xb9, 0x1b, 0x54, 0x6f},
		{0xfb, 0xee, 0xd6, 0x18, 0x35, 0x71, 0x33, 0x66, 0x7c, 0x85, 0xe0, 0x8f, 0x72, 0x36, 0xa8, 0xde},
		{0xf7, 0xdd, 0xac, 0x30, 0x6a, 0xe2, 0x66, 0xcc, 0xf9, 0x0b, 0xc1, 0x1e, 0xe4, 0x6d, 0x51, 0x3b},
	}
	for i := range 2 {
		if got := block.Double(l[i]); got != l[i+1] {
			t.Errorf("Double(%x) = %x, want %x", l[i], got, l[i+1])
		}
		if got := block.Halve(l[i+1]); got != l[i] {
			t.Errorf("Halve(%x) = %x, want %x", l[i+1], got, l[i])
		}
	}
}

func TestDoubleOfBlocksWithAndWithoutTheFirstBit(t *testing.T) {
	for _, b := range someBlocks() {
		for _, first := range []byte{0, 0x80} {
			b[0] = b[0]&0x7f | first
			if got := block.Double(b); got != double(b) {
				t.Errorf("Double(%x) = %x, want %x", b, got, double(b))
			}
		}
	}
}

func TestDoubleOfSingleBits(t *testing.T) {
	for i := 1; i < 128; i++ {
		if got := block.Double(single(i)); got != single(i-1) {
			t.Errorf("the double of the bit %d is %x", i, got)
		}
		if got := block.Halve(single(i - 1)); got != single(i) {
			t.Errorf("the bit %d is the double of %x", i-1, got)
		}
	}
}

func TestDoubleOfSums(t *testing.T) {
	l := someBlocks()
	for i, a := range l {
		b := l[(i+37)%len(l)]
		want := block.Xor(block.Double(a), block.Double(b))
		if got := block.Double(block.Xor(a, b)); got != want {
			t.Errorf("the double of %x and %x is %x, want %x", a, b, got, want)
		}
	}
}

func TestHalveFindsWhatWasDoubled(t *testing.T) {
	for _, b := range someBlocks() {
		for _, last := range []byte{0, 1} {
			b[15] = b[15]&0xfe | last
			if got := double(block.Halve(b)); got != b {
				t.Errorf("Halve(%x) = %x, whose double is %x", b, block.Halve(b), got)
			}
		}
		if got := block.Halve(double(b)); got != b {
			t.Errorf("Halve(%x) = %x, want %x", double(b), got, b)
		}
	}
}

func TestHalveOfTheLastBit(t *testing.T) {
	want := [16]byte{0: 0x80, 15: 0x43}
	if got := block.Halve(single(127)); got != want {
		t.Errorf("Halve(%x) = %x, want %x", single(127), got, want)
	}
}

func TestXorOfExamples(t *testing.T) {
	for _, x := range []struct{ a, b, want [16]byte }{
		{zeros, zeros, zeros},
		{full(0xff), zeros, full(0xff)},
		{full(0xff), full(0xff), zeros},
		{full(0xf0), full(0x3c), full(0xcc)},
		{[16]byte{1, 2}, [16]byte{3}, [16]byte{2, 2}},
		{[16]byte{15: 5}, [16]byte{0: 1, 15: 6}, [16]byte{0: 1, 15: 3}},
	} {
		if got := block.Xor(x.a, x.b); got != x.want {
			t.Errorf("Xor(%x, %x) = %x, want %x", x.a, x.b, got, x.want)
		}
	}
}

func TestXorOfManyBlocks(t *testing.T) {
	l := someBlocks()
	for i, a := range l {
		b := l[(i*31+7)%len(l)]
		var want [16]byte
		new(big.Int).Xor(number(a), number(b)).FillBytes(want[:])
		if got := block.Xor(a, b); got != want || block.Xor(b, a) != want {
			t.Errorf("Xor(%x, %x) = %x, want %x", a, b, got, want)
		}
		if got := block.Xor(block.Xor(a, b), b); got != a {
			t.Errorf("adding %x to %x twice makes %x", b, a, got)
		}
	}
}

func TestXorWithItselfAndWithZeroBytes(t *testing.T) {
	for _, b := range someBlocks() {
		if got := block.Xor(b, b); got != zeros {
			t.Errorf("Xor(%x, %x) = %x", b, b, got)
		}
		if got := block.Xor(b, zeros); got != b || block.Xor(zeros, b) != b {
			t.Errorf("Xor(%x, 0) = %x, Xor(0, %x) = %x", b, got, b, block.Xor(zeros, b))
		}
	}
}

// P8.2

// someBytes have each bit alone, all bits, none, and bytes without regularity.
func someBytes() [][24]byte {
	l := [][24]byte{{}, [24]byte(bytes.Repeat([]byte{0xff}, 24))}
	for i := range 192 {
		var b [24]byte
		b[i/8] = 0x80 >> (i % 8)
		l = append(l, b)
	}
	for seed := range uint32(200) {
		l = append(l, [24]byte(sample(24, seed)))
	}
	return l
}

func TestShiftOfExamples(t *testing.T) {
	var b [24]byte
	for i := range b {
		b[i] = byte(i)
	}
	for _, x := range []struct {
		n    int
		want [16]byte
	}{
		{0, [16]byte{0, 1, 2, 3, 4, 5, 6, 7, 8, 9, 10, 11, 12, 13, 14, 15}},
		{1, [16]byte{0, 2, 4, 6, 8, 10, 12, 14, 16, 18, 20, 22, 24, 26, 28, 30}},
		{4, [16]byte{0, 0x10, 0x20, 0x30, 0x40, 0x50, 0x60, 0x70, 0x80, 0x90, 0xa0, 0xb0, 0xc0, 0xd0, 0xe0, 0xf1}},
		{8, [16]byte{1, 2, 3, 4, 5, 6, 7, 8, 9, 10, 11, 12, 13, 14, 15, 16}},
		{63, [16]byte{0x84, 4, 0x85, 5, 0x86, 6, 0x87, 7, 0x88, 8, 0x89, 9, 0x8a, 10, 0x8b, 0x0b}},
		{64, [16]byte{8, 9, 10, 11, 12, 13, 14, 15, 16, 17, 18, 19, 20, 21, 22, 23}},
	} {
		if got := block.Shift(b, x.n); got != x.want {
			t.Errorf("Shift(%x, %d) = %x, want %x", b, x.n, got, x.want)
		}
	}
}

func TestShiftByEachNumber(t *testing.T) {
	for _, b := range someBytes() {
		for n := range 65 {
			if got := block.Shift(b, n); got != window(b, n) {
				t.Errorf("Shift(%x, %d) = %x, want %x", b, n, got, window(b, n))
			}
		}
	}
}

func TestShiftBelowZeroAndAboveItsEnd(t *testing.T) {
	for _, b := range someBytes() {
		for _, n := range []int{-1, -7, -8, -64, -65, -1000, math.MinInt32, math.MinInt + 1, math.MinInt} {
			if got := block.Shift(b, n); got != window(b, 0) {
				t.Errorf("Shift(%x, %d) = %x, want %x", b, n, got, window(b, 0))
			}
		}
		for _, n := range []int{65, 66, 71, 72, 127, 128, 192, 1000, math.MaxInt32, math.MaxInt - 1, math.MaxInt} {
			if got := block.Shift(b, n); got != window(b, 64) {
				t.Errorf("Shift(%x, %d) = %x, want %x", b, n, got, window(b, 64))
			}
		}
	}
}

// P8.3

func TestSplitAndAllOfNoBytes(t *testing.T) {
	for _, b := range [][]byte{nil, {}, sample(5, 1)[:0]} {
		if l, rest := block.Split(b); len(l) != 0 || len(rest) != 0 {
			t.Errorf("Split of no bytes = %x, %x", l, rest)
		}
		checkItems(t, gather(block.All(b)), b, 0)
	}
}

func TestSplitAndAllOfEachLength(t *testing.T) {
	for n := range 200 {
		checkSplit(t, sample(n, uint32(n)))
		checkSplit(t, make([]byte, n))
		checkSplit(t, bytes.Repeat([]byte{0x80}, n))
	}
	for _, n := range []int{255, 256, 257, 1199, 1200, 1201, 4095, 4096, 4097, 1 << 20, 1<<20 + 15} {
		checkSplit(t, sample(n, uint32(n)))
	}
}

func TestSplitCountsPartsAndRest(t *testing.T) {
	for n, want := range map[int][2]int{0: {0, 0}, 1: {0, 1}, 15: {0, 15}, 16: {1, 0}, 17: {1, 1}, 31: {1, 15}, 32: {2, 0}, 33: {2, 1}, 47: {2, 15}, 48: {3, 0}} {
		l, rest := block.Split(sample(n, 1))
		if len(l) != want[0] || len(rest) != want[1] {
			t.Errorf("%d bytes have %d parts, and %d bytes are left, want %v", n, len(l), len(rest), want)
		}
		if got := len(gather(block.All(sample(n, 1)))); got != want[0] {
			t.Errorf("a loop over %d bytes gets %d blocks, want %d", n, got, want[0])
		}
	}
}

func TestSplitIsWhatAllYields(t *testing.T) {
	for n := range 100 {
		b := sample(n, uint32(n)+500)
		l, rest := block.Split(b)
		var whole []byte
		for i, x := range block.All(b) {
			if l[i-1] != x {
				t.Errorf("the part %d of %d bytes is %x, All yields %x", i, n, l[i-1], x)
			}
			whole = append(whole, x[:]...)
		}
		if whole = append(whole, rest...); !bytes.Equal(whole, b) {
			t.Errorf("%x is split into %x", b, whole)
		}
	}
}

func TestLoopThatIsStopped(t *testing.T) {
	for n := range 100 {
		b := sample(n, uint32(n))
		seq := block.All(b)
		for stop := 1; stop <= n/16; stop++ {
			var l []item
			for i, x := range seq {
				l = append(l, item{i, x})
				if i == stop {
					break
				}
			}
			checkItems(t, l, b, stop)
		}
		checkItems(t, gather(seq), b, n/16)
	}
}

// A loop of the language panics if it is told another block after it has stopped,
// but a function is told.
func TestNothingIsYieldedAfterAStop(t *testing.T) {
	for stop := 1; stop <= 5; stop++ {
		calls := 0
		block.All(sample(80, 1))(func(int, [16]byte) bool {
			calls++
			return calls < stop
		})
		if calls != stop {
			t.Errorf("a loop that is stopped at the block %d gets %d", stop, calls)
		}
	}
}

func TestAllUsedSeveralTimes(t *testing.T) {
	b := sample(70, 1)
	seq := block.All(b)
	for range 3 {
		checkItems(t, gather(seq), b, 4)
	}
	for range seq {
		break
	}
	checkItems(t, gather(seq), b, 4)
}

func TestAllUsedSideBySide(t *testing.T) {
	b := sample(70, 2)
	seq := block.All(b)
	for i := range seq {
		checkItems(t, gather(seq), b, 4)
		inner := 0
		for k := range seq {
			if inner++; k == i {
				break
			}
		}
		if inner != i {
			t.Errorf("an inner loop that is stopped at the block %d gets %d", i, inner)
		}
	}
	next, stop := iter.Pull2(seq)
	defer stop()
	other, end := iter.Pull2(seq)
	defer end()
	var l, m []item
	for k := range 4 {
		i, x, _ := next()
		l = append(l, item{i, x})
		if k%2 == 1 {
			continue
		}
		i, x, _ = other()
		m = append(m, item{i, x})
	}
	checkItems(t, l, b, 4)
	checkItems(t, m, b, 2)
	if _, _, ok := next(); ok {
		t.Error("there is a block after the last one")
	}
}

func TestAllOfDifferentBytesSideBySide(t *testing.T) {
	a, b := sample(50, 3), sample(90, 4)
	one, two := block.All(a), block.All(b)
	for range two {
		checkItems(t, gather(one), a, 3)
	}
	checkItems(t, gather(two), b, 5)
}

// P8.4

func TestPadOfEachLength(t *testing.T) {
	for n := range 16 {
		for _, rest := range [][]byte{make([]byte, n), bytes.Repeat([]byte{0x80}, n), bytes.Repeat([]byte{0xff}, n), sample(n, uint32(n))} {
			got, ok := block.Pad(rest)
			if !ok || got != padded(rest) {
				t.Errorf("Pad(%x) = %x, %t, want %x", rest, got, ok, padded(rest))
			}
		}
	}
}

func TestPadOfExamples(t *testing.T) {
	for _, x := range []struct {
		rest []byte
		want [16]byte
	}{
		{nil, [16]byte{0x80}},
		{[]byte{}, [16]byte{0x80}},
		{[]byte{7}, [16]byte{7, 0x80}},
		{[]byte{0, 0x80}, [16]byte{0, 0x80, 0x80}},
		{make([]byte, 15), [16]byte{15: 0x80}},
	} {
		if got, ok := block.Pad(x.rest); !ok || got != x.want {
			t.Errorf("Pad(%x) = %x, %t, want %x", x.rest, got, ok, x.want)
		}
	}
}

func TestPadOfSixteenBytesAndMore(t *testing.T) {
	for _, n := range []int{16, 17, 18, 31, 32, 33, 256, 272, 1 << 16} {
		for _, rest := range [][]byte{make([]byte, n), bytes.Repeat([]byte{0xff}, n), sample(n, 1)} {
			if got, ok := block.Pad(rest); ok || got != zeros {
				t.Errorf("Pad of %d bytes = %x, %t", n, got, ok)
			}
		}
	}
}

func TestUnpadOfEachPaddedBlock(t *testing.T) {
	for n := range 16 {
		for _, rest := range [][]byte{make([]byte, n), bytes.Repeat([]byte{0x80}, n), bytes.Repeat([]byte{0xff}, n), sample(n, uint32(n))} {
			got, ok := block.Unpad(padded(rest))
			if !ok || !bytes.Equal(got, rest) {
				t.Errorf("Unpad(%x) = %x, %t, want %x", padded(rest), got, ok, rest)
			}
		}
	}
}

func TestUnpadOfNoPaddedBlock(t *testing.T) {
	l := [][16]byte{zeros, full(0xff), full(1), {0x40}, {1}, {0x81}, {0x80, 1}, {0x80, 15: 1}, {15: 0x81}, {15: 0x40}, {14: 0x80, 15: 1}}
	for i := range 16 {
		for x := 1; x < 256; x++ {
			if x == 0x80 {
				continue
			}
			b, c := zeros, full(0x80)
			clear(c[i:])
			b[i], c[i] = byte(x), byte(x)
			l = append(l, b, c)
		}
	}
	for _, b := range l {
		if got, ok := block.Unpad(b); ok || len(got) != 0 {
			t.Errorf("Unpad(%x) = %x, %t", b, got, ok)
		}
	}
}

// Each block either has one rest, whose padded block it is, or none.
func TestUnpadOfManyBlocks(t *testing.T) {
	for _, b := range someBlocks() {
		for end := range 17 {
			c := b
			clear(c[end:])
			var want []byte
			found := false
			for n := range 16 {
				if padded(c[:n]) == c {
					want, found = c[:n], true
				}
			}
			if got, ok := block.Unpad(c); ok != found || !bytes.Equal(got, want) {
				t.Errorf("Unpad(%x) = %x, %t, want %x, %t", c, got, ok, want, found)
			}
		}
	}
}

// P8.5

func TestHalveAndDoubleInvertEachOther(t *testing.T) {
	for _, b := range someBlocks() {
		if got := block.Halve(block.Double(b)); got != b {
			t.Errorf("Halve(Double(%x)) = %x", b, got)
		}
		if got := block.Double(block.Halve(b)); got != b {
			t.Errorf("Double(Halve(%x)) = %x", b, got)
		}
	}
}

func TestManyTimesDoubledAndHalved(t *testing.T) {
	start := [16]byte(sample(16, 1))
	b := start
	for range 1000 {
		b = block.Double(b)
	}
	for range 1000 {
		b = block.Halve(b)
	}
	if b != start {
		t.Errorf("%x is doubled and halved to %x", start, b)
	}
}

func TestUnpadInvertsPad(t *testing.T) {
	for n := range 16 {
		for seed := range uint32(200) {
			rest := sample(n, seed)
			b, ok := block.Pad(rest)
			got, found := block.Unpad(b)
			if !ok || !found || !bytes.Equal(got, rest) {
				t.Errorf("Unpad(Pad(%x)) = %x, %t, %t", rest, got, ok, found)
			}
		}
	}
}

func TestPadInvertsUnpad(t *testing.T) {
	for _, b := range someBlocks() {
		rest, ok := block.Unpad(b)
		if !ok {
			continue
		}
		if got, ok := block.Pad(rest); !ok || got != b {
			t.Errorf("Pad(Unpad(%x)) = %x, %t", b, got, ok)
		}
	}
}

// The Rules

func TestBytesStayAsTheyAre(t *testing.T) {
	for n := range 50 {
		whole := sample(n+20, uint32(n))
		block.Split(whole[:n])
		for i, x := range block.All(whole[:n]) {
			x[i%16]++
		}
		block.Pad(whole[:n])
		if !bytes.Equal(whole, sample(n+20, uint32(n))) {
			t.Errorf("%d bytes and what is after them have become %x", n, whole)
		}
	}
}

func TestBytesThatTheCallerChanges(t *testing.T) {
	for n := range 50 {
		b := sample(n, uint32(n))
		want := bytes.Clone(b)
		l, rest := block.Split(b)
		seq := block.All(b)
		p, _ := block.Pad(b)
		for i := range b {
			b[i] ^= 0xff
		}
		parts, left := blocksOf(want)
		for i := range parts {
			if l[i] != parts[i] {
				t.Errorf("after a change of %d bytes, their part %d is %x", n, i+1, l[i])
			}
		}
		if !bytes.Equal(rest, left) {
			t.Errorf("after a change of %d bytes, their rest is %x", n, rest)
		}
		if n < 16 && p != padded(want) {
			t.Errorf("after a change of %d bytes, their padded block is %x", n, p)
		}
		checkItems(t, gather(seq), want, n/16)
	}
}

func TestBytesThatTheCallerChangesInTheLoop(t *testing.T) {
	b := sample(70, 5)
	want := bytes.Clone(b)
	var l []item
	for i, x := range block.All(b) {
		l = append(l, item{i, x})
		clear(b)
	}
	checkItems(t, l, want, 4)
}

func TestResultsThatTheCallerChanges(t *testing.T) {
	b := sample(45, 6)
	l, rest := block.Split(b)
	for i := range l {
		l[i] = zeros
	}
	l = append(l, zeros)
	clear(rest)
	rest = append(rest, 1, 2, 3)
	seq := block.All(b)
	for _, x := range seq {
		clear(x[:])
	}
	checkItems(t, gather(seq), b, 2)
	if !bytes.Equal(b, sample(45, 6)) {
		t.Errorf("after a change of %x and %x, the bytes are %x", l, rest, b)
	}
	checkSplit(t, b)
	p := padded(b[:10])
	got, _ := block.Unpad(p)
	clear(got)
	got = append(got, 1, 2, 3)
	if p != padded(b[:10]) {
		t.Errorf("after a change of %x, the block is %x", got, p)
	}
	again, ok := block.Unpad(p)
	if !ok || !bytes.Equal(again, b[:10]) {
		t.Errorf("after a change of %x, Unpad(%x) = %x, %t", got, p, again, ok)
	}
}

func TestBlocksThatTheCallerChanges(t *testing.T) {
	b := [16]byte(sample(16, 7))
	for _, call := range []func([16]byte) [16]byte{
		block.Double,
		block.Halve,
		func(b [16]byte) [16]byte { return block.Xor(b, full(0x55)) },
		func(b [16]byte) [16]byte { return block.Xor(full(0x55), b) },
		func(b [16]byte) [16]byte { return block.Shift([24]byte(append(b[:], sample(8, 1)...)), 13) },
	} {
		want := call(b)
		got := call(b)
		clear(got[:])
		if again := call(b); again != want || b != [16]byte(sample(16, 7)) {
			t.Errorf("the result of %x has become %x, want %x", b, again, want)
		}
	}
}

func TestFunctionsAreCalledConcurrently(t *testing.T) {
	const askers = 16
	shared := sample(100, 8)
	seq := block.All(shared)
	var done sync.WaitGroup
	var ready atomic.Int32
	for k := range uint32(askers) {
		done.Go(func() {
			ready.Add(1)
			for ready.Load() < askers {
				runtime.Gosched()
			}
			for seed := range uint32(20) {
				b := [16]byte(sample(16, 20*k+seed))
				if got := block.Double(b); got != double(b) || block.Halve(got) != b {
					t.Errorf("Double(%x) = %x, Halve of it = %x", b, got, block.Halve(got))
				}
				checkSplit(t, sample(int(seed)*3, k))
				checkItems(t, gather(seq), shared, 6)
			}
		})
	}
	done.Wait()
}
