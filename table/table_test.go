package table_test

import (
	"encoding/hex"
	"math"
	"math/big"
	"runtime"
	"strings"
	"sync"
	"sync/atomic"
	"testing"

	"mooring/block"
	"mooring/cipher"
	"mooring/fast"
	"mooring/table"
)

// askers is how many goroutines ask at the same time.
const askers = 16

// zeros is the block and the key of zero bytes.
var zeros [16]byte

// model has the blocks as the chapter defines them, by their numbers.
type model struct {
	star, dollar [16]byte
	blocks       [64][16]byte
}

// modelOf encrypts step by step, and not with the cipher of a table.
func modelOf(key [16]byte) model {
	var m model
	m.star = cipher.Encrypt(key, zeros)
	m.dollar = double(m.star)
	last := m.dollar
	for i := range m.blocks {
		last = double(last)
		m.blocks[i] = last
	}
	return m
}

// at has zero bytes where there is no block.
func (m model) at(i int) [16]byte {
	if i < 0 || i > 63 {
		return zeros
	}
	return m.blocks[i]
}

// forNumber halves the number until it is odd.
func (m model) forNumber(n uint64) [16]byte {
	if n == 0 {
		return zeros
	}
	i := 0
	for n%2 == 0 {
		n, i = n/2, i+1
	}
	return m.blocks[i]
}

// double is the double of a block, by its number.
func double(b [16]byte) [16]byte {
	n := new(big.Int).SetBytes(b[:])
	n.Lsh(n, 1)
	out := n.Bit(128)
	n.SetBit(n, 128, 0)
	var d [16]byte
	n.FillBytes(d[:])
	if out == 1 {
		d[15] ^= 0x87
	}
	return d
}

// blocks reads blocks that are written as hexadecimal numbers.
func blocks(t *testing.T, text string) [][16]byte {
	t.Helper()
	var l [][16]byte
	for _, number := range strings.Fields(text) {
		b, err := hex.DecodeString(number)
		if err != nil || len(b) != 16 {
			t.Fatalf("%s has %d bytes, %v", number, len(b), err)
		}
		l = append(l, [16]byte(b))
	}
	return l
}

// sample returns a key without any regularity that a sum could keep.
func sample(seed uint32) [16]byte {
	var b [16]byte
	x := seed*2654435761 + 1
	for i := range b {
		x = x*1664525 + 1013904223
		b[i] = byte(x >> 24)
	}
	return b
}

// someKeys are all different. Each bit is set in one of them alone.
func someKeys() [][16]byte {
	l := [][16]byte{zeros, {0, 1, 2, 3, 4, 5, 6, 7, 8, 9, 10, 11, 12, 13, 14, 15}}
	for bit := range 128 {
		var b [16]byte
		b[bit/8] = 1 << (bit % 8)
		l = append(l, b)
	}
	for seed := range uint32(100) {
		l = append(l, sample(seed))
	}
	return l
}

// someNumbers have each bit alone, each bit as the lowest one below others, and
// the ends.
func someNumbers() []uint64 {
	l := []uint64{0, math.MaxUint64, math.MaxUint64 - 1, math.MaxInt64, math.MaxUint32, 0xaaaaaaaaaaaaaaaa, 0x5555555555555555}
	for i := range 64 {
		bit := uint64(1) << i
		l = append(l, bit, bit-1, bit+1, ^bit, -bit, 1<<63|bit, bit|bit<<1, bit|bit<<7, 0xdeadbeefcafef00d<<i)
	}
	for n := range uint64(300) {
		l = append(l, n)
	}
	return l
}

// outside are indices without a block. They include those that are one of a block
// where 6, 8, 16, 31 or 32 bits of them are looked at, and the negative ones.
func outside() []int {
	l := []int{64, 65, 66, 127, 128, 255, 256, 257, 1000, 1 << 16, 1<<16 + 3, 1 << 30, math.MaxInt32, math.MaxInt - 63, math.MaxInt - 1, math.MaxInt}
	l = append(l, -1, -2, -3, -63, -64, -65, -128, -256, -1000, -1<<16, -1<<16+3, math.MinInt32, math.MinInt32+3, math.MinInt, math.MinInt+1, math.MinInt+63, math.MinInt+64)
	if math.MaxInt > math.MaxInt32 {
		wide := math.MaxInt/2 + 1
		l = append(l, wide>>30, wide>>30+3, wide, wide+3, -wide>>30, -wide>>30+3)
	}
	return l
}

// unkeyed are the Tables whose Ciphers have the key of zero bytes. A nil and a zero
// Cipher are among those, and a nil Table among the Tables.
func unkeyed() map[string]*table.Table {
	return map[string]*table.Table{
		"nil Table":           nil,
		"table of nil":        table.New(nil),
		"table of a zero one": table.New(&fast.Cipher{}),
		"table of a made one": table.New(fast.New(zeros)),
	}
}

// check says what of a Table is wrong for a key, if anything is.
func check(t *testing.T, name string, x *table.Table, key [16]byte) {
	t.Helper()
	m := modelOf(key)
	if got := x.Star(); got != m.star {
		t.Errorf("%s, %x: Star() = %x, want %x", name, key, got, m.star)
	}
	if got := x.Dollar(); got != m.dollar {
		t.Errorf("%s, %x: Dollar() = %x, want %x", name, key, got, m.dollar)
	}
	for i := range 64 {
		if got := x.At(i); got != m.blocks[i] {
			t.Errorf("%s, %x: At(%d) = %x, want %x", name, key, i, got, m.blocks[i])
		}
	}
	for _, i := range []int{-1, 64} {
		if got := x.At(i); got != zeros {
			t.Errorf("%s, %x: At(%d) = %x, want zero bytes", name, key, i, got)
		}
	}
	for i := range 65 {
		n := uint64(1) << i // 0 for 64
		if got, want := x.For(n), m.at(i); got != want {
			t.Errorf("%s, %x: For(%#x) = %x, want %x", name, key, n, got, want)
		}
	}
}

// atOnce calls in many goroutines. They wait for each other without sleeping, as
// they would not wake up at the same time.
func atOnce(call func(k uint32)) {
	var done sync.WaitGroup
	var ready atomic.Int32
	for k := range uint32(askers) {
		done.Go(func() {
			ready.Add(1)
			for ready.Load() < askers {
				runtime.Gosched()
			}
			call(k)
		})
	}
	done.Wait()
}

// P9.1

func TestCipherIsTheOneThatWasGiven(t *testing.T) {
	made, again, zero := fast.New(sample(1)), fast.New(sample(1)), &fast.Cipher{}
	for name, c := range map[string]*fast.Cipher{"made": made, "made again": again, "zero": zero, "nil": nil} {
		x := table.New(c)
		for range 2 {
			if got := x.Cipher(); got != c {
				t.Errorf("the table of the %s Cipher has the Cipher %p, want %p", name, got, c)
			}
		}
		x.Star()
		x.For(8)
		if got := x.Cipher(); got != c {
			t.Errorf("after its use, the table of the %s Cipher has the Cipher %p, want %p", name, got, c)
		}
	}
}

func TestCipherOfANilTable(t *testing.T) {
	var none *table.Table
	for range 2 {
		if got := none.Cipher(); got != nil {
			t.Errorf("a nil Table has the Cipher %p", got)
		}
	}
}

func TestNewReturnsATable(t *testing.T) {
	for name, c := range map[string]*fast.Cipher{"made": fast.New(sample(1)), "zero": {}, "nil": nil} {
		if table.New(c) == nil {
			t.Errorf("New returned no Table for the %s Cipher", name)
		}
	}
}

func TestStarOfZeroBytes(t *testing.T) {
	for name, x := range unkeyed() {
		if got := x.Star(); got[0] != 0x66 || got[1] != 0xe9 || got[2] != 0x4b {
			t.Errorf("%s: Star() = %x", name, got)
		}
	}
}

func TestStarIsWhatTheCipherReturns(t *testing.T) {
	for _, key := range someKeys() {
		c := fast.New(key)
		x := table.New(c)
		if got, want := x.Star(), c.Encrypt(zeros); got != want {
			t.Errorf("%x: Star() = %x, want %x", key, got, want)
		}
		if got, want := x.Dollar(), block.Double(c.Encrypt(zeros)); got != want {
			t.Errorf("%x: Dollar() = %x, want %x", key, got, want)
		}
	}
}

// For each key there are the star block, the dollar block and the blocks 0, 1, 2,
// 31, 32, 62 and 63. They were computed with another program, by the AES and the
// big numbers of Go's library. The second key is that of RFC 7253.
func TestBlocksOfExamples(t *testing.T) {
	l := blocks(t, `
		00000000000000000000000000000000
		66e94bd4ef8a2c3b884cfa59ca342b2e cdd297a9df1458771099f4b39468565c 9ba52f53be28b0ee2133e96728d0ac3f
		374a5ea77c5161dc4267d2ce51a158f9 6e94bd4ef8a2c3b884cfa59ca342b1f2 df1458771099f4b394685638887632df
		be28b0ee2133e96728d0ac7110ec6539 884cfa59ca342b1c443b19594ba0d921 1099f4b394685638887632b29741b2c5
		000102030405060708090a0b0c0d0e0f
		c6a13b37878f5b826f4f8162a1c8d879 8d42766f0f1eb704de9f02c54391b075 1a84ecde1e3d6e09bd3e058a8723606d
		3509d9bc3c7adc137a7c0b150e46c0da 6a13b37878f5b826f4f8162a1c8d81b4 0f1eb704de9f02c54391b03003f4748d
		1e3d6e09bd3e058a8723606007e8e91a 6f4f8162a1c8d81801fa3a455101438e de9f02c54391b03003f4748aa202871c
		2b7e151628aed2a6abf7158809cf4f3c
		7df76b0c1ab899b33e42f047b91b546f fbeed618357133667c85e08f7236a8de f7ddac306ae266ccf90bc11ee46d513b
		efbb5860d5c4cd99f217823dc8daa2f1 df76b0c1ab899b33e42f047b91b54565 357133667c85e08f7236a8a114e32e48
		6ae266ccf90bc11ee46d514229c65c90 3e42f047b91b54508a71972919671599 7c85e08f7236a8a114e32e5232ce2b32`)
	for ; len(l) > 0; l = l[10:] {
		x := table.New(fast.New(l[0]))
		got := [9][16]byte{x.Star(), x.Dollar(), x.At(0), x.At(1), x.At(2), x.At(31), x.At(32), x.At(62), x.At(63)}
		if want := [9][16]byte(l[1:10]); got != want {
			t.Errorf("%x: the blocks are %x, want %x", l[0], got, want)
		}
	}
}

func TestTablesOfManyKeys(t *testing.T) {
	for _, key := range someKeys() {
		check(t, "made", table.New(fast.New(key)), key)
	}
}

func TestTablesOfTheKeyOfZeroBytes(t *testing.T) {
	for name, x := range unkeyed() {
		check(t, name, x, zeros)
	}
}

// P9.2

func TestEachBlockIsTheDoubleOfTheOneBefore(t *testing.T) {
	for _, key := range someKeys() {
		x := table.New(fast.New(key))
		last := x.Star()
		for i, b := range append([][16]byte{x.Dollar()}, all(x)...) {
			if want := double(last); b != want || block.Double(last) != b {
				t.Errorf("%x: the block %d is %x, want %x", key, i-1, b, want)
			}
			last = b
		}
	}
}

// all are the blocks from 0 on.
func all(x *table.Table) [][16]byte {
	var l [][16]byte
	for i := range 64 {
		l = append(l, x.At(i))
	}
	return l
}

func TestBlocksAreAllDifferent(t *testing.T) {
	for _, key := range someKeys() {
		x := table.New(fast.New(key))
		met := map[[16]byte]bool{zeros: true, x.Star(): true, x.Dollar(): true}
		for i, b := range all(x) {
			if met[b] {
				t.Errorf("%x: the block %d, %x, is another one too, or zero bytes", key, i, b)
			}
			met[b] = true
		}
	}
}

func TestAtOfIndicesWithoutABlock(t *testing.T) {
	l := unkeyed()
	l["made"] = table.New(fast.New(sample(2)))
	for name, x := range l {
		for _, i := range outside() {
			if got := x.At(i); got != zeros {
				t.Errorf("%s: At(%d) = %x, want zero bytes", name, i, got)
			}
		}
	}
}

func TestAtInAnyOrder(t *testing.T) {
	key := sample(3)
	x, m := table.New(fast.New(key)), modelOf(key)
	for k := range 1000 {
		i := k*37%70 - 3
		if got, want := x.At(i), m.at(i); got != want {
			t.Errorf("At(%d) = %x, want %x", i, got, want)
		}
	}
}

func TestForOfZero(t *testing.T) {
	l := unkeyed()
	l["made"] = table.New(fast.New(sample(4)))
	for name, x := range l {
		if got := x.For(0); got != zeros {
			t.Errorf("%s: For(0) = %x, want zero bytes", name, got)
		}
	}
}

func TestForOfExamples(t *testing.T) {
	key := sample(5)
	x, m := table.New(fast.New(key)), modelOf(key)
	for _, e := range []struct {
		n uint64
		i int
	}{
		{1, 0}, {2, 1}, {3, 0}, {4, 2}, {5, 0}, {6, 1}, {7, 0}, {8, 3}, {12, 2}, {48, 4}, {80, 4}, {96, 5},
		{1 << 31, 31}, {1 << 32, 32}, {3 << 32, 32}, {1 << 62, 62}, {3 << 62, 62}, {1 << 63, 63},
		{1<<63 | 1, 0}, {1<<63 | 1<<40, 40}, {math.MaxUint64, 0}, {math.MaxUint64 - 1, 1}, {math.MaxInt64, 0}, {0xfffffffffffff000, 12},
	} {
		if got, want := x.For(e.n), m.blocks[e.i]; got != want || got != x.At(e.i) {
			t.Errorf("For(%#x) = %x, want %x, the block %d", e.n, got, want, e.i)
		}
	}
}

func TestForOfManyNumbers(t *testing.T) {
	l := unkeyed()
	l["made"] = table.New(fast.New(sample(6)))
	for name, x := range l {
		m := modelOf(zeros)
		if name == "made" {
			m = modelOf(sample(6))
		}
		for _, n := range someNumbers() {
			if got, want := x.For(n), m.forNumber(n); got != want {
				t.Errorf("%s: For(%#x) = %x, want %x", name, n, got, want)
			}
		}
	}
}

// P9.3

func TestForOfOddNumbersIsTheBlock0(t *testing.T) {
	for _, key := range someKeys() {
		x := table.New(fast.New(key))
		want := x.At(0)
		for _, n := range someNumbers() {
			if got := x.For(n | 1); got != want {
				t.Errorf("%x: For(%#x) = %x, want %x, the block 0", key, n|1, got, want)
			}
		}
	}
}

func TestForOfTwiceANumberIsTheDouble(t *testing.T) {
	for _, key := range someKeys()[:20] {
		x := table.New(fast.New(key))
		for _, n := range someNumbers() {
			if n == 0 || n > math.MaxUint64/2 {
				continue
			}
			if got, want := x.For(2*n), double(x.For(n)); got != want {
				t.Errorf("%x: For(%#x) = %x, want %x, the double for %#x", key, 2*n, got, want, n)
			}
		}
	}
}

func TestForOfTwiceANumberThatOverflows(t *testing.T) {
	x := table.New(fast.New(sample(7)))
	half := uint64(1) << 63
	if got := x.For(2 * half); got != zeros {
		t.Errorf("For(%#x) = %x, want zero bytes", 2*half, got)
	}
	if got, want := x.For(2*(half+1)), x.At(1); got != want {
		t.Errorf("For(%#x) = %x, want %x", 2*(half+1), got, want)
	}
}

// The Rules

func TestTablesSideBySide(t *testing.T) {
	keys := someKeys()[:40]
	var l []*table.Table
	for _, key := range keys {
		l = append(l, table.New(fast.New(key)))
	}
	for range 2 {
		for i, x := range l {
			check(t, "made", x, keys[i])
		}
		check(t, "nil", nil, zeros)
	}
}

func TestTablesOfOneCipher(t *testing.T) {
	c := fast.New(sample(8))
	a, b := table.New(c), table.New(c)
	check(t, "the first", a, sample(8))
	check(t, "the second", b, sample(8))
	if a.Cipher() != c || b.Cipher() != c {
		t.Errorf("two tables of the Cipher %p have the Ciphers %p and %p", c, a.Cipher(), b.Cipher())
	}
}

func TestCipherStaysAsItIs(t *testing.T) {
	zero := &fast.Cipher{}
	for key, c := range map[[16]byte]*fast.Cipher{sample(9): fast.New(sample(9)), zeros: zero} {
		x := table.New(c)
		check(t, "used", x, key)
		if got := x.Cipher().Key(); got != key {
			t.Errorf("the Cipher of a table has the key %x, want %x", got, key)
		}
		for seed := range uint32(20) {
			b := sample(seed)
			if got, want := c.Encrypt(b), cipher.Encrypt(key, b); got != want {
				t.Errorf("%x: after a table was made, Encrypt(%x) = %x, want %x", key, b, got, want)
			}
		}
	}
	if *zero != (fast.Cipher{}) {
		t.Error("New has changed a zero Cipher")
	}
}

func TestCipherThatTheCallerUses(t *testing.T) {
	c := fast.New(sample(10))
	x := table.New(c)
	c.All(c.Encrypt(sample(1)), c.Decrypt(sample(2)))
	x.Cipher().Encrypt(sample(3))
	check(t, "used", x, sample(10))
}

// The blocks are those of the Cipher as New was given it.
func TestCipherThatTheCallerChanges(t *testing.T) {
	c := fast.New(sample(11))
	x := table.New(c)
	*c = *fast.New(sample(12))
	check(t, "changed", x, sample(11))
	if got := x.Cipher(); got != c {
		t.Errorf("after a change of the Cipher %p, the table has the Cipher %p", c, got)
	}
}

func TestBlocksThatTheCallerChanges(t *testing.T) {
	l := unkeyed()
	l["made"] = table.New(fast.New(sample(13)))
	for name, x := range l {
		key := zeros
		if name == "made" {
			key = sample(13)
		}
		for _, b := range append(all(x), x.Star(), x.Dollar(), x.At(-1), x.At(64), x.For(0), x.For(6)) {
			for i := range b {
				b[i] ^= 0xff
			}
		}
		star, dollar, first, last, none := x.Star(), x.Dollar(), x.At(0), x.For(1<<63), x.For(0)
		for _, b := range []*[16]byte{&star, &dollar, &first, &last, &none} {
			for i := range b {
				b[i] ^= 0xff
			}
		}
		check(t, name, x, key)
	}
}

func TestOneTableOfSeveralGoroutines(t *testing.T) {
	l := unkeyed()
	l["made"] = table.New(fast.New(sample(14)))
	for name, x := range l {
		key, c := zeros, x.Cipher()
		if name == "made" {
			key = sample(14)
		}
		atOnce(func(uint32) {
			for range 5 {
				check(t, name, x, key)
			}
			if got := x.Cipher(); got != c {
				t.Errorf("%s: the Cipher is %p, want %p", name, got, c)
			}
		})
	}
}

func TestTablesOfOneCipherOfSeveralGoroutines(t *testing.T) {
	c := fast.New(sample(15))
	atOnce(func(uint32) {
		x := table.New(c)
		check(t, "made", x, sample(15))
		if got := x.Cipher(); got != c {
			t.Errorf("the Cipher is %p, want %p", got, c)
		}
	})
}

func TestTablesOfSeveralGoroutines(t *testing.T) {
	atOnce(func(k uint32) {
		for seed := range uint32(5) {
			key := sample(20*k + seed + 100)
			check(t, "made", table.New(fast.New(key)), key)
		}
	})
}
