package offset_test

import (
	"encoding/hex"
	"math"
	"math/big"
	"runtime"
	"strings"
	"sync"
	"sync/atomic"
	"testing"

	"mooring/block"
	"mooring/cipher"
	"mooring/fast"
	"mooring/offset"
	"mooring/table"
)

// askers is how many goroutines ask at the same time.
const askers = 16

// most is the greatest index of an offset that the chapter names.
const most = 1 << 20

// zeros is the block and the key of zero bytes.
var zeros [16]byte

// published is the key of the examples of RFC 7253.
var published = [16]byte{0, 1, 2, 3, 4, 5, 6, 7, 8, 9, 10, 11, 12, 13, 14, 15}

// model makes offsets of a key as the chapter defines them.
type model struct {
	key    [16]byte
	blocks [64][16]byte
}

// modelOf encrypts step by step, and not with the cipher of a table.
func modelOf(key [16]byte) model {
	m := model{key: key}
	last := double(cipher.Encrypt(key, zeros))
	for i := range m.blocks {
		last = double(last)
		m.blocks[i] = last
	}
	return m
}

// top takes the bottom away from the number of the nonce block.
func (m model) top(nonce [12]byte) [16]byte {
	n := new(big.Int).SetBytes(append([]byte{0, 0, 0, 1}, nonce[:]...))
	n.Sub(n, big.NewInt(bottom(nonce)))
	return cipher.Encrypt(m.key, blockOf(n))
}

// start divides the number of the stretched top by a power of 2.
func (m model) start(nonce [12]byte) [16]byte {
	n := stretched(m.top(nonce))
	return blockOf(n.Rsh(n, uint(64-bottom(nonce))))
}

// forNumber halves the number until it is odd.
func (m model) forNumber(n uint64) [16]byte {
	if n == 0 {
		return zeros
	}
	i := 0
	for n%2 == 0 {
		n, i = n/2, i+1
	}
	return m.blocks[i]
}

// next adds the block for a number.
func (m model) next(last [16]byte, i uint64) [16]byte {
	return sum(last, m.forNumber(i))
}

// offsets are those from 0 to n.
func (m model) offsets(nonce [12]byte, n int) [][16]byte {
	l := [][16]byte{m.start(nonce)}
	for i := range n {
		l = append(l, m.next(l[i], uint64(i+1)))
	}
	return l
}

// bottom is the remainder of the number of a nonce.
func bottom(nonce [12]byte) int64 {
	n := new(big.Int).SetBytes(nonce[:])
	return n.Mod(n, big.NewInt(64)).Int64()
}

// stretched is the number of a stretched block. The bytes 1 to 8 of the block are
// its bytes 0 to 7, one byte later.
func stretched(b [16]byte) *big.Int {
	n := new(big.Int).SetBytes(b[:])
	end := new(big.Int).Xor(new(big.Int).SetBytes(b[0:8]), new(big.Int).SetBytes(b[1:9]))
	return n.Add(n.Lsh(n, 64), end)
}

// blockOf is the block of the last 128 bits of a number.
func blockOf(n *big.Int) [16]byte {
	var b [16]byte
	new(big.Int).Mod(n, new(big.Int).Lsh(big.NewInt(1), 128)).FillBytes(b[:])
	return b
}

// double is the double of a block, by its number.
func double(b [16]byte) [16]byte {
	n := new(big.Int).SetBytes(b[:])
	n.Lsh(n, 1)
	d := blockOf(n)
	if n.Bit(128) == 1 {
		d[15] ^= 0x87
	}
	return d
}

// sum is the exclusive or of two blocks, by their numbers.
func sum(a, b [16]byte) [16]byte {
	n := new(big.Int).SetBytes(a[:])
	return blockOf(n.Xor(n, new(big.Int).SetBytes(b[:])))
}

// blocks reads blocks that are written as hexadecimal numbers.
func blocks(t *testing.T, text string) [][16]byte {
	t.Helper()
	var l [][16]byte
	for _, number := range strings.Fields(text) {
		b, err := hex.DecodeString(number)
		if err != nil || len(b) != 16 {
			t.Fatalf("%s has %d bytes, %v", number, len(b), err)
		}
		l = append(l, [16]byte(b))
	}
	return l
}

// sample returns a block without any regularity that a sum could keep.
func sample(seed uint32) [16]byte {
	var b [16]byte
	x := seed*2654435761 + 1
	for i := range b {
		x = x*1664525 + 1013904223
		b[i] = byte(x >> 24)
	}
	return b
}

// nonceOf returns a nonce with the given bottom, and no regularity above it.
func nonceOf(seed uint32, bottom int) [12]byte {
	b := sample(seed + 1000)
	n := [12]byte(b[:12])
	n[11] = n[11]&0xc0 | byte(bottom)
	return n
}

// someKeys are all different.
func someKeys() [][16]byte {
	l := [][16]byte{zeros, published}
	for seed := range uint32(20) {
		l = append(l, sample(seed))
	}
	return l
}

// someNonces are the ends, those with one bit 1 or one bit 0, and ones without any
// regularity.
func someNonces() [][12]byte {
	l := [][12]byte{{}, full()}
	for bit := range 96 {
		one, others := [12]byte{}, full()
		one[bit/8] ^= 0x80 >> (bit % 8)
		others[bit/8] ^= 0x80 >> (bit % 8)
		l = append(l, one, others)
	}
	for seed := range uint32(64) {
		l = append(l, nonceOf(seed, int(seed)))
	}
	return l
}

// full is the greatest nonce.
func full() [12]byte {
	var n [12]byte
	for i := range n {
		n[i] = 0xff
	}
	return n
}

// someBlocks have each bit alone, each bit as the only 0, the ends, and no
// regularity.
func someBlocks() [][16]byte {
	others := [16]byte{}
	for i := range others {
		others[i] = 0xff
	}
	l := [][16]byte{zeros, others, published}
	for bit := range 128 {
		one, none := zeros, others
		one[bit/8] ^= 0x80 >> (bit % 8)
		none[bit/8] ^= 0x80 >> (bit % 8)
		l = append(l, one, none)
	}
	for seed := range uint32(200) {
		l = append(l, sample(seed))
	}
	return l
}

// someNumbers have each bit alone, each bit as the lowest one below others, and
// the ends.
func someNumbers() []uint64 {
	l := []uint64{0, math.MaxUint64, math.MaxUint64 - 1, math.MaxInt64, math.MaxUint32, 0xaaaaaaaaaaaaaaaa, 0x5555555555555555}
	for i := range 64 {
		bit := uint64(1) << i
		l = append(l, bit, bit-1, bit+1, ^bit, -bit, 1<<63|bit, bit|bit<<1, bit|bit<<7, 0xdeadbeefcafef00d<<i)
	}
	for n := range uint64(100) {
		l = append(l, n)
	}
	return l
}

// negative are indices that are less than 0, also those that are not where only
// some of their bits are looked at.
func negative() []int {
	l := []int{-1, -2, -3, -4, -63, -64, -65, -128, -255, -256, -1000, -1 << 16, -1<<16 + 3, -most, -most + 1}
	return append(l, math.MinInt32, math.MinInt32+1, math.MinInt32+3, math.MinInt, math.MinInt+1, math.MinInt+3, math.MinInt+most)
}

// sides are Tables, each with its key.
type sides map[string]struct {
	x   *table.Table
	key [16]byte
}

// someTables have a nil Table, and Tables of a nil Cipher, of a zero one, and of
// several keys. The first three have the key of zero bytes.
func someTables() sides {
	return sides{
		"nil Table":            {nil, zeros},
		"table of nil":         {table.New(nil), zeros},
		"table of a zero one":  {table.New(&fast.Cipher{}), zeros},
		"table of zero bytes":  {made(zeros), zeros},
		"table of RFC 7253":    {made(published), published},
		"table of some key":    {made(sample(1)), sample(1)},
		"table of another key": {made(sample(2)), sample(2)},
	}
}

// made is the table of a key.
func made(key [16]byte) *table.Table {
	return table.New(fast.New(key))
}

// check says what of some offsets of a nonce is wrong for a key, if anything is.
func check(t *testing.T, name string, x *table.Table, key [16]byte, nonce [12]byte) {
	t.Helper()
	m := modelOf(key)
	if got, want := offset.Bottom(nonce), int(bottom(nonce)); got != want {
		t.Errorf("Bottom(%x) = %d, want %d", nonce, got, want)
	}
	if got, want := offset.Top(x, nonce), m.top(nonce); got != want {
		t.Errorf("%s: Top(%x) = %x, want %x", name, nonce, got, want)
	}
	l := m.offsets(nonce, 20)
	if got := offset.Start(x, nonce); got != l[0] {
		t.Errorf("%s: Start(%x) = %x, want %x", name, nonce, got, l[0])
	}
	for i, want := range l {
		if got := offset.At(x, nonce, i); got != want {
			t.Errorf("%s: At(%x, %d) = %x, want %x", name, nonce, i, got, want)
		}
		if i == 0 {
			continue
		}
		if got := offset.Next(x, l[i-1], uint64(i)); got != want {
			t.Errorf("%s: Next(%x, %d) = %x, want %x", name, l[i-1], i, got, want)
		}
	}
}

// checkStretch says what of a stretched block is wrong, if anything is.
func checkStretch(t *testing.T, b [16]byte) {
	t.Helper()
	var want [24]byte
	stretched(b).FillBytes(want[:])
	if got := offset.Stretch(b); got != want {
		t.Errorf("Stretch(%x) = %x, want %x", b, got, want)
	}
}

// atOnce calls in many goroutines. They wait for each other without sleeping, as
// they would not wake up at the same time.
func atOnce(call func(k uint32)) {
	var done sync.WaitGroup
	var ready atomic.Int32
	for k := range uint32(askers) {
		done.Go(func() {
			ready.Add(1)
			for ready.Load() < askers {
				runtime.Gosched()
			}
			call(k)
		})
	}
	done.Wait()
}

// P10.1

func TestBottomOfExamples(t *testing.T) {
	for last, want := range map[byte]int{0: 0, 1: 1, 0x20: 32, 0x3e: 62, 0x3f: 63, 0x40: 0, 0x41: 1, 0x7f: 63, 0x80: 0, 0x81: 1, 0xc0: 0, 0xc1: 1, 0xff: 63} {
		for _, n := range [][12]byte{{}, full(), nonceOf(1, 0)} {
			n[11] = last
			if got := offset.Bottom(n); got != want {
				t.Errorf("Bottom(%x) = %d, want %d", n, got, want)
			}
		}
	}
}

func TestBottomOfAllLastBytes(t *testing.T) {
	for last := range 256 {
		for _, n := range [][12]byte{{}, full(), nonceOf(2, 0)} {
			n[11] = byte(last)
			if got, want := offset.Bottom(n), last%64; got != want {
				t.Errorf("Bottom(%x) = %d, want %d", n, got, want)
			}
		}
	}
}

func TestBottomOfManyNonces(t *testing.T) {
	for _, n := range someNonces() {
		if got, want := offset.Bottom(n), int(bottom(n)); got != want {
			t.Errorf("Bottom(%x) = %d, want %d", n, got, want)
		}
	}
}

func TestTopIsAnEncryptedBlock(t *testing.T) {
	key := sample(3)
	x := made(key)
	for _, e := range []struct {
		nonce [12]byte
		whole [16]byte
	}{
		{[12]byte{}, [16]byte{3: 1}},
		{[12]byte{11: 0x3f}, [16]byte{3: 1}},
		{[12]byte{11: 0x40}, [16]byte{3: 1, 15: 0x40}},
		{[12]byte{11: 0xc0}, [16]byte{3: 1, 15: 0xc0}},
		{[12]byte{11: 0xff}, [16]byte{3: 1, 15: 0xc0}},
		{[12]byte{10: 0xff, 11: 0x81}, [16]byte{3: 1, 14: 0xff, 15: 0x80}},
		{[12]byte{0xff, 0xfe}, [16]byte{0, 0, 0, 1, 0xff, 0xfe}},
		{[12]byte{1, 2, 3, 4, 5, 6, 7, 8, 9, 10, 11, 0x52}, [16]byte{0, 0, 0, 1, 1, 2, 3, 4, 5, 6, 7, 8, 9, 10, 11, 0x40}},
	} {
		if got, want := offset.Top(x, e.nonce), cipher.Encrypt(key, e.whole); got != want {
			t.Errorf("Top(%x) = %x, want %x, the encrypted block of %x", e.nonce, got, want, e.whole)
		}
		if got, want := offset.Top(x, e.nonce), x.Cipher().Encrypt(e.whole); got != want {
			t.Errorf("Top(%x) = %x, want %x by the cipher of the table", e.nonce, got, want)
		}
	}
}

func TestTopOfManyNonces(t *testing.T) {
	for name, e := range someTables() {
		m := modelOf(e.key)
		for _, n := range someNonces() {
			if got, want := offset.Top(e.x, n), m.top(n); got != want {
				t.Errorf("%s: Top(%x) = %x, want %x", name, n, got, want)
			}
		}
	}
}

func TestTopOfNoncesThatDifferAboveTheBottom(t *testing.T) {
	for name, e := range someTables() {
		n := nonceOf(4, 29)
		met := map[[16]byte]bool{offset.Top(e.x, n): true}
		for bit := range 90 {
			other := n
			other[bit/8] ^= 0x80 >> (bit % 8)
			top := offset.Top(e.x, other)
			if met[top] {
				t.Errorf("%s: Top(%x) = %x, which is another top too", name, other, top)
			}
			met[top] = true
		}
	}
}

func TestStretchOfExamples(t *testing.T) {
	for _, e := range []struct {
		b    [16]byte
		want [24]byte
	}{
		{},
		{[16]byte{0: 1}, [24]byte{0: 1, 16: 1}},
		{[16]byte{1: 0x80}, [24]byte{1: 0x80, 16: 0x80, 17: 0x80}},
		{[16]byte{7: 5}, [24]byte{7: 5, 22: 5, 23: 5}},
		{[16]byte{8: 5}, [24]byte{8: 5, 23: 5}},
		{[16]byte{9: 5}, [24]byte{9: 5}},
		{[16]byte{15: 0xff}, [24]byte{15: 0xff}},
		{[16]byte{7: 0x0f, 8: 0x0f}, [24]byte{7: 0x0f, 8: 0x0f, 22: 0x0f}},
		{[16]byte{7: 0x0f, 8: 0x3c}, [24]byte{7: 0x0f, 8: 0x3c, 22: 0x0f, 23: 0x33}},
		{[16]byte{7: 0xff, 8: 0xfe}, [24]byte{7: 0xff, 8: 0xfe, 22: 0xff, 23: 1}},
		{
			[16]byte{1, 2, 4, 8, 16, 32, 64, 128, 0, 1, 2, 3, 4, 5, 6, 7},
			[24]byte{1, 2, 4, 8, 16, 32, 64, 128, 0, 1, 2, 3, 4, 5, 6, 7, 3, 6, 12, 24, 48, 96, 192, 128},
		},
	} {
		if got := offset.Stretch(e.b); got != e.want {
			t.Errorf("Stretch(%x) = %x, want %x", e.b, got, e.want)
		}
	}
}

func TestStretchOfManyBlocks(t *testing.T) {
	for _, b := range someBlocks() {
		checkStretch(t, b)
	}
}

func TestStretchOfBlocksWhoseMiddleDiffers(t *testing.T) {
	for seed := range uint32(20) {
		b := sample(seed)
		for k := range 256 {
			b[7], b[8] = byte(k), byte(k*k+1)
			checkStretch(t, b)
		}
	}
}

// P10.2

// For each key there are a nonce block, and the top, and the offsets 0, 1, 2, 1000
// and 2^20 of the nonce. They were computed with another program, by the AES and
// the big numbers of Go's library.
func TestOffsetsOfExamples(t *testing.T) {
	l := blocks(t, `
		00000000000000000000000000000000 00000001000000000000000000000000
		ee944b2fe6e9fc888042608da9615f75 ee944b2fe6e9fc888042608da9615f75 7531647c58c14c66a17189ea81b1f34a
		427b3adb24902dbae3165b24d010abb3 ad25debb5ce46ae179fed60b60f4a829 613258e16f7ae6295d09ab020df8d694
		000102030405060708090a0b0c0d0e0f 00000001bbaa99887766554433221147
		40223492567ad75bfd746a29d28eb3a0 111a492b3d6badfeba3514e94759d031 0b9ea5f52356c3f7070b1163c07ab05c
		3e977c491f2c1fe47d771a76ce3c7086 0eb9ed7e2d7f967408d66331563994b1 ba0b5b16adbd97eecec95fc4425991ae
		2b7e151628aed2a6abf7158809cf4f3c 00000001ffffffffffffffffffffffff
		b7e0b756f60e7a8734e24307d31e88c8 9a712183e98f44642babf0d07c3a7ed9 6dac8db3836d22a8d2a031ce98572fe2
		8217d5d356a9ef3120b7b3f3508d8d13 3d6853127ffe1c0d80e4d07a529221e1 38f4d8b6b3271c8632b2956fe209acdc
		2b7e151628aed2a6abf7158809cf4f3c 000000018000000000000000000000c1
		9e67aa15dc20265368e1055642941f23 3ccf542bb8404ca6d1c20aac85283e47 cb12f81bd2a22a6a28c9cbb261456f7c
		24a9a07b0766e7f3dade498fa99fcd8d 9bd626ba2e3114cf7a8d2a06ab80617f 9e4aad1ee2e81444c8db6f131b1bec42`)
	for ; len(l) > 0; l = l[8:] {
		x, n := made(l[0]), [12]byte(l[1][4:])
		got := [6][16]byte{offset.Top(x, n), offset.Start(x, n), offset.At(x, n, 1), offset.At(x, n, 2), offset.At(x, n, 1000), offset.At(x, n, most)}
		if want := [6][16]byte(l[2:8]); got != want {
			t.Errorf("%x, %x: the top and the offsets are %x, want %x", l[0], n, got, want)
		}
	}
}

// RFC 7253 prints the tag of no bytes, which is the encrypted block of the offset 0
// and the dollar block.
func TestOffsetOfThePublishedTag(t *testing.T) {
	x := made(published)
	n := [12]byte{0xbb, 0xaa, 0x99, 0x88, 0x77, 0x66, 0x55, 0x44, 0x33, 0x22, 0x11, 0}
	want := blocks(t, "785407bfffc8ad9edcc5520ac9111ee6")[0]
	if got := cipher.Encrypt(published, sum(offset.Start(x, n), x.Dollar())); got != want {
		t.Errorf("the tag of the nonce %x is %x, want %x", n, got, want)
	}
}

// RFC 7253 prints ciphertexts. The offset i hides the block i before and after it is
// encrypted, and the plaintexts have the bytes 0, 1, 2 and so on.
func TestOffsetsOfPublishedCiphertexts(t *testing.T) {
	x := made(published)
	for last, text := range map[byte]string{
		0x04: "571d535b60b277188be5147170a9a22c",
		0x06: "5ce88ec2e0692706a915c00aeb8b2396",
		0x07: "1ca2207308c87c010756104d8840ce19",
		0x09: "221bd0de7fa6fe993eccd769460a0af2",
		0x0a: "bd6f6c496201c69296c11efd138a467a bd3c707924b964deaffc40319af5a485",
		0x0c: "2942bfc773bda23cabc6acfd9bfd5835 bd300f0973792ef46040c53f1432bcdf",
		0x0d: "d5ca91748410c1751ff8a2f618255b68 a0a12e093ff454606e59f9c1d0ddc54b",
		0x0f: "4412923493c57d5de0d700f753cce0d1 d2d95060122e9f15a5ddbfc5787e50b5",
	} {
		n := [12]byte{0xbb, 0xaa, 0x99, 0x88, 0x77, 0x66, 0x55, 0x44, 0x33, 0x22, 0x11, last}
		for k, want := range blocks(t, text) {
			plain := published
			for i := range plain {
				plain[i] += byte(16 * k)
			}
			o := offset.At(x, n, k+1)
			if got := sum(o, cipher.Encrypt(published, sum(o, plain))); got != want {
				t.Errorf("the nonce %x: with the offset %d, %x, the ciphertext has %x, want %x", n, k+1, o, got, want)
			}
		}
	}
}

func TestStartForEveryBottom(t *testing.T) {
	for name, e := range someTables() {
		m := modelOf(e.key)
		for seed := range uint32(4) {
			for bottom := range 64 {
				n := nonceOf(seed, bottom)
				got, want := offset.Start(e.x, n), m.start(n)
				if got != want {
					t.Errorf("%s: Start(%x) = %x, want %x", name, n, got, want)
				}
				if want = block.Shift(offset.Stretch(m.top(n)), bottom); got != want {
					t.Errorf("%s: Start(%x) = %x, want %x, shifted by %d bits", name, n, got, want, bottom)
				}
			}
		}
	}
}

func TestStartOfABottomOf0IsTheTop(t *testing.T) {
	for name, e := range someTables() {
		for seed := range uint32(10) {
			n := nonceOf(seed, 0)
			if got, want := offset.Start(e.x, n), offset.Top(e.x, n); got != want {
				t.Errorf("%s: Start(%x) = %x, want %x, the top", name, n, got, want)
			}
		}
	}
}

func TestStartOfManyNonces(t *testing.T) {
	for name, e := range someTables() {
		m := modelOf(e.key)
		for _, n := range someNonces() {
			if got, want := offset.Start(e.x, n), m.start(n); got != want {
				t.Errorf("%s: Start(%x) = %x, want %x", name, n, got, want)
			}
		}
	}
}

func TestNextOfExamples(t *testing.T) {
	key := sample(5)
	x, m := made(key), modelOf(key)
	last := sample(6)
	for i, k := range map[uint64]int{
		1: 0, 2: 1, 3: 0, 4: 2, 6: 1, 12: 2, 80: 4, 96: 5, 1 << 20: 20, 1<<20 + 1: 0, 1 << 31: 31, 1 << 32: 32, 3 << 32: 32, 5 << 40: 40,
		1 << 62: 62, 1 << 63: 63, 1<<63 | 1<<40: 40, 0xfffffffffffff000: 12, math.MaxUint64 - 1: 1, math.MaxUint64: 0,
	} {
		if got, want := offset.Next(x, last, i), sum(last, m.blocks[k]); got != want {
			t.Errorf("Next(%x, %#x) = %x, want %x, with the block %d", last, i, got, want, k)
		}
		if got, want := offset.Next(x, zeros, i), x.At(k); got != want {
			t.Errorf("Next(%x, %#x) = %x, want %x, the block %d", zeros, i, got, want, k)
		}
	}
}

func TestNextOf0(t *testing.T) {
	for name, e := range someTables() {
		for _, last := range someBlocks() {
			if got := offset.Next(e.x, last, 0); got != last {
				t.Errorf("%s: Next(%x, 0) = %x", name, last, got)
			}
		}
	}
}

func TestNextOfManyNumbers(t *testing.T) {
	for name, e := range someTables() {
		m := modelOf(e.key)
		for k, i := range someNumbers() {
			last := sample(uint32(k))
			got := offset.Next(e.x, last, i)
			if want := m.next(last, i); got != want {
				t.Errorf("%s: Next(%x, %#x) = %x, want %x", name, last, i, got, want)
			}
			if back := offset.Next(e.x, got, i); back != last {
				t.Errorf("%s: Next twice, for %#x, makes %x of %x", name, i, back, last)
			}
		}
	}
}

func TestNextOfManyBlocks(t *testing.T) {
	x, m := made(sample(7)), modelOf(sample(7))
	for _, last := range someBlocks() {
		for _, i := range []uint64{1, 2, 24, 1 << 63} {
			if got, want := offset.Next(x, last, i), m.next(last, i); got != want {
				t.Errorf("Next(%x, %#x) = %x, want %x", last, i, got, want)
			}
		}
	}
}

func TestAtOf0IsStart(t *testing.T) {
	for name, e := range someTables() {
		for _, n := range someNonces() {
			if got, want := offset.At(e.x, n, 0), offset.Start(e.x, n); got != want {
				t.Errorf("%s: At(%x, 0) = %x, want %x", name, n, got, want)
			}
		}
	}
}

func TestAtOf1AddsTheBlock0(t *testing.T) {
	for name, e := range someTables() {
		m := modelOf(e.key)
		for _, n := range someNonces() {
			if got, want := offset.At(e.x, n, 1), sum(m.start(n), m.blocks[0]); got != want {
				t.Errorf("%s: At(%x, 1) = %x, want %x", name, n, got, want)
			}
		}
	}
}

func TestAtOfLessThan0IsStart(t *testing.T) {
	for name, e := range someTables() {
		for k, i := range negative() {
			n := nonceOf(uint32(k), 3*k)
			if got, want := offset.At(e.x, n, i), modelOf(e.key).start(n); got != want {
				t.Errorf("%s: At(%x, %d) = %x, want %x", name, n, i, got, want)
			}
		}
	}
}

func TestAtInOrder(t *testing.T) {
	for name, e := range someTables() {
		n := nonceOf(8, 45)
		for i, want := range modelOf(e.key).offsets(n, 600) {
			if got := offset.At(e.x, n, i); got != want {
				t.Errorf("%s: At(%x, %d) = %x, want %x", name, n, i, got, want)
			}
		}
	}
}

func TestAtIsNextOfTheOneBefore(t *testing.T) {
	for name, e := range someTables() {
		n := nonceOf(9, 17)
		for _, i := range []int{1, 2, 3, 4, 1000, 1023, 1024, 1025, 65535, 65536, 99999, most/2 - 1, most / 2, most/2 + 1, most - 1, most} {
			last := offset.At(e.x, n, i-1)
			if got, want := offset.At(e.x, n, i), offset.Next(e.x, last, uint64(i)); got != want {
				t.Errorf("%s: At(%x, %d) = %x, want %x, the next one of %x", name, n, i, got, want, last)
			}
		}
	}
}

// All indices are tried here, each with the sum of all blocks up to it.
func TestAtUpToTheGreatestIndex(t *testing.T) {
	key, n := sample(10), nonceOf(10, 63)
	x, m := made(key), modelOf(key)
	want := m.start(n)
	for i := 1; i <= most; i++ {
		b := m.forNumber(uint64(i))
		for k := range want {
			want[k] ^= b[k]
		}
		if got := offset.At(x, n, i); got != want {
			t.Fatalf("At(%x, %d) = %x, want %x", n, i, got, want)
		}
	}
}

func TestAtOfTheGreatestIndexOfManyTables(t *testing.T) {
	for name, e := range someTables() {
		m, n := modelOf(e.key), nonceOf(11, 1)
		want := sum(m.start(n), sum(m.blocks[19], m.blocks[20]))
		if got := offset.At(e.x, n, most); got != want {
			t.Errorf("%s: At(%x, 2^20) = %x, want %x", name, n, got, want)
		}
	}
}

func TestAtInAnyOrder(t *testing.T) {
	x, l := made(sample(12)), modelOf(sample(12)).offsets(nonceOf(12, 33), 999)
	for k := range 3000 {
		i := k * 377 % 1000
		if got := offset.At(x, nonceOf(12, 33), i); got != l[i] {
			t.Errorf("At(%d) = %x, want %x", i, got, l[i])
		}
	}
}

func TestOffsetsOfManyKeys(t *testing.T) {
	for k, key := range someKeys() {
		for seed := range uint32(3) {
			check(t, "made", made(key), key, nonceOf(seed, (7*k+int(seed))%64))
		}
	}
}

// P10.3

func TestTopOfNoncesThatDifferInTheBottom(t *testing.T) {
	for name, e := range someTables() {
		for seed := range uint32(10) {
			want := offset.Top(e.x, nonceOf(seed, 0))
			for bottom := range 64 {
				n := nonceOf(seed, bottom)
				if got := offset.Top(e.x, n); got != want {
					t.Errorf("%s: Top(%x) = %x, want %x, as with the bottom 0", name, n, got, want)
				}
			}
		}
	}
}

// One top makes 64 offsets that differ.
func TestStartOfNoncesThatDifferInTheBottom(t *testing.T) {
	for name, e := range someTables() {
		met := map[[16]byte]int{}
		for bottom := range 64 {
			o := offset.Start(e.x, nonceOf(13, bottom))
			if other, ok := met[o]; ok {
				t.Errorf("%s: the offset 0 is %x for the bottoms %d and %d", name, o, other, bottom)
			}
			met[o] = bottom
		}
	}
}

// The Rules

func TestTablesSideBySide(t *testing.T) {
	l := someTables()
	for round := range 3 {
		for name, e := range l {
			check(t, name, e.x, e.key, nonceOf(14, 20*round))
		}
	}
}

func TestCipherAndTableStayAsTheyAre(t *testing.T) {
	for name, e := range someTables() {
		c, star, dollar := e.x.Cipher(), e.x.Star(), e.x.Dollar()
		check(t, name, e.x, e.key, nonceOf(15, 15))
		offset.At(e.x, nonceOf(15, 16), most)
		if e.x.Cipher() != c || e.x.Cipher().Key() != e.key || e.x.Star() != star || e.x.Dollar() != dollar {
			t.Errorf("%s: after its use, the table has the Cipher %p of the key %x and the blocks %x and %x", name, e.x.Cipher(), e.x.Cipher().Key(), e.x.Star(), e.x.Dollar())
		}
		for i, want := range modelOf(e.key).blocks {
			if got := e.x.At(i); got != want {
				t.Errorf("%s: after its use, the table has the block %d %x, want %x", name, i, got, want)
			}
		}
	}
}

func TestArgumentsStayAsTheyAre(t *testing.T) {
	x := made(sample(16))
	n, b := nonceOf(16, 44), sample(17)
	offset.Bottom(n)
	offset.Top(x, n)
	offset.Start(x, n)
	offset.At(x, n, 5)
	offset.Stretch(b)
	offset.Next(x, b, 5)
	if n != nonceOf(16, 44) || b != sample(17) {
		t.Errorf("the arguments are %x and %x, and were %x and %x", n, b, nonceOf(16, 44), sample(17))
	}
}

func TestArgumentsAndResultsThatTheCallerChanges(t *testing.T) {
	for name, e := range someTables() {
		n, b := nonceOf(18, 9), sample(18)
		top, start, at, next, long := offset.Top(e.x, n), offset.Start(e.x, n), offset.At(e.x, n, 7), offset.Next(e.x, b, 7), offset.Stretch(b)
		kept := [][16]byte{top, start, at, next}
		for i := range n {
			n[i] ^= 0xff
		}
		for _, changed := range []*[16]byte{&b, &top, &start, &at, &next} {
			for i := range changed {
				changed[i] ^= 0xff
			}
		}
		for i := range long {
			long[i] ^= 0xff
		}
		check(t, name, e.x, e.key, nonceOf(18, 9))
		check(t, name, e.x, e.key, n)
		checkStretch(t, sample(18))
		checkStretch(t, b)
		n, b = nonceOf(18, 9), sample(18)
		for i, got := range [][16]byte{offset.Top(e.x, n), offset.Start(e.x, n), offset.At(e.x, n, 7), offset.Next(e.x, b, 7)} {
			if got != kept[i] {
				t.Errorf("%s: the result %d is %x, and was %x", name, i, got, kept[i])
			}
		}
	}
}

func TestOneTableOfSeveralGoroutines(t *testing.T) {
	for name, e := range someTables() {
		atOnce(func(k uint32) {
			check(t, name, e.x, e.key, nonceOf(19, 19))
			check(t, name, e.x, e.key, nonceOf(k, int(4*k)))
		})
	}
}

func TestTablesOfSeveralGoroutines(t *testing.T) {
	atOnce(func(k uint32) {
		for seed := range uint32(3) {
			key := sample(20*k + seed + 100)
			check(t, "made", made(key), key, nonceOf(k, int(20*seed+k)))
			checkStretch(t, key)
		}
	})
}
