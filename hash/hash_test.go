package hash_test

import (
	"bytes"
	"encoding/hex"
	"math/big"
	"runtime"
	"slices"
	"strings"
	"sync"
	"sync/atomic"
	"testing"

	"mooring/block"
	"mooring/cipher"
	"mooring/fast"
	"mooring/hash"
	"mooring/offset"
	"mooring/table"
)

// askers is how many goroutines ask at the same time.
const askers = 16

// most is the greatest number of bytes that the chapter names.
const most = 1 << 24

// zeros is the block and the key of zero bytes.
var zeros [16]byte

// published is the key of the examples of RFC 7253.
var published = [16]byte{0, 1, 2, 3, 4, 5, 6, 7, 8, 9, 10, 11, 12, 13, 14, 15}

// model makes hashes of a key as the chapter defines them.
type model struct {
	key    [16]byte
	star   [16]byte
	blocks [64][16]byte
}

// modelOf encrypts step by step, and not with the cipher of a table.
func modelOf(key [16]byte) model {
	m := model{key: key, star: cipher.Encrypt(key, zeros)}
	last := double(m.star)
	for i := range m.blocks {
		last = double(last)
		m.blocks[i] = last
	}
	return m
}

// forNumber halves the number until it is odd.
func (m model) forNumber(n int) [16]byte {
	i := 0
	for n%2 == 0 {
		n, i = n/2, i+1
	}
	return m.blocks[i]
}

// offset adds all blocks up to the one for the number n.
func (m model) offset(n int) [16]byte {
	o := zeros
	for i := range n {
		o = sum(o, m.forNumber(i+1))
	}
	return o
}

// part is what the sum has of the part n.
func (m model) part(n int, b [16]byte) [16]byte {
	return cipher.Encrypt(m.key, sum(b, m.offset(n)))
}

// rest is what the sum has of a rest that is not empty.
func (m model) rest(o [16]byte, rest []byte) [16]byte {
	return cipher.Encrypt(m.key, sum(sum(padded(rest), o), m.star))
}

// full is the sum of some parts.
func (m model) full(l [][16]byte) [16]byte {
	s := zeros
	for i, b := range l {
		s = sum(s, m.part(i+1, b))
	}
	return s
}

// hash takes the bytes apart.
func (m model) hash(data []byte) [16]byte {
	l, rest := apart(data)
	s := m.full(l)
	if len(rest) > 0 {
		s = sum(s, m.rest(m.offset(len(l)), rest))
	}
	return s
}

// apart are the parts of bytes, and their rest.
func apart(data []byte) (l [][16]byte, rest []byte) {
	for len(data) >= 16 {
		l, data = append(l, [16]byte(data)), data[16:]
	}
	return l, data
}

// padded is a rest, the byte 0x80, and as many zero bytes as there is room for.
func padded(rest []byte) [16]byte {
	l := append(slices.Clone(rest), 0x80)
	return [16]byte(append(l, make([]byte, 16-len(l))...))
}

// blockOf is the block of the last 128 bits of a number.
func blockOf(n *big.Int) [16]byte {
	var b [16]byte
	new(big.Int).Mod(n, new(big.Int).Lsh(big.NewInt(1), 128)).FillBytes(b[:])
	return b
}

// double is the double of a block, by its number.
func double(b [16]byte) [16]byte {
	n := new(big.Int).SetBytes(b[:])
	n.Lsh(n, 1)
	d := blockOf(n)
	if n.Bit(128) == 1 {
		d[15] ^= 0x87
	}
	return d
}

// sum is the exclusive or of two blocks.
func sum(a, b [16]byte) [16]byte {
	for i := range a {
		a[i] ^= b[i]
	}
	return a
}

// blocks reads blocks that are written as hexadecimal numbers.
func blocks(t *testing.T, text string) [][16]byte {
	t.Helper()
	var l [][16]byte
	for _, number := range strings.Fields(text) {
		b, err := hex.DecodeString(number)
		if err != nil || len(b) != 16 {
			t.Fatalf("%s has %d bytes, %v", number, len(b), err)
		}
		l = append(l, [16]byte(b))
	}
	return l
}

// bytesOf returns n bytes without any regularity that a sum could keep. Those of a
// smaller n are their first ones.
func bytesOf(seed uint32, n int) []byte {
	l := make([]byte, n)
	x := seed*2654435761 + 1
	for i := range l {
		x = x*1664525 + 1013904223
		l[i] = byte(x >> 24)
	}
	return l
}

// sample is such a block.
func sample(seed uint32) [16]byte {
	return [16]byte(bytesOf(seed, 16))
}

// partsOf are such parts.
func partsOf(seed uint32, n int) [][16]byte {
	l, _ := apart(bytesOf(seed, 16*n))
	return l
}

// count returns the bytes 0, 1, 2 and so on.
func count(n int) []byte {
	l := make([]byte, n)
	for i := range l {
		l[i] = byte(i)
	}
	return l
}

// same returns n bytes that are all b.
func same(b byte, n int) []byte {
	return bytes.Repeat([]byte{b}, n)
}

// someOffsets have each bit alone, the ends, and no regularity.
func someOffsets() [][16]byte {
	l := [][16]byte{zeros, [16]byte(same(0xff, 16)), published}
	for bit := range 128 {
		var one [16]byte
		one[bit/8] = 0x80 >> (bit % 8)
		l = append(l, one)
	}
	for seed := range uint32(20) {
		l = append(l, sample(seed+50))
	}
	return l
}

// sides are Tables, each with its key.
type sides map[string]struct {
	x   *table.Table
	key [16]byte
}

// someTables have a nil Table, and Tables of a nil Cipher, of a zero one, and of
// several keys. The first three have the key of zero bytes.
func someTables() sides {
	return sides{
		"nil Table":            {nil, zeros},
		"table of nil":         {table.New(nil), zeros},
		"table of a zero one":  {table.New(&fast.Cipher{}), zeros},
		"table of zero bytes":  {made(zeros), zeros},
		"table of RFC 7253":    {made(published), published},
		"table of some key":    {made(sample(1)), sample(1)},
		"table of another key": {made(sample(2)), sample(2)},
	}
}

// made is the table of a key.
func made(key [16]byte) *table.Table {
	return table.New(fast.New(key))
}

// check says what of the hash of some bytes, and of its parts, is wrong for a key,
// if anything is.
func check(t *testing.T, name string, x *table.Table, key [16]byte, data []byte) {
	t.Helper()
	m := modelOf(key)
	l, rest := apart(data)
	if got, want := hash.Sum(x, data), m.hash(data); got != want {
		t.Errorf("%s: the Sum of %d bytes is %x, want %x", name, len(data), got, want)
	}
	s, o := hash.Full(x, l...)
	if want := m.full(l); s != want {
		t.Errorf("%s: the sum of %d parts is %x, want %x", name, len(l), s, want)
	}
	if want := m.offset(len(l)); o != want {
		t.Errorf("%s: the offset after %d parts is %x, want %x", name, len(l), o, want)
	}
	checkRest(t, name, x, key, o, rest)
}

// checkRest says whether the block of a rest is wrong for a key.
func checkRest(t *testing.T, name string, x *table.Table, key, o [16]byte, rest []byte) {
	t.Helper()
	want := zeros
	if len(rest) > 0 && len(rest) < 16 {
		want = modelOf(key).rest(o, rest)
	}
	if got := hash.Rest(x, o, rest); got != want {
		t.Errorf("%s: Rest(%x, %x) = %x, want %x", name, o, rest, got, want)
	}
}

// atOnce calls in many goroutines. They wait for each other without sleeping, as
// they would not wake up at the same time.
func atOnce(call func(k uint32)) {
	var done sync.WaitGroup
	var ready atomic.Int32
	for k := range uint32(askers) {
		done.Go(func() {
			ready.Add(1)
			for ready.Load() < askers {
				runtime.Gosched()
			}
			call(k)
		})
	}
	done.Wait()
}

// P11.1

// They were computed with another program, by the AES and the big numbers of Go's
// library.
func TestSumOfExamples(t *testing.T) {
	numbers := []int{0, 1, 15, 16, 17, 31, 32, 33, 1000, 1 << 16, 1<<16 + 5}
	l := blocks(t, `
		00000000000000000000000000000000
		00000000000000000000000000000000 3784f51427245a226ef2089ae504641d
		4a984a2fcf3ee6bb6f43fbec9a4c12e6 80da5ca695a8ae35733ff30f003c46a6
		ec756cc67854efb9a3a8c1753812e57a 3c5892a309b5439773d7af0baf1c8f80
		b3be0068caf882698198cce5de4b3992 7930d479f84eefc78dabf140b055fe57
		7a81026dafc65cc8f91328dda53e6dfe daff003965801af128c39209171561e8
		3883e5ca0fdc0b61f07e58cabeb99089
		000102030405060708090a0b0c0d0e0f
		00000000000000000000000000000000 030c1119724d68981dc09d18f3348104
		1ef0750645f1ba58c01e7c52e3fce67a 7ed908eccde8783144930ef132d7bc73
		21e57bf02f74d28fb7318127db15e169 1744f74d4ec2697fec61ab06d92556e7
		9dc00fdd0f598ea55e2e3552d4b30a7c b647883005fece550591e62384270ae8
		8232b811bb51b4a92d4c2b5c9403fd7f b738fa3993d4762b640e977696495ec7
		73d93a8f0a4417ae618a3a70f8485dc9
		2b7e151628aed2a6abf7158809cf4f3c
		00000000000000000000000000000000 31dc493c56100f80184fd572aa88554b
		0be3a143f1bcb78d715aa2f970c1a650 3df2f2e85790e15879c9f2ee7b50db46
		53e0529fe2636f42c0358b5b501ca457 126608e39981381518be42437072cdda
		3f172814c6f87b25f204d330bb63a895 9d1f3424d9e8b73a5031cca396f51962
		9cbadb92a19d73585c3f0f19443662ca 724208ccc5744080622de58a55695747
		d11f0684e1a181b49e810b778b925088`)
	data := bytesOf(0, 1<<17)
	for ; len(l) > 0; l = l[1+len(numbers):] {
		x := made(l[0])
		for i, n := range numbers {
			if got, want := hash.Sum(x, data[:n]), l[1+i]; got != want {
				t.Errorf("the Sum of %d bytes for %x is %x, want %x", n, l[0], got, want)
			}
		}
	}
}

// The last ones are neither left out nor taken for others: the part 2^20 is the only
// one here with the block 20.
func TestSumOfVeryManyBytes(t *testing.T) {
	x, data := made(published), bytesOf(0, most)
	l := blocks(t, "bf23ff889af97595faa18610bf33eabb 9ba81372c10696d4057c8629964f8d4b")
	for i, n := range []int{most - 1, most} {
		if got := hash.Sum(x, data[:n]); got != l[i] {
			t.Errorf("the Sum of %d bytes is %x, want %x", n, got, l[i])
		}
	}
}

// RFC 7253 prints tags of no plaintext, with the data 0, 1, 2 and so on. They are
// the exclusive or of the hash of the data and the encrypted block of the offset 0
// and the dollar block.
func TestSumOfPublishedTags(t *testing.T) {
	x := made(published)
	for last, e := range map[byte]struct {
		n    int
		text string
	}{
		0x00: {0, "785407bfffc8ad9edcc5520ac9111ee6"},
		0x02: {8, "81017f8203f081277152fade694a0a00"},
		0x05: {16, "8cf761b6902ef764462ad86498ca6b97"},
		0x08: {24, "6dc225a071fc1b9f7c69f93b0f1e10de"},
		0x0b: {32, "fe80690bee8a485d11f32965bc9d2a32"},
		0x0e: {40, "c5cd9d1850c141e358649994ee701b68"},
	} {
		n := [12]byte{0xbb, 0xaa, 0x99, 0x88, 0x77, 0x66, 0x55, 0x44, 0x33, 0x22, 0x11, last}
		tag := sum(hash.Sum(x, count(e.n)), cipher.Encrypt(published, sum(offset.Start(x, n), x.Dollar())))
		if want := blocks(t, e.text)[0]; tag != want {
			t.Errorf("the tag of the nonce %x is %x, want %x", n, tag, want)
		}
	}
}

func TestSumOfNoBytes(t *testing.T) {
	for name, e := range someTables() {
		for _, data := range [][]byte{nil, {}, make([]byte, 0, 40), bytesOf(1, 40)[:0], bytesOf(1, 40)[40:]} {
			if got := hash.Sum(e.x, data); got != zeros {
				t.Errorf("%s: the Sum of no bytes is %x", name, got)
			}
		}
	}
}

func TestSumOfSomeParts(t *testing.T) {
	for name, e := range someTables() {
		m, l := modelOf(e.key), partsOf(3, 4)
		a := m.blocks
		offsets := [][16]byte{a[0], sum(a[0], a[1]), a[1], sum(a[1], a[2])}
		want := zeros
		for i, o := range offsets {
			want = sum(want, cipher.Encrypt(e.key, sum(l[i], o)))
			if got := hash.Sum(e.x, bytesOf(3, 16*(i+1))); got != want {
				t.Errorf("%s: the Sum of %d parts is %x, want %x", name, i+1, got, want)
			}
		}
	}
}

func TestSumOfARestAlone(t *testing.T) {
	for name, e := range someTables() {
		m := modelOf(e.key)
		for n := 1; n < 16; n++ {
			for seed := range uint32(5) {
				data := bytesOf(seed, n)
				want := cipher.Encrypt(e.key, sum(padded(data), m.star))
				if got := hash.Sum(e.x, data); got != want {
					t.Errorf("%s: the Sum of %x is %x, want %x", name, data, got, want)
				}
			}
		}
	}
}

func TestSumOfEveryNumberOfBytes(t *testing.T) {
	for name, e := range someTables() {
		m, data := modelOf(e.key), bytesOf(4, 400)
		full := zeros
		for n := range data {
			k := n / 16
			if n > 0 && n%16 == 0 {
				full = sum(full, m.part(k, [16]byte(data[n-16:n])))
			}
			want := full
			if n%16 > 0 {
				want = sum(full, m.rest(m.offset(k), data[16*k:n]))
			}
			if got := hash.Sum(e.x, data[:n]); got != want {
				t.Errorf("%s: the Sum of %d bytes is %x, want %x", name, n, got, want)
			}
		}
	}
}

func TestSumOfBytesThatAreAllTheSame(t *testing.T) {
	for name, e := range someTables() {
		m := modelOf(e.key)
		for _, b := range []byte{0, 1, 0x7f, 0x80, 0xff} {
			for _, n := range []int{1, 2, 15, 16, 17, 31, 32, 33, 47, 48, 49, 64, 65} {
				if got, want := hash.Sum(e.x, same(b, n)), m.hash(same(b, n)); got != want {
					t.Errorf("%s: the Sum of %d bytes %d is %x, want %x", name, n, b, got, want)
				}
			}
		}
	}
}

// A rest is padded, but the bytes that are padded have another hash.
func TestSumOfARestAndOfItsPaddedBlock(t *testing.T) {
	for name, e := range someTables() {
		m := modelOf(e.key)
		for n := range 100 {
			if n%16 == 0 {
				continue
			}
			data := bytesOf(5, n)
			whole := padded(data[n/16*16:])
			long := append(bytesOf(5, n/16*16), whole[:]...)
			short, other := hash.Sum(e.x, data), hash.Sum(e.x, long)
			if short == other {
				t.Errorf("%s: the Sum of %x and of %x is %x", name, data, long, short)
			}
			if want := m.hash(long); other != want {
				t.Errorf("%s: the Sum of %x is %x, want %x", name, long, other, want)
			}
		}
	}
}

// Also the bytes that are padded but for some zero bytes have another hash.
func TestSumOfBytesThatEndAsPaddedOnes(t *testing.T) {
	x, m := made(sample(6)), modelOf(sample(6))
	met := map[[16]byte]int{}
	for n := range 17 {
		whole := padded([]byte{1, 2, 3})
		data := append(bytesOf(6, 16), whole[:n]...)
		got, want := hash.Sum(x, data), m.hash(data)
		if got != want {
			t.Errorf("the Sum of %x is %x, want %x", data, got, want)
		}
		if other, ok := met[got]; ok {
			t.Errorf("the Sum with %d and with %d bytes more than a part is %x", other, n, got)
		}
		met[got] = n
	}
}

func TestSumOfBytesWithOneBitChanged(t *testing.T) {
	x := made(sample(7))
	met := map[[16]byte]int{hash.Sum(x, bytesOf(7, 57)): -1}
	for bit := range 57 * 8 {
		data := bytesOf(7, 57)
		data[bit/8] ^= 0x80 >> (bit % 8)
		got := hash.Sum(x, data)
		if other, ok := met[got]; ok {
			t.Errorf("the Sum is %x for the bits %d and %d", got, other, bit)
		}
		met[got] = bit
	}
}

func TestSumOfPartsThatAreExchanged(t *testing.T) {
	for name, e := range someTables() {
		l := partsOf(8, 6)
		met := map[[16]byte]int{}
		for i := range l {
			for j := range i {
				moved := slices.Clone(l)
				moved[i], moved[j] = l[j], l[i]
				data := join(moved)
				got := hash.Sum(e.x, data)
				if want := modelOf(e.key).hash(data); got != want {
					t.Errorf("%s: the Sum of %x is %x, want %x", name, data, got, want)
				}
				if other, ok := met[got]; ok {
					t.Errorf("%s: the Sum is %x for the exchanges %d and %d", name, got, other, 6*i+j)
				}
				met[got] = 6*i + j
			}
		}
	}
}

// join are the bytes of parts.
func join(l [][16]byte) []byte {
	var data []byte
	for _, b := range l {
		data = append(data, b[:]...)
	}
	return data
}

// The tables of a nil Cipher, of a zero one and a nil Table have the key of zero
// bytes, whose hashes are among the examples.
func TestSumOfManyBytesOfTheKeyOfZeroBytes(t *testing.T) {
	data := bytesOf(9, 1<<20+3)
	want := hash.Sum(made(zeros), data)
	for name, e := range someTables() {
		if got := hash.Sum(e.x, data); e.key == zeros && got != want {
			t.Errorf("%s: the Sum of %d bytes is %x, want %x", name, len(data), got, want)
		}
	}
}

func TestFullOfNoParts(t *testing.T) {
	for name, e := range someTables() {
		for _, l := range [][][16]byte{nil, {}, make([][16]byte, 0, 3), partsOf(11, 3)[3:]} {
			if s, o := hash.Full(e.x, l...); s != zeros || o != zeros {
				t.Errorf("%s: of no parts, the sum is %x and the offset %x", name, s, o)
			}
		}
		if s, o := hash.Full(e.x); s != zeros || o != zeros {
			t.Errorf("%s: without parts, the sum is %x and the offset %x", name, s, o)
		}
	}
}

func TestFullOfOnePart(t *testing.T) {
	for name, e := range someTables() {
		first := modelOf(e.key).blocks[0]
		for _, b := range [][16]byte{zeros, published, first, sample(12), [16]byte(same(0xff, 16))} {
			s, o := hash.Full(e.x, b)
			if want := cipher.Encrypt(e.key, sum(b, first)); s != want || o != first {
				t.Errorf("%s: Full(%x) = %x, %x, want %x, %x", name, b, s, o, want, first)
			}
		}
	}
}

func TestFullOfSomeParts(t *testing.T) {
	for name, e := range someTables() {
		m, l := modelOf(e.key), partsOf(13, 3)
		s, o := hash.Full(e.x, l[0], l[1], l[2])
		if want := m.full(l); s != want || o != m.blocks[1] {
			t.Errorf("%s: Full(%x) = %x, %x, want %x, %x", name, l, s, o, want, m.blocks[1])
		}
		s, o = hash.Full(e.x, l[0], l[0])
		second := sum(m.blocks[0], m.blocks[1])
		if want := sum(m.part(1, l[0]), m.part(2, l[0])); s != want || o != second {
			t.Errorf("%s: of the same part twice, Full = %x, %x, want %x, %x", name, s, o, want, second)
		}
	}
}

func TestFullOfEveryNumberOfParts(t *testing.T) {
	for name, e := range someTables() {
		m, l := modelOf(e.key), partsOf(14, 130)
		want := zeros
		for n := range l {
			s, o := hash.Full(e.x, l[:n]...)
			if s != want || o != m.offset(n) {
				t.Errorf("%s: of %d parts, Full = %x, %x, want %x, %x", name, n, s, o, want, m.offset(n))
			}
			want = sum(want, m.part(n+1, l[n]))
		}
	}
}

func TestFullOfManyParts(t *testing.T) {
	x, m := made(sample(15)), modelOf(sample(15))
	data := bytesOf(15, 1<<20+16)
	l, _ := apart(data)
	for n, blocks := range map[int][]int{1<<15 - 1: {14}, 1 << 15: {14, 15}, 1 << 16: {15, 16}, 1<<16 + 1: {0, 15, 16}} {
		end := zeros
		for _, k := range blocks {
			end = sum(end, m.blocks[k])
		}
		s, o := hash.Full(x, l[:n]...)
		if want := hash.Sum(x, data[:16*n]); s != want || o != end {
			t.Errorf("of %d parts, Full = %x, %x, want %x, %x", n, s, o, want, end)
		}
	}
}

// The offset depends on the number of the parts only.
func TestOffsetsOfPartsThatDiffer(t *testing.T) {
	for name, e := range someTables() {
		for n := range 40 {
			_, one := hash.Full(e.x, partsOf(16, n)...)
			_, other := hash.Full(e.x, partsOf(17, n)...)
			if want := modelOf(e.key).offset(n); one != want || other != want {
				t.Errorf("%s: the offset after %d parts is %x and %x, want %x", name, n, one, other, want)
			}
		}
	}
}

func TestHashesOfManyKeys(t *testing.T) {
	for seed := range uint32(40) {
		key := sample(seed + 100)
		for _, n := range []int{0, 7, 16, 53, 160} {
			check(t, "made", made(key), key, bytesOf(seed, n))
		}
	}
}

// P11.2

// The block was computed with another program, too.
func TestRestOfAnExample(t *testing.T) {
	x := made(published)
	o := sum(x.At(0), x.At(1))
	if got, want := hash.Rest(x, o, bytesOf(0, 33)[32:]), sum(hash.Sum(x, bytesOf(0, 32)), hash.Sum(x, bytesOf(0, 33))); got != want {
		t.Errorf("the block of the last of 33 bytes is %x, want %x", got, want)
	}
	want := blocks(t, "1ef0750645f1ba58c01e7c52e3fce67a")[0]
	if got := hash.Rest(x, zeros, bytesOf(0, 15)); got != want {
		t.Errorf("the block of 15 bytes is %x, want %x", got, want)
	}
}

func TestRestOfEveryNumberOfBytes(t *testing.T) {
	for name, e := range someTables() {
		for n := range 50 {
			for _, o := range [][16]byte{zeros, [16]byte(same(0xff, 16)), sample(18), e.x.Star(), e.x.At(0), e.x.At(63)} {
				checkRest(t, name, e.x, e.key, o, bytesOf(18, n))
				checkRest(t, name, e.x, e.key, o, make([]byte, n))
				checkRest(t, name, e.x, e.key, o, same(0x80, n))
			}
		}
	}
}

func TestRestOfNoBytes(t *testing.T) {
	for name, e := range someTables() {
		for _, o := range someOffsets() {
			for _, rest := range [][]byte{nil, {}, make([]byte, 0, 16), bytesOf(19, 16)[16:]} {
				if got := hash.Rest(e.x, o, rest); got != zeros {
					t.Errorf("%s: Rest(%x, no bytes) = %x", name, o, got)
				}
			}
		}
	}
}

func TestRestOfTooManyBytes(t *testing.T) {
	for name, e := range someTables() {
		for _, n := range []int{16, 17, 31, 32, 33, 100, 255, 256, 257, 271, 65536, 65537, 1 << 20, 1<<20 + 15} {
			for _, o := range [][16]byte{zeros, sample(20)} {
				if got := hash.Rest(e.x, o, bytesOf(20, n)); got != zeros {
					t.Errorf("%s: Rest(%x, %d bytes) = %x", name, o, n, got)
				}
			}
		}
	}
}

func TestRestOfAllBytes(t *testing.T) {
	x := made(sample(21))
	for b := range 256 {
		checkRest(t, "made", x, sample(21), sample(22), []byte{byte(b)})
		checkRest(t, "made", x, sample(21), sample(22), append(bytesOf(21, 14), byte(b)))
	}
}

func TestRestWithManyOffsets(t *testing.T) {
	for name, e := range someTables() {
		m := modelOf(e.key)
		for i, o := range someOffsets() {
			rest := bytesOf(23, 1+i%15)
			if got, want := hash.Rest(e.x, o, rest), m.rest(o, rest); got != want {
				t.Errorf("%s: Rest(%x, %x) = %x, want %x", name, o, rest, got, want)
			}
		}
	}
}

// With the offset that leaves nothing of the padded block and the star block, it is
// the star block.
func TestRestWithTheOffsetThatTakesItAway(t *testing.T) {
	for name, e := range someTables() {
		for n := 1; n < 16; n++ {
			rest := bytesOf(24, n)
			if got := hash.Rest(e.x, sum(padded(rest), e.x.Star()), rest); got != e.x.Star() {
				t.Errorf("%s: Rest of %x = %x, want %x", name, rest, got, e.x.Star())
			}
		}
	}
}

// P11.3

func TestSumIsThatOfThePartsAndTheRest(t *testing.T) {
	for name, e := range someTables() {
		for n := range 300 {
			data := bytesOf(25, n)
			l, rest := block.Split(data)
			s, o := hash.Full(e.x, l...)
			if got, want := hash.Sum(e.x, data), sum(s, hash.Rest(e.x, o, rest)); got != want {
				t.Errorf("%s: the Sum of %d bytes is %x, want %x", name, n, got, want)
			}
		}
	}
}

func TestSumWithoutARestIsThatOfTheParts(t *testing.T) {
	for name, e := range someTables() {
		for n := range 40 {
			s, o := hash.Full(e.x, partsOf(26, n)...)
			if got := hash.Sum(e.x, bytesOf(26, 16*n)); got != s {
				t.Errorf("%s: the Sum of %d bytes is %x, want %x", name, 16*n, got, s)
			}
			if got := hash.Rest(e.x, o, nil); got != zeros {
				t.Errorf("%s: behind %d parts, the block for no rest is %x", name, n, got)
			}
		}
	}
}

func TestSumOfManyBytesIsThatOfThePartsAndTheRest(t *testing.T) {
	x := made(sample(27))
	data := bytesOf(27, 1<<20+15)
	l, rest := block.Split(data)
	s, o := hash.Full(x, l...)
	if got, want := hash.Sum(x, data), sum(s, hash.Rest(x, o, rest)); got != want {
		t.Errorf("the Sum of %d bytes is %x, want %x", len(data), got, want)
	}
}

// The Rules

func TestNilAndEmpty(t *testing.T) {
	for name, e := range someTables() {
		for _, o := range [][16]byte{zeros, sample(28)} {
			if hash.Sum(e.x, nil) != hash.Sum(e.x, []byte{}) || hash.Rest(e.x, o, nil) != hash.Rest(e.x, o, []byte{}) {
				t.Errorf("%s: nil and empty slices are not the same", name)
			}
		}
	}
}

// What is behind the length of a slice is neither read nor changed.
func TestSlicesWithMoreCapacity(t *testing.T) {
	for name, e := range someTables() {
		m := modelOf(e.key)
		for n := range 70 {
			long := bytesOf(29, 100)
			if got, want := hash.Sum(e.x, long[:n]), m.hash(bytesOf(29, n)); got != want {
				t.Errorf("%s: the Sum of the first %d of 100 bytes is %x, want %x", name, n, got, want)
			}
			checkRest(t, name, e.x, e.key, sample(29), long[:n])
			if !bytes.Equal(long, bytesOf(29, 100)) {
				t.Errorf("%s: with %d bytes, the slice is %x", name, n, long)
			}
		}
		for n := range 5 {
			long := partsOf(30, 6)
			if got, _ := hash.Full(e.x, long[:n]...); got != m.full(partsOf(30, n)) || !slices.Equal(long, partsOf(30, 6)) {
				t.Errorf("%s: the sum of the first %d of 6 parts is %x; they are %x", name, n, got, long)
			}
		}
	}
}

func TestSlicesThatBeginInsideOthers(t *testing.T) {
	for name, e := range someTables() {
		for from := range 33 {
			for _, n := range []int{0, 1, 15, 16, 17, 40} {
				long := bytesOf(31, 100)
				check(t, name, e.x, e.key, long[from:from+n])
				check(t, name, e.x, e.key, long[from:from+n:from+n])
				if !bytes.Equal(long, bytesOf(31, 100)) {
					t.Errorf("%s: after %d bytes from %d on, the slice is %x", name, n, from, long)
				}
			}
		}
	}
}

func TestArgumentsAndResultsThatTheCallerChanges(t *testing.T) {
	for name, e := range someTables() {
		data, l, rest := bytesOf(32, 40), partsOf(32, 2), bytesOf(33, 9)
		whole := hash.Sum(e.x, data)
		s, o := hash.Full(e.x, l...)
		end := hash.Rest(e.x, o, rest)
		kept := [][16]byte{whole, s, o, end}
		for _, b := range [][]byte{data, l[0][:], l[1][:], rest, whole[:], s[:], o[:], end[:]} {
			for i := range b {
				b[i] ^= 0xff
			}
		}
		check(t, name, e.x, e.key, data)
		whole = hash.Sum(e.x, bytesOf(32, 40))
		s, o = hash.Full(e.x, partsOf(32, 2)...)
		if got := [][16]byte{whole, s, o, hash.Rest(e.x, o, bytesOf(33, 9))}; !slices.Equal(got, kept) {
			t.Errorf("%s: the results are %x, and were %x", name, got, kept)
		}
	}
}

func TestCipherAndTableStayAsTheyAre(t *testing.T) {
	for name, e := range someTables() {
		c, star, dollar := e.x.Cipher(), e.x.Star(), e.x.Dollar()
		check(t, name, e.x, e.key, bytesOf(34, 200))
		if e.x.Cipher() != c || c.Key() != e.key || e.x.Star() != star || e.x.Dollar() != dollar {
			t.Errorf("%s: after its use, the table has the Cipher %p of the key %x and the blocks %x and %x", name, e.x.Cipher(), c.Key(), e.x.Star(), e.x.Dollar())
		}
		for i, want := range modelOf(e.key).blocks {
			if got := e.x.At(i); got != want {
				t.Errorf("%s: after its use, the table has the block %d %x, want %x", name, i, got, want)
			}
		}
	}
}

func TestTablesSideBySide(t *testing.T) {
	l := someTables()
	for round := range 3 {
		for name, e := range l {
			check(t, name, e.x, e.key, bytesOf(35, 20+31*round))
		}
	}
}

func TestOneTableOfSeveralGoroutines(t *testing.T) {
	for name, e := range someTables() {
		data := bytesOf(36, 77)
		atOnce(func(k uint32) {
			check(t, name, e.x, e.key, data)
			check(t, name, e.x, e.key, bytesOf(k, int(9*k)))
		})
	}
}

func TestTablesOfSeveralGoroutines(t *testing.T) {
	atOnce(func(k uint32) {
		for seed := range uint32(3) {
			key := sample(20*k + seed + 100)
			check(t, "made", made(key), key, bytesOf(k, int(40*seed+k)))
		}
	})
}
