package seal_test

import (
	"bytes"
	"encoding/hex"
	"math"
	"math/big"
	"runtime"
	"slices"
	"strings"
	"sync"
	"sync/atomic"
	"testing"

	"mooring/block"
	"mooring/cipher"
	"mooring/fast"
	"mooring/hash"
	"mooring/offset"
	"mooring/seal"
	"mooring/table"
)

// askers is how many goroutines ask at the same time.
const askers = 16

// most is the greatest number of bytes that the chapter names.
const most = 1 << 24

// zeros is the block and the key of zero bytes.
var zeros [16]byte

// published is the key of the examples of RFC 7253.
var published = [16]byte{0, 1, 2, 3, 4, 5, 6, 7, 8, 9, 10, 11, 12, 13, 14, 15}

// lengths are those that the chapter's rules turn on, of plaintexts and of data.
var lengths = []int{0, 1, 5, 15, 16, 17, 31, 32, 33, 48, 100}

// model seals under a key as the chapter defines it.
type model struct {
	key    [16]byte
	star   [16]byte
	dollar [16]byte
	blocks [64][16]byte
	known  map[[16]byte][16]byte
}

// modelOf encrypts step by step, and not with the cipher of a table.
func modelOf(key [16]byte) *model {
	m := &model{key: key, known: map[[16]byte][16]byte{}}
	m.star = m.encrypt(zeros)
	m.dollar = double(m.star)
	last := m.dollar
	for i := range m.blocks {
		last = double(last)
		m.blocks[i] = last
	}
	return m
}

// encrypt keeps what it has found, because package cipher takes long.
func (m *model) encrypt(b [16]byte) [16]byte {
	if _, ok := m.known[b]; !ok {
		m.known[b] = cipher.Encrypt(m.key, b)
	}
	return m.known[b]
}

// start divides the number of the stretched top by a power of 2.
func (m *model) start(nonce [12]byte) [16]byte {
	n := new(big.Int).SetBytes(append([]byte{0, 0, 0, 1}, nonce[:]...))
	bottom := new(big.Int).Mod(n, big.NewInt(64))
	top := m.encrypt(blockOf(n.Sub(n, bottom)))
	long := new(big.Int).SetBytes(top[:])
	end := new(big.Int).Xor(new(big.Int).SetBytes(top[0:8]), new(big.Int).SetBytes(top[1:9]))
	long.Add(long.Lsh(long, 64), end)
	return blockOf(long.Rsh(long, uint(64-bottom.Int64())))
}

// forNumber halves the number until it is odd.
func (m *model) forNumber(n int) [16]byte {
	i := 0
	for n%2 == 0 {
		n, i = n/2, i+1
	}
	return m.blocks[i]
}

// hash takes the bytes apart.
func (m *model) hash(data []byte) [16]byte {
	s, o := zeros, zeros
	l, rest := apart(data)
	for i, b := range l {
		o = sum(o, m.forNumber(i+1))
		s = sum(s, m.encrypt(sum(b, o)))
	}
	if len(rest) > 0 {
		s = sum(s, m.encrypt(sum(padded(rest), o, m.star)))
	}
	return s
}

// crypt takes the plaintext apart.
func (m *model) crypt(nonce [12]byte, plain []byte) (out []byte, checksum, last [16]byte) {
	last = m.start(nonce)
	l, rest := apart(plain)
	for i, b := range l {
		last = sum(last, m.forNumber(i+1))
		part := sum(last, m.encrypt(sum(b, last)))
		out = append(out, part[:]...)
		checksum = sum(checksum, b)
	}
	if len(rest) > 0 {
		last = sum(last, m.star)
		mask := m.encrypt(last)
		for i, b := range rest {
			out = append(out, b^mask[i])
		}
		checksum = sum(checksum, padded(rest))
	}
	return out, checksum, last
}

// tag is the one for a checksum, an offset and data.
func (m *model) tag(checksum, last [16]byte, data []byte) [16]byte {
	return sum(m.hash(data), m.encrypt(sum(checksum, last, m.dollar)))
}

// seal is the ciphertext and the tag.
func (m *model) seal(nonce [12]byte, data, plain []byte) []byte {
	out, checksum, last := m.crypt(nonce, plain)
	tag := m.tag(checksum, last, data)
	return append(out, tag[:]...)
}

// apart are the parts of bytes, and their rest.
func apart(b []byte) (l [][16]byte, rest []byte) {
	for len(b) >= 16 {
		l, b = append(l, [16]byte(b)), b[16:]
	}
	return l, b
}

// padded is a rest, the byte 0x80, and as many zero bytes as there is room for.
func padded(rest []byte) [16]byte {
	l := append(slices.Clone(rest), 0x80)
	return [16]byte(append(l, make([]byte, 16-len(l))...))
}

// blockOf is the block of the last 128 bits of a number.
func blockOf(n *big.Int) [16]byte {
	var b [16]byte
	new(big.Int).Mod(n, new(big.Int).Lsh(big.NewInt(1), 128)).FillBytes(b[:])
	return b
}

// double is the double of a block, by its number.
func double(b [16]byte) [16]byte {
	n := new(big.Int).SetBytes(b[:])
	n.Lsh(n, 1)
	d := blockOf(n)
	if n.Bit(128) == 1 {
		d[15] ^= 0x87
	}
	return d
}

// sum is the exclusive or of some blocks.
func sum(l ...[16]byte) [16]byte {
	var s [16]byte
	for _, b := range l {
		for i := range s {
			s[i] ^= b[i]
		}
	}
	return s
}

// fields reads bytes that are written as hexadecimal numbers.
func fields(t *testing.T, text string) [][]byte {
	t.Helper()
	var l [][]byte
	for _, number := range strings.Fields(text) {
		b, err := hex.DecodeString(number)
		if err != nil {
			t.Fatalf("%s: %v", number, err)
		}
		l = append(l, b)
	}
	return l
}

// bytesOf returns n bytes without any regularity that a sum could keep. Those of a
// smaller n are their first ones.
func bytesOf(seed uint32, n int) []byte {
	l := make([]byte, n)
	x := seed*2654435761 + 1
	for i := range l {
		x = x*1664525 + 1013904223
		l[i] = byte(x >> 24)
	}
	return l
}

// sample is such a block.
func sample(seed uint32) [16]byte {
	return [16]byte(bytesOf(seed, 16))
}

// nonceOf is such a nonce.
func nonceOf(seed uint32) [12]byte {
	return [12]byte(bytesOf(seed, 12))
}

// count returns the bytes 0, 1, 2 and so on.
func count(n int) []byte {
	l := make([]byte, n)
	for i := range l {
		l[i] = byte(i)
	}
	return l
}

// same returns n bytes that are all b.
func same(b byte, n int) []byte {
	return bytes.Repeat([]byte{b}, n)
}

// numbered is the nonce of a number.
func numbered(n int) [12]byte {
	var nonce [12]byte
	big.NewInt(int64(n)).FillBytes(nonce[:])
	return nonce
}

// someNonces have each bit alone, the ends, all last bits, and no regularity.
func someNonces() [][12]byte {
	l := [][12]byte{{}, [12]byte(same(0xff, 12))}
	for bit := range 96 {
		var one [12]byte
		one[bit/8] = 0x80 >> (bit % 8)
		l = append(l, one)
	}
	for n := range 65 {
		near := nonceOf(50)
		near[11] = byte(n)
		l = append(l, near, nonceOf(uint32(n+60)))
	}
	return l
}

// someBlocks have each bit alone, the ends, and no regularity.
func someBlocks() [][16]byte {
	l := [][16]byte{zeros, [16]byte(same(0xff, 16)), published}
	for bit := range 128 {
		var one [16]byte
		one[bit/8] = 0x80 >> (bit % 8)
		l = append(l, one)
	}
	for seed := range uint32(20) {
		l = append(l, sample(seed+150))
	}
	return l
}

// sides are Tables, each with its key.
type sides map[string]struct {
	x   *table.Table
	key [16]byte
}

// someTables have a nil Table, and Tables of a nil Cipher, of a zero one, and of
// several keys. The first four have the key of zero bytes.
func someTables() sides {
	return sides{
		"nil Table":            {nil, zeros},
		"table of nil":         {table.New(nil), zeros},
		"table of a zero one":  {table.New(&fast.Cipher{}), zeros},
		"table of zero bytes":  {made(zeros), zeros},
		"table of RFC 7253":    {made(published), published},
		"table of some key":    {made(sample(1)), sample(1)},
		"table of another key": {made(sample(2)), sample(2)},
	}
}

// made is the table of a key.
func made(key [16]byte) *table.Table {
	return table.New(fast.New(key))
}

// imprint tells sealed plaintexts apart that are too long to be written here: it is
// the sealed plaintext of none, with the bytes as data.
func imprint(x *table.Table, sealed []byte) []byte {
	return seal.Seal(x, [12]byte{}, sealed, nil)
}

// check says what of a sealed plaintext, and of what it is made of, is wrong.
func check(t *testing.T, name string, x *table.Table, m *model, nonce [12]byte, data, plain []byte) {
	t.Helper()
	if got, want := seal.Seal(x, nonce, data, plain), m.seal(nonce, data, plain); !bytes.Equal(got, want) {
		t.Errorf("%s: Seal(%x, %x, %x) = %x, want %x", name, nonce, data, plain, got, want)
	}
	checkCrypt(t, name, x, m, nonce, plain)
	_, checksum, last := m.crypt(nonce, plain)
	checkTag(t, name, x, m, checksum, last, data)
}

// checkCrypt says what of the results of Crypt is wrong.
func checkCrypt(t *testing.T, name string, x *table.Table, m *model, nonce [12]byte, plain []byte) {
	t.Helper()
	out, checksum, last := seal.Crypt(x, nonce, plain)
	wantOut, wantChecksum, wantLast := m.crypt(nonce, plain)
	if !bytes.Equal(out, wantOut) {
		t.Errorf("%s: the ciphertext of %x with %x is %x, want %x", name, plain, nonce, out, wantOut)
	}
	if checksum != wantChecksum {
		t.Errorf("%s: the checksum of %x is %x, want %x", name, plain, checksum, wantChecksum)
	}
	if last != wantLast {
		t.Errorf("%s: the offset after %d bytes with %x is %x, want %x", name, len(plain), nonce, last, wantLast)
	}
}

// checkTag says whether a tag is wrong.
func checkTag(t *testing.T, name string, x *table.Table, m *model, checksum, last [16]byte, data []byte) {
	t.Helper()
	if got, want := seal.Tag(x, checksum, last, data), m.tag(checksum, last, data); got != want {
		t.Errorf("%s: Tag(%x, %x, %x) = %x, want %x", name, checksum, last, data, got, want)
	}
}

// atOnce calls in many goroutines. They wait for each other without sleeping, as
// they would not wake up at the same time.
func atOnce(call func(k uint32)) {
	var done sync.WaitGroup
	var ready atomic.Int32
	for k := range uint32(askers) {
		done.Go(func() {
			ready.Add(1)
			for ready.Load() < askers {
				runtime.Gosched()
			}
			call(k)
		})
	}
	done.Wait()
}

// P12.1

// RFC 7253 prints these, with the nonces that end with 0, 1, 2 and so on.
func TestSealOfPublishedExamples(t *testing.T) {
	x := made(published)
	for i, e := range []struct {
		data, plain int
		text        string
	}{
		{0, 0, "785407bfffc8ad9edcc5520ac9111ee6"},
		{8, 8, "6820b3657b6f615a5725bda0d3b4eb3a257c9af1f8f03009"},
		{8, 0, "81017f8203f081277152fade694a0a00"},
		{0, 8, "45dd69f8f5aae72414054cd1f35d82760b2cd00d2f99bfa9"},
		{16, 16, "571d535b60b277188be5147170a9a22c3ad7a4ff3835b8c5701c1ccec8fc3358"},
		{16, 0, "8cf761b6902ef764462ad86498ca6b97"},
		{0, 16, "5ce88ec2e0692706a915c00aeb8b2396f40e1c743f52436bdf06d8fa1eca343d"},
		{24, 24, "1ca2207308c87c010756104d8840ce1952f09673a448a122c92c62241051f57356d7f3c90bb0e07f"},
		{24, 0, "6dc225a071fc1b9f7c69f93b0f1e10de"},
		{0, 24, "221bd0de7fa6fe993eccd769460a0af2d6cded0c395b1c3ce725f32494b9f914d85c0b1eb38357ff"},
		{32, 32, "bd6f6c496201c69296c11efd138a467abd3c707924b964deaffc40319af5a48540fbba186c5553c68ad9f592a79a4240"},
		{32, 0, "fe80690bee8a485d11f32965bc9d2a32"},
		{0, 32, "2942bfc773bda23cabc6acfd9bfd5835bd300f0973792ef46040c53f1432bcdfb5e1dde3bc18a5f840b52e653444d5df"},
		{40, 40, "d5ca91748410c1751ff8a2f618255b68a0a12e093ff454606e59f9c1d0ddc54b65e8628e568bad7aed07ba06a4a69483a7035490c5769e60"},
		{40, 0, "c5cd9d1850c141e358649994ee701b68"},
		{0, 40, "4412923493c57d5de0d700f753cce0d1d2d95060122e9f15a5ddbfc5787e50b5cc55ee507bcb084e479ad363ac366b95a98ca5f3000b1479"},
	} {
		nonce := [12]byte{0xbb, 0xaa, 0x99, 0x88, 0x77, 0x66, 0x55, 0x44, 0x33, 0x22, 0x11, byte(i)}
		want := fields(t, e.text)[0]
		if got := seal.Seal(x, nonce, count(e.data), count(e.plain)); !bytes.Equal(got, want) {
			t.Errorf("with %d and %d bytes, the sealed plaintext is %x, want %x", e.data, e.plain, got, want)
		}
	}
}

// RFC 7253 prints what becomes of the plaintexts and data of up to 127 bytes, with
// the nonces from 1 to 385.
func TestSealOfThePublishedChain(t *testing.T) {
	x := made([16]byte{15: 128})
	var all []byte
	for i := range 128 {
		b := make([]byte, i)
		all = append(all, seal.Seal(x, numbered(3*i+1), b, b)...)
		all = append(all, seal.Seal(x, numbered(3*i+2), nil, b)...)
		all = append(all, seal.Seal(x, numbered(3*i+3), b, nil)...)
	}
	want := fields(t, "67e944d23256c5e0b6c61fa22fdf1ea2")[0]
	if got := seal.Seal(x, numbered(385), all, nil); !bytes.Equal(got, want) {
		t.Errorf("the end of the chain is %x, want %x", got, want)
	}
}

// They were computed with another program, by the AES-128-OCB of Node.js. The first
// field is the key.
func TestSealOfExamples(t *testing.T) {
	numbers := []int{0, 1, 5, 15, 16, 17, 31, 32, 33, 1000, 1<<16 + 5}
	l := fields(t, `
		00000000000000000000000000000000
		78e7d4ac8fb4341b12ac8e3309fa405e c901382f5e76cd413ef7fdb7f3d2e1fe
		5d216d12217e9fd6f99ce87728e6b0dc 4304961dbc9550a635413185deb44175
		29f53bbf5f5b2256901c7e261e26d386 5fb875aade6d4d54f7119e0efceab0bc
		310b0ce5c2a2c907f624f1652ce0a766 be41d54a21e3df1e82003a5f21fea07b
		369a41fb5b3ee345a1565f0b5348acac dc7ee4a4379efb46ecb93a9c8e1cff2c
		44636292340abc276eadd4af1a3c8ac1
		000102030405060708090a0b0c0d0e0f
		9d4255a3d04091e5aee942e10308b301 40e9c8bfdb7f2219490b3d47e7dbec42
		1b995028c1537f9f2a9c309e543393d1 9fa7b759bef9c991d305d9268a038d7e
		6dc2bd572d3554b4ed56e3d407e1ae08 62f2abbb853f3f7e362dd3ea839fce82
		2ae8f6c36f5a7a0e6497163296f7539c 04c37aaa0ebf19b8f8107831785cbc69
		ade993748f16079bd6a181cb49527937 937786e7d95d292c15ba509692186a66
		b96eddd478be8418254f3a19041a8c23
		2b7e151628aed2a6abf7158809cf4f3c
		bfb1e0e6ba3b3186b6d5f53ebdc67f18 f6b8e619e9db21e135e1c52c7dc6d00a
		a8fa57a63fa6a0580fa7025739b82ad7 fab36e9e70ac5d7ef6ea843c6ee60d58
		d7bef93f354b6e8aa64850ec921c3016 977db0a24f318cbeeef7ca0384b438f5
		e8bd6ebd1e2fb6cb997387da96a62c1e c013c1ffaf3c2fe4c3678064a73ef9c2
		0a1e12c4d53e083cd6fc8397f5b38832 e1768a4ba803718493633100e699c823
		75ee67bd6e065822dedd06e786f729c3`)
	for ; len(l) > 0; l = l[1+len(numbers):] {
		x := made([16]byte(l[0]))
		for i, n := range numbers {
			k := numbers[len(numbers)-1-i]
			sealed := seal.Seal(x, nonceOf(uint32(i)), bytesOf(1, k), bytesOf(2, n))
			if got, want := imprint(x, sealed), l[1+i]; !bytes.Equal(got, want) {
				t.Errorf("with %d and %d bytes, the imprint for %x is %x, want %x", k, n, l[0], got, want)
			}
		}
	}
}

// The last ones are neither left out nor taken for others: the part 2^20 is the only
// one here with the block 20. The values are from the other program, too.
func TestSealOfVeryManyBytes(t *testing.T) {
	x := made(published)
	for _, e := range []struct {
		data, plain int
		text        string
	}{
		{5, most, "e61705cb495eefae6c6565d59b45175e e404a421d38f1873020dcdc4a252d457"},
		{most - 1, 17, "04ff8f617a38396bd8c5b1f2ef522b69 da9ab5f056d13864d51f0abedf3b8341"},
	} {
		want := fields(t, e.text)
		got := seal.Seal(x, nonceOf(3), bytesOf(1, e.data), bytesOf(2, e.plain))
		if len(got) != e.plain+16 || !bytes.Equal(got[e.plain:], want[1]) || !bytes.Equal(imprint(x, got), want[0]) {
			t.Errorf("with %d and %d bytes, Seal returns %d bytes, the last ones %x", e.data, e.plain, len(got), got[max(0, len(got)-16):])
		}
	}
}

func TestSealOfNoBytes(t *testing.T) {
	for name, e := range someTables() {
		m := modelOf(e.key)
		empty := [][]byte{nil, {}, make([]byte, 0, 40), bytesOf(1, 40)[:0], bytesOf(1, 40)[40:]}
		for _, nonce := range [][12]byte{{}, nonceOf(4), [12]byte(same(0xff, 12))} {
			want := m.encrypt(sum(m.start(nonce), m.dollar))
			for i, data := range empty {
				for k, plain := range empty {
					if got := seal.Seal(e.x, nonce, data, plain); !bytes.Equal(got, want[:]) {
						t.Errorf("%s: Seal of no bytes %d and %d is %x, want %x", name, i, k, got, want)
					}
				}
			}
		}
	}
}

func TestSealOfSomeParts(t *testing.T) {
	nonce, plain := nonceOf(5), bytesOf(5, 64)
	for name, e := range someTables() {
		m := modelOf(e.key)
		start, a := m.start(nonce), m.blocks
		var want []byte
		checksum := zeros
		for i, o := range [][16]byte{a[0], sum(a[0], a[1]), a[1], sum(a[1], a[2])} {
			part, last := [16]byte(plain[16*i:]), sum(start, o)
			out := sum(last, cipher.Encrypt(e.key, sum(part, last)))
			want = append(want, out[:]...)
			checksum = sum(checksum, part)
			tag := cipher.Encrypt(e.key, sum(checksum, last, m.dollar))
			if got := seal.Seal(e.x, nonce, nil, plain[:16*(i+1)]); !bytes.Equal(got, append(slices.Clone(want), tag[:]...)) {
				t.Errorf("%s: %d parts are sealed to %x, want %x and %x", name, i+1, got, want, tag)
			}
		}
	}
}

func TestSealOfARestAlone(t *testing.T) {
	nonce := nonceOf(6)
	for name, e := range someTables() {
		m := modelOf(e.key)
		last := sum(m.start(nonce), m.star)
		mask := cipher.Encrypt(e.key, last)
		for n := 1; n < 16; n++ {
			rest := bytesOf(6, n)
			out := sum(padded(rest), mask)
			tag := cipher.Encrypt(e.key, sum(padded(rest), last, m.dollar))
			if got := seal.Seal(e.x, nonce, nil, rest); !bytes.Equal(got, append(out[:n:n], tag[:]...)) {
				t.Errorf("%s: %x is sealed to %x, want %x and %x", name, rest, got, out[:n], tag)
			}
		}
	}
}

func TestSealOfTheLengthsThatMatter(t *testing.T) {
	for name, e := range someTables() {
		m := modelOf(e.key)
		for i, a := range lengths {
			for k, n := range lengths {
				check(t, name, e.x, m, nonceOf(uint32(16*i+k)), bytesOf(7, a), bytesOf(8, n))
			}
		}
	}
}

func TestSealOfEveryNumberOfBytes(t *testing.T) {
	nonce, some := nonceOf(9), bytesOf(9, 21)
	for name, e := range someTables() {
		m := modelOf(e.key)
		for n := range 300 {
			plain, data := bytesOf(10, n), bytesOf(11, n)
			check(t, name, e.x, m, nonce, nil, plain)
			check(t, name, e.x, m, nonce, some, plain)
			check(t, name, e.x, m, nonce, data, nil)
			check(t, name, e.x, m, nonce, data, some)
			check(t, name, e.x, m, nonce, data, plain)
		}
	}
}

func TestSealOfBytesThatAreAllTheSame(t *testing.T) {
	for name, e := range someTables() {
		m := modelOf(e.key)
		for _, b := range []byte{0, 1, 0x7f, 0x80, 0xff} {
			for _, n := range lengths {
				check(t, name, e.x, m, nonceOf(12), same(b, n), same(b, n))
				check(t, name, e.x, m, [12]byte(same(b, 12)), same(b, n), same(b, n))
			}
		}
	}
}

func TestSealWithManyNonces(t *testing.T) {
	for name, e := range someTables() {
		m := modelOf(e.key)
		met := map[string][12]byte{}
		for _, nonce := range someNonces() {
			got, want := seal.Seal(e.x, nonce, bytesOf(13, 5), bytesOf(13, 37)), m.seal(nonce, bytesOf(13, 5), bytesOf(13, 37))
			if !bytes.Equal(got, want) {
				t.Errorf("%s: with the nonce %x, the sealed plaintext is %x, want %x", name, nonce, got, want)
			}
			if other, ok := met[string(got)]; ok && other != nonce {
				t.Errorf("%s: with the nonces %x and %x, the sealed plaintext is %x", name, nonce, other, got)
			}
			met[string(got)] = nonce
		}
	}
}

func TestSealUnderManyKeys(t *testing.T) {
	for seed := range uint32(40) {
		key := sample(seed + 200)
		x, m := made(key), modelOf(key)
		for _, n := range lengths {
			check(t, "made", x, m, nonceOf(seed), bytesOf(seed, n), bytesOf(seed+1, 2*n))
		}
	}
}

// A rest is padded, but the bytes that are padded are sealed otherwise: their tag is
// another one, too.
func TestSealOfARestAndOfItsPaddedBlock(t *testing.T) {
	x, m := made(sample(14)), modelOf(sample(14))
	for n := range 100 {
		if n%16 == 0 {
			continue
		}
		short := bytesOf(14, n)
		whole := padded(short[n/16*16:])
		long := append(bytesOf(14, n/16*16), whole[:]...)
		one, other := seal.Seal(x, nonceOf(14), nil, short), seal.Seal(x, nonceOf(14), nil, long)
		if bytes.Equal(one[n:], other[len(long):]) || bytes.Equal(one[:n], other[:n]) {
			t.Errorf("%x and %x are sealed to %x and %x", short, long, one, other)
		}
		check(t, "made", x, m, nonceOf(14), nil, long)
		one, other = seal.Seal(x, nonceOf(14), short, nil), seal.Seal(x, nonceOf(14), long, nil)
		if bytes.Equal(one, other) {
			t.Errorf("with the data %x and %x, the sealed plaintext is %x", short, long, one)
		}
	}
}

// Each bit changes the tag. Several may change it in the same way, as those of the
// same place in several parts do, but then the ciphertexts differ.
func TestSealOfBytesWithOneBitChanged(t *testing.T) {
	key, nonce := sample(15), nonceOf(15)
	data, plain := bytesOf(15, 21), bytesOf(16, 41)
	first := seal.Seal(made(key), nonce, data, plain)
	met := map[string]bool{string(first): true}
	for i, b := range [][]byte{key[:], nonce[:], data, plain} {
		for bit := range 8 * len(b) {
			b[bit/8] ^= 0x80 >> (bit % 8)
			sealed := seal.Seal(made(key), nonce, data, plain)
			b[bit/8] ^= 0x80 >> (bit % 8)
			if met[string(sealed)] || bytes.Equal(sealed[len(plain):], first[len(plain):]) {
				t.Errorf("with the bit %d of the argument %d changed, the sealed plaintext is %x", bit, i, sealed)
			}
			met[string(sealed)] = true
		}
	}
}

// Data and plaintext are not taken for each other.
func TestSealOfDataAndPlaintextThatAreExchanged(t *testing.T) {
	for name, e := range someTables() {
		for _, n := range lengths[1:] {
			one := seal.Seal(e.x, nonceOf(17), bytesOf(17, n), bytesOf(18, n))
			other := seal.Seal(e.x, nonceOf(17), bytesOf(18, n), bytesOf(17, n))
			if bytes.Equal(one[:n], other[:n]) || bytes.Equal(one[n:], other[n:]) {
				t.Errorf("%s: with %d bytes, both are sealed to %x and %x", name, n, one, other)
			}
		}
	}
}

func TestSealOfPartsThatAreExchanged(t *testing.T) {
	x, m := made(sample(19)), modelOf(sample(19))
	l, _ := apart(bytesOf(19, 96))
	for i := range l {
		for j := range i {
			moved := slices.Clone(l)
			moved[i], moved[j] = l[j], l[i]
			plain := bytes.Join([][]byte{moved[0][:], moved[1][:], moved[2][:], moved[3][:], moved[4][:], moved[5][:]}, nil)
			check(t, "made", x, m, nonceOf(19), nil, plain)
		}
	}
}

// The ciphertext is that of Crypt, and the tag that of Tag.
func TestSealIsTheCiphertextAndTheTag(t *testing.T) {
	for name, e := range someTables() {
		for _, a := range lengths {
			for n := range 100 {
				data, plain := bytesOf(20, a), bytesOf(21, n)
				out, checksum, last := seal.Crypt(e.x, nonceOf(20), plain)
				tag := seal.Tag(e.x, checksum, last, data)
				if got := seal.Seal(e.x, nonceOf(20), data, plain); !bytes.Equal(got, append(out, tag[:]...)) {
					t.Errorf("%s: Seal(%x, %x) = %x, want %x", name, data, plain, got, append(out, tag[:]...))
				}
			}
		}
	}
}

// P12.2

func TestCryptOfNoBytes(t *testing.T) {
	for name, e := range someTables() {
		m := modelOf(e.key)
		for _, plain := range [][]byte{nil, {}, make([]byte, 0, 40), bytesOf(22, 40)[40:]} {
			for _, nonce := range someNonces() {
				out, checksum, last := seal.Crypt(e.x, nonce, plain)
				if want := m.start(nonce); len(out) != 0 || checksum != zeros || last != want {
					t.Errorf("%s: Crypt(%x, no bytes) = %x, %x, %x, want %x", name, nonce, out, checksum, last, want)
				}
			}
		}
	}
}

// Without a rest, the checksum is the sum of the parts, and the offset the one that
// layer 10 has for their number. With one, both change.
func TestChecksumAndOffset(t *testing.T) {
	for name, e := range someTables() {
		for n := range 130 {
			plain, nonce := bytesOf(23, n), nonceOf(uint32(n))
			l, rest := block.Split(plain)
			want, end := sum(l...), offset.At(e.x, nonce, len(l))
			if len(rest) > 0 {
				want, end = sum(want, padded(rest)), sum(end, e.x.Star())
			}
			_, checksum, last := seal.Crypt(e.x, nonce, plain)
			if checksum != want || last != end {
				t.Errorf("%s: after %d bytes, the checksum and the offset are %x and %x, want %x and %x", name, n, checksum, last, want, end)
			}
		}
	}
}

func TestChecksumAndOffsetOfManyParts(t *testing.T) {
	x, nonce := made(sample(24)), nonceOf(24)
	plain := bytesOf(24, 1<<20+16+5)
	l, rest := block.Split(plain)
	for _, n := range []int{1<<15 - 1, 1 << 15, 1<<16 - 1, 1 << 16, 1<<16 + 1} {
		out, checksum, last := seal.Crypt(x, nonce, plain[:16*n])
		end := offset.At(x, nonce, n)
		part := sum(end, x.Cipher().Encrypt(sum(l[n-1], end)))
		if checksum != sum(l[:n]...) || last != end || len(out) != 16*n || !bytes.Equal(out[16*n-16:], part[:]) {
			t.Errorf("after %d parts, Crypt has %d bytes, %x and %x", n, len(out), checksum, last)
		}
	}
	out, checksum, last := seal.Crypt(x, nonce, plain)
	end := sum(offset.At(x, nonce, len(l)), x.Star())
	mask := x.Cipher().Encrypt(end)
	want := sum(padded(rest), mask)
	if checksum != sum(sum(l...), padded(rest)) || last != end || !bytes.Equal(out[16*len(l):], want[:5]) {
		t.Errorf("after %d bytes, Crypt has the rest %x, %x and %x", len(plain), out[16*len(l):], checksum, last)
	}
}

func TestCryptOfAllBytes(t *testing.T) {
	x, m := made(sample(25)), modelOf(sample(25))
	for b := range 256 {
		checkCrypt(t, "made", x, m, nonceOf(25), []byte{byte(b)})
		checkCrypt(t, "made", x, m, nonceOf(25), append(bytesOf(25, 14), byte(b)))
		checkCrypt(t, "made", x, m, nonceOf(25), append(bytesOf(25, 15), byte(b)))
		checkCrypt(t, "made", x, m, nonceOf(25), append(bytesOf(25, 16), byte(b)))
	}
}

func TestCryptWithManyNonces(t *testing.T) {
	for name, e := range someTables() {
		m := modelOf(e.key)
		for i, nonce := range someNonces() {
			checkCrypt(t, name, e.x, m, nonce, bytesOf(26, i%50))
		}
	}
}

func TestCryptOfManyBytesOfTheKeyOfZeroBytes(t *testing.T) {
	plain := bytesOf(27, 1<<18+3)
	want := seal.Seal(made(zeros), nonceOf(27), plain, plain)
	for name, e := range someTables() {
		if got := seal.Seal(e.x, nonceOf(27), plain, plain); e.key == zeros && !bytes.Equal(got, want) {
			t.Errorf("%s: %d bytes are sealed to others", name, len(plain))
		}
	}
}

func TestTagOfAnyChecksumAndOffset(t *testing.T) {
	for name, e := range someTables() {
		m := modelOf(e.key)
		for i, b := range someBlocks() {
			data := bytesOf(28, i%40)
			checkTag(t, name, e.x, m, b, zeros, data)
			checkTag(t, name, e.x, m, zeros, b, data)
			checkTag(t, name, e.x, m, b, b, data)
			checkTag(t, name, e.x, m, b, sample(28), data)
			checkTag(t, name, e.x, m, sample(29), b, nil)
		}
	}
}

func TestTagOfEveryNumberOfBytes(t *testing.T) {
	for name, e := range someTables() {
		m := modelOf(e.key)
		for n := range 300 {
			checkTag(t, name, e.x, m, sample(30), sample(31), bytesOf(30, n))
		}
	}
}

// With the offset that leaves nothing of the checksum and the dollar block, it is the
// star block and the hash.
func TestTagWithTheOffsetThatTakesItAway(t *testing.T) {
	for name, e := range someTables() {
		for _, n := range lengths {
			data := bytesOf(32, n)
			want := sum(e.x.Star(), hash.Sum(e.x, data))
			if got := seal.Tag(e.x, sample(32), sum(sample(32), e.x.Dollar()), data); got != want {
				t.Errorf("%s: the tag of %d bytes is %x, want %x", name, n, got, want)
			}
		}
	}
}

func TestTagWithoutData(t *testing.T) {
	for name, e := range someTables() {
		m := modelOf(e.key)
		for _, b := range someBlocks() {
			want := m.encrypt(sum(b, m.dollar))
			for _, data := range [][]byte{nil, {}, make([]byte, 0, 20)} {
				if got, other := seal.Tag(e.x, b, zeros, data), seal.Tag(e.x, zeros, b, data); got != want || other != want {
					t.Errorf("%s: the tags of %x without data are %x and %x, want %x", name, b, got, other, want)
				}
			}
		}
	}
}

// P12.3

func TestSize(t *testing.T) {
	for n, want := range map[int]int{
		0: 16, 1: 17, 5: 21, 15: 31, 16: 32, 17: 33, 31: 47, 32: 48, 1200: 1216,
		most - 1: most + 15, most: most + 16, math.MaxInt32 - 16: math.MaxInt32,
		-1: 0, -2: 0, -15: 0, -16: 0, -17: 0, -1200: 0, math.MinInt32 + 17: 0, math.MinInt + 1: 0, math.MinInt: 0,
	} {
		if got := seal.Size(n); got != want {
			t.Errorf("Size(%d) = %d, want %d", n, got, want)
		}
	}
	for n := range 5000 {
		if got, other := seal.Size(n), seal.Size(-n-1); got != n+16 || other != 0 {
			t.Errorf("Size(%d) = %d, Size(%d) = %d", n, got, -n-1, other)
		}
	}
}

func TestSizeIsThatOfASealedPlaintext(t *testing.T) {
	x := made(sample(33))
	for n := range 600 {
		if got := len(seal.Seal(x, nonceOf(33), nil, bytesOf(33, n))); got != seal.Size(n) {
			t.Errorf("%d bytes are sealed to %d, and Size is %d", n, got, seal.Size(n))
		}
	}
}

// P12.4

func TestPlaintextsOfTheSameLength(t *testing.T) {
	for name, e := range someTables() {
		for n := range 70 {
			for _, plain := range [][]byte{bytesOf(34, n), make([]byte, n), same(0x80, n), same(0xff, n)} {
				for _, a := range []int{0, 1, 16, 40} {
					if got := len(seal.Seal(e.x, nonceOf(uint32(a)), bytesOf(34, a), plain)); got != n+16 {
						t.Errorf("%s: %x is sealed to %d bytes", name, plain, got)
					}
				}
			}
		}
	}
}

// The tags for several data differ.
func TestCiphertextDoesNotDependOnTheData(t *testing.T) {
	for name, e := range someTables() {
		for _, n := range lengths {
			plain := bytesOf(35, n)
			out, _, _ := seal.Crypt(e.x, nonceOf(35), plain)
			met := map[string]int{}
			for a := range 70 {
				got := seal.Seal(e.x, nonceOf(35), bytesOf(36, a), plain)
				if !bytes.Equal(got[:n], out) {
					t.Errorf("%s: with %d bytes of data, the ciphertext of %x is %x, want %x", name, a, plain, got[:n], out)
				}
				if other, ok := met[string(got[n:])]; ok {
					t.Errorf("%s: with %d and %d bytes of data, the tag is %x", name, other, a, got[n:])
				}
				met[string(got[n:])] = a
			}
		}
	}
}

// What comes behind full parts does not change their ciphertext.
func TestPlaintextsThatBeginWithTheSameParts(t *testing.T) {
	for name, e := range someTables() {
		for parts := range 5 {
			n := 16 * parts
			want, _, _ := seal.Crypt(e.x, nonceOf(37), bytesOf(37, n))
			for more := range 40 {
				plain := append(bytesOf(37, n), bytesOf(uint32(40+more), more)...)
				got := seal.Seal(e.x, nonceOf(37), bytesOf(37, more), plain)
				if !bytes.Equal(got[:n], want) {
					t.Errorf("%s: with %d bytes behind %d, their ciphertext is %x, want %x", name, more, n, got[:n], want)
				}
			}
		}
	}
}

// The Rules

func TestNilAndEmpty(t *testing.T) {
	for name, e := range someTables() {
		some := bytesOf(38, 20)
		for _, c := range [][2][]byte{
			{seal.Seal(e.x, nonceOf(38), nil, some), seal.Seal(e.x, nonceOf(38), []byte{}, some)},
			{seal.Seal(e.x, nonceOf(38), some, nil), seal.Seal(e.x, nonceOf(38), some, []byte{})},
			{seal.Seal(e.x, nonceOf(38), nil, nil), seal.Seal(e.x, nonceOf(38), []byte{}, []byte{})},
		} {
			if !bytes.Equal(c[0], c[1]) {
				t.Errorf("%s: nil and empty slices are sealed to %x and %x", name, c[0], c[1])
			}
		}
	}
}

// What is behind the length of a slice is neither read nor changed.
func TestSlicesWithMoreCapacity(t *testing.T) {
	for name, e := range someTables() {
		m := modelOf(e.key)
		for n := range 70 {
			data, plain := bytesOf(39, 100), bytesOf(40, 100)
			check(t, name, e.x, m, nonceOf(39), data[:n], plain[:n])
			check(t, name, e.x, m, nonceOf(39), data[:70-n], plain[:n])
			if !bytes.Equal(data, bytesOf(39, 100)) || !bytes.Equal(plain, bytesOf(40, 100)) {
				t.Errorf("%s: with %d bytes, the slices are %x and %x", name, n, data, plain)
			}
		}
	}
}

func TestSlicesThatBeginInsideOthers(t *testing.T) {
	for name, e := range someTables() {
		m := modelOf(e.key)
		for from := range 33 {
			for _, n := range []int{0, 1, 15, 16, 17, 40} {
				long := bytesOf(41, 100)
				check(t, name, e.x, m, nonceOf(41), long[from:from+n], long[from+5:from+5+n])
				check(t, name, e.x, m, nonceOf(41), long[from:from+n:from+n], long[from:from+n:from+n])
				if !bytes.Equal(long, bytesOf(41, 100)) {
					t.Errorf("%s: after %d bytes from %d on, the slice is %x", name, n, from, long)
				}
			}
		}
	}
}

func TestArgumentsThatTheCallerChanges(t *testing.T) {
	for name, e := range someTables() {
		m := modelOf(e.key)
		for _, n := range lengths {
			nonce, data, plain := nonceOf(42), bytesOf(42, n), bytesOf(43, n)
			sealed := seal.Seal(e.x, nonce, data, plain)
			out, checksum, last := seal.Crypt(e.x, nonce, plain)
			tag := seal.Tag(e.x, checksum, last, data)
			for _, b := range [][]byte{nonce[:], data, plain} {
				for i := range b {
					b[i] ^= 0xff
				}
			}
			if want := m.seal(nonceOf(42), bytesOf(42, n), bytesOf(43, n)); !bytes.Equal(sealed, want) || !bytes.Equal(append(out, tag[:]...), want) {
				t.Errorf("%s: after the changes, the sealed plaintext is %x, and %x and %x, want %x", name, sealed, out, tag, want)
			}
			check(t, name, e.x, m, nonce, data, plain)
		}
	}
}

// Also what is appended to a result changes no other one.
func TestResultsThatTheCallerChanges(t *testing.T) {
	for name, e := range someTables() {
		m := modelOf(e.key)
		for _, n := range lengths {
			data, plain := bytesOf(44, n), bytesOf(45, n)
			sealed, again := seal.Seal(e.x, nonceOf(44), data, plain), seal.Seal(e.x, nonceOf(44), data, plain)
			out, _, _ := seal.Crypt(e.x, nonceOf(44), plain)
			more, _, _ := seal.Crypt(e.x, nonceOf(44), plain)
			for _, b := range [][]byte{sealed[:cap(sealed)], out[:cap(out)]} {
				for i := range b {
					b[i] ^= 0xff
				}
			}
			want := m.seal(nonceOf(44), bytesOf(44, n), bytesOf(45, n))
			if !bytes.Equal(again, want) || !bytes.Equal(more, want[:n]) || !bytes.Equal(data, bytesOf(44, n)) || !bytes.Equal(plain, bytesOf(45, n)) {
				t.Errorf("%s: after the changes of %d bytes, there are %x, %x, %x and %x", name, n, again, more, data, plain)
			}
			check(t, name, e.x, m, nonceOf(44), data, plain)
		}
	}
}

func TestCipherAndTableStayAsTheyAre(t *testing.T) {
	for name, e := range someTables() {
		c, star, dollar := e.x.Cipher(), e.x.Star(), e.x.Dollar()
		m := modelOf(e.key)
		check(t, name, e.x, m, nonceOf(46), bytesOf(46, 200), bytesOf(47, 200))
		if e.x.Cipher() != c || c.Key() != e.key || e.x.Star() != star || e.x.Dollar() != dollar {
			t.Errorf("%s: after its use, the table has the Cipher %p of the key %x and the blocks %x and %x", name, e.x.Cipher(), c.Key(), e.x.Star(), e.x.Dollar())
		}
		for i, want := range m.blocks {
			if got := e.x.At(i); got != want {
				t.Errorf("%s: after its use, the table has the block %d %x, want %x", name, i, got, want)
			}
		}
	}
}

// What was sealed before changes nothing.
func TestTablesSideBySide(t *testing.T) {
	l := someTables()
	for round := range 3 {
		for name, e := range l {
			m := modelOf(e.key)
			check(t, name, e.x, m, nonceOf(48), bytesOf(48, 20+31*round), bytesOf(49, 51))
			check(t, name, e.x, m, nonceOf(48), bytesOf(48, 20+31*round), bytesOf(49, 51))
		}
	}
}

func TestOneTableOfSeveralGoroutines(t *testing.T) {
	for name, e := range someTables() {
		data, plain := bytesOf(50, 77), bytesOf(51, 77)
		atOnce(func(k uint32) {
			m := modelOf(e.key)
			check(t, name, e.x, m, nonceOf(50), data, plain)
			check(t, name, e.x, m, nonceOf(k), bytesOf(k, int(9*k)), bytesOf(k+1, int(7*k)))
		})
	}
}

func TestTablesOfSeveralGoroutines(t *testing.T) {
	atOnce(func(k uint32) {
		for seed := range uint32(3) {
			key := sample(20*k + seed + 300)
			check(t, "made", made(key), modelOf(key), nonceOf(k), bytesOf(k, int(40*seed+k)), bytesOf(seed, int(31*seed+k)))
		}
	})
}
