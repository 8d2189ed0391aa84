package open_test

import (
	"bytes"
	"encoding/hex"
	"errors"
	"runtime"
	"slices"
	"strings"
	"sync"
	"sync/atomic"
	"testing"

	"mooring/api"
	"mooring/cipher"
	"mooring/fast"
	"mooring/offset"
	"mooring/open"
	"mooring/seal"
	"mooring/table"
)

// askers is how many goroutines ask at the same time.
const askers = 16

// most is the greatest number of bytes that the chapter names.
const most = 1 << 24

// zeros is the block and the key of zero bytes.
var zeros [16]byte

// published is the key of the examples of RFC 7253.
var published = [16]byte{0, 1, 2, 3, 4, 5, 6, 7, 8, 9, 10, 11, 12, 13, 14, 15}

// lengths are those that the chapter's rules turn on, of plaintexts and of data.
var lengths = []int{0, 1, 5, 15, 16, 17, 31, 32, 33, 48, 100}

// fields reads bytes that are written as hexadecimal numbers.
func fields(t *testing.T, text string) [][]byte {
	t.Helper()
	var l [][]byte
	for _, number := range strings.Fields(text) {
		b, err := hex.DecodeString(number)
		if err != nil {
			t.Fatalf("%s: %v", number, err)
		}
		l = append(l, b)
	}
	return l
}

// bytesOf returns n bytes without any regularity that a sum could keep. Those of a
// smaller n are their first ones.
func bytesOf(seed uint32, n int) []byte {
	l := make([]byte, n)
	x := seed*2654435761 + 1
	for i := range l {
		x = x*1664525 + 1013904223
		l[i] = byte(x >> 24)
	}
	return l
}

// sample is such a block.
func sample(seed uint32) [16]byte {
	return [16]byte(bytesOf(seed, 16))
}

// nonceOf is such a nonce.
func nonceOf(seed uint32) [12]byte {
	return [12]byte(bytesOf(seed, 12))
}

// count returns the bytes 0, 1, 2 and so on.
func count(n int) []byte {
	l := make([]byte, n)
	for i := range l {
		l[i] = byte(i)
	}
	return l
}

// same returns n bytes that are all b.
func same(b byte, n int) []byte {
	return bytes.Repeat([]byte{b}, n)
}

// turned returns bytes with one bit changed.
func turned(b []byte, bit int) []byte {
	l := slices.Clone(b)
	l[bit/8] ^= 0x80 >> (bit % 8)
	return l
}

// sum is the exclusive or of some blocks.
func sum(l ...[16]byte) [16]byte {
	var s [16]byte
	for _, b := range l {
		for i := range s {
			s[i] ^= b[i]
		}
	}
	return s
}

// someNonces have each bit alone, the ends, all last bits, and no regularity.
func someNonces() [][12]byte {
	l := [][12]byte{{}, [12]byte(same(0xff, 12))}
	for bit := range 96 {
		l = append(l, [12]byte(turned(make([]byte, 12), bit)))
	}
	for n := range 65 {
		near := nonceOf(50)
		near[11] = byte(n)
		l = append(l, near, nonceOf(uint32(n+60)))
	}
	return l
}

// sides are Tables, each with its key.
type sides map[string]struct {
	x   *table.Table
	key [16]byte
}

// someTables have a nil Table, and Tables of a nil Cipher, of a zero one, and of
// several keys. The first four have the key of zero bytes.
func someTables() sides {
	return sides{
		"nil Table":            {nil, zeros},
		"table of nil":         {table.New(nil), zeros},
		"table of a zero one":  {table.New(&fast.Cipher{}), zeros},
		"table of zero bytes":  {made(zeros), zeros},
		"table of RFC 7253":    {made(published), published},
		"table of some key":    {made(sample(1)), sample(1)},
		"table of another key": {made(sample(2)), sample(2)},
	}
}

// made is the table of a key.
func made(key [16]byte) *table.Table {
	return table.New(fast.New(key))
}

// atOnce calls in many goroutines. They wait for each other without sleeping, as
// they would not wake up at the same time.
func atOnce(call func(k uint32)) {
	var done sync.WaitGroup
	var ready atomic.Int32
	for k := range uint32(askers) {
		done.Go(func() {
			ready.Add(1)
			for ready.Load() < askers {
				runtime.Gosched()
			}
			call(k)
		})
	}
	done.Wait()
}

// checkOpened says whether bytes are not opened to a plaintext.
func checkOpened(t *testing.T, name string, x *table.Table, nonce [12]byte, data, sealed, plain []byte) {
	t.Helper()
	got, err := open.Open(x, nonce, data, sealed)
	if err != nil || !bytes.Equal(got, plain) {
		t.Errorf("%s: Open(%x, %x, %x) = %x, %v, want %x", name, nonce, data, sealed, got, err, plain)
	}
	if !open.Right(x, nonce, data, sealed) {
		t.Errorf("%s: Right(%x, %x, %x) = false", name, nonce, data, sealed)
	}
}

// checkRefused says whether bytes are opened, or refused with anything else than a
// code.
func checkRefused(t *testing.T, name string, x *table.Table, nonce [12]byte, data, sealed []byte, code api.Code) {
	t.Helper()
	got, err := open.Open(x, nonce, data, sealed)
	if len(got) != 0 || err != error(code) {
		t.Errorf("%s: Open(%x, %x, %x) = %x, %v, want %v", name, nonce, data, sealed, got, err, code)
	}
	if open.Right(x, nonce, data, sealed) {
		t.Errorf("%s: Right(%x, %x, %x) = true", name, nonce, data, sealed)
	}
}

// checkWay says whether a plaintext does not come back from sealing and from
// crypting.
func checkWay(t *testing.T, name string, x *table.Table, nonce [12]byte, data, plain []byte) {
	t.Helper()
	checkOpened(t, name, x, nonce, data, seal.Seal(x, nonce, data, plain), plain)
	text, wantChecksum, wantLast := seal.Crypt(x, nonce, plain)
	got, checksum, last := open.Decrypt(x, nonce, text)
	if !bytes.Equal(got, plain) || checksum != wantChecksum || last != wantLast {
		t.Errorf("%s: Decrypt(%x, %x) = %x, %x, %x, want %x, %x, %x", name, nonce, text, got, checksum, last, plain, wantChecksum, wantLast)
	}
}

// checkBack says whether a text does not come back from being decrypted.
func checkBack(t *testing.T, name string, x *table.Table, nonce [12]byte, text []byte) {
	t.Helper()
	plain, checksum, last := open.Decrypt(x, nonce, text)
	got, wantChecksum, wantLast := seal.Crypt(x, nonce, plain)
	if !bytes.Equal(got, text) || checksum != wantChecksum || last != wantLast {
		t.Errorf("%s: Decrypt(%x, %x) = %x, %x, %x, which is crypted to %x, %x, %x", name, nonce, text, plain, checksum, last, got, wantChecksum, wantLast)
	}
}

// P13.1

// RFC 7253 prints these, with the nonces that end with 0, 1, 2 and so on.
func TestOpenOfPublishedExamples(t *testing.T) {
	x := made(published)
	for i, e := range []struct {
		data, plain int
		text        string
	}{
		{0, 0, "785407bfffc8ad9edcc5520ac9111ee6"},
		{8, 8, "6820b3657b6f615a5725bda0d3b4eb3a257c9af1f8f03009"},
		{8, 0, "81017f8203f081277152fade694a0a00"},
		{0, 8, "45dd69f8f5aae72414054cd1f35d82760b2cd00d2f99bfa9"},
		{16, 16, "571d535b60b277188be5147170a9a22c3ad7a4ff3835b8c5701c1ccec8fc3358"},
		{16, 0, "8cf761b6902ef764462ad86498ca6b97"},
		{0, 16, "5ce88ec2e0692706a915c00aeb8b2396f40e1c743f52436bdf06d8fa1eca343d"},
		{24, 24, "1ca2207308c87c010756104d8840ce1952f09673a448a122c92c62241051f57356d7f3c90bb0e07f"},
		{24, 0, "6dc225a071fc1b9f7c69f93b0f1e10de"},
		{0, 24, "221bd0de7fa6fe993eccd769460a0af2d6cded0c395b1c3ce725f32494b9f914d85c0b1eb38357ff"},
		{32, 32, "bd6f6c496201c69296c11efd138a467abd3c707924b964deaffc40319af5a48540fbba186c5553c68ad9f592a79a4240"},
		{32, 0, "fe80690bee8a485d11f32965bc9d2a32"},
		{0, 32, "2942bfc773bda23cabc6acfd9bfd5835bd300f0973792ef46040c53f1432bcdfb5e1dde3bc18a5f840b52e653444d5df"},
		{40, 40, "d5ca91748410c1751ff8a2f618255b68a0a12e093ff454606e59f9c1d0ddc54b65e8628e568bad7aed07ba06a4a69483a7035490c5769e60"},
		{40, 0, "c5cd9d1850c141e358649994ee701b68"},
		{0, 40, "4412923493c57d5de0d700f753cce0d1d2d95060122e9f15a5ddbfc5787e50b5cc55ee507bcb084e479ad363ac366b95a98ca5f3000b1479"},
	} {
		nonce := [12]byte{0xbb, 0xaa, 0x99, 0x88, 0x77, 0x66, 0x55, 0x44, 0x33, 0x22, 0x11, byte(i)}
		checkOpened(t, "table of RFC 7253", x, nonce, count(e.data), fields(t, e.text)[0], count(e.plain))
	}
}

// They were computed with another program, by the AES-128-OCB of Node.js. The first
// field is the key.
func TestOpenOfExamples(t *testing.T) {
	numbers := []int{0, 1, 5, 15, 16, 17, 31, 32, 33, 48}
	l := fields(t, `
		00000000000000000000000000000000
		335a4eaa3132516bee2a38609905e7cb
		27995059726410ead473d1a4d844bf70d5
		bd066d8a398c5686e00f3d023570df6429b0ee740a
		64fe77f67fc575a03dee4797d9583e78944075271d9accb3cc2ed3f848576b
		b569d0bd836a7fa095a5283c6644807f06843484d641cf913565b9db9c616776
		d0ffb9d1b5a61c67174fd0ba325929cc6cdc7966c5f56750de9003175ca82bb4f0
		e40a02658e62cdb509bebf99baf24edab49cf169e8d3acd7e780da28ca01ee49fc5c0209307e203f0bf3521ac2a748
		afdad8a8c9159349e00439b5465450d9851cbc305e1d78666a18fe93b1d32116392ec0749a1d52675bb02f852e9b9683
		c36a33daa3b588a70ebd17598e46a386b1e526930aa5c6144f383c5867edd7d14fbc36c2eb3949553d29cfb5058e7dcd2e
		dd687806738b03573e1f15dd1d59e73357572c31c03e1b27e8c5747fcbbbfc0ebd0b5c738eeaadbc45e08fd420d46f45c1ecef98fa6aa2518c4df2f770ce927e
		2b7e151628aed2a6abf7158809cf4f3c
		46b9a9648d1445a6e047dc273beffa7e
		1a8e0ff71c36ef8e521cd1c018cdc6f2a4
		2cfc2826549b2631d64926749c5f9245ce9b58590e
		5764b45468375125a6e03bcc3cc58f5e09ad52d8ef71045a1d45ba95463248
		f55ee681480383ad6a6cfefe15fe99dbdb23fc6bb2d0e1f8ca679b5f0707bc79
		78368d0c29f140a3d3e5090f8fb30dcfd10a78683d371c328c382ca27d58287d11
		ebcff92276d9e6188c2b46e9a6ed5f65db30f324961b948eeaf49b48dba2dd19dd9b8c3979cd564f5e4c4780d8b6a1
		d408bd250cbf8d8c40430d5cb03c51ce857b6e7e9de4ea5c1a49cb22eebd930f06dd5ebc7367619ce1d5702e296e2981
		eec5fe419d601ef24e7162aa7e543895c7056e14ae49be711702a7a1936c8614b99abfabcde3393923d568e7bb8a38a322
		a163aa0e2f23d933d4de96e8a162ce5541e6eaeac7505294986f1f831f7fcd76b3072056b5b02d70a04d08fe93848e9af36c9aad2de8d0620dcd170abd6354bd`)
	for ; len(l) > 0; l = l[1+len(numbers):] {
		x := made([16]byte(l[0]))
		for i, n := range numbers {
			data := bytesOf(1, numbers[len(numbers)-1-i])
			checkOpened(t, "made", x, nonceOf(uint32(i)), data, l[1+i], bytesOf(2, n))
		}
	}
}

// It does not matter what the bytes are, nor what stands behind them.
func TestOpenOfTooFewBytes(t *testing.T) {
	for name, e := range someTables() {
		for n := range 16 {
			for i, data := range [][]byte{nil, {}, bytesOf(3, 5), bytesOf(3, 40)} {
				nonce := nonceOf(uint32(i))
				sealed := seal.Seal(e.x, nonce, data, bytesOf(3, n))
				tag := seal.Seal(e.x, nonce, data, nil)
				for _, short := range [][]byte{sealed[:n], sealed[len(sealed)-n:], tag[:n], tag[16-n:], tag[:n:n], make([]byte, n), same(0xff, n), bytesOf(4, n)} {
					checkRefused(t, name, e.x, nonce, data, short, api.Short)
				}
			}
		}
		for _, none := range [][]byte{nil, {}, make([]byte, 0, 40), bytesOf(3, 40)[40:]} {
			checkRefused(t, name, e.x, nonceOf(3), nil, none, api.Short)
			checkRefused(t, name, e.x, nonceOf(3), bytesOf(3, 16), none, api.Short)
			checkRefused(t, name, e.x, nonceOf(3), none, none, api.Short)
		}
	}
}

// Of all bytes of this number, only the tag of no plaintext is opened.
func TestOpenOfSixteenBytes(t *testing.T) {
	for name, e := range someTables() {
		for i, n := range lengths {
			nonce, data := nonceOf(uint32(i)), bytesOf(5, n)
			tag := seal.Seal(e.x, nonce, data, nil)
			checkOpened(t, name, e.x, nonce, data, tag, nil)
			for bit := range 128 {
				checkRefused(t, name, e.x, nonce, data, turned(tag, bit), api.Auth)
			}
			sealed := seal.Seal(e.x, nonce, data, bytesOf(5, n+1))
			for _, other := range [][]byte{make([]byte, 16), same(0xff, 16), bytesOf(6, 16), same(tag[0], 16), sealed[:16], sealed[n+1:]} {
				checkRefused(t, name, e.x, nonce, data, other, api.Auth)
			}
		}
	}
}

func TestOpenOfTheLengthsThatMatter(t *testing.T) {
	for name, e := range someTables() {
		for i, a := range lengths {
			for k, n := range lengths {
				checkWay(t, name, e.x, nonceOf(uint32(16*i+k)), bytesOf(7, a), bytesOf(8, n))
			}
		}
	}
}

func TestOpenOfEveryNumberOfBytes(t *testing.T) {
	nonce, some := nonceOf(9), bytesOf(9, 21)
	for name, e := range someTables() {
		for n := range 300 {
			plain, data := bytesOf(10, n), bytesOf(11, n)
			checkWay(t, name, e.x, nonce, nil, plain)
			checkWay(t, name, e.x, nonce, some, plain)
			checkWay(t, name, e.x, nonce, data, nil)
			checkWay(t, name, e.x, nonce, data, some)
			checkWay(t, name, e.x, nonce, data, plain)
		}
	}
}

// The last ones are neither left out nor taken for others: the part 2^20 is the only
// one here with the block 20.
func TestOpenOfVeryManyBytes(t *testing.T) {
	t.Parallel()
	x, nonce, data, plain := made(published), nonceOf(12), bytesOf(12, 5), bytesOf(13, most)
	sealed := seal.Seal(x, nonce, data, plain)
	if got, err := open.Open(x, nonce, data, sealed); err != nil || !bytes.Equal(got, plain) {
		t.Errorf("Open returns %d bytes and %v", len(got), err)
	}
	sealed[most-1] ^= 1
	if got, err := open.Open(x, nonce, data, sealed); len(got) != 0 || err != error(api.Auth) {
		t.Errorf("with the last one changed, Open returns %d bytes and %v", len(got), err)
	}
}

func TestOpenWithVeryManyBytesOfData(t *testing.T) {
	t.Parallel()
	x, nonce, plain := made(published), nonceOf(12), bytesOf(13, 17)
	for _, n := range []int{most - 1, most} {
		data := bytesOf(12, n)
		sealed := seal.Seal(x, nonce, data, plain)
		if got, err := open.Open(x, nonce, data, sealed); err != nil || !bytes.Equal(got, plain) {
			t.Errorf("with %d bytes, Open returns %x and %v", n, got, err)
		}
		data[n-1] ^= 1
		if got, err := open.Open(x, nonce, data, sealed); len(got) != 0 || err != error(api.Auth) {
			t.Errorf("with %d bytes, the last one changed, Open returns %x and %v", n, got, err)
		}
	}
}

func TestOpenOfBytesThatAreAllTheSame(t *testing.T) {
	for name, e := range someTables() {
		for _, b := range []byte{0, 1, 0x7f, 0x80, 0xff} {
			for _, n := range lengths {
				checkWay(t, name, e.x, nonceOf(14), same(b, n), same(b, n))
				checkWay(t, name, e.x, [12]byte(same(b, 12)), same(b, n), same(b, n))
				checkRefused(t, name, e.x, nonceOf(14), same(b, n), same(b, n+16), api.Auth)
			}
		}
	}
}

func TestOpenWithManyNonces(t *testing.T) {
	for name, e := range someTables() {
		for i, nonce := range someNonces() {
			checkWay(t, name, e.x, nonce, bytesOf(15, 5), bytesOf(16, i%50))
		}
	}
}

func TestOpenUnderManyKeys(t *testing.T) {
	for seed := range uint32(40) {
		x := made(sample(seed + 200))
		for _, n := range lengths {
			checkWay(t, "made", x, nonceOf(seed), bytesOf(seed, n), bytesOf(seed+1, 2*n))
		}
	}
}

// Each bit of the ciphertext and of the tag decides.
func TestOpenOfBytesWithOneBitChanged(t *testing.T) {
	for name, e := range someTables() {
		for _, n := range lengths {
			for _, data := range [][]byte{nil, bytesOf(17, n)} {
				sealed := seal.Seal(e.x, nonceOf(17), data, bytesOf(18, n))
				for bit := range 8 * len(sealed) {
					if n > 33 && bit%8 != bit/8%8 {
						continue
					}
					checkRefused(t, name, e.x, nonceOf(17), data, turned(sealed, bit), api.Auth)
				}
				checkOpened(t, name, e.x, nonceOf(17), data, sealed, bytesOf(18, n))
			}
		}
	}
}

// Each byte of the tag decides alone and with others: what differs in one is not made
// up for by another one.
func TestOpenWithATagWithSomeBytesChanged(t *testing.T) {
	x, data, plain := made(sample(19)), bytesOf(19, 9), bytesOf(19, 21)
	sealed := seal.Seal(x, nonceOf(19), data, plain)
	for i := range 16 {
		for k := range i {
			for _, change := range []byte{1, 0x80, 0xff} {
				bad := slices.Clone(sealed)
				bad[21+i] ^= change
				bad[21+k] ^= change
				checkRefused(t, "made", x, nonceOf(19), data, bad, api.Auth)
			}
		}
		bad := slices.Clone(sealed)
		for k := range i + 1 {
			bad[21+k] ^= 0xff
		}
		checkRefused(t, "made", x, nonceOf(19), data, bad, api.Auth)
	}
}

func TestOpenWithOtherData(t *testing.T) {
	for name, e := range someTables() {
		for _, a := range lengths {
			for _, n := range []int{0, 5, 16, 33} {
				data := bytesOf(20, a)
				sealed := seal.Seal(e.x, nonceOf(20), data, bytesOf(21, n))
				for bit := 0; bit < 8*a; bit += 3 {
					checkRefused(t, name, e.x, nonceOf(20), turned(data, bit), sealed, api.Auth)
				}
				for more := 1; more < 20; more++ {
					checkRefused(t, name, e.x, nonceOf(20), bytesOf(20, a+more), sealed, api.Auth)
					checkRefused(t, name, e.x, nonceOf(20), append(bytesOf(20, a), make([]byte, more)...), sealed, api.Auth)
				}
				for less := range a {
					checkRefused(t, name, e.x, nonceOf(20), data[:less], sealed, api.Auth)
				}
			}
		}
	}
}

// Also one that differs only in its last bits, and so has the same top.
func TestOpenWithAnotherNonce(t *testing.T) {
	for name, e := range someTables() {
		for i, n := range lengths {
			nonce, data := nonceOf(uint32(22+i)), bytesOf(22, n)
			sealed := seal.Seal(e.x, nonce, data, bytesOf(23, n))
			for bit := range 96 {
				checkRefused(t, name, e.x, [12]byte(turned(nonce[:], bit)), data, sealed, api.Auth)
			}
			for last := range 64 {
				near := nonce
				near[11] ^= byte(last)
				if near != nonce {
					checkRefused(t, name, e.x, near, data, sealed, api.Auth)
				}
			}
			checkRefused(t, name, e.x, [12]byte{}, data, sealed, api.Auth)
		}
	}
}

func TestOpenUnderAnotherKey(t *testing.T) {
	for i, n := range lengths {
		key, data := sample(uint32(24+i)), bytesOf(24, n)
		sealed := seal.Seal(made(key), nonceOf(24), data, bytesOf(25, n))
		for bit := range 128 {
			checkRefused(t, "made", made([16]byte(turned(key[:], bit))), nonceOf(24), data, sealed, api.Auth)
		}
		for name, e := range someTables() {
			checkRefused(t, name, e.x, nonceOf(24), data, sealed, api.Auth)
		}
	}
}

func TestOpenOfMoreBytes(t *testing.T) {
	for name, e := range someTables() {
		for _, n := range lengths {
			data := bytesOf(26, n)
			sealed := seal.Seal(e.x, nonceOf(26), data, bytesOf(27, n))
			for more := 1; more < 50; more++ {
				for _, behind := range [][]byte{make([]byte, more), bytesOf(28, more)} {
					checkRefused(t, name, e.x, nonceOf(26), data, append(slices.Clone(sealed), behind...), api.Auth)
					checkRefused(t, name, e.x, nonceOf(26), data, append(slices.Clone(behind), sealed...), api.Auth)
				}
			}
			checkRefused(t, name, e.x, nonceOf(26), data, append(slices.Clone(sealed), sealed...), api.Auth)
			checkRefused(t, name, e.x, nonceOf(26), data, append(slices.Clone(sealed), sealed[n:]...), api.Auth)
		}
	}
}

// Without its last bytes, what is left ends with others than the tag, even where it is
// long enough.
func TestOpenOfFewerBytes(t *testing.T) {
	for name, e := range someTables() {
		for _, n := range lengths {
			data := bytesOf(29, n)
			sealed := seal.Seal(e.x, nonceOf(29), data, bytesOf(30, n))
			for k := range len(sealed) {
				code := api.Auth
				if k < 16 {
					code = api.Short
				}
				checkRefused(t, name, e.x, nonceOf(29), data, sealed[:k], code)
				checkRefused(t, name, e.x, nonceOf(29), data, sealed[len(sealed)-k:], code)
			}
			for k := range n {
				checkRefused(t, name, e.x, nonceOf(29), data, slices.Delete(slices.Clone(sealed), k, k+1), api.Auth)
				checkRefused(t, name, e.x, nonceOf(29), data, slices.Delete(slices.Clone(sealed), k, n), api.Auth)
			}
		}
	}
}

func TestOpenOfPartsThatAreExchanged(t *testing.T) {
	x, data := made(sample(31)), bytesOf(31, 10)
	for _, n := range []int{96, 101} {
		sealed := seal.Seal(x, nonceOf(31), data, bytesOf(31, n))
		for i := range 6 {
			for k := range i {
				moved := slices.Clone(sealed)
				copy(moved[16*i:], sealed[16*k:16*k+16])
				copy(moved[16*k:], sealed[16*i:16*i+16])
				checkRefused(t, "made", x, nonceOf(31), data, moved, api.Auth)
			}
		}
	}
}

// A tag is for one ciphertext, even where the data and the nonce are the same.
func TestOpenOfATagOfAnotherPlaintext(t *testing.T) {
	for name, e := range someTables() {
		for i, n := range lengths[1:] {
			data := bytesOf(32, n)
			one := seal.Seal(e.x, nonceOf(32), data, bytesOf(33, n))
			other := seal.Seal(e.x, nonceOf(32), data, bytesOf(uint32(34+i), n))
			checkRefused(t, name, e.x, nonceOf(32), data, append(slices.Clone(one[:n]), other[n:]...), api.Auth)
			checkRefused(t, name, e.x, nonceOf(32), data, append(slices.Clone(other[:n]), one[n:]...), api.Auth)
		}
	}
}

// A rest and its padded block have the same checksum, but not the same tag.
func TestOpenOfARestAndOfItsPaddedBlock(t *testing.T) {
	for name, e := range someTables() {
		for n := range 16 {
			short := append(bytesOf(35, 16), bytesOf(36, n)...)
			long := append(slices.Clone(short), append([]byte{0x80}, make([]byte, 15-n)...)...)
			one, other := seal.Seal(e.x, nonceOf(35), nil, short), seal.Seal(e.x, nonceOf(35), nil, long)
			checkOpened(t, name, e.x, nonceOf(35), nil, one, short)
			checkOpened(t, name, e.x, nonceOf(35), nil, other, long)
			checkRefused(t, name, e.x, nonceOf(35), nil, append(slices.Clone(one[:len(short)]), other[len(long):]...), api.Auth)
			checkRefused(t, name, e.x, nonceOf(35), nil, append(slices.Clone(other[:len(long)]), one[len(short):]...), api.Auth)
		}
	}
}

func TestOpenOfAnyBytes(t *testing.T) {
	for name, e := range someTables() {
		for n := 16; n < 300; n++ {
			data := bytesOf(uint32(n), n%40)
			checkRefused(t, name, e.x, nonceOf(37), data, bytesOf(38, n), api.Auth)
			checkRefused(t, name, e.x, nonceOf(uint32(n)), nil, bytesOf(uint32(n), n), api.Auth)
			checkRefused(t, name, e.x, nonceOf(37), data, make([]byte, n), api.Auth)
		}
	}
}

// Both errors are codes themselves, so that errors.As and errors.Is find them.
func TestErrorsAreCodes(t *testing.T) {
	x := made(sample(39))
	for n := range 40 {
		want := api.Auth
		if n < 16 {
			want = api.Short
		}
		_, err := open.Open(x, nonceOf(39), nil, bytesOf(39, n))
		var code api.Code
		if !errors.As(err, &code) || code != want || !errors.Is(err, want) {
			t.Errorf("%d bytes have the error %v, want %v", n, err, want)
		}
		var fault api.Fault
		if errors.As(err, &fault) {
			t.Errorf("%d bytes have the api.Fault %v", n, fault)
		}
	}
}

// P13.2

func TestDecryptOfNoBytes(t *testing.T) {
	for name, e := range someTables() {
		for _, text := range [][]byte{nil, {}, make([]byte, 0, 40), bytesOf(40, 40)[40:]} {
			for _, nonce := range someNonces() {
				plain, checksum, last := open.Decrypt(e.x, nonce, text)
				if want := offset.Start(e.x, nonce); len(plain) != 0 || checksum != zeros || last != want {
					t.Errorf("%s: Decrypt(%x, no bytes) = %x, %x, %x, want %x", name, nonce, plain, checksum, last, want)
				}
			}
		}
	}
}

// It is done here as sealing is defined, with the steps of the cipher and the offsets
// by their numbers.
func TestDecryptBySteps(t *testing.T) {
	for name, e := range someTables() {
		for n := range 70 {
			text, nonce := bytesOf(41, n), nonceOf(uint32(n))
			var want []byte
			checksum, end := zeros, offset.At(e.x, nonce, n/16)
			for i := range n / 16 {
				o := offset.At(e.x, nonce, i+1)
				part := sum(o, cipher.Decrypt(e.key, sum(o, [16]byte(text[16*i:]))))
				want = append(want, part[:]...)
				checksum = sum(checksum, part)
			}
			if n%16 > 0 {
				end = sum(end, e.x.Star())
				mask := cipher.Encrypt(e.key, end)
				for i, b := range text[n/16*16:] {
					want = append(want, b^mask[i])
				}
				padded := append(slices.Clone(want[n/16*16:]), 0x80)
				checksum = sum(checksum, [16]byte(append(padded, make([]byte, 15-n%16)...)))
			}
			plain, got, last := open.Decrypt(e.x, nonce, text)
			if !bytes.Equal(plain, want) || got != checksum || last != end {
				t.Errorf("%s: Decrypt(%x, %x) = %x, %x, %x, want %x, %x, %x", name, nonce, text, plain, got, last, want, checksum, end)
			}
		}
	}
}

func TestDecryptOfAnyBytes(t *testing.T) {
	for name, e := range someTables() {
		for n := range 300 {
			checkBack(t, name, e.x, nonceOf(uint32(n)), bytesOf(42, n))
			checkBack(t, name, e.x, nonceOf(43), make([]byte, n))
			checkBack(t, name, e.x, nonceOf(43), same(0x80, n))
			checkBack(t, name, e.x, nonceOf(43), same(0xff, n))
		}
	}
}

func TestDecryptWithManyNonces(t *testing.T) {
	for name, e := range someTables() {
		for i, nonce := range someNonces() {
			checkBack(t, name, e.x, nonce, bytesOf(44, i%50))
		}
	}
}

func TestDecryptOfAllBytes(t *testing.T) {
	x := made(sample(45))
	for b := range 256 {
		checkBack(t, "made", x, nonceOf(45), []byte{byte(b)})
		for _, n := range []int{14, 15, 16, 30, 31, 32} {
			checkBack(t, "made", x, nonceOf(45), append(bytesOf(45, n), byte(b)))
			checkWay(t, "made", x, nonceOf(45), nil, append(bytesOf(45, n), byte(b)))
		}
	}
}

// Bytes of the plaintext that look like those of a padded block stay.
func TestDecryptOfRestsThatLookPadded(t *testing.T) {
	for name, e := range someTables() {
		for n := range 16 {
			for mark := range n {
				rest := bytesOf(46, n)
				clear(rest[mark:])
				checkWay(t, name, e.x, nonceOf(46), nil, rest)
				rest[mark] = 0x80
				checkWay(t, name, e.x, nonceOf(46), nil, rest)
				checkWay(t, name, e.x, nonceOf(46), nil, append(bytesOf(47, 32), rest...))
			}
		}
	}
}

func TestDecryptOfManyParts(t *testing.T) {
	x, nonce := made(sample(48)), nonceOf(48)
	text := bytesOf(48, 1<<20+32)
	for _, n := range []int{1<<20 - 16, 1<<20 - 1, 1 << 20, 1<<20 + 21} {
		plain, checksum, last := open.Decrypt(x, nonce, text[:n])
		got, wantChecksum, wantLast := seal.Crypt(x, nonce, plain)
		if !bytes.Equal(got, text[:n]) || checksum != wantChecksum || last != wantLast {
			t.Errorf("after %d bytes, Decrypt returns %d, %x, %x, want %x, %x", n, len(plain), checksum, last, wantChecksum, wantLast)
		}
	}
}

func TestDecryptOfManyBytesOfTheKeyOfZeroBytes(t *testing.T) {
	nonce, text := nonceOf(49), bytesOf(49, 1<<18+3)
	want, wantChecksum, wantLast := open.Decrypt(made(zeros), nonce, text)
	for name, e := range someTables() {
		if e.key != zeros {
			continue
		}
		if got, checksum, last := open.Decrypt(e.x, nonce, text); !bytes.Equal(got, want) || checksum != wantChecksum || last != wantLast {
			t.Errorf("%s: Decrypt of %d bytes returns %d others, or %x, %x, want %x, %x", name, len(text), len(got), checksum, last, wantChecksum, wantLast)
		}
	}
}

// What comes behind full parts does not change what they are decrypted to.
func TestTextsThatBeginWithTheSameParts(t *testing.T) {
	for name, e := range someTables() {
		for n := 0; n < 80; n += 16 {
			want, _, _ := open.Decrypt(e.x, nonceOf(50), bytesOf(50, n))
			for more := range 40 {
				text := append(bytesOf(50, n), bytesOf(uint32(51+more), more)...)
				if got, _, _ := open.Decrypt(e.x, nonceOf(50), text); len(got) != n+more || !bytes.Equal(got[:n], want) {
					t.Errorf("%s: with %d bytes behind %d, Decrypt returns %x, which should begin with %x", name, more, n, got, want)
				}
			}
		}
	}
}

// P13.3

func TestRight(t *testing.T) {
	for name, e := range someTables() {
		for n := range 100 {
			nonce, data := nonceOf(uint32(n)), bytesOf(52, n%30)
			sealed := seal.Seal(e.x, nonce, data, bytesOf(53, n))
			for _, c := range []struct {
				sealed []byte
				want   bool
			}{
				{sealed, true}, {turned(sealed, 5*n%(8*n+128)), false}, {turned(sealed, 8*n+127), false},
				{sealed[:n], false}, {sealed[:15], false}, {sealed[:n+15], false}, {nil, false}, {bytesOf(54, n), false},
			} {
				_, err := open.Open(e.x, nonce, data, c.sealed)
				if got := open.Right(e.x, nonce, data, c.sealed); got != c.want || got != (err == nil) {
					t.Errorf("%s: Right(%x, %x, %x) = %t, want %t, with Open's error %v", name, nonce, data, c.sealed, got, c.want, err)
				}
			}
		}
	}
}

// P13.4

// Any bytes are a ciphertext, and with the tag that makes them a sealed plaintext, and
// with no other one near it, they are opened.
func TestOpenOfAnyTextWithItsTag(t *testing.T) {
	for name, e := range someTables() {
		for n := range 70 {
			nonce, data, text := nonceOf(uint32(n)), bytesOf(55, n), bytesOf(56, n)
			plain, checksum, last := open.Decrypt(e.x, nonce, text)
			tag := seal.Tag(e.x, checksum, last, data)
			sealed := append(text, tag[:]...)
			checkOpened(t, name, e.x, nonce, data, sealed, plain)
			if got := seal.Seal(e.x, nonce, data, plain); !bytes.Equal(got, sealed) {
				t.Errorf("%s: %x is opened to %x, which is sealed to %x", name, sealed, plain, got)
			}
			for bit := n % 7; bit < 128; bit += 7 {
				checkRefused(t, name, e.x, nonce, data, turned(sealed, 8*n+bit), api.Auth)
			}
		}
	}
}

// What is sealed is opened with the same key, nonce and data, and with no others of
// them.
func TestOpenOfWhatWasSealedWithOthers(t *testing.T) {
	type side struct {
		x     *table.Table
		key   [16]byte
		nonce [12]byte
		data  string
	}
	var l []side
	for _, key := range [][16]byte{zeros, published, sample(57)} {
		for _, nonce := range [][12]byte{{}, {11: 1}, {11: 64}, nonceOf(57)} {
			for _, data := range []string{"", "\x00", "\x80", string(bytesOf(57, 16)), string(bytesOf(57, 17))} {
				l = append(l, side{made(key), key, nonce, data})
			}
		}
	}
	for i, a := range l {
		for _, n := range []int{0, 5, 16, 33} {
			sealed := seal.Seal(a.x, a.nonce, []byte(a.data), bytesOf(58, n))
			for k, b := range l {
				if i == k {
					checkOpened(t, "made", b.x, b.nonce, []byte(b.data), sealed, bytesOf(58, n))
				} else {
					checkRefused(t, "made", b.x, b.nonce, []byte(b.data), sealed, api.Auth)
				}
			}
		}
	}
}

// Tables of the same key open what the others have sealed.
func TestOpenWithAnotherTableOfTheKey(t *testing.T) {
	l := someTables()
	for name, e := range l {
		for other, f := range l {
			for _, n := range lengths {
				sealed := seal.Seal(f.x, nonceOf(59), bytesOf(59, n), bytesOf(60, n))
				if e.key == f.key {
					checkOpened(t, name+" and "+other, e.x, nonceOf(59), bytesOf(59, n), sealed, bytesOf(60, n))
				} else {
					checkRefused(t, name+" and "+other, e.x, nonceOf(59), bytesOf(59, n), sealed, api.Auth)
				}
			}
		}
	}
}

// The Rules

func TestNilAndEmpty(t *testing.T) {
	for name, e := range someTables() {
		for _, data := range [][]byte{nil, {}, make([]byte, 0, 20)} {
			for _, plain := range [][]byte{nil, {}, bytesOf(61, 20)} {
				sealed := seal.Seal(e.x, nonceOf(61), nil, plain)
				checkOpened(t, name, e.x, nonceOf(61), data, sealed, plain)
			}
		}
	}
}

// What is behind the length of a slice is neither read nor changed.
func TestSlicesWithMoreCapacity(t *testing.T) {
	for name, e := range someTables() {
		for n := range 70 {
			sealed := seal.Seal(e.x, nonceOf(62), bytesOf(62, 70-n), bytesOf(63, n))
			data, long := bytesOf(62, 100), append(slices.Clone(sealed), bytesOf(64, 50)...)
			want := slices.Clone(long)
			checkOpened(t, name, e.x, nonceOf(62), data[:70-n], long[:n+16], bytesOf(63, n))
			checkRefused(t, name, e.x, nonceOf(62), data[:70-n], long[:n+17], api.Auth)
			checkBack(t, name, e.x, nonceOf(62), long[:n])
			if !bytes.Equal(data, bytesOf(62, 100)) || !bytes.Equal(long, want) {
				t.Errorf("%s: with %d bytes, the slices are %x and %x", name, n, data, long)
			}
		}
	}
}

// The data may also be a part of what is opened.
func TestSlicesThatBeginInsideOthers(t *testing.T) {
	for name, e := range someTables() {
		for from := 1; from < 34; from++ {
			for _, n := range []int{0, 1, 15, 16, 17, 40} {
				data := bytesOf(65, from)
				sealed := seal.Seal(e.x, nonceOf(65), data, bytesOf(66, n))
				long := append(append(slices.Clone(data), sealed...), bytesOf(67, 20)...)
				want := slices.Clone(long)
				checkOpened(t, name, e.x, nonceOf(65), long[:from], long[from:from+n+16], bytesOf(66, n))
				checkRefused(t, name, e.x, nonceOf(65), long[:from+1], long[from:from+n+16], api.Auth)
				checkRefused(t, name, e.x, nonceOf(65), long[from:from+n+16], long[from:from+n+16], api.Auth)
				checkBack(t, name, e.x, nonceOf(65), long[from:from+n])
				if !bytes.Equal(long, want) {
					t.Errorf("%s: after %d bytes from %d on, the slice is %x", name, n, from, long)
				}
			}
		}
	}
}

func TestArgumentsThatTheCallerChanges(t *testing.T) {
	for name, e := range someTables() {
		for _, n := range lengths {
			nonce, data := nonceOf(68), bytesOf(68, n)
			sealed := seal.Seal(e.x, nonce, data, bytesOf(69, n))
			text := slices.Clone(sealed[:n])
			opened, err := open.Open(e.x, nonce, data, sealed)
			plain, _, _ := open.Decrypt(e.x, nonce, text)
			for _, b := range [][]byte{nonce[:], data, sealed, text} {
				for i := range b {
					b[i] ^= 0xff
				}
			}
			if err != nil || !bytes.Equal(opened, bytesOf(69, n)) || !bytes.Equal(plain, opened) {
				t.Errorf("%s: after the changes of %d bytes, the plaintexts are %x and %x, and the error %v", name, n, opened, plain, err)
			}
			checkRefused(t, name, e.x, nonce, data, sealed, api.Auth)
		}
	}
}

// Also what is appended to a result changes nothing else.
func TestResultsThatTheCallerChanges(t *testing.T) {
	for name, e := range someTables() {
		for _, n := range lengths {
			nonce, data := nonceOf(70), bytesOf(70, n)
			sealed := seal.Seal(e.x, nonce, data, bytesOf(71, n))
			want := slices.Clone(sealed)
			opened, _ := open.Open(e.x, nonce, data, sealed)
			again, _ := open.Open(e.x, nonce, data, sealed)
			plain, _, _ := open.Decrypt(e.x, nonce, sealed[:n])
			more, _, _ := open.Decrypt(e.x, nonce, sealed[:n])
			for _, b := range [][]byte{opened[:cap(opened)], plain[:cap(plain)]} {
				for i := range b {
					b[i] ^= 0xff
				}
			}
			if !bytes.Equal(again, bytesOf(71, n)) || !bytes.Equal(more, again) || !bytes.Equal(sealed, want) || !bytes.Equal(data, bytesOf(70, n)) {
				t.Errorf("%s: after the changes of %d bytes, there are %x, %x, %x and %x", name, n, again, more, sealed, data)
			}
			checkWay(t, name, e.x, nonce, data, bytesOf(71, n))
		}
	}
}

func TestCipherAndTableStayAsTheyAre(t *testing.T) {
	for name, e := range someTables() {
		c, star, dollar, first := e.x.Cipher(), e.x.Star(), e.x.Dollar(), e.x.At(0)
		checkWay(t, name, e.x, nonceOf(72), bytesOf(72, 200), bytesOf(73, 200))
		checkRefused(t, name, e.x, nonceOf(72), bytesOf(72, 200), bytesOf(73, 200), api.Auth)
		if e.x.Cipher() != c || c.Key() != e.key || e.x.Star() != star || e.x.Dollar() != dollar || e.x.At(0) != first {
			t.Errorf("%s: after its use, the table has the Cipher %p of the key %x and the blocks %x, %x and %x", name, e.x.Cipher(), c.Key(), e.x.Star(), e.x.Dollar(), e.x.At(0))
		}
	}
}

// What was opened or refused before changes nothing.
func TestTablesSideBySide(t *testing.T) {
	l := someTables()
	for round := range 3 {
		for name, e := range l {
			data, plain := bytesOf(74, 20+31*round), bytesOf(75, 51)
			sealed := seal.Seal(e.x, nonceOf(74), data, plain)
			checkRefused(t, name, e.x, nonceOf(74), data, sealed[:50], api.Auth)
			checkOpened(t, name, e.x, nonceOf(74), data, sealed, plain)
			checkRefused(t, name, e.x, nonceOf(74), data, sealed[:5], api.Short)
			checkOpened(t, name, e.x, nonceOf(74), data, sealed, plain)
		}
	}
}

func TestOneTableOfSeveralGoroutines(t *testing.T) {
	for name, e := range someTables() {
		data, plain := bytesOf(76, 77), bytesOf(77, 77)
		sealed := seal.Seal(e.x, nonceOf(76), data, plain)
		atOnce(func(k uint32) {
			checkOpened(t, name, e.x, nonceOf(76), data, sealed, plain)
			checkRefused(t, name, e.x, nonceOf(76), data, turned(sealed, int(17*k)), api.Auth)
			checkWay(t, name, e.x, nonceOf(k), bytesOf(k, int(9*k)), bytesOf(k+1, int(7*k)))
		})
	}
}

func TestTablesOfSeveralGoroutines(t *testing.T) {
	atOnce(func(k uint32) {
		for seed := range uint32(3) {
			x := made(sample(20*k + seed + 300))
			checkWay(t, "made", x, nonceOf(k), bytesOf(k, int(40*seed+k)), bytesOf(seed, int(31*seed+k)))
		}
	})
}
