package fast_test

import (
	"encoding/binary"
	"encoding/hex"
	"os"
	"os/exec"
	"runtime"
	"strings"
	"sync"
	"sync/atomic"
	"testing"

	"mooring/cipher"
	"mooring/fast"
)

// askers is how many goroutines ask at the same time.
const askers = 16

// zeros is the block and the key of zero bytes.
var zeros [16]byte

// blocks reads blocks that are written as hexadecimal numbers.
func blocks(t *testing.T, text string) [][16]byte {
	t.Helper()
	var l [][16]byte
	for _, number := range strings.Fields(text) {
		b, err := hex.DecodeString(number)
		if err != nil || len(b) != 16 {
			t.Fatalf("%s has %d bytes, %v", number, len(b), err)
		}
		l = append(l, [16]byte(b))
	}
	return l
}

// example is a block and what it is encrypted as.
type example struct{ key, block, end [16]byte }

// examples are those of FIPS 197, appendices B and C.1, those of NIST SP 800-38A
// for ECB, and the block of zero bytes under the key of zero bytes.
func examples(t *testing.T) []example {
	t.Helper()
	l := blocks(t, `
		00000000000000000000000000000000 00000000000000000000000000000000 66e94bd4ef8a2c3b884cfa59ca342b2e
		2b7e151628aed2a6abf7158809cf4f3c 3243f6a8885a308d313198a2e0370734 3925841d02dc09fbdc118597196a0b32
		000102030405060708090a0b0c0d0e0f 00112233445566778899aabbccddeeff 69c4e0d86a7b0430d8cdb78070b4c55a
		2b7e151628aed2a6abf7158809cf4f3c 6bc1bee22e409f96e93d7e117393172a 3ad77bb40d7a3660a89ecaf32466ef97
		2b7e151628aed2a6abf7158809cf4f3c ae2d8a571e03ac9c9eb76fac45af8e51 f5d3d58503b9699de785895a96fdbaaf
		2b7e151628aed2a6abf7158809cf4f3c 30c81c46a35ce411e5fbc1191a0a52ef 43b1cd7f598ece23881b00e3ed030688
		2b7e151628aed2a6abf7158809cf4f3c f69f2445df4f9b17ad2b417be66c3710 7b0c785e27e8ad3f8223207104725dd4`)
	var examples []example
	for i := 0; i < len(l); i += 3 {
		examples = append(examples, example{l[i], l[i+1], l[i+2]})
	}
	return examples
}

// sample returns bytes without any regularity that a sum could keep.
func sample(seed uint32) [16]byte {
	var b [16]byte
	x := seed
	for i := range b {
		x = x*1664525 + 1013904223
		b[i] = byte(x >> 24)
	}
	return b
}

// count has bytes that are all different.
func count(from byte) [16]byte {
	var b [16]byte
	for i := range b {
		b[i] = from + byte(i)
	}
	return b
}

// full has the same byte everywhere.
func full(x byte) [16]byte {
	var b [16]byte
	for i := range b {
		b[i] = x
	}
	return b
}

// with is a block whose byte with the index i is another one.
func with(b [16]byte, i int, x byte) [16]byte {
	b[i] = x
	return b
}

// someBlocks are all different, apart from a repetition of the first one. Each
// byte stands in each place of one of them, among zero bytes.
func someBlocks() [][16]byte {
	l := [][16]byte{zeros}
	for x := 1; x < 256; x++ {
		l = append(l, full(byte(x)))
		for i := range 16 {
			l = append(l, with(zeros, i, byte(x)))
		}
	}
	for seed := range uint32(300) {
		l = append(l, sample(seed))
	}
	return append(l, zeros)
}

// someKeys are all different. Each bit is set in one of them alone.
func someKeys() [][16]byte {
	l := [][16]byte{zeros, full(0xff), full(0x63), full(0x52), count(0), count(240)}
	for bit := range 128 {
		l = append(l, with(zeros, bit/8, 1<<(bit%8)))
	}
	for seed := range uint32(100) {
		l = append(l, sample(seed+1000))
	}
	return l
}

// unmade are the Ciphers that New has not made, which are those of the key of
// zero bytes.
func unmade() map[string]*fast.Cipher {
	return map[string]*fast.Cipher{"nil": nil, "zero": {}}
}

// check says what of a Cipher is wrong about a block, if anything is.
func check(t *testing.T, c *fast.Cipher, key, block [16]byte) {
	t.Helper()
	end, start := cipher.Encrypt(key, block), cipher.Decrypt(key, block)
	if got := c.Key(); got != key {
		t.Errorf("Key() = %x, want %x", got, key)
	}
	if got := c.Encrypt(block); got != end {
		t.Errorf("under the key %x, Encrypt(%x) = %x, want %x", key, block, got, end)
	}
	if got := c.Decrypt(block); got != start {
		t.Errorf("under the key %x, Decrypt(%x) = %x, want %x", key, block, got, start)
	}
	checkAll(t, c, key, block, start, block)
}

// checkAll says what of a Cipher is wrong about a list, if anything is.
func checkAll(t *testing.T, c *fast.Cipher, key [16]byte, l ...[16]byte) {
	t.Helper()
	got := c.All(l...)
	if len(got) != len(l) {
		t.Errorf("All of %d blocks has %d", len(l), len(got))
		return
	}
	for i, b := range l {
		if want := cipher.Encrypt(key, b); got[i] != want {
			t.Errorf("under the key %x, All(..)[%d] of %x = %x, want %x", key, i, b, got[i], want)
		}
	}
}

// atOnce calls in many goroutines. They wait for each other without sleeping, as
// they would not wake up at the same time.
func atOnce(call func(k uint32)) {
	var done sync.WaitGroup
	var ready atomic.Int32
	for k := range uint32(askers) {
		done.Go(func() {
			ready.Add(1)
			for ready.Load() < askers {
				runtime.Gosched()
			}
			call(k)
		})
	}
	done.Wait()
}

// P7.1

func TestKeyIsThatOfNew(t *testing.T) {
	for _, key := range someKeys() {
		c := fast.New(key)
		for range 2 {
			if got := c.Key(); got != key {
				t.Errorf("New(%x) has the key %x", key, got)
			}
		}
	}
}

func TestKeyStaysAfterUse(t *testing.T) {
	for _, key := range someKeys() {
		c := fast.New(key)
		c.Encrypt(count(1))
		c.Decrypt(count(2))
		c.All(count(3), count(4))
		if got := c.Key(); got != key {
			t.Errorf("New(%x) has the key %x after it was used", key, got)
		}
	}
}

func TestKeyOfCiphersThatNewHasNotMade(t *testing.T) {
	for name, c := range unmade() {
		if got := c.Key(); got != zeros {
			t.Errorf("the %s Cipher has the key %x", name, got)
		}
	}
}

func TestNewMakesOneCipherEach(t *testing.T) {
	c := fast.New(count(1))
	if d := fast.New(count(1)); c == d {
		t.Error("New returned the same Cipher twice")
	}
	if d := fast.New(zeros); d == nil || d == fast.New(zeros) {
		t.Error("New returned no Cipher of its own for the key of zero bytes")
	}
}

// P7.2

func TestEncryptAndDecryptOfExamples(t *testing.T) {
	for _, x := range examples(t) {
		c := fast.New(x.key)
		if got := c.Encrypt(x.block); got != x.end {
			t.Errorf("under the key %x, Encrypt(%x) = %x, want %x", x.key, x.block, got, x.end)
		}
		if got := c.Decrypt(x.end); got != x.block {
			t.Errorf("under the key %x, Decrypt(%x) = %x, want %x", x.key, x.end, got, x.block)
		}
	}
}

func TestEncryptOfZeroBytes(t *testing.T) {
	l := unmade()
	l["made"] = fast.New(zeros)
	for name, c := range l {
		if got := c.Encrypt(zeros); got[0] != 0x66 || got[1] != 0xe9 || got[2] != 0x4b {
			t.Errorf("the %s Cipher encrypts zero bytes as %x", name, got)
		}
	}
}

// Each result is the next block, and each block the next key. What the chains end
// with was computed with another program, the AES of Go's library.
func TestChains(t *testing.T) {
	for i, x := range []struct {
		next func(c *fast.Cipher, block [16]byte) [16]byte
		want string
	}{
		{(*fast.Cipher).Encrypt, "7a477e0741fdb22a47fca8bcf77ff4aa fdf42d6fc7a3aaee56d44e2053f50dbc"},
		{(*fast.Cipher).Decrypt, "db41bfb5b703135303199bc870ed3976 45d2dd9dd8eb4ce2f7d758a8bd5bb4ac"},
	} {
		key, block := zeros, zeros
		for range 1000 {
			key, block = block, x.next(fast.New(key), block)
		}
		if want := blocks(t, x.want); key != want[0] || block != want[1] {
			t.Errorf("the chain %d ends with %x %x, want %x", i, key, block, want)
		}
	}
}

func TestManyBlocksUnderAKey(t *testing.T) {
	key := sample(3000)
	c := fast.New(key)
	for _, b := range someBlocks() {
		if got, want := c.Encrypt(b), cipher.Encrypt(key, b); got != want {
			t.Errorf("Encrypt(%x) = %x, want %x", b, got, want)
		}
		if got, want := c.Decrypt(b), cipher.Decrypt(key, b); got != want {
			t.Errorf("Decrypt(%x) = %x, want %x", b, got, want)
		}
	}
}

func TestManyKeys(t *testing.T) {
	for i, key := range someKeys() {
		c := fast.New(key)
		for _, b := range [][16]byte{zeros, full(0xff), key, count(byte(i)), sample(uint32(i) + 4000)} {
			check(t, c, key, b)
		}
	}
}

func TestCiphersThatNewHasNotMade(t *testing.T) {
	for name, c := range unmade() {
		t.Run(name, func(t *testing.T) {
			check(t, c, zeros, zeros)
			for seed := range uint32(50) {
				check(t, c, zeros, sample(seed))
			}
		})
	}
}

// P7.3

func TestAllOfNoBlock(t *testing.T) {
	l := unmade()
	l["made"] = fast.New(count(1))
	for name, c := range l {
		for _, none := range [][][16]byte{c.All(), c.All(nil...), c.All([][16]byte{}...)} {
			if len(none) != 0 {
				t.Errorf("the %s Cipher encrypts no block as %x", name, none)
			}
		}
	}
}

func TestAllOfOneBlock(t *testing.T) {
	for _, x := range examples(t) {
		if got := fast.New(x.key).All(x.block); len(got) != 1 || got[0] != x.end {
			t.Errorf("under the key %x, All(%x) = %x, want %x", x.key, x.block, got, x.end)
		}
	}
}

func TestAllOfManyBlocks(t *testing.T) {
	key := sample(3001)
	c, l := fast.New(key), someBlocks()
	checkAll(t, c, key, l...)
	for i, got := range c.All(l...) {
		if want := c.Encrypt(l[i]); got != want {
			t.Errorf("All(..)[%d] = %x, Encrypt(%x) = %x", i, got, l[i], want)
		}
	}
}

func TestAllOfEachLength(t *testing.T) {
	key := sample(3002)
	c := fast.New(key)
	var l [][16]byte
	for seed := range uint32(40) {
		checkAll(t, c, key, l...)
		l = append(l, sample(seed))
	}
}

func TestAllOfBlocksThatAreRepeated(t *testing.T) {
	key, a, b := sample(3003), sample(1), sample(2)
	c := fast.New(key)
	checkAll(t, c, key, a, a, a)
	checkAll(t, c, key, a, b, a)
	checkAll(t, c, key, b, a, a, b)
	x, y := c.Encrypt(a), c.Encrypt(b)
	if got := c.All(a, b, b, a); len(got) != 4 || got[0] != x || got[1] != y || got[2] != y || got[3] != x {
		t.Errorf("All = %x, want %x and %x in order", got, x, y)
	}
}

func TestAllOfCiphersThatNewHasNotMade(t *testing.T) {
	for name, c := range unmade() {
		t.Run(name, func(t *testing.T) {
			checkAll(t, c, zeros, zeros)
			checkAll(t, c, zeros, count(1), zeros, count(2), count(1))
		})
	}
}

// P7.4

func TestEncryptAndDecryptInvertEachOther(t *testing.T) {
	for i, key := range someKeys() {
		c := fast.New(key)
		l := [][16]byte{zeros, full(0xff), key, count(byte(i)), sample(uint32(i) + 5000), with(zeros, i%16, byte(i))}
		for k, end := range c.All(l...) {
			b := l[k]
			if got := c.Decrypt(end); got != b {
				t.Errorf("under the key %x, Decrypt of what All makes of %x = %x", key, b, got)
			}
			if got := c.Decrypt(c.Encrypt(b)); got != b {
				t.Errorf("under the key %x, Decrypt(Encrypt(%x)) = %x", key, b, got)
			}
			if got := c.Encrypt(c.Decrypt(b)); got != b {
				t.Errorf("under the key %x, Encrypt(Decrypt(%x)) = %x", key, b, got)
			}
		}
	}
}

func TestCiphersThatNewHasNotMadeInvertThemselves(t *testing.T) {
	for name, c := range unmade() {
		for seed := range uint32(50) {
			b := sample(seed)
			if got := c.Decrypt(c.Encrypt(b)); got != b {
				t.Errorf("for the %s Cipher, Decrypt(Encrypt(%x)) = %x", name, b, got)
			}
			if got := c.Encrypt(c.Decrypt(b)); got != b {
				t.Errorf("for the %s Cipher, Encrypt(Decrypt(%x)) = %x", name, b, got)
			}
		}
	}
}

func TestManyBlocksThereAndBack(t *testing.T) {
	c := fast.New(sample(3004))
	b := zeros
	for range 100000 {
		end := c.Encrypt(b)
		if got := c.Decrypt(end); got != b {
			t.Fatalf("Decrypt(Encrypt(%x)) = %x", b, got)
		}
		b = end
	}
	for range 100000 {
		b = c.Decrypt(b)
	}
	if b != zeros {
		t.Errorf("100000 times there and back, zero bytes are %x", b)
	}
}

// The Rules

func TestCiphersSideBySide(t *testing.T) {
	l := someKeys()
	var ciphers []*fast.Cipher
	for _, key := range l {
		ciphers = append(ciphers, fast.New(key))
	}
	for round := range uint32(2) {
		for i, c := range ciphers {
			check(t, c, l[i], sample(round))
		}
	}
	a, b := fast.New(count(1)), fast.New(count(2))
	for seed := range uint32(20) {
		check(t, a, count(1), sample(seed))
		check(t, b, count(2), sample(seed))
		check(t, nil, zeros, sample(seed))
	}
}

func TestCallsInAnyOrder(t *testing.T) {
	key := sample(3005)
	c := fast.New(key)
	for seed := range uint32(50) {
		x := sample(seed)
		first := [3][16]byte{c.Encrypt(x), c.Decrypt(x), c.All(x)[0]}
		c.All(sample(seed+1), sample(seed+2))
		c.Encrypt(first[1])
		again := [3][16]byte{c.Encrypt(x), c.Decrypt(x), c.All(x)[0]}
		if first != again {
			t.Errorf("for %x, the results %x have become %x", x, first, again)
		}
	}
}

func TestKeyThatTheCallerChanges(t *testing.T) {
	key := sample(1)
	c := fast.New(key)
	for i := range key {
		key[i] ^= 0xff
	}
	check(t, c, sample(1), count(1))
	got := c.Key()
	for i := range got {
		got[i] ^= 0xff
	}
	check(t, c, sample(1), count(1))
}

func TestBlockAndResultThatTheCallerChanges(t *testing.T) {
	c, block := fast.New(sample(1)), sample(2)
	for _, call := range []func([16]byte) [16]byte{c.Encrypt, c.Decrypt} {
		got := call(block)
		want := got
		for i := range got {
			got[i] ^= 0xff
		}
		if again := call(block); again != want || block != sample(2) {
			t.Errorf("after a change of the result, that of %x is %x, want %x", block, again, want)
		}
		block = sample(3)
		call(block)
		block = sample(2)
		if again := call(block); again != want {
			t.Errorf("after a change of the block, the result is %x, want %x", again, want)
		}
	}
	check(t, c, sample(1), sample(2))
}

func TestListThatTheCallerChanges(t *testing.T) {
	c := fast.New(sample(1))
	whole := [][16]byte{count(1), count(2), count(3), count(4)}
	l := whole[:2]
	got := c.All(l...)
	if whole[0] != count(1) || whole[1] != count(2) || whole[2] != count(3) || whole[3] != count(4) {
		t.Errorf("the list and what is after it have become %x", whole)
	}
	l[0], l[1] = zeros, zeros
	if len(got) != 2 || got[0] != c.Encrypt(count(1)) || got[1] != c.Encrypt(count(2)) {
		t.Errorf("after a change of the list, its result is %x", got)
	}
}

func TestListsThatAreReturnedShareNothing(t *testing.T) {
	c := fast.New(sample(1))
	l := [][16]byte{count(1), count(2)}
	a, b := c.All(l...), c.All(l...)
	for i := range a {
		a[i] = zeros
	}
	a = append(a, zeros)
	if l[0] != count(1) || l[1] != count(2) {
		t.Errorf("after a change of %x, the list is %x", a, l)
	}
	if b[0] != c.Encrypt(l[0]) || b[1] != c.Encrypt(l[1]) {
		t.Errorf("after a change of %x, another result is %x", a, b)
	}
	checkAll(t, c, sample(1), l...)
}

func TestOneCipherOfSeveralGoroutines(t *testing.T) {
	key := sample(3006)
	for name, c := range map[string]*fast.Cipher{"made": fast.New(key), "zero": {}, "nil": nil} {
		want := key
		if name != "made" {
			want = zeros
		}
		atOnce(func(k uint32) {
			for seed := range uint32(20) {
				check(t, c, want, sample(20*k+seed))
			}
		})
	}
}

func TestCiphersOfSeveralGoroutines(t *testing.T) {
	atOnce(func(k uint32) {
		for seed := range uint32(20) {
			key := sample(20*k + seed + 6000)
			check(t, fast.New(key), key, sample(seed))
		}
	})
}

// column has the four bytes of a block from the index 0 on, the first one as the
// highest byte.
func column(b [16]byte) uint32 {
	return uint32(b[0])<<24 + uint32(b[1])<<16 + uint32(b[2])<<8 + uint32(b[3])
}

// checkTables says what of the tables is wrong, if anything is.
func checkTables(t *testing.T) {
	t.Helper()
	there, back := fast.Tables()
	for i := range 256 {
		s, root := cipher.Sub(full(byte(i)))[0], cipher.Unsub(full(byte(i)))[0]
		if want := column(cipher.Mix([16]byte{s})); there[i] != want {
			t.Errorf("the table there has %#08x for %#x, want %#08x", there[i], i, want)
		}
		if want := column(cipher.Unmix([16]byte{root})); back[i] != want {
			t.Errorf("the table back has %#08x for %#x, want %#08x", back[i], i, want)
		}
	}
}

func TestTablesHaveWhatTheStepsMake(t *testing.T) {
	for range 2 {
		checkTables(t)
	}
}

func TestTablesOfExamples(t *testing.T) {
	there, back := fast.Tables()
	if there[0] != 0xc66363a5 || there[1] != 0xf87c7c84 || there[0xff] != 0x2c16163a {
		t.Errorf("the table there has %#08x, %#08x .. %#08x", there[0], there[1], there[0xff])
	}
	if back[0] != 0x51f4a750 || back[1] != 0x7e416553 || back[0xff] != 0xd0b85742 || back[0x63] != 0 {
		t.Errorf("the table back has %#08x, %#08x .. %#08x .. %#08x", back[0], back[1], back[0x63], back[0xff])
	}
}

func TestTablesThatTheCallerChanges(t *testing.T) {
	there, back := fast.Tables()
	for i := range 256 {
		there[i], back[i] = ^there[i], ^back[i]
	}
	checkTables(t)
	check(t, fast.New(sample(1)), sample(1), sample(2))
}

func TestTablesOfSeveralGoroutines(t *testing.T) {
	atOnce(func(uint32) { checkTables(t) })
}

// firsts are the calls with which the use of the package may start.
func firsts() map[string]func() [16]byte {
	var none *fast.Cipher
	var zero fast.Cipher
	return map[string]func() [16]byte{
		"Encrypt":      func() [16]byte { return fast.New(count(1)).Encrypt(count(2)) },
		"Decrypt":      func() [16]byte { return fast.New(count(1)).Decrypt(count(2)) },
		"All":          func() [16]byte { return fast.New(count(1)).All(count(2))[0] },
		"Encrypt-nil":  func() [16]byte { return none.Encrypt(count(2)) },
		"Decrypt-nil":  func() [16]byte { return none.Decrypt(count(2)) },
		"All-nil":      func() [16]byte { return none.All(count(2))[0] },
		"Encrypt-zero": func() [16]byte { return zero.Encrypt(count(2)) },
		"Decrypt-zero": func() [16]byte { return zero.Decrypt(count(2)) },
		"All-zero":     func() [16]byte { return zero.All(count(2))[0] },
		"Tables":       firstTables,
		"Tables-used":  func() [16]byte { fast.New(count(1)).Decrypt(count(2)); return firstTables() },
	}
}

// firstTables are the first two columns of each table.
func firstTables() [16]byte {
	there, back := fast.Tables()
	var b [16]byte
	for i, w := range []uint32{there[0], there[1], back[0], back[1]} {
		binary.BigEndian.PutUint32(b[4*i:], w)
	}
	return b
}

// wanted is what such a call returns.
func wanted(name string) [16]byte {
	if strings.HasPrefix(name, "Tables") {
		return [16]byte{0xc6, 0x63, 0x63, 0xa5, 0xf8, 0x7c, 0x7c, 0x84, 0x51, 0xf4, 0xa7, 0x50, 0x7e, 0x41, 0x65, 0x53}
	}
	key := count(1)
	if strings.HasSuffix(name, "-nil") || strings.HasSuffix(name, "-zero") {
		key = zeros
	}
	if strings.HasPrefix(name, "Decrypt") {
		return cipher.Decrypt(key, count(2))
	}
	return cipher.Encrypt(key, count(2))
}

func TestCalledFirst(t *testing.T) {
	for name, call := range firsts() {
		t.Run(name, func(t *testing.T) {
			want := wanted(name)
			atOnce(func(k uint32) {
				if got := call(); got != want {
					t.Errorf("the goroutine %d got %x, want %x", k, got, want)
				}
			})
		})
	}
}

// A process has a single first call, and goroutines may miss each other in it.
func TestCalledFirstInManyProcesses(t *testing.T) {
	for name := range firsts() {
		for range 4 {
			out, err := exec.Command(os.Args[0], "-test.v", "-test.run=^TestCalledFirst$/^"+name+"$").CombinedOutput()
			if err != nil || !strings.Contains(string(out), "--- PASS: TestCalledFirst/"+name) {
				t.Fatalf("%s: %v\n%s", name, err, out)
			}
		}
	}
}
