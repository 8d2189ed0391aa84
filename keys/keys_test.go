package keys_test

import (
	"encoding/hex"
	"math"
	"strings"
	"sync"
	"testing"

	"mooring/field"
	"mooring/keys"
)

// zeros is what there is instead of a round key that there is none of.
var zeros [16]byte

// known has the round keys of some keys. Those of the first key are from
// FIPS 197, appendix A.1.
func known(t *testing.T) [][11][16]byte {
	t.Helper()
	return [][11][16]byte{
		rounds(t, `
			2b7e1516 28aed2a6 abf71588 09cf4f3c
			a0fafe17 88542cb1 23a33939 2a6c7605
			f2c295f2 7a96b943 5935807a 7359f67f
			3d80477d 4716fe3e 1e237e44 6d7a883b
			ef44a541 a8525b7f b671253b db0bad00
			d4d1c6f8 7c839d87 caf2b8bc 11f915bc
			6d88a37a 110b3efd dbf98641 ca0093fd
			4e54f70e 5f5fc9f3 84a64fb2 4ea6dc4f
			ead27321 b58dbad2 312bf560 7f8d292f
			ac7766f3 19fadc21 28d12941 575c006e
			d014f9a8 c9ee2589 e13f0cc8 b6630ca6`),
		rounds(t, `
			00000000 00000000 00000000 00000000
			62636363 62636363 62636363 62636363
			9b9898c9 f9fbfbaa 9b9898c9 f9fbfbaa
			90973450 696ccffa f2f45733 0b0fac99
			ee06da7b 876a1581 759e42b2 7e91ee2b
			7f2e2b88 f8443e09 8dda7cbb f34b9290
			ec614b85 1425758c 99ff0937 6ab49ba7
			21751787 3550620b acaf6b3c c61bf09b
			0ef90333 3ba96138 97060a04 511dfa9f
			b1d4d8e2 8a7db9da 1d7bb3de 4c664941
			b4ef5bcb 3e92e211 23e951cf 6f8f188e`),
		rounds(t, `
			ffffffff ffffffff ffffffff ffffffff
			e8e9e9e9 17161616 e8e9e9e9 17161616
			adaeae19 bab8b80f 525151e6 454747f0
			090e2277 b3b69a78 e1e7cb9e a4a08c6e
			e16abd3e 52dc2746 b33becd8 179b60b6
			e5baf3ce b766d488 045d3850 13c658e6
			71d07db3 c6b6a93b c2eb916b d12dc98d
			e90d208d 2fbb89b6 ed5018dd 3c7dd150
			96337366 b988fad0 54d8e20d 68a5335d
			8bf03f23 3278c5f3 66a027fe 0e0514a3
			d60a3588 e472f07b 82d2d785 8cd7c326`),
		rounds(t, `
			00010203 04050607 08090a0b 0c0d0e0f
			d6aa74fd d2af72fa daa678f1 d6ab76fe
			b692cf0b 643dbdf1 be9bc500 6830b3fe
			b6ff744e d2c2c9bf 6c590cbf 0469bf41
			47f7f7bc 95353e03 f96c32bc fd058dfd
			3caaa3e8 a99f9deb 50f3af57 adf622aa
			5e390f7d f7a69296 a7553dc1 0aa31f6b
			14f9701a e35fe28c 440adf4d 4ea9c026
			47438735 a41c65b9 e016baf4 aebf7ad2
			549932d1 f0855768 1093ed9c be2c974e
			13111d7f e3944a17 f307a78b 4d2b30c5`),
	}
}

// rounds reads round keys that are written as hexadecimal words.
func rounds(t *testing.T, text string) [11][16]byte {
	t.Helper()
	b, err := hex.DecodeString(strings.Join(strings.Fields(text), ""))
	if err != nil || len(b) != 176 {
		t.Fatalf("%d bytes, %v", len(b), err)
	}
	var l [11][16]byte
	for i := range b {
		l[i/16][i%16] = b[i]
	}
	return l
}

// box is the S-box, bit by bit as the chapter of layer 4 defines it.
func box(b byte) byte {
	x := field.Inverse(b)
	sum := byte(0)
	for i := range 8 {
		bit := byte(0x63) >> i
		for _, k := range []int{0, 4, 5, 6, 7} {
			bit ^= x >> ((i + k) % 8)
		}
		sum |= bit & 1 << i
	}
	return sum
}

// constants are the constants 1 to 10, at their indices.
func constants() [11]byte {
	return [11]byte{0, 0x01, 0x02, 0x04, 0x08, 0x10, 0x20, 0x40, 0x80, 0x1b, 0x36}
}

// wordBytes makes the bytes of the words one by one, as the chapter defines
// them.
func wordBytes(key [16]byte) [44][4]byte {
	var w [44][4]byte
	for i := range w {
		if i < 4 {
			w[i] = [4]byte(key[4*i:])
			continue
		}
		x := w[i-1]
		if i%4 == 0 {
			x = [4]byte{box(x[1]) ^ constants()[i/4], box(x[2]), box(x[3]), box(x[0])}
		}
		for k := range x {
			w[i][k] = w[i-4][k] ^ x[k]
		}
	}
	return w
}

// expansion has the round keys that the words have the bytes of.
func expansion(key [16]byte) [11][16]byte {
	var l [11][16]byte
	for i, w := range wordBytes(key) {
		copy(l[i/4][4*(i%4):], w[:])
	}
	return l
}

// sample returns bytes without any regularity that a sum could keep.
func sample(seed uint32) [16]byte {
	var b [16]byte
	x := seed
	for i := range b {
		x = x*1664525 + 1013904223
		b[i] = byte(x >> 24)
	}
	return b
}

// keysOfOneBit have a single bit that is set, or one that is not.
func keysOfOneBit() [][16]byte {
	var l [][16]byte
	for bit := range 128 {
		var one, rest [16]byte
		one[bit/8] = 1 << (bit % 8)
		for i := range rest {
			rest[i] = ^one[i]
		}
		l = append(l, one, rest)
	}
	return l
}

// someKeys are keys without any regularity, and those that have most of it.
// They are all different.
func someKeys() [][16]byte {
	l := keysOfOneBit()
	for i := range 256 {
		var same, first, end [16]byte
		for k := range same {
			same[k] = byte(i)
		}
		first[0], end[15] = byte(i), byte(i)
		l = append(l, same, first, end)
	}
	for seed := range uint32(300) {
		l = append(l, sample(seed))
	}
	return unique(l)
}

// unique leaves the repetitions out.
func unique(l [][16]byte) [][16]byte {
	var rest [][16]byte
	seen := map[[16]byte]bool{}
	for _, key := range l {
		if !seen[key] {
			rest = append(rest, key)
		}
		seen[key] = true
	}
	return rest
}

// others are rounds that there are none of, for Next and for Restore.
func others() []int {
	l := []int{math.MinInt, math.MinInt + 1, math.MinInt32, math.MaxInt32, math.MaxInt32 + 1, math.MaxInt - 1, math.MaxInt}
	for r := range 11 {
		l = append(l, r+math.MinInt, r-1<<32, r-65536, r-256, r-11, r+256, r+65536, r+1<<32)
	}
	for r := 11; r < 300; r++ {
		l = append(l, r, 10-r)
	}
	return l
}

// check says what of the package is wrong about a key, if anything is.
func check(t *testing.T, key [16]byte) {
	t.Helper()
	want := expansion(key)
	if got := keys.Expand(key); got != want {
		t.Errorf("Expand(%x) = %x, want %x", key, got, want)
	}
	words := keys.Words(key)
	for i, b := range wordBytes(key) {
		if w := uint32(b[0])<<24 + uint32(b[1])<<16 + uint32(b[2])<<8 + uint32(b[3]); words[i] != w {
			t.Errorf("the word %d of %x is %08x, want %08x", i, key, words[i], w)
		}
	}
	for r := range 11 {
		if got, ok := keys.Restore(r, want[r]); got != key || !ok {
			t.Errorf("Restore(%d, %x) = %x, %t, want %x", r, want[r], got, ok, key)
		}
	}
	for r := range 10 {
		if got, ok := keys.Next(r, want[r]); got != want[r+1] || !ok {
			t.Errorf("Next(%d, %x) = %x, %t, want %x", r, want[r], got, ok, want[r+1])
		}
	}
}

// P5.1

func TestExpandOfExamples(t *testing.T) {
	for _, want := range known(t) {
		got := keys.Expand(want[0])
		for r := range want {
			if got[r] != want[r] {
				t.Errorf("the round key %d of %x is %x, want %x", r, want[0], got[r], want[r])
			}
		}
	}
}

func TestExpandOfTheKeyOfZeroBytes(t *testing.T) {
	if got := keys.Expand(zeros); got[0] != zeros || got[1][0] != 0x62 {
		t.Errorf("the round keys are %x", got)
	}
}

func TestExpandOfManyKeys(t *testing.T) {
	for _, key := range someKeys() {
		if got := keys.Expand(key); got != expansion(key) {
			t.Errorf("Expand(%x) = %x, want %x", key, got, expansion(key))
		}
	}
}

func TestWordsOfExamples(t *testing.T) {
	for _, want := range known(t) {
		words := keys.Words(want[0])
		for i, w := range words {
			for k := range 4 {
				if got := byte(w >> (24 - 8*k)); got != want[i/4][4*(i%4)+k] {
					t.Errorf("the byte %d of the word %d of %x is %#x, want %#x", k, i, want[0], got, want[i/4][4*(i%4)+k])
				}
			}
		}
	}
}

func TestWordsOfTheKeyOfTheStandard(t *testing.T) {
	words := keys.Words(known(t)[0][0])
	for i, want := range map[int]uint32{0: 0x2b7e1516, 1: 0x28aed2a6, 2: 0xabf71588, 3: 0x09cf4f3c, 4: 0xa0fafe17, 7: 0x2a6c7605, 36: 0xac7766f3, 40: 0xd014f9a8, 43: 0xb6630ca6} {
		if words[i] != want {
			t.Errorf("the word %d is %08x, want %08x", i, words[i], want)
		}
	}
}

func TestWordsOfManyKeys(t *testing.T) {
	for _, key := range someKeys() {
		words := keys.Words(key)
		for i, b := range wordBytes(key) {
			if got := [4]byte{byte(words[i] >> 24), byte(words[i] >> 16), byte(words[i] >> 8), byte(words[i])}; got != b {
				t.Errorf("the word %d of %x has the bytes %x, want %x", i, key, got, b)
			}
		}
	}
}

func TestConstants(t *testing.T) {
	for i, want := range constants() {
		if got := keys.Constant(i); got != want {
			t.Errorf("Constant(%d) = %#x, want %#x", i, got, want)
		}
		if i > 0 && want != field.Power(2, i-1) {
			t.Errorf("the power %d of 2 is %#x", i-1, field.Power(2, i-1))
		}
	}
}

func TestConstantsThatThereAreNot(t *testing.T) {
	for _, i := range append(others(), -1, 0, 11, 12, 52, 255, 256, 257, 266) {
		if got := keys.Constant(i); got != 0 {
			t.Errorf("Constant(%d) = %#x", i, got)
		}
	}
}

// P5.2

func TestNextOfExamples(t *testing.T) {
	for _, want := range known(t) {
		for r := range 10 {
			if got, ok := keys.Next(r, want[r]); got != want[r+1] || !ok {
				t.Errorf("Next(%d, %x) = %x, %t, want %x", r, want[r], got, ok, want[r+1])
			}
		}
	}
}

func TestNextIsTheRoundKeyOfTheSameKey(t *testing.T) {
	for _, round := range someKeys() {
		for r := range 10 {
			key, _ := keys.Restore(r, round)
			l := expansion(key)
			if got, ok := keys.Next(r, round); l[r] != round || got != l[r+1] || !ok {
				t.Errorf("Next(%d, %x) = %x, %t, want %x", r, round, got, ok, l[r+1])
			}
		}
	}
}

func TestNextOfOtherRounds(t *testing.T) {
	for _, want := range known(t) {
		for _, r := range append(others(), -2, -1, 10, 11) {
			for _, round := range [][16]byte{want[0], want[9], want[10]} {
				if got, ok := keys.Next(r, round); got != zeros || ok {
					t.Errorf("Next(%d, %x) = %x, %t", r, round, got, ok)
				}
			}
		}
	}
}

// P5.3

func TestRestoreOfExamples(t *testing.T) {
	for _, l := range known(t) {
		for r := range l {
			if got, ok := keys.Restore(r, l[r]); got != l[0] || !ok {
				t.Errorf("Restore(%d, %x) = %x, %t, want %x", r, l[r], got, ok, l[0])
			}
		}
	}
}

func TestRestoreOfAllRoundKeys(t *testing.T) {
	for _, round := range someKeys() {
		for r := range 11 {
			key, ok := keys.Restore(r, round)
			if !ok || expansion(key)[r] != round {
				t.Errorf("Restore(%d, %x) = %x, %t, and the round key of this is %x", r, round, key, ok, expansion(key)[r])
			}
		}
	}
}

func TestRestoreOfOtherRounds(t *testing.T) {
	for _, l := range known(t) {
		for _, r := range append(others(), -2, -1, 11, 12) {
			for _, round := range [][16]byte{l[0], l[1], l[10]} {
				if got, ok := keys.Restore(r, round); got != zeros || ok {
					t.Errorf("Restore(%d, %x) = %x, %t", r, round, got, ok)
				}
			}
		}
	}
}

// P5.4

func TestRestoreInvertsExpand(t *testing.T) {
	for _, key := range someKeys() {
		for r, round := range keys.Expand(key) {
			if got, ok := keys.Restore(r, round); got != key || !ok {
				t.Errorf("Restore(%d, %x) = %x, %t, want %x", r, round, got, ok, key)
			}
		}
	}
}

func TestExpandInvertsRestore(t *testing.T) {
	for _, round := range someKeys() {
		for r := range 11 {
			key, ok := keys.Restore(r, round)
			if got := keys.Expand(key)[r]; got != round || !ok {
				t.Errorf("the round key %d of %x is %x, want %x", r, key, got, round)
			}
		}
	}
}

func TestDifferentKeysHaveDifferentRoundKeys(t *testing.T) {
	var owners [11]map[[16]byte][16]byte
	for r := range owners {
		owners[r] = map[[16]byte][16]byte{}
	}
	for _, key := range someKeys() {
		for r, round := range keys.Expand(key) {
			if other, ok := owners[r][round]; ok {
				t.Errorf("%x and %x have the same round key %d", key, other, r)
			}
			owners[r][round] = key
		}
	}
}

func TestKeysThatDifferInOneBitHaveDifferentRoundKeys(t *testing.T) {
	for seed := range uint32(20) {
		key := sample(seed)
		l := keys.Expand(key)
		for bit := range 128 {
			other := key
			other[bit/8] ^= 1 << (bit % 8)
			for r, round := range keys.Expand(other) {
				if round == l[r] {
					t.Errorf("%x and %x have the same round key %d", key, other, r)
				}
			}
		}
	}
}

// The Rules

func TestResultsThatTheCallerChanges(t *testing.T) {
	for _, l := range known(t) {
		rounds, words := keys.Expand(l[0]), keys.Words(l[0])
		next, _ := keys.Next(3, l[3])
		key, _ := keys.Restore(4, l[4])
		for i := range rounds {
			rounds[i] = [16]byte{0: 1, 15: 255}
		}
		for i := range words {
			words[i] = math.MaxUint32
		}
		for i := range next {
			next[i], key[i] = 0xaa, 0x55
		}
		check(t, l[0])
		if keys.Expand(l[0]) != l {
			t.Errorf("the round keys of %x have become %x", l[0], keys.Expand(l[0]))
		}
	}
}

func TestArgumentsStayAsTheyAre(t *testing.T) {
	for _, key := range known(t) {
		l := key
		keys.Expand(l[0])
		keys.Words(l[0])
		for r := range l {
			keys.Next(r, l[r])
			keys.Restore(r, l[r])
		}
		if l != key {
			t.Errorf("the round keys have become %x, they were %x", l, key)
		}
	}
}

func TestFunctionsAreCalledConcurrently(t *testing.T) {
	var done sync.WaitGroup
	for k := range uint32(16) {
		done.Go(func() {
			for seed := range uint32(20) {
				check(t, sample(20*k+seed))
			}
		})
	}
	done.Wait()
}
