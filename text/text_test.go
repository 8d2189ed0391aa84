package text_test

import (
	"bytes"
	"errors"
	"math"
	"math/big"
	"slices"
	"strings"
	"sync"
	"testing"

	"mooring/api"
	"mooring/fault"
	"mooring/text"
)

// askers is how many goroutines ask at the same time.
const askers = 16

// zeros is the key of zero bytes.
var zeros [16]byte

// known are keys with the texts that the Base64 of Node.js gives, without its two
// characters = at the end.
var known = []struct {
	key [16]byte
	s   string
}{
	{zeros, strings.Repeat("A", 22)},
	{ones(), "/////////////////////w"},
	{[16]byte{0, 1, 2, 3, 4, 5, 6, 7, 8, 9, 10, 11, 12, 13, 14, 15}, "AAECAwQFBgcICQoLDA0ODw"},
	{[16]byte{0x2b, 0x7e, 0x15, 0x16, 0x28, 0xae, 0xd2, 0xa6, 0xab, 0xf7, 0x15, 0x88, 0x09, 0xcf, 0x4f, 0x3c}, "K34VFiiu0qar9xWICc9PPA"},
	{[16]byte{0x00, 0x11, 0x22, 0x33, 0x44, 0x55, 0x66, 0x77, 0x88, 0x99, 0xaa, 0xbb, 0xcc, 0xdd, 0xee, 0xff}, "ABEiM0RVZneImaq7zN3u/w"},
	{[16]byte{0xfb, 0xef, 0xbe, 0xfb, 0xef, 0xbe, 0xfb, 0xef, 0xbe, 0xfb, 0xef, 0xbe, 0xfb, 0xef, 0xbe, 0xfb}, "+++++++++++++++++++++w"},
	{[16]byte{0xff, 0xfe, 0xfd, 0xfc, 0xfb, 0xfa, 0xf9, 0xf8, 0xf7, 0xf6, 0xf5, 0xf4, 0xf3, 0xf2, 0xf1, 0xf0}, "//79/Pv6+fj39vX08/Lx8A"},
	{[16]byte{0x01, 0x23, 0x45, 0x67, 0x89, 0xab, 0xcd, 0xef, 0xfe, 0xdc, 0xba, 0x98, 0x76, 0x54, 0x32, 0x10}, "ASNFZ4mrze/+3LqYdlQyEA"},
	{[16]byte{0xde, 0xad, 0xbe, 0xef, 0xca, 0xfe, 0xba, 0xbe, 0x0b, 0xad, 0xf0, 0x0d, 0xfe, 0xed, 0xfa, 0xce}, "3q2+78r+ur4LrfAN/u36zg"},
	{[16]byte{0: 0x80}, "g" + strings.Repeat("A", 21)},
	{[16]byte{15: 1}, strings.Repeat("A", 21) + "Q"},
	{[16]byte{15: 0xff}, strings.Repeat("A", 20) + "/w"},
}

// ones is the key of 16 bytes 255.
func ones() [16]byte {
	return [16]byte(bytes.Repeat([]byte{0xff}, 16))
}

// bytesOf returns n bytes without any regularity.
func bytesOf(seed uint32, n int) []byte {
	l := make([]byte, n)
	x := seed*2654435761 + 1
	for i := range l {
		x = x*1664525 + 1013904223
		l[i] = byte(x >> 24)
	}
	return l
}

// sample is such a key.
func sample(seed uint32) [16]byte {
	return [16]byte(bytesOf(seed, 16))
}

// characters returns those with the values 0 to 63, in order.
func characters() []byte {
	var l []byte
	for _, ends := range []string{"AZ", "az", "09", "++", "//"} {
		for c := ends[0]; c <= ends[1]; c++ {
			l = append(l, c)
		}
	}
	return l
}

// others returns the bytes that are no characters.
func others() []byte {
	var l []byte
	for b := range 256 {
		if !bytes.Contains(characters(), []byte{byte(b)}) {
			l = append(l, byte(b))
		}
	}
	return l
}

// someKeys are known ones, those with each bit alone or with each bit alone 0, those of
// one byte, and many without any regularity.
func someKeys() [][16]byte {
	var l [][16]byte
	for _, k := range known {
		l = append(l, k.key)
	}
	for bit := range 128 {
		one, zero := zeros, ones()
		one[bit/8] ^= 0x80 >> (bit % 8)
		zero[bit/8] ^= 0x80 >> (bit % 8)
		l = append(l, one, zero)
	}
	for b := range 256 {
		l = append(l, [16]byte(bytes.Repeat([]byte{byte(b)}, 16)))
	}
	for seed := range uint32(1000) {
		l = append(l, sample(seed))
	}
	return l
}

// model takes a key for a number, whose digits are the values. As it has 4 bits less
// than them, it is multiplied by 16.
func model(key [16]byte) string {
	n := new(big.Int).SetBytes(key[:])
	n.Mul(n, big.NewInt(16))
	s := make([]byte, 22)
	digit := new(big.Int)
	for i := range s {
		n.DivMod(n, big.NewInt(64), digit)
		s[21-i] = characters()[digit.Int64()]
	}
	return string(s)
}

// with returns s with another byte at one place.
func with(s string, at int, b byte) string {
	l := []byte(s)
	l[at] = b
	return string(l)
}

// checkKey checks that s is parsed to a key.
func checkKey(t *testing.T, s string, key [16]byte) {
	t.Helper()
	if got, err := text.Parse(s); got != key || err != nil {
		t.Errorf("Parse(%q) = %x, %v, want %x", s, got, err, key)
	}
}

// checkFault checks that s has an error, and no key.
func checkFault(t *testing.T, s string, code api.Code, at int) {
	t.Helper()
	key, err := text.Parse(s)
	if key != zeros || err != error(api.Fault{Code: code, At: at}) {
		t.Errorf("Parse(%q) = %x, %#v, want the code %d at %d", s, key, err, code, at)
	}
}

// atOnce runs some goroutines, and begins when all of them are there.
func atOnce(ask func(k uint32)) {
	var ready, done sync.WaitGroup
	ready.Add(askers)
	for k := range uint32(askers) {
		done.Go(func() {
			ready.Done()
			ready.Wait()
			ask(k)
		})
	}
	done.Wait()
}

// P14.1

func TestPrintOfKnownKeys(t *testing.T) {
	for _, k := range known {
		if got := text.Print(k.key); got != k.s {
			t.Errorf("Print(%x) = %q, want %q", k.key, got, k.s)
		}
	}
}

func TestPrintOfManyKeys(t *testing.T) {
	for _, key := range someKeys() {
		if got, want := text.Print(key), model(key); got != want || len(got) != 22 {
			t.Errorf("Print(%x) = %q, want %q", key, got, want)
		}
	}
}

// A bit of the key is one of a certain character, and none of the others.
func TestPrintOfEachBit(t *testing.T) {
	for bit := range 128 {
		key := zeros
		key[bit/8] = 0x80 >> (bit % 8)
		want := with(strings.Repeat("A", 22), bit/6, characters()[32>>(bit%6)])
		if got := text.Print(key); got != want {
			t.Errorf("Print(%x) = %q, want %q", key, got, want)
		}
	}
}

func TestPrintOfAllBytesAtAllPlaces(t *testing.T) {
	for at := range 16 {
		for b := range 256 {
			key := sample(1)
			key[at] = byte(b)
			if got, want := text.Print(key), model(key); got != want {
				t.Errorf("Print(%x) = %q, want %q", key, got, want)
			}
		}
	}
}

func TestValueOfCharacters(t *testing.T) {
	if l := characters(); len(l) != 64 {
		t.Fatalf("there are %d characters", len(l))
	}
	for v, c := range characters() {
		if got := text.Value(c); got != v {
			t.Errorf("Value(%q) = %d, want %d", c, got, v)
		}
	}
	for _, x := range []struct {
		c byte
		v int
	}{{'A', 0}, {'B', 1}, {'Z', 25}, {'a', 26}, {'z', 51}, {'0', 52}, {'9', 61}, {'+', 62}, {'/', 63}} {
		if got := text.Value(x.c); got != x.v {
			t.Errorf("Value(%q) = %d, want %d", x.c, got, x.v)
		}
	}
}

func TestValueOfOtherBytes(t *testing.T) {
	if l := others(); len(l) != 192 {
		t.Fatalf("there are %d other bytes", len(l))
	}
	for _, c := range append(others(), "=-_ \n\r\t\x00,.:;@[`{*!\x7f\x80\xc1\xab\xaf\xff"...) {
		if got := text.Value(c); got != -1 {
			t.Errorf("Value(%q) = %d", c, got)
		}
	}
}

func TestCharacterOfValues(t *testing.T) {
	for v, want := range characters() {
		if c, ok := text.Character(v); c != want || !ok {
			t.Errorf("Character(%d) = %q, %t, want %q", v, c, ok, want)
		}
	}
}

func TestCharacterOfOtherNumbers(t *testing.T) {
	l := []int{math.MinInt, math.MinInt + 1, math.MinInt32, math.MinInt32 + 65, math.MaxInt32, math.MaxInt - 63, math.MaxInt}
	for n := 1; n < 2000; n++ {
		l = append(l, -n, 63+n)
	}
	for n := math.MaxInt; n > 64; n /= 2 {
		l = append(l, n, n-1, n+1, -n, -n-1)
	}
	for _, v := range l {
		if v >= 0 && v < 64 {
			t.Fatalf("%d is a value", v)
		}
		if c, ok := text.Character(v); c != 0 || ok {
			t.Errorf("Character(%d) = %q, %t", v, c, ok)
		}
	}
}

func TestValueAndCharacter(t *testing.T) {
	for b := range 256 {
		v := text.Value(byte(b))
		if c, ok := text.Character(v); ok != (v >= 0) || ok && c != byte(b) {
			t.Errorf("the byte %d has the value %d, which has the character %q, %t", b, v, c, ok)
		}
	}
}

// P14.2

func TestParseOfKnownTexts(t *testing.T) {
	for _, k := range known {
		checkKey(t, k.s, k.key)
	}
}

func TestParseOfManyTexts(t *testing.T) {
	for _, key := range someKeys() {
		checkKey(t, model(key), key)
	}
}

func TestParseOfAllCharactersAtAllPlaces(t *testing.T) {
	s := model(sample(2))
	for at := range 21 {
		for _, c := range characters() {
			key, err := text.Parse(with(s, at, c))
			if err != nil || model(key) != with(s, at, c) {
				t.Errorf("Parse(%q) = %x, %v", with(s, at, c), key, err)
			}
		}
	}
}

// What a string of another length consists of does not count.
func TestParseOfOtherLengths(t *testing.T) {
	for n := range 51 {
		if n == 22 {
			continue
		}
		for _, c := range []string{"A", "/", "w", "B", "=", "-", " ", "\n", "\x00", "\xff", "\x80"} {
			checkFault(t, strings.Repeat(c, n), api.Key, n)
		}
		for seed := range uint32(20) {
			checkFault(t, string(bytesOf(seed, n)), api.Key, n)
			s := strings.Repeat(model(sample(seed)), 3)
			checkFault(t, s[:n], api.Key, n)
		}
	}
}

func TestParseOfTextsWithMore(t *testing.T) {
	for _, k := range known {
		for _, more := range []string{"A", "=", "==", "\n", " ", "\x00", "é"} {
			checkFault(t, k.s+more, api.Key, 22+len(more))
			checkFault(t, more+k.s, api.Key, 22+len(more))
			checkFault(t, k.s[:10]+more+k.s[10:], api.Key, 22+len(more))
		}
		for n := range 22 {
			checkFault(t, k.s[:n], api.Key, n)
			checkFault(t, k.s[:n]+k.s[n+1:], api.Key, 21)
		}
	}
}

func TestParseOfLongStrings(t *testing.T) {
	for _, n := range []int{64, 127, 128, 255, 256, 22 + 256, 352, 65535, 65536, 65536 + 22, 1 << 24, 1<<24 + 22} {
		checkFault(t, strings.Repeat("A", n), api.Key, n)
	}
}

// Lengths and offsets are those of bytes.
func TestParseOfLongerCharacters(t *testing.T) {
	checkFault(t, strings.Repeat("é", 22), api.Key, 44)
	checkFault(t, strings.Repeat("A", 21)+"é", api.Key, 23)
	checkFault(t, strings.Repeat("é", 11), api.Syntax, 0)
	checkFault(t, strings.Repeat("A", 20)+"é", api.Syntax, 20)
	checkFault(t, "AAAAA"+"€"+strings.Repeat("A", 14), api.Syntax, 5)
	checkFault(t, "Ａ"+strings.Repeat("A", 19), api.Syntax, 0)
}

func TestParseOfOneWrongByte(t *testing.T) {
	for _, s := range []string{known[0].s, known[1].s, known[3].s, model(sample(3))} {
		for at := range 22 {
			for _, b := range others() {
				checkFault(t, with(s, at, b), api.Syntax, at)
			}
		}
	}
}

func TestParseOfTwoWrongBytes(t *testing.T) {
	s, wrong := model(sample(4)), others()
	for first := range 21 {
		for second := first + 1; second < 22; second++ {
			for i, b := range wrong {
				for _, c := range []byte{b, '=', '\x00', wrong[191-i]} {
					checkFault(t, with(with(s, first, b), second, c), api.Syntax, first)
				}
			}
		}
	}
}

// The last character counts only if all others are right.
func TestParseOfAWrongByteAndAWrongEnd(t *testing.T) {
	for _, end := range []byte("BPRfhvx9+/=-\x00\xff") {
		for first := range 21 {
			for _, b := range others() {
				checkFault(t, with(with(known[3].s, 21, end), first, b), api.Syntax, first)
			}
		}
	}
}

func TestParseOfOnlyWrongBytes(t *testing.T) {
	for _, b := range others() {
		checkFault(t, strings.Repeat(string([]byte{b}), 22), api.Syntax, 0)
	}
}

func TestParseOfEachEnd(t *testing.T) {
	for _, key := range [][16]byte{zeros, ones(), known[3].key, sample(5), sample(6)} {
		for v, c := range characters() {
			s := with(model(key), 21, c)
			if v%16 != 0 {
				checkFault(t, s, api.Syntax, 21)
				continue
			}
			want := key
			want[15] = key[15]&^3 | byte(v/16)
			checkKey(t, s, want)
		}
	}
	for _, c := range []byte("AQgw") {
		key, err := text.Parse(strings.Repeat("A", 21) + string(c))
		if err != nil || key != [16]byte{15: byte(strings.IndexByte("AQgw", c))} {
			t.Errorf("with %q at the end, there are %x, %v", c, key, err)
		}
	}
}

// Other ways to write the same bits are none, as a key has one text only.
func TestParseOfOtherAlphabets(t *testing.T) {
	s := known[6].s
	checkFault(t, strings.NewReplacer("+", "-", "/", "_").Replace(s), api.Syntax, 0)
	checkFault(t, strings.ReplaceAll(s, "+", "-"), api.Syntax, strings.IndexByte(s, '+'))
	checkFault(t, s[:20]+"==", api.Syntax, 20)
	checkFault(t, s[:20]+"\r\n", api.Syntax, 20)
	checkFault(t, " "+s[:21], api.Syntax, 0)
	checkFault(t, s[:21]+"\n", api.Syntax, 21)
}

func TestErrorsAreFaults(t *testing.T) {
	s := known[3].s
	for _, x := range []struct {
		s    string
		want api.Fault
	}{
		{"", api.Fault{Code: api.Key}},
		{s[1:], api.Fault{Code: api.Key, At: 21}},
		{s + "=", api.Fault{Code: api.Key, At: 23}},
		{"=" + s[1:], api.Fault{Code: api.Syntax}},
		{with(s, 9, '-'), api.Fault{Code: api.Syntax, At: 9}},
		{with(s, 21, 'B'), api.Fault{Code: api.Syntax, At: 21}},
	} {
		_, err := text.Parse(x.s)
		if c, ok := fault.Code(err); c != x.want.Code || !ok {
			t.Errorf("the error of %q has the code %d, %t", x.s, c, ok)
		}
		if at, ok := fault.At(err); at != x.want.At || !ok {
			t.Errorf("the error of %q has the offset %d, %t", x.s, at, ok)
		}
		var f api.Fault
		if !errors.As(err, &f) || f != x.want || !errors.Is(err, x.want.Code) {
			t.Errorf("the error of %q is %#v", x.s, err)
		}
	}
}

// P14.3

func TestParseInvertsPrint(t *testing.T) {
	for _, key := range someKeys() {
		checkKey(t, text.Print(key), key)
	}
	for seed := range uint32(20000) {
		checkKey(t, text.Print(sample(seed)), sample(seed))
	}
}

// Each string is refused, or the only text of its key.
func TestOnlyTextsAreParsed(t *testing.T) {
	check := func(s string) {
		key, err := text.Parse(s)
		if err == nil && text.Print(key) != s {
			t.Errorf("%q is parsed to %x, whose text is %q", s, key, text.Print(key))
		}
		if err != nil && key != zeros {
			t.Errorf("%q is parsed to %x, %v", s, key, err)
		}
	}
	for seed := range uint32(20000) {
		check(string(bytesOf(seed, 22)))
		s := bytesOf(seed, 22)
		for i := range s {
			s[i] = characters()[s[i]/4]
		}
		check(string(s))
	}
	for at := range 22 {
		for b := range 256 {
			check(with(known[3].s, at, byte(b)))
		}
	}
}

func TestDifferentKeysHaveDifferentTexts(t *testing.T) {
	met := map[string][16]byte{}
	for _, key := range someKeys() {
		s := text.Print(key)
		if other, ok := met[s]; ok && other != key {
			t.Errorf("%x and %x have the text %q", key, other, s)
		}
		met[s] = key
	}
	for seed := range uint32(100) {
		for bit := range 128 {
			key := sample(seed)
			key[bit/8] ^= 0x80 >> (bit % 8)
			if text.Print(key) == text.Print(sample(seed)) {
				t.Errorf("%x and %x have the same text", key, sample(seed))
			}
		}
	}
}

// The Rules

func TestArgumentsAndResultsThatTheCallerChanges(t *testing.T) {
	key := sample(7)
	s := text.Print(key)
	key[0] ^= 0xff
	if s != model(sample(7)) {
		t.Errorf("the text has become %q", s)
	}
	first, _ := text.Parse(s)
	first[0] ^= 0xff
	checkKey(t, s, sample(7))
	if text.Print(sample(7)) != s {
		t.Errorf("the text is %q, and was %q", text.Print(sample(7)), s)
	}
}

// What was parsed or refused before changes nothing.
func TestCallsSideBySide(t *testing.T) {
	for seed := range uint32(100) {
		s := model(sample(seed))
		checkFault(t, with(s, 20, '='), api.Syntax, 20)
		checkKey(t, s, sample(seed))
		checkFault(t, s[:21], api.Key, 21)
		checkKey(t, s, sample(seed))
		checkKey(t, known[0].s, zeros)
		checkFault(t, with(s, 21, '/'), api.Syntax, 21)
		checkKey(t, s, sample(seed))
	}
}

func TestSeveralGoroutines(t *testing.T) {
	want := characters()
	atOnce(func(k uint32) {
		for seed := range uint32(200) {
			key := sample(1000*k + seed)
			checkKey(t, text.Print(key), key)
			checkFault(t, with(text.Print(key), int(k), '='), api.Syntax, int(k))
		}
		var l []byte
		for v := range 64 {
			c, _ := text.Character(v)
			l = append(l, c)
		}
		if !slices.Equal(l, want) || text.Value('/') != 63 {
			t.Errorf("the characters are %q", l)
		}
	})
}
