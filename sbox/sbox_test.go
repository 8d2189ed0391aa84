package sbox_test

import (
	"os"
	"os/exec"
	"runtime"
	"sync"
	"sync/atomic"
	"testing"

	"mooring/field"
	"mooring/sbox"
)

// askers is how many goroutines ask at the same time.
const askers = 16

// firstBack and firstRoots are what the ways back were before anything else of
// the package was called: variables are initialized before the tests run. Back
// is asked first, when the table that Roots returns is not made yet.
var (
	firstBack  = atOnce(back)
	firstRoots = atOnce(sbox.Roots)
)

// back asks for the way back of all bytes.
func back() [256]byte {
	var l [256]byte
	for i := range l {
		l[i] = sbox.Back(byte(i))
	}
	return l
}

// atOnce asks in many goroutines. They wait for each other without sleeping, as
// they would not wake up at the same time.
func atOnce(ask func() [256]byte) *[askers][256]byte {
	var l [askers][256]byte
	var done sync.WaitGroup
	var ready atomic.Int32
	for i := range l {
		done.Go(func() {
			ready.Add(1)
			for ready.Load() < askers {
				runtime.Gosched()
			}
			l[i] = ask()
		})
	}
	done.Wait()
	return &l
}

// bit returns the bit i of b, where i is taken modulo 8.
func bit(b byte, i int) byte {
	return b >> (i % 8) & 1
}

// image is the affine image, bit by bit as the chapter defines it.
func image(b byte) byte {
	sum := byte(0)
	for i := range 8 {
		x := bit(b, i) + bit(b, i+4) + bit(b, i+5) + bit(b, i+6) + bit(b, i+7) + bit(0x63, i)
		sum |= x % 2 << i
	}
	return sum
}

// box is the S-box, as the chapter defines it.
func box(b byte) byte {
	return image(field.Inverse(b))
}

// roots has, for each byte, the one whose S-box it is.
func roots(t *testing.T) [256]byte {
	t.Helper()
	var l [256]byte
	found := map[byte]bool{}
	for i := range 256 {
		s := box(byte(i))
		l[s], found[s] = byte(i), true
	}
	if len(found) != 256 {
		t.Fatalf("only %d bytes are S-boxes", len(found))
	}
	return l
}

// word puts bytes together, the highest one first.
func word(a, b, c, d byte) uint32 {
	return uint32(a)<<24 + uint32(b)<<16 + uint32(c)<<8 + uint32(d)
}

// known are bytes and their S-boxes, of FIPS 197.
func known() map[byte]byte {
	return map[byte]byte{
		0x00: 0x63, 0x01: 0x7c, 0x02: 0x77, 0x0f: 0x76, 0x10: 0xca, 0x1f: 0xc0, 0x52: 0x00, 0x53: 0xed,
		0x63: 0xfb, 0x7d: 0xff, 0x7f: 0xd2, 0x80: 0xcd, 0x9a: 0xb8, 0xca: 0x74, 0xf0: 0x8c, 0xff: 0x16,
	}
}

// check says what of the package is wrong about the bytes, if anything is.
func check(t *testing.T) {
	t.Helper()
	l, roots := sbox.Table(), sbox.Roots()
	for i := range 256 {
		b := byte(i)
		s := box(b)
		if sbox.S(b) != s || l[i] != s || sbox.Word(word(b, b, b, b)) != word(s, s, s, s) {
			t.Errorf("S(%#x) = %#x, Table()[%d] = %#x, want %#x", b, sbox.S(b), i, l[i], s)
		}
		if sbox.Back(s) != b || roots[s] != b {
			t.Errorf("Back(%#x) = %#x, Roots()[%d] = %#x, want %#x", s, sbox.Back(s), s, roots[s], b)
		}
		if sbox.Affine(b) != image(b) {
			t.Errorf("Affine(%#x) = %#x, want %#x", b, sbox.Affine(b), image(b))
		}
	}
	if fixed, opposite := sbox.Fixed(); fixed != 0 || opposite != 0 {
		t.Errorf("Fixed() = %d, %d", fixed, opposite)
	}
}

// P4.1

func TestSOfExamples(t *testing.T) {
	for b, want := range known() {
		if got := sbox.S(b); got != want {
			t.Errorf("S(%#x) = %#x, want %#x", b, got, want)
		}
	}
}

func TestSIsTheAffineImageOfTheInverse(t *testing.T) {
	for i := range 256 {
		b := byte(i)
		if got := sbox.S(b); got != box(b) || got != sbox.Affine(field.Inverse(b)) {
			t.Errorf("S(%#x) = %#x, want %#x", b, got, box(b))
		}
	}
}

func TestSOfZeroIsTheImageOfZero(t *testing.T) {
	if sbox.S(0) != 0x63 || sbox.Affine(0) != 0x63 || sbox.Back(0x63) != 0 {
		t.Errorf("S(0) = %#x, Affine(0) = %#x, Back(0x63) = %#x", sbox.S(0), sbox.Affine(0), sbox.Back(0x63))
	}
}

func TestBackOfExamples(t *testing.T) {
	for want, s := range known() {
		if got := sbox.Back(s); got != want {
			t.Errorf("Back(%#x) = %#x, want %#x", s, got, want)
		}
	}
}

func TestBackOfAllBytesTwice(t *testing.T) {
	for s, want := range roots(t) {
		for range 2 {
			if got := sbox.Back(byte(s)); got != want {
				t.Errorf("Back(%#x) = %#x, want %#x", s, got, want)
			}
		}
	}
}

func TestTableOfTheWayBackIsThatOfBack(t *testing.T) {
	want := roots(t)
	for range 2 {
		l := sbox.Roots()
		for s := range l {
			if got := sbox.Back(byte(s)); l[s] != got || l[s] != want[s] {
				t.Errorf("Roots()[%d] = %#x, Back(%#x) = %#x, want %#x", s, l[s], s, got, want[s])
			}
		}
	}
}

func TestWayBackAskedForFirst(t *testing.T) {
	want := roots(t)
	for k := range askers {
		if firstBack[k] != want {
			t.Errorf("Back has the table %v for the goroutine %d", firstBack[k], k)
		}
		if firstRoots[k] != want {
			t.Errorf("Roots() = %v for the goroutine %d", firstRoots[k], k)
		}
	}
}

// A process has a single first time, and goroutines may miss each other in it.
func TestWayBackAskedForFirstInManyProcesses(t *testing.T) {
	for range 20 {
		out, err := exec.Command(os.Args[0], "-test.run=^TestWayBackAskedForFirst$").CombinedOutput()
		if err != nil {
			t.Fatalf("%v\n%s", err, out)
		}
	}
}

func TestWayBackAskedForByGoroutines(t *testing.T) {
	want := roots(t)
	for _, ask := range []func() [256]byte{back, sbox.Roots} {
		for range 20 {
			for k, l := range atOnce(ask) {
				if l != want {
					t.Errorf("the table is %v for the goroutine %d", l, k)
				}
			}
		}
	}
}

func TestTableOfTheWayBackThatTheCallerChanges(t *testing.T) {
	l := sbox.Roots()
	for i := range l {
		l[i] = byte(i)
	}
	check(t)
	if l == sbox.Roots() {
		t.Error("the changes are in the next table")
	}
}

func TestAffineOfExamples(t *testing.T) {
	for b, want := range map[byte]byte{0: 0x63, 1: 0x7c, 2: 0x5d, 4: 0x1f, 8: 0x9b, 0x10: 0x92, 0x20: 0x80, 0x40: 0xa4, 0x80: 0xec, 0xca: 0xed, 0xff: 0x9c} {
		if got := sbox.Affine(b); got != want {
			t.Errorf("Affine(%#x) = %#x, want %#x", b, got, want)
		}
	}
}

func TestAffineOfAllBytes(t *testing.T) {
	for i := range 256 {
		if got := sbox.Affine(byte(i)); got != image(byte(i)) {
			t.Errorf("Affine(%#x) = %#x, want %#x", i, got, image(byte(i)))
		}
	}
}

func TestAffineOfSums(t *testing.T) {
	for i := range 256 {
		for j := range 256 {
			a, b := byte(i), byte(j)
			want := sbox.Affine(a) ^ sbox.Affine(b) ^ 0x63
			if got := sbox.Affine(a ^ b); got != want {
				t.Errorf("Affine(%#x) = %#x, want %#x, the sum of those of %#x and %#x", a^b, got, want, a, b)
			}
		}
	}
}

// P4.2

func TestWordOfExamples(t *testing.T) {
	for w, want := range map[uint32]uint32{
		0x00000000: 0x63636363,
		0xffffffff: 0x16161616,
		0x000153ff: 0x637ced16,
		0xff530100: 0x16ed7c63,
		0x00000001: 0x6363637c,
		0x01000000: 0x7c636363,
		0x52525252: 0x00000000,
		0x52525200: 0x00000063,
		0x00525252: 0x63000000,
		0x7d7d7d7d: 0xffffffff,
		0xcf4f3c09: 0x8a84eb01,
	} {
		if got := sbox.Word(w); got != want {
			t.Errorf("Word(%#08x) = %#08x, want %#08x", w, got, want)
		}
	}
}

func TestWordOfEqualBytes(t *testing.T) {
	for i := range 256 {
		b := byte(i)
		s := box(b)
		if got := sbox.Word(word(b, b, b, b)); got != word(s, s, s, s) {
			t.Errorf("Word of the bytes %#x = %#08x", b, got)
		}
	}
}

func TestWordOfOneOtherByte(t *testing.T) {
	for i := range 256 {
		for _, rest := range []byte{0, 0x52, 0x53, 0xff} {
			for place := range 4 {
				b := [4]byte{rest, rest, rest, rest}
				b[place] = byte(i)
				want := word(box(b[0]), box(b[1]), box(b[2]), box(b[3]))
				if got := sbox.Word(word(b[0], b[1], b[2], b[3])); got != want {
					t.Errorf("Word of %v = %#08x, want %#08x", b, got, want)
				}
			}
		}
	}
}

func TestWordOfDifferentBytes(t *testing.T) {
	w := uint32(1)
	for range 100000 {
		w = w*1664525 + 1013904223
		want := word(box(byte(w>>24)), box(byte(w>>16)), box(byte(w>>8)), box(byte(w)))
		if got := sbox.Word(w); got != want {
			t.Fatalf("Word(%#08x) = %#08x, want %#08x", w, got, want)
		}
	}
}

// P4.3

func TestTableHasTheSBoxesInOrder(t *testing.T) {
	l := sbox.Table()
	for i := range 256 {
		if l[i] != box(byte(i)) || l[i] != sbox.S(byte(i)) {
			t.Errorf("Table()[%d] = %#x, want %#x", i, l[i], box(byte(i)))
		}
	}
	for b, want := range known() {
		if l[b] != want {
			t.Errorf("Table()[%d] = %#x, want %#x", b, l[b], want)
		}
	}
}

func TestTableThatTheCallerChanges(t *testing.T) {
	l := sbox.Table()
	for i := range l {
		l[i] = byte(i)
	}
	check(t)
	if l == sbox.Table() {
		t.Error("the changes are in the next table")
	}
}

func TestFixedCountsTheBytes(t *testing.T) {
	fixed, opposite := 0, 0
	for i := range 256 {
		switch box(byte(i)) {
		case byte(i):
			fixed++
		case byte(255 - i):
			opposite++
		}
	}
	for range 2 {
		if x, y := sbox.Fixed(); x != fixed || y != opposite {
			t.Errorf("Fixed() = %d, %d, want %d, %d", x, y, fixed, opposite)
		}
	}
}

// P4.4

func TestBackInvertsS(t *testing.T) {
	seen := map[byte]bool{}
	for i := range 256 {
		b := byte(i)
		if got := sbox.Back(sbox.S(b)); got != b {
			t.Errorf("Back(S(%#x)) = %#x", b, got)
		}
		if got := sbox.S(sbox.Back(b)); got != b {
			t.Errorf("S(Back(%#x)) = %#x", b, got)
		}
		if got := sbox.Roots()[sbox.S(b)]; got != b {
			t.Errorf("Roots()[S(%#x)] = %#x", b, got)
		}
		seen[sbox.S(b)] = true
	}
	if len(seen) != 256 {
		t.Errorf("%d bytes are S-boxes", len(seen))
	}
}

func TestNoByteIsItsOwnSBoxNorItsOpposite(t *testing.T) {
	l := sbox.Table()
	for i := range 256 {
		b := byte(i)
		for _, s := range []byte{sbox.S(b), l[i], byte(sbox.Word(uint32(b)))} {
			if s == b || s == ^b {
				t.Errorf("the S-box of %#x is %#x", b, s)
			}
		}
	}
	if fixed, opposite := sbox.Fixed(); fixed != 0 || opposite != 0 {
		t.Errorf("Fixed() = %d, %d", fixed, opposite)
	}
}

// The Rules

func TestFunctionsAreCalledConcurrently(t *testing.T) {
	var done sync.WaitGroup
	for range askers {
		done.Go(func() {
			for range 5 {
				check(t)
			}
		})
	}
	done.Wait()
}
