package nonce_test

import (
	"bytes"
	"math"
	"math/big"
	"slices"
	"strconv"
	"sync"
	"testing"

	"mooring/api"
	"mooring/nonce"
)

// askers is how many goroutines ask at the same time.
const askers = 16

// greatest is the greatest number that a head has, written out.
const greatest = 9223372036854775807

// known are directions and numbers with their heads.
var known = []struct {
	direction int
	seq       uint64
	head      [8]byte
}{
	{0, 0, [8]byte{}},
	{0, 1, [8]byte{0, 0, 0, 0, 0, 0, 0, 1}},
	{0, 258, [8]byte{0, 0, 0, 0, 0, 0, 1, 2}},
	{0, 0x0102030405060708, [8]byte{1, 2, 3, 4, 5, 6, 7, 8}},
	{0, 0x7edcba9876543210, [8]byte{0x7e, 0xdc, 0xba, 0x98, 0x76, 0x54, 0x32, 0x10}},
	{0, greatest - 1, [8]byte{127, 255, 255, 255, 255, 255, 255, 254}},
	{0, greatest, [8]byte{127, 255, 255, 255, 255, 255, 255, 255}},
	{1, 0, [8]byte{128, 0, 0, 0, 0, 0, 0, 0}},
	{1, 1, [8]byte{128, 0, 0, 0, 0, 0, 0, 1}},
	{1, 258, [8]byte{128, 0, 0, 0, 0, 0, 1, 2}},
	{1, 0x0102030405060708, [8]byte{129, 2, 3, 4, 5, 6, 7, 8}},
	{1, 0x7edcba9876543210, [8]byte{0xfe, 0xdc, 0xba, 0x98, 0x76, 0x54, 0x32, 0x10}},
	{1, greatest - 1, [8]byte{255, 255, 255, 255, 255, 255, 255, 254}},
	{1, greatest, [8]byte{255, 255, 255, 255, 255, 255, 255, 255}},
}

// bytesOf returns n bytes without any regularity.
func bytesOf(seed uint32, n int) []byte {
	l := make([]byte, n)
	x := seed*2654435761 + 1
	for i := range l {
		x = x*1664525 + 1013904223
		l[i] = byte(x >> 24)
	}
	return l
}

// headOf returns 8 such bytes.
func headOf(seed uint32) [8]byte {
	return [8]byte(bytesOf(seed, 8))
}

// someNumbers are those that a head may have: known ones, those with each bit alone or
// with each bit alone 0, the numbers beside them, and many without any regularity.
func someNumbers() []uint64 {
	var l []uint64
	for _, k := range known {
		l = append(l, k.seq)
	}
	for bit := range 63 {
		one := uint64(1) << bit
		l = append(l, one, one-1, one+1, greatest-one)
	}
	for seed := range uint32(500) {
		_, seq := divided(headOf(seed))
		l = append(l, seq)
	}
	return l
}

// greatNumbers are those that no head has.
func greatNumbers() []uint64 {
	l := []uint64{1 << 63, 1<<63 + 258, math.MaxUint64 - 1, math.MaxUint64}
	for bit := range 63 {
		one := uint64(1) << bit
		l = append(l, 1<<63+one, math.MaxUint64-one)
	}
	for seed := range uint32(100) {
		_, seq := divided(headOf(seed))
		l = append(l, 1<<63+seq)
	}
	return l
}

// otherDirections are ints that are no directions. A part of the bits of many of them is
// that of a direction.
func otherDirections() []int {
	l := []int{-1, -2, -3, 2, 3, math.MinInt, math.MinInt + 1, math.MaxInt - 1, math.MaxInt, math.MinInt32, math.MaxInt32}
	for bit := 1; bit < strconv.IntSize-1; bit++ {
		one := 1 << bit
		l = append(l, one, one+1, -one, -one+math.MinInt, -one-1, math.MinInt+one, math.MinInt+one+1)
	}
	return l
}

// someBytes are 8 bytes each: those of known heads, with each bit alone or with each bit
// alone 0, of one byte, and many without any regularity.
func someBytes() [][8]byte {
	var l [][8]byte
	for _, k := range known {
		l = append(l, k.head)
	}
	for bit := range 64 {
		var one [8]byte
		one[bit/8] = 0x80 >> (bit % 8)
		zero := [8]byte(bytes.Repeat([]byte{0xff}, 8))
		zero[bit/8] ^= one[bit/8]
		l = append(l, one, zero)
	}
	for b := range 256 {
		l = append(l, [8]byte(bytes.Repeat([]byte{byte(b)}, 8)))
	}
	for seed := range uint32(1000) {
		l = append(l, headOf(seed))
	}
	return l
}

// sum is the head by the chapter's sum of numbers.
func sum(direction int, seq uint64) [8]byte {
	n := new(big.Int).Exp(big.NewInt(2), big.NewInt(63), nil)
	n.Mul(n, big.NewInt(int64(direction)))
	n.Add(n, new(big.Int).SetUint64(seq))
	return [8]byte(n.FillBytes(make([]byte, 8)))
}

// divided is the way back from sum.
func divided(head [8]byte) (int, uint64) {
	half := new(big.Int).Exp(big.NewInt(2), big.NewInt(63), nil)
	direction, seq := new(big.Int).DivMod(new(big.Int).SetBytes(head[:]), half, new(big.Int))
	return int(direction.Int64()), seq.Uint64()
}

// behind returns a nonce with a head.
func behind(head [8]byte) [12]byte {
	n := [12]byte{}
	for i, b := range head {
		n[i+4] = b
	}
	return n
}

// checkMade checks that a direction and a number have a head, and the nonce with it.
func checkMade(t *testing.T, direction int, seq uint64, want [8]byte) {
	t.Helper()
	if head, ok := nonce.Head(direction, seq); head != want || !ok {
		t.Errorf("Head(%d, %#x) = %x, %t, want %x", direction, seq, head, ok, want)
	}
	if n, ok := nonce.Make(direction, seq); n != behind(want) || !ok {
		t.Errorf("Make(%d, %#x) = %x, %t, want %x", direction, seq, n, ok, behind(want))
	}
}

// checkNotMade checks that a direction and a number have neither.
func checkNotMade(t *testing.T, direction int, seq uint64) {
	t.Helper()
	if head, ok := nonce.Head(direction, seq); head != [8]byte{} || ok {
		t.Errorf("Head(%d, %#x) = %x, %t", direction, seq, head, ok)
	}
	if n, ok := nonce.Make(direction, seq); n != [12]byte{} || ok {
		t.Errorf("Make(%d, %#x) = %x, %t", direction, seq, n, ok)
	}
}

// checkHead checks that b begins with the head of a direction and a number.
func checkHead(t *testing.T, b []byte, direction int, seq uint64) {
	t.Helper()
	if d, got, ok := nonce.ParseHead(b); d != direction || got != seq || !ok {
		t.Errorf("ParseHead(%x) = %d, %#x, %t, want %d, %#x", b, d, got, ok, direction, seq)
	}
}

// checkNonce checks that n is the nonce of a direction and a number.
func checkNonce(t *testing.T, n [12]byte, direction int, seq uint64) {
	t.Helper()
	if d, got, ok := nonce.Parse(n); d != direction || got != seq || !ok {
		t.Errorf("Parse(%x) = %d, %#x, %t, want %d, %#x", n, d, got, ok, direction, seq)
	}
}

// checkNoNonce checks that n is the nonce of none.
func checkNoNonce(t *testing.T, n [12]byte) {
	t.Helper()
	if d, seq, ok := nonce.Parse(n); d != 0 || seq != 0 || ok {
		t.Errorf("Parse(%x) = %d, %#x, %t", n, d, seq, ok)
	}
}

// atOnce runs some goroutines, and begins when all of them are there.
func atOnce(ask func(k uint32)) {
	var ready, done sync.WaitGroup
	ready.Add(askers)
	for k := range uint32(askers) {
		done.Go(func() {
			ready.Done()
			ready.Wait()
			ask(k)
		})
	}
	done.Wait()
}

// P15.1

func TestConstantsOfTheChapter(t *testing.T) {
	if api.ToServer != 0 || api.ToClient != 1 || api.MaxSeq != greatest || api.NonceSize != 12 {
		t.Error(api.ToServer, api.ToClient, uint64(api.MaxSeq), api.NonceSize)
	}
}

func TestHeadsOfKnownNumbers(t *testing.T) {
	for _, k := range known {
		checkMade(t, k.direction, k.seq, k.head)
	}
}

func TestHeadsOfManyNumbers(t *testing.T) {
	for _, seq := range someNumbers() {
		checkMade(t, 0, seq, sum(0, seq))
		checkMade(t, 1, seq, sum(1, seq))
	}
}

func TestHeadsOfEachBit(t *testing.T) {
	for bit := range 63 {
		want := [8]byte{}
		want[7-bit/8] = 1 << (bit % 8)
		checkMade(t, 0, 1<<bit, want)
		want[0] |= 128
		checkMade(t, 1, 1<<bit, want)
	}
}

// Only the highest bit tells the directions from each other.
func TestHeadsOfBothDirections(t *testing.T) {
	for _, seq := range someNumbers() {
		there, _ := nonce.Head(api.ToServer, seq)
		back, _ := nonce.Head(api.ToClient, seq)
		if there[0] != back[0]^128 || there[0] >= 128 || !bytes.Equal(there[1:], back[1:]) {
			t.Errorf("%#x has the heads %x and %x", seq, there, back)
		}
	}
}

func TestNumbersThatAreTooGreat(t *testing.T) {
	for _, seq := range greatNumbers() {
		checkNotMade(t, 0, seq)
		checkNotMade(t, 1, seq)
	}
}

func TestOtherDirectionsHaveNoHeads(t *testing.T) {
	for _, d := range otherDirections() {
		for _, seq := range []uint64{0, 1, 258, 1 << 62, greatest - 1, greatest} {
			checkNotMade(t, d, seq)
		}
	}
}

func TestOtherDirectionsOfNumbersThatAreTooGreat(t *testing.T) {
	for _, d := range otherDirections() {
		for _, seq := range []uint64{1 << 63, 1<<63 + 1, math.MaxUint64 - 1, math.MaxUint64} {
			checkNotMade(t, d, seq)
		}
	}
}

// P15.2

func TestParseHeadOfKnownHeads(t *testing.T) {
	for _, k := range known {
		checkHead(t, k.head[:], k.direction, k.seq)
	}
}

func TestParseHeadOfManyBytes(t *testing.T) {
	for _, b := range someBytes() {
		direction, seq := divided(b)
		checkHead(t, b[:], direction, seq)
	}
}

func TestParseHeadOfAllBytesAtAllPlaces(t *testing.T) {
	for at := range 8 {
		for b := range 256 {
			head := headOf(1)
			head[at] = byte(b)
			direction, seq := divided(head)
			checkHead(t, head[:], direction, seq)
		}
	}
}

func TestParseHeadOfBytesWithOthersBehind(t *testing.T) {
	for i, head := range someBytes() {
		direction, seq := divided(head)
		for _, more := range []int{1, 2, 4, 7, 8, 9, 20, i % 100} {
			checkHead(t, append(head[:], bytesOf(uint32(i), more)...), direction, seq)
			checkHead(t, append(head[:], make([]byte, more)...), direction, seq)
			checkHead(t, append(head[:], bytes.Repeat([]byte{255}, more)...), direction, seq)
		}
	}
	for _, k := range known {
		checkHead(t, append(k.head[:], make([]byte, 1<<20)...), k.direction, k.seq)
	}
}

func TestParseHeadOfLessBytes(t *testing.T) {
	check := func(b []byte) {
		t.Helper()
		if d, seq, ok := nonce.ParseHead(b); d != 0 || seq != 0 || ok {
			t.Errorf("ParseHead(%x) = %d, %#x, %t", b, d, seq, ok)
		}
	}
	check(nil)
	check([]byte{})
	check(make([]byte, 0, 8))
	for _, head := range someBytes() {
		for n := range 8 {
			check(head[:n])
			check(head[8-n:])
			check(slices.Clip(head[:n]))
		}
	}
}

func TestParseOfKnownNonces(t *testing.T) {
	for _, k := range known {
		checkNonce(t, behind(k.head), k.direction, k.seq)
	}
}

func TestParseOfManyNonces(t *testing.T) {
	for _, head := range someBytes() {
		direction, seq := divided(head)
		checkNonce(t, behind(head), direction, seq)
	}
}

func TestParseOfOneOtherByte(t *testing.T) {
	for i, head := range append(someBytes()[:300], headOf(2)) {
		for at := range 4 {
			n := behind(head)
			for _, b := range []byte{1, 2, 127, 128, 255, byte(i)} {
				if n[at] = b; b != 0 {
					checkNoNonce(t, n)
				}
			}
		}
	}
	for at := range 4 {
		for b := 1; b < 256; b++ {
			for _, head := range [][8]byte{{}, headOf(3), known[3].head, known[13].head} {
				n := behind(head)
				n[at] = byte(b)
				checkNoNonce(t, n)
			}
		}
	}
}

// Several bytes other than 0 are no nonce either, also if their sum or their exclusive
// or is 0.
func TestParseOfSeveralOtherBytes(t *testing.T) {
	for _, lead := range [][4]byte{
		{1, 1}, {0, 0, 1, 1}, {1, 0, 0, 1}, {1, 1, 1, 1}, {1, 255}, {0, 128, 128}, {128, 128, 128, 128}, {255, 255, 255, 255},
		{64, 64, 64, 64}, {1, 2, 3}, {0, 1, 2, 3}, {1, 0, 2, 3}, {3, 1, 2, 0}, {0xaa, 0x55, 0xff}, {0, 0xaa, 0x55}, {255, 0, 0, 1},
	} {
		for _, head := range someBytes() {
			n := behind(head)
			copy(n[:], lead[:])
			checkNoNonce(t, n)
		}
	}
}

func TestParseOfAnyBytes(t *testing.T) {
	for seed := range uint32(2000) {
		n := [12]byte(bytesOf(seed, 12))
		if n[0]|n[1]|n[2]|n[3] == 0 {
			t.Fatalf("%x is a nonce", n)
		}
		checkNoNonce(t, n)
	}
}

// The head is not looked for at another place.
func TestParseOfBytesThatBeginWithTheHead(t *testing.T) {
	for _, head := range someBytes() {
		var n [12]byte
		if copy(n[:], head[:]); n[0]|n[1]|n[2]|n[3] != 0 {
			checkNoNonce(t, n)
		}
	}
}

func TestWhole(t *testing.T) {
	for _, head := range someBytes() {
		if got := nonce.Whole(head); got != behind(head) {
			t.Errorf("Whole(%x) = %x, want %x", head, got, behind(head))
		}
	}
	want := [12]byte{0, 0, 0, 0, 1, 2, 3, 4, 5, 6, 7, 8}
	if got := nonce.Whole([8]byte{1, 2, 3, 4, 5, 6, 7, 8}); got != want {
		t.Errorf("the nonce is %x, want %x", got, want)
	}
}

func TestWholeOfTheHeadIsWhatIsMade(t *testing.T) {
	for _, seq := range append(someNumbers(), greatNumbers()...) {
		for _, d := range []int{0, 1, 2, -1, math.MinInt, math.MaxInt} {
			head, ok := nonce.Head(d, seq)
			if n, made := nonce.Make(d, seq); n != nonce.Whole(head) || made != ok {
				t.Errorf("Make(%d, %#x) = %x, %t, and Head returns %x, %t", d, seq, n, made, head, ok)
			}
		}
	}
}

// P15.3

func TestOther(t *testing.T) {
	for _, x := range []struct{ direction, want int }{
		{0, 1}, {1, 0}, {-1, 0}, {2, 0}, {3, 0}, {-2, 0}, {math.MinInt, 0}, {math.MaxInt, 0},
		{api.ToServer, api.ToClient}, {api.ToClient, api.ToServer},
	} {
		if got := nonce.Other(x.direction); got != x.want {
			t.Errorf("Other(%d) = %d, want %d", x.direction, got, x.want)
		}
	}
	for _, d := range otherDirections() {
		if got := nonce.Other(d); got != 0 {
			t.Errorf("Other(%d) = %d", d, got)
		}
	}
	for _, d := range []int{0, 1} {
		if got := nonce.Other(nonce.Other(d)); got != d {
			t.Errorf("the other direction of %d has the other direction %d", d, got)
		}
	}
}

// P15.4

func TestParsingInvertsMaking(t *testing.T) {
	for _, d := range []int{0, 1} {
		for _, seq := range someNumbers() {
			head, _ := nonce.Head(d, seq)
			n, _ := nonce.Make(d, seq)
			checkHead(t, head[:], d, seq)
			checkNonce(t, n, d, seq)
		}
	}
}

// What 8 bytes are parsed to has no other head than them.
func TestMakingInvertsParsing(t *testing.T) {
	check := func(head [8]byte) {
		t.Helper()
		d, seq, ok := nonce.ParseHead(head[:])
		if !ok || d != 0 && d != 1 || seq > greatest {
			t.Errorf("ParseHead(%x) = %d, %#x, %t", head, d, seq, ok)
		}
		checkMade(t, d, seq, head)
	}
	for _, head := range someBytes() {
		check(head)
	}
	for seed := range uint32(20000) {
		check(headOf(seed))
	}
}

func TestParseOnlyOfWhatIsMade(t *testing.T) {
	for seed := range uint32(20000) {
		n := [12]byte(bytesOf(seed, 12))
		for i := range 4 {
			if seed>>i&1 == 0 {
				n[i] = 0
			}
		}
		d, seq, ok := nonce.Parse(n)
		if ok {
			made, is := nonce.Make(d, seq)
			ok = made == n && is
		}
		if ok != (n[0]|n[1]|n[2]|n[3] == 0) {
			t.Errorf("Parse(%x) = %d, %#x, and %t for their nonce", n, d, seq, ok)
		}
	}
}

func TestDifferentNumbersHaveDifferentNonces(t *testing.T) {
	type made struct {
		direction int
		seq       uint64
	}
	heads, nonces := map[[8]byte]made{}, map[[12]byte]made{}
	for _, d := range []int{0, 1} {
		numbers := someNumbers()
		for seq := range uint64(2000) {
			numbers = append(numbers, seq, greatest-seq)
		}
		for _, seq := range numbers {
			head, _ := nonce.Head(d, seq)
			n, _ := nonce.Make(d, seq)
			if met, ok := heads[head]; ok && met != (made{d, seq}) {
				t.Errorf("%v and %d, %#x have the head %x", met, d, seq, head)
			}
			if met, ok := nonces[n]; ok && met != (made{d, seq}) {
				t.Errorf("%v and %d, %#x have the nonce %x", met, d, seq, n)
			}
			heads[head], nonces[n] = made{d, seq}, made{d, seq}
		}
	}
}

// Each bit that is changed makes another direction or number.
func TestDifferentBytesAreDifferentHeads(t *testing.T) {
	for seed := range uint32(100) {
		head := headOf(seed)
		d, seq, _ := nonce.ParseHead(head[:])
		for bit := range 64 {
			other := head
			other[bit/8] ^= 0x80 >> (bit % 8)
			e, q, ok := nonce.ParseHead(other[:])
			if !ok || e == d && q == seq || (e != d) != (bit == 0) {
				t.Errorf("%x and %x are the heads of %d, %#x and %d, %#x", head, other, d, seq, e, q)
			}
		}
	}
}

// The Rules

func TestSlicesThatAreGivenStayAsTheyAre(t *testing.T) {
	for n := range 40 {
		long := bytesOf(uint32(n), 60)
		if _, _, ok := nonce.ParseHead(long[:n]); ok != (n >= 8) {
			t.Errorf("ParseHead(%x) reports %t", long[:n], ok)
		}
		direction, seq := divided([8]byte(long[n:]))
		checkHead(t, long[n:], direction, seq)
		checkHead(t, long[n:n+8], direction, seq)
		if want := bytesOf(uint32(n), 60); !bytes.Equal(long, want) {
			t.Errorf("after ParseHead of %d bytes, the slice is %x, want %x", n, long, want)
		}
	}
}

func TestArraysThatTheCallerChanges(t *testing.T) {
	for seed := range uint32(100) {
		head := headOf(seed)
		n := nonce.Whole(head)
		again := nonce.Whole(head)
		for i := range head {
			head[i] ^= 0xff
			again[i] ^= 0xff
		}
		if n != behind(headOf(seed)) || nonce.Whole(headOf(seed)) != n {
			t.Errorf("the nonces are %x and %x", n, nonce.Whole(headOf(seed)))
		}
	}
}

// What was made or refused before changes nothing.
func TestCallsSideBySide(t *testing.T) {
	for i, seq := range someNumbers() {
		d := i % 2
		want := sum(d, seq)
		checkNotMade(t, 2, seq)
		checkMade(t, d, seq, want)
		checkNotMade(t, d, seq|1<<63)
		checkNoNonce(t, [12]byte{0: 1, 11: byte(i)})
		checkMade(t, d, seq, want)
		checkMade(t, nonce.Other(d), greatest-seq, sum(1-d, greatest-seq))
		checkHead(t, want[:], d, seq)
		checkNonce(t, behind(want), d, seq)
	}
}

func TestSeveralGoroutines(t *testing.T) {
	atOnce(func(k uint32) {
		for seed := range uint32(500) {
			head := headOf(1000*k + seed)
			d, seq := divided(head)
			checkMade(t, d, seq, head)
			checkHead(t, head[:], d, seq)
			checkNonce(t, nonce.Whole(head), d, seq)
			n := behind(head)
			n[k%4] = byte(k + 1)
			checkNoNonce(t, n)
			checkNotMade(t, int(k)+2, seq)
		}
	})
}
