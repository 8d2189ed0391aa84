package stamp_test

import (
	"math"
	"math/big"
	"strconv"
	"sync"
	"testing"

	"mooring/api"
	"mooring/stamp"
)

const (
	// askers is how many goroutines ask at the same time.
	askers = 16
	// all is how many stamps there are, written out.
	all = 65536
	// none is the echo of nothing, written out.
	none = 65535
)

// edges are stamps, and differences of them, at which something begins or ends.
var edges = []int{
	0, 1, 2, 7, 535, 999, 1000, 1001, 16384, 32766, 32767, 32768, 32769, 49152, 64535, 64536, 65000, 65533, 65534, 65535,
}

// anyNumbers returns n numbers without any regularity.
func anyNumbers(seed uint64, n int) []uint64 {
	l := make([]uint64, n)
	x := seed*0x9e3779b97f4a7c15 + 1
	for i := range l {
		x = x*6364136223846793005 + 1442695040888963407
		l[i] = x ^ x>>29
	}
	return l
}

// someTicks are small ones, those with each bit alone or with each bit alone 0, those
// beside them, and many without any regularity.
func someTicks() []uint64 {
	l := []uint64{0, 1, 2, 1000, 131071, 131072, 131073, math.MaxUint64 - 1, math.MaxUint64}
	for bit := range 64 {
		one := uint64(1) << bit
		l = append(l, one, one-1, one+1, math.MaxUint64-one, math.MaxUint64-one-1, math.MaxUint64-one+1)
	}
	return append(l, anyNumbers(1, 1000)...)
}

// someInts are the same for ints, of either sign.
func someInts() []int {
	l := []int{0, 1, -1, 65535, 65536, 65537, -65535, -65536, -65537, 131072, -131073}
	l = append(l, math.MinInt, math.MinInt+1, math.MaxInt, math.MaxInt-1)
	for bit := range strconv.IntSize - 1 {
		one := 1 << bit
		l = append(l, one, one-1, one+1, -one, -one-1, -one+1, math.MaxInt-one, math.MinInt+one)
	}
	for _, x := range anyNumbers(2, 1000) {
		l = append(l, int(x), int(x>>40), -int(x>>40))
	}
	return l
}

// remainder is that of a number of any size and sign by 2^16.
func remainder(x *big.Int) uint16 {
	return uint16(new(big.Int).Mod(x, big.NewInt(all)).Int64())
}

// plus is the remainder of the sum of a number and ticks.
func plus(x uint64, ticks int) uint16 {
	return remainder(new(big.Int).Add(new(big.Int).SetUint64(x), big.NewInt(int64(ticks))))
}

// minus is the remainder of the difference of two numbers.
func minus(x, y uint64) uint16 {
	return remainder(new(big.Int).Sub(new(big.Int).SetUint64(x), new(big.Int).SetUint64(y)))
}

// echo is that of a stamp after some ticks, by the chapter's definition.
func echo(s int, hold uint64) uint16 {
	if hold > 1000 {
		return none
	}
	if sum := (s + int(hold)) % all; sum != none {
		return uint16(sum)
	}
	return none
}

func checkOf(t *testing.T, tick uint64, want uint16) {
	t.Helper()
	if got := stamp.Of(tick); got != want {
		t.Errorf("Of(%d) = %d, want %d", tick, got, want)
	}
}

func checkDiff(t *testing.T, a, b, want uint16) {
	t.Helper()
	if got := stamp.Diff(a, b); got != want {
		t.Errorf("Diff(%d, %d) = %d, want %d", a, b, got, want)
	}
}

func checkAdd(t *testing.T, s uint16, ticks int, want uint16) {
	t.Helper()
	if got := stamp.Add(s, ticks); got != want {
		t.Errorf("Add(%d, %d) = %d, want %d", s, ticks, got, want)
	}
}

func checkEcho(t *testing.T, s uint16, hold uint64, want uint16) {
	t.Helper()
	if got := stamp.Echo(s, hold); got != want {
		t.Errorf("Echo(%d, %d) = %d, want %d", s, hold, got, want)
	}
}

func checkSample(t *testing.T, now, echo, want uint16, is bool) {
	t.Helper()
	if got, ok := stamp.Sample(now, echo); got != want || ok != is {
		t.Errorf("Sample(%d, %d) = %d, %t, want %d, %t", now, echo, got, ok, want, is)
	}
}

func checkBefore(t *testing.T, a, b uint16, want bool) {
	t.Helper()
	if got := stamp.Before(a, b); got != want {
		t.Errorf("Before(%d, %d) = %t", a, b, got)
	}
}

// P16.1

func TestOfKnownTicks(t *testing.T) {
	for _, x := range []struct {
		tick uint64
		want uint16
	}{
		{0, 0}, {1, 1}, {32767, 32767}, {32768, 32768}, {65534, 65534}, {65535, 65535}, {65536, 0}, {65537, 1},
		{131071, 65535}, {131072, 0}, {1<<32 - 1, 65535}, {1 << 32, 0}, {1<<32 + 258, 258}, {0x0102030405060708, 0x0708},
		{1<<63 - 1, 65535}, {1 << 63, 0}, {math.MaxUint64 - 65535, 0}, {math.MaxUint64 - 1, 65534}, {math.MaxUint64, 65535},
	} {
		checkOf(t, x.tick, x.want)
	}
}

func TestOfManyTicks(t *testing.T) {
	for _, tick := range someTicks() {
		checkOf(t, tick, plus(tick, 0))
	}
}

func TestOfAllStamps(t *testing.T) {
	for s := range uint64(all) {
		checkOf(t, s, uint16(s))
		checkOf(t, all+s, uint16(s))
		checkOf(t, 1<<32+s, uint16(s))
		checkOf(t, math.MaxUint64-s, uint16(65535-s))
	}
}

func TestDiffOfKnownStamps(t *testing.T) {
	for _, x := range []struct{ a, b, want uint16 }{
		{2, 65535, 3}, {65535, 2, 65533}, {0, 1, 65535}, {1, 0, 1}, {0, 0, 0}, {7, 7, 0}, {65535, 65535, 0},
		{0, 32768, 32768}, {32768, 0, 32768}, {0, 32767, 32769}, {0, 65535, 1}, {65535, 0, 65535}, {5, 3, 2}, {3, 5, 65534},
		{0x0100, 0x00ff, 1}, {0x00ff, 0x0100, 65535},
	} {
		checkDiff(t, x.a, x.b, x.want)
	}
}

func TestDiffOfAllStamps(t *testing.T) {
	for a := range all {
		for _, b := range edges {
			checkDiff(t, uint16(a), uint16(b), uint16((a+all-b)%all))
			checkDiff(t, uint16(b), uint16(a), uint16((b+all-a)%all))
		}
		checkDiff(t, uint16(a), uint16(a), 0)
	}
}

// The differences of all stamps and one are all stamps.
func TestDiffOfStampsThatAreApart(t *testing.T) {
	for a := range all {
		for _, d := range edges {
			checkDiff(t, uint16((a+d)%all), uint16(a), uint16(d))
		}
	}
}

func TestAddOfKnownTicks(t *testing.T) {
	for _, x := range []struct {
		s     uint16
		ticks int
		want  uint16
	}{
		{5, 0, 5}, {5, 1, 6}, {5, -1, 4}, {5, 65535, 4}, {5, 65536, 5}, {5, -65536, 5}, {5, -65537, 4}, {5, -65535, 6},
		{0, 0, 0}, {0, 1, 1}, {0, -1, 65535}, {0, 65535, 65535}, {0, 65536, 0}, {0, -65536, 0}, {0, -65537, 65535},
		{65535, 0, 65535}, {65535, 1, 0}, {65535, -1, 65534}, {65535, 65535, 65534}, {65535, 65536, 65535},
		{65535, -65536, 65535}, {65535, -65537, 65534}, {5, -6, 65535}, {65530, 10, 4}, {32768, 32768, 0}, {32767, -32768, 65535},
		{5, math.MinInt, 5}, {5, math.MinInt + 1, 6}, {5, math.MaxInt, 4}, {5, math.MaxInt - 1, 3},
		{0, math.MinInt, 0}, {0, math.MaxInt, 65535}, {65535, math.MinInt, 65535}, {65535, math.MaxInt, 65534},
	} {
		checkAdd(t, x.s, x.ticks, x.want)
	}
}

func TestAddOfManyTicks(t *testing.T) {
	for _, ticks := range someInts() {
		for _, s := range edges {
			checkAdd(t, uint16(s), ticks, plus(uint64(s), ticks))
		}
	}
}

func TestAddOfAllStamps(t *testing.T) {
	for s := range all {
		for _, n := range edges {
			checkAdd(t, uint16(s), n, uint16((s+n)%all))
			checkAdd(t, uint16(s), n+all, uint16((s+n)%all))
			checkAdd(t, uint16(s), -n, uint16((s+all-n)%all))
			checkAdd(t, uint16(s), -n-all, uint16((s+all-n)%all))
		}
	}
}

func TestAddIsTheStampOfALaterTick(t *testing.T) {
	for _, tick := range someTicks() {
		for _, ticks := range edges {
			checkAdd(t, stamp.Of(tick), ticks, stamp.Of(tick+uint64(ticks)))
			checkAdd(t, stamp.Of(tick), -ticks, stamp.Of(tick-uint64(ticks)))
		}
	}
}

// P16.2

func TestConstantsOfTheChapter(t *testing.T) {
	if api.None != none || api.MaxHold != 1000 {
		t.Error(api.None, api.MaxHold)
	}
}

func TestEchoOfKnownStamps(t *testing.T) {
	holds := []uint64{0, 1, 535, 536, 999, 1000, 1001, math.MaxUint64}
	for _, x := range []struct {
		s    uint16
		want [8]uint16
	}{
		{0, [8]uint16{0, 1, 535, 536, 999, 1000, none, none}},
		{5, [8]uint16{5, 6, 540, 541, 1004, 1005, none, none}},
		{64535, [8]uint16{64535, 64536, 65070, 65071, 65534, none, none, none}},
		{64536, [8]uint16{64536, 64537, 65071, 65072, none, 0, none, none}},
		{65000, [8]uint16{65000, 65001, none, 0, 463, 464, none, none}},
		{65534, [8]uint16{65534, none, 533, 534, 997, 998, none, none}},
		{65535, [8]uint16{none, 0, 534, 535, 998, 999, none, none}},
	} {
		for i, hold := range holds {
			checkEcho(t, x.s, hold, x.want[i])
		}
	}
}

func TestEchoOfAllStamps(t *testing.T) {
	for s := range all {
		for _, hold := range []uint64{0, 1, 2, 499, 500, 535, 998, 999, 1000, 1001, 1002, 65536, 1 << 32, math.MaxUint64} {
			checkEcho(t, uint16(s), hold, echo(s, hold))
		}
	}
}

func TestEchoAfterAllTicks(t *testing.T) {
	for _, s := range edges {
		for hold := range uint64(2*all + 2000) {
			checkEcho(t, uint16(s), hold, echo(s, hold))
		}
	}
}

// Each stamp has at most one number of ticks at which the sum is 65535.
func TestEchoIsNoneWhereTheSumIs(t *testing.T) {
	for hold := range uint64(1001) {
		for _, s := range []int{0, 1, 64533, 64534, 65534 - int(hold), 65535 - int(hold), (all - int(hold)) % all} {
			got := stamp.Echo(uint16(s), hold)
			if (got == none) != (s+int(hold) == 65535) {
				t.Errorf("Echo(%d, %d) = %d", s, hold, got)
			}
		}
	}
}

// Ticks are too many also if their lowest bits alone are few.
func TestEchoAfterTooManyTicks(t *testing.T) {
	for _, s := range edges {
		for bit := 10; bit < 64; bit++ {
			for _, low := range []uint64{0, 1, 5, 535, 999} {
				checkEcho(t, uint16(s), 1<<bit+low, none)
				checkEcho(t, uint16(s), math.MaxUint64-1<<bit-low, none)
			}
		}
		for _, hold := range anyNumbers(3, 500) {
			checkEcho(t, uint16(s), hold|1<<10, none)
		}
	}
}

func TestSampleOfKnownEchoes(t *testing.T) {
	for _, x := range []struct {
		now, echo, want uint16
		ok              bool
	}{
		{0, 0, 0, true}, {5, 0, 5, true}, {65535, 0, 65535, true}, {7, 7, 0, true}, {6, 7, 65535, true}, {8, 7, 1, true},
		{0, 7, 65529, true}, {65535, 7, 65528, true}, {3, 65530, 9, true}, {0, 65534, 2, true}, {65534, 65534, 0, true},
		{65535, 65534, 1, true}, {65533, 65534, 65535, true}, {0, 65535, 0, false}, {3, 65535, 0, false},
		{7, 65535, 0, false}, {65534, 65535, 0, false}, {65535, 65535, 0, false},
	} {
		checkSample(t, x.now, x.echo, x.want, x.ok)
	}
}

func TestSampleOfAllStamps(t *testing.T) {
	for now := range all {
		checkSample(t, uint16(now), 0, uint16(now), true)
		checkSample(t, uint16(now), 7, uint16((now+65529)%all), true)
		checkSample(t, uint16(now), 65534, uint16((now+2)%all), true)
		checkSample(t, uint16(now), 65535, 0, false)
	}
}

func TestSampleOfAllEchoes(t *testing.T) {
	for _, now := range edges {
		for e := range 65535 {
			checkSample(t, uint16(now), uint16(e), uint16((now+all-e)%all), true)
		}
		checkSample(t, uint16(now), 65535, 0, false)
	}
}

// P16.3

func TestBeforeOfKnownStamps(t *testing.T) {
	for _, x := range []struct {
		a, b uint16
		want bool
	}{
		{3, 5, true}, {5, 3, false}, {0, 0, false}, {7, 7, false}, {65535, 65535, false}, {0, 1, true}, {1, 0, false},
		{65535, 0, true}, {0, 65535, false}, {65535, 2, true}, {2, 65535, false}, {0, 32767, true}, {32767, 0, false},
		{0, 32768, false}, {32768, 0, false}, {0, 32769, false}, {32769, 0, true}, {32768, 65535, true},
		{65535, 32766, true}, {65535, 32767, false}, {65535, 32768, false}, {1, 32768, true}, {1, 32769, false},
	} {
		checkBefore(t, x.a, x.b, x.want)
	}
}

func TestBeforeOfAllStamps(t *testing.T) {
	for a := range all {
		for _, x := range []struct {
			d    int
			want bool
		}{
			{0, false}, {1, true}, {2, true}, {255, true}, {256, true}, {32766, true}, {32767, true},
			{32768, false}, {32769, false}, {32770, false}, {65534, false}, {65535, false},
		} {
			checkBefore(t, uint16(a), uint16((a+x.d)%all), x.want)
		}
	}
}

func TestBeforeOfAllDifferences(t *testing.T) {
	for _, a := range edges {
		for d := range all {
			checkBefore(t, uint16(a), uint16((a+d)%all), d > 0 && d < 32768)
		}
	}
}

// Of two stamps exactly one is before the other, unless they are equal or 32768 apart.
func TestBeforeOfEitherOrder(t *testing.T) {
	for a := range all {
		for _, d := range edges {
			there, back := stamp.Before(uint16(a), uint16(a+d)), stamp.Before(uint16(a+d), uint16(a))
			if there && back || (there || back) == (d == 0 || d == 32768) {
				t.Errorf("%d and %d are before the other: %t, %t", uint16(a), uint16(a+d), there, back)
			}
		}
	}
}

// P16.4

func TestDifferencesOfTheStampsOfTicks(t *testing.T) {
	ticks := someTicks()
	for i, x := range ticks {
		for _, y := range []uint64{0, 1, 65535, 65536, math.MaxUint64, ticks[len(ticks)-1-i], ticks[(7*i+3)%len(ticks)]} {
			checkDiff(t, stamp.Of(x), stamp.Of(y), minus(x, y))
			checkDiff(t, stamp.Of(y), stamp.Of(x), minus(y, x))
		}
	}
}

// nearby are ticks that have ticks before and behind them at which stamps wrap.
var nearby = []uint64{
	40000, 65535, 65536, 65537, 98303, 98304, 1<<32 - 1, 1 << 32, 1<<32 + 1, 1 << 40, 1<<63 - 1, 1 << 63, math.MaxUint64 - 40000,
}

func TestTicksThatAreLittleApart(t *testing.T) {
	for _, x := range nearby {
		for d := range uint64(1 << 15) {
			checkDiff(t, stamp.Of(x+d), stamp.Of(x), uint16(d))
			checkBefore(t, stamp.Of(x), stamp.Of(x+d), d > 0)
			checkBefore(t, stamp.Of(x+d), stamp.Of(x), false)
			checkBefore(t, stamp.Of(x-d), stamp.Of(x), d > 0)
		}
	}
}

// checkTrip checks the sample of the echo of the stamp of a tick, which was held for some
// ticks and was under way for others.
func checkTrip(t *testing.T, sent, hold, way uint64) {
	t.Helper()
	was, now := stamp.Of(sent), stamp.Of(sent+hold+way)
	if hold > 1000 || plus(sent, int(hold)) == none {
		checkSample(t, now, stamp.Echo(was, hold), 0, false)
		return
	}
	checkSample(t, now, stamp.Echo(was, hold), plus(way, 0), true)
}

func TestSampleIsTheTimeWithoutHolding(t *testing.T) {
	ways := []uint64{0, 1, 300, 32767, 32768, 65535, 65536, 65537, 131072, 1<<32 + 7}
	for _, sent := range append(nearby, anyNumbers(4, 200)...) {
		for _, way := range append(ways, anyNumbers(sent, 10)...) {
			for _, hold := range []uint64{0, 1, 5, 535, 999, 1000, 1001, 1 << 16, 1 << 40} {
				checkTrip(t, sent, hold, way)
			}
		}
	}
}

func TestSampleOfAllTimesOfSending(t *testing.T) {
	for sent := range uint64(all) {
		for _, hold := range []uint64{0, 1, 999, 1000, 1001} {
			for _, way := range []uint64{0, 20, 65535, 65536 + 9} {
				checkTrip(t, sent, hold, way)
				checkTrip(t, 1<<40+sent, hold, way)
			}
		}
	}
}

// The Rules

// What was asked before changes nothing.
func TestCallsSideBySide(t *testing.T) {
	for _, s := range edges {
		checkEcho(t, uint16(s), 1001, none)
		checkEcho(t, uint16(s), 1000, echo(s, 1000))
		checkSample(t, uint16(s), 65535, 0, false)
		checkSample(t, uint16(s), 7, uint16((s+65529)%all), true)
		checkOf(t, uint64(s)+all, uint16(s))
		checkDiff(t, 0, uint16(s), uint16((all-s)%all))
		checkAdd(t, uint16(s), -1, uint16((s+65535)%all))
		checkBefore(t, 0, uint16(s), s > 0 && s < 32768)
		checkEcho(t, uint16(s), 0, uint16(s))
	}
}

func TestSeveralGoroutines(t *testing.T) {
	var ready, done sync.WaitGroup
	ready.Add(askers)
	for k := range uint64(askers) {
		done.Go(func() {
			ready.Done()
			ready.Wait()
			for _, x := range anyNumbers(k, 500) {
				checkOf(t, x, plus(x, 0))
				checkTrip(t, x, x>>20%1100, x>>40)
				checkDiff(t, uint16(x), uint16(k), minus(x, k))
				checkAdd(t, uint16(k), int(x), plus(k, int(x)))
				checkBefore(t, uint16(x), stamp.Of(x+k), k > 0)
			}
		})
	}
	done.Wait()
}
