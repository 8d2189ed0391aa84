package echo_test

import (
	"math"
	"slices"
	"sync"
	"testing"

	"mooring/api"
	"mooring/echo"
	"mooring/stamp"
)

const (
	// askers is how many goroutines ask at the same time.
	askers = 16
	// all is how many stamps there are, written out.
	all = 65536
	// none is the echo of nothing, written out.
	none = 65535
	// end is the greatest tick.
	end = math.MaxUint64
	// far is how often something is repeated where once could be chance.
	far = 1000
)

// stamps are those at which something begins or ends, and samples of the same kind.
var stamps = []uint16{
	0, 1, 2, 3, 4, 5, 7, 8, 255, 256, 535, 1000, 1001, 32767, 32768, 64534, 64535, 64536, 65000, 65533, 65534, 65535,
}

// holds are numbers of ticks at which something begins or ends.
var holds = []uint64{
	0, 1, 2, 3, 534, 535, 536, 998, 999, 1000, 1001, 1002, 2000, 32767, 32768,
	65533, 65534, 65535, 65536, 65537, 66535, 66536, 66537, 131071, 131072,
	1<<32 - 1, 1 << 32, 1<<32 + 1000, 1<<63 - 1, 1 << 63, end - 1000, end - 1, end,
}

// ticks are some at which a stamp may be taken.
var ticks = []uint64{0, 1, 100, 1000, 1001, 65535, 65536, 1<<32 + 5, 1<<63 - 1, 1 << 63, end - 65536, end - 1001, end - 1000, end - 1, end}

// anyNumbers returns n numbers without any regularity.
func anyNumbers(seed uint64, n int) []uint64 {
	l := make([]uint64, n)
	x := seed*0x9e3779b97f4a7c15 + 1
	for i := range l {
		x = x*6364136223846793005 + 1442695040888963407
		l[i] = x ^ x>>29
	}
	return l
}

// around are ticks at which a stamp that was taken at a tick may be asked for: behind each
// of the holds, as far as there are such ticks, and before the tick.
func around(tick uint64) []uint64 {
	var l []uint64
	for _, hold := range holds {
		if hold <= end-tick {
			l = append(l, tick+hold)
		}
		if hold <= tick {
			l = append(l, tick-hold)
		}
	}
	return append(l, 0, end)
}

// keeper is a model of a keeper, kept as the chapter says it.
type keeper struct {
	stamp int
	tick  uint64
	some  bool
}

// taking is the model of a keeper that has a stamp.
func taking(s uint16, tick uint64) *keeper {
	return &keeper{int(s), tick, true}
}

// held is what Held returns.
func (k *keeper) held(tick uint64) (uint64, bool) {
	if !k.some || tick < k.tick {
		return 0, k.some
	}
	return tick - k.tick, true
}

// reply is what Reply returns, and what it leaves behind.
func (k *keeper) reply(tick uint64) uint16 {
	hold, ok := k.held(tick)
	sum := (k.stamp + int(hold%all)) % all
	*k = keeper{}
	if !ok || hold > 1000 {
		return none
	}
	return uint16(sum)
}

// estimates are those behind each of the samples, by the chapter's definition.
func estimates(samples []uint16) []uint32 {
	var l []uint32
	e := 0
	for i, s := range samples {
		if i == 0 {
			e = 8 * int(s)
		} else {
			e = e - (e+4)/8 + int(s)
		}
		l = append(l, uint32(e))
	}
	return l
}

func checkHeld(t *testing.T, e *echo.Echo, tick, want uint64, some bool) {
	t.Helper()
	if got, ok := e.Held(tick); got != want || ok != some {
		t.Errorf("Held(%d) = %d, %t, want %d, %t", tick, got, ok, want, some)
	}
}

func checkReply(t *testing.T, e *echo.Echo, tick uint64, want uint16) {
	t.Helper()
	if got := e.Reply(tick); got != want {
		t.Errorf("Reply(%d) = %d, want %d", tick, got, want)
	}
}

// checkKeeper checks what a keeper tells at some ticks.
func checkKeeper(t *testing.T, e *echo.Echo, k *keeper, l []uint64) {
	t.Helper()
	for _, tick := range l {
		hold, ok := k.held(tick)
		checkHeld(t, e, tick, hold, ok)
	}
}

// checkEmpty checks that there is no stamp.
func checkEmpty(t *testing.T, e *echo.Echo) {
	t.Helper()
	for _, tick := range holds {
		checkHeld(t, e, tick, 0, false)
		checkReply(t, e, tick, none)
		checkHeld(t, e, tick, 0, false)
	}
}

// checkRtt checks all that samples tell.
func checkRtt(t *testing.T, r *echo.Rtt, last uint16, count int, estimate uint32) {
	t.Helper()
	if got, ok := r.Last(); got != last || ok != (count > 0) {
		t.Errorf("Last() = %d, %t, want %d, %t", got, ok, last, count > 0)
	}
	if got := r.Count(); got != count {
		t.Errorf("Count() = %d, want %d", got, count)
	}
	if got := r.Estimate(); got != estimate {
		t.Errorf("Estimate() = %d, want %d", got, estimate)
	}
}

// checkSamples adds samples one after the other, and checks what is told before the first
// and behind each of them.
func checkSamples(t *testing.T, samples []uint16) {
	t.Helper()
	r := new(echo.Rtt)
	checkRtt(t, r, 0, 0, 0)
	for i, want := range estimates(samples) {
		r.Add(samples[i])
		checkRtt(t, r, samples[i], i+1, want)
	}
}

// P20.1

func TestConstantsOfTheChapter(t *testing.T) {
	if api.None != none || api.MaxHold != 1000 {
		t.Error(api.None, api.MaxHold)
	}
}

func TestNewHasNoStamp(t *testing.T) {
	checkHeld(t, echo.New(), 0, 0, false)
	checkHeld(t, echo.New(), end, 0, false)
	checkReply(t, echo.New(), 0, none)
	checkReply(t, echo.New(), 5, none)
	checkEmpty(t, echo.New())
}

func TestHeldAtKnownTicks(t *testing.T) {
	for _, x := range []struct {
		taken, tick, want uint64
	}{
		{0, 0, 0}, {0, 1, 1}, {0, end, end}, {100, 100, 0}, {100, 101, 1}, {100, 103, 3}, {100, 99, 0}, {100, 0, 0},
		{100, 1100, 1000}, {100, 1101, 1001}, {100, 65634, 65534}, {100, 65635, 65535}, {100, 65636, 65536},
		{100, end, 18446744073709551515}, {1 << 63, 1<<63 - 1, 0}, {1<<63 - 1, 1 << 63, 1}, {1 << 63, end, 9223372036854775807},
		{end - 1, end, 1}, {end, end, 0}, {end, end - 1, 0}, {end, 0, 0}, {end - 1, 0, 0},
	} {
		for _, s := range stamps {
			e := echo.New()
			e.Take(s, x.taken)
			checkHeld(t, e, x.tick, x.want, true)
		}
	}
}

func TestHeldAtManyTicks(t *testing.T) {
	for _, s := range []uint16{0, 5, 65534, 65535} {
		for _, tick := range append(anyNumbers(1, 100), ticks...) {
			e := echo.New()
			e.Take(s, tick)
			checkKeeper(t, e, taking(s, tick), around(tick))
			checkKeeper(t, e, taking(s, tick), anyNumbers(2, 50))
		}
	}
}

// Held takes nothing away, whether it is asked for ticks that rise or that fall.
func TestHeldChangesNothing(t *testing.T) {
	for _, s := range stamps {
		e, k := echo.New(), taking(s, 500)
		e.Take(s, 500)
		for range 20 {
			for tick := range uint64(1000) {
				hold, ok := k.held(tick)
				checkHeld(t, e, tick, hold, ok)
				hold, ok = k.held(2000 - tick)
				checkHeld(t, e, 2000-tick, hold, ok)
			}
		}
		checkReply(t, e, 503, k.reply(503))
	}
}

// The later call counts, also where its stamp or its tick is the smaller one.
func TestTakeTwice(t *testing.T) {
	for _, first := range stamps {
		for _, second := range stamps {
			for _, x := range [][2]uint64{{100, 100}, {100, 101}, {101, 100}, {0, end}, {end, 0}, {5000, 100}, {100, 5000}} {
				for _, tick := range []uint64{x[1], x[1] + min(3, end-x[1]), x[0], 0} {
					e, k := echo.New(), taking(second, x[1])
					e.Take(first, x[0])
					e.Take(second, x[1])
					checkKeeper(t, e, k, around(x[1]))
					checkReply(t, e, tick, k.reply(tick))
					checkEmpty(t, e)
				}
			}
		}
	}
}

func TestTakeManyTimes(t *testing.T) {
	e := echo.New()
	for i, x := range anyNumbers(3, far) {
		e.Take(uint16(x>>48), x)
		checkKeeper(t, e, taking(uint16(x>>48), x), []uint64{x, x - 1, x + 5, 0, end})
		if i%7 == 0 {
			e.Take(uint16(x), x)
			checkKeeper(t, e, taking(uint16(x), x), []uint64{x, x + 1000})
		}
	}
	e.Take(5, 100)
	checkReply(t, e, 103, 8)
	checkEmpty(t, e)
}

// P20.2

func TestReplyAtKnownTicks(t *testing.T) {
	for _, x := range []struct {
		stamp       uint16
		taken, tick uint64
		want        uint16
	}{
		{5, 100, 103, 8}, {5, 100, 100, 5}, {5, 100, 99, 5}, {5, 100, 0, 5}, {5, 100, 1100, 1005}, {5, 100, 1101, 65535},
		{5, 100, 65634, 65535}, {5, 100, 65635, 65535}, {5, 100, 65636, 65535}, {5, 100, 65639, 65535}, {5, 100, end, 65535},
		{0, 0, 0, 0}, {0, 0, 1, 1}, {0, 0, 1000, 1000}, {0, 0, 1001, 65535}, {0, 0, 65534, 65535}, {0, 0, 65535, 65535},
		{0, 0, 65536, 65535}, {0, 0, end, 65535}, {0, end, end, 0}, {0, end, 0, 0}, {0, end - 1000, end, 1000}, {0, end - 1001, end, 65535},
		{65534, 7, 7, 65534}, {65534, 7, 0, 65534}, {65534, 7, 8, 65535}, {65534, 7, 9, 0}, {65534, 7, 10, 1}, {65534, 7, 1007, 998},
		{65534, 7, 1008, 65535}, {65534, 7, 65541, 65535}, {65534, 7, 65542, 65535}, {65534, 7, 65543, 65535}, {65534, 7, end, 65535},
		{65535, 7, 7, 65535}, {65535, 7, 0, 65535}, {65535, 7, 8, 0}, {65535, 7, 9, 1}, {65535, 7, 1007, 999}, {65535, 7, 1008, 65535},
		{65535, 7, 65541, 65535}, {65535, 7, 65542, 65535}, {65535, 7, 65543, 65535}, {65535, 7, end, 65535},
		{65000, 1, 535, 65534}, {65000, 1, 536, 65535}, {65000, 1, 537, 0}, {64535, 3, 1003, 65535}, {64536, 3, 1003, 0}, {64534, 3, 1003, 65534},
	} {
		e := echo.New()
		e.Take(x.stamp, x.taken)
		checkReply(t, e, x.tick, x.want)
		checkReply(t, e, x.tick, none)
		checkHeld(t, e, x.tick, 0, false)
	}
}

func TestExampleOfTheChapter(t *testing.T) {
	e := echo.New()
	e.Take(5, 100)
	checkReply(t, e, 103, 8)
	checkReply(t, e, 104, 65535)
}

func TestReplyAtManyTicks(t *testing.T) {
	for _, s := range stamps {
		for _, taken := range ticks {
			for _, tick := range around(taken) {
				e, k := echo.New(), taking(s, taken)
				e.Take(s, taken)
				checkReply(t, e, tick, k.reply(tick))
				checkReply(t, e, tick, none)
				checkHeld(t, e, tick, 0, false)
			}
		}
	}
}

// Each stamp is held for each number of ticks for which some stamp has an echo, and beyond.
func TestReplyAfterEachHold(t *testing.T) {
	for hold := range uint64(1100) {
		for _, s := range slices.Concat(stamps, []uint16{uint16(65534 - hold), uint16(65535 - hold), uint16(65536 - hold)}) {
			e, k := echo.New(), taking(s, 77)
			e.Take(s, 77)
			checkReply(t, e, 77+hold, k.reply(77+hold))
			checkReply(t, e, 77+hold, none)
		}
	}
}

// One keeper has every stamp, one after the other.
func TestReplyOfEachStamp(t *testing.T) {
	e := echo.New()
	for s := range all {
		for _, hold := range []uint64{0, 1, 1000, 1001} {
			e.Take(uint16(s), uint64(s))
			tick := uint64(s) + hold
			checkHeld(t, e, tick, hold, true)
			checkReply(t, e, tick, taking(uint16(s), uint64(s)).reply(tick))
			checkHeld(t, e, tick, 0, false)
		}
		checkReply(t, e, uint64(s), none)
	}
}

// Reply is the echo of layer 16, for as long as the stamp is held.
func TestReplyIsTheEchoOfLayer16(t *testing.T) {
	for _, x := range anyNumbers(4, far) {
		s, taken, hold := uint16(x), x>>16, x>>32%1200
		e := echo.New()
		e.Take(s, taken)
		checkReply(t, e, taken+hold, stamp.Echo(s, hold))
	}
}

func TestTakeBehindReply(t *testing.T) {
	for _, first := range stamps {
		for _, second := range stamps {
			for _, hold := range holds[:20] {
				e, k := echo.New(), taking(second, 50)
				e.Take(first, 100)
				checkReply(t, e, 100+hold, taking(first, 100).reply(100+hold))
				e.Take(second, 50)
				checkKeeper(t, e, k, []uint64{0, 49, 50, 51, 100, end})
				checkReply(t, e, 50+hold, k.reply(50+hold))
				checkEmpty(t, e)
			}
		}
	}
}

// P20.3

func TestKnownSamples(t *testing.T) {
	for _, x := range []struct {
		samples []uint16
		want    []uint32
	}{
		{[]uint16{10, 18, 18, 0, 65535}, []uint32{80, 88, 95, 83, 65608}},
		{[]uint16{0, 0, 0}, []uint32{0, 0, 0}},
		{[]uint16{0, 8}, []uint32{0, 8}},
		{[]uint16{0, 0, 1, 1, 8}, []uint32{0, 0, 1, 2, 10}},
		{[]uint16{0, 1, 1, 1, 1, 1, 1}, []uint32{0, 1, 2, 3, 4, 4, 4}},
		{[]uint16{1, 0, 0, 0, 0, 0, 0}, []uint32{8, 7, 6, 5, 4, 3, 3}},
		{[]uint16{0, 65535, 0, 65534, 1}, []uint32{0, 65535, 57343, 115709, 101246}},
		{[]uint16{65535, 0, 0, 65535, 65535}, []uint32{524280, 458745, 401402, 416762, 430202}},
		{[]uint16{65534, 65535, 65534, 65535}, []uint32{524272, 524273, 524273, 524274}},
		{[]uint16{65535, 65535, 65535}, []uint32{524280, 524280, 524280}},
		{[]uint16{3, 3, 3, 3, 3}, []uint32{24, 24, 24, 24, 24}},
		{[]uint16{1000, 10, 10, 10}, []uint32{8000, 7010, 6144, 5386}},
		{[]uint16{10, 1000, 1000, 1000}, []uint32{80, 1070, 1936, 2694}},
		{
			[]uint16{100, 100, 100, 101, 101, 101, 101, 101, 99, 99, 99, 99, 99},
			[]uint32{800, 800, 800, 801, 802, 803, 804, 804, 802, 801, 800, 799, 798},
		},
	} {
		r := new(echo.Rtt)
		for i, s := range x.samples {
			r.Add(s)
			checkRtt(t, r, s, i+1, x.want[i])
		}
	}
}

func TestEachFirstSample(t *testing.T) {
	for s := range all {
		r := new(echo.Rtt)
		r.Add(uint16(s))
		checkRtt(t, r, uint16(s), 1, uint32(8*s))
	}
}

func TestEachSecondSample(t *testing.T) {
	for s := range all {
		for _, other := range []uint16{0, 1, 65534, 65535} {
			checkSamples(t, []uint16{other, uint16(s)})
			checkSamples(t, []uint16{uint16(s), other})
		}
	}
}

func TestSamplesOfTheEdges(t *testing.T) {
	for _, first := range stamps {
		for _, second := range stamps {
			for _, third := range stamps {
				checkSamples(t, []uint16{first, second, third, first})
			}
		}
	}
}

// The same sample many times keeps the estimate of the first one, and brings that of
// another one to where it stays.
func TestTheSameSampleManyTimes(t *testing.T) {
	for _, first := range stamps {
		for _, s := range stamps {
			checkSamples(t, append([]uint16{first}, slices.Repeat([]uint16{s}, 300)...))
		}
		r := new(echo.Rtt)
		for i := range far {
			r.Add(first)
			checkRtt(t, r, first, i+1, 8*uint32(first))
		}
	}
	for _, x := range []struct {
		first, further uint16
		want           uint32
	}{{65535, 0, 3}, {1, 0, 3}, {0, 0, 0}, {0, 1, 4}, {0, 65535, 524276}, {65535, 65535, 524280}, {1000, 10, 83}, {10, 1000, 7996}} {
		r := new(echo.Rtt)
		r.Add(x.first)
		for range 500 {
			r.Add(x.further)
		}
		checkRtt(t, r, x.further, 501, x.want)
	}
}

func TestSamplesOfAnyKind(t *testing.T) {
	for seed := range uint64(20) {
		var wild, rising []uint16
		for i, x := range anyNumbers(seed, far) {
			wild = append(wild, uint16(x>>(i%48)))
			rising = append(rising, uint16(x%64+uint64(i)*65))
		}
		falling := slices.Clone(rising)
		slices.Reverse(falling)
		checkSamples(t, wild)
		checkSamples(t, rising)
		checkSamples(t, falling)
		checkSamples(t, slices.Concat(stamps, wild, stamps))
	}
}

func TestManySamples(t *testing.T) {
	l := make([]uint16, 100*far)
	for i, x := range anyNumbers(5, len(l)) {
		l[i] = uint16(x >> 20)
	}
	checkSamples(t, l)
}

func TestAskingForSamplesChangesNothing(t *testing.T) {
	r := new(echo.Rtt)
	want := estimates(stamps)
	for i, s := range stamps {
		r.Add(s)
		for range 20 {
			checkRtt(t, r, s, i+1, want[i])
		}
	}
}

// Nobody needs to ask for anything between samples.
func TestSamplesWithoutAsking(t *testing.T) {
	r := new(echo.Rtt)
	for _, s := range stamps {
		r.Add(s)
	}
	want := estimates(stamps)
	checkRtt(t, r, stamps[len(stamps)-1], len(stamps), want[len(want)-1])
}

// P20.4

// However often a keeper is asked, there is one reply at most behind each Take.
func TestAStampIsEchoedOnce(t *testing.T) {
	for _, s := range stamps {
		e := echo.New()
		for i, tick := range around(far) {
			e.Take(s, far)
			if i%3 == 1 {
				e.Take(s, far)
			}
			want := taking(s, far).reply(tick)
			replies := 0
			for _, other := range append([]uint64{tick}, around(far)...) {
				if got := e.Reply(other); got != none {
					replies++
					if got != want {
						t.Errorf("Reply(%d) = %d, want %d", other, got, want)
					}
				}
				checkHeld(t, e, other, 0, false)
			}
			if (replies == 1) != (want != none) || replies > 1 {
				t.Errorf("%d replies of %d at %d", replies, s, tick)
			}
		}
	}
}

// A sample of the echo is the time since the stamp without the ticks of holding, as those
// of layer 16 are.
func TestSampleOfAReply(t *testing.T) {
	samples := new(echo.Rtt)
	for i, x := range anyNumbers(6, far) {
		sent, out, hold, back := x>>8, x>>20%300, x>>32%1001, x>>50%300
		e := echo.New()
		e.Take(stamp.Of(sent), sent+out)
		reply := e.Reply(sent + out + hold)
		sample, ok := stamp.Sample(stamp.Of(sent+out+hold+back), reply)
		if reply == none && !ok {
			sample = uint16(out + back)
		}
		if uint64(sample) != out+back {
			t.Errorf("the sample %d of %d and %d", sample, out, back)
		}
		samples.Add(sample)
		if last, ok := samples.Last(); last != sample || !ok || samples.Count() != i+1 {
			t.Error(i, last, sample)
		}
	}
	if e := samples.Estimate(); e > 8*600+7 {
		t.Error(e)
	}
}

func checkBounds(t *testing.T, l []uint16) {
	t.Helper()
	r := new(echo.Rtt)
	for i, s := range l {
		r.Add(s)
		least, greatest := 8*int(slices.Min(l[:i+1])), 8*int(slices.Max(l[:i+1]))
		if e := int(r.Estimate()); e < least-7 || e > greatest+7 {
			t.Errorf("the estimate of %v is %d", l[:i+1], e)
		}
	}
}

func TestBoundsOfTheEstimate(t *testing.T) {
	for _, a := range stamps {
		for _, b := range stamps {
			checkBounds(t, append([]uint16{a}, slices.Repeat([]uint16{b}, 200)...))
			checkBounds(t, slices.Repeat([]uint16{a, b, b}, 30))
		}
	}
	for seed := range uint64(200) {
		var l []uint16
		for _, x := range anyNumbers(seed, 300) {
			l = append(l, uint16(seed*300)+uint16(x>>40%(1<<(seed%10))))
		}
		checkBounds(t, l)
	}
}

// What nil and zero ones do

func TestNilEcho(t *testing.T) {
	var e *echo.Echo
	checkEmpty(t, e)
	for _, s := range stamps {
		for _, tick := range ticks {
			e.Take(s, tick)
			checkHeld(t, e, tick, 0, false)
			checkReply(t, e, tick, none)
		}
	}
	checkEmpty(t, e)
	for _, call := range []func(){
		func() { (*echo.Echo)(nil).Take(5, 100) },
		func() { checkHeld(t, nil, 0, 0, false) },
		func() { checkReply(t, nil, 0, none) },
	} {
		call()
	}
}

func TestZeroEcho(t *testing.T) {
	var empty, held echo.Echo
	checkHeld(t, &held, 0, 0, false)
	checkHeld(t, new(echo.Echo), end, 0, false)
	checkReply(t, new(echo.Echo), end, none)
	checkEmpty(t, &empty)
	for _, s := range stamps {
		for _, tick := range ticks {
			var e echo.Echo
			k := taking(s, tick)
			e.Take(s, tick)
			checkKeeper(t, &e, k, around(tick))
			checkReply(t, &e, tick, k.reply(tick))
			checkEmpty(t, &e)
		}
	}
}

func TestNilRtt(t *testing.T) {
	var r *echo.Rtt
	checkRtt(t, r, 0, 0, 0)
	for _, s := range stamps {
		r.Add(s)
		checkRtt(t, r, 0, 0, 0)
	}
	for _, call := range []func(){
		func() { (*echo.Rtt)(nil).Add(5) },
		func() { checkRtt(t, nil, 0, 0, 0) },
	} {
		call()
	}
}

func TestZeroRtt(t *testing.T) {
	var r echo.Rtt
	checkRtt(t, &r, 0, 0, 0)
	checkRtt(t, &echo.Rtt{}, 0, 0, 0)
	checkRtt(t, new(echo.Rtt), 0, 0, 0)
	r.Add(0)
	checkRtt(t, &r, 0, 1, 0)
	r.Add(8)
	checkRtt(t, &r, 8, 2, 8)
}

// The Rules

// What is done with one keeper does not reach another, also not one that took the same.
func TestTwoKeepers(t *testing.T) {
	for _, s := range stamps {
		used, kept, empty := echo.New(), echo.New(), echo.New()
		used.Take(s, 100)
		kept.Take(s, 100)
		checkKeeper(t, kept, taking(s, 100), around(100))
		checkReply(t, used, 103, taking(s, 100).reply(103))
		checkEmpty(t, used)
		checkKeeper(t, kept, taking(s, 100), around(100))
		used.Take(s+1, 200)
		checkKeeper(t, kept, taking(s, 100), around(100))
		checkReply(t, kept, 100, taking(s, 100).reply(100))
		checkKeeper(t, used, taking(s+1, 200), around(200))
		checkEmpty(t, kept)
		checkEmpty(t, empty)
		checkReply(t, used, 200, taking(s+1, 200).reply(200))
	}
}

func TestTwoEstimates(t *testing.T) {
	used, kept, empty := new(echo.Rtt), new(echo.Rtt), new(echo.Rtt)
	used.Add(7)
	kept.Add(7)
	for i, s := range stamps {
		used.Add(s)
		checkRtt(t, kept, 7, 1, 56)
		checkRtt(t, empty, 0, 0, 0)
		want := estimates(append([]uint16{7}, stamps[:i+1]...))
		checkRtt(t, used, s, i+2, want[i+1])
	}
	kept.Add(15)
	checkRtt(t, kept, 15, 2, 64)
	empty.Add(15)
	checkRtt(t, empty, 15, 1, 120)
	if used.Count() != len(stamps)+1 {
		t.Error(used.Count())
	}
}

// drive makes calls in an order without any regularity, at ticks near the taking and far
// from it.
func drive(t *testing.T, seed uint64, n int) {
	t.Helper()
	e, k := echo.New(), &keeper{}
	r := new(echo.Rtt)
	var samples []uint16
	for _, x := range anyNumbers(seed, n) {
		tick := k.tick + x%1500 - 100
		switch x >> 40 % 8 {
		case 0, 1:
			e.Take(uint16(x>>16), x)
			*k = *taking(uint16(x>>16), x)
		case 2:
			e.Take(uint16(65535-x%1000), tick)
			*k = *taking(uint16(65535-x%1000), tick)
		case 3, 4:
			checkReply(t, e, tick, k.reply(tick))
		case 5:
			checkReply(t, e, x, k.reply(x))
		case 6:
			r.Add(uint16(x >> 8))
			samples = append(samples, uint16(x>>8))
			checkRtt(t, r, uint16(x>>8), len(samples), estimates(samples)[len(samples)-1])
		default:
			checkKeeper(t, e, k, []uint64{tick, x, 0, end})
		}
		checkKeeper(t, e, k, []uint64{tick, k.tick})
	}
}

func TestCallsInAnyOrder(t *testing.T) {
	for seed := range uint64(500) {
		drive(t, seed, 100)
	}
}

// Each goroutine has keepers and samples of its own; two have the same calls.
func TestSeveralGoroutines(t *testing.T) {
	var ready, done sync.WaitGroup
	ready.Add(askers)
	for k := range uint64(askers) {
		done.Go(func() {
			ready.Done()
			ready.Wait()
			for seed := range uint64(20) {
				drive(t, seed+k/2, 200)
			}
		})
	}
	done.Wait()
}
