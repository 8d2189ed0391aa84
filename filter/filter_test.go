package filter_test

import (
	"math"
	"slices"
	"sync"
	"testing"

	"mooring/api"
	"mooring/filter"
)

const (
	// askers is how many goroutines ask at the same time.
	askers = 16
	// end is the greatest number that is ever fresh, written out.
	end = 9223372036854775807
	// far is how often something is repeated where once could be chance.
	far = 1000
)

// numbers are those at which the chapter's rules turn, those beside them, and others.
var numbers = []uint64{
	0, 1, 2, 3, 4, 5, 6, 255, 256, 1<<16 - 1, 1 << 16, 1<<31 - 1, 1 << 31, 1<<32 - 1, 1 << 32, 1<<53 - 1, 1 << 53,
	1<<62 - 1, 1 << 62, end - 3, end - 2, end - 1, end,
	end + 1, end + 2, end + 3, 1<<63 + 1<<62, math.MaxUint64 - 1, math.MaxUint64,
}

// anyNumbers returns n numbers without any regularity.
func anyNumbers(seed uint64, n int) []uint64 {
	l := make([]uint64, n)
	x := seed*0x9e3779b97f4a7c15 + 1
	for i := range l {
		x = x*6364136223846793005 + 1442695040888963407
		l[i] = x ^ x>>29
	}
	return l
}

// someNumbers are also numbers with each bit alone, and some without any regularity, near
// the end and anywhere.
func someNumbers() []uint64 {
	l := slices.Clone(numbers)
	for bit := range 64 {
		one := uint64(1) << bit
		l = append(l, one, one-1, one+1, end-one, end+one, math.MaxUint64-one)
	}
	for _, x := range anyNumbers(1, 50) {
		l = append(l, x, x>>1, end-x%2000, end+x%2000)
	}
	return l
}

// around are a number and those beside it, as far as there are any.
func around(x uint64) []uint64 {
	l := []uint64{x}
	for d := uint64(1); d <= 3; d++ {
		if x >= d {
			l = append(l, x-d)
		}
		if x <= math.MaxUint64-d {
			l = append(l, x+d)
		}
	}
	return l
}

// model is a filter, kept as the chapter says it: by all numbers that it has had as the
// last one, of which perhaps the first one was not accepted, and by its refusals.
type model struct {
	lasts             []uint64
	accepted, refused int
}

// after is the model of After.
func after(last uint64) *model {
	return &model{lasts: []uint64{min(last, end)}}
}

// last is the greatest of all last numbers, so that it is another one if they do not rise.
func (m *model) last() (uint64, bool) {
	if len(m.lasts) == 0 {
		return 0, false
	}
	return slices.Max(m.lasts), true
}

// code is what Accept returns.
func (m *model) code(seq uint64) error {
	last, ok := m.last()
	if seq > end {
		return api.Code(10)
	}
	if ok && seq <= last {
		return api.Code(9)
	}
	return nil
}

// accept counts, and makes a number the last one if it is fresh.
func (m *model) accept(seq uint64) {
	if m.code(seq) != nil {
		m.refused++
		return
	}
	m.accepted++
	m.lasts = append(m.lasts, seq)
}

// same asks whether two errors are the same; each may be nil.
func same(a, b error) bool {
	if a == nil || b == nil {
		return a == nil && b == nil
	}
	return a == b
}

func checkFresh(t *testing.T, f *filter.Filter, seq uint64, want bool) {
	t.Helper()
	if got := f.Fresh(seq); got != want {
		t.Errorf("Fresh(%d) = %t, want %t", seq, got, want)
	}
}

func checkLast(t *testing.T, f *filter.Filter, want uint64, some bool) {
	t.Helper()
	if last, ok := f.Last(); last != want || ok != some {
		t.Errorf("Last() = %d, %t, want %d, %t", last, ok, want, some)
	}
}

func checkCounts(t *testing.T, f *filter.Filter, accepted, refused int) {
	t.Helper()
	if a, r := f.Counts(); a != accepted || r != refused {
		t.Errorf("Counts() = %d, %d, want %d, %d", a, r, accepted, refused)
	}
}

func checkAccept(t *testing.T, f *filter.Filter, seq uint64, want error) {
	t.Helper()
	if err := f.Accept(seq); !same(err, want) {
		t.Errorf("Accept(%d) = %v, want %v", seq, err, want)
	}
}

// checkState checks the last number and the counts.
func checkState(t *testing.T, f *filter.Filter, m *model) {
	t.Helper()
	last, ok := m.last()
	checkLast(t, f, last, ok)
	checkCounts(t, f, m.accepted, m.refused)
}

// checkAll checks all that a filter tells, and which of some numbers are fresh.
func checkAll(t *testing.T, f *filter.Filter, m *model, seqs []uint64) {
	t.Helper()
	for _, seq := range seqs {
		checkFresh(t, f, seq, m.code(seq) == nil)
	}
	checkState(t, f, m)
}

// checkStep checks what a filter tells before and after a call of Accept, and what this
// returns.
func checkStep(t *testing.T, f *filter.Filter, m *model, seq uint64) {
	t.Helper()
	last, _ := m.last()
	seqs := append(around(seq), around(last)...)
	checkAll(t, f, m, seqs)
	checkAccept(t, f, seq, m.code(seq))
	m.accept(seq)
	checkAll(t, f, m, seqs)
}

// P19.1

func TestConstantsOfTheChapter(t *testing.T) {
	if api.MaxSeq != end || api.Closed != 7 || api.Replay != 9 || api.Range != 10 {
		t.Error(uint64(api.MaxSeq), int(api.Closed), int(api.Replay), int(api.Range))
	}
}

func TestFreshOfANewFilter(t *testing.T) {
	for _, x := range []struct {
		seq  uint64
		want bool
	}{
		{0, true}, {1, true}, {5, true}, {1 << 32, true}, {1 << 62, true}, {9223372036854775806, true}, {9223372036854775807, true},
		{9223372036854775808, false}, {9223372036854775809, false}, {18446744073709551614, false}, {18446744073709551615, false},
	} {
		f := filter.New()
		checkFresh(t, f, x.seq, x.want)
		checkLast(t, f, 0, false)
		checkCounts(t, f, 0, 0)
	}
}

func TestFreshAfterKnownNumbers(t *testing.T) {
	for _, x := range []struct {
		given, last uint64
		fresh, old  []uint64
	}{
		{0, 0, []uint64{1, 2, 3, end - 1, end}, []uint64{0, end + 1, math.MaxUint64}},
		{1, 1, []uint64{2, 3, end}, []uint64{0, 1, end + 1, end + 2, math.MaxUint64}},
		{9, 9, []uint64{10, 11, 1 << 32, end}, []uint64{0, 7, 8, 9, end + 1, end + 10, math.MaxUint64}},
		{1 << 32, 1 << 32, []uint64{1<<32 + 1, 1 << 33, end}, []uint64{0, 1, 1<<32 - 1, 1 << 32, end + 1}},
		{end - 2, end - 2, []uint64{end - 1, end}, []uint64{0, end - 4, end - 3, end - 2, end + 1, end + 2, math.MaxUint64}},
		{end - 1, end - 1, []uint64{end}, []uint64{0, 1, end - 3, end - 2, end - 1, end + 1, end + 2, math.MaxUint64}},
		{end, end, nil, []uint64{0, 1, end - 2, end - 1, end, end + 1, end + 2, math.MaxUint64}},
		{end + 1, end, nil, []uint64{0, 1, end - 1, end, end + 1, end + 2, end + 3, math.MaxUint64}},
		{math.MaxUint64, end, nil, []uint64{0, 1, end - 1, end, end + 1, end + 2, math.MaxUint64 - 1, math.MaxUint64}},
	} {
		f := filter.After(x.given)
		for _, seq := range x.fresh {
			checkFresh(t, f, seq, true)
		}
		for _, seq := range x.old {
			checkFresh(t, f, seq, false)
		}
		checkLast(t, f, x.last, true)
		checkCounts(t, f, 0, 0)
	}
}

func TestFreshOfManyNumbers(t *testing.T) {
	seqs := someNumbers()
	checkAll(t, filter.New(), &model{}, seqs)
	for _, last := range seqs {
		checkAll(t, filter.After(last), after(last), seqs)
		checkAll(t, filter.After(last), after(last), around(last))
	}
}

// A number is fresh however it became the last one.
func TestFreshAfterAnAcceptance(t *testing.T) {
	seqs := someNumbers()
	for _, last := range numbers {
		f, m := filter.New(), &model{}
		checkStep(t, f, m, last)
		checkAll(t, f, m, seqs)
	}
}

// After counts no acceptance, but those behind it are counted.
func TestCountsAfterANumber(t *testing.T) {
	for _, last := range someNumbers() {
		f, m := filter.After(last), after(last)
		checkCounts(t, f, 0, 0)
		for _, seq := range around(last) {
			checkStep(t, f, m, seq)
		}
	}
}

// P19.2

func TestAcceptOfKnownNumbers(t *testing.T) {
	f := filter.New()
	for _, x := range []struct {
		seq               uint64
		code              error
		last              uint64
		accepted, refused int
	}{
		{5, nil, 5, 1, 0}, {5, api.Replay, 5, 1, 1}, {4, api.Replay, 5, 1, 2}, {0, api.Replay, 5, 1, 3},
		{6, nil, 6, 2, 3}, {8, nil, 8, 3, 3}, {7, api.Replay, 8, 3, 4}, {8, api.Replay, 8, 3, 5}, {9, nil, 9, 4, 5},
		{end + 1, api.Range, 9, 4, 6}, {math.MaxUint64, api.Range, 9, 4, 7}, {9, api.Replay, 9, 4, 8}, {10, nil, 10, 5, 8},
		{end - 1, nil, end - 1, 6, 8}, {end - 2, api.Replay, end - 1, 6, 9}, {end - 1, api.Replay, end - 1, 6, 10},
		{end, nil, end, 7, 10}, {end, api.Replay, end, 7, 11}, {end + 1, api.Range, end, 7, 12},
		{end, api.Replay, end, 7, 13}, {end - 1, api.Replay, end, 7, 14}, {0, api.Replay, end, 7, 15},
		{math.MaxUint64, api.Range, end, 7, 16},
	} {
		checkFresh(t, f, x.seq, x.code == nil)
		checkAccept(t, f, x.seq, x.code)
		checkFresh(t, f, x.seq, false)
		checkLast(t, f, x.last, true)
		checkCounts(t, f, x.accepted, x.refused)
	}
}

func TestFirstAcceptOfANewFilter(t *testing.T) {
	for _, seq := range someNumbers() {
		f, m := filter.New(), &model{}
		checkStep(t, f, m, seq)
		checkAll(t, f, m, numbers)
		checkStep(t, f, m, seq)
		checkAll(t, f, m, numbers)
	}
}

// 0 is accepted once, although Last returns 0 also before it.
func TestAcceptOfZero(t *testing.T) {
	f := filter.New()
	checkLast(t, f, 0, false)
	checkAccept(t, f, 0, nil)
	checkLast(t, f, 0, true)
	checkCounts(t, f, 1, 0)
	checkAccept(t, f, 0, api.Replay)
	checkLast(t, f, 0, true)
	checkCounts(t, f, 1, 1)
	checkAccept(t, f, 1, nil)
	checkLast(t, f, 1, true)
	checkCounts(t, f, 2, 1)
	checkAccept(t, filter.After(0), 0, api.Replay)
	checkAccept(t, filter.After(0), 1, nil)
}

// Each of the last number, the one before it and the one after it is asked for in any
// order.
func TestAcceptAroundTheLastNumber(t *testing.T) {
	for _, last := range someNumbers() {
		l := around(last)
		for first := range l {
			for second := range l {
				f, m := filter.After(last), after(last)
				checkStep(t, f, m, l[first])
				checkStep(t, f, m, l[second])
				checkStep(t, f, m, last)
			}
		}
	}
}

// A number behind MaxSeq has the code Range also for a filter without a last number, and
// for one behind which no number is fresh.
func TestAcceptOutOfRange(t *testing.T) {
	for _, f := range []*filter.Filter{filter.New(), filter.After(0), filter.After(5), filter.After(end), filter.After(math.MaxUint64)} {
		last, ok := f.Last()
		refused := 0
		for _, seq := range someNumbers() {
			if seq <= end {
				continue
			}
			checkFresh(t, f, seq, false)
			checkAccept(t, f, seq, api.Range)
			refused++
			checkLast(t, f, last, ok)
			checkCounts(t, f, 0, refused)
		}
	}
}

// The codes are the api.Codes themselves, with the numbers of the document.
func TestErrorsOfAccept(t *testing.T) {
	for _, x := range []struct {
		f    *filter.Filter
		seq  uint64
		code int
		text string
	}{
		{nil, 0, 7, "error 7"}, {nil, end, 7, "error 7"}, {nil, end + 1, 7, "error 7"}, {nil, math.MaxUint64, 7, "error 7"},
		{filter.After(5), 5, 9, "error 9"}, {filter.After(5), 4, 9, "error 9"}, {filter.After(end), end, 9, "error 9"},
		{filter.After(5), end + 1, 10, "error 10"}, {filter.New(), end + 1, 10, "error 10"}, {filter.New(), math.MaxUint64, 10, "error 10"},
	} {
		err := x.f.Accept(x.seq)
		if code, ok := err.(api.Code); !ok || int(code) != x.code || err.Error() != x.text {
			t.Errorf("Accept(%d) = %v, want %s", x.seq, err, x.text)
		}
	}
}

func TestRefuse(t *testing.T) {
	f, m := filter.New(), &model{}
	for range far {
		checkAll(t, f, m, numbers)
		f.Refuse()
		m.refused++
		checkAll(t, f, m, numbers)
	}
	for _, last := range someNumbers() {
		f, m := filter.After(last), after(last)
		for range 3 {
			f.Refuse()
			m.refused++
			checkAll(t, f, m, around(last))
		}
		for _, seq := range around(last) {
			checkStep(t, f, m, seq)
			f.Refuse()
			m.refused++
			checkAll(t, f, m, around(seq))
		}
	}
}

// P19.3

func TestCountsOfKnownCalls(t *testing.T) {
	for accepted := range 20 {
		for refused := range 20 {
			f := filter.New()
			for i := range accepted {
				checkAccept(t, f, uint64(i), nil)
			}
			for i := range refused {
				if i%2 == 0 {
					f.Refuse()
				} else {
					checkAccept(t, f, end+1, api.Range)
				}
			}
			checkCounts(t, f, accepted, refused)
			checkLast(t, f, uint64(max(accepted-1, 0)), accepted > 0)
		}
	}
}

func TestAskingChangesNothing(t *testing.T) {
	f, m := filter.New(), &model{}
	for _, seq := range numbers {
		for range 20 {
			checkState(t, f, m)
		}
		for range 20 {
			checkAll(t, f, m, numbers)
		}
		checkStep(t, f, m, seq)
	}
}

// Nobody needs to ask for anything before Accept.
func TestAcceptWithoutAsking(t *testing.T) {
	f, m := filter.New(), &model{}
	for _, seq := range someNumbers() {
		checkAccept(t, f, seq, m.code(seq))
		m.accept(seq)
	}
	checkAll(t, f, m, someNumbers())
}

// P19.4

// All numbers are offered in several orders, and again; what is accepted is gathered.
func TestAcceptedNumbersRise(t *testing.T) {
	sorted := someNumbers()
	slices.Sort(sorted)
	backward := slices.Clone(sorted)
	slices.Reverse(backward)
	for _, l := range [][]uint64{sorted, backward, someNumbers(), anyNumbers(3, far), slices.Concat(sorted, sorted)} {
		f := filter.New()
		var got []uint64
		for _, seq := range l {
			if f.Accept(seq) == nil {
				got = append(got, seq)
			}
			f.Accept(seq)
		}
		if len(got) == 0 {
			t.Fatal("nothing is accepted")
		}
		for i, seq := range got {
			if seq > end || i > 0 && seq <= got[i-1] {
				t.Errorf("%d is accepted at %d", seq, i)
			}
		}
		checkLast(t, f, got[len(got)-1], true)
		checkCounts(t, f, len(got), 2*len(l)-len(got))
	}
}

// Every number that rises is accepted, the steps be small or great.
func TestRisingNumbersAreAccepted(t *testing.T) {
	for _, step := range []uint64{1, 2, 3, 1 << 16, 1 << 32, 1 << 52} {
		f := filter.New()
		for i := range uint64(far) {
			checkFresh(t, f, i*step, true)
			checkAccept(t, f, i*step, nil)
			checkAccept(t, f, i*step, api.Replay)
		}
		checkLast(t, f, (far-1)*step, true)
		checkCounts(t, f, far, far)
	}
}

func TestNothingIsAcceptedBehindTheEnd(t *testing.T) {
	for _, f := range []*filter.Filter{filter.After(end), filter.After(end + 1), filter.After(math.MaxUint64)} {
		refused := 0
		for _, seq := range append(someNumbers(), anyNumbers(4, far)...) {
			if f.Fresh(seq) || f.Accept(seq) == nil {
				t.Errorf("%d is fresh or accepted", seq)
			}
			refused++
		}
		checkLast(t, f, end, true)
		checkCounts(t, f, 0, refused)
	}
}

// What a nil Filter does

func TestNilFilter(t *testing.T) {
	var f *filter.Filter
	for range 3 {
		for _, seq := range someNumbers() {
			checkFresh(t, f, seq, false)
			checkAccept(t, f, seq, api.Closed)
		}
		f.Refuse()
		checkLast(t, f, 0, false)
		checkCounts(t, f, 0, 0)
	}
	for _, call := range []func(){
		func() { checkFresh(t, nil, 0, false) },
		func() { checkAccept(t, nil, 0, api.Closed) },
		func() { checkLast(t, nil, 0, false) },
		func() { checkCounts(t, nil, 0, 0) },
		func() { (*filter.Filter)(nil).Refuse() },
	} {
		call()
	}
}

// The Rules

// What is done with one filter does not reach another, also not one that was made of the
// same number.
func TestTwoFilters(t *testing.T) {
	used, kept := filter.New(), filter.New()
	m := &model{}
	for _, seq := range someNumbers() {
		checkStep(t, used, m, seq)
		used.Refuse()
		m.refused++
		checkAll(t, kept, &model{}, numbers)
	}
	for _, last := range numbers {
		used, kept := filter.After(last), filter.After(last)
		m := after(last)
		for _, seq := range numbers {
			checkStep(t, used, m, seq)
			used.Refuse()
			m.refused++
			checkAll(t, kept, after(last), around(last))
		}
		checkStep(t, kept, after(last), last)
		checkAll(t, used, m, around(last))
	}
}

// A new filter does not know those that were made before.
func TestANewFilterAfterOthers(t *testing.T) {
	for range 20 {
		f, m := filter.New(), &model{}
		checkStep(t, f, m, 5)
		checkStep(t, f, m, end)
		f.Refuse()
		f, m = filter.After(3), after(3)
		checkStep(t, f, m, 4)
		checkStep(t, f, m, 3)
		f.Refuse()
	}
}

// drive makes calls in an order without any regularity, with numbers near the last one and
// far from it.
func drive(t *testing.T, f *filter.Filter, m *model, calls []uint64) {
	t.Helper()
	for _, x := range calls {
		last, _ := m.last()
		switch x >> 40 % 16 {
		case 0:
			f.Refuse()
			m.refused++
		case 1, 2:
			checkState(t, f, m)
		case 3, 4:
			checkAll(t, f, m, []uint64{x, x >> 1, last})
		case 5:
			checkStep(t, f, m, x)
		case 6:
			checkStep(t, f, m, x>>8)
		default:
			checkStep(t, f, m, last+x%7-2)
		}
	}
	checkAll(t, f, m, numbers)
}

func TestCallsInAnyOrder(t *testing.T) {
	for i, last := range someNumbers() {
		drive(t, filter.New(), &model{}, anyNumbers(uint64(i), 50))
		drive(t, filter.After(last), after(last), anyNumbers(uint64(i), 50))
	}
}

// Each goroutine has a filter of its own; two have the same calls.
func TestSeveralGoroutines(t *testing.T) {
	var ready, done sync.WaitGroup
	ready.Add(askers)
	for k := range uint64(askers) {
		done.Go(func() {
			ready.Done()
			ready.Wait()
			for i, last := range numbers {
				drive(t, filter.New(), &model{}, anyNumbers(uint64(i)+k/2, 100))
				drive(t, filter.After(last), after(last), anyNumbers(uint64(i)+k/2, 100))
			}
		})
	}
	done.Wait()
}
