package counter_test

import (
	"math"
	"slices"
	"sync"
	"testing"

	"mooring/api"
	"mooring/counter"
)

const (
	// askers is how many goroutines ask at the same time.
	askers = 16
	// end is the number at which a counter is exhausted, written out.
	end = 9223372036854775807
	// far is how many numbers are asked for where not all of them can be.
	far = 1000
)

// begins are numbers at which the chapter's rules turn, those beside them, and others.
var begins = []uint64{
	0, 1, 2, 7, 255, 256, 1<<16 - 1, 1<<32 - 2, 1<<32 - 1, 1 << 32, 1<<53 - 1, 1 << 53, 1<<62 - 1, 1 << 62,
	end - 1001, end - 1000, end - 999, end - 5, end - 4, end - 3, end - 2, end - 1, end,
	end + 1, end + 2, end + 1000, 1<<63 + 1<<62, math.MaxUint64 - 1, math.MaxUint64,
}

// anyNumbers returns n numbers without any regularity.
func anyNumbers(seed uint64, n int) []uint64 {
	l := make([]uint64, n)
	x := seed*0x9e3779b97f4a7c15 + 1
	for i := range l {
		x = x*6364136223846793005 + 1442695040888963407
		l[i] = x ^ x>>29
	}
	return l
}

// someBegins are also numbers with each bit alone, and some without any regularity, near
// the end and anywhere.
func someBegins() []uint64 {
	l := slices.Clone(begins)
	for bit := range 64 {
		one := uint64(1) << bit
		l = append(l, one, one-1, one+1, end-one, end+one, math.MaxUint64-one)
	}
	for _, x := range anyNumbers(1, 200) {
		l = append(l, x, x>>1, end-x%2000, end+x%2000)
	}
	return l
}

// model is a counter, kept as the chapter says it: by what it was made of and by what was
// called. A nil Counter is one that was closed first.
type model struct {
	first  uint64
	given  uint64
	closed bool
}

// next is the number that a counter has next, whether or not it gives it.
func (m model) next() uint64 {
	return min(m.first, end) + m.given
}

// result is what Peek and Next return.
func (m model) result() (uint64, error) {
	if m.closed {
		return 0, api.Code(7)
	}
	if m.next() >= end {
		return 0, api.Code(6)
	}
	return m.next(), nil
}

func (m model) left() uint64 {
	if m.closed {
		return 0
	}
	return end - m.next()
}

// same asks whether two errors are the same; each may be nil.
func same(a, b error) bool {
	if a == nil || b == nil {
		return a == nil && b == nil
	}
	return a == b
}

func checkPeek(t *testing.T, c *counter.Counter, want uint64, code error) {
	t.Helper()
	if seq, err := c.Peek(); seq != want || !same(err, code) {
		t.Errorf("Peek() = %d, %v, want %d, %v", seq, err, want, code)
	}
}

func checkNext(t *testing.T, c *counter.Counter, want uint64, code error) {
	t.Helper()
	if seq, err := c.Next(); seq != want || !same(err, code) {
		t.Errorf("Next() = %d, %v, want %d, %v", seq, err, want, code)
	}
}

// checkCounts checks how many numbers are left, and how many were given.
func checkCounts(t *testing.T, c *counter.Counter, left, given uint64) {
	t.Helper()
	if l, g := c.Left(), c.Given(); l != left || g != given {
		t.Errorf("Left() = %d, Given() = %d, want %d, %d", l, g, left, given)
	}
}

// checkState checks all that a counter tells without giving a number.
func checkState(t *testing.T, c *counter.Counter, m model) {
	t.Helper()
	seq, code := m.result()
	checkPeek(t, c, seq, code)
	checkCounts(t, c, m.left(), m.given)
}

// checkStep checks what a counter tells before and after a call of Next, and what this
// returns.
func checkStep(t *testing.T, c *counter.Counter, m *model) {
	t.Helper()
	checkState(t, c, *m)
	seq, code := m.result()
	checkNext(t, c, seq, code)
	if code == nil {
		m.given++
	}
	checkState(t, c, *m)
}

// spent is an exhausted counter that has given some numbers.
func spent(t *testing.T, numbers uint64) *counter.Counter {
	t.Helper()
	c := counter.New(end - numbers)
	for i := range numbers {
		checkNext(t, c, end-numbers+i, nil)
	}
	checkNext(t, c, 0, api.Exhausted)
	return c
}

// P18.1

func TestConstantsOfTheChapter(t *testing.T) {
	if api.MaxSeq != end || api.Exhausted != 6 || api.Closed != 7 {
		t.Error(uint64(api.MaxSeq), int(api.Exhausted), int(api.Closed))
	}
}

func TestNextOfKnownCounters(t *testing.T) {
	for _, x := range []struct {
		next  uint64
		given []uint64
	}{
		{end - 5, []uint64{9223372036854775802, 9223372036854775803, 9223372036854775804, 9223372036854775805, 9223372036854775806}},
		{end - 2, []uint64{9223372036854775805, 9223372036854775806}},
		{end - 1, []uint64{9223372036854775806}},
		{end, nil}, {end + 1, nil}, {end + 2, nil}, {1<<63 + 1<<62, nil}, {math.MaxUint64 - 1, nil}, {math.MaxUint64, nil},
	} {
		c := counter.New(x.next)
		for _, seq := range x.given {
			checkNext(t, c, seq, nil)
		}
		for range 3 {
			checkNext(t, c, 0, api.Exhausted)
		}
	}
}

func TestNextFromTheBegin(t *testing.T) {
	zero, one, five := counter.New(0), counter.New(1), counter.New(5)
	for i := range uint64(far) {
		checkNext(t, zero, i, nil)
		checkNext(t, one, i+1, nil)
		checkNext(t, five, i+5, nil)
	}
}

// All that is told is checked before and after each number, up to exhaustion and three
// calls behind it, or as far as it goes.
func TestStepsOfManyCounters(t *testing.T) {
	for _, first := range begins {
		c, m := counter.New(first), model{first: first}
		for range min(m.left(), far) + 3 {
			checkStep(t, c, &m)
		}
	}
}

func TestFirstNumbersOfManyCounters(t *testing.T) {
	for _, first := range someBegins() {
		c, m := counter.New(first), model{first: first}
		for range 5 {
			checkStep(t, c, &m)
		}
	}
}

func TestNextWithoutAnEffect(t *testing.T) {
	for _, c := range []*counter.Counter{counter.New(end), counter.New(math.MaxUint64)} {
		for range far {
			checkNext(t, c, 0, api.Exhausted)
			checkCounts(t, c, 0, 0)
		}
	}
	c := counter.New(5)
	checkNext(t, c, 5, nil)
	c.Close()
	for range far {
		checkNext(t, c, 0, api.Closed)
		checkCounts(t, c, 0, 1)
	}
}

// The codes are the api.Codes themselves, with the numbers of the document.
func TestErrorsOfNextAndPeek(t *testing.T) {
	closed := counter.New(0)
	closed.Close()
	for _, x := range []struct {
		c    *counter.Counter
		code int
		text string
	}{
		{counter.New(end), 6, "error 6"}, {closed, 7, "error 7"}, {nil, 7, "error 7"},
	} {
		_, shown := x.c.Peek()
		_, given := x.c.Next()
		for _, err := range []error{shown, given} {
			if code, ok := err.(api.Code); !ok || int(code) != x.code || err.Error() != x.text {
				t.Errorf("the error is %v, want %s", err, x.text)
			}
		}
	}
}

// P18.2

func TestPeekOfKnownCounters(t *testing.T) {
	for _, x := range []struct {
		next, want uint64
		code       error
	}{
		{0, 0, nil}, {1, 1, nil}, {5, 5, nil}, {1 << 32, 4294967296, nil}, {end - 2, 9223372036854775805, nil},
		{end - 1, 9223372036854775806, nil}, {end, 0, api.Exhausted}, {end + 1, 0, api.Exhausted}, {math.MaxUint64, 0, api.Exhausted},
	} {
		checkPeek(t, counter.New(x.next), x.want, x.code)
	}
}

func TestLeftOfKnownCounters(t *testing.T) {
	for _, x := range []struct{ next, want uint64 }{
		{0, 9223372036854775807}, {1, 9223372036854775806}, {5, 9223372036854775802}, {1 << 62, 4611686018427387903},
		{end - 3, 3}, {end - 2, 2}, {end - 1, 1}, {end, 0}, {end + 1, 0}, {end + 1000, 0}, {math.MaxUint64, 0},
	} {
		checkCounts(t, counter.New(x.next), x.want, 0)
	}
}

// What is left at first is what is given until the counter is exhausted.
func TestLeftIsGivenUntilExhaustion(t *testing.T) {
	for numbers := range uint64(50) {
		c := counter.New(end - numbers)
		for i := range numbers {
			checkCounts(t, c, numbers-i, i)
			checkNext(t, c, end-numbers+i, nil)
		}
		checkNext(t, c, 0, api.Exhausted)
		checkCounts(t, c, 0, numbers)
	}
}

func TestAskingChangesNothing(t *testing.T) {
	for _, first := range begins {
		c, m := counter.New(first), model{first: first}
		for range 4 {
			seq, code := m.result()
			for range 20 {
				checkPeek(t, c, seq, code)
			}
			for range 20 {
				checkCounts(t, c, m.left(), m.given)
			}
			checkStep(t, c, &m)
		}
	}
}

// Nobody needs to ask for anything before Next.
func TestNextWithoutAsking(t *testing.T) {
	for _, first := range begins {
		c, m := counter.New(first), model{first: first}
		for range min(m.left(), far) {
			checkNext(t, c, m.next(), nil)
			m.given++
		}
		checkState(t, c, m)
	}
}

func TestCloseOfANewCounter(t *testing.T) {
	for _, first := range someBegins() {
		c := counter.New(first)
		c.Close()
		m := model{first: first, closed: true}
		for range 3 {
			checkStep(t, c, &m)
		}
		checkCounts(t, c, 0, 0)
	}
}

func TestCloseOfACounterThatHasGivenNumbers(t *testing.T) {
	for _, first := range begins {
		for _, calls := range []uint64{1, 2, 3, 100} {
			c, m := counter.New(first), model{first: first}
			for range calls {
				checkStep(t, c, &m)
			}
			c.Close()
			m.closed = true
			for range 3 {
				checkStep(t, c, &m)
			}
		}
	}
}

// Of both codes, Closed is the first one.
func TestCloseOfAnExhaustedCounter(t *testing.T) {
	for numbers := range uint64(20) {
		c := spent(t, numbers)
		checkPeek(t, c, 0, api.Exhausted)
		c.Close()
		for range 3 {
			checkPeek(t, c, 0, api.Closed)
			checkNext(t, c, 0, api.Closed)
			checkCounts(t, c, 0, numbers)
		}
	}
}

func TestCloseOfAClosedCounter(t *testing.T) {
	c := counter.New(5)
	checkNext(t, c, 5, nil)
	checkNext(t, c, 6, nil)
	for range 5 {
		c.Close()
		checkPeek(t, c, 0, api.Closed)
		checkNext(t, c, 0, api.Closed)
		checkCounts(t, c, 0, 2)
	}
	full := spent(t, 3)
	for range 5 {
		full.Close()
		checkPeek(t, full, 0, api.Closed)
		checkNext(t, full, 0, api.Closed)
		checkCounts(t, full, 0, 3)
	}
}

func TestNilCounter(t *testing.T) {
	var c *counter.Counter
	for range 3 {
		checkPeek(t, c, 0, api.Closed)
		checkNext(t, c, 0, api.Closed)
		checkCounts(t, c, 0, 0)
		c.Close()
	}
	for _, call := range []func(){
		func() { checkPeek(t, nil, 0, api.Closed) },
		func() { checkNext(t, nil, 0, api.Closed) },
		func() { checkCounts(t, nil, 0, 0) },
		func() { (*counter.Counter)(nil).Close() },
	} {
		call()
	}
}

// P18.3

func TestNumbersRiseByOne(t *testing.T) {
	for _, first := range someBegins() {
		c := counter.New(first)
		last, err := c.Next()
		if err == nil && last != first {
			t.Errorf("New(%d) gives %d first", first, last)
		}
		for range 20 {
			seq, again := c.Next()
			if again != nil {
				break
			}
			if err != nil || seq != last+1 || seq >= end {
				t.Errorf("New(%d) gives %d behind %d, %v", first, seq, last, err)
			}
			last = seq
		}
	}
}

func TestNoNumberIsTheEndOrGreater(t *testing.T) {
	for back := range uint64(200) {
		c := counter.New(end - back)
		var l []uint64
		for range back + 3 {
			if seq, err := c.Next(); err == nil {
				l = append(l, seq)
			}
		}
		if uint64(len(l)) != back {
			t.Fatalf("New(%d) gives %d numbers", end-back, len(l))
		}
		for i, seq := range l {
			if seq != end-back+uint64(i) || seq >= end {
				t.Errorf("the number %d of New(%d) is %d", i, end-back, seq)
			}
		}
	}
}

// A counter that is exhausted or closed stays so, whatever is called.
func TestBothStaySo(t *testing.T) {
	full, shut := spent(t, 2), counter.New(7)
	checkNext(t, shut, 7, nil)
	shut.Close()
	for range far {
		checkNext(t, full, 0, api.Exhausted)
		checkPeek(t, full, 0, api.Exhausted)
		checkCounts(t, full, 0, 2)
		checkNext(t, shut, 0, api.Closed)
		checkPeek(t, shut, 0, api.Closed)
		checkCounts(t, shut, 0, 1)
		shut.Close()
	}
}

// The Rules

// What is done with one counter does not reach another, also not one that was made of the
// same number.
func TestTwoCounters(t *testing.T) {
	for _, first := range begins {
		used, kept := counter.New(first), counter.New(first)
		m, still := model{first: first}, model{first: first}
		for range 10 {
			checkStep(t, used, &m)
			checkState(t, kept, still)
		}
		used.Close()
		m.closed = true
		checkStep(t, used, &m)
		for range 3 {
			checkStep(t, kept, &still)
		}
		checkState(t, used, m)
	}
}

// A new counter does not know those that were made before.
func TestANewCounterAfterOthers(t *testing.T) {
	for range 20 {
		for _, first := range []uint64{0, 5, end - 1, end} {
			c, m := counter.New(first), model{first: first}
			checkStep(t, c, &m)
			c.Close()
		}
		spent(t, 3).Close()
	}
}

// drive makes calls in an order without any regularity, closing a counter seldom.
func drive(t *testing.T, first uint64, calls []uint64) {
	t.Helper()
	c, m := counter.New(first), model{first: first}
	for _, x := range calls {
		switch x >> 40 % 16 {
		case 0:
			if x>>50%8 == 0 {
				c.Close()
				m.closed = true
			}
		case 1, 2:
			checkCounts(t, c, m.left(), m.given)
		case 3, 4:
			seq, code := m.result()
			checkPeek(t, c, seq, code)
		default:
			checkStep(t, c, &m)
		}
	}
	checkState(t, c, m)
}

func TestCallsInAnyOrder(t *testing.T) {
	for i, first := range someBegins() {
		drive(t, first, anyNumbers(uint64(i), 100))
	}
}

// Each goroutine has a counter of its own; two have the same numbers.
func TestSeveralGoroutines(t *testing.T) {
	var ready, done sync.WaitGroup
	ready.Add(askers)
	for k := range uint64(askers) {
		done.Go(func() {
			ready.Done()
			ready.Wait()
			for i, first := range begins {
				drive(t, first+k/2, anyNumbers(uint64(i)+k, 100))
			}
		})
	}
	done.Wait()
}
