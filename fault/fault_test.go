package fault_test

import (
	"errors"
	"math"
	"strconv"
	"strings"
	"testing"

	"mooring/api"
	"mooring/fault"
)

// plain has neither a code nor a method Unwrap. Its text is that of a code.
type plain struct{}

func (plain) Error() string { return "error 3" }

// list can't be compared with another list.
type list []error

func (list) Error() string   { return "list" }
func (l list) Unwrap() error { return l[0] }

// hollow has a method Unwrap, which returns nothing.
type hollow struct{}

func (*hollow) Error() string { return "hollow" }
func (*hollow) Unwrap() error { return nil }

// claimer takes itself for all codes and faults, though it is neither.
type claimer struct{ err error }

func (claimer) Error() string   { return "claimer" }
func (c claimer) Unwrap() error { return c.err }
func (claimer) Is(error) bool   { return true }
func (claimer) As(target any) bool {
	switch t := target.(type) {
	case *api.Code:
		*t = api.Replay
	case *api.Fault:
		*t = api.Fault{Code: api.Replay, At: 99}
	}
	return true
}

// heir has the methods of a fault, and is none.
type heir struct{ api.Fault }

// breaker panics when it is asked for what it has wrapped.
type breaker struct{}

func (breaker) Error() string { return "breaker" }
func (breaker) Unwrap() error { panic("breaker") }

// codes are those with a name, those next to them and those far from them.
func codes() []api.Code {
	l := []api.Code{math.MinInt, math.MinInt32, -12, -1, 13, 14, 100, 255, 256, 257, math.MaxInt32, math.MaxInt}
	for c := range api.Code(13) {
		l = append(l, c)
	}
	return l
}

// offsets are those that are promised to have a sum.
func offsets() []int {
	return []int{0, 1, 7, 8, 1228, math.MaxInt32, 1 << 60, -1, -2, -8, -1228, math.MinInt32, -1 << 60}
}

// deep wraps an error often, by this package and by others in turn.
func deep(err error, times int) error {
	for i := range times {
		switch i % 3 {
		case 0:
			err = fault.In(strconv.Itoa(i), err)
		case 1:
			err = list{err}
		case 2:
			err = claimer{err}
		}
	}
	return err
}

// state is what is found out about an error.
type state struct {
	code    api.Code
	hasCode bool
	at      int
	hasAt   bool
	text    string
}

func stateOf(err error) state {
	var s state
	s.code, s.hasCode = fault.Code(err)
	s.at, s.hasAt = fault.At(err)
	s.text = fault.Text(err)
	return s
}

// example is an error, with what is to be found out about it.
type example struct {
	err  error
	want state
}

func examples() []example {
	none := state{text: "error"}
	return []example{
		{nil, state{text: "ok"}},
		{errors.New(""), none},
		{errors.New("auth 8"), none},
		{plain{}, none},
		{&hollow{}, none},
		{(*hollow)(nil), none},
		{list{nil}, none},
		{list{plain{}}, none},
		{claimer{nil}, none},
		{claimer{plain{}}, none},
		{(*api.Code)(nil), none},
		{api.Auth, state{api.Auth, true, 0, false, "auth"}},
		{api.Code(0), state{0, true, 0, false, ""}},
		{api.Code(13), state{13, true, 0, false, ""}},
		{api.Code(-5), state{-5, true, 0, false, ""}},
		{api.Fault{Code: api.Auth, At: 8}, state{api.Auth, true, 8, true, "auth 8"}},
		{api.Fault{Code: api.Range}, state{api.Range, true, 0, true, "range 0"}},
		{api.Fault{Code: api.Range, At: -3}, state{api.Range, true, -3, true, "range -3"}},
		{api.Fault{Code: 13, At: 4}, state{13, true, 4, true, " 4"}},
		{api.Fault{Code: -1, At: -1}, state{-1, true, -1, true, " -1"}},
		{api.Fault{}, state{0, true, 0, true, " 0"}},
		{&api.Fault{Code: api.Key, At: 5}, state{api.Key, true, 0, false, "key"}},
		{heir{api.Fault{Code: api.Key, At: 5}}, state{api.Key, true, 0, false, "key"}},
		{list{api.Empty, api.Short}, state{api.Empty, true, 0, false, "empty"}},
		{list{api.Fault{Code: api.Empty, At: 2}}, state{api.Empty, true, 2, true, "empty 2"}},
		{list{&api.Fault{Code: api.Empty, At: 2}}, state{api.Empty, true, 0, false, "empty"}},
		{claimer{api.Nonce}, state{api.Nonce, true, 0, false, "nonce"}},
		{claimer{api.Fault{Code: api.Nonce, At: 6}}, state{api.Nonce, true, 6, true, "nonce 6"}},
	}
}

// broken are errors that panic when they are asked for what they have wrapped.
func broken() []error {
	return []error{breaker{}, list{}, (*api.Fault)(nil), list{breaker{}}, claimer{list{}}}
}

// P2.1

func TestNewIsTheFault(t *testing.T) {
	for _, c := range codes() {
		for _, at := range append(offsets(), math.MinInt, math.MaxInt) {
			err := fault.New(c, at)
			if err != error(api.Fault{Code: c, At: at}) {
				t.Errorf("New(%d, %d) = %#v", c, at, err)
			}
		}
	}
}

func TestInHasTheTextOfBoth(t *testing.T) {
	for _, x := range []struct {
		part string
		err  error
		want string
	}{
		{"session", fault.New(api.Auth, 8), "session: error 3"},
		{"session", api.Auth, "session: error 3"},
		{"session", plain{}, "session: error 3"},
		{"", api.Auth, ": error 3"},
		{"a", errors.New(""), "a: "},
		{"", errors.New(""), ": "},
		{"a: b", api.Code(-1), "a: b: error -1"},
		{"\x00\xff\n", errors.New("é"), "\x00\xff\n: é"},
		{"a", fault.In("b", fault.In("c", api.Key)), "a: b: c: error 4"},
	} {
		if got := fault.In(x.part, x.err).Error(); got != x.want {
			t.Errorf("In(%q, %v) has the text %q, want %q", x.part, x.err, got, x.want)
		}
	}
}

func TestInUnwrapsToWhatWasWrapped(t *testing.T) {
	pointer := errors.New("x")
	for _, err := range []error{pointer, plain{}, &hollow{}, (*hollow)(nil), api.Auth, api.Fault{Code: api.Auth, At: 1}, heir{}, claimer{plain{}}, fault.In("b", api.Key), fault.In("a", api.Key)} {
		w := fault.In("a", err)
		u, ok := w.(interface{ Unwrap() error })
		if !ok {
			t.Fatalf("In of %v has no Unwrap", err)
		}
		if u.Unwrap() == nil || u.Unwrap() != err {
			t.Errorf("In of %#v unwraps to %#v", err, u.Unwrap())
		}
	}
	l, ok := errors.Unwrap(fault.In("a", list{api.Auth})).(list)
	if !ok || len(l) != 1 || l[0] != error(api.Auth) {
		t.Errorf("In of a list unwraps to %#v", l)
	}
}

func TestInOfNoError(t *testing.T) {
	for _, part := range []string{"", "a", "session"} {
		if err := fault.In(part, nil); err != nil {
			t.Errorf("In(%q, nil) = %#v", part, err)
		}
	}
}

func TestInOftenWrapped(t *testing.T) {
	err, parts := fault.New(api.Closed, 5), []string{"error 7"}
	for i := range 990 {
		err = fault.In("part"+strconv.Itoa(i), err)
		parts = append([]string{"part" + strconv.Itoa(i)}, parts...)
	}
	if err.Error() != strings.Join(parts, ": ") {
		t.Errorf("the text is %q", err.Error())
	}
	for range 990 {
		err = errors.Unwrap(err)
	}
	if err != error(api.Fault{Code: api.Closed, At: 5}) {
		t.Errorf("what was wrapped is %#v", err)
	}
}

func TestInDependsOnItsArgumentsOnly(t *testing.T) {
	if fault.In("a", api.Auth) != fault.In("a", api.Auth) {
		t.Error("errors of the same arguments differ")
	}
	if fault.In("a", api.Auth) == fault.In("b", api.Auth) || fault.In("a", api.Auth) == fault.In("a", api.Key) {
		t.Error("errors of other arguments are the same")
	}
}

// P2.2 and P2.4

func TestCodeAndOffsetAndText(t *testing.T) {
	for i, x := range examples() {
		if got := stateOf(x.err); got != x.want {
			t.Errorf("the error %d, %#v: %+v, want %+v", i, x.err, got, x.want)
		}
	}
}

func TestCodeAndOffsetOfWrappedErrors(t *testing.T) {
	for i, x := range examples() {
		if x.err == nil {
			continue
		}
		for _, times := range []int{1, 2, 3, 4, 10, 100, 990} {
			if got := stateOf(deep(x.err, times)); got != x.want {
				t.Errorf("the error %d, wrapped %d times: %+v, want %+v", i, times, got, x.want)
			}
		}
	}
}

func TestBrokenErrorsHaveNoCode(t *testing.T) {
	for i, err := range broken() {
		for _, times := range []int{0, 1, 2, 3, 990} {
			w := deep(err, times)
			if got := stateOf(w); got != (state{text: "error"}) {
				t.Errorf("the error %d, wrapped %d times: %+v", i, times, got)
			}
			if got := fault.Shift(w, 1); got != nil {
				t.Errorf("the error %d, wrapped %d times: Shift = %#v", i, times, got)
			}
		}
	}
}

func TestCodeAndOffsetOfAllCodes(t *testing.T) {
	for _, code := range codes() {
		if c, ok := fault.Code(fault.In("a", code)); c != code || !ok {
			t.Errorf("the code of %d is %d, %t", code, c, ok)
		}
		if at, ok := fault.At(fault.In("a", code)); at != 0 || ok {
			t.Errorf("the offset of the code %d is %d, %t", code, at, ok)
		}
		for _, offset := range append(offsets(), math.MinInt, math.MaxInt) {
			err := fault.In("a", fault.New(code, offset))
			if c, ok := fault.Code(err); c != code || !ok {
				t.Errorf("the code of %d at %d is %d, %t", code, offset, c, ok)
			}
			if at, ok := fault.At(err); at != offset || !ok {
				t.Errorf("the offset of %d at %d is %d, %t", code, offset, at, ok)
			}
		}
	}
}

// P2.3

func TestShiftMovesTheOffset(t *testing.T) {
	for _, code := range codes() {
		for _, at := range offsets() {
			for _, n := range offsets() {
				want := error(api.Fault{Code: code, At: at + n})
				for _, times := range []int{0, 1, 30} {
					if got := fault.Shift(deep(fault.New(code, at), times), n); got != want {
						t.Errorf("Shift of %d at %d by %d = %#v", code, at, n, got)
					}
				}
			}
		}
	}
}

func TestShiftOfACodeWithoutAnOffset(t *testing.T) {
	for _, code := range codes() {
		for _, n := range offsets() {
			want := error(api.Fault{Code: code, At: n})
			for _, err := range []error{code, fault.In("a", code), &api.Fault{Code: code, At: 50}, deep(code, 990)} {
				if got := fault.Shift(err, n); got != want {
					t.Errorf("Shift of %#v by %d = %#v", err, n, got)
				}
			}
		}
	}
}

func TestShiftOfAnErrorWithoutACode(t *testing.T) {
	for i, x := range examples() {
		if x.want.hasCode {
			continue
		}
		for _, n := range offsets() {
			if got := fault.Shift(x.err, n); got != nil {
				t.Errorf("the error %d: Shift = %#v", i, got)
			}
			if got := fault.Shift(fault.In("a", x.err), n); got != nil {
				t.Errorf("the error %d, wrapped: Shift = %#v", i, got)
			}
		}
	}
}

func TestShiftKeepsWhatIsGiven(t *testing.T) {
	f := &api.Fault{Code: api.Syntax, At: 3}
	l := list{api.Fault{Code: api.Range, At: 4}}
	w := fault.In("a", l)
	fault.Shift(f, 10)
	fault.Shift(w, 10)
	if f.At != 3 || f.Code != api.Syntax {
		t.Errorf("a fault has become %#v", f)
	}
	if at, ok := fault.At(w); at != 4 || !ok {
		t.Errorf("the offset has become %d, %t", at, ok)
	}
}

// P2.4

func TestNames(t *testing.T) {
	want := map[api.Code]string{
		1: "short", 2: "oversize", 3: "auth", 4: "key", 5: "nonce", 6: "exhausted",
		7: "closed", 8: "direction", 9: "replay", 10: "range", 11: "syntax", 12: "empty",
	}
	for _, c := range codes() {
		if got := fault.Name(c); got != want[c] {
			t.Errorf("Name(%d) = %q, want %q", c, got, want[c])
		}
	}
	for c := api.Code(-300); c < 300; c++ {
		if got := fault.Name(c); got != want[c] {
			t.Errorf("Name(%d) = %q, want %q", c, got, want[c])
		}
	}
}

func TestTextOfAllCodes(t *testing.T) {
	for _, c := range codes() {
		if got := fault.Text(fault.In("a", c)); got != fault.Name(c) {
			t.Errorf("Text of the code %d is %q", c, got)
		}
		for _, at := range append(offsets(), math.MinInt, math.MaxInt) {
			want := fault.Name(c) + " " + strconv.Itoa(at)
			if got := fault.Text(fault.In("a", fault.New(c, at))); got != want {
				t.Errorf("Text of %d at %d is %q, want %q", c, at, got, want)
			}
		}
	}
}

// P2.5

func TestLibraryFindsTheSameCodes(t *testing.T) {
	for i, x := range examples() {
		if x.err == nil {
			continue
		}
		for _, c := range codes() {
			want := errors.Is(x.err, c)
			if got := errors.Is(fault.In("a", x.err), c); got != want {
				t.Errorf("the error %d: errors.Is of the code %d is %t", i, c, got)
			}
			if got := errors.Is(fault.In("a", fault.In("b", x.err)), c); got != want {
				t.Errorf("the error %d, wrapped twice: errors.Is of the code %d is %t", i, c, got)
			}
		}
	}
}

func TestLibraryFindsWhatWasWrapped(t *testing.T) {
	for _, code := range codes() {
		err := error(fault.New(code, 9))
		for i := range 990 {
			err = fault.In(strconv.Itoa(i), err)
		}
		for _, c := range codes() {
			if got := errors.Is(err, c); got != (c == code) {
				t.Errorf("errors.Is of %d finds %d: %t", code, c, got)
			}
		}
		if !errors.Is(err, api.Fault{Code: code, At: 9}) || errors.Is(err, api.Fault{Code: code, At: 8}) {
			t.Errorf("errors.Is doesn't find the fault with the code %d", code)
		}
	}
}
