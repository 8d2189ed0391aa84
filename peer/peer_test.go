package peer_test

import (
	"bytes"
	"slices"
	"strconv"
	"strings"
	"sync"
	"testing"
	"unicode/utf8"
	"unsafe"

	"mooring/peer"
)

const (
	// askers is how many goroutines ask at the same time.
	askers = 16
	// most is the greatest number of bytes of an address, written out.
	most = 100
	// allowed are the bytes of addresses, written out.
	allowed = "ABCDEFGHIJKLMNOPQRSTUVWXYZabcdefghijklmnopqrstuvwxyz0123456789.:-"
)

// rights are right addresses, some of which begin or end as others do.
var rights = []string{
	"a", "A", "Z", "z", "m", "0", "9", ".", ":", "-", "a:1", "A:1", "a:2", "b:1", "b:2", "a:", ":1", "a:11", "1:a",
	"client:1", "client:2", "server:1", "localhost", "10.0.0.1:60001", "10.0.0.1:60002", "fe80::1", "a-b.c:d", "-.:", "...",
	allowed, times("a", 99), times("a", 100), times("a", 99) + "b", "b" + times("a", 99), times("-", 100), times("9.", 50),
}

// wrongs are addresses that are not right.
var wrongs = []string{
	"", " ", "  ", "a b", " a", "a ", " a:1", "a:1 ", "a/b", "a\\b", "a_b", "a,b", "a;1", "a+b", "[::1]:1", "a@b", "*", "#", "a=1",
	"@", "[", "`", "{", "/", ";", ",", "\x00", "a\x00", "\x00a", "a\n", "\na", "a\r", "a\t", "\x7f", "a\x7f",
	"\x80", "\xff", "\xc3", "a\x80", "\x80a", "a\xffb", "\xc3\xa9\xa9", "\xc1\x81", "\xe0\x81\x81", "\xed\xa0\x80", "\xf4\x90\x80\x80",
	"\u00e9", "a\u00e9", "\u00c0", "\u0141", "\u0161", "\u0131", "\u013a", "\u017f", "\u0391", "\u0430", "\u0663", "\u0966",
	"\u2010", "\u2011", "\u2212", "\u3002", "\uff0e", "\uff1a", "\uff0d", "\uff21", "\uff41", "\uff11", "\u212a", "\u00aa", "\u00b2",
	"\ufffd", "\ufeffa", "\U00010041", "\U0001f600", "\U0010ffff", "\u4e16\u754c:1",
	times("a", 101), times("a", 102), times("a", 200), times("a", 256), times("a", 257), times("a", 356), times("a:1", 34),
	times("a", 99) + " ", " " + times("a", 99), times("a", 100) + " ", times("a", 99) + "\u00e9", times("\u00e9", 50), times("\xff", 100),
	times("a", 65535), times("a", 65536), times("a", 65537), times("a", 65636), times("a", 1<<20),
}

// times repeats a string.
func times(s string, n int) string { return strings.Repeat(s, n) }

// short cuts strings in messages.
func short(s string) string {
	if len(s) > 40 {
		return strconv.Quote(s[:40]) + " and " + strconv.Itoa(len(s)-40) + " bytes"
	}
	return strconv.Quote(s)
}

// anyNumbers returns n numbers without any regularity.
func anyNumbers(seed uint64, n int) []uint64 {
	l := make([]uint64, n)
	x := seed*0x9e3779b97f4a7c15 + 1
	for i := range l {
		x = x*6364136223846793005 + 1442695040888963407
		l[i] = x ^ x>>29
	}
	return l
}

// right is the chapter's definition, byte by byte.
func right(s string) bool {
	for i := range len(s) {
		if !bytes.Contains([]byte(allowed), []byte{s[i]}) {
			return false
		}
	}
	return len(s) >= 1 && len(s) <= most
}

// model is a peer, kept as the chapter says it: by the addresses that it has had, from
// nobody's or the one that it was made with on, and by those that count as met.
type model struct {
	fixed    bool
	had, met []string
}

// made is the model of New and of Fixed.
func made(address string, fixed bool) *model {
	if !right(address) {
		address = ""
	}
	return &model{fixed: fixed, had: []string{address}}
}

// address is what Address returns.
func (m *model) address() string { return m.had[len(m.had)-1] }

// moves is what Moves returns.
func (m *model) moves() int { return len(m.had) - 1 }

// count is what Met returns.
func (m *model) count(address string) int {
	n := 0
	for _, s := range m.met {
		if s == address {
			n++
		}
	}
	return n
}

// move is what Move returns and does.
func (m *model) move(address string) bool {
	if m.fixed || !right(address) {
		return false
	}
	m.met = append(m.met, address)
	if address == m.address() {
		return false
	}
	m.had = append(m.had, address)
	return true
}

func checkRight(t *testing.T, s string, want bool) {
	t.Helper()
	if got := peer.Right(s); got != want {
		t.Errorf("Right(%s) = %t, want %t", short(s), got, want)
	}
}

// checkAddress checks an address, which is nobody's if it is empty.
func checkAddress(t *testing.T, p *peer.Peer, want string) {
	t.Helper()
	if s, ok := p.Address(); s != want || ok != (want != "") {
		t.Errorf("Address() = %s, %t, want %s", short(s), ok, short(want))
	}
}

func checkMoves(t *testing.T, p *peer.Peer, want int) {
	t.Helper()
	if n := p.Moves(); n != want {
		t.Errorf("Moves() = %d, want %d", n, want)
	}
}

func checkMet(t *testing.T, p *peer.Peer, s string, want int) {
	t.Helper()
	if n := p.Met(s); n != want {
		t.Errorf("Met(%s) = %d, want %d", short(s), n, want)
	}
}

func checkMove(t *testing.T, p *peer.Peer, s string, want bool) {
	t.Helper()
	if moved := p.Move(s); moved != want {
		t.Errorf("Move(%s) = %t, want %t", short(s), moved, want)
	}
}

// checkAll checks all that a peer tells.
func checkAll(t *testing.T, p *peer.Peer, m *model, addresses ...string) {
	t.Helper()
	checkAddress(t, p, m.address())
	checkMoves(t, p, m.moves())
	for _, s := range addresses {
		checkMet(t, p, s, m.count(s))
	}
}

// checkStep checks what a peer tells before and after a call of Move, and what this
// returns.
func checkStep(t *testing.T, p *peer.Peer, m *model, address string, others ...string) {
	t.Helper()
	addresses := append([]string{address, m.address(), "", "a:1"}, others...)
	checkAll(t, p, m, addresses...)
	want := m.move(address)
	checkMove(t, p, address, want)
	checkAll(t, p, m, addresses...)
}

// checkNobody checks a peer that has nobody's address, no moves, and has met nobody.
func checkNobody(t *testing.T, p *peer.Peer) {
	t.Helper()
	checkAll(t, p, made("", true), slices.Concat(rights, wrongs)...)
}

// P21.1

func TestRightOfKnownAddresses(t *testing.T) {
	for _, s := range rights {
		checkRight(t, s, true)
	}
	for _, s := range wrongs {
		checkRight(t, s, false)
	}
}

func TestRightOfEachLength(t *testing.T) {
	for _, s := range []string{"a", "Z", "5", ".", ":", "-"} {
		checkRight(t, times(s, 0), false)
		for n := 1; n <= 100; n++ {
			checkRight(t, times(s, n), true)
		}
		for n := 101; n <= 1000; n++ {
			checkRight(t, times(s, n), false)
		}
	}
	for _, bits := range []int{8, 16, 20} {
		for n := 1<<bits - 2; n <= 1<<bits+101; n++ {
			checkRight(t, times("a", n), false)
		}
	}
}

// Each single byte, by itself: the 65 that are allowed, and all others.
func TestRightOfEachByte(t *testing.T) {
	n := 0
	for b := range 256 {
		s := string([]byte{byte(b)})
		checkRight(t, s, right(s))
		if peer.Right(s) {
			n++
		}
	}
	if n != 26+26+10+3 {
		t.Error(n)
	}
}

// Each single byte, at each place of right addresses.
func TestRightOfEachByteAtEachPlace(t *testing.T) {
	for _, n := range []int{1, 2, 3, 4, 5, 16, 17, 31, 32, 33, 63, 64, 65, 99, 100} {
		for _, fill := range []string{"a", ":"} {
			s := []byte(times(fill, n))
			for at := range n {
				for b := range 256 {
					s[at] = byte(b)
					checkRight(t, string(s), strings.IndexByte(allowed, byte(b)) >= 0)
				}
				s[at] = fill[0]
			}
		}
	}
}

// All strings of two bytes, among them each character of two bytes.
func TestRightOfEachPairOfBytes(t *testing.T) {
	for i := range 256 {
		for j := range 256 {
			s := string([]byte{byte(i), byte(j)})
			checkRight(t, s, right(s))
			checkRight(t, "a"+s, right(s))
			checkRight(t, s+"a", right(s))
		}
	}
}

// Each character, also those that end as a letter's number does, or look like one.
func TestRightOfEachCharacter(t *testing.T) {
	for r := range rune(utf8.MaxRune + 1) {
		s := string(r)
		want := r < 128 && strings.IndexByte(allowed, byte(r)) >= 0
		checkRight(t, s, want)
		checkRight(t, "a"+s+"1", want)
	}
}

// Bytes that are no UTF-8: characters that are cut, or longer than they need to be.
func TestRightOfNoUTF8(t *testing.T) {
	for _, r := range []rune{0xe9, 0x7ff, 0x800, 0xfffd, 0xffff, 0x10000, 0x10ffff} {
		s := string(r)
		for n := 1; n < len(s); n++ {
			for _, x := range []string{s[:n], s[n:], "a" + s[:n], s[:n] + "a", "a" + s[n:] + "a", s[n:] + "a"} {
				checkRight(t, x, false)
			}
		}
	}
	for i := range len(allowed) {
		c := allowed[i]
		for _, x := range []string{
			string([]byte{0xc0 | c>>6, 0x80 | c&63}), string([]byte{0xe0, 0x80 | c>>6, 0x80 | c&63}),
			string([]byte{0xf0, 0x80, 0x80 | c>>6, 0x80 | c&63}), string([]byte{c | 0x80}), string([]byte{c, 0x80}), string([]byte{0xc3, c}),
		} {
			checkRight(t, x, false)
			checkRight(t, "a"+x+"a", false)
		}
	}
}

func TestRightOfManyAddresses(t *testing.T) {
	for i, x := range anyNumbers(1, 20000) {
		s := make([]byte, x>>40%110)
		for j, y := range anyNumbers(uint64(i), len(s)) {
			s[j] = allowed[y>>32%uint64(len(allowed))]
		}
		checkRight(t, string(s), len(s) > 0 && len(s) <= 100)
		if len(s) > 0 && i%2 == 0 {
			s[x>>20%uint64(len(s))] = byte(x >> 8)
			checkRight(t, string(s), right(string(s)))
		}
	}
}

func TestNewWithARightAddress(t *testing.T) {
	for _, s := range rights {
		checkAddress(t, peer.New(s), s)
		checkAddress(t, peer.Fixed(s), s)
		checkAll(t, peer.New(s), made(s, false), slices.Concat(rights, wrongs)...)
		checkAll(t, peer.Fixed(s), made(s, true), slices.Concat(rights, wrongs)...)
	}
}

// With a wrong address a peer has nobody's, and not only a part of it.
func TestNewWithAWrongAddress(t *testing.T) {
	for _, s := range wrongs {
		if peer.New(s) == nil || peer.Fixed(s) == nil {
			t.Errorf("no peer for %s", short(s))
		}
		checkNobody(t, peer.New(s))
		checkNobody(t, peer.Fixed(s))
	}
}

// A fixed peer stays where it is; another one with the same address moves.
func TestOnlyFixedPeersAreFixed(t *testing.T) {
	for _, address := range append([]string{"", "a b", times("a", 101)}, rights...) {
		moving, fixed := peer.New(address), peer.Fixed(address)
		m, f := made(address, false), made(address, true)
		for _, to := range rights {
			checkStep(t, moving, m, to, address)
			checkStep(t, fixed, f, to, address)
		}
		checkAddress(t, moving, rights[len(rights)-1])
		checkAddress(t, fixed, f.had[0])
	}
}

// P21.2

// step is a call of Move, what it returns, and what is told behind it.
type step struct {
	to    string
	moved bool
	at    string
	moves int
	met   int
}

// checkSteps checks each step, and what was told before the first one.
func checkSteps(t *testing.T, p *peer.Peer, at string, steps []step) {
	t.Helper()
	checkAddress(t, p, at)
	checkMoves(t, p, 0)
	for _, x := range steps {
		checkMove(t, p, x.to, x.moved)
		checkAddress(t, p, x.at)
		checkMoves(t, p, x.moves)
		checkMet(t, p, x.to, x.met)
	}
}

func TestExampleOfTheChapter(t *testing.T) {
	checkSteps(t, peer.New("a:1"), "a:1", []step{{"b:2", true, "b:2", 1, 1}})
}

func TestKnownMoves(t *testing.T) {
	checkSteps(t, peer.New("a:1"), "a:1", []step{
		{"a:1", false, "a:1", 0, 1}, {"b:2", true, "b:2", 1, 1}, {"b:2", false, "b:2", 1, 2}, {"b 2", false, "b:2", 1, 0},
		{"", false, "b:2", 1, 0}, {"a:1", true, "a:1", 2, 2}, {times("a", 101), false, "a:1", 2, 0}, {"a:1\x80", false, "a:1", 2, 0},
		{"A:1", true, "A:1", 3, 1}, {"a:1", true, "a:1", 4, 3}, {"b:2", true, "b:2", 5, 3}, {"c", true, "c", 6, 1}, {"", false, "c", 6, 0},
		{"c", false, "c", 6, 2}, {"b 2", false, "c", 6, 0}, {"b:2", true, "b:2", 7, 4}, {times("a", 100), true, times("a", 100), 8, 1},
		{times("a", 99), true, times("a", 99), 9, 1}, {times("a", 101), false, times("a", 99), 9, 0}, {"b:2", true, "b:2", 10, 5},
	})
}

// The first address of a peer that has nobody's is another one, and so a move.
func TestKnownMovesFromNobody(t *testing.T) {
	for _, none := range wrongs {
		checkSteps(t, peer.New(none), "", []step{
			{none, false, "", 0, 0}, {"", false, "", 0, 0}, {"a b", false, "", 0, 0}, {"a:1", true, "a:1", 1, 1}, {"a:1", false, "a:1", 1, 2},
			{none, false, "a:1", 1, 0}, {"", false, "a:1", 1, 0}, {"b:2", true, "b:2", 2, 1}, {"a:1", true, "a:1", 3, 3},
		})
	}
}

func TestKnownMovesOfAFixedPeer(t *testing.T) {
	for _, at := range append([]string{""}, rights...) {
		checkSteps(t, peer.Fixed(at), at, []step{
			{"a:1", false, at, 0, 0}, {"b:2", false, at, 0, 0}, {"b:2", false, at, 0, 0}, {at, false, at, 0, 0}, {"", false, at, 0, 0},
			{"a b", false, at, 0, 0}, {times("a", 100), false, at, 0, 0}, {times("a", 101), false, at, 0, 0}, {"a:1", false, at, 0, 0},
		})
	}
}

// Each address is followed by each other one, by itself again, and by wrong ones.
func TestMoveBetweenAnyTwo(t *testing.T) {
	for _, from := range append([]string{""}, rights...) {
		for _, to := range rights {
			p, m := peer.New(from), made(from, false)
			for _, s := range []string{to, to, "", from, to, "a b", from, from} {
				checkStep(t, p, m, s, from, to)
			}
		}
	}
}

// A wrong address is no move, wherever a peer is.
func TestMoveToAWrongAddress(t *testing.T) {
	for _, at := range append([]string{""}, rights...) {
		p, m := peer.New(at), made(at, false)
		for _, s := range wrongs {
			checkStep(t, p, m, s, at)
			checkAddress(t, p, at)
			checkMoves(t, p, 0)
		}
		checkStep(t, p, m, "c:3", at)
		checkMoves(t, p, 1)
	}
}

// Strings of single bytes are given to Move, of which 65 are addresses.
func TestMoveToEachByte(t *testing.T) {
	p, m := peer.New("a:1"), made("a:1", false)
	for b := range 256 {
		checkStep(t, p, m, string([]byte{byte(b)}))
	}
	checkMoves(t, p, len(allowed))
	checkAddress(t, p, "z")
}

// Moves are counted each time, also those to elder addresses.
func TestMovesToAndFro(t *testing.T) {
	p := peer.New("a:1")
	for i := range 1000 {
		checkMoves(t, p, 2*i)
		checkMove(t, p, "b:2", true)
		checkMove(t, p, "b:2", false)
		checkAddress(t, p, "b:2")
		checkMoves(t, p, 2*i+1)
		checkMove(t, p, "a:1", true)
		checkMove(t, p, "", false)
		checkAddress(t, p, "a:1")
		checkMet(t, p, "a:1", i+1)
		checkMet(t, p, "b:2", 2*i+2)
	}
}

// P21.3

// Only Move makes an address one that was met.
func TestMetOfAPeerThatWasOnlyMade(t *testing.T) {
	for _, s := range slices.Concat(rights, wrongs) {
		checkMet(t, peer.New(s), s, 0)
		checkMet(t, peer.New(s), "", 0)
		checkMet(t, peer.Fixed(s), s, 0)
	}
}

// The address that a peer was made with is met when Move is called with it, although it
// is no move.
func TestMetWithoutAMove(t *testing.T) {
	for _, s := range rights {
		p := peer.New(s)
		for i := range 5 {
			checkMet(t, p, s, i)
			checkMove(t, p, s, false)
			checkMet(t, p, s, i+1)
			checkMoves(t, p, 0)
			checkAddress(t, p, s)
		}
	}
}

// Wrong addresses are never met, and the empty string is not nobody's.
func TestMetOfWrongAddresses(t *testing.T) {
	for _, at := range []string{"", "a:1", "a b"} {
		p := peer.New(at)
		for range 3 {
			for _, s := range wrongs {
				checkMove(t, p, s, false)
				checkMet(t, p, s, 0)
				checkMet(t, p, "", 0)
			}
		}
		for _, s := range slices.Concat(rights, wrongs) {
			checkMet(t, p, s, 0)
		}
	}
}

// Each of many addresses is counted for itself, however alike they are.
func TestMetOfManyAddresses(t *testing.T) {
	p := peer.New("0")
	address := func(i int) string { return "host-" + strconv.Itoa(i%1000) + ":" + strconv.Itoa(i) }
	for round := range 3 {
		for i := range 5000 {
			checkMet(t, p, address(i), round)
			checkMove(t, p, address(i), true)
			checkMet(t, p, address(i), round+1)
		}
	}
	for i := range 5000 {
		checkMet(t, p, address(i), 3)
	}
	checkMet(t, p, "host-0", 0)
	checkMet(t, p, "0", 0)
	checkMoves(t, p, 15000)
}

func TestMetOfAllAddresses(t *testing.T) {
	all := slices.Concat(rights, wrongs)
	p, m := peer.New("a:1"), made("a:1", false)
	for _, s := range slices.Concat(all, all, rights) {
		checkStep(t, p, m, s)
		checkAll(t, p, m, rights...)
	}
	checkAll(t, p, m, all...)
}

// Asking does not count, neither as a call of Move nor otherwise.
func TestAskingChangesNothing(t *testing.T) {
	for _, fixed := range []bool{false, true} {
		p, m := peer.New("a:1"), made("a:1", fixed)
		if fixed {
			p = peer.Fixed("a:1")
		}
		for _, to := range []string{"b:2", "b:2", "", "a:1", "a b"} {
			for range 20 {
				checkAll(t, p, m, slices.Concat(rights, wrongs)...)
				peer.Right(to)
				peer.Compare(to, "a:1")
			}
			checkStep(t, p, m, to)
		}
	}
}

// Nobody needs to ask for anything before Move.
func TestMoveWithoutAsking(t *testing.T) {
	p, m := peer.New(""), made("", false)
	for _, s := range slices.Concat(rights, wrongs, rights) {
		p.Move(s)
		m.move(s)
	}
	checkAll(t, p, m, slices.Concat(rights, wrongs)...)
}

func checkCompare(t *testing.T, a, b string, want int) {
	t.Helper()
	if got := peer.Compare(a, b); got != want {
		t.Errorf("Compare(%s, %s) = %d, want %d", short(a), short(b), got, want)
	}
	if got := peer.Compare(b, a); got != -want {
		t.Errorf("Compare(%s, %s) = %d, want %d", short(b), short(a), got, -want)
	}
}

func TestCompareOfKnownStrings(t *testing.T) {
	for _, x := range []struct {
		a, b string
		want int
	}{
		{"", "", 0}, {"a", "a", 0}, {"a:1", "a:1", 0}, {"\xff", "\xff", 0}, {"\u00e9", "\u00e9", 0}, {times("a", 101), times("a", 101), 0},
		{"", "a", -1}, {"", "\x00", -1}, {"", "\xff", -1}, {"a", "ab", -1}, {"a", "a\x00", -1}, {"a:1", "a:10", -1}, {"a:1", "a:11", -1},
		{"a", "b", -1}, {"ab", "b", -1}, {"abc", "abd", -1}, {"abd", "abcd", 1}, {"b", "ab", 1}, {"a:10", "a:9", -1}, {"a:2", "a:10", 1},
		{"A", "a", -1}, {"Z", "a", -1}, {"9", "A", -1}, {":", "9", 1}, {".", "0", -1}, {"-", ".", -1}, {"a-", "a.", -1}, {"B", "a", -1},
		{"\x7f", "\x80", -1}, {"a", "\x80", -1}, {"z", "\xff", -1}, {"\x80", "\xff", -1}, {"\x80", "", 1}, {"\xff", "\x00", 1}, {"\xfe\xff", "\xff", -1},
		{"a\xff", "b", -1}, {"a\x80", "ab", 1}, {"z", "\u00e9", -1}, {"\u00e9", "\u00ea", -1}, {"\u00e9", "\u4e16", -1}, {"e\u0301", "\u00e9", -1},
		{"\uffff", "\U00010000", -1}, {"\ufffd", "\xff", -1}, {"\xed\xa0\x80", "\uffff", -1}, {"\x00", "\x00\x00", -1}, {"\x00a", "\x00", 1},
		{times("a", 100), times("a", 101), -1}, {times("a", 100), times("a", 99) + "b", -1}, {times("b", 3), times("a", 1000), 1},
	} {
		checkCompare(t, x.a, x.b, x.want)
	}
}

// order is the chapter's order: of the first bytes that differ, or of the lengths.
func order(a, b string) int {
	for i := range min(len(a), len(b)) {
		if a[i] < b[i] {
			return -1
		}
		if a[i] > b[i] {
			return 1
		}
	}
	return min(max(len(a)-len(b), -1), 1)
}

func TestCompareOfEachTwoBytes(t *testing.T) {
	for i := range 256 {
		for j := range 256 {
			a, b := string([]byte{byte(i)}), string([]byte{byte(j)})
			want := min(max(i-j, -1), 1)
			checkCompare(t, a, b, want)
			checkCompare(t, "a:"+a+"\xff", "a:"+b+"\x00", order("a:"+a+"\xff", "a:"+b+"\x00"))
			checkCompare(t, times("a", 20)+a, times("a", 20)+b, want)
		}
	}
}

func TestCompareOfEachTwoAddresses(t *testing.T) {
	all := slices.Concat(rights, wrongs)
	for _, a := range all {
		for _, b := range all {
			checkCompare(t, a, b, order(a, b))
		}
		for n := range min(len(a), 300) {
			checkCompare(t, a[:n], a, -1)
			checkCompare(t, strings.Clone(a[:n]), a[:n], 0)
		}
	}
}

// P21.4

func TestAfterAMoveTheAddressIsTheOneGiven(t *testing.T) {
	p := peer.New("a:1")
	n := 0
	for _, s := range slices.Concat(wrongs, rights, rights, wrongs, rights) {
		before, _ := p.Address()
		if !p.Move(s) {
			checkAddress(t, p, before)
			continue
		}
		n++
		checkAddress(t, p, s)
		if s == before || !peer.Right(s) {
			t.Errorf("%s is a move from %s", short(s), short(before))
		}
	}
	if n != 3*len(rights) || p.Moves() != n {
		t.Error(n, p.Moves())
	}
}

// What a nil Peer does

func TestNilPeer(t *testing.T) {
	var p *peer.Peer
	checkNobody(t, p)
	for range 2 {
		for _, s := range slices.Concat(rights, wrongs) {
			checkStep(t, p, made("", true), s)
		}
	}
	checkNobody(t, p)
	for _, call := range []func(){
		func() { checkAddress(t, nil, "") },
		func() { checkMove(t, nil, "a:1", false) },
		func() { checkMoves(t, nil, 0) },
		func() { checkMet(t, nil, "a:1", 0) },
	} {
		call()
	}
}

// The Rules

// What is done with one peer does not reach another, also not one that was made with the
// same address.
func TestTwoPeers(t *testing.T) {
	for _, at := range append([]string{"", "a b"}, rights...) {
		used, kept, fixed := peer.New(at), peer.New(at), peer.Fixed(at)
		m := made(at, false)
		for _, s := range slices.Concat(rights, rights[:3], wrongs[:9]) {
			checkStep(t, used, m, s, at)
			checkAll(t, kept, made(at, false), s, at)
			checkAll(t, fixed, made(at, true), s, at)
		}
		checkAll(t, kept, made(at, false), slices.Concat(rights, wrongs)...)
		checkStep(t, kept, made(at, false), "d:4", at)
		checkAll(t, used, m, slices.Concat(rights, []string{"d:4"})...)
		checkAll(t, peer.New(at), made(at, false), slices.Concat(rights, wrongs)...)
	}
}

// An address that is a part of a longer string is copied, so that only it is kept.
func TestAddressesAreCopied(t *testing.T) {
	long := "<" + times("a:1", 30) + ">"
	for _, s := range []string{long[1:2], long[1:4], long[1 : len(long)-1]} {
		moved := peer.New("b:2")
		checkMove(t, moved, s, true)
		for _, p := range []*peer.Peer{peer.New(s), peer.Fixed(s), moved} {
			checkAddress(t, p, s)
			kept, _ := p.Address()
			if unsafe.StringData(kept) == unsafe.StringData(s) {
				t.Errorf("%s is no copy", short(s))
			}
		}
	}
}

// drive makes calls in an order without any regularity.
func drive(t *testing.T, p *peer.Peer, m *model, calls []uint64) {
	t.Helper()
	for _, x := range calls {
		s := rights[x>>8%uint64(len(rights))]
		switch x >> 40 % 8 {
		case 0:
			s = wrongs[x>>8%uint64(len(wrongs)-10)]
		case 1:
			s = m.address()
		case 2:
			s = m.had[x>>16%uint64(len(m.had))]
		case 3:
			s = string([]byte{byte(x >> 24)})
		case 4:
			checkAll(t, p, m, rights...)
		}
		checkStep(t, p, m, s, m.had[0])
	}
	checkAll(t, p, m, slices.Concat(rights, wrongs)...)
}

func TestCallsInAnyOrder(t *testing.T) {
	for seed, at := range slices.Concat(rights, wrongs) {
		for k := range uint64(5) {
			drive(t, peer.New(at), made(at, false), anyNumbers(uint64(seed)+1000*k, 50))
			drive(t, peer.Fixed(at), made(at, true), anyNumbers(uint64(seed)+1000*k, 50))
		}
	}
}

// Each goroutine has peers of its own; two have the same calls.
func TestSeveralGoroutines(t *testing.T) {
	var ready, done sync.WaitGroup
	ready.Add(askers)
	for k := range uint64(askers) {
		done.Go(func() {
			ready.Done()
			ready.Wait()
			for i, at := range rights {
				drive(t, peer.New(at), made(at, false), anyNumbers(uint64(i)+k/2, 100))
				drive(t, peer.Fixed(at), made(at, true), anyNumbers(uint64(i)+k/2, 100))
			}
		})
	}
	done.Wait()
}
