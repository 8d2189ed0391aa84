package session_test

import (
	"bytes"
	"encoding/hex"
	"math"
	"slices"
	"strconv"
	"strings"
	"testing"

	"mooring/api"
	"mooring/fast"
	"mooring/packet"
	"mooring/session"
	"mooring/table"
)

const (
	// askers is how many goroutines ask at the same time.
	askers = 16
	// greatest is the number at which a counter is exhausted, written out.
	greatest = 9223372036854775807
	// end is the greatest tick.
	end = math.MaxUint64
	// none is the echo of nothing, written out.
	none = 65535
	// allowed are the bytes of addresses, written out.
	allowed = "ABCDEFGHIJKLMNOPQRSTUVWXYZabcdefghijklmnopqrstuvwxyz0123456789.:-"
)

// counted is the key of the bytes 0, 1, 2 and so on.
var counted = [16]byte{0, 1, 2, 3, 4, 5, 6, 7, 8, 9, 10, 11, 12, 13, 14, 15}

// rights are right addresses.
var rights = []string{
	"a", "Z", "0", ".", ":", "-", "a:1", "A:1", "a:2", "b:2", "client:1", "server:1", "10.0.0.1:60001", "fe80::1",
	allowed, strings.Repeat("a", 99), strings.Repeat("a", 100),
}

// wrongs are addresses that are not right, the empty one among them.
var wrongs = []string{
	"", " ", "a b", " a:1", "a:1 ", "a_b", "a/b", "*", "\x00", "a\n", "\x7f", "a\x80", "\xff", "\u00e9", "\uff41", "[::1]:1",
	strings.Repeat("a", 101), strings.Repeat("a", 65537),
}

// nexts are next numbers at which something begins or ends.
var nexts = []uint64{0, 1, 2, 255, 256, 1<<32 - 1, 1 << 32, 1 << 62, greatest - 2, greatest - 1, greatest, greatest + 1, greatest + 2, end - 1, end}

// ticks are those at which something begins or ends.
var ticks = []uint64{
	0, 1, 2, 100, 999, 1000, 1001, 32767, 32768, 64535, 65534, 65535, 65536, 65537, 65540, 66536, 66537, 131071, 131072,
	1<<32 - 1, 1 << 32, 1<<32 + 5, 1<<63 - 1, 1 << 63, end - 65536, end - 1001, end - 1000, end - 1, end,
}

// holds are numbers of ticks for which a stamp may be held.
var holds = []uint64{
	0, 1, 2, 534, 535, 536, 998, 999, 1000, 1001, 1002, 2000, 32768, 64536, 65535, 65536, 65537, 65546, 66536, 66537, 131072,
	1<<32 - 1, 1 << 32, 1<<32 + 10, 1 << 63, end - 200000,
}

// lengths are those of payloads that the chapter's rules turn on, and those beside whole
// blocks.
var lengths = []int{0, 1, 2, 11, 12, 13, 27, 28, 29, 100, 1187, 1188, 1189, 1199, 1200}

// tooLong are lengths that no payload has.
var tooLong = []int{1201, 1202, 1204, 1228, 1229, 2400, 4096, 65536, 65536 + 5, 1 << 20}

// anyNumbers returns n numbers without any regularity.
func anyNumbers(seed uint64, n int) []uint64 {
	l := make([]uint64, n)
	x := seed*0x9e3779b97f4a7c15 + 1
	for i := range l {
		x = x*6364136223846793005 + 1442695040888963407
		l[i] = x ^ x>>29
	}
	return l
}

// bytesOf returns n bytes without any regularity.
func bytesOf(seed uint64, n int) []byte {
	l := make([]byte, n)
	for i, x := range anyNumbers(seed, n) {
		l[i] = byte(x >> 40)
	}
	return l
}

// keyOf is a key without any regularity.
func keyOf(seed uint64) [16]byte { return [16]byte(bytesOf(seed, 16)) }

func tableOf(key [16]byte) *table.Table { return table.New(fast.New(key)) }

// fromHex reads what other programs printed.
func fromHex(s string) []byte {
	b, err := hex.DecodeString(s)
	if err != nil {
		panic(err)
	}
	return b
}

// otherDirections are ints that are no directions. A part of the bits of many of them is
// that of a direction.
func otherDirections() []int {
	l := []int{-1, -2, 2, 3, math.MinInt, math.MinInt + 1, math.MaxInt - 1, math.MaxInt, math.MinInt32, math.MaxInt32}
	for bit := 1; bit < strconv.IntSize-1; bit++ {
		one := 1 << bit
		l = append(l, one, one+1, -one, -one+1, math.MinInt+one, math.MinInt+one+1)
	}
	return slices.DeleteFunc(l, func(d int) bool { return d == 0 || d == 1 })
}

// right is the definition of layer 21.
func right(address string) bool {
	return len(address) >= 1 && len(address) <= 100 && strings.Trim(address, allowed) == ""
}

// short cuts bytes in messages.
func short[S ~string | ~[]byte](b S) string {
	if len(b) > 40 {
		return strconv.Quote(string(b[:40])) + " and " + strconv.Itoa(len(b)-40) + " bytes"
	}
	return strconv.Quote(string(b))
}

// model is a session, kept as the chapter says it.
type model struct {
	table             *table.Table
	direction         int
	next              uint64
	last              uint64
	any               bool
	accepted, refused int
	address           string
	moves             int
	met               map[string]int
	stamp             uint64
	taken             uint64
	holds             bool
	samples           []int
	estimate          int
	closed            bool
}

// made is the model of New.
func made(key [16]byte, direction int, address string, next uint64) *model {
	m := &model{table: tableOf(key), direction: direction, next: next, met: map[string]int{}}
	if next > greatest {
		m.next = greatest
	}
	if right(address) {
		m.address = address
	}
	return m
}

// reply is the echo of the stamp, which is given up.
func (m *model) reply(tick uint64) uint16 {
	held := uint64(0)
	if tick > m.taken {
		held = tick - m.taken
	}
	if !m.holds || held > 1000 {
		m.holds = false
		return none
	}
	m.holds = false
	return uint16((m.stamp + held) % 65536)
}

// send is what Send sends, and what it leaves behind.
func (m *model) send(payload []byte, tick uint64) (api.Packet, error) {
	switch {
	case m.closed:
		return api.Packet{}, api.Closed
	case len(payload) > 1200:
		return api.Packet{}, api.Oversize
	case m.address == "":
		return api.Packet{}, api.Empty
	case m.next == greatest:
		return api.Packet{}, api.Exhausted
	}
	p := api.Packet{Direction: m.direction, Seq: m.next, Time: uint16(tick % 65536), Echo: m.reply(tick), Payload: payload}
	m.next++
	return p, nil
}

// receive is what Receive returns, and what it leaves behind.
func (m *model) receive(b []byte, from string, tick uint64) ([]byte, error) {
	if m.closed {
		return nil, api.Closed
	}
	p, err := packet.Decode(m.table, b)
	switch {
	case err != nil:
	case p.Direction == m.direction:
		err = api.Direction
	case m.any && p.Seq <= m.last:
		err = api.Replay
	}
	if err != nil {
		m.refused++
		return nil, err
	}
	m.last, m.any = p.Seq, true
	m.accepted++
	m.stamp, m.taken, m.holds = uint64(p.Time), tick, true
	m.sample(tick, p.Echo)
	m.move(from)
	return p.Payload, nil
}

// sample adds one, if there is an echo.
func (m *model) sample(tick uint64, echo uint16) {
	if echo == none {
		return
	}
	s := (int(tick%65536) - int(echo) + 65536) % 65536
	if len(m.samples) == 0 {
		m.estimate = 8 * s
	} else {
		m.estimate = m.estimate - (m.estimate+4)/8 + s
	}
	m.samples = append(m.samples, s)
}

// move leaves the peer of a client where it is.
func (m *model) move(from string) {
	if m.direction == 0 || !right(from) {
		return
	}
	m.met[from]++
	if from != m.address {
		m.address = from
		m.moves++
	}
}

// status is what Status returns.
func (m *model) status() session.Status {
	s := session.Status{
		Next: m.next, Last: m.last, Any: m.any, Accepted: m.accepted, Refused: m.refused,
		Address: m.address, Moves: m.moves, Samples: len(m.samples), Closed: m.closed,
	}
	if len(m.samples) > 0 {
		s.Sample = uint16(m.samples[len(m.samples)-1])
	}
	return s
}

// checkStatus checks a session's status.
func checkStatus(t *testing.T, s *session.Session, want session.Status) {
	t.Helper()
	if got := s.Status(); got != want {
		t.Errorf("Status() = %+v, want %+v", got, want)
	}
}

func checkEstimate(t *testing.T, s *session.Session, want uint32) {
	t.Helper()
	if got := s.Estimate(); got != want {
		t.Errorf("Estimate() = %d, want %d", got, want)
	}
}

// checkState checks all that a session tells.
func checkState(t *testing.T, s *session.Session, m *model) {
	t.Helper()
	checkStatus(t, s, m.status())
	checkEstimate(t, s, uint32(m.estimate))
}

// tried is a session beside its model.
type tried struct {
	s *session.Session
	m *model
}

// opened is a new session, which New makes without an error.
func opened(t *testing.T, key [16]byte, direction int, address string, next uint64) *session.Session {
	t.Helper()
	s, err := session.New(key, direction, address, next)
	if s == nil || err != nil {
		t.Fatalf("New(%x, %d, %s, %d) = %v, %v", key, direction, short(address), next, s, err)
	}
	return s
}

// begin makes a session and its model.
func begin(t *testing.T, key [16]byte, direction int, address string, next uint64) *tried {
	t.Helper()
	x := &tried{opened(t, key, direction, address, next), made(key, direction, address, next)}
	checkState(t, x.s, x.m)
	return x
}

// client is a client's session with the address s:1.
func client(t *testing.T, key [16]byte) *tried {
	t.Helper()
	return begin(t, key, api.ToServer, "s:1", 0)
}

// server is a server's session with the address c:1.
func server(t *testing.T, key [16]byte) *tried {
	t.Helper()
	return begin(t, key, api.ToClient, "c:1", 0)
}

// send checks what is told before and after a call of Send, and what this returns.
func (x *tried) send(t *testing.T, payload []byte, tick uint64) []byte {
	t.Helper()
	checkState(t, x.s, x.m)
	address := x.m.address
	p, wrong := x.m.send(payload, tick)
	b, to, err := x.s.Send(payload, tick)
	if wrong != nil {
		if len(b) != 0 || to != "" || err != wrong {
			t.Errorf("Send(%s, %d) = %x, %s, %v, want %v", short(payload), tick, b, short(to), err, wrong)
		}
		checkState(t, x.s, x.m)
		return nil
	}
	want, _ := packet.Encode(x.m.table, p)
	if !bytes.Equal(b, want) || to != address || err != nil {
		got, _ := packet.Decode(x.m.table, b)
		t.Errorf("Send(%s, %d) = %+v, %s, %v, want %+v, %s", short(payload), tick, got, short(to), err, p, short(address))
	}
	checkState(t, x.s, x.m)
	return b
}

// receive checks what is told before and after a call of Receive, and what this returns.
func (x *tried) receive(t *testing.T, b []byte, from string, tick uint64) {
	t.Helper()
	checkState(t, x.s, x.m)
	want, wrong := x.m.receive(b, from, tick)
	payload, err := x.s.Receive(b, from, tick)
	if !bytes.Equal(payload, want) || err != wrong {
		t.Errorf("Receive(%s, %s, %d) = %s, %v, want %s, %v", short(b), short(from), tick, short(payload), err, short(want), wrong)
	}
	checkState(t, x.s, x.m)
}

// refuse checks that Receive has an error, written out, and changes nothing but the count.
func (x *tried) refuse(t *testing.T, b []byte, from string, tick uint64, want api.Code) {
	t.Helper()
	after := x.s.Status()
	after.Refused++
	estimate := x.s.Estimate()
	x.m.refused++
	if payload, err := x.s.Receive(b, from, tick); len(payload) != 0 || err != error(want) {
		t.Errorf("Receive(%s, %s, %d) = %s, %v, want %v", short(b), short(from), tick, short(payload), err, want)
	}
	checkStatus(t, x.s, after)
	checkEstimate(t, x.s, estimate)
	checkState(t, x.s, x.m)
}

// fail checks that Send has an error, written out, and changes nothing.
func (x *tried) fail(t *testing.T, payload []byte, tick uint64, want api.Code) {
	t.Helper()
	status, estimate := x.s.Status(), x.s.Estimate()
	if b, to, err := x.s.Send(payload, tick); len(b) != 0 || to != "" || err != error(want) {
		t.Errorf("Send(%s, %d) = %x, %s, %v, want %v", short(payload), tick, b, short(to), err, want)
	}
	checkStatus(t, x.s, status)
	checkEstimate(t, x.s, estimate)
	checkState(t, x.s, x.m)
}

// close checks what is told before and after a call of Close.
func (x *tried) close(t *testing.T) {
	t.Helper()
	checkState(t, x.s, x.m)
	x.s.Close()
	x.m.closed = true
	checkState(t, x.s, x.m)
}

// sealed is the datagram of a right packet for a session, of the other direction.
func (x *tried) sealed(p api.Packet) []byte {
	p.Direction = 1 - x.m.direction
	return sealed(x.m.table, p)
}

// sealed is the datagram of a right packet.
func sealed(x *table.Table, p api.Packet) []byte {
	b, err := packet.Encode(x, p)
	if err != nil {
		panic(err)
	}
	return b
}
