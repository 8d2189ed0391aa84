package session_test

import (
	"bytes"
	"crypto/sha256"
	"encoding/hex"
	"errors"
	"math"
	"slices"
	"strings"
	"sync"
	"testing"
	"unsafe"

	"mooring/api"
	"mooring/packet"
	"mooring/session"
)

// P22.1

func TestConstantsOfTheChapter(t *testing.T) {
	if api.ToServer != 0 || api.ToClient != 1 || api.MaxPayload != 1200 || api.MaxSeq != greatest || api.None != none {
		t.Error(api.ToServer, api.ToClient, api.MaxPayload, uint64(api.MaxSeq), api.None)
	}
	if api.Short != 1 || api.Oversize != 2 || api.Auth != 3 || api.Exhausted != 6 || api.Closed != 7 {
		t.Error(api.Short, api.Oversize, api.Auth, api.Exhausted, api.Closed)
	}
	if api.Direction != 8 || api.Replay != 9 || api.Empty != 12 {
		t.Error(api.Direction, api.Replay, api.Empty)
	}
}

func TestNewWithOtherDirections(t *testing.T) {
	for _, d := range otherDirections() {
		for _, address := range []string{"", "a:1", "a b", strings.Repeat("a", 101)} {
			for _, next := range []uint64{0, greatest, end} {
				if s, err := session.New(counted, d, address, next); s != nil || err != error(api.Direction) {
					t.Errorf("New(%d, %s, %d) = %v, %v", d, short(address), next, s, err)
				}
			}
		}
	}
}

// A new session has accepted, refused and measured nothing, whatever it was made of.
func TestNewTellsWhatItWasMadeOf(t *testing.T) {
	for _, d := range []int{0, 1} {
		for _, next := range nexts {
			for _, address := range rights {
				s := opened(t, keyOf(next), d, address, next)
				checkStatus(t, s, session.Status{Next: min(next, greatest), Address: address})
				checkEstimate(t, s, 0)
			}
			for _, address := range wrongs {
				s := opened(t, keyOf(next), d, address, next)
				checkStatus(t, s, session.Status{Next: min(next, greatest)})
				checkEstimate(t, s, 0)
			}
		}
	}
}

// The direction is that of all datagrams that are sent, and not that of those received.
func TestNewWithEachDirection(t *testing.T) {
	for d := range 2 {
		x := begin(t, counted, d, "a:1", 7)
		b := x.send(t, []byte("hi"), 5)
		if direction, seq, ok := packet.Peek(b); direction != d || seq != 7 || !ok {
			t.Error(d, direction, seq, ok)
		}
		x.refuse(t, b, "a:1", 6, api.Direction)
		x.refuse(t, sealed(x.m.table, api.Packet{Direction: d, Seq: 3}), "a:1", 6, api.Direction)
		x.receive(t, sealed(x.m.table, api.Packet{Direction: 1 - d, Seq: 3}), "a:1", 6)
	}
}

// Only a session with a right address sends; a server has one as soon as it has received
// something from there, and a client never.
func TestNewWithEachAddress(t *testing.T) {
	for d := range 2 {
		for _, address := range rights {
			x := begin(t, counted, d, address, 0)
			if _, to, err := x.s.Send(nil, 0); to != address || err != nil {
				t.Errorf("%d: sent to %s, %v, want %s", d, short(to), err, short(address))
			}
		}
		for _, address := range wrongs {
			x := begin(t, counted, d, address, 0)
			x.fail(t, nil, 0, api.Empty)
			x.receive(t, x.sealed(api.Packet{}), address, 1)
			x.fail(t, nil, 2, api.Empty)
			x.receive(t, x.sealed(api.Packet{Seq: 1}), "b:2", 3)
			if _, to, err := x.s.Send(nil, 4); d == 1 && (to != "b:2" || err != nil) || d == 0 && err != error(api.Empty) {
				t.Errorf("%d: sent to %s, %v", d, short(to), err)
			}
		}
	}
}

// Each next number is that of the first datagram, if it is less than MaxSeq.
func TestNewWithEachNextNumber(t *testing.T) {
	for d := range 2 {
		for _, next := range nexts {
			x := begin(t, counted, d, "a:1", next)
			for i := range uint64(4) {
				if next >= greatest-i {
					x.fail(t, nil, 0, api.Exhausted)
					checkStatus(t, x.s, session.Status{Next: greatest, Address: "a:1"})
					continue
				}
				b := x.send(t, nil, 0)
				if direction, seq, ok := packet.Peek(b); direction != d || seq != next+i || !ok {
					t.Errorf("the datagram %d after %d has %d, %d, %t", i, next, direction, seq, ok)
				}
				checkStatus(t, x.s, session.Status{Next: next + i + 1, Address: "a:1"})
			}
		}
	}
}

// Each bit of the key makes it another one.
func TestNewWithEachKey(t *testing.T) {
	keys := [][16]byte{{}, counted, keyOf(1)}
	for bit := range 128 {
		key := counted
		key[bit/8] ^= 1 << (bit % 8)
		keys = append(keys, key)
	}
	reader := server(t, counted)
	for i, key := range keys {
		x := client(t, key)
		b := x.send(t, []byte("hi"), 5)
		if p, err := packet.Decode(tableOf(key), b); string(p.Payload) != "hi" || err != nil {
			t.Error(p, err)
		}
		if i == 1 {
			reader.receive(t, b, "c:2", 6)
		} else {
			reader.refuse(t, b, "c:3", 6, api.Auth)
		}
	}
	checkStatus(t, reader.s, session.Status{Any: true, Accepted: 1, Refused: 130, Address: "c:2", Moves: 1})
}

// P22.2

// The example of the chapter.
func TestANewServerWithoutAnAddress(t *testing.T) {
	s := opened(t, counted, api.ToClient, "", 0)
	if b, to, err := s.Send(nil, 0); len(b) != 0 || to != "" || err != error(api.Empty) {
		t.Error(b, to, err)
	}
}

// The datagrams are those of other implementations of OCB3.
func TestKnownExchange(t *testing.T) {
	c, s := begin(t, counted, api.ToServer, "s:1", 5), begin(t, counted, api.ToClient, "", 1<<62)
	checkSent := func(x *tried, payload string, tick uint64, datagram, address string) {
		t.Helper()
		b, to, err := x.s.Send([]byte(payload), tick)
		if !bytes.Equal(b, fromHex(datagram)) || to != address || err != nil {
			t.Errorf("Send(%s, %d) = %x, %s, %v", payload, tick, b, to, err)
		}
	}
	checkReceived := func(x *tried, datagram, from string, tick uint64, payload string) {
		t.Helper()
		if b, err := x.s.Receive(fromHex(datagram), from, tick); string(b) != payload || err != nil {
			t.Errorf("Receive(%s, %s, %d) = %s, %v", datagram, from, tick, b, err)
		}
	}
	first, second := "00000000000000050d31e9ee07026fda31558be00c13ee0a091fc9f85ce0", "c00000000000000010818072072eb8572b0bba97d00c4359c73f2ba71991"
	third, fourth := "c000000000000001ecc3713735a9d8ed500cb686fe8cccc28b38cbe1", "00000000000000069cfcdec8a296da0f0d985910b05a94c5be6ab7ae347ddfccfd"
	fifth := "c000000000000002f05de0cb164c559a6e6f77a860318a470d17ead635"

	checkSent(c, "hi", 65540, first, "s:1")
	checkStatus(t, c.s, session.Status{Next: 6, Address: "s:1"})
	checkReceived(s, first, "c:2", 65550, "hi")
	checkStatus(t, s.s, session.Status{Next: 1 << 62, Last: 5, Any: true, Accepted: 1, Address: "c:2", Moves: 1})
	checkSent(s, "yo", 65560, second, "c:2")
	checkReceived(c, second, "d:3", 65570, "yo")
	checkStatus(t, c.s, session.Status{Next: 6, Last: 1 << 62, Any: true, Accepted: 1, Address: "s:1", Samples: 1, Sample: 20})
	checkEstimate(t, c.s, 160)
	checkSent(s, "", 65561, third, "c:2")
	checkReceived(c, third, "s:1", 65571, "")
	checkEstimate(t, c.s, 160)
	checkSent(c, "hello", 65581, fourth, "s:1")
	checkReceived(s, fourth, "c:4", 65590, "hello")
	checkStatus(t, s.s, session.Status{Next: 1<<62 + 2, Last: 6, Any: true, Accepted: 2, Address: "c:4", Moves: 2, Samples: 1, Sample: 19})
	checkEstimate(t, s.s, 152)
	checkSent(s, "\x00", 66579, fifth, "c:4")
	checkReceived(c, fifth, "", 66585, "\x00")
	checkStatus(t, c.s, session.Status{Next: 7, Last: 1<<62 + 2, Any: true, Accepted: 3, Address: "s:1", Samples: 2, Sample: 15})
	checkEstimate(t, c.s, 155)

	payload := make([]byte, 1200)
	for i := range payload {
		payload[i] = byte(i % 251)
	}
	b, to, err := c.s.Send(payload, 66592)
	digest := sha256.Sum256(b)
	if hex.EncodeToString(digest[:]) != "f493e4c5fe591deaf450a2f5339ff8e3bd82cba110bb560d3c7391ff2c69c335" || len(b) != 1228 || to != "s:1" || err != nil {
		t.Errorf("%x, %s, %v", b, to, err)
	}
	if got, err := s.s.Receive(b, "c:4", 66600); !bytes.Equal(got, payload) || err != nil {
		t.Error(got, err)
	}
}

func TestTheLastDatagramOfACounter(t *testing.T) {
	s := opened(t, [16]byte{}, api.ToServer, "s:1", greatest-1)
	b, to, err := s.Send(nil, 65535)
	if !bytes.Equal(b, fromHex("7ffffffffffffffe33925afd4c83a9c07262bd6a1d4f1720b1949692")) || to != "s:1" || err != nil {
		t.Errorf("%x, %s, %v", b, to, err)
	}
	for range 3 {
		checkStatus(t, s, session.Status{Next: greatest, Address: "s:1"})
		if b, to, err := s.Send(nil, 65535); len(b) != 0 || to != "" || err != error(api.Exhausted) {
			t.Errorf("%x, %s, %v", b, to, err)
		}
	}
}

func TestSendAndReceiveOfEachLength(t *testing.T) {
	for d := range 2 {
		x, y := begin(t, counted, d, "a:1", 0), begin(t, counted, 1-d, "b:1", 0)
		for n := range 1201 {
			if n > 40 && n < 1180 && n%7 != 0 {
				continue
			}
			b := x.send(t, bytesOf(uint64(n), n), 8)
			if len(b) != n+28 {
				t.Errorf("a payload of %d bytes is sent as %d", n, len(b))
			}
			y.receive(t, b, "c:1", 9)
		}
		for _, n := range tooLong {
			x.fail(t, make([]byte, n), 10, api.Oversize)
		}
		y.receive(t, x.send(t, nil, 11), "c:1", 12)
		if x.s.Status().Refused != 0 || y.s.Status().Refused != 0 {
			t.Error(x.s.Status(), y.s.Status())
		}
	}
}

// Only the length of a payload matters, not its capacity.
func TestPayloadsWithMoreCapacity(t *testing.T) {
	long := bytesOf(9, 5000)
	x := client(t, counted)
	for _, n := range lengths {
		x.send(t, long[:n], 1)
	}
	x.fail(t, long[:1201], 1, api.Oversize)
	if !bytes.Equal(long, bytesOf(9, 5000)) {
		t.Error("the capacity of a payload is changed")
	}
}

func TestTimeAtEachTick(t *testing.T) {
	for d := range 2 {
		x := begin(t, keyOf(2), d, "a:1", 0)
		for _, tick := range append(ticks, anyNumbers(3, 100)...) {
			p, err := packet.Decode(x.m.table, x.send(t, nil, tick))
			if p.Time != uint16(tick&0xffff) || p.Echo != none || err != nil {
				t.Errorf("at %d, %+v, %v is sent", tick, p, err)
			}
		}
	}
}

// Each error by itself, each two of them, and all others together: the first one that the
// chapter names.
func TestFirstErrorOfSend(t *testing.T) {
	for errs := range 16 {
		closed, oversize, empty, exhausted := errs&8 != 0, errs&4 != 0, errs&2 != 0, errs&1 != 0
		for d := range 2 {
			for _, n := range []int{0, 1, 1200} {
				address, next := "a:1", uint64(greatest-1)
				if empty {
					address = "a b"
				}
				if exhausted {
					next++
				}
				if oversize {
					n += 1201
				}
				x := begin(t, counted, d, address, next)
				x.receive(t, x.sealed(api.Packet{Seq: 5, Time: 7, Echo: 2}), "no body", 8)
				if closed {
					x.close(t)
				}
				for range 2 {
					switch payload := bytesOf(1, n); {
					case closed:
						x.fail(t, payload, 9, api.Closed)
					case oversize:
						x.fail(t, payload, 9, api.Oversize)
					case empty:
						x.fail(t, payload, 9, api.Empty)
					case exhausted:
						x.fail(t, payload, 9, api.Exhausted)
					}
				}
				if errs == 0 {
					x.send(t, bytesOf(1, n), 9)
				}
			}
		}
	}
}

// What is held when Send fails is echoed by the next datagram that is sent.
func TestErrorsOfSendLeaveTheEcho(t *testing.T) {
	for d := range 2 {
		x := begin(t, counted, d, "a:1", 0)
		x.receive(t, x.sealed(api.Packet{Time: 100, Echo: none}), "a:1", 5)
		for _, n := range tooLong {
			x.fail(t, make([]byte, n), 6, api.Oversize)
		}
		if p, err := packet.Decode(x.m.table, x.send(t, nil, 15)); p.Echo != 110 || p.Seq != 0 || err != nil {
			t.Errorf("%+v, %v", p, err)
		}
		x.fail(t, make([]byte, 1201), 16, api.Oversize)
		if p, err := packet.Decode(x.m.table, x.send(t, nil, 17)); p.Echo != none || p.Seq != 1 || err != nil {
			t.Errorf("%+v, %v", p, err)
		}
	}
	x := begin(t, counted, api.ToClient, "", 0)
	x.receive(t, x.sealed(api.Packet{Time: 100, Echo: none}), "", 5)
	for range 3 {
		x.fail(t, nil, 6, api.Empty)
		x.fail(t, make([]byte, 1201), 6, api.Oversize)
	}
	if !x.s.Move("b:2") { // the address alone, without another stamp
		t.Fatal("no move")
	}
	x.m.move("b:2")
	if p, err := packet.Decode(x.m.table, x.send(t, nil, 7)); p.Echo != 102 || p.Seq != 0 || err != nil {
		t.Errorf("%+v, %v", p, err)
	}
}

func TestKnownEchoes(t *testing.T) {
	for _, k := range []struct {
		stamp       uint16
		taken, sent uint64
		want        uint16
	}{
		{5, 100, 100, 5}, {5, 100, 103, 8}, {5, 100, 99, 5}, {5, 100, 0, 5}, {0, 0, 0, 0}, {0, 0, 1000, 1000}, {0, 0, 1001, none},
		{5, 100, 1100, 1005}, {5, 100, 1101, none}, {65534, 7, 7, 65534}, {65535, 7, 7, none}, {65534, 7, 8, none}, {65534, 7, 9, 0},
		{65535, 7, 8, 0}, {65000, 1, 535, 65534}, {65000, 1, 536, none}, {65000, 1, 537, 0}, {64535, 0, 1000, none}, {64536, 0, 1000, 0},
		{5, 100, 100 + 65535, none}, {5, 100, 100 + 65536, none}, {5, 100, 103 + 65536, none}, {5, 100, 100 + 131072, none},
		{5, 100, 100 + 1<<32, none}, {5, 100, 103 + 1<<32, none}, {5, 100, end, none}, {5, end, end, 5}, {5, end, 0, 5}, {5, end - 10, end, 15},
		{5, 65530, 65540, 15}, {5, 1<<32 - 1, 1 << 32, 6}, {5, 1<<63 - 1, 1<<63 + 9, 15}, {5, 200000, 100000, 5},
	} {
		for d := range 2 {
			x := begin(t, counted, d, "a:1", 0)
			x.receive(t, x.sealed(api.Packet{Time: k.stamp, Echo: none}), "a:1", k.taken)
			for i, want := range []uint16{k.want, none, none} {
				p, err := packet.Decode(x.m.table, x.send(t, nil, k.sent+uint64(i)))
				if p.Echo != want || err != nil {
					t.Errorf("%+v: %d is the echo of the datagram %d, %v", k, p.Echo, i, err)
				}
			}
		}
	}
}

func TestEchoesBehindEachHold(t *testing.T) {
	for _, time := range []uint16{0, 5, 535, 32768, 64535, 65000, 65534, 65535} {
		x := client(t, counted)
		seq := uint64(0)
		for _, taken := range []uint64{0, 100, 65530, 1<<32 - 5} {
			for _, hold := range holds {
				x.receive(t, x.sealed(api.Packet{Seq: seq, Time: time, Echo: none}), "s:1", taken)
				x.send(t, nil, taken+hold)
				x.send(t, nil, taken+hold)
				seq++
			}
		}
	}
}

// Only the newest of the stamps is echoed, also if it was taken at an earlier tick.
func TestOnlyTheNewestStampIsEchoed(t *testing.T) {
	x := server(t, counted)
	x.receive(t, x.sealed(api.Packet{Seq: 1, Time: 100, Echo: none}), "c:1", 1000)
	x.receive(t, x.sealed(api.Packet{Seq: 2, Time: 200, Echo: none}), "c:1", 990)
	x.receive(t, x.sealed(api.Packet{Seq: 3, Time: 300, Echo: none}), "c:1", 995)
	for _, want := range []uint16{305, none} {
		if p, err := packet.Decode(x.m.table, x.send(t, nil, 1000)); p.Echo != want || err != nil {
			t.Errorf("%+v, %v, want %d", p, err, want)
		}
	}
}

// The address to which a datagram is sent is that at which the peer is then.
func TestSendGoesWhereThePeerIs(t *testing.T) {
	x := server(t, counted)
	for seq, from := range slices.Concat(rights, wrongs, rights) {
		x.send(t, nil, 1)
		x.receive(t, x.sealed(api.Packet{Seq: uint64(seq)}), from, 2)
		x.send(t, nil, 3)
	}
}

// P22.3

func TestReceiveReturnsThePayload(t *testing.T) {
	for _, n := range lengths {
		for d := range 2 {
			x := begin(t, keyOf(uint64(n)), d, "a:1", 0)
			want := bytesOf(uint64(n), n)
			b := x.sealed(api.Packet{Seq: 3, Payload: want})
			if payload, err := x.s.Receive(b, "a:1", 1); !bytes.Equal(payload, want) || err != nil {
				t.Errorf("%x, %v, want %x", payload, err, want)
			}
			checkStatus(t, x.s, session.Status{Last: 3, Any: true, Accepted: 1, Address: "a:1", Samples: 1, Sample: 1})
		}
	}
}

// Numbers may be left out, and 0 and MaxSeq are accepted, too.
func TestReceiveOfRisingNumbers(t *testing.T) {
	for d := range 2 {
		x := begin(t, counted, d, "a:1", 9)
		for _, seq := range []uint64{0, 1, 2, 4, 255, 256, 1 << 31, 1 << 32, 1<<32 + 1, 1 << 53, 1 << 62, greatest - 1, greatest} {
			x.receive(t, x.sealed(api.Packet{Seq: seq}), "a:1", 1)
			if s := x.s.Status(); s.Last != seq || !s.Any || s.Refused != 0 {
				t.Errorf("%d is not accepted: %+v", seq, s)
			}
		}
		x.refuse(t, x.sealed(api.Packet{Seq: greatest}), "a:1", 1, api.Replay)
	}
}

// Each number in turn with each other one: only a greater one is accepted after it.
func TestReceiveOfEachTwoNumbers(t *testing.T) {
	numbers := []uint64{0, 1, 2, 5, 1<<32 - 1, 1 << 32, 1 << 62, greatest - 1, greatest}
	for d := range 2 {
		for _, a := range numbers {
			for _, b := range numbers {
				x := begin(t, counted, d, "a:1", 0)
				x.receive(t, x.sealed(api.Packet{Seq: a}), "a:1", 1)
				if b > a {
					x.receive(t, x.sealed(api.Packet{Seq: b}), "a:1", 2)
				} else {
					x.refuse(t, x.sealed(api.Packet{Seq: b}), "b:2", 2, api.Replay)
				}
				if last := x.s.Status().Last; last != max(a, b) {
					t.Errorf("%d is the last number of %d and %d", last, a, b)
				}
			}
		}
	}
}

// heard is a session that has accepted the number 5, holds a stamp and has a sample.
func heard(t *testing.T, direction int) *tried {
	t.Helper()
	x := begin(t, counted, direction, "a:1", 3)
	x.receive(t, x.sealed(api.Packet{Seq: 5, Time: 70, Echo: 90, Payload: []byte("hello")}), "b:2", 100)
	return x
}

// still checks that a session still holds what it heard, and accepts what is next.
func still(t *testing.T, x *tried) {
	t.Helper()
	if p, err := packet.Decode(x.m.table, x.send(t, nil, 103)); p.Echo != 73 || p.Seq != 3 || err != nil {
		t.Errorf("%+v, %v", p, err)
	}
	x.receive(t, x.sealed(api.Packet{Seq: 6, Time: 80, Echo: none}), "b:2", 104)
	if s := x.s.Status(); s.Last != 6 || s.Accepted != 2 || s.Samples != 1 || s.Sample != 10 {
		t.Errorf("%+v", s)
	}
	checkEstimate(t, x.s, 80)
}

func TestEachErrorOfReceive(t *testing.T) {
	for d := range 2 {
		own := api.Packet{Direction: d, Seq: 9, Time: 1, Echo: 2, Payload: []byte("mine")}
		fresh := api.Packet{Direction: 1 - d, Seq: 9, Time: 1, Echo: 2, Payload: []byte("yours")}
		old, twice := fresh, fresh
		old.Seq, twice.Seq = 4, 5
		x := tableOf(counted)
		for name, k := range map[string]struct {
			b    []byte
			want api.Code
		}{
			"nothing":     {nil, api.Short},
			"a head":      {sealed(x, fresh)[:8], api.Short},
			"27 bytes":    {sealed(x, fresh)[:27], api.Short},
			"28 bytes":    {sealed(x, fresh)[:28], api.Auth},
			"zero bytes":  {make([]byte, 28), api.Auth},
			"1228 bytes":  {make([]byte, 1228), api.Auth},
			"1229 bytes":  {make([]byte, 1229), api.Oversize},
			"65536 bytes": {make([]byte, 65536), api.Oversize},
			"another key": {sealed(tableOf(keyOf(1)), fresh), api.Auth},
			"own":         {sealed(x, own), api.Direction},
			"old":         {sealed(x, old), api.Replay},
			"twice":       {sealed(x, twice), api.Replay},
		} {
			h := heard(t, d)
			for range 3 {
				h.refuse(t, k.b, "c:3", 200, k.want)
				h.refuse(t, k.b, "", 50, k.want)
			}
			if h.s.Met("c:3") != 0 || h.s.Moves() != d {
				t.Errorf("%s: %d, %d", name, h.s.Met("c:3"), h.s.Moves())
			}
			still(t, h)
			if h.s.Status().Refused != 6 {
				t.Errorf("%s: %+v", name, h.s.Status())
			}
		}
	}
}

// Two errors at once: the first one that the chapter names.
func TestFirstErrorOfReceive(t *testing.T) {
	for d := range 2 {
		x := tableOf(counted)
		changed := func(p api.Packet) []byte {
			b := sealed(x, p)
			b[len(b)-1] ^= 1
			return b
		}
		for i, k := range []struct {
			b    []byte
			want api.Code
		}{
			{sealed(x, api.Packet{Direction: d, Seq: 9})[:27], api.Short},
			{sealed(x, api.Packet{Direction: 1 - d, Seq: 5})[:27], api.Short},
			{changed(api.Packet{Direction: d, Seq: 9}), api.Auth},
			{changed(api.Packet{Direction: d, Seq: 4}), api.Auth},
			{changed(api.Packet{Direction: 1 - d, Seq: 5}), api.Auth},
			{append(sealed(x, api.Packet{Direction: d, Seq: 9, Payload: make([]byte, 1200)}), 0), api.Oversize},
			{append(sealed(x, api.Packet{Direction: 1 - d, Seq: 5, Payload: make([]byte, 1200)}), 0), api.Oversize},
			{sealed(x, api.Packet{Direction: d, Seq: 5}), api.Direction},
			{sealed(x, api.Packet{Direction: d, Seq: 0}), api.Direction},
		} {
			h := heard(t, d)
			h.refuse(t, k.b, "c:3", 200, k.want)
			still(t, h)
			h = heard(t, d)
			h.close(t)
			status := h.s.Status()
			for _, b := range [][]byte{k.b, h.sealed(api.Packet{Seq: 9})} {
				if payload, err := h.s.Receive(b, "c:3", 200); len(payload) != 0 || err != error(api.Closed) {
					t.Error(i, payload, err)
				}
			}
			checkStatus(t, h.s, status)
			checkEstimate(t, h.s, 80)
		}
	}
}

// A datagram that is cut, or has bytes behind it, is refused however long it is.
func TestCutDatagrams(t *testing.T) {
	for _, n := range []int{0, 1, 12, 20, 100} {
		h := heard(t, api.ToClient)
		b := h.sealed(api.Packet{Seq: 9, Payload: bytesOf(2, n)})
		for cut := range len(b) {
			want := api.Auth
			if cut < 28 {
				want = api.Short
			}
			h.refuse(t, b[:cut:cut], "c:3", 200, want)
			h.refuse(t, b[:cut], "c:3", 200, want)
			if cut > 0 {
				want = api.Auth
				if len(b)-cut < 28 {
					want = api.Short
				}
				h.refuse(t, b[cut:], "c:3", 200, want)
			}
		}
		for _, more := range []int{1, 2, 16, 1100, 1228 - len(b), 1229 - len(b), 5000} {
			want := api.Auth
			if len(b)+more > 1228 {
				want = api.Oversize
			}
			h.refuse(t, append(bytes.Clone(b), make([]byte, more)...), "c:3", 200, want)
			h.refuse(t, append(make([]byte, more), b...), "c:3", 200, want)
		}
		still(t, h)
	}
}

// Each bit of a datagram is changed, also those of the direction and the number.
func TestChangedDatagrams(t *testing.T) {
	for d := range 2 {
		h := heard(t, d)
		b := h.sealed(api.Packet{Seq: 9, Time: 1, Echo: 2, Payload: bytesOf(3, 40)})
		for bit := range 8 * len(b) {
			b[bit/8] ^= 1 << (bit % 8)
			h.refuse(t, b, "c:3", 200, api.Auth)
			b[bit/8] ^= 1 << (bit % 8)
		}
		for i := range b {
			b[i] ^= 0xff
			h.refuse(t, b, "c:3", 200, api.Auth)
			b[i] ^= 0xff
		}
		still(t, h)
		h.receive(t, b, "c:3", 200)
		if h.s.Status().Last != 9 {
			t.Error(h.s.Status())
		}
	}
}

// What a session sends itself comes back, and what another one of its direction sends.
func TestOwnDirection(t *testing.T) {
	for d := range 2 {
		x, y := begin(t, counted, d, "a:1", 0), begin(t, counted, d, "a:1", 100)
		for range 5 {
			x.refuse(t, x.send(t, []byte("echo"), 1), "a:1", 2, api.Direction)
			x.refuse(t, y.send(t, []byte("echo"), 1), "a:1", 2, api.Direction)
		}
		checkStatus(t, x.s, session.Status{Next: 5, Refused: 10, Address: "a:1"})
	}
}

// Datagrams come twice, and in each order of four.
func TestEachOrder(t *testing.T) {
	c := client(t, counted)
	var sent [][]byte
	for i := range uint64(4) {
		sent = append(sent, c.send(t, []byte{byte(i)}, 10*i))
	}
	for order := range 256 {
		l := []int{order & 3, order >> 2 & 3, order >> 4 & 3, order >> 6 & 3}
		s, last := server(t, counted), -1
		for _, i := range l {
			if i > last {
				if b, err := s.s.Receive(sent[i], "c:1", 50); !bytes.Equal(b, []byte{byte(i)}) || err != nil {
					t.Error(l, i, b, err)
				}
				last = i
			} else if b, err := s.s.Receive(sent[i], "d:2", 50); len(b) != 0 || err != error(api.Replay) {
				t.Error(l, i, b, err)
			}
			if got := s.s.Status(); got.Last != uint64(last) || got.Accepted+got.Refused == 0 || got.Address != "c:1" || got.Moves != 0 {
				t.Error(l, i, got)
			}
		}
	}
}

func TestKnownSamples(t *testing.T) {
	for _, k := range []struct {
		tick uint64
		echo uint16
		want uint16
		some bool
	}{
		{0, 0, 0, true}, {10, 5, 5, true}, {5, 10, 65531, true}, {0, 1, 65535, true}, {0, 65534, 2, true}, {2, 65534, 4, true},
		{65535, 65534, 1, true}, {65535, 0, 65535, true}, {65536, 0, 0, true}, {65536, 65534, 2, true}, {65540, 3, 1, true},
		{1<<32 + 7, 3, 4, true}, {end, 65534, 1, true}, {end, 0, 65535, true}, {1 << 63, 1, 65535, true},
		{0, none, 0, false}, {1, none, 0, false}, {65534, none, 0, false}, {65535, none, 0, false}, {65536, none, 0, false}, {end, none, 0, false},
	} {
		for d := range 2 {
			x := begin(t, counted, d, "a:1", 0)
			x.receive(t, x.sealed(api.Packet{Seq: 1, Echo: k.echo}), "a:1", k.tick)
			want := session.Status{Last: 1, Any: true, Accepted: 1, Address: "a:1"}
			if k.some {
				want.Samples, want.Sample = 1, k.want
			}
			checkStatus(t, x.s, want)
			checkEstimate(t, x.s, 8*uint32(k.want))
		}
	}
}

// A datagram without an echo leaves the samples as they are.
func TestSamplesWithAndWithoutAnEcho(t *testing.T) {
	for d := range 2 {
		x := begin(t, counted, d, "a:1", 0)
		for i, k := range []struct {
			echo     uint16
			samples  int
			sample   uint16
			estimate uint32
		}{
			{none, 0, 0, 0}, {990, 1, 10, 80}, {none, 1, 10, 80}, {982, 2, 18, 88}, {none, 2, 18, 88}, {none, 2, 18, 88}, {1000, 3, 0, 77},
			{1001, 4, 65535, 65602}, {none, 4, 65535, 65602}, {0, 5, 1000, 58402},
		} {
			x.receive(t, x.sealed(api.Packet{Seq: uint64(i), Echo: k.echo}), "a:1", 1000)
			checkStatus(t, x.s, session.Status{
				Last: uint64(i), Any: true, Accepted: i + 1, Address: "a:1", Samples: k.samples, Sample: k.sample,
			})
			checkEstimate(t, x.s, k.estimate)
		}
	}
}

// A server is moved by each datagram that it accepts from another right address.
func TestAServerMoves(t *testing.T) {
	for _, at := range []string{"", "a b", "c:1"} {
		x := begin(t, counted, api.ToClient, at, 0)
		seq := uint64(0)
		for _, k := range []struct {
			from  string
			moved bool
		}{
			{"a:1", true}, {"a:1", false}, {"", false}, {"a b", false}, {"b:2", true}, {"a:1", true}, {strings.Repeat("a", 100), true},
			{strings.Repeat("a", 101), false}, {"\x80", false}, {"A:1", true}, {"a:1", true}, {"a:1", false}, {"a:1 ", false},
		} {
			before := x.s.Status()
			x.receive(t, x.sealed(api.Packet{Seq: seq}), k.from, 1)
			after := x.s.Status()
			if k.moved && (after.Address != k.from || after.Moves != before.Moves+1) {
				t.Errorf("no move to %s: %+v", short(k.from), after)
			}
			if !k.moved && (after.Address != before.Address || after.Moves != before.Moves) {
				t.Errorf("a move to %s: %+v", short(k.from), after)
			}
			x.refuse(t, x.sealed(api.Packet{Seq: seq}), "z:9", 1, api.Replay)
			seq++
		}
	}
}

func TestAClientNeverMoves(t *testing.T) {
	for _, at := range []string{"", "a b", "s:1"} {
		x := begin(t, counted, api.ToServer, at, 0)
		want := x.s.Status().Address
		for seq, from := range slices.Concat(rights, wrongs) {
			x.receive(t, x.sealed(api.Packet{Seq: uint64(seq)}), from, 1)
			if got := x.s.Status(); got.Address != want || got.Moves != 0 || got.Accepted != seq+1 {
				t.Errorf("from %s: %+v", short(from), got)
			}
		}
	}
}

// The methods of the peer are those of the session.
func TestMethodsOfThePeer(t *testing.T) {
	for d := range 2 {
		x := begin(t, counted, d, "a:1", 0)
		for seq, from := range slices.Concat(rights, wrongs, rights) {
			x.receive(t, x.sealed(api.Packet{Seq: uint64(seq)}), from, 1)
			x.refuse(t, nil, from, 1, api.Short)
			if address, ok := x.s.Address(); address != x.m.address || ok != (address != "") || x.s.Moves() != x.m.moves {
				t.Errorf("%s, %t, %d", short(address), ok, x.s.Moves())
			}
			if n := x.s.Met(from); n != x.m.met[from] {
				t.Errorf("Met(%s) = %d, want %d", short(from), n, x.m.met[from])
			}
		}
	}
}

func TestClose(t *testing.T) {
	for d := range 2 {
		x := heard(t, d)
		x.send(t, nil, 101)
		x.refuse(t, nil, "", 102, api.Short)
		want := x.s.Status()
		b := x.sealed(api.Packet{Seq: 9, Echo: 4})
		for range 3 {
			x.close(t)
			want.Closed = true
			for range 2 {
				for _, payload := range [][]byte{nil, make([]byte, 1200), make([]byte, 1201)} {
					x.fail(t, payload, 103, api.Closed)
				}
				for _, bad := range [][]byte{b, nil, b[:27], b[1:], make([]byte, 1229), x.sealed(api.Packet{Seq: 5})} {
					if payload, err := x.s.Receive(bad, "c:3", 103); len(payload) != 0 || err != error(api.Closed) {
						t.Error(payload, err)
					}
				}
				checkStatus(t, x.s, want)
				checkEstimate(t, x.s, 80)
			}
		}
	}
}

// P22.4

// What is told of a session, before and after each thing that happens to it, written out.
func TestStatusOfEachStep(t *testing.T) {
	x := begin(t, counted, api.ToClient, "", greatest-2)
	want := session.Status{Next: greatest - 2}
	checkStatus(t, x.s, want)

	x.fail(t, nil, 0, api.Empty)
	checkStatus(t, x.s, want)

	x.refuse(t, nil, "a:1", 0, api.Short)
	want.Refused = 1
	checkStatus(t, x.s, want)

	x.receive(t, x.sealed(api.Packet{Seq: 0, Time: 9, Echo: none}), "a b", 10)
	want.Any, want.Accepted = true, 1
	checkStatus(t, x.s, want)

	x.receive(t, x.sealed(api.Packet{Seq: 7, Time: 9, Echo: 5}), "a:1", 10)
	want.Last, want.Accepted, want.Address, want.Moves, want.Samples, want.Sample = 7, 2, "a:1", 1, 1, 5
	checkStatus(t, x.s, want)
	checkEstimate(t, x.s, 40)

	x.send(t, nil, 11)
	want.Next = greatest - 1
	checkStatus(t, x.s, want)

	x.receive(t, x.sealed(api.Packet{Seq: 8, Time: 9, Echo: 12}), "b:2", 12)
	want.Last, want.Accepted, want.Address, want.Moves, want.Samples, want.Sample = 8, 3, "b:2", 2, 2, 0
	checkStatus(t, x.s, want)
	checkEstimate(t, x.s, 35)

	x.send(t, nil, 13)
	want.Next = greatest
	checkStatus(t, x.s, want)

	x.fail(t, nil, 14, api.Exhausted)
	checkStatus(t, x.s, want)

	x.receive(t, x.sealed(api.Packet{Seq: greatest, Echo: none}), "b:2", 15)
	want.Last, want.Accepted = greatest, 4
	checkStatus(t, x.s, want)

	x.close(t)
	want.Closed = true
	checkStatus(t, x.s, want)
	checkEstimate(t, x.s, 35)
}

// The next number stays as it is when a session is closed.
func TestNextOfAClosedSession(t *testing.T) {
	for _, next := range nexts {
		x := begin(t, counted, api.ToServer, "s:1", next)
		x.close(t)
		checkStatus(t, x.s, session.Status{Next: min(next, greatest), Address: "s:1", Closed: true})
		x.fail(t, nil, 0, api.Closed)
		checkStatus(t, x.s, session.Status{Next: min(next, greatest), Address: "s:1", Closed: true})
		if next >= greatest {
			continue
		}
		x = begin(t, counted, api.ToServer, "s:1", next)
		x.send(t, nil, 0)
		x.close(t)
		checkStatus(t, x.s, session.Status{Next: next + 1, Address: "s:1", Closed: true})
	}
}

func TestAskingChangesNothing(t *testing.T) {
	for d := range 2 {
		x := heard(t, d)
		for range 50 {
			checkState(t, x.s, x.m)
			x.s.Address()
			x.s.Moves()
			x.s.Met("b:2")
		}
		still(t, x)
	}
}

// A status that was returned stays as it was.
func TestAStatusIsACopy(t *testing.T) {
	x := heard(t, api.ToClient)
	before := x.s.Status()
	want := before
	x.send(t, nil, 101)
	x.receive(t, x.sealed(api.Packet{Seq: 9, Echo: 4}), "z:9", 102)
	x.close(t)
	if before != want {
		t.Error(before)
	}
	after := x.s.Status()
	after.Next, after.Address, after.Closed = 0, "", false
	checkState(t, x.s, x.m)
}

// P22.5

// All that both sessions send is gathered, also what they are refused between.
func TestNoNumberIsSentTwice(t *testing.T) {
	for _, next := range []uint64{0, 1 << 32, greatest - 100} {
		c, s := begin(t, counted, api.ToServer, "s:1", next), begin(t, counted, api.ToClient, "c:1", next)
		heads := map[[8]byte]bool{}
		for i := range uint64(300) {
			for _, x := range []*tried{c, s} {
				if i%3 == 0 {
					x.fail(t, make([]byte, 1201), i, api.Oversize)
				}
				if b, _, err := x.s.Send(nil, i); err == nil {
					head := [8]byte(b)
					if heads[head] {
						t.Errorf("%x is sent twice", head)
					}
					heads[head] = true
					x.m.send(nil, i)
				}
			}
		}
		if want := min(600, 2*int(min(greatest-next, 300))); len(heads) != want {
			t.Error(len(heads), want)
		}
	}
}

// Of two sessions with the same history, one is given datagrams to refuse at each step.
func TestRefusalsChangeOnlyTheCount(t *testing.T) {
	for d := range 2 {
		plain, beset := begin(t, counted, d, "a:1", 0), begin(t, counted, d, "a:1", 0)
		refused := 0
		for i, x := range anyNumbers(uint64(d), 200) {
			seq, tick, held := uint64(i), x>>50, x>>60
			b := beset.sealed(api.Packet{Seq: seq, Time: uint16(x), Echo: uint16(x >> 16), Payload: []byte{byte(x)}})
			bad := [][]byte{
				nil, b[:27], b[:28], b[1:], make([]byte, 28), make([]byte, 1229), sealed(beset.m.table, api.Packet{Direction: d, Seq: seq + 5}),
				sealed(tableOf(keyOf(x)), api.Packet{Direction: 1 - d, Seq: seq + 5}),
			}
			if i > 0 {
				bad = append(bad, beset.sealed(api.Packet{Seq: seq - 1}), beset.sealed(api.Packet{Seq: seq / 2}))
			}
			for _, b := range bad {
				if _, err := beset.s.Receive(b, "evil:9", tick+3); err == nil {
					t.Fatalf("%x is accepted", b)
				}
				refused++
			}
			from := rights[x>>8%uint64(len(rights))]
			got, err := plain.s.Receive(b, from, tick)
			same, also := beset.s.Receive(b, from, tick)
			if !bytes.Equal(got, []byte{byte(x)}) || !bytes.Equal(same, got) || err != nil || also != nil {
				t.Errorf("%x, %v; %x, %v", got, err, same, also)
			}
			if i%2 == 0 {
				continue
			}
			sent, to, err := plain.s.Send([]byte{1}, tick+held)
			twin, too, also := beset.s.Send([]byte{1}, tick+held)
			if !bytes.Equal(sent, twin) || to != too || err != nil || also != nil {
				t.Errorf("%x, %s, %v; %x, %s, %v", sent, to, err, twin, too, also)
			}
		}
		want := plain.s.Status()
		want.Refused = refused
		checkStatus(t, beset.s, want)
		checkEstimate(t, beset.s, plain.s.Estimate())
	}
}

// What a nil Session does

func TestNilSession(t *testing.T) {
	var s *session.Session
	for range 2 {
		for _, payload := range [][]byte{nil, {}, make([]byte, 1200), make([]byte, 1201)} {
			if b, to, err := s.Send(payload, 5); len(b) != 0 || to != "" || err != error(api.Closed) {
				t.Error(b, to, err)
			}
		}
		for _, b := range [][]byte{nil, make([]byte, 27), make([]byte, 28), make([]byte, 1229), sealed(nil, api.Packet{})} {
			for _, from := range []string{"", "a:1", "a b"} {
				if payload, err := s.Receive(b, from, 5); len(payload) != 0 || err != error(api.Closed) {
					t.Error(payload, err)
				}
			}
		}
		checkStatus(t, s, session.Status{Closed: true})
		checkEstimate(t, s, 0)
		s.Close()
	}
}

// The Rules

// The errors are the Codes themselves, and no pointers or faults.
func TestErrorsAreCodes(t *testing.T) {
	x := begin(t, counted, api.ToClient, "", greatest)
	_, bad := session.New(counted, 2, "", 0)
	_, _, empty := x.s.Send(nil, 0)
	_, _, oversize := x.s.Send(make([]byte, 1201), 0)
	_, small := x.s.Receive(nil, "", 0)
	_, great := x.s.Receive(make([]byte, 1229), "", 0)
	_, forged := x.s.Receive(make([]byte, 28), "", 0)
	_, own := x.s.Receive(sealed(x.m.table, api.Packet{Direction: 1}), "", 0)
	_, accepted := x.s.Receive(x.sealed(api.Packet{}), "a:1", 0)
	_, old := x.s.Receive(x.sealed(api.Packet{}), "a:1", 0)
	_, _, exhausted := x.s.Send(nil, 0)
	x.s.Close()
	_, _, closed := x.s.Send(nil, 0)
	_, shut := x.s.Receive(nil, "", 0)
	if accepted != nil {
		t.Error(accepted)
	}
	for i, k := range []struct {
		got  error
		want api.Code
	}{
		{bad, api.Direction}, {empty, api.Empty}, {oversize, api.Oversize}, {small, api.Short}, {great, api.Oversize}, {forged, api.Auth},
		{own, api.Direction}, {old, api.Replay}, {exhausted, api.Exhausted}, {closed, api.Closed}, {shut, api.Closed},
	} {
		if code, ok := k.got.(api.Code); !ok || code != k.want || errors.Unwrap(k.got) != nil {
			t.Errorf("%d: %T %v, want %v", i, k.got, k.got, k.want)
		}
	}
}

// fill writes over all bytes, those of the unused capacity too.
func fill(b []byte) {
	b = b[:cap(b)]
	for i := range b {
		b[i] = 0xa5
	}
}

// What is given, and what is returned, may be written over.
func TestNothingIsShared(t *testing.T) {
	for _, n := range lengths {
		c, s := client(t, counted), server(t, counted)
		payload := append(bytesOf(1, n), 7, 7, 7)[:n]
		b := c.send(t, payload, 5)
		kept := bytes.Clone(b)
		fill(payload)
		if !bytes.Equal(b, kept) {
			t.Error("a datagram shares memory with its payload")
		}
		given := append(bytes.Clone(kept), 8, 8, 8)[:len(kept)]
		got, err := s.s.Receive(given, "c:2", 6)
		s.m.receive(kept, "c:2", 6)
		if !bytes.Equal(got, bytesOf(1, n)) || err != nil || !bytes.Equal(given[:n+31], append(bytes.Clone(kept), 8, 8, 8)) {
			t.Errorf("%x, %v, %x", got, err, given)
		}
		fill(given)
		if !bytes.Equal(got, bytesOf(1, n)) {
			t.Error("a payload shares memory with its datagram")
		}
		fill(got)
		fill(b)
		reply := s.send(t, bytesOf(2, n), 7)
		c.receive(t, reply, "s:1", 8)
		fill(reply)
		s.receive(t, c.send(t, nil, 9), "c:2", 10)
		c.receive(t, s.send(t, nil, 11), "s:1", 12)
	}
}

// An array of a key is a value, and addresses that are parts of longer strings are copied.
func TestWhatNewIsGivenIsCopied(t *testing.T) {
	key := counted
	long := strings.Repeat("a:1", 30)
	for d := range 2 {
		x := begin(t, key, d, long[3:6], 0)
		fill(key[:])
		if address := x.s.Status().Address; address != "a:1" || unsafe.StringData(address) == unsafe.StringData(long[3:]) {
			t.Errorf("%s is no copy", short(address))
		}
		x.receive(t, x.sealed(api.Packet{}), long[6:12], 1)
		if address := x.s.Status().Address; d == 1 && address != "a:1a:1" || unsafe.StringData(address) == unsafe.StringData(long[6:]) {
			t.Errorf("%s is no copy", short(address))
		}
		x.send(t, []byte("hi"), 2)
		key = counted
	}
}

// Arguments are not written to, whether they are refused or not.
func TestArgumentsAreUnchanged(t *testing.T) {
	for d := range 2 {
		x := heard(t, d)
		for _, b := range [][]byte{
			x.sealed(api.Packet{Seq: 9, Payload: bytesOf(4, 50)}), x.sealed(api.Packet{Seq: 4}), sealed(x.m.table, api.Packet{Direction: d}),
			bytesOf(5, 27), bytesOf(5, 100), bytesOf(5, 1229),
		} {
			kept := bytes.Clone(b)
			x.receive(t, b, "b:2", 110)
			if !bytes.Equal(b, kept) {
				t.Errorf("%x becomes %x", kept, b)
			}
		}
		for _, n := range append(tooLong, lengths...) {
			payload := bytesOf(6, n)
			x.send(t, payload, 111)
			if !bytes.Equal(payload, bytesOf(6, n)) {
				t.Error("a payload is changed")
			}
		}
	}
}

// What is done with one session does not reach another that was made of the same.
func TestTwoSessions(t *testing.T) {
	for d := range 2 {
		used, kept := begin(t, counted, d, "a:1", 3), begin(t, counted, d, "a:1", 3)
		steps := []func(x *tried){
			func(x *tried) { x.send(t, []byte("hi"), 4) },
			func(x *tried) { x.fail(t, make([]byte, 1201), 5, api.Oversize) },
			func(x *tried) { x.receive(t, x.sealed(api.Packet{Seq: 7, Time: 8, Echo: 2}), "b:2", 6) },
			func(x *tried) { x.refuse(t, nil, "c:3", 7, api.Short) },
			func(x *tried) { x.refuse(t, x.sealed(api.Packet{Seq: 7}), "c:3", 7, api.Replay) },
			func(x *tried) { x.send(t, []byte("yo"), 9) },
			func(x *tried) { x.close(t) },
		}
		for _, step := range steps {
			step(used)
			checkStatus(t, kept.s, session.Status{Next: 3, Address: "a:1"})
			checkEstimate(t, kept.s, 0)
		}
		status := used.s.Status()
		for _, step := range steps {
			step(kept)
			checkStatus(t, used.s, status)
		}
		checkStatus(t, kept.s, status)
		begin(t, counted, d, "a:1", 3)
	}
}

// drive exchanges datagrams between a client and a server in an order without any
// regularity: lost, copied, exchanged, changed, and from anywhere.
func drive(t *testing.T, seed uint64, n int) {
	t.Helper()
	key := keyOf(seed)
	ends := [2]*tried{begin(t, key, 0, "s:1", seed%3), begin(t, key, 1, "", greatest-seed%60)}
	var onTheWay [][]byte
	tick := seed % 7 * 65000
	for _, x := range anyNumbers(seed, n) {
		tick += x >> 55
		who := ends[x&1]
		switch kind := x >> 20 % 16; {
		case kind < 5:
			length := int(x >> 30 % 60)
			if x>>36%16 == 0 {
				length += 1190
			}
			if b := who.send(t, bytesOf(x, length), tick); b != nil {
				onTheWay = append(onTheWay, b)
			}
		case kind == 5:
			who.receive(t, bytesOf(x, int(x>>30%100)), "evil:9", tick)
		case kind == 6:
			who.receive(t, who.sealed(api.Packet{Seq: x >> 30 % 50, Time: uint16(x), Echo: uint16(x >> 8)}), "a:1", tick)
		case len(onTheWay) > 0:
			i := len(onTheWay) - 1 - int(x>>30%uint64(min(len(onTheWay), 4)))
			b := bytes.Clone(onTheWay[i])
			if x>>36%16 == 0 {
				b[x>>40%uint64(len(b))] ^= 1 << (x >> 50 % 8)
			}
			from := rights[x>>44%uint64(len(rights))]
			if x>>49%8 == 0 {
				from = wrongs[x>>52%uint64(len(wrongs))]
			}
			who.receive(t, b, from, tick-x>>57)
		}
	}
	for _, x := range ends {
		x.close(t)
		x.fail(t, nil, tick, api.Closed)
	}
}

func TestCallsInAnyOrder(t *testing.T) {
	for seed := range uint64(100) {
		drive(t, seed, 150)
	}
}

// Each goroutine has sessions of its own; two have the same calls.
func TestSeveralGoroutines(t *testing.T) {
	var ready, done sync.WaitGroup
	ready.Add(askers)
	for k := range uint64(askers) {
		done.Go(func() {
			ready.Done()
			ready.Wait()
			for seed := range uint64(5) {
				drive(t, 1000+k/2*10+seed, 150)
			}
		})
	}
	done.Wait()
}

// If nothing is lost, copied or exchanged, all is delivered once and in order, and each
// sample is the time on the way there and back.
func TestNothingIsLost(t *testing.T) {
	c, s := client(t, counted), begin(t, counted, api.ToClient, "", 1<<40)
	tick := uint64(math.MaxUint32 - 5000)
	for i, x := range anyNumbers(7, 500) {
		there, held, back := x&0xff, x>>8%1001, x>>20&0xff
		b := c.send(t, []byte{byte(i)}, tick)
		s.receive(t, b, "c:1", tick+there)
		r := s.send(t, []byte{byte(i), 1}, tick+there+held)
		c.receive(t, r, "s:1", tick+there+held+back)
		p, _ := packet.Decode(c.m.table, r)
		if got := c.s.Status(); p.Echo != none && got.Sample != uint16(there+back) || got.Accepted != i+1 || got.Refused != 0 {
			t.Errorf("%d, %d and %d: %+v", there, held, back, got)
		}
		tick += 2000
	}
}
