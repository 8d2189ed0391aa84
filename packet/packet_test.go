package packet_test

import (
	"bytes"
	"crypto/sha256"
	"encoding/hex"
	"math"
	"slices"
	"strconv"
	"sync"
	"testing"

	"mooring/api"
	"mooring/fast"
	"mooring/open"
	"mooring/packet"
	"mooring/seal"
	"mooring/table"
)

// askers is how many goroutines ask at the same time.
const askers = 16

// greatest is the greatest number of a right packet, written out.
const greatest = 9223372036854775807

// counted is the key of the bytes 0, 1, 2 and so on.
var counted = [16]byte{0, 1, 2, 3, 4, 5, 6, 7, 8, 9, 10, 11, 12, 13, 14, 15}

// known are packets with their datagrams, as another implementation of OCB3 seals them.
var known = []struct {
	key      [16]byte
	p        api.Packet
	datagram string
}{
	{[16]byte{}, api.Packet{}, "00000000000000007bd2001c74b14cc6a760ec5adb1eb63f98a02044"},
	{counted, api.Packet{}, "00000000000000002b36d4a7578483a59806dad0c02de1e3ed98b17a"},
	{counted, api.Packet{Direction: 1, Seq: 258, Time: 0x1234, Echo: 0xabcd, Payload: []byte("hi")},
		"80000000000001029fab95f4929426a3e894fdb68bdeb3a84bb8998899e6"},
	{counted, api.Packet{Seq: 1, Time: 0xff00, Echo: 0x00ff, Payload: []byte("hello")},
		"000000000000000127151911f994cf2af96fab7d6c4a2b7b169ead519233ccc9e5"},
	{counted, api.Packet{Direction: 1, Seq: greatest, Time: 65535, Echo: 65535, Payload: count(11)},
		"ffffffffffffffffe6a3d67b6debef8dd6faf5e1c9189d8cdd24a7b108f4e7fb906cd015caf604"},
	{counted, api.Packet{Seq: greatest, Time: 1, Echo: 2, Payload: count(12)},
		"7fffffffffffffff482d2ec92bdbfacba64fb97f2bd9bea6ef59148962b1d4dc3dd0a26f4b7ad628"},
	{counted, api.Packet{Direction: 1, Seq: 0x0102030405060708, Time: 0x8001, Echo: 0x7ffe, Payload: count(13)},
		"8102030405060708310eaa0376701cccecd12b9ed2a8615ec5af9a2e9f519591bfc04eefdaa45bcb08"},
	{[16]byte{}, api.Packet{Seq: 1, Time: 2, Echo: 65535, Payload: count(28)},
		"0000000000000001b705a5d9b57a2480cd6ef905a73a0df214fab76b0adfb54ae84a5cdf0e96213f6318993a9fb27bff9eaad0aaf6bbb193"},
}

// lengths are those of payloads that the chapter's rules turn on, and those beside whole
// blocks.
var lengths = []int{0, 1, 5, 11, 12, 13, 27, 28, 29, 100, 1187, 1188, 1189, 1199, 1200}

// count returns the bytes 0, 1, 2 and so on.
func count(n int) []byte {
	l := make([]byte, n)
	for i := range l {
		l[i] = byte(i)
	}
	return l
}

// bytesOf returns n bytes without any regularity.
func bytesOf(seed uint32, n int) []byte {
	l := make([]byte, n)
	x := seed*2654435761 + 1
	for i := range l {
		x = x*1664525 + 1013904223
		l[i] = byte(x >> 24)
	}
	return l
}

// tableOf is the table of a key without any regularity.
func tableOf(seed uint32) *table.Table {
	return table.New(fast.New([16]byte(bytesOf(seed, 16))))
}

// someTables have a nil Table, and Tables of a nil Cipher, of a zero one, and of several
// keys.
func someTables() map[string]*table.Table {
	return map[string]*table.Table{
		"nil Table":            nil,
		"table of nil":         table.New(nil),
		"table of a zero one":  table.New(&fast.Cipher{}),
		"table of zero bytes":  table.New(fast.New([16]byte{})),
		"table of some key":    tableOf(1),
		"table of another key": tableOf(2),
	}
}

// packetOf is a right packet with a payload of n bytes.
func packetOf(seed uint32, n int) api.Packet {
	b := bytesOf(seed, 14)
	seq := uint64(0)
	for _, x := range b[:8] {
		seq = seq<<8 | uint64(x)
	}
	return api.Packet{
		Direction: int(b[8] & 1),
		Seq:       seq & greatest,
		Time:      uint16(b[9])<<8 | uint16(b[10]),
		Echo:      uint16(b[11])<<8 | uint16(b[12]),
		Payload:   bytesOf(seed+1, n),
	}
}

// rightPackets have the ends of all fields and the lengths that matter, and no
// regularity.
func rightPackets() []api.Packet {
	var l []api.Packet
	for _, d := range []int{0, 1} {
		for _, seq := range []uint64{0, 1, 255, 256, 1<<32 - 1, 1 << 32, 1 << 62, greatest - 1, greatest} {
			for i, time := range []uint16{0, 1, 255, 256, 32767, 32768, 65534, 65535} {
				n := lengths[(i+len(l))%len(lengths)] % 100
				l = append(l, api.Packet{Direction: d, Seq: seq, Time: time, Echo: 65535 - time, Payload: bytesOf(uint32(i), n)})
			}
		}
		for _, n := range lengths {
			l = append(l, api.Packet{Direction: d, Seq: 7, Time: 8, Echo: 9, Payload: bytesOf(3, n)})
			l = append(l, api.Packet{Direction: d, Payload: make([]byte, n)})
		}
		l = append(l, api.Packet{Direction: d}, api.Packet{Direction: d, Payload: []byte{}})
	}
	for seed := range uint32(100) {
		l = append(l, packetOf(seed, int(seed)))
	}
	return l
}

// otherDirections are ints that are no directions. A part of the bits of many of them is
// that of a direction.
func otherDirections() []int {
	l := []int{-1, -2, 2, 3, math.MinInt, math.MinInt + 1, math.MaxInt - 1, math.MaxInt, math.MinInt32, math.MaxInt32}
	for bit := 1; bit < strconv.IntSize-1; bit++ {
		one := 1 << bit
		l = append(l, one, one+1, -one, -one+1, math.MinInt+one, math.MinInt+one+1)
	}
	return slices.DeleteFunc(l, func(d int) bool { return d == 0 || d == 1 })
}

// greatNumbers are those of no right packet.
func greatNumbers() []uint64 {
	l := []uint64{1 << 63, 1<<63 + 1, 1<<63 + 258, math.MaxUint64 - 1, math.MaxUint64}
	for bit := range 63 {
		l = append(l, 1<<63+1<<bit)
	}
	return l
}

// headOf is the head of a right packet, by shifts.
func headOf(p api.Packet) []byte {
	l := make([]byte, 8)
	for i := range l {
		l[i] = byte(p.Seq >> (56 - 8*i))
	}
	if p.Direction == 1 {
		l[0] += 128
	}
	return l
}

// nonceOf is the nonce with a head.
func nonceOf(head []byte) [12]byte {
	return [12]byte(append(make([]byte, 4), head...))
}

// plainOf is what is sealed of a packet.
func plainOf(p api.Packet) []byte {
	return append([]byte{byte(p.Time / 256), byte(p.Time % 256), byte(p.Echo / 256), byte(p.Echo % 256)}, p.Payload...)
}

// datagram is that of a right packet, as the chapter defines it.
func datagram(x *table.Table, p api.Packet) []byte {
	head := headOf(p)
	return append(head, seal.Seal(x, nonceOf(head), nil, plainOf(p))...)
}

// equal compares all fields, one after the other.
func equal(a, b api.Packet) bool {
	return a.Direction == b.Direction && a.Seq == b.Seq && a.Time == b.Time && a.Echo == b.Echo && bytes.Equal(a.Payload, b.Payload)
}

// copyOf is a packet with a payload of its own.
func copyOf(p api.Packet) api.Packet {
	p.Payload = bytes.Clone(p.Payload)
	return p
}

// checkEncoded checks that a packet is right, and which datagram it has.
func checkEncoded(t *testing.T, x *table.Table, p api.Packet, want []byte) {
	t.Helper()
	if b, err := packet.Encode(x, p); !bytes.Equal(b, want) || err != nil {
		t.Errorf("Encode(%v) = %x, %v, want %x", p, b, err, want)
	}
	if !packet.Right(p) {
		t.Errorf("Right(%v) = false", p)
	}
}

// checkWrong checks that a packet is not right, and the first reason for it.
func checkWrong(t *testing.T, x *table.Table, p api.Packet, want api.Code) {
	t.Helper()
	if b, err := packet.Encode(x, p); len(b) != 0 || err != error(want) {
		t.Errorf("Encode of %d, %#x and %d bytes = %x, %v, want %v", p.Direction, p.Seq, len(p.Payload), b, err, want)
	}
	if packet.Right(p) {
		t.Errorf("Right of %d, %#x and %d bytes = true", p.Direction, p.Seq, len(p.Payload))
	}
}

// checkDecoded checks which packet has a datagram.
func checkDecoded(t *testing.T, x *table.Table, b []byte, want api.Packet) {
	t.Helper()
	if p, err := packet.Decode(x, b); !equal(p, want) || err != nil {
		t.Errorf("Decode(%x) = %v, %v, want %v", b, p, err, want)
	}
}

// checkRefused checks that bytes are no datagram, and the first reason for it.
func checkRefused(t *testing.T, x *table.Table, b []byte, want api.Code) {
	t.Helper()
	if p, err := packet.Decode(x, b); !equal(p, api.Packet{}) || err != error(want) {
		t.Errorf("Decode(%x) = %v, %v, want %v", b, p, err, want)
	}
}

// checkPeeked checks the direction and the number of bytes.
func checkPeeked(t *testing.T, b []byte, direction int, seq uint64) {
	t.Helper()
	if d, got, ok := packet.Peek(b); d != direction || got != seq || !ok {
		t.Errorf("Peek(%x) = %d, %#x, %t, want %d, %#x", b, d, got, ok, direction, seq)
	}
}

// checkNotPeeked checks that bytes have none.
func checkNotPeeked(t *testing.T, b []byte) {
	t.Helper()
	if d, seq, ok := packet.Peek(b); d != 0 || seq != 0 || ok {
		t.Errorf("Peek of %d bytes = %d, %#x, %t", len(b), d, seq, ok)
	}
}

// checkSame checks whether two packets are the same, in both orders.
func checkSame(t *testing.T, a, b api.Packet, want bool) {
	t.Helper()
	if there, back := packet.Same(a, b), packet.Same(b, a); there != want || back != want {
		t.Errorf("Same(%v, %v) = %t, %t, want %t", a, b, there, back, want)
	}
}

// atOnce runs some goroutines, and begins when all of them are there.
func atOnce(ask func(k uint32)) {
	var ready, done sync.WaitGroup
	ready.Add(askers)
	for k := range uint32(askers) {
		done.Go(func() {
			ready.Done()
			ready.Wait()
			ask(k)
		})
	}
	done.Wait()
}

// P17.1

func TestConstantsOfTheChapter(t *testing.T) {
	if api.Overhead != 28 || api.MaxPayload != 1200 || api.MaxDatagram != 1228 || api.MaxSeq != greatest {
		t.Error(api.Overhead, api.MaxPayload, api.MaxDatagram, uint64(api.MaxSeq))
	}
	if api.Short != 1 || api.Oversize != 2 || api.Auth != 3 || api.Nonce != 5 || api.Direction != 8 {
		t.Error(api.Short, api.Oversize, api.Auth, api.Nonce, api.Direction)
	}
}

func TestEncodeOfKnownPackets(t *testing.T) {
	for _, k := range known {
		want, _ := hex.DecodeString(k.datagram)
		checkEncoded(t, table.New(fast.New(k.key)), k.p, want)
	}
}

func TestEncodeOfTheLongestPayload(t *testing.T) {
	payload := make([]byte, 1200)
	for i := range payload {
		payload[i] = byte(i % 251)
	}
	b, err := packet.Encode(table.New(fast.New(counted)), api.Packet{Direction: 1, Seq: 77, Time: 3, Echo: 4, Payload: payload})
	digest := sha256.Sum256(b)
	want := "3510f54f9735108738f762c1a698a613d13dd283491a790aa86f64fa6cc6a6dc"
	if hex.EncodeToString(digest[:]) != want || len(b) != 1228 || err != nil {
		t.Errorf("%x, %v", b, err)
	}
}

func TestEncodeOfRightPackets(t *testing.T) {
	for name, x := range someTables() {
		for _, p := range rightPackets() {
			if name == "nil Table" && len(p.Payload) > 30 {
				continue
			}
			checkEncoded(t, x, p, datagram(x, p))
		}
	}
}

func TestEncodeOfAllLengths(t *testing.T) {
	x := tableOf(3)
	for n := range 1201 {
		p := packetOf(uint32(n), n)
		checkEncoded(t, x, p, datagram(x, p))
	}
}

// The example of the chapter.
func TestDatagramsHave28BytesMore(t *testing.T) {
	for name, x := range someTables() {
		for _, n := range lengths {
			b, err := packet.Encode(x, packetOf(uint32(n), n))
			if len(b) != n+28 || err != nil {
				t.Errorf("%s: a payload of %d bytes has a datagram of %d, %v", name, n, len(b), err)
			}
		}
		if b, err := packet.Encode(x, api.Packet{Payload: []byte("hello")}); len(b) != 33 || err != nil {
			t.Errorf("%s: %x, %v", name, b, err)
		}
	}
}

func TestPartsOfDatagrams(t *testing.T) {
	for name, x := range someTables() {
		for _, n := range lengths {
			p := packetOf(uint32(n)+50, n)
			b, _ := packet.Encode(x, p)
			if len(b) != n+28 || !bytes.Equal(b[:8], headOf(p)) {
				t.Fatalf("%s: the datagram is %x", name, b)
			}
			plain, err := open.Open(x, nonceOf(b[:8]), nil, b[8:])
			if len(plain) != n+4 || err != nil {
				t.Fatalf("%s: %x, %v", name, plain, err)
			}
			for i, got := range plain {
				if want := plainOf(p)[i]; got != want {
					t.Errorf("%s: the byte %d is %d, want %d", name, i, got, want)
				}
			}
		}
	}
}

func TestBytesOfTimes(t *testing.T) {
	x := tableOf(4)
	p := api.Packet{Seq: 0x0102030405060708, Time: 0x1122, Echo: 0x3344, Payload: []byte{0x55}}
	b, _ := packet.Encode(x, p)
	if want := []byte{1, 2, 3, 4, 5, 6, 7, 8}; !bytes.HasPrefix(b, want) {
		t.Fatalf("the head of %x is not %x", b, want)
	}
	plain, err := open.Open(x, [12]byte{0, 0, 0, 0, 1, 2, 3, 4, 5, 6, 7, 8}, nil, b[8:])
	if want := []byte{0x11, 0x22, 0x33, 0x44, 0x55}; !bytes.Equal(plain, want) || err != nil {
		t.Errorf("%x, %v, want %x", plain, err, want)
	}
}

// Each direction, number and payload that the issue names, with each other one: the first
// code that applies.
func TestFirstErrorOfEncode(t *testing.T) {
	long := bytesOf(5, 1201)
	for _, x := range []*table.Table{nil, tableOf(5)} {
		for _, d := range []int{-1, 0, 1, 2, math.MinInt, math.MaxInt} {
			for _, seq := range []uint64{0, greatest, greatest + 1, math.MaxUint64} {
				for _, payload := range [][]byte{nil, {}, long[:1], long[:5], long[:11], long[:12], long[:13], long[:1199], long[:1200], long} {
					p := api.Packet{Direction: d, Seq: seq, Time: 1, Echo: 2, Payload: payload}
					switch {
					case d != 0 && d != 1:
						checkWrong(t, x, p, api.Direction)
					case seq > greatest:
						checkWrong(t, x, p, api.Nonce)
					case len(payload) == 1201:
						checkWrong(t, x, p, api.Oversize)
					default:
						checkEncoded(t, x, p, datagram(x, p))
					}
				}
			}
		}
	}
}

func TestOtherDirectionsAreRefused(t *testing.T) {
	x := tableOf(6)
	for _, d := range otherDirections() {
		checkWrong(t, x, api.Packet{Direction: d}, api.Direction)
		checkWrong(t, x, api.Packet{Direction: d, Seq: 1 << 63}, api.Direction)
		checkWrong(t, x, api.Packet{Direction: d, Payload: make([]byte, 1201)}, api.Direction)
		checkWrong(t, x, api.Packet{Direction: d, Seq: 1 << 63, Payload: make([]byte, 1201)}, api.Direction)
	}
}

func TestNumbersThatAreTooGreatAreRefused(t *testing.T) {
	x := tableOf(7)
	for _, seq := range greatNumbers() {
		for _, d := range []int{0, 1} {
			checkWrong(t, x, api.Packet{Direction: d, Seq: seq}, api.Nonce)
			checkWrong(t, x, api.Packet{Direction: d, Seq: seq, Payload: make([]byte, 1201)}, api.Nonce)
		}
	}
}

func TestPayloadsThatAreTooLongAreRefused(t *testing.T) {
	x := tableOf(8)
	for _, n := range []int{1201, 1202, 1204, 1228, 1229, 1456, 2400, 4096, 65535, 65536, 65536 + 5, 1 << 20} {
		for _, d := range []int{0, 1} {
			checkWrong(t, x, api.Packet{Direction: d, Payload: make([]byte, n)}, api.Oversize)
			checkWrong(t, x, api.Packet{Direction: d, Seq: greatest, Time: 65535, Echo: 65535, Payload: make([]byte, n)}, api.Oversize)
		}
	}
}

// Only the length of a payload matters, not its capacity.
func TestPayloadsWithMoreCapacity(t *testing.T) {
	x := tableOf(9)
	long := bytesOf(9, 5000)
	for _, n := range lengths {
		p := api.Packet{Payload: long[:n]}
		checkEncoded(t, x, p, datagram(x, p))
	}
	checkWrong(t, x, api.Packet{Payload: long[:1201]}, api.Oversize)
}

// Neither a time nor an echo makes a packet wrong.
func TestAllTimesAreRight(t *testing.T) {
	for time := range 65536 {
		p := api.Packet{Time: uint16(time), Echo: uint16(time * 7)}
		if !packet.Right(p) {
			t.Errorf("Right(%v) = false", p)
		}
	}
}

// P17.2

func TestDecodeOfKnownDatagrams(t *testing.T) {
	for _, k := range known {
		b, _ := hex.DecodeString(k.datagram)
		checkDecoded(t, table.New(fast.New(k.key)), b, k.p)
	}
}

func TestDecodeOfRightPackets(t *testing.T) {
	for name, x := range someTables() {
		for _, p := range rightPackets() {
			if name == "nil Table" && len(p.Payload) > 30 {
				continue
			}
			checkDecoded(t, x, datagram(x, p), p)
		}
	}
}

func TestDecodeOfAllLengths(t *testing.T) {
	x := tableOf(10)
	for n := range 1201 {
		p := packetOf(uint32(n), n)
		checkDecoded(t, x, datagram(x, p), p)
	}
}

func TestDecodeOfAllLengthsOfOtherBytes(t *testing.T) {
	x := tableOf(11)
	checkRefused(t, x, nil, api.Short)
	checkRefused(t, nil, nil, api.Short)
	for n := range 1300 {
		want := api.Auth
		if n < 28 {
			want = api.Short
		} else if n > 1228 {
			want = api.Oversize
		}
		checkRefused(t, x, make([]byte, n), want)
		checkRefused(t, x, bytesOf(uint32(n), n), want)
		if n <= 40 || n >= 1220 {
			checkRefused(t, nil, make([]byte, n), want)
		}
	}
	for _, n := range []int{2456, 65535, 65536 + 28, 1 << 20} {
		checkRefused(t, x, make([]byte, n), api.Oversize)
	}
}

// What was sealed under the key is refused too, if it is too short for the times, or too
// long for a payload.
func TestDecodeOfSealedBytesOfOtherLengths(t *testing.T) {
	for _, x := range []*table.Table{nil, tableOf(12)} {
		for n := range 4 {
			head := headOf(packetOf(uint32(n), 0))
			checkRefused(t, x, append(head, seal.Seal(x, nonceOf(head), nil, bytesOf(1, n))...), api.Short)
		}
		for n := 1205; n < 1240; n++ {
			head := headOf(packetOf(uint32(n), 0))
			checkRefused(t, x, append(head, seal.Seal(x, nonceOf(head), nil, bytesOf(1, n))...), api.Oversize)
		}
	}
}

func TestDecodeOfOneOtherByte(t *testing.T) {
	x := tableOf(13)
	for _, n := range lengths {
		b := datagram(x, packetOf(uint32(n), n))
		for at := range b {
			other := bytes.Clone(b)
			for _, with := range []byte{1, 2, 128, 255, byte(at)%255 + 1} {
				other[at] = b[at] ^ with
				checkRefused(t, x, other, api.Auth)
			}
		}
		checkDecoded(t, x, b, packetOf(uint32(n), n))
	}
}

func TestDecodeOfEachOtherBit(t *testing.T) {
	for _, x := range []*table.Table{table.New(nil), tableOf(14)} {
		for _, n := range []int{0, 5, 12, 13} {
			b := datagram(x, packetOf(uint32(n)+3, n))
			for bit := range 8 * len(b) {
				other := bytes.Clone(b)
				other[bit/8] ^= 1 << (bit % 8)
				checkRefused(t, x, other, api.Auth)
			}
		}
	}
}

func TestDecodeUnderAnotherKey(t *testing.T) {
	for _, n := range lengths {
		for seed := range uint32(5) {
			b := datagram(tableOf(seed+20), packetOf(seed, n))
			checkRefused(t, tableOf(seed+21), b, api.Auth)
			checkRefused(t, table.New(nil), b, api.Auth)
		}
	}
	key := [16]byte(bytesOf(1, 16))
	b := datagram(table.New(fast.New(key)), packetOf(1, 9))
	for bit := range 128 {
		other := key
		other[bit/8] ^= 1 << (bit % 8)
		checkRefused(t, table.New(fast.New(other)), b, api.Auth)
	}
}

func TestDecodeOfMoreBytes(t *testing.T) {
	x := tableOf(15)
	for _, n := range lengths {
		b := datagram(x, packetOf(uint32(n), n))
		for _, more := range []int{1, 2, 4, 8, 16, 28} {
			want := api.Auth
			if len(b)+more > 1228 {
				want = api.Oversize
			}
			checkRefused(t, x, append(bytes.Clone(b), make([]byte, more)...), want)
			checkRefused(t, x, append(bytes.Clone(b), bytesOf(1, more)...), want)
			checkRefused(t, x, append(make([]byte, more), b...), want)
		}
	}
}

func TestDecodeOfLessBytes(t *testing.T) {
	x := tableOf(16)
	for _, n := range []int{0, 1, 5, 12, 13, 100, 1200} {
		b := datagram(x, packetOf(uint32(n), n))
		for end := range b {
			want := api.Auth
			if end < 28 {
				want = api.Short
			}
			checkRefused(t, x, b[:end], want)
			if end > 0 {
				want := api.Auth
				if len(b)-end < 28 {
					want = api.Short
				}
				checkRefused(t, x, b[end:], want)
			}
		}
	}
}

// What was sealed with data, with another nonce or in another order is no datagram.
func TestDecodeOfWhatIsSealedOtherwise(t *testing.T) {
	x := tableOf(17)
	for _, p := range rightPackets() {
		head, plain := headOf(p), plainOf(p)
		checkRefused(t, x, append(headOf(p), seal.Seal(x, nonceOf(head), head, plain)...), api.Auth)
		checkRefused(t, x, append(headOf(p), seal.Seal(x, nonceOf(head), []byte{0}, plain)...), api.Auth)
		checkRefused(t, x, append(headOf(p), seal.Seal(x, [12]byte(append(headOf(p), 0, 0, 0, 1)), nil, plain)...), api.Auth)
		front := nonceOf(head)
		front[0] = 1
		checkRefused(t, x, append(headOf(p), seal.Seal(x, front, nil, plain)...), api.Auth)
		back := bytes.Clone(head)
		slices.Reverse(back)
		if !bytes.Equal(back, head) {
			checkRefused(t, x, append(back, seal.Seal(x, nonceOf(head), nil, plain)...), api.Auth)
		}
		checkRefused(t, x, append(seal.Seal(x, nonceOf(head), nil, plain), head...), api.Auth)
	}
}

// The number and the direction are those of the head that was sealed.
func TestDecodeOfOtherHeads(t *testing.T) {
	x := tableOf(18)
	a, b := packetOf(1, 30), packetOf(2, 30)
	one, two := datagram(x, a), datagram(x, b)
	checkRefused(t, x, append(bytes.Clone(one[:8]), two[8:]...), api.Auth)
	checkRefused(t, x, append(bytes.Clone(two[:8]), one[8:]...), api.Auth)
	a.Direction = 1 - a.Direction
	checkRefused(t, x, append(headOf(a), one[8:]...), api.Auth)
	checkDecoded(t, x, datagram(x, a), a)
}

// P17.3

func TestPeekOfDatagrams(t *testing.T) {
	x := tableOf(19)
	for _, p := range rightPackets() {
		checkPeeked(t, datagram(x, p), p.Direction, p.Seq)
	}
}

func TestPeekOfAllLengths(t *testing.T) {
	checkNotPeeked(t, nil)
	for n := range 1300 {
		for _, first := range []byte{0, 1, 127, 128, 129, 255} {
			b := bytesOf(uint32(n), n)
			if n > 0 {
				b[0] = first
			}
			if n < 28 || n > 1228 {
				checkNotPeeked(t, b)
				continue
			}
			seq := uint64(first % 128)
			for _, x := range b[1:8] {
				seq = seq<<8 + uint64(x)
			}
			checkPeeked(t, b, int(first/128), seq)
		}
	}
	for _, n := range []int{2456, 65536 + 28, 1 << 20} {
		checkNotPeeked(t, make([]byte, n))
	}
}

func TestPeekOfKnownHeads(t *testing.T) {
	for _, n := range []int{28, 29, 100, 1227, 1228} {
		for _, fill := range []byte{0, 255} {
			behind := bytes.Repeat([]byte{fill}, n-8)
			checkPeeked(t, append([]byte{0, 0, 0, 0, 0, 0, 0, 0}, behind...), 0, 0)
			checkPeeked(t, append([]byte{128, 0, 0, 0, 0, 0, 1, 2}, behind...), 1, 258)
			checkPeeked(t, append([]byte{1, 2, 3, 4, 5, 6, 7, 8}, behind...), 0, 0x0102030405060708)
			checkPeeked(t, append([]byte{127, 255, 255, 255, 255, 255, 255, 255}, behind...), 0, greatest)
			checkPeeked(t, append([]byte{255, 255, 255, 255, 255, 255, 255, 255}, behind...), 1, greatest)
		}
	}
	for _, n := range []int{0, 1, 7, 8, 9, 12, 16, 24, 27} {
		checkNotPeeked(t, bytes.Repeat([]byte{0}, n))
		checkNotPeeked(t, bytes.Repeat([]byte{255}, n))
	}
}

// Peek needs no key: it tells the head of what Decode refuses, too.
func TestPeekOfWhatIsRefused(t *testing.T) {
	x := tableOf(20)
	for _, n := range lengths {
		p := packetOf(uint32(n), n)
		b := datagram(x, p)
		for at := 8; at < len(b); at++ {
			b[at]++
			checkPeeked(t, b, p.Direction, p.Seq)
			checkRefused(t, x, b, api.Auth)
			b[at]--
		}
	}
}

func TestSize(t *testing.T) {
	for _, x := range []struct{ n, want int }{
		{math.MinInt, 0}, {math.MinInt + 1, 0}, {math.MinInt32, 0}, {-1228, 0}, {-1200, 0}, {-29, 0}, {-28, 0}, {-27, 0}, {-2, 0}, {-1, 0},
		{0, 28}, {1, 29}, {5, 33}, {1199, 1227}, {1200, 1228},
		{1201, 0}, {1228, 0}, {1229, 0}, {65536, 0}, {math.MaxInt32, 0}, {math.MaxInt - 28, 0}, {math.MaxInt - 27, 0}, {math.MaxInt - 1, 0}, {math.MaxInt, 0},
	} {
		if got := packet.Size(x.n); got != x.want {
			t.Errorf("Size(%d) = %d, want %d", x.n, got, x.want)
		}
	}
	for n := range 1201 {
		if got := packet.Size(n); got != n+28 {
			t.Errorf("Size(%d) = %d", n, got)
		}
		if packet.Size(-1-n) != 0 || packet.Size(1201+n) != 0 {
			t.Errorf("Size(%d) = %d, Size(%d) = %d", -1-n, packet.Size(-1-n), 1201+n, packet.Size(1201+n))
		}
	}
	for bit := 11; bit < strconv.IntSize-1; bit++ {
		for _, n := range []int{1 << bit, 1<<bit + 5, -1 << bit, -1<<bit + 5} {
			if got := packet.Size(n); got != 0 {
				t.Errorf("Size(%d) = %d", n, got)
			}
		}
	}
}

func TestSizeOfDatagrams(t *testing.T) {
	x := tableOf(21)
	for n := range 1210 {
		b, _ := packet.Encode(x, api.Packet{Payload: make([]byte, n)})
		if got := packet.Size(n); got != len(b) {
			t.Errorf("Size(%d) = %d, and the datagram has %d bytes", n, got, len(b))
		}
	}
}

func TestSameOfEqualPackets(t *testing.T) {
	for _, p := range rightPackets() {
		checkSame(t, p, p, true)
		checkSame(t, p, copyOf(p), true)
	}
	checkSame(t, api.Packet{}, api.Packet{Payload: []byte{}}, true)
	checkSame(t, api.Packet{}, api.Packet{Payload: make([]byte, 0, 100)}, true)
	full := api.Packet{Direction: 1, Seq: 2, Time: 3, Echo: 4}
	none := full
	none.Payload = []byte{}
	checkSame(t, full, none, true)
	checkSame(t, api.Packet{Payload: make([]byte, 5, 100)}, api.Packet{Payload: make([]byte, 5)}, true)
}

// Packets that are not right are compared like any others.
func TestSameOfWrongPackets(t *testing.T) {
	long := make([]byte, 1300)
	wrong := []api.Packet{
		{Direction: -1}, {Direction: 2}, {Direction: math.MinInt}, {Direction: math.MaxInt}, {Seq: 1 << 63}, {Seq: math.MaxUint64},
		{Payload: long}, {Payload: long[:1201]}, {Direction: 2, Seq: 1 << 63}, {Direction: 2, Payload: long}, {},
	}
	for i, a := range wrong {
		for j, b := range wrong {
			checkSame(t, a, copyOf(b), i == j)
		}
	}
}

func TestSameOfOneOtherField(t *testing.T) {
	for _, p := range rightPackets() {
		q := p
		q.Direction = 1 - p.Direction
		checkSame(t, p, q, false)
		q = p
		q.Seq++
		checkSame(t, p, q, false)
		q = p
		q.Time++
		checkSame(t, p, q, false)
		q = p
		q.Echo--
		checkSame(t, p, q, false)
		q = p
		q.Payload = append(bytes.Clone(p.Payload), 0)
		checkSame(t, p, q, false)
	}
}

func TestSameOfOneOtherBit(t *testing.T) {
	p := packetOf(22, 20)
	for bit := range 64 {
		q := p
		q.Seq ^= 1 << bit
		checkSame(t, p, q, false)
	}
	for bit := range strconv.IntSize {
		q := p
		q.Direction = int(uint(p.Direction) ^ 1<<bit)
		checkSame(t, p, q, false)
	}
	for bit := range 16 {
		q := p
		q.Time ^= 1 << bit
		checkSame(t, p, q, false)
		q = p
		q.Echo ^= 1 << bit
		checkSame(t, p, q, false)
	}
	for bit := range 160 {
		q := copyOf(p)
		q.Payload[bit/8] ^= 1 << (bit % 8)
		checkSame(t, p, q, false)
	}
}

func TestSameOfOtherPayloads(t *testing.T) {
	for _, n := range lengths {
		p := packetOf(uint32(n)+60, n)
		for at := range n {
			q := copyOf(p)
			q.Payload[at]++
			checkSame(t, p, q, false)
			q.Payload = p.Payload[:at]
			checkSame(t, p, q, false)
			q.Payload = p.Payload[at+1:]
			checkSame(t, p, q, false)
		}
		q := p
		q.Payload = append([]byte{0}, p.Payload...)
		checkSame(t, p, q, false)
	}
	for n := range 100 {
		checkSame(t, api.Packet{Payload: make([]byte, n)}, api.Packet{Payload: make([]byte, n+1)}, false)
		checkSame(t, api.Packet{}, api.Packet{Payload: make([]byte, n+1)}, false)
	}
}

// Fields that are exchanged, or that differ in opposite ways, differ.
func TestSameOfExchangedFields(t *testing.T) {
	p := api.Packet{Direction: 1, Seq: 2, Time: 3, Echo: 4, Payload: []byte{5, 6}}
	for _, q := range []api.Packet{
		{Direction: 2, Seq: 1, Time: 3, Echo: 4, Payload: []byte{5, 6}},
		{Direction: 3, Seq: 2, Time: 1, Echo: 4, Payload: []byte{5, 6}},
		{Direction: 4, Seq: 2, Time: 3, Echo: 1, Payload: []byte{5, 6}},
		{Direction: 1, Seq: 3, Time: 2, Echo: 4, Payload: []byte{5, 6}},
		{Direction: 1, Seq: 4, Time: 3, Echo: 2, Payload: []byte{5, 6}},
		{Direction: 1, Seq: 2, Time: 4, Echo: 3, Payload: []byte{5, 6}},
		{Direction: 1, Seq: 2, Time: 3, Echo: 4, Payload: []byte{6, 5}},
		{Direction: 0, Seq: 3, Time: 3, Echo: 4, Payload: []byte{5, 6}},
		{Direction: 1, Seq: 1, Time: 4, Echo: 4, Payload: []byte{5, 6}},
		{Direction: 1, Seq: 2, Time: 2, Echo: 5, Payload: []byte{5, 6}},
		{Direction: 1, Seq: 2, Time: 3, Echo: 5, Payload: []byte{4, 6}},
		{Direction: 1, Seq: 2, Time: 3, Echo: 1028, Payload: []byte{6}},
		{Direction: 1, Seq: 2, Time: 3, Echo: 4, Payload: []byte{5, 6, 0}},
	} {
		checkSame(t, p, q, false)
	}
}

// P17.4

func TestDecodeInvertsEncode(t *testing.T) {
	for name, x := range someTables() {
		for _, p := range rightPackets() {
			if name == "nil Table" && len(p.Payload) > 30 {
				continue
			}
			b, err := packet.Encode(x, p)
			if err != nil {
				t.Fatalf("%s: Encode(%v): %v", name, p, err)
			}
			got, err := packet.Decode(x, b)
			if !equal(got, p) || !packet.Same(got, p) || !packet.Right(got) || err != nil {
				t.Errorf("%s: %v is decoded to %v, %v", name, p, got, err)
			}
		}
	}
}

func TestEncodeInvertsDecode(t *testing.T) {
	for name, x := range someTables() {
		for seed := range uint32(100) {
			n := lengths[int(seed)%len(lengths)]
			b := datagram(x, packetOf(seed, n))
			p, err := packet.Decode(x, b)
			if err != nil {
				t.Fatalf("%s: Decode(%x): %v", name, b, err)
			}
			if again, err := packet.Encode(x, p); !bytes.Equal(again, b) || err != nil {
				t.Errorf("%s: %x is encoded again to %x, %v", name, b, again, err)
			}
		}
	}
}

func TestAllTimesThereAndBack(t *testing.T) {
	x := tableOf(23)
	for time := range 65536 {
		p := api.Packet{Direction: time % 2, Seq: uint64(time), Time: uint16(time), Echo: uint16(40503 * time)}
		b, err := packet.Encode(x, p)
		if err != nil {
			t.Fatal(err)
		}
		checkDecoded(t, x, b, p)
	}
}

func TestDifferentPacketsHaveDifferentDatagrams(t *testing.T) {
	x := tableOf(24)
	met := map[string]api.Packet{}
	for _, p := range rightPackets() {
		b, _ := packet.Encode(x, p)
		if q, ok := met[string(b)]; ok && !equal(p, q) {
			t.Errorf("%v and %v have the datagram %x", p, q, b)
		}
		met[string(b)] = p
	}
}

// The Rules

func TestValuesThatAreGivenStayAsTheyAre(t *testing.T) {
	x := tableOf(25)
	for _, n := range append(lengths, 1201) {
		long := bytesOf(uint32(n), 1400)
		p := api.Packet{Direction: 1, Seq: 2, Time: 3, Echo: 4, Payload: long[50 : 50+n]}
		b, _ := packet.Encode(x, p)
		packet.Right(p)
		packet.Same(p, copyOf(p))
		if !bytes.Equal(long, bytesOf(uint32(n), 1400)) || !equal(p, api.Packet{Direction: 1, Seq: 2, Time: 3, Echo: 4, Payload: bytesOf(uint32(n), 1400)[50 : 50+n]}) {
			t.Errorf("a payload of %d bytes is changed", n)
		}
		for _, from := range [][]byte{b, bytesOf(1, 100), bytesOf(1, 27), bytesOf(1, 1229)} {
			room := append(append(bytesOf(2, 50), from...), bytesOf(3, 50)...)
			want := bytes.Clone(room)
			packet.Decode(x, room[50:50+len(from)])
			packet.Peek(room[50 : 50+len(from)])
			if !bytes.Equal(room, want) {
				t.Errorf("a datagram of %d bytes is changed", len(from))
			}
		}
	}
}

func TestBytesThatTheCallerChanges(t *testing.T) {
	x := tableOf(26)
	for _, n := range lengths {
		p := packetOf(uint32(n), n)
		want := datagram(x, p)
		b, _ := packet.Encode(x, p)
		again, _ := packet.Encode(x, p)
		for i := range p.Payload {
			p.Payload[i]++
		}
		clear(again[:cap(again)])
		if !bytes.Equal(b, want) {
			t.Errorf("the datagram is %x, want %x", b, want)
		}
		clear(b[:cap(b)])
		checkEncoded(t, x, packetOf(uint32(n), n), want)
		for i := range p.Payload {
			p.Payload[i]--
		}
		if !equal(p, packetOf(uint32(n), n)) {
			t.Errorf("the packet is %v", p)
		}
	}
}

func TestPacketsThatTheCallerChanges(t *testing.T) {
	x := tableOf(27)
	for _, n := range lengths {
		want := packetOf(uint32(n), n)
		b := datagram(x, want)
		p, _ := packet.Decode(x, b)
		again, _ := packet.Decode(x, b)
		clear(again.Payload[:cap(again.Payload)])
		if !equal(p, want) || !bytes.Equal(b, datagram(x, want)) {
			t.Errorf("the packet is %v, want %v", p, want)
		}
		clear(b)
		if !equal(p, want) {
			t.Errorf("the packet is %v, want %v", p, want)
		}
		checkDecoded(t, x, datagram(x, want), want)
	}
}

// What was encoded, decoded or refused before changes nothing.
func TestCallsSideBySide(t *testing.T) {
	x, y := tableOf(28), tableOf(29)
	for _, p := range rightPackets()[:150] {
		b := datagram(x, p)
		checkEncoded(t, y, p, datagram(y, p))
		checkWrong(t, x, api.Packet{Direction: 2}, api.Direction)
		checkEncoded(t, x, p, b)
		checkRefused(t, y, b, api.Auth)
		checkDecoded(t, x, b, p)
		checkDecoded(t, x, b, p)
		checkRefused(t, x, b[:27], api.Short)
		checkEncoded(t, x, p, b)
		checkPeeked(t, b, p.Direction, p.Seq)
	}
}

func TestSeveralGoroutines(t *testing.T) {
	x := tableOf(30)
	atOnce(func(k uint32) {
		for i, n := range lengths {
			p := packetOf(1000*k+uint32(i), n)
			b := datagram(x, p)
			checkEncoded(t, x, p, b)
			checkDecoded(t, x, b, p)
			checkPeeked(t, b, p.Direction, p.Seq)
			checkSame(t, p, copyOf(p), true)
			checkWrong(t, x, api.Packet{Direction: int(k) + 2}, api.Direction)
			b[int(k)+8] ^= byte(k + 1)
			checkRefused(t, x, b, api.Auth)
			if packet.Size(n) != len(b) {
				t.Errorf("Size(%d) = %d", n, packet.Size(n))
			}
		}
	})
}
