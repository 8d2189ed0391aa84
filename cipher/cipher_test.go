package cipher_test

import (
	"encoding/hex"
	"strings"
	"sync"
	"testing"

	"mooring/cipher"
	"mooring/field"
	"mooring/keys"
	"mooring/sbox"
)

// zeros is the block and the key of zero bytes.
var zeros [16]byte

// course is what becomes of a block in the rounds from 1 on: at its start, and
// after the steps Sub, Shift and Mix. The last round has no step Mix.
type course struct {
	key, block [16]byte
	rounds     [10][4][16]byte
	end        [16]byte
}

// courses are those of the examples of FIPS 197, appendices B and C.1.
func courses(t *testing.T) []course {
	t.Helper()
	return []course{
		read(t, `
			2b7e151628aed2a6abf7158809cf4f3c 3243f6a8885a308d313198a2e0370734
			193de3bea0f4e22b9ac68d2ae9f84808 d42711aee0bf98f1b8b45de51e415230 d4bf5d30e0b452aeb84111f11e2798e5 046681e5e0cb199a48f8d37a2806264c
			a49c7ff2689f352b6b5bea43026a5049 49ded28945db96f17f39871a7702533b 49db873b453953897f02d2f177de961a 584dcaf11b4b5aacdbe7caa81b6bb0e5
			aa8f5f0361dde3ef82d24ad26832469a ac73cf7befc111df13b5d6b545235ab8 acc1d6b8efb55a7b1323cfdf457311b5 75ec0993200b633353c0cf7cbb25d0dc
			486c4eee671d9d0d4de3b138d65f58e7 52502f2885a45ed7e311c807f6cf6a94 52a4c89485116a28e3cf2fd7f6505e07 0fd6daa9603138bf6fc0106b5eb31301
			e0927fe8c86363c0d9b1355085b8be01 e14fd29be8fbfbba35c89653976cae7c e1fb967ce8c8ae9b356cd2ba974ffb53 25d1a9adbd11d168b63a338e4c4cc0b0
			f1006f55c1924cef7cc88b325db5d50c a163a8fc784f29df10e83d234cd503fe a14f3dfe78e803fc10d5a8df4c632923 4b868d6d2c4a8980339df4e837d218d8
			260e2e173d41b77de86472a9fdd28b25 f7ab31f02783a9ff9b4340d354b53d3f f783403f27433df09bb531ff54aba9d3 1415b5bf461615ec274656d7342ad843
			5a4142b11949dc1fa3e019657a8c040c be832cc8d43b86c00ae1d44dda64f2fe be3bd4fed4e1f2c80a642cc0da83864d 00512fd1b1c889ff54766dcdfa1b99ea
			ea835cf00445332d655d98ad8596b0c5 87ec4a8cf26ec3d84d4c46959790e7a6 876e46a6f24ce78c4d904ad897ecc395 473794ed40d4e4a5a3703aa64c9f42bc
			eb40f21e592e38848ba113e71bc342d2 e9098972cb31075f3d327d94af2e2cb5 e9317db5cb322c723d2e895faf090794
			3925841d02dc09fbdc118597196a0b32`),
		read(t, `
			000102030405060708090a0b0c0d0e0f 00112233445566778899aabbccddeeff
			00102030405060708090a0b0c0d0e0f0 63cab7040953d051cd60e0e7ba70e18c 6353e08c0960e104cd70b751bacad0e7 5f72641557f5bc92f7be3b291db9f91a
			89d810e8855ace682d1843d8cb128fe4 a761ca9b97be8b45d8ad1a611fc97369 a7be1a6997ad739bd8c9ca451f618b61 ff87968431d86a51645151fa773ad009
			4915598f55e5d7a0daca94fa1f0a63f7 3b59cb73fcd90ee05774222dc067fb68 3bd92268fc74fb735767cbe0c0590e2d 4c9c1e66f771f0762c3f868e534df256
			fa636a2825b339c940668a3157244d17 2dfb02343f6d12dd09337ec75b36e3f0 2d6d7ef03f33e334093602dd5bfb12c7 6385b79ffc538df997be478e7547d691
			247240236966b3fa6ed2753288425b6c 36400926f9336d2d9fb59d23c42c3950 36339d50f9b539269f2c092dc4406d23 f4bcd45432e554d075f1d6c51dd03b3c
			c81677bc9b7ac93b25027992b0261996 e847f56514dadde23f77b64fe7f7d490 e8dab6901477d4653ff7f5e2e747dd4f 9816ee7400f87f556b2c049c8e5ad036
			c62fe109f75eedc3cc79395d84f9cf5d b415f8016858552e4bb6124c5f998a4c b458124c68b68a014b99f82e5f15554c c57e1c159a9bd286f05f4be098c63439
			d1876c0f79c4300ab45594add66ff41f 3e175076b61c04678dfc2295f6a8bfc0 3e1c22c0b6fcbf768da85067f6170495 baa03de7a1f9b56ed5512cba5f414d23
			fde3bad205e5d0d73547964ef1fe37f1 5411f4b56bd9700e96a0902fa1bb9aa1 54d990a16ba09ab596bbf40ea111702f e9f74eec023020f61bf2ccf2353c21c7
			bd6e7c3df2b5779e0b61216e8b10b689 7a9f102789d5f50b2beffd9f3dca4ea7 7ad5fda789ef4e272bca100b3d9ff59f
			69c4e0d86a7b0430d8cdb78070b4c55a`),
	}
}

// read reads the blocks of a course.
func read(t *testing.T, text string) course {
	t.Helper()
	l := blocks(t, text)
	if len(l) != 42 {
		t.Fatalf("a course has %d blocks", len(l))
	}
	x := course{key: l[0], block: l[1], end: l[41]}
	for i, b := range l[2:41] {
		x.rounds[i/4][i%4] = b
	}
	return x
}

// blocks reads blocks that are written as hexadecimal numbers.
func blocks(t *testing.T, text string) [][16]byte {
	t.Helper()
	var l [][16]byte
	for _, number := range strings.Fields(text) {
		b, err := hex.DecodeString(number)
		if err != nil || len(b) != 16 {
			t.Fatalf("%s has %d bytes, %v", number, len(b), err)
		}
		l = append(l, [16]byte(b))
	}
	return l
}

// example is a block and what it is encrypted as.
type example struct{ key, block, end [16]byte }

// examples are, beside those of FIPS 197, those of NIST SP 800-38A for ECB, and
// the block of zero bytes under the key of zero bytes.
func examples(t *testing.T) []example {
	t.Helper()
	l := blocks(t, `
		00000000000000000000000000000000 00000000000000000000000000000000 66e94bd4ef8a2c3b884cfa59ca342b2e
		2b7e151628aed2a6abf7158809cf4f3c 3243f6a8885a308d313198a2e0370734 3925841d02dc09fbdc118597196a0b32
		000102030405060708090a0b0c0d0e0f 00112233445566778899aabbccddeeff 69c4e0d86a7b0430d8cdb78070b4c55a
		2b7e151628aed2a6abf7158809cf4f3c 6bc1bee22e409f96e93d7e117393172a 3ad77bb40d7a3660a89ecaf32466ef97
		2b7e151628aed2a6abf7158809cf4f3c ae2d8a571e03ac9c9eb76fac45af8e51 f5d3d58503b9699de785895a96fdbaaf
		2b7e151628aed2a6abf7158809cf4f3c 30c81c46a35ce411e5fbc1191a0a52ef 43b1cd7f598ece23881b00e3ed030688
		2b7e151628aed2a6abf7158809cf4f3c f69f2445df4f9b17ad2b417be66c3710 7b0c785e27e8ad3f8223207104725dd4`)
	var examples []example
	for i := 0; i < len(l); i += 3 {
		examples = append(examples, example{l[i], l[i+1], l[i+2]})
	}
	return examples
}

// matrix is a block as the chapter arranges it: rows of four columns.
type matrix [4][4]byte

func arrange(b [16]byte) matrix {
	var m matrix
	for i, x := range b {
		m[i%4][i/4] = x
	}
	return m
}

func (m matrix) block() [16]byte {
	var b [16]byte
	for i := range b {
		b[i] = m[i%4][i/4]
	}
	return b
}

// substituted is a block after the step Sub.
func substituted(b [16]byte) [16]byte {
	for i, x := range b {
		b[i] = sbox.S(x)
	}
	return b
}

// shifted is a block after the step Shift.
func shifted(b [16]byte) [16]byte {
	m := arrange(b)
	for r, row := range m {
		for c := range row {
			m[r][c] = row[(c+r)%4]
		}
	}
	return m.block()
}

// mixed is a block after the step Mix, with the sums that the chapter names.
func mixed(block [16]byte) [16]byte {
	two := func(x byte) byte { return field.Mul(2, x) }
	three := func(x byte) byte { return field.Mul(3, x) }
	m := arrange(block)
	for i := range 4 {
		a, b, c, d := m[0][i], m[1][i], m[2][i], m[3][i]
		m[0][i] = two(a) ^ three(b) ^ c ^ d
		m[1][i] = a ^ two(b) ^ three(c) ^ d
		m[2][i] = a ^ b ^ two(c) ^ three(d)
		m[3][i] = three(a) ^ b ^ c ^ two(d)
	}
	return m.block()
}

// added is a block after the step Add.
func added(b, round [16]byte) [16]byte {
	for i := range b {
		b[i] ^= round[i]
	}
	return b
}

// encrypted is a block that is encrypted as the chapter defines it.
func encrypted(key, b [16]byte) [16]byte {
	for r, round := range keys.Expand(key) {
		if r > 0 {
			b = shifted(substituted(b))
		}
		if r > 0 && r < 10 {
			b = mixed(b)
		}
		b = added(b, round)
	}
	return b
}

// step is one of the steps that no round key belongs to, with its way back.
type step struct {
	name                string
	there, back, wanted func([16]byte) [16]byte
}

func steps() []step {
	return []step{
		{"Sub", cipher.Sub, cipher.Unsub, substituted},
		{"Shift", cipher.Shift, cipher.Unshift, shifted},
		{"Mix", cipher.Mix, cipher.Unmix, mixed},
	}
}

// sample returns bytes without any regularity that a sum could keep.
func sample(seed uint32) [16]byte {
	var b [16]byte
	x := seed
	for i := range b {
		x = x*1664525 + 1013904223
		b[i] = byte(x >> 24)
	}
	return b
}

// count has bytes that are all different.
func count(from byte) [16]byte {
	var b [16]byte
	for i := range b {
		b[i] = from + byte(i)
	}
	return b
}

// full has the same byte everywhere.
func full(x byte) [16]byte {
	var b [16]byte
	for i := range b {
		b[i] = x
	}
	return b
}

// with is a block whose byte with the index i is another one.
func with(b [16]byte, i int, x byte) [16]byte {
	b[i] = x
	return b
}

// someBlocks are all different. Each byte stands in each row and each column of
// one of them, among zero bytes.
func someBlocks() [][16]byte {
	l := [][16]byte{zeros}
	for x := 1; x < 256; x++ {
		l = append(l, full(byte(x)))
		for i := range 16 {
			l = append(l, with(zeros, i, byte(x)))
		}
	}
	for seed := range uint32(300) {
		l = append(l, sample(seed))
	}
	return l
}

// someKeys are all different.
func someKeys() [][16]byte {
	l := [][16]byte{zeros, full(0xff), full(0x63), count(0), count(240)}
	for i := range 16 {
		l = append(l, with(zeros, i, 0x80), with(full(0xff), i, 0xfe))
	}
	for seed := range uint32(30) {
		l = append(l, sample(seed+1000))
	}
	return l
}

// check says what of the package is wrong about a block, if anything is.
func check(t *testing.T, key, block [16]byte) {
	t.Helper()
	for _, x := range steps() {
		if got := x.there(block); got != x.wanted(block) {
			t.Errorf("%s(%x) = %x, want %x", x.name, block, got, x.wanted(block))
		}
		if got := x.back(x.wanted(block)); got != block {
			t.Errorf("Un%s(%x) = %x, want %x", strings.ToLower(x.name), x.wanted(block), got, block)
		}
	}
	if got := cipher.Add(block, key); got != added(block, key) {
		t.Errorf("Add(%x, %x) = %x, want %x", block, key, got, added(block, key))
	}
	checkCipher(t, example{key, block, encrypted(key, block)})
}

// checkCipher says what is wrong about an example, if anything is.
func checkCipher(t *testing.T, x example) {
	t.Helper()
	if got := cipher.Encrypt(x.key, x.block); got != x.end {
		t.Errorf("Encrypt(%x, %x) = %x, want %x", x.key, x.block, got, x.end)
	}
	if got := cipher.Decrypt(x.key, x.end); got != x.block {
		t.Errorf("Decrypt(%x, %x) = %x, want %x", x.key, x.end, got, x.block)
	}
}

// P6.1

func TestStepsOfExamples(t *testing.T) {
	for _, x := range courses(t) {
		for r, round := range x.rounds {
			for k, step := range steps() {
				if r == 9 && k == 2 {
					break
				}
				if got := step.there(round[k]); got != round[k+1] {
					t.Errorf("%s(%x) = %x, want %x", step.name, round[k], got, round[k+1])
				}
				if got := step.back(round[k+1]); got != round[k] {
					t.Errorf("Un%s(%x) = %x, want %x", strings.ToLower(step.name), round[k+1], got, round[k])
				}
			}
		}
	}
}

func TestAddOfExamples(t *testing.T) {
	for _, x := range courses(t) {
		before, after := x.block, x.rounds[0][0]
		for r, round := range keys.Expand(x.key) {
			switch {
			case r == 10:
				before, after = x.rounds[9][2], x.end
			case r > 0:
				before, after = x.rounds[r-1][3], x.rounds[r][0]
			}
			if got := cipher.Add(before, round); got != after {
				t.Errorf("Add(%x, %x) = %x, want %x", before, round, got, after)
			}
			if got := cipher.Add(after, round); got != before {
				t.Errorf("Add(%x, %x) = %x, want %x", after, round, got, before)
			}
		}
	}
}

func TestStepsOfManyBlocks(t *testing.T) {
	for _, x := range steps() {
		for _, b := range someBlocks() {
			if got := x.there(b); got != x.wanted(b) {
				t.Errorf("%s(%x) = %x, want %x", x.name, b, got, x.wanted(b))
			}
		}
	}
}

func TestWaysBackInBothOrders(t *testing.T) {
	for _, x := range steps() {
		for _, b := range someBlocks() {
			if got := x.back(x.there(b)); got != b {
				t.Errorf("after %s, the way back of %x is %x", x.name, b, got)
			}
			if got := x.there(x.back(b)); got != b {
				t.Errorf("%s of the way back of %x is %x", x.name, b, got)
			}
		}
	}
}

func TestSubOfEachRowAndColumn(t *testing.T) {
	b := count(0x53)
	want := [16]byte{0xed, 0x20, 0xfc, 0xb1, 0x5b, 0x6a, 0xcb, 0xbe, 0x39, 0x4a, 0x4c, 0x58, 0xcf, 0xd0, 0xef, 0xaa}
	if got := cipher.Sub(b); got != want {
		t.Errorf("Sub(%x) = %x, want %x", b, got, want)
	}
	if got := cipher.Unsub(want); got != b {
		t.Errorf("Unsub(%x) = %x, want %x", want, got, b)
	}
	for i := range 16 {
		for x := range 256 {
			b, want := with(full(0x52), i, byte(x)), with(zeros, i, sbox.S(byte(x)))
			if got := cipher.Sub(b); got != want {
				t.Errorf("Sub(%x) = %x, want %x", b, got, want)
			}
			if got := cipher.Unsub(want); got != b {
				t.Errorf("Unsub(%x) = %x, want %x", want, got, b)
			}
		}
	}
}

func TestShiftOfEachRowAndColumn(t *testing.T) {
	want := [16]byte{0, 5, 10, 15, 4, 9, 14, 3, 8, 13, 2, 7, 12, 1, 6, 11}
	if got := cipher.Shift(count(0)); got != want {
		t.Errorf("the bytes are shifted to %v, want %v", got, want)
	}
	for row := range 4 {
		for column := range 4 {
			from, to := row+4*column, row+4*((column+4-row)%4)
			if got := cipher.Shift(with(zeros, from, 1)); got != with(zeros, to, 1) {
				t.Errorf("the byte of the row %d and the column %d is shifted to %v", row, column, got)
			}
			if got := cipher.Unshift(with(zeros, to, 1)); got != with(zeros, from, 1) {
				t.Errorf("the byte of the row %d and the column %d is shifted back to %v", row, to/4, got)
			}
		}
	}
}

func TestMixOfEachRowAndColumn(t *testing.T) {
	for column := range 4 {
		for row, l := range [4][2][4]byte{
			{{2, 1, 1, 3}, {14, 9, 13, 11}},
			{{3, 2, 1, 1}, {11, 14, 9, 13}},
			{{1, 3, 2, 1}, {13, 11, 14, 9}},
			{{1, 1, 3, 2}, {9, 13, 11, 14}},
		} {
			one := with(zeros, 4*column+row, 1)
			var want, back [16]byte
			copy(want[4*column:], l[0][:])
			copy(back[4*column:], l[1][:])
			if got := cipher.Mix(one); got != want {
				t.Errorf("Mix(%x) = %x, want %x", one, got, want)
			}
			if got := cipher.Unmix(one); got != back {
				t.Errorf("Unmix(%x) = %x, want %x", one, got, back)
			}
		}
	}
}

func TestMixOfColumns(t *testing.T) {
	for a, want := range map[[4]byte][4]byte{
		{}:                       {},
		{1, 1, 1, 1}:             {1, 1, 1, 1},
		{0xc6, 0xc6, 0xc6, 0xc6}: {0xc6, 0xc6, 0xc6, 0xc6},
		{0xdb, 0x13, 0x53, 0x45}: {0x8e, 0x4d, 0xa1, 0xbc},
		{0xf2, 0x0a, 0x22, 0x5c}: {0x9f, 0xdc, 0x58, 0x9d},
		{0xd4, 0xd4, 0xd4, 0xd5}: {0xd5, 0xd5, 0xd7, 0xd6},
		{0x2d, 0x26, 0x31, 0x4c}: {0x4d, 0x7e, 0xbd, 0xf8},
		{0xd4, 0xbf, 0x5d, 0x30}: {0x04, 0x66, 0x81, 0xe5},
	} {
		for column := range 4 {
			before, after := full(0xaa), full(0xaa)
			copy(before[4*column:], a[:])
			copy(after[4*column:], want[:])
			if got := cipher.Mix(before); got != after {
				t.Errorf("Mix(%x) = %x, want %x", before, got, after)
			}
			if got := cipher.Unmix(after); got != before {
				t.Errorf("Unmix(%x) = %x, want %x", after, got, before)
			}
		}
	}
}

func TestAddOfEachRowAndColumn(t *testing.T) {
	b := sample(1)
	for i := range 16 {
		for x := range 256 {
			want := with(b, i, b[i]^byte(x))
			if got := cipher.Add(b, with(zeros, i, byte(x))); got != want {
				t.Errorf("Add(%x, %#x at the byte %d) = %x, want %x", b, x, i, got, want)
			}
			if got := cipher.Add(with(zeros, i, byte(x)), b); got != want {
				t.Errorf("Add(%#x at the byte %d, %x) = %x, want %x", x, i, b, got, want)
			}
		}
	}
}

func TestAddOfManyBlocks(t *testing.T) {
	round := sample(2000)
	for _, b := range someBlocks() {
		if got := cipher.Add(b, round); got != added(b, round) {
			t.Errorf("Add(%x, %x) = %x, want %x", b, round, got, added(b, round))
		}
		if got := cipher.Add(b, zeros); got != b {
			t.Errorf("Add(%x, %x) = %x", b, zeros, got)
		}
		if got := cipher.Add(b, b); got != zeros {
			t.Errorf("Add(%x, %x) = %x", b, b, got)
		}
	}
}

func TestAddTwice(t *testing.T) {
	for _, b := range someBlocks() {
		for seed := range uint32(5) {
			round := sample(seed + 2000)
			if got := cipher.Add(cipher.Add(b, round), round); got != b {
				t.Errorf("Add(Add(%x, %x), %[2]x) = %x", b, round, got)
			}
		}
	}
}

// P6.2

func TestEncryptAndDecryptOfExamples(t *testing.T) {
	for _, x := range examples(t) {
		checkCipher(t, x)
	}
}

func TestEncryptAndDecryptOfCourses(t *testing.T) {
	for _, x := range courses(t) {
		checkCipher(t, example{x.key, x.block, x.end})
	}
}

func TestEncryptOfZeroBytes(t *testing.T) {
	if got := cipher.Encrypt(zeros, zeros); got[0] != 0x66 || got[1] != 0xe9 || got[2] != 0x4b {
		t.Errorf("Encrypt of zero bytes = %x", got)
	}
}

// Each result is the next block, and each block the next key. What the chains end
// with was computed with another program, the AES of Go's library.
func TestChains(t *testing.T) {
	for i, x := range []struct {
		next func(key, block [16]byte) [16]byte
		want string
	}{
		{cipher.Encrypt, "7a477e0741fdb22a47fca8bcf77ff4aa fdf42d6fc7a3aaee56d44e2053f50dbc"},
		{cipher.Decrypt, "db41bfb5b703135303199bc870ed3976 45d2dd9dd8eb4ce2f7d758a8bd5bb4ac"},
	} {
		key, block := zeros, zeros
		for range 1000 {
			key, block = block, x.next(key, block)
		}
		if want := blocks(t, x.want); key != want[0] || block != want[1] {
			t.Errorf("the chain %d ends with %x %x, want %x", i, key, block, want)
		}
	}
}

func TestEncryptStepByStep(t *testing.T) {
	for _, x := range courses(t) {
		l := keys.Expand(x.key)
		b := cipher.Add(x.block, l[0])
		for r := 1; r <= 10; r++ {
			if b != x.rounds[r-1][0] {
				t.Errorf("the round %d starts with %x, want %x", r, b, x.rounds[r-1][0])
			}
			b = cipher.Shift(cipher.Sub(b))
			if r < 10 {
				b = cipher.Mix(b)
			}
			b = cipher.Add(b, l[r])
		}
		if got := cipher.Encrypt(x.key, x.block); b != x.end || got != b {
			t.Errorf("the steps end with %x, Encrypt(%x, %x) = %x, want %x", b, x.key, x.block, got, x.end)
		}
	}
}

func TestDecryptStepByStep(t *testing.T) {
	for _, x := range courses(t) {
		l := keys.Expand(x.key)
		b := x.end
		for r := 10; r > 0; r-- {
			b = cipher.Add(b, l[r])
			if r < 10 {
				b = cipher.Unmix(b)
			}
			b = cipher.Unsub(cipher.Unshift(b))
			if b != x.rounds[r-1][0] {
				t.Errorf("the round %d started with %x, want %x", r, b, x.rounds[r-1][0])
			}
		}
		b = cipher.Add(b, l[0])
		if got := cipher.Decrypt(x.key, x.end); b != x.block || got != b {
			t.Errorf("the steps end with %x, Decrypt(%x, %x) = %x, want %x", b, x.key, x.end, got, x.block)
		}
	}
}

func TestManyBlocksUnderAKey(t *testing.T) {
	key := sample(3000)
	for _, b := range someBlocks() {
		checkCipher(t, example{key, b, encrypted(key, b)})
	}
}

func TestManyKeys(t *testing.T) {
	for _, key := range someKeys() {
		for _, b := range [][16]byte{zeros, full(0xff), key, count(1), sample(4000)} {
			checkCipher(t, example{key, b, encrypted(key, b)})
		}
	}
}

// P6.3

func TestEncryptAndDecryptInvertEachOther(t *testing.T) {
	for i, key := range someKeys() {
		l := [][16]byte{zeros, full(0xff), key, count(byte(i)), sample(uint32(i) + 5000), with(zeros, i%16, byte(i))}
		for _, b := range l {
			if got := cipher.Decrypt(key, cipher.Encrypt(key, b)); got != b {
				t.Errorf("under the key %x, Decrypt(Encrypt(%x)) = %x", key, b, got)
			}
			if got := cipher.Encrypt(key, cipher.Decrypt(key, b)); got != b {
				t.Errorf("under the key %x, Encrypt(Decrypt(%x)) = %x", key, b, got)
			}
		}
	}
}

func TestDifferentBlocksAreEncryptedDifferently(t *testing.T) {
	for _, key := range [][16]byte{zeros, sample(6000)} {
		there, back := map[[16]byte][16]byte{}, map[[16]byte][16]byte{}
		for _, b := range someBlocks() {
			end, start := cipher.Encrypt(key, b), cipher.Decrypt(key, b)
			if other, ok := there[end]; ok {
				t.Errorf("under the key %x, %x and %x are encrypted as %x", key, b, other, end)
			}
			if other, ok := back[start]; ok {
				t.Errorf("under the key %x, %x and %x are decrypted to %x", key, b, other, start)
			}
			there[end], back[start] = b, b
		}
	}
}

func TestBlocksThatDifferInOneBitAreEncryptedDifferently(t *testing.T) {
	for seed := range uint32(10) {
		key, b := sample(seed+7000), sample(seed+8000)
		end := cipher.Encrypt(key, b)
		for bit := range 128 {
			other := with(b, bit/8, b[bit/8]^1<<(bit%8))
			if got := cipher.Encrypt(key, other); got == end {
				t.Errorf("under the key %x, %x and %x are encrypted as %x", key, b, other, end)
			}
		}
	}
}

// The Rules

func TestResultsThatTheCallerChanges(t *testing.T) {
	key, block := sample(1), sample(2)
	for _, call := range []func() [16]byte{
		func() [16]byte { return cipher.Sub(block) },
		func() [16]byte { return cipher.Unsub(block) },
		func() [16]byte { return cipher.Shift(block) },
		func() [16]byte { return cipher.Unshift(block) },
		func() [16]byte { return cipher.Mix(block) },
		func() [16]byte { return cipher.Unmix(block) },
		func() [16]byte { return cipher.Add(block, key) },
		func() [16]byte { return cipher.Encrypt(key, block) },
		func() [16]byte { return cipher.Decrypt(key, block) },
	} {
		got := call()
		want := got
		for i := range got {
			got[i] ^= 0xff
		}
		if again := call(); again != want {
			t.Errorf("after a change of the result, it is %x, want %x", again, want)
		}
		check(t, key, block)
	}
	if key != sample(1) || block != sample(2) {
		t.Errorf("the arguments have become %x and %x", key, block)
	}
}

func TestFunctionsAreCalledConcurrently(t *testing.T) {
	var done sync.WaitGroup
	for k := range uint32(16) {
		done.Go(func() {
			for seed := range uint32(20) {
				check(t, sample(20*k+seed), sample(20*k+seed+9000))
			}
		})
	}
	done.Wait()
}
