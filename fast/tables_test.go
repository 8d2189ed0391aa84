package fast

import (
	"testing"

	"mooring/cipher"
)

// These tests are in the package itself, because they set the tables against the
// functions that the Ciphers use instead of them.

func TestTablesHaveWhatTheFunctionsReturn(t *testing.T) {
	l := roots()
	for range 2 {
		there, back := Tables()
		for i := range 256 {
			b := byte(i)
			if got := mixed(b); there[i] != got {
				t.Errorf("the table there has %#08x for %#x, mixed(%#x) = %#08x", there[i], b, b, got)
			}
			if got := unmixed(l[i]); back[i] != got {
				t.Errorf("the table back has %#08x for %#x, unmixed(%#x) = %#08x", back[i], b, l[i], got)
			}
		}
	}
}

func TestFunctionsReturnWhatTheStepsMake(t *testing.T) {
	for i := range 256 {
		b := byte(i)
		s := cipher.Sub([16]byte{b})[0]
		if got, want := mixed(b), split(cipher.Mix([16]byte{s}))[0]; got != want {
			t.Errorf("mixed(%#x) = %#08x, want %#08x", b, got, want)
		}
		if got, want := unmixed(b), split(cipher.Unmix([16]byte{b}))[0]; got != want {
			t.Errorf("unmixed(%#x) = %#08x, want %#08x", b, got, want)
		}
		if got := roots()[s]; got != b {
			t.Errorf("roots()[%#x] = %#x, want %#x", s, got, b)
		}
	}
}

// The Ciphers would return something else here if they read the tables.
func TestCiphersNeedNoTables(t *testing.T) {
	there, back := Tables()
	defer func() { mixes, unmixes = there, back }()
	for _, other := range []uint32{0, 0xffffffff} {
		for i := range 256 {
			mixes[i], unmixes[i] = other, other
		}
		for name, c := range map[string]*Cipher{"made": New([16]byte{1, 2, 3}), "zero": {}, "nil": nil} {
			key := c.Key()
			for i := range 256 {
				block := [16]byte{byte(i), 1, 15: byte(i)}
				end, start := cipher.Encrypt(key, block), cipher.Decrypt(key, block)
				if got := c.Encrypt(block); got != end {
					t.Errorf("for the %s Cipher, Encrypt(%x) = %x, want %x", name, block, got, end)
				}
				if got := c.Decrypt(block); got != start {
					t.Errorf("for the %s Cipher, Decrypt(%x) = %x, want %x", name, block, got, start)
				}
				if got := c.All(block, end); len(got) != 2 || got[0] != end || got[1] != cipher.Encrypt(key, end) {
					t.Errorf("for the %s Cipher, All of %x and %x = %x", name, block, end, got)
				}
			}
		}
	}
}
