package code

import (
	"hash/crc32"
	"math"
	"math/rand"
	"slices"
	"testing"
)

func TestSum(t *testing.T) {
	r := rand.New(rand.NewSource(1))
	for n := range 300 {
		b := make([]byte, n)
		r.Read(b)
		if got, want := Sum(b), crc32.ChecksumIEEE(b); got != want {
			t.Fatalf("Sum(%x): %08x, want %08x", b, got, want)
		}
	}
}

func TestSeal(t *testing.T) {
	for _, s := range []string{"", "a", "\x00\x00\x00\x00", "some bytes"} {
		b := Seal([]byte(s))
		if len(b) != Sealed(len(s)) {
			t.Errorf("%q is %d bytes sealed, want %d", s, len(b), Sealed(len(s)))
		}
		if got, ok := Unseal(b); !ok || string(got) != s {
			t.Errorf("Unseal: %q, %v, want %q", got, ok, s)
		}
		for i := range 8 * len(b) {
			c := slices.Clone(b)
			c[i/8] ^= 1 << (i % 8)
			if _, ok := Unseal(c); ok {
				t.Errorf("%q: bit %d turned, and nothing noticed", s, i)
			}
		}
	}
	for n := range sumSize {
		if _, ok := Unseal(make([]byte, n)); ok {
			t.Errorf("%d bytes have a sum", n)
		}
	}
}

func TestNumbers(t *testing.T) {
	var b []byte
	b = PutByte(b, 0)
	b = PutByte(b, math.MaxUint8)
	b = PutWord(b, 0x01020304)
	b = PutWord(b, math.MaxUint32)
	b = PutLong(b, 0x0102030405060708)
	b = PutLong(b, math.MaxUint64)
	b = PutText(b, "")
	b = PutText(b, "a\x00\xff")
	if want := "\x00\xff\x04\x03\x02\x01\xff\xff\xff\xff\x08\x07\x06\x05\x04\x03\x02\x01"; string(b[:len(want)]) != want {
		t.Errorf("written: %x, want %x first", b, want)
	}
	r := NewReader(b)
	if r.Byte() != 0 || r.Byte() != math.MaxUint8 || r.Word() != 0x01020304 || r.Word() != math.MaxUint32 {
		t.Error("bytes and words are not read as written")
	}
	if r.Long() != 0x0102030405060708 || r.Long() != math.MaxUint64 || r.Text() != "" || r.Text() != "a\x00\xff" {
		t.Error("longs and texts are not read as written")
	}
	if r.Short() || !r.Done() {
		t.Error("all was read, and the reader is not done")
	}
}

func TestShort(t *testing.T) {
	r := NewReader([]byte{5, 'a', 'b'})
	if s := r.Text(); s != "" || !r.Short() || r.Done() {
		t.Errorf("a text that ends too early: %q, short %v, done %v", s, r.Short(), r.Done())
	}
	if n := r.Byte(); n != 0 || !r.Short() {
		t.Errorf("behind that: %d, short %v", n, r.Short())
	}
	r = NewReader([]byte{1, 2, 3})
	if n := r.Word(); n != 0 || !r.Short() {
		t.Errorf("a word of three bytes: %d", n)
	}
	r = NewReader(nil)
	if !r.Done() || r.Long() != 0 || r.Done() {
		t.Error("no bytes are read, and then some are asked for")
	}
	r = NewReader([]byte{1, 2})
	if r.Byte() != 1 || r.Done() {
		t.Error("one byte is left, and the reader is done")
	}
}
