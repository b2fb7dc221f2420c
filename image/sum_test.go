package image

import (
	"bytes"
	"fmt"
	"hash/crc32"
	"testing"
)

func wantSum(t *testing.T, what string, b []byte, want uint32) {
	t.Helper()
	if got := Sum(b); got != want {
		t.Errorf("%q: Sum %#x, want %#x", what, got, want)
	}
}

// P19.3: the chapter's example, and others that are known.
func TestSum(t *testing.T) {
	for text, want := range map[string]uint32{
		"123456789": 0xCBF43926,
		"":          0,
		"a":         0xE8B7BE43,
		"abc":       0x352441C2,
		"\x00":      0xD202EF8D,
		"\xff":      0xFF000000,
		"The quick brown fox jumps over the lazy dog": 0x414FA339,
		"\x00\x00\x00\x00": 0x2144DF1C,
		"\xff\xff\xff\xff": 0xFFFFFFFF,
	} {
		wantSum(t, text, []byte(text), want)
	}
	wantSum(t, "nil", nil, 0)
	wantSum(t, "zeros", make([]byte, 32), 0x190A55AD)
	wantSum(t, "all bits", bytes.Repeat([]byte{255}, 32), 0xFF6CAB0B)
}

// P19.3: each byte by itself, and all of them in a row, held against a long division.
func TestSumOfBytes(t *testing.T) {
	var all []byte
	for n := range 256 {
		all = append(all, byte(n))
		wantSum(t, fmt.Sprint("the byte ", n), []byte{byte(n)}, saidSum([]byte{byte(n)}))
		wantSum(t, fmt.Sprint("the bytes as far as ", n), all, saidSum(all))
		wantSum(t, fmt.Sprint("the byte ", n, " in between"), []byte{7, byte(n), 0}, saidSum([]byte{7, byte(n), 0}))
	}
	wantSum(t, "all bytes", all, 0x29058C73)
}

func thrownBytes(d *dice, most int) []byte {
	b := make([]byte, d.below(most+1))
	for i := range b {
		b[i] = byte(d.below(256))
	}
	return b
}

// P19.3: thrown bytes, held against a long division and against the library's sum.
func TestThrownSums(t *testing.T) {
	d := dice(3)
	for range 3000 {
		b := thrownBytes(&d, 70)
		wantSum(t, plain(b), b, saidSum(b))
		wantSum(t, plain(b), b, crc32.ChecksumIEEE(b))
	}
	for range 30 {
		b := thrownBytes(&d, 100000)
		wantSum(t, fmt.Sprint(len(b), " bytes"), b, crc32.ChecksumIEEE(b))
	}
}

// P19.3: what is known of such a sum: with its own bytes behind them, the lowest first,
// bytes have one and the same sum; and where bits are turned in bytes, the sum's bits are
// turned that are so whatever else the bytes are.
func TestSumsOfSums(t *testing.T) {
	d := dice(5)
	for range 2000 {
		a := thrownBytes(&d, 40)
		wantSum(t, "with the sum behind", summed(a), 0x2144DF1C)
		b, turned, zeros := thrownBytes(&d, 40), []byte{}, make([]byte, len(a))
		b = append(b, zeros...)[:len(a)]
		for i := range a {
			turned = append(turned, a[i]^b[i])
		}
		wantSum(t, plain(turned), turned, Sum(a)^Sum(b)^Sum(zeros))
	}
}

// P1: a sum hangs on the bytes alone, not on what was asked ahead, nor on what lies behind.
func TestSumAgain(t *testing.T) {
	b := spare([]byte("123456789"), 77)
	for range 3 {
		wantSum(t, "again", b, 0xCBF43926)
		wantSum(t, "less", b[:8], 0x9AE0DAAF)
		wantSame(t, "what was handed in", whole(b), append([]byte("123456789"), whole(b)[9:]...))
		wantSame(t, "what lies behind", whole(b)[9], 77)
	}
}
