package avro

import (
	"hash/crc32"
	"math/rand"
	"strings"
	"testing"
)

// turned is CRC-32 as the document tells it, bit by bit.
func turned(text string) uint32 {
	sum := uint32(1<<32 - 1)
	for i := range len(text) {
		for bit := range 8 {
			out := sum & 1
			sum >>= 1
			if out != uint32(text[i])>>bit&1 {
				sum ^= 0xedb88320
			}
		}
	}
	return ^sum
}

// P12: known sums, the edges among them: no byte, and bytes with bit 7.
func TestSum(t *testing.T) {
	for text, want := range map[string]uint32{
		"":                           0,
		"\x00":                       0xd202ef8d,
		"\xff":                       0xff000000,
		"\x80":                       0x3fba6cad,
		"a":                          0xe8b7be43,
		"123456789":                  0xcbf43926,
		"\x00\x00\x00\x00":           0x2144df1c,
		"\xff\xff\xff\xff":           0xffffffff,
		strings.Repeat("\x00", 32):   0x190a55ad,
		strings.Repeat("\xff", 32):   0xff6cab0b,
		strings.Repeat("a", 1000000): 0xdc25bfbc,
	} {
		if got := Sum(text); got != want {
			t.Errorf("%.20q: got %08x, want %08x", text, got, want)
		}
	}
}

// P12: of any bytes as the document tells it, and as the library has it.
func TestSumOfAnyBytes(t *testing.T) {
	r := rand.New(rand.NewSource(12))
	for n := range 600 {
		l := make([]byte, n)
		r.Read(l)
		if got, want := Sum(string(l)), crc32.ChecksumIEEE(l); got != want || got != turned(string(l)) {
			t.Fatalf("%x: got %08x, want %08x", l, got, want)
		}
	}
}
