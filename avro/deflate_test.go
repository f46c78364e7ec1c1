package avro

import (
	"math/rand"
	"strings"
	"testing"
)

// random is n bytes from the first one on, of so many kinds.
func random(r *rand.Rand, n, first, kinds int) string {
	l := make([]byte, n)
	for i := range l {
		l[i] = byte(first + r.Intn(kinds))
	}
	return string(l)
}

// deflated tells what a text is deflated, and looks that it is the text again, and no longer than it may be.
func deflated(t *testing.T, what, text string) string {
	t.Helper()
	p := Deflate(text)
	if got, err := Inflate(p, len(text)); got != text || err != nil {
		t.Fatalf("%s: Inflate: %d bytes of %d, %v", what, len(got), len(text), err)
	}
	if got, isWell, _ := library(p); got != text || !isWell {
		t.Fatalf("%s: the library: %d bytes of %d, %v", what, len(got), len(text), isWell)
	}
	begun := max(1, (len(text)+65534)/65535)
	if len(p) > len(text)+5*begun {
		t.Errorf("%s: %d bytes are %d", what, len(text), len(p))
	}
	if Deflate(text) != p {
		t.Errorf("%s: not the same again", what)
	}
	return p
}

// P14: the text again, and at most 5 bytes more for each 65,535 begun, whatever it says.
func TestDeflate(t *testing.T) {
	r := rand.New(rand.NewSource(15))
	deflated(t, "nothing", "")
	for value := range 256 {
		deflated(t, "a byte", string([]byte{byte(value)}))
	}
	for n := range 300 {
		deflated(t, "any bytes", random(r, n, 0, 256))
		deflated(t, "bytes of nine bits", random(r, n, 144, 112))
		deflated(t, "two kinds of bytes", random(r, n, 'a', 2))
		deflated(t, "things again", words(r))
	}
	for _, n := range []int{65534, 65535, 65536, 131069, 131070, 131071, 200000} {
		deflated(t, "many bytes of any kind", random(r, n, 0, 256))
		deflated(t, "many bytes of nine bits", random(r, n, 144, 112))
		deflated(t, "many bytes of two kinds", random(r, n, 'a', 2))
		deflated(t, "many times the same", strings.Repeat("a", n))
	}
}

// P14: bytes of eight bits and of nine, so that words take about as many bits as the bytes stored, and one or the other is the shorter.
func TestDeflateAtTheEdge(t *testing.T) {
	for nines := range 64 {
		var l []byte
		for i := range 140 {
			l = append(l, byte(i))
		}
		for i := range nines {
			l = append(l, byte(144+i))
		}
		p := deflated(t, "some bytes of nine bits", string(l))
		if want := min(len(l)+5, (10+140*8+nines*9+7)/8); len(p) > want {
			t.Errorf("%d bytes of nine bits: %d bytes, %d were enough", nines, len(p), want)
		}
	}
}

// P14: blocks that are stored behind such as are not, and the other way round; what a block says again of another.
func TestDeflateBlocks(t *testing.T) {
	r := rand.New(rand.NewSource(16))
	same, other := strings.Repeat("a", 65535), random(r, 65535, 0, 256)
	for _, parts := range [][]string{{same, other}, {other, same}, {same, other, same, other}, {other, other}, {same, same, "b"}, {other, "b"}, {same[:65534], "b", other}} {
		deflated(t, "blocks", strings.Join(parts, ""))
	}
	for n := range 10 {
		deflated(t, "blocks", strings.Repeat("ab", 32768)[:65535-n]+other+same[:n])
	}
	if p := deflated(t, "of the block ahead", other+other[60000:]); len(p) > 65535+5+200 {
		t.Errorf("what the block ahead says is not found: %d bytes", len(p))
	}
}

// P14: what stands again 32,768 bytes on, and further on than that.
func TestDeflateFarAhead(t *testing.T) {
	r := rand.New(rand.NewSource(17))
	for _, far := range []int{1, 2, 3, 4, 257, 258, 259, 32766, 32767, 32768, 32769, 33000} {
		text := random(r, far, 0, 256)
		deflated(t, "far ahead", text+text)
		deflated(t, "far ahead", text+text+text)
	}
	text := random(r, 32768, 0, 256)
	if p := deflated(t, "as far as can be", text+text); len(p) > 32768*9/8+2000 {
		t.Errorf("what stood 32,768 bytes ahead is not found: %d bytes", len(p))
	}
}

// again looks at a text of n bytes which says a part again and again.
func again(t *testing.T, part string, n int) {
	t.Helper()
	text := strings.Repeat(part, n/len(part)+1)[:n]
	if p := deflated(t, "again and again", text); len(p) > n/64+100 {
		t.Errorf("%d bytes that say %x again and again are %d", n, part, len(p))
	}
}

// P14: texts that say the same 1 to 64 bytes again and again, up to their end or within.
func TestDeflateAgain(t *testing.T) {
	r := rand.New(rand.NewSource(18))
	for n := 1; n <= 64; n++ {
		again(t, strings.Repeat("a", n-1)+"b", 1000*n)
		for _, kinds := range []int{1, 2, 3, 256} {
			again(t, random(r, n, 0, kinds), n)
			again(t, random(r, n, 0, kinds), 2*n+r.Intn(n))
			again(t, random(r, n, 0, kinds), 5000+r.Intn(5000))
		}
		again(t, random(r, n, 144, 112), 1+r.Intn(10*n))
		again(t, random(r, n, 144, 112), 65535+r.Intn(70000))
	}
}

// P14: bytes that say each few of them again and again, but go on otherwise each time: only the 64 ahead go on the same way.
func TestDeflateAgainWithinItself(t *testing.T) {
	for _, part := range []string{
		"0000001000011000101000111001001011001101001111010101110110111111", // each six of two kinds once
		"abc1abc2abc3abc4abc5abc6abc7abc8abc9abc0abcAabcBabcCabcDabcEabcF",
		strings.Repeat("a", 30) + "b" + strings.Repeat("a", 32) + "c",
		strings.Repeat("ab", 15) + "c" + strings.Repeat("ab", 16) + "d",
	} {
		if len(part) != 64 {
			t.Fatal(len(part))
		}
		for _, n := range []int{64, 65, 128, 640, 6400, 64000, 65535, 65536, 70000, 200000} {
			again(t, part, n)
		}
	}
}
