package avro

import (
	"bytes"
	"compress/flate"
	"errors"
	"io"
	"math"
	"math/rand"
	"slices"
	"strconv"
	"strings"
	"testing"
)

// bitsIn tells bytes by their bits, in the order in which these are read; blanks between them.
func bitsIn(text string) string {
	var l []byte
	for i, c := range strings.ReplaceAll(text, " ", "") {
		if i%8 == 0 {
			l = append(l, 0)
		}
		l[i/8] |= byte(c-'0') << (i % 8)
	}
	return string(l)
}

// high tells a number's bits, the highest first; low the lowest first.
func high(n, width int) string {
	if width == 0 {
		return ""
	}
	return high(n/2, width-1) + strconv.Itoa(n%2)
}

func low(n, width int) string {
	l := []byte(high(n, width))
	slices.Reverse(l)
	return string(l)
}

// fixed tells the fixed code's words for values.
func fixed(values ...int) string {
	s := ""
	for _, value := range values {
		switch {
		case value < 144:
			s += high(48+value, 8)
		case value < 256:
			s += high(400+value-144, 9)
		case value < 280:
			s += high(value-256, 7)
		default:
			s += high(192+value-280, 8)
		}
	}
	return s
}

// run tells the fixed codes' words for a run of so many bytes, from so far ahead.
func run(length, distance int) string {
	s := fixed(285)
	if length < 258 {
		place, more := placed(length-3, 4)
		s = fixed(257+place) + more
	}
	place, more := placed(distance-1, 2)
	return s + high(place, 5) + more
}

// placed tells the place of a number, and the bits behind it, where so many places each have one bit more than the ones ahead, but for the first two such lots, which have none.
func placed(n, each int) (int, string) {
	for place := 0; ; place++ {
		bits := max(0, place/each-1)
		if n < 1<<bits {
			return place, low(n, bits)
		}
		n -= 1 << bits
	}
}

// heading tells a last block's bits ahead of its lengths: how many there are, and how long the words are that tell them.
func heading(values, distances int, words map[int]int) string {
	s := "101" + low(values-257, 5) + low(distances-1, 5) + low(15, 4)
	for _, value := range []int{16, 17, 18, 0, 8, 7, 9, 6, 10, 5, 11, 4, 12, 3, 13, 2, 14, 1, 15} {
		s += low(words[value], 3)
	}
	return s
}

// sixteen are words that tell the lengths 0 to 15 by their numbers.
func sixteen() map[int]int {
	l := map[int]int{}
	for i := range 16 {
		l[i] = 4
	}
	return l
}

// block tells a last block with codes of these lengths, and what is behind them.
func block(values, distances []int, rest string) string {
	s := heading(len(values), len(distances), sixteen())
	for _, length := range slices.Concat(values, distances) {
		s += high(length, 4)
	}
	return bitsIn(s + rest)
}

// lengths are n, 0 but for some.
func lengths(n int, some map[int]int) []int {
	l := make([]int, n)
	for i, length := range some {
		l[i] = length
	}
	return l
}

// refused looks that a text is ErrFlate, however much may come out.
func refused(t *testing.T, what, text string) {
	t.Helper()
	if got, err := Inflate(text, math.MaxInt); got != "" || reasonOf(t, err) != ErrFlate {
		t.Errorf("%s: got %.40q, %v", what, got, err)
	}
}

// says looks at what a text says, with as many bytes as that is and with fewer; at its parts, and at more than it.
func says(t *testing.T, what, text, want string) {
	t.Helper()
	for _, most := range []int{len(want), len(want) + 1, math.MaxInt} {
		if got, err := Inflate(text, most); got != want || reasonOf(t, err) != nil {
			t.Errorf("%s, %d at most: got %.40q, %v, want %.40q", what, most, got, err, want)
		}
	}
	for _, most := range []int{len(want) - 1, len(want) / 2, 0, -1, math.MinInt} {
		if got, err := Inflate(text, most); want != "" && (got != "" || reasonOf(t, err) != ErrCap) {
			t.Errorf("%s, %d at most: got %.40q, %v", what, most, got, err)
		}
	}
	for _, more := range []string{"\x00", "\x03\x00", "\xff"} {
		refused(t, what+", more behind it", text+more)
	}
	for i := range min(len(text), 500) {
		refused(t, what+", not whole", text[:i])
		refused(t, what+", not whole", text[:len(text)-1-i])
	}
}

// P13: the document's examples, and other texts of a few bytes.
func TestInflate(t *testing.T) {
	for text, want := range map[string]string{
		"4b0400": "a", "0300": "", "4b040200": "aaaa", "000100feff61010100feff62": "ab", "000100feff610300": "a",
	} {
		says(t, text, raw(t, text), want)
	}
	if got, err := Inflate("\x03\x00", -1); got != "" || err != nil {
		t.Errorf("nothing, where not even that may come: %q, %v", got, err)
	}
	for _, text := range []string{"", "03", "07", "06", "1b0300", "ff", "00", "01"} {
		refused(t, text, raw(t, text))
	}
	says(t, "one block behind another", bitsIn("010"+fixed('a', 256)+"010"+fixed(256)+"010"+run(3, 1)+fixed(256)+"110"+fixed('b', 256)), "aaaab")
}

// P13: stored blocks, from whole bytes on, whatever the bits ahead of these are.
func TestInflateStored(t *testing.T) {
	says(t, "none", raw(t, "010000ffff"), "")
	says(t, "none, other bits ahead", raw(t, "f90000ffff"), "")
	says(t, "one", raw(t, "010100feff61"), "a")
	says(t, "behind words", bitsIn("010"+fixed('a', 256)+"100 111"+low(2, 16)+low(0xfffd, 16)+low('b', 8)+low('c', 8)), "abc")
	says(t, "ahead of words", raw(t, "000100feff61")+bitsIn("110"+run(4, 1)+fixed(256)), "aaaaa")
	for n := range 8 {
		behind := bitsIn("010" + fixed(slices.Repeat([]int{255}, n)...) + fixed(256) + "100")
		says(t, "behind any number of bits", behind+raw(t, "0100feff")+"a", strings.Repeat("\xff", n)+"a")
	}
	most := strings.Repeat("some bytes!", 6000)[:65535]
	says(t, "as many as can be", "\x01\xff\xff\x00\x00"+most, most)
	for bit := range 16 {
		refused(t, "another complement", "\x01"+bitsIn(low(1, 16)+low(0xfffe^1<<bit, 16))+"a")
	}
	refused(t, "the length again", raw(t, "0101000100")+"a")
	refused(t, "fewer bytes", raw(t, "010300fcff")+"ab")
}

// P13: each byte, length and distance by the fixed codes.
func TestInflateFixed(t *testing.T) {
	text, want := "110", []byte{}
	for value := range 256 {
		text += fixed(value)
		want = append(want, byte(value))
	}
	says(t, "each byte", bitsIn(text+fixed(256)), string(want))
	r := rand.New(rand.NewSource(13))
	ahead := make([]byte, 32768)
	r.Read(ahead)
	var runs strings.Builder
	want = slices.Clone(ahead)
	add := func(length, distance int) {
		runs.WriteString(run(length, distance))
		for range length {
			want = append(want, want[len(want)-distance])
		}
	}
	for length := 3; length <= 258; length++ {
		add(length, 1)
		add(length, length)
		add(length, 1+r.Intn(32768))
	}
	for distance := 1; distance <= 32768; distance += 1 + distance/50 {
		add(3, distance)
	}
	for _, place := range []int{1, 4, 256, 24576, 24577, 32767, 32768} {
		add(4, place)
	}
	stored := "\x00\x00\x80\xff\x7f" + string(ahead)
	says(t, "each length and distance", stored+bitsIn("110"+runs.String()+fixed(256)), string(want))
}

// P13: lengths and distances that the fixed codes have words for, though there are none; distances beyond what came out.
func TestInflateWordsOfNothing(t *testing.T) {
	for _, value := range []int{286, 287} {
		refused(t, "length "+strconv.Itoa(value), bitsIn("110"+fixed('a', value)+"00000"+fixed(256)))
	}
	for _, value := range []int{30, 31} {
		refused(t, "distance "+strconv.Itoa(value), bitsIn("110"+fixed('a', 257)+high(value, 5)+low(0, 14)+fixed(256)))
	}
	refused(t, "nothing ahead", bitsIn("110"+run(3, 1)+fixed(256)))
	refused(t, "one ahead", bitsIn("110"+fixed('a')+run(3, 2)+fixed(256)))
	says(t, "two ahead", bitsIn("110"+fixed('a', 'b')+run(3, 2)+fixed(256)), "ababa")
	refused(t, "kind 3", bitsIn("111"+fixed('a', 256)))
	refused(t, "kind 3, not the last", bitsIn("011"+fixed('a', 256)))
}

// P13: codes that a block tells.
func TestInflateTold(t *testing.T) {
	two := map[int]int{'a': 1, 256: 1}
	says(t, "two values, no distance", block(lengths(257, two), []int{0}, "001"), "aa")
	says(t, "only the end", block(lengths(257, map[int]int{256: 1}), []int{0}, "0"), "")
	says(t, "a lone distance", block(lengths(258, map[int]int{'a': 1, 256: 2, 257: 2}), []int{1}, "0 11 0 10"), "aaaa")
	says(t, "as many as can be", block(lengths(286, map[int]int{'a': 1, 256: 2, 285: 2}), lengths(30, map[int]int{0: 1, 29: 1}), "0 11 0 0 10"), strings.Repeat("a", 260))
	deep := map[int]int{256: 15, 'p': 15}
	for i := range 14 {
		deep['a'+i] = 1 + i
	}
	says(t, "words of 15 bits", block(lengths(257, deep), []int{0}, "0 10 11111111111110 111111111111110 111111111111111"), "abnp")
	says(t, "values in their order, though told in another", block(lengths(257, map[int]int{'b': 2, 'a': 2, 'c': 2, 256: 2}), []int{0}, "00 01 10 11"), "abc")
	for place := range 3 {
		refused(t, "a lone distance, its other word", block(lengths(258, map[int]int{'a': 1, 256: 2, 257: 2}), lengths(3, map[int]int{place: 1}), "0 11 1 000000000000000000 10"))
	}
	refused(t, "a distance where there is none", block(lengths(258, map[int]int{'a': 1, 256: 2, 257: 2}), []int{0}, "0 11 0 000000000000000000 10"))
	refused(t, "a lone end's other word", block(lengths(257, map[int]int{256: 1}), []int{0}, "1 0000000000000000 0"))
}

// P13: codes that are none.
func TestInflateNoCode(t *testing.T) {
	end := strings.Repeat("0", 40)
	for what, some := range map[string]map[int]int{
		"no end":                  {'a': 1, 'b': 1},
		"no word":                 {},
		"a lone word, not an end": {'a': 1},
		"a lone end of two bits":  {256: 2},
		"a lone end of 15 bits":   {256: 15},
		"three words of one bit":  {'a': 1, 'b': 1, 256: 1},
		"one too many":            {'a': 1, 'b': 2, 'c': 2, 256: 15},
		"one too few":             {'a': 1, 'b': 2, 256: 3},
		"room for one of 15 bits": {0: 1, 1: 2, 2: 3, 3: 4, 4: 5, 5: 6, 6: 7, 7: 8, 8: 9, 9: 10, 10: 11, 11: 12, 12: 13, 13: 14, 256: 15},
	} {
		refused(t, "values: "+what, block(lengths(257, some), []int{0}, end))
	}
	for what, list := range map[string][]int{
		"two bits":               {2},
		"15 bits":                {15},
		"three words of one bit": {1, 1, 1},
		"one too many":           {1, 2, 2, 15},
		"one too few":            {1, 2, 3},
		"two of two bits":        {2, 2},
		"as many as can be":      slices.Repeat([]int{5}, 30),
	} {
		refused(t, "distances: "+what, block(lengths(257, map[int]int{'a': 1, 256: 1}), list, "01"+end))
	}
	for what, words := range map[string]map[int]int{
		"none":                    {},
		"a lone one":              {8: 1},
		"a lone one of two bits":  {0: 2},
		"three words of one bit":  {0: 1, 1: 1, 18: 1},
		"one too few":             {0: 1, 1: 2, 18: 3},
		"one too many":            {0: 1, 1: 2, 18: 2, 17: 7},
		"room for one of 7 bits":  {0: 1, 1: 2, 2: 3, 3: 4, 4: 5, 5: 6, 6: 7},
		"sixteen, and one beside": {0: 4, 1: 4, 2: 4, 3: 4, 4: 4, 5: 4, 6: 4, 7: 4, 8: 4, 9: 4, 10: 4, 11: 4, 12: 4, 13: 4, 14: 4, 15: 4, 16: 7},
	} {
		refused(t, "lengths: "+what, bitsIn(heading(257, 1, words)+strings.Repeat("0", 2000)))
	}
}

// P13: how many lengths there may be.
func TestInflateManyLengths(t *testing.T) {
	for _, many := range []int{287, 288} {
		refused(t, "values", block(lengths(many, map[int]int{'a': 1, 256: 1}), []int{0}, "001"))
	}
	for _, many := range []int{31, 32} {
		refused(t, "distances", block(lengths(257, map[int]int{'a': 1, 256: 1}), lengths(many, nil), "001"))
	}
	says(t, "values and distances", block(lengths(286, map[int]int{'a': 1, 256: 1}), lengths(30, nil), "001"), "aa")
}

// P13: runs of lengths. The words for them: 1 is 00, 3 is 01, 16 is 10, 17 is 110, 18 is 111.
func TestInflateRuns(t *testing.T) {
	words := map[int]int{1: 2, 3: 2, 16: 2, 17: 3, 18: 3}
	const one, three = "00", "01"
	same := func(n int) string { return "10" + low(n-3, 2) }
	few := func(n int) string { return "110" + low(n-3, 3) }
	most := func(n int) string { return "111" + low(n-11, 7) }
	twoValues := most(97) + one + most(138) + most(20) + one
	eightValues := most(97) + three + same(6) + most(138) + most(14) + three
	for _, c := range []struct {
		what              string
		values, distances int
		runs, rest, want  string
	}{
		{"long ones", 257, 3, twoValues + few(3), "001", "aa"},
		{"short ones", 257, 3, strings.Repeat(few(3), 25) + most(11) + most(11) + one + strings.Repeat(few(10), 14) + few(4) + most(14) + one + few(3), "001", "aa"},
		{"noughts on into the distances", 267, 29, twoValues + most(39), "001", "aa"},
		{"few noughts on into the distances", 262, 5, twoValues + few(10), "001", "aa"},
		{"the same noughts", 257, 3, most(11) + same(3) + same(6) + most(77) + one + most(138) + most(20) + one + few(3), "001", "aa"},
		{"the same on into the distances", 257, 8, eightValues + same(4) + same(4), "000 001 010 011 100 101 110 111", "abcdefg"},
		{"the same by short ones", 257, 8, most(97) + three + same(3) + same(3) + most(138) + most(14) + three + same(3) + same(5), "000 110 111", "ag"},
	} {
		says(t, c.what, bitsIn(heading(c.values, c.distances, words)+c.runs+c.rest), c.want)
	}
	for _, c := range []struct {
		what              string
		values, distances int
		runs, rest        string
	}{
		{"the same as none", 257, 3, same(3) + most(94) + one + most(138) + most(20) + one + few(3), "001"},
		{"one too many of the same", 257, 8, eightValues + same(6) + same(3), "000 111"},
		{"some too many of the same", 257, 4, twoValues + few(3) + same(6), "001"},
		{"one nought too many", 257, 3, twoValues + few(4), "001"},
		{"some noughts too many", 257, 1, twoValues + few(10), "001"},
		{"one of many noughts too many", 257, 29, twoValues + most(30), "001"},
		{"a great many noughts too many", 257, 1, twoValues + most(138), "001"},
	} {
		refused(t, c.what, bitsIn(heading(c.values, c.distances, words)+c.runs+c.rest))
	}
}

// P13: what comes first counts: a byte more than may come out, or what is wrong.
func TestInflateWhatIsFirst(t *testing.T) {
	for _, c := range []struct {
		what, text string
		out        int // how many bytes come out ahead of what is wrong
	}{
		{"a stored block that ends early", raw(t, "010a00f5ff") + "abc", 3},
		{"a word of nothing", bitsIn("110" + fixed('a', 'b', 286)), 2},
		{"a distance of nothing", bitsIn("110" + fixed('a', 'b', 257) + "11110 00000"), 2},
		{"a distance too far", bitsIn("110" + fixed('a', 'b') + run(258, 3) + fixed(256)), 2},
		{"words that end early", bitsIn("110" + fixed('a') + run(258, 1)), 259},
		{"a second block of kind 3", bitsIn("010" + fixed('a', 256) + "111"), 1},
		{"a second block that is not there", raw(t, "000100feff61"), 1},
		{"a second block with another complement", raw(t, "000100feff61010100ffff62"), 1},
		{"bytes behind it", raw(t, "4b040000"), 1},
		{"a block without an end", block(lengths(257, map[int]int{'a': 1, 'b': 1}), []int{0}, "0101"), 0},
		{"a block with distances of no code", block(lengths(257, map[int]int{'a': 1, 256: 1}), []int{1, 1, 1}, "001"), 0},
	} {
		for _, most := range []int{math.MinInt, -1, 0, 1, 2, 3, c.out - 1, c.out, c.out + 1, math.MaxInt} {
			want := ErrFlate
			if max(0, most) < c.out {
				want = ErrCap
			}
			if got, err := Inflate(c.text, most); got != "" || reasonOf(t, err) != want {
				t.Errorf("%s, %d at most: got %q, %v, want %v", c.what, most, got, err, want)
			}
		}
	}
}

// packed is what the library makes of a text.
func packed(t *testing.T, text string, level int) string {
	t.Helper()
	var b bytes.Buffer
	w, err := flate.NewWriter(&b, level)
	if err != nil {
		t.Fatal(err)
	}
	w.Write([]byte(text))
	w.Close()
	return b.String()
}

// library tells what the library makes of a packed text: what comes out, whether all is well, and whether the text ends too early. (For the library it may end some words sooner, as that reads as many bits at once as the block's end has; and it lets bytes out of a block that has no word for its end. No text of the seed below is such a one.)
func library(text string) (out string, isWell, isShort bool) {
	from := strings.NewReader(text)
	l, err := io.ReadAll(flate.NewReader(from))
	return string(l), err == nil && from.Len() == 0, errors.Is(err, io.ErrUnexpectedEOF)
}

// P13: what the library packed, whole and bent, at any cap: as the library has it. P1: it ends, and does not panic.
func TestInflateAsTheLibrary(t *testing.T) {
	r := rand.New(rand.NewSource(14))
	var pool []string
	for i := range 500 {
		pool = append(pool, packed(t, words(r), []int{0, 1, 6, 9, flate.HuffmanOnly}[i%5]))
	}
	counts := map[error]int{}
	for range 20000 {
		text := []byte(pool[r.Intn(len(pool))])
		for range r.Intn(3) {
			text[r.Intn(len(text))] ^= 1 << r.Intn(8)
		}
		if r.Intn(8) == 0 {
			text = text[:r.Intn(len(text))]
		}
		out, isWell, isShort := library(string(text))
		most := []int{len(out), len(out) - 1, r.Intn(len(out) + 2), math.MaxInt}[r.Intn(4)]
		if isShort && len(out) <= max(0, most) {
			most = math.MaxInt
		}
		var want error
		switch {
		case len(out) > max(0, most):
			want, out = ErrCap, ""
		case !isWell:
			want, out = ErrFlate, ""
		}
		got, err := Inflate(string(text), most)
		if got != out || reasonOf(t, err) != want {
			t.Fatalf("%x, %d at most: got %q, %v, want %q, %v", text, most, got, err, out, want)
		}
		counts[want]++
	}
	if counts[nil] < 2000 || counts[ErrCap] < 2000 || counts[ErrFlate] < 2000 {
		t.Errorf("too few to tell: %v", counts)
	}
}

// words is a text that says some things again.
func words(r *rand.Rand) string {
	var l []byte
	for range r.Intn(60) {
		if n := len(l); n > 0 && r.Intn(2) == 0 {
			from := r.Intn(n)
			l = append(l, l[from:from+r.Intn(n-from+1)]...)
			continue
		}
		l = append(l, byte(r.Intn(256)>>r.Intn(8)))
	}
	return string(l)
}
