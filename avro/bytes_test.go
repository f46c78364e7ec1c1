package avro

import (
	"encoding/binary"
	"encoding/hex"
	"fmt"
	"math"
	"math/rand"
	"strings"
	"testing"
)

// raw tells the bytes of a text in hexadecimal, blanks in it.
func raw(t *testing.T, text string) string {
	t.Helper()
	l, err := hex.DecodeString(strings.ReplaceAll(text, " ", ""))
	if err != nil {
		t.Fatalf("%s: %v", text, err)
	}
	return string(l)
}

// toAndFro looks at a datum's bytes, and at the datum of these bytes, with others behind them.
func toAndFro(t *testing.T, schema string, d Datum, want string) {
	t.Helper()
	s := schemaOf(t, schema)
	text, err := s.Encode(d)
	if text != raw(t, want) || reasonOf(t, err) != nil {
		t.Errorf("%s: %.200s: got %x, %v, want %s", schema, shown(d), text, err, want)
	}
	for _, more := range []string{"", "\x00", "\xff\xff"} {
		again, n, err := s.Decode(text + more)
		if shown(again) != shown(d) || n != len(text) || err != nil {
			t.Errorf("%s: %s %x: got %.200s, %d, %v, want %.200s", schema, want, more, shown(again), n, err, shown(d))
		}
	}
	for i := range text {
		if again, n, err := s.Decode(text[:i]); shown(again) != shown(Datum{}) || n != 0 || reasonOf(t, err) != ErrShort {
			t.Errorf("%s: the first %d bytes of %s: got %.200s, %d, %v", schema, i, want, shown(again), n, err)
		}
	}
}

// P8, P9: each kind's bytes.
func TestBytes(t *testing.T) {
	toAndFro(t, "'null'", null(), "")
	toAndFro(t, "'boolean'", number(2, 0), "00")
	toAndFro(t, "'boolean'", number(2, 1), "01")
	for n, want := range map[int64]string{0: "00", -1: "01", 1: "02", -2: "03", 63: "7e", -64: "7f", 64: "8001", -65: "8101", 8191: "fe7f", -8192: "ff7f", 8192: "808001", math.MaxInt32: "feffffff0f", math.MinInt32: "ffffffff0f"} {
		toAndFro(t, "'int'", number(3, n), want)
		toAndFro(t, "'long'", number(4, n), want)
	}
	toAndFro(t, "'long'", number(4, math.MaxInt64), "feffffffffffffffff01")
	toAndFro(t, "'long'", number(4, math.MinInt64), "ffffffffffffffffff01")
	toAndFro(t, "'long'", number(4, math.MaxInt32+1), "8080808010")
	toAndFro(t, "'float'", bits(5, 0x01020384), "84030201")
	toAndFro(t, "'float'", bits(5, 0x7f800001), "0100807f")
	toAndFro(t, "'double'", bits(6, 0x0102030405060788), "8807060504030201")
	toAndFro(t, "'double'", bits(6, 0xfff0000000000001), "010000000000f0ff")
	toAndFro(t, "'bytes'", worded(7, ""), "00")
	toAndFro(t, "'bytes'", worded(7, "\x00\xff"), "0400ff")
	toAndFro(t, "'string'", worded(8, ""), "00")
	toAndFro(t, "'string'", worded(8, "\u00e9"), "04c3a9")
	toAndFro(t, "'string'", worded(8, strings.Repeat("a", 64)), "8001"+strings.Repeat("61", 64))
	toAndFro(t, "{'type':'fixed','name':'F','size':3}", worded(14, "\x01\x02\xff"), "0102ff")
	toAndFro(t, "{'type':'fixed','name':'F','size':0}", worded(14, ""), "")
	toAndFro(t, "{'type':'enum','name':'E','symbols':['a','b','c']}", number(10, 2), "04")
	toAndFro(t, "{'type':'record','name':'R','fields':[]}", of(9), "")
	toAndFro(t, "{'type':'record','name':'R','fields':[{'name':'a','type':'int'},{'name':'b','type':'string'}]}", of(9, number(3, 5), worded(8, "a")), "0a 0261")
	toAndFro(t, "['null','int']", branch(0, null()), "00")
	toAndFro(t, "['null','int']", branch(1, number(3, -6)), "020b")
	toAndFro(t, "{'type':'array','items':'int'}", of(11), "00")
	toAndFro(t, "{'type':'array','items':'int'}", ints(5, -6), "04 0a 0b 00")
	toAndFro(t, "{'type':'array','items':'null'}", nulls(3), "0600")
	toAndFro(t, "{'type':'array','items':'null'}", nulls(1000), "d00f 00")
	toAndFro(t, "{'type':'array','items':{'type':'array','items':'int'}}", of(11, ints(1), of(11)), "04 020200 00 00")
	toAndFro(t, "{'type':'map','values':'int'}", of(12), "00")
	toAndFro(t, "{'type':'map','values':'int'}", mapped([]string{"b", "", "\u00e9"}, number(3, 1), number(3, 2), number(3, 3)), "06 026202 0004 04c3a906 00")
	toAndFro(t, linkedSchema, linked(7), "02 02 00")
	toAndFro(t, "["+linkedSchema+"]", branch(0, linked(63)), "00"+strings.Repeat("02", 30)+"00")
}

// P8: what does not fit has no bytes.
func TestEncodeRefuses(t *testing.T) {
	for schema, d := range map[string]Datum{"'null'": {}, "'int'": number(3, 1<<31), "'string'": worded(8, "\xff"), "['null']": branch(1, null()), "{'type':'array','items':'null'}": nulls(1001), linkedSchema: linked(65), "{'type':'map','values':'null'}": mapped([]string{"a", "a"}, null(), null())} {
		if text, err := schemaOf(t, schema).Encode(d); text != "" || reasonOf(t, err) != ErrDatum {
			t.Errorf("%s: %.200s: got %q, %v", schema, shown(d), text, err)
		}
	}
}

// P8: varints, as the library has them.
func TestVarints(t *testing.T) {
	s := schemaOf(t, "'long'")
	r := rand.New(rand.NewSource(8))
	for range 20000 {
		n := int64(r.Uint64()) >> r.Intn(64)
		want := string(binary.AppendVarint(nil, n))
		if got, err := s.Encode(number(4, n)); got != want || err != nil {
			t.Fatalf("%d: got %x, %v, want %x", n, got, err, want)
		}
		if got, size, err := s.Decode(want); got.Int != n || size != len(want) || err != nil {
			t.Fatalf("%x: got %d, %d, %v, want %d", want, got.Int, size, err, n)
		}
	}
}

// decoded looks at what is made of bytes: a reason, or a datum of all of them.
func decoded(t *testing.T, schema string, cases map[string]any) {
	t.Helper()
	s := schemaOf(t, schema)
	for text, want := range cases {
		d, n, err := s.Decode(raw(t, text))
		switch want := want.(type) {
		case error:
			if shown(d) != shown(Datum{}) || n != 0 || reasonOf(t, err) != want {
				t.Errorf("%s: %.80s: got %.200s, %d, %v, want: %v", schema, text, shown(d), n, err, want)
			}
		case Datum:
			if shown(d) != shown(want) || n != len(raw(t, text)) || err != nil {
				t.Errorf("%s: %.80s: got %.200s, %d, %v, want %.200s", schema, text, shown(d), n, err, shown(want))
			}
		}
	}
}

// P9: numbers, texts and places that there are not; longer forms.
func TestDecodeRange(t *testing.T) {
	decoded(t, "'boolean'", map[string]any{"": ErrShort, "02": ErrRange, "80": ErrRange, "ff": ErrRange})
	decoded(t, "'long'", map[string]any{
		"8000": number(4, 0), "80808080808080808000": number(4, 0), "8180808080808080 8000": number(4, -1), "80808080808080808001": number(4, 1<<62),
		"ffffffffffffffffff01": number(4, math.MinInt64), "ffffffffffffffffff02": ErrRange, "80808080808080808002": ErrRange, "8080808080808080807f": ErrRange,
		"80808080808080808080": ErrRange, "8080808080808080808000": ErrRange, "ffffffffffffffffff8100": ErrRange,
		"": ErrShort, "80": ErrShort, "808080808080808080": ErrShort,
	})
	decoded(t, "'int'", map[string]any{"8080808010": ErrRange, "8180808010": ErrRange, "ffffffffffffffffff01": ErrRange, "80808080808080808000": number(3, 0), "8080808080808080 8002": ErrRange, "feffffff8f00": number(3, math.MaxInt32), "ffffffff8f00": number(3, math.MinInt32), "ffffffff1f": ErrRange})
	decoded(t, "'float'", map[string]any{"": ErrShort, "010203": ErrShort})
	decoded(t, "'double'", map[string]any{"": ErrShort, "01020304050607": ErrShort})
	for _, schema := range []string{"'bytes'", "'string'"} {
		decoded(t, schema, map[string]any{"01": ErrRange, "0161": ErrRange, "ffffffffffffffffff01": ErrRange, "04": ErrShort, "0461": ErrShort, "feffffffffffffffff01": ErrShort, "80808080808080808001": ErrShort, "8080808020": ErrShort})
	}
	decoded(t, "'bytes'", map[string]any{"8200ff": worded(7, "\xff"), "06eda080": worded(7, "\xed\xa0\x80")})
	decoded(t, "'string'", map[string]any{"820061": worded(8, "a"), "02ff": ErrRange, "02c3": ErrRange, "04c080": ErrRange, "06eda080": ErrRange, "08f4908080": ErrRange, "08f48fbfbf": worded(8, "\U0010ffff"), "06e08080": ErrRange, "04ff": ErrShort})
	decoded(t, "{'type':'enum','name':'E','symbols':['a','b']}", map[string]any{"04": ErrRange, "01": ErrRange, "8080808020": ErrRange, "8280808080808080 8000": number(10, 1), "82": ErrShort})
	decoded(t, "['null','int']", map[string]any{"04": ErrRange, "01": ErrRange, "80808080808080808001": ErrRange, "82000a": branch(1, number(3, 5)), "": ErrShort, "02": ErrShort})
}

// P9: the blocks of arrays and maps.
func TestDecodeBlocks(t *testing.T) {
	decoded(t, "{'type':'array','items':'int'}", map[string]any{
		"03 04 0a0b 00": ints(5, -6), "03 8400 0a0b 00": ints(5, -6), "02 0a 02 0b 00": ints(5, -6), "02 0a 01 02 0b 00": ints(5, -6), "01 02 0a 02 0b 8000": ints(5, -6), "01 04 8a00 00": ints(5),
		"03 06 0a0b 00": ErrRange, "03 02 0a0b 00": ErrRange, "03 00 0a0b 00": ErrRange, "03 01 0a0b 00": ErrRange, "03 01": ErrRange, "03 feffffffffffffffff01 0a0b 00": ErrRange, "01 ffffffffffffffffff01": ErrRange,
		"": ErrShort, "02": ErrShort, "02 0a": ErrShort, "01": ErrShort, "01 02": ErrShort, "01 06": ErrShort, "01 02 0a": ErrShort, "03 06 0a": ErrShort, "03 06 0a0b": ErrRange,
		"02 ffffffff1f": ErrRange, "01 02 ffffffff1f": ErrRange, "01 ffffffffffffffffff02": ErrRange, "ffffffffffffffffff02": ErrRange,
	})
	decoded(t, "{'type':'array','items':'null'}", map[string]any{"05 00 00": nulls(3), "05 02 00": ErrRange, "05 01 00": ErrRange, "04 01 00 02 00": nulls(4)})
	decoded(t, "{'type':'map','values':'boolean'}", map[string]any{
		"04 026101 026200 00": mapped([]string{"a", "b"}, number(2, 1), number(2, 0)), "01 06 026101 02 026200 00": mapped([]string{"a", "b"}, number(2, 1), number(2, 0)),
		"02 82006101 00":      mapped([]string{"a"}, number(2, 1)),
		"04 026101 026101 00": ErrRange, "02 026101 01 06 026101 00": ErrRange,
		"04 026101 0261": ErrRange, "04 026101 02": ErrShort, // as soon as it is read
		"02 02ff": ErrRange, "02 01": ErrRange, "02 0261": ErrShort, "02 026102": ErrRange, "01 04 026101 00": ErrRange, "": ErrShort,
	})
	decoded(t, "{'type':'array','items':{'type':'map','values':'null'}}", map[string]any{"04 02026100 02026100 00": of(11, mapped([]string{"a"}, null()), mapped([]string{"a"}, null()))})
}

// P9: more than 1,000 items, as soon as a count says so.
func TestDecodeMany(t *testing.T) {
	array := "{'type':'array','items':'int'}"
	const most, over, lessThanMost = "d00f", "d20f", "ce0f"
	decoded(t, array, map[string]any{
		most: ErrShort, over: ErrMany, "feffffffffffffffff01": ErrMany,
		"cf0f 00": ErrShort, "d10f 00": ErrMany, "d10f": ErrShort, "d10f 80": ErrShort, "d10f 01": ErrRange, "d10f ffffffffffffffffff02": ErrRange,
		"fdffffffffffffffff01 00": ErrMany, "fdffffffffffffffff01 01": ErrRange, "ffffffffffffffffff01 00": ErrRange, "ffffffffffffffffff01 02": ErrRange, "ffffffffffffffffff01": ErrShort, "ffffffffffffffffff01 80": ErrShort,
		"02 00" + most: ErrMany, "02 00" + lessThanMost: ErrShort, "02 00 cf0f 00": ErrMany, "02 00 cd0f 00": ErrShort, "02 00 cf0f": ErrShort,
	})
	decoded(t, "{'type':'array','items':'null'}", map[string]any{most + "00": nulls(1000), most + "02": ErrMany, most + "01": ErrShort, most + "0100": ErrMany, most + "0101": ErrRange, over: ErrMany})
	arrays := "{'type':'array','items':{'type':'array','items':'null'}}"
	decoded(t, arrays, map[string]any{
		"02" + lessThanMost + "00 00": of(11, nulls(999)), "02" + most: ErrMany, "04" + lessThanMost: ErrMany,
		"02" + lessThanMost + "00 02": ErrMany, most + "02": ErrMany, most + "00": ErrShort,
	})
	decoded(t, "{'type':'record','name':'R','fields':[{'name':'a','type':{'type':'array','items':'null'}},{'name':'b','type':{'type':'map','values':'null'}}]}", map[string]any{
		most + "00 00": of(9, nulls(1000), of(12)), most + "00 02": ErrMany, lessThanMost + "00 02 0261 00": of(9, nulls(999), mapped([]string{"a"}, null())), lessThanMost + "00 04": ErrMany,
	})
}

// P9: deeper than 64.
func TestDecodeDeep(t *testing.T) {
	links := func(n int) string { return strings.Repeat("02", n) }
	decoded(t, linkedSchema, map[string]any{links(30) + "00": linked(63), links(31): ErrShort, links(31) + "00": ErrDeep, links(31) + "02": ErrDeep, links(31) + "04": ErrRange, links(31) + "80": ErrShort})
	decoded(t, "["+linkedSchema+"]", map[string]any{"00" + links(30) + "00": branch(0, linked(63)), "00" + links(31): ErrDeep})
	decoded(t, "{'type':'record','name':'R','fields':[{'name':'a','type':'R'}]}", map[string]any{"": ErrDeep, "00": ErrDeep})
	// Arrays, each in a record, 64 deep: the last one may have no items. A map's key comes ahead of what is too deep.
	decoded(t, "{'type':'record','name':'R','fields':[{'name':'a','type':{'type':'array','items':'R'}}]}", map[string]any{links(31) + "00" + strings.Repeat("00", 31): of(9, arraysOf(31)), links(32): ErrDeep, links(31) + "d20f": ErrMany, links(31): ErrShort, links(31) + "01": ErrShort, links(31) + "0100": ErrDeep})
	decoded(t, "{'type':'record','name':'R','fields':[{'name':'a','type':{'type':'map','values':'R'}}]}", map[string]any{strings.Repeat("0200", 32): ErrDeep, strings.Repeat("0200", 31) + "02": ErrShort, strings.Repeat("0200", 31) + "0202ff": ErrRange})
}

// arraysOf is an empty array in n others, each in a record.
func arraysOf(n int) Datum {
	d := of(11)
	for range n {
		d = of(11, of(9, d))
	}
	return d
}

// P9: from the left: what is first wrong is told.
func TestDecodeFirst(t *testing.T) {
	decoded(t, "{'type':'record','name':'R','fields':[{'name':'a','type':'boolean'},{'name':'b','type':{'type':'array','items':'null'}},{'name':'c','type':'string'}]}", map[string]any{
		"02 d20f 02ff": ErrRange, "01 d20f 02ff": ErrMany, "01 00 02ff": ErrRange, "01 00 02": ErrShort, "01 d20f": ErrMany, "02": ErrRange, "01 80": ErrShort,
	})
}

// P1, P2: Decode ends with a datum that fits, or with one of its reasons. What is decoded is written again as it came, or shorter.
func TestDecodeEnds(t *testing.T) {
	r := rand.New(rand.NewSource(9))
	schemas := drawn(t)
	seen := map[string]int{}
	for range 60000 {
		s, text := schemas[r.Intn(len(schemas))], anyBytes(r)
		d, n, err := s.Decode(text)
		reason := reasonOf(t, err)
		seen[fmt.Sprint(reason)]++
		if err != nil {
			if shown(d) != shown(Datum{}) || n != 0 || reason != ErrShort && reason != ErrRange && reason != ErrMany && reason != ErrDeep {
				t.Fatalf("%s: %x: %s, %d, %v", s.Canonical(), text, shown(d), n, err)
			}
			continue
		}
		again, err := s.Encode(d)
		if !s.Fits(d) || err != nil || len(again) > n || n > len(text) {
			t.Fatalf("%s: %x: %s, %d; written: %x, %v", s.Canonical(), text, shown(d), n, again, err)
		}
		if back, m, err := s.Decode(again); shown(back) != shown(d) || m != len(again) || err != nil {
			t.Fatalf("%s: %x: %s; again: %s", s.Canonical(), text, shown(d), shown(back))
		}
	}
	for _, reason := range []error{nil, ErrShort, ErrRange, ErrMany} {
		if seen[fmt.Sprint(reason)] < 20 {
			t.Errorf("%v: only %d times: too few to tell", reason, seen[fmt.Sprint(reason)])
		}
	}
}

// P2: what is handed out is the caller's: no two lists of it share memory, and a second answer is another.
func TestDecodedIsNew(t *testing.T) {
	s := schemaOf(t, "{'type':'array','items':{'type':'map','values':{'type':'array','items':'int'}}}")
	text := raw(t, "04 02 0261 020200 00 02 0261 020200 00 00")
	one, _, err := s.Decode(text)
	if err != nil {
		t.Fatal(err)
	}
	want := shown(one)
	two, _, _ := s.Decode(text)
	one.Kids[0].Names[0] = "x"
	one.Kids[0].Kids[0].Kids[0].Int = 9
	one.Kids[0].Kids = append(one.Kids[0].Kids[:0], null())
	if got := shown(two); got != want {
		t.Errorf("changed: %s, want %s", got, want)
	}
	if shown(one.Kids[1]) != shown(two.Kids[1]) {
		t.Errorf("the second of one is changed: %s", shown(one.Kids[1]))
	}
}
