package avro_test

import (
	"reflect"
	"testing"

	"avro/avro"
	"avro/plain"
)

// Words: as plain asks: each reason by its number, with a text; in a Fault, with its place.
func TestReasonsFromOutside(t *testing.T) {
	for k := range 16 {
		if n, at, text := plain.Reason(k, false); n != k+1 || at != -1 || !text {
			t.Errorf("reason %d: %d, %d, %v", k, n, at, text)
		}
		if n, at, text := plain.Reason(k, true); n != k+1 || at != 7 || !text {
			t.Errorf("reason %d in a fault: %d, %d, %v", k, n, at, text)
		}
	}
}

// The document's first example, as plain asks.
func TestParseFromOutside(t *testing.T) {
	for text, want := range map[string]int{`"int"`: 0, `{"type":"int","x":[]}`: 0, `int`: 1, `"integer"`: 2, `[1,]`: 1, `["int","int"]`: 2} {
		if s, n := plain.Parse(text); n != want || (s == nil) != (want > 0) {
			t.Errorf("%s: %v, %d, want %d", text, s, n, want)
		}
	}
}

// parse tells the schema of a text that is one.
func parse(t *testing.T, text string) *avro.Schema {
	t.Helper()
	s, n := plain.Parse(text)
	if n != 0 {
		t.Fatalf("%s: %d", text, n)
	}
	return s
}

// The document's examples 3 and 4, as plain asks.
func TestBytesFromOutside(t *testing.T) {
	for n, want := range map[int64]string{-64: "\x7f", 64: "\x80\x01"} {
		if got, e := plain.Encode(parse(t, `"long"`), avro.Datum{Kind: 4, Int: n}); got != want || e != 0 {
			t.Errorf("%d: %x, %d", n, got, e)
		}
	}
	s := parse(t, `{"type":"array","items":"int"}`)
	list := avro.Datum{Kind: 11, Kids: []avro.Datum{{Kind: 3, Int: 5}, {Kind: 3, Int: -6}}}
	if got, e := plain.Encode(s, list); got != "\x04\x0a\x0b\x00" || e != 0 {
		t.Errorf("5, -6: %x, %d", got, e)
	}
	if d, n, e := plain.Decode(s, "\x03\x04\x0a\x0b\x00"); !reflect.DeepEqual(d, list) || n != 5 || e != 0 {
		t.Errorf("a block with its size: %v, %d, %d", d, n, e)
	}
	if d, n, e := plain.Decode(s, "\x03\x06\x0a\x0b\x00"); !reflect.DeepEqual(d, avro.Datum{}) || n != 0 || e != 5 {
		t.Errorf("a block with another size: %v, %d, %d", d, n, e)
	}
	if got, e := plain.Encode(s, avro.Datum{}); got != "" || e != 3 {
		t.Errorf("no datum: %x, %d", got, e)
	}
}

// The document's examples 5 and 6, as plain asks.
func TestAsFromOutside(t *testing.T) {
	for _, c := range []struct {
		w, r, text string
		want       avro.Datum
	}{
		{`"int"`, `"float"`, "\x82\x80\x80\x10", avro.Datum{Kind: 5, Bits: 0x4b800000}},
		{`"int"`, `"double"`, "\x82\x80\x80\x10", avro.Datum{Kind: 6, Bits: 0x4170000010000000}},
		{`["int","string"]`, `"bytes"`, "\x02\x02a", avro.Datum{Kind: 7, Text: "a"}},
	} {
		if d, n, e := plain.DecodeAs(parse(t, c.r), parse(t, c.w), c.text); !reflect.DeepEqual(d, c.want) || n != len(c.text) || e != 0 {
			t.Errorf("%s as %s: %v, %d, %d", c.w, c.r, d, n, e)
		}
	}
	if d, n, e := plain.DecodeAs(parse(t, `"int"`), parse(t, `"string"`), "\x00"); !reflect.DeepEqual(d, avro.Datum{}) || n != 0 || e != 14 {
		t.Errorf("a string as an int: %v, %d, %d", d, n, e)
	}
}

// P7, as plain asks.
func TestFloatsFromOutside(t *testing.T) {
	if d := plain.Float32(0xffffffff3fc00000); !reflect.DeepEqual(d, avro.Datum{Kind: 5, Bits: 0x3fc00000}) || plain.Number(d) != 0x3ff8000000000000 {
		t.Errorf("a float: %v, %x", d, plain.Number(d))
	}
	if d := plain.Float64(0x3ff8000000000000); !reflect.DeepEqual(d, avro.Datum{Kind: 6, Bits: 0x3ff8000000000000}) || plain.Number(d) != 0x3ff8000000000000 {
		t.Errorf("a double: %v, %x", d, plain.Number(d))
	}
}

// The document's seventh example, as plain asks.
func TestCompressionFromOutside(t *testing.T) {
	if got := plain.Sum("123456789"); got != 0xcbf43926 {
		t.Errorf("the sum: %x", got)
	}
	for _, c := range []struct {
		text string
		most int
		want string
		e    int
	}{
		{"\x4b\x04\x00", 1, "a", 0},
		{"\x03\x00", 0, "", 0},
		{"\x4b\x04\x00", 0, "", 9},
		{"\x4b\x04", 1, "", 8},
	} {
		if got, e := plain.Inflate(c.text, c.most); got != c.want || e != c.e {
			t.Errorf("%x, %d at most: %q, %d", c.text, c.most, got, e)
		}
	}
	if got, e := plain.Inflate(avro.Deflate("again, again"), 12); got != "again, again" || e != 0 {
		t.Errorf("deflated and inflated: %q, %d", got, e)
	}
}

const marker = "0123456789abcdef"

// five and six are the records of the document's examples.
func five() avro.Datum { return avro.Datum{Kind: 3, Int: 5} }
func six() avro.Datum  { return avro.Datum{Kind: 3, Int: -6} }

// The document's examples 8, 9 and the first sentence of 10, as plain asks.
func TestFileFromOutside(t *testing.T) {
	f := avro.NewFile()
	w, e := plain.Create(f, `"int"`, 0, 1, marker)
	if w == nil || e != 0 {
		t.Fatalf("Create: %v, %d", w, e)
	}
	header := "Obj\x01\x04\x14avro.codec\x08null\x16avro.schema\x0a\"int\"\x00" + marker
	if safe, written := f.Bytes(); safe != "" || written != header {
		t.Errorf("the header: %q, %q", safe, written)
	}
	for _, e := range []int{plain.Append(w, five()), plain.Flush(w), plain.Append(w, six()), plain.Close(w)} {
		if e != 0 {
			t.Errorf("a writer's answer: %d", e)
		}
	}
	file := header + "\x02\x02\x0a" + marker + "\x02\x02\x0b" + marker
	if safe, written := f.Bytes(); safe != file || written != "" {
		t.Errorf("the file: %q, %q", safe, written)
	}
	if l, e, at := plain.ReadAll(file, nil); !reflect.DeepEqual(l, []avro.Datum{five(), six()}) || e != 0 || at != -1 {
		t.Errorf("ReadAll: %v, %d, %d", l, e, at)
	}
	cut := file[:len(file)-1]
	if l, e, at := plain.ReadAll(cut, nil); !reflect.DeepEqual(l, []avro.Datum{five()}) || e != 12 || at != 1 {
		t.Errorf("ReadAll without the last byte: %v, %d, %d", l, e, at)
	}
	if l, e, at, more := plain.Records(cut, nil, 0); !reflect.DeepEqual(l, []avro.Datum{five()}) || e != 12 || at != 1 || more {
		t.Errorf("Records without the last byte: %v, %d, %d, %v", l, e, at, more)
	}
	if l, e, at, more := plain.Records(file, parse(t, `"long"`), 1); !reflect.DeepEqual(l, []avro.Datum{{Kind: 4, Int: 5}}) || e != 0 || at != -1 || more {
		t.Errorf("Records, one wanted: %v, %d, %d, %v", l, e, at, more)
	}
	if l, e, at, more := plain.Records(file, parse(t, `"string"`), 0); len(l) != 0 || e != 13 || at != -1 || more {
		t.Errorf("Records as strings: %v, %d, %d, %v", l, e, at, more)
	}
	if e := plain.Append(w, five()); e != 15 {
		t.Errorf("Append behind Close: %d", e)
	}
}

// exampleFile is the file of the document's example 9: its header, and all of it.
func exampleFile() (string, string) {
	header := "Obj\x01\x04\x14avro.codec\x08null\x16avro.schema\x0a\"int\"\x00" + marker
	return header, header + "\x02\x02\x0a" + marker + "\x02\x02\x0b" + marker
}

// The document's examples 10 and 11, as plain asks.
func TestDamageFromOutside(t *testing.T) {
	header, file := exampleFile()
	cut := file[:len(file)-1]
	if l, left, e := plain.Recover(cut); !reflect.DeepEqual(l, []avro.Datum{five()}) || left != 1 || e != 0 {
		t.Errorf("Recover without the last byte: %v, %d, %d", l, left, e)
	}
	f := avro.NewFile()
	if e := plain.Write(f, cut); e != 0 {
		t.Fatal(e)
	}
	w, e := plain.Resume(f, 1)
	if w == nil || e != 0 {
		t.Fatalf("Resume: %v, %d", w, e)
	}
	if safe, written := f.Bytes(); safe != header+"\x02\x02\x0a"+marker || written != "" {
		t.Errorf("what Resume leaves: %q, %q", safe, written)
	}
	if plain.Append(w, six()) != 0 || plain.Close(w) != 0 {
		t.Error("the writer does not go on")
	}
	if safe, written := f.Bytes(); safe != file || written != "" {
		t.Errorf("gone on with: %q, %q", safe, written)
	}
	bent := header + "\x02\x02\x8a" + file[len(header)+3:]
	if l, left, e := plain.Recover(bent); !reflect.DeepEqual(l, []avro.Datum{six()}) || left != 1 || e != 0 {
		t.Errorf("Recover with a byte turned: %v, %d, %d", l, left, e)
	}
	if l, left, e := plain.Recover(file[1:]); len(l) != 0 || left != 0 || e != 10 {
		t.Errorf("Recover without a header: %v, %d, %d", l, left, e)
	}
	if w, e := plain.Resume(avro.NewFile(), 1); w != nil || e != 10 {
		t.Errorf("Resume of nothing: %v, %d", w, e)
	}
}

// P20, as plain asks.
func TestSplitFromOutside(t *testing.T) {
	header, file := exampleFile()
	for _, c := range []struct {
		from, to int
		want     []avro.Datum
	}{
		{0, len(file), []avro.Datum{five(), six()}},
		{0, len(header) + 1, []avro.Datum{five()}},
		{len(header) + 1, len(file), []avro.Datum{six()}},
		{len(header) + 20, len(file), nil},
		{len(file) + 1, len(file) + 2, nil},
	} {
		if l, e, at := plain.ReadSplit(file, c.from, c.to); len(l) != len(c.want) || len(l) > 0 && !reflect.DeepEqual(l, c.want) || e != 0 || at != -1 {
			t.Errorf("%d to %d: %v, %d, %d", c.from, c.to, l, e, at)
		}
	}
	if l, e, at := plain.ReadSplit(file[:len(file)-1], 0, len(file)); len(l) != 0 || e != 12 || at != 1 {
		t.Errorf("without the last byte: %v, %d, %d", l, e, at)
	}
	if l, e, at := plain.ReadSplit(file[1:], 0, len(file)); len(l) != 0 || e != 10 || at != -1 {
		t.Errorf("without a header: %v, %d, %d", l, e, at)
	}
}

// The document's example 12, as plain asks.
func TestDownFromOutside(t *testing.T) {
	f := avro.NewFile()
	f.Fuse(2)
	w, e := plain.Create(f, `"int"`, 0, 1, marker)
	if w == nil || e != 0 {
		t.Fatalf("Create: %v, %d", w, e)
	}
	for range 2 {
		if e := plain.Append(w, five()); e != 16 {
			t.Errorf("Append: %d", e)
		}
	}
	if plain.Write(f, "x") != 16 || plain.Sync(f) != 16 || plain.Replace(f, "x") != 16 {
		t.Error("the file is up")
	}
	if next, e := plain.Resume(f, 1); next != nil || e != 16 {
		t.Errorf("Resume ahead of the crash: %v, %d", next, e)
	}
	f.Crash(9999)
	if e := plain.Append(w, five()); e != 16 {
		t.Errorf("Append behind the crash: %d", e)
	}
	next, e := plain.Resume(f, 1)
	if next == nil || e != 0 {
		t.Fatalf("Resume: %v, %d", next, e)
	}
	safe, written := f.Bytes()
	if l, e, _ := plain.ReadAll(safe, nil); len(l) != 0 || e != 0 || written != "" {
		t.Errorf("a file without records: %v, %d, %q", l, e, written)
	}
	if plain.Write(f, "x") != 0 || plain.Sync(f) != 0 || plain.Replace(f, "x") != 0 {
		t.Error("the file is down")
	}
}
