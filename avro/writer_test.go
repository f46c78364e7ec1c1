package avro

import (
	"fmt"
	"math"
	"math/rand"
	"strings"
	"testing"
)

// created is a writer over a new file, whose header is safe.
func created(t *testing.T, schema string, codec, block int) (*File, *Writer) {
	t.Helper()
	f := NewFile()
	w, err := Create(f, plainly(schema), codec, block, sixteenBytes)
	if w == nil || err != nil {
		t.Fatalf("%s, %d, %d: %v, %v", schema, codec, block, w, err)
	}
	well(t, f.Sync())
	return f, w
}

// counted tells how many operations of a file something takes.
func counted(f *File, do func()) int {
	const many = 1000000
	f.Fuse(many)
	do()
	left := f.fuse
	f.Fuse(0)
	return many - left
}

// behind looks at what a file has behind its header.
func behind(t *testing.T, f *File, header, safe, written string) {
	t.Helper()
	if s, w := f.Bytes(); s != header+safe || w != written {
		t.Errorf("got %.300q and %.300q, want %.300q and %.300q", s, w, header+safe, written)
	}
}

// P17: the header is written by one Write: the codec, then the schema, as its text came.
func TestCreate(t *testing.T) {
	for codec, name := range codecs {
		for _, text := range []string{`"int"`, " { \"type\":\t\"int\", \"x\": [1] }\n", `{"type":"record","name":"R","fields":[{"name":"\u0061","type":"int","default":7}]}`} {
			for _, marker := range []string{sixteenBytes, strings.Repeat("\x00", 16), strings.Repeat("\xff", 16)} {
				for _, block := range []int{1, 65536} {
					f := NewFile()
					well(t, f.Replace("ahead"))
					n := counted(f, func() {
						if w, err := Create(f, text, codec, block, marker); w == nil || err != nil {
							t.Errorf("%s, %d, %q, %d: %v, %v", text, codec, marker, block, w, err)
						}
					})
					header := headed("avro.codec", name, "avro.schema", text)
					has(t, f, "ahead", header[:len(header)-16]+marker)
					if n != 1 {
						t.Errorf("%d operations", n)
					}
				}
			}
		}
	}
}

// P17: why nothing is created; of several reasons the one named first. Nothing is done to the file, then.
func TestCreateRefuses(t *testing.T) {
	for _, c := range []struct {
		schema       string
		codec, block int
		marker       string
		want         error
	}{
		{"int", 9, 0, "", ErrText},
		{"", 0, 1, sixteenBytes, ErrText},
		{`"integer"`, 9, 0, "", ErrSchema},
		{`"integer"`, 0, 1, sixteenBytes, ErrSchema},
		{`"int"`, 3, 0, "", ErrCodec},
		{`"int"`, -1, 1, sixteenBytes, ErrCodec},
		{`"int"`, math.MinInt, 1, sixteenBytes, ErrCodec},
		{`"int"`, math.MaxInt, 1, sixteenBytes, ErrCodec},
		{`"int"`, 0, 0, sixteenBytes, ErrRange},
		{`"int"`, 0, -1, sixteenBytes, ErrRange},
		{`"int"`, 0, 65537, sixteenBytes, ErrRange},
		{`"int"`, 0, math.MinInt, sixteenBytes, ErrRange},
		{`"int"`, 0, math.MaxInt, sixteenBytes, ErrRange},
		{`"int"`, 0, 1, "", ErrRange},
		{`"int"`, 0, 1, sixteenBytes[1:], ErrRange},
		{`"int"`, 0, 1, sixteenBytes + "g", ErrRange},
		{`"int"`, 2, 0, "", ErrRange},
	} {
		for _, isUp := range []bool{true, false} {
			f := NewFile()
			well(t, f.Write("ahead"))
			if !isUp {
				f.Fuse(1)
				f.Sync()
			}
			n := counted(f, func() {
				if w, err := Create(f, c.schema, c.codec, c.block, c.marker); w != nil || reasonOf(t, err) != c.want {
					t.Errorf("%v: got %v, %v", c, w, err)
				}
			})
			has(t, f, "", "ahead")
			if n != 0 {
				t.Errorf("%v: %d operations", c, n)
			}
		}
	}
	f := NewFile()
	f.Fuse(1)
	if w, err := Create(f, `"int"`, 0, 1, sixteenBytes); w != nil || reasonOf(t, err) != ErrDown {
		t.Errorf("a file that goes down: %v, %v", w, err)
	}
	has(t, f, "", "")
}

// appended looks that a record is appended, and how many operations that takes.
func appended(t *testing.T, f *File, w *Writer, d Datum, want int) {
	t.Helper()
	if n := counted(f, func() { well(t, w.Append(d)) }); n != want {
		t.Errorf("%.100s: %d operations, want %d", shown(d), n, want)
	}
}

// P17: what is kept is written as soon as it is block bytes or more; Flush writes what is kept, and makes all safe; so does Close.
func TestAppend(t *testing.T) {
	for codec, name := range codecs {
		header := coded("'int'", name)
		f, w := created(t, "'int'", codec, 3)
		appended(t, f, w, number(3, 5), 0)
		appended(t, f, w, number(3, -6), 0)
		behind(t, f, header, "", "")
		appended(t, f, w, number(3, 7), 1)
		first := framed(3, told(name, "\x0a\x0b\x0e"))
		behind(t, f, header, "", first)
		appended(t, f, w, number(3, 1), 0)
		appended(t, f, w, number(3, 8192), 1) // of three bytes: one more than there need be
		second := framed(2, told(name, "\x02\x80\x80\x01"))
		behind(t, f, header, "", first+second)
		appended(t, f, w, number(3, 2), 0)
		if n := counted(f, func() { well(t, w.Flush()) }); n != 2 {
			t.Errorf("Flush: %d operations", n)
		}
		third := framed(1, told(name, "\x04"))
		behind(t, f, header, first+second+third, "")
		if n := counted(f, func() { well(t, w.Flush()) }); n != 1 {
			t.Errorf("Flush of nothing: %d operations", n)
		}
		behind(t, f, header, first+second+third, "")
		appended(t, f, w, number(3, 3), 0)
		if n := counted(f, func() { well(t, w.Close()) }); n != 2 {
			t.Errorf("Close: %d operations", n)
		}
		behind(t, f, header, first+second+third+framed(1, told(name, "\x06")), "")
	}
}

// P17: with block 1 each record is written at once, but for those of no bytes.
func TestAppendAtOnce(t *testing.T) {
	f, w := created(t, "'int'", 0, 1)
	appended(t, f, w, number(3, 5), 1)
	appended(t, f, w, number(3, -6), 1)
	behind(t, f, coded("'int'", "null"), "", framed(1, "\x0a")+framed(1, "\x0b"))
	f, w = created(t, "['null','int']", 0, 1)
	appended(t, f, w, branch(0, null()), 1)
	f, w = created(t, "'null'", 0, 1)
	appended(t, f, w, null(), 0)
	appended(t, f, w, null(), 0)
	well(t, w.Flush())
	behind(t, f, coded("'null'", "null"), framed(2, ""), "")
}

// P17: what is refused changes nothing: the schema does not have it, or it is more than 65,536 bytes.
func TestAppendRefuses(t *testing.T) {
	header := coded("'bytes'", "null")
	f, w := created(t, "'bytes'", 0, 65536)
	appended(t, f, w, worded(7, "a"), 0)
	for _, d := range []Datum{{}, null(), worded(8, "a"), {Kind: 7, Int: 1}, number(3, 5)} {
		if n := counted(f, func() {
			if err := w.Append(d); reasonOf(t, err) != ErrDatum {
				t.Errorf("%s: %v", shown(d), err)
			}
		}); n != 0 {
			t.Errorf("%s: %d operations", shown(d), n)
		}
	}
	for _, size := range []int{65534, 65535, 65536, 65537, 100000} {
		if n := counted(f, func() {
			if err := w.Append(worded(7, strings.Repeat("x", size))); reasonOf(t, err) != ErrMany {
				t.Errorf("%d bytes: %v", size, err)
			}
		}); n != 0 {
			t.Errorf("%d bytes: %d operations", size, n)
		}
	}
	if err := w.Append(worded(8, strings.Repeat("x", 65537))); reasonOf(t, err) != ErrDatum {
		t.Errorf("neither: %v", err)
	}
	behind(t, f, header, "", "")
	well(t, w.Flush())
	behind(t, f, header, framed(1, "\x02a"), "")
}

// P17: no more than 65,536 bytes are kept: what is kept is written ahead of a record with which it would be more.
func TestAppendMost(t *testing.T) {
	header := coded("'bytes'", "null")
	bytes := func(size int) Datum { return worded(7, strings.Repeat("x", size-3)) } // 3 for the length
	text := func(size int) string { return sized(strings.Repeat("x", size-3)) }
	f, w := created(t, "'bytes'", 0, 65536)
	appended(t, f, w, bytes(65536), 1)
	all := framed(1, text(65536))
	behind(t, f, header, "", all)
	appended(t, f, w, bytes(40000), 0)
	appended(t, f, w, bytes(25536), 1) // 65,536 with it
	all += framed(2, text(40000)+text(25536))
	behind(t, f, header, "", all)
	appended(t, f, w, bytes(40000), 0)
	appended(t, f, w, bytes(25537), 1) // 65,537 with it
	all += framed(1, text(40000))
	behind(t, f, header, "", all)
	appended(t, f, w, bytes(65536), 2)
	all += framed(1, text(25537)) + framed(1, text(65536))
	behind(t, f, header, "", all)
	well(t, w.Flush())
	behind(t, f, header, all, "")
	reads(t, "all of it", header+all, nil, []Datum{bytes(65536), bytes(40000), bytes(25536), bytes(40000), bytes(25537), bytes(65536)}, nil, noFault)
	// By what is kept, and not by what the codec makes of it.
	f, w = created(t, "'bytes'", 1, 30000)
	appended(t, f, w, bytes(29999), 0)
	appended(t, f, w, bytes(40000), 2)
	behind(t, f, coded("'bytes'", "deflate"), "", framed(1, Deflate(text(29999)))+framed(1, Deflate(text(40000))))
}

// P17: no more than 65,536 records are kept.
func TestAppendMostRecords(t *testing.T) {
	f, w := created(t, "'null'", 0, 1)
	if n := counted(f, func() {
		for range 65535 {
			w.Append(null())
		}
	}); n != 0 {
		t.Errorf("%d operations", n)
	}
	appended(t, f, w, null(), 1)
	behind(t, f, coded("'null'", "null"), "", framed(65536, ""))
	appended(t, f, w, null(), 0)
	well(t, w.Close())
	behind(t, f, coded("'null'", "null"), framed(65536, "")+framed(1, ""), "")
}

// over looks that a writer answers the same to all, and does nothing.
func over(t *testing.T, f *File, w *Writer, want error) {
	t.Helper()
	safe, written := f.Bytes()
	if n := counted(f, func() {
		for _, err := range []error{w.Append(number(3, 5)), w.Append(Datum{}), w.Append(worded(7, strings.Repeat("x", 70000))), w.Flush(), w.Close(), w.Append(null()), w.Flush(), w.Close()} {
			if reasonOf(t, err) != want {
				t.Errorf("got %v, want %v", err, want)
			}
		}
	}); n != 0 {
		t.Errorf("%d operations", n)
	}
	has(t, f, safe, written)
}

// P17: behind Close all is ErrClosed, also when the file is down.
func TestClosed(t *testing.T) {
	f, w := created(t, "'int'", 0, 100)
	well(t, w.Append(number(3, 5)))
	well(t, w.Close())
	over(t, f, w, ErrClosed)
	f.Fuse(1)
	isDown(t, f)
	over(t, f, w, ErrClosed)
	f.Crash(0)
	over(t, f, w, ErrClosed)
	f, w = created(t, "'int'", 0, 100)
	well(t, w.Close())
	behind(t, f, coded("'int'", "null"), "", "")
	over(t, f, w, ErrClosed)
	over(t, NewFile(), nil, ErrClosed)
}

// P17: behind an ErrDown all is ErrDown, also when the file is up again, and whichever operation it was. What was written ahead of it stays.
func TestDown(t *testing.T) {
	whole := coded("'int'", "null")
	for fuse, want := range map[int]string{1: "", 2: framed(2, "\x0a\x0b"), 3: framed(2, "\x0a\x0b"), 4: framed(2, "\x0a\x0b") + framed(1, "\x0e")} {
		f, w := created(t, "'int'", 0, 2)
		f.Fuse(fuse)
		var first error
		for _, do := range []func() error{
			func() error { return w.Append(number(3, 5)) },
			func() error { return w.Append(number(3, -6)) }, // operation 1
			w.Flush, // 2
			func() error { return w.Append(number(3, 7)) },
			w.Close, // 3, 4
		} {
			err := do()
			if first == nil {
				first = err
			}
			if (first == nil) != (err == nil) || reasonOf(t, err) != reasonOf(t, first) {
				t.Errorf("%d: %v behind %v", fuse, err, first)
			}
		}
		if reasonOf(t, first) != ErrDown {
			t.Errorf("%d: %v, want ErrDown", fuse, first)
		}
		over(t, f, w, ErrDown)
		f.Crash(math.MaxInt)
		has(t, f, whole+want, "")
		over(t, f, w, ErrDown)
	}
}

// P17: where the block ahead of a record is not written, the record is not kept, and nothing is tried again.
func TestDownWithinAppend(t *testing.T) {
	bytes := worded(7, strings.Repeat("x", 40000))
	for fuse := range 2 {
		f, w := created(t, "'bytes'", 0, 65536)
		appended(t, f, w, bytes, 0)
		f.Fuse(fuse + 1)
		want := ""
		if fuse == 1 {
			want = framed(1, sized(bytes.Text))
		}
		if err := w.Append(worded(7, strings.Repeat("y", 65533))); reasonOf(t, err) != ErrDown {
			t.Errorf("got %v", err)
		}
		over(t, f, w, ErrDown)
		f.Crash(math.MaxInt)
		has(t, f, coded("'bytes'", "null")+want, "")
	}
}

// P17: a writer knows a file's state by its own operations alone: what it keeps outlives a crash.
func TestCrashBetween(t *testing.T) {
	f, w := created(t, "'int'", 0, 100)
	well(t, w.Append(number(3, 5)))
	f.Fuse(1)
	isDown(t, f)
	well(t, w.Append(number(3, -6)))
	f.Crash(0)
	well(t, w.Flush())
	behind(t, f, coded("'int'", "null"), framed(2, "\x0a\x0b"), "")
}

// P2: a datum is only read, and not kept; nor is the marker's memory another's to change. Writers know only of their files.
func TestAppendedIsNotKept(t *testing.T) {
	f, w := created(t, "{'type':'array','items':'int'}", 0, 100)
	d := ints(5, -6)
	well(t, w.Append(d))
	if shown(d) != shown(ints(5, -6)) {
		t.Errorf("changed: %s", shown(d))
	}
	d.Kids[0].Int = 9
	other, v := created(t, "'int'", 0, 1)
	well(t, v.Append(number(3, 1)))
	well(t, w.Close())
	behind(t, f, coded("{'type':'array','items':'int'}", "null"), framed(1, "\x04\x0a\x0b\x00"), "")
	well(t, v.Append(number(3, 2)))
	behind(t, other, coded("'int'", "null"), "", framed(1, "\x02")+framed(1, "\x04"))
	// Two writers over one file: each writes its own blocks.
	both, err := Create(other, `"int"`, 0, 2, sixteenBytes)
	well(t, err)
	well(t, both.Append(number(3, 3)))
	well(t, v.Append(number(3, 4)))
	well(t, both.Close())
	well(t, v.Append(number(3, 5)))
	behind(t, other, coded("'int'", "null"), framed(1, "\x02")+framed(1, "\x04")+coded("'int'", "null")+framed(1, "\x08")+framed(1, "\x06"), framed(1, "\x0a"))
}

// anyDatum is one that a schema has.
func anyDatum(r *rand.Rand, s *Schema) Datum {
	for {
		if d, _, err := s.Decode(anyBytes(r)); err == nil {
			return d
		}
	}
}

// P16, P17, P19: any records, by any codec and block: the file's bytes are those that the rules tell, and its records are told again.
func TestWrittenAndRead(t *testing.T) {
	r := rand.New(rand.NewSource(18))
	schemas := drawn(t)
	for range 500 {
		s, codec, block := schemas[r.Intn(len(schemas))], r.Intn(3), 1+r.Intn(40)
		f, w := created(t, s.Canonical(), codec, block)
		want := coded(s.Canonical(), codecs[codec])
		kept, count := "", int64(0)
		write := func() {
			if count > 0 {
				want += framed(count, told(codecs[codec], kept))
			}
			kept, count = "", 0
		}
		var data []Datum
		for range r.Intn(20) {
			if r.Intn(8) == 0 {
				well(t, w.Flush())
				write()
			}
			d := anyDatum(r, s)
			text, _ := s.Encode(d)
			data = append(data, d)
			well(t, w.Append(d))
			kept, count = kept+text, count+1
			if len(kept) >= block {
				write()
			}
		}
		safe, written := f.Bytes()
		if safe+written != want {
			t.Fatalf("%s, %d, %d: %q, want %q", s.Canonical(), codec, block, safe+written, want)
		}
		well(t, w.Close())
		write()
		has(t, f, want, "")
		reads(t, fmt.Sprint(s.Canonical(), codec, block), want, nil, data, nil, noFault)
	}
}
