package avro

import (
	"fmt"
	"math"
	"math/rand"
	"strings"
	"sync"
	"testing"
)

// holding is a file with these bytes.
func holding(t *testing.T, safe, written string) *File {
	t.Helper()
	f := NewFile()
	well(t, f.Replace(safe))
	well(t, f.Write(written))
	return f
}

// resumed is a writer over a file that it goes on with; it looks how many operations that takes.
func resumed(t *testing.T, f *File, block, operations int) *Writer {
	t.Helper()
	var w *Writer
	n := counted(f, func() {
		made, err := Resume(f, block)
		if made == nil || err != nil {
			t.Fatalf("%v, %v", made, err)
		}
		w = made
	})
	if n != operations {
		t.Errorf("%d operations, want %d", n, operations)
	}
	return w
}

// P18: a file of whole blocks, all of them safe, is gone on with as it is, by its own codec and marker: no operation is done.
func TestResume(t *testing.T) {
	for _, codec := range codecs {
		for _, blocks := range []string{"", framed(1, told(codec, "\x0a")), framed(2, told(codec, "\x0a\x0b")) + framed(1, told(codec, "\x0e"))} {
			for _, marker := range []string{sixteenBytes, strings.Repeat("\x00", 16), strings.Repeat("\xff", 16)} {
				file := strings.ReplaceAll(coded("'int'", codec, blocks), sixteenBytes, marker)
				f := holding(t, file, "")
				w := resumed(t, f, 2, 0)
				has(t, f, file, "")
				appended(t, f, w, number(3, 1), 0)
				appended(t, f, w, number(3, 2), 1)
				appended(t, f, w, number(3, 3), 0)
				more := strings.ReplaceAll(framed(2, told(codec, "\x02\x04")), sixteenBytes, marker)
				has(t, f, file, more)
				well(t, w.Close())
				more += strings.ReplaceAll(framed(1, told(codec, "\x06")), sixteenBytes, marker)
				has(t, f, file+more, "")
				over(t, f, w, ErrClosed)
			}
		}
	}
}

// P18: what is only written is made safe by Replace, whole blocks though it may be; what is safe and what is only written are looked at as one text.
func TestResumeWritten(t *testing.T) {
	file := coded("'int'", "null", framed(2, "\x0a\x0b"), framed(1, "\x0e"))
	for i := range len(file) {
		f := holding(t, file[:i], file[i:])
		w := resumed(t, f, 1, 1)
		has(t, f, file, "")
		appended(t, f, w, number(3, 1), 1)
		has(t, f, file, framed(1, "\x02"))
	}
}

// P18: where what follows the header or a whole block is none, that goes, and all behind it.
func TestResumeCut(t *testing.T) {
	for _, codec := range codecs {
		first, last := framed(2, told(codec, "\x0a\x0b")), framed(1, told(codec, "\x0e"))
		for _, whole := range []string{coded("'int'", codec), coded("'int'", codec, first), coded("'int'", codec, first, last)} {
			for i := range len(last) - 1 {
				for _, file := range []string{whole + last[:1+i], whole + last[1+i:], whole + last[1+i:] + first} {
					for _, safe := range []int{len(file), len(whole), len(whole) - 5} {
						f := holding(t, file[:safe], file[safe:])
						w := resumed(t, f, 1, 1)
						has(t, f, whole, "")
						well(t, w.Append(number(3, 7)))
						well(t, w.Flush())
						has(t, f, whole+last, "")
					}
				}
			}
		}
	}
}

// P18: each of P16's ways of being none.
func TestResumeNoBlock(t *testing.T) {
	beyond := strings.Repeat("\x00", 65537)
	for codec, blocks := range map[string][]string{
		"null":        {"\x00", framed(0, ""), framed(65537, ""), framed(1, "\x0a")[:18] + "g", framed(65536, beyond), framed(1, ""), framed(1, "\x8a"), framed(1, "\x80\x80\x80\x80\x10"), framed(1, "\x0a\x0b"), long(1) + long(-1) + sixteenBytes, sixteenBytes},
		"deflate":     {framed(1, ""), framed(1, "\x07"), framed(1, Deflate("\x0a")+"\x00"), framed(65536, Deflate(beyond)), framed(1, Deflate("")), framed(1, Deflate("\x8a")), framed(1, Deflate("\x0a\x0b"))},
		"deflate-crc": {framed(1, "\x4b\x04\x00"), framed(1, Deflate("\x0a")), framed(1, summed(Deflate("\x0a"), "\x0b")), framed(1, summed("\x07", "\x0a")), framed(2, told("deflate-crc", "\x0a"))},
	} {
		first := framed(2, told(codec, "\x0a\x0b"))
		for _, block := range blocks {
			for _, whole := range []string{coded("'int'", codec), coded("'int'", codec, first, first)} {
				f := holding(t, whole+block+first, "")
				resumed(t, f, 1, 1)
				has(t, f, whole, "")
			}
		}
	}
}

// P18: the header and the blocks stay as they are, to the byte; a writer goes on in the plainest form.
func TestResumeAsItIs(t *testing.T) {
	schema := sized("avro.schema") + sized(` {"type": "int", "x": []} `)
	for _, header := range []string{
		headed("avro.schema", `"int"`),
		headed("z", "\xff", "avro.schema", ` "int"`, "avro.codec", "null", "", ""),
		"Obj\x01\x01" + long(int64(len(schema))) + schema + "\x80\x00" + sixteenBytes,
	} {
		whole := header + "\x82\x80\x00\x82\x00\x0a" + sixteenBytes
		f := holding(t, whole, "\x02")
		w := resumed(t, f, 1, 1)
		has(t, f, whole, "")
		well(t, w.Append(number(3, -6)))
		has(t, f, whole, framed(1, "\x0b"))
	}
}

// P18: why a file is not gone on with; of several reasons the one named first. Nothing is done to the file, then.
func TestResumeRefuses(t *testing.T) {
	whole := coded("'int'", "null")
	sizes := []int{0, -1, 65537, math.MinInt, math.MaxInt}
	for file, want := range map[string]error{
		"":                                ErrHeader,
		"Obj":                             ErrHeader,
		whole[:len(whole)-1]:              ErrHeader,
		"x" + whole:                       ErrHeader,
		headed("avro.codec", "null"):      ErrHeader,
		coded("int", "snappy"):            ErrText,
		coded("'integer'", "snappy"):      ErrSchema,
		coded("'int'", "snappy") + "\x00": ErrCodec,
		whole:                             nil,
		whole + "\x00":                    nil,
		whole + framed(1, "\x0a"):         nil,
	} {
		for _, block := range append(sizes, 1, 65536) {
			reason := want
			if want == nil && block != 1 && block != 65536 {
				reason = ErrRange
			}
			if reason == nil {
				resumed(t, holding(t, file, "x"), block, 1)
				continue
			}
			for _, safe := range []int{0, len(file) / 2, len(file)} {
				for _, isUp := range []bool{true, false} {
					f := holding(t, file[:safe], file[safe:])
					if !isUp {
						f.Fuse(1)
						isDown(t, f)
					}
					n := counted(f, func() {
						if w, err := Resume(f, block); w != nil || reasonOf(t, err) != reason {
							t.Errorf("%q, %d: got %v, %v, want %v", file, block, w, err, reason)
						}
					})
					has(t, f, file[:safe], file[safe:])
					if n != 0 {
						t.Errorf("%q, %d: %d operations", file, block, n)
					}
				}
			}
		}
	}
}

// P18: ErrDown, where the file must be changed, and is down or goes down with it; nothing is changed, then. Where it need not be, a file that is down is gone on with, and the writer's first operation tells.
func TestResumeDown(t *testing.T) {
	whole := coded("'int'", "null", framed(1, "\x0a"))
	for _, c := range [][2]string{{whole + "\x00", ""}, {whole, "\x00"}, {whole, framed(1, "\x0b")}, {"", whole}, {coded("'int'", "null") + "\x00", ""}} {
		f := holding(t, c[0], c[1])
		f.Fuse(1)
		for range 2 {
			if w, err := Resume(f, 1); w != nil || reasonOf(t, err) != ErrDown {
				t.Errorf("%q: %v, %v", c, w, err)
			}
			has(t, f, c[0], c[1])
		}
		isDown(t, f)
		f.Crash(math.MaxInt)
		has(t, f, c[0]+c[1], "")
	}
	f := holding(t, whole, "")
	f.Fuse(1)
	isDown(t, f)
	w, err := Resume(f, 100)
	well(t, err)
	well(t, w.Append(number(3, 5)))
	if err := w.Flush(); reasonOf(t, err) != ErrDown {
		t.Errorf("a file that is down: %v", err)
	}
	over(t, f, w, ErrDown)
	f = holding(t, whole, "\x00")
	f.Fuse(2)
	w, err = Resume(f, 1)
	well(t, err)
	if err := w.Append(number(3, 5)); reasonOf(t, err) != ErrDown {
		t.Errorf("the second operation: %v", err)
	}
	f.Crash(0)
	has(t, f, whole, "")
	if w, err := Resume(nil, 1); w != nil || reasonOf(t, err) != ErrDown {
		t.Errorf("what NewFile did not make: %v, %v", w, err)
	}
}

// P18, P17: a writer keeps and refuses as one that Create made.
func TestResumeAppend(t *testing.T) {
	header := coded("'bytes'", "null")
	f := holding(t, header, "")
	w := resumed(t, f, 65536, 0)
	if err := w.Append(number(3, 5)); reasonOf(t, err) != ErrDatum {
		t.Errorf("no datum: %v", err)
	}
	if err := w.Append(worded(7, strings.Repeat("x", 65534))); reasonOf(t, err) != ErrMany {
		t.Errorf("too many bytes: %v", err)
	}
	appended(t, f, w, worded(7, strings.Repeat("x", 39997)), 0)
	appended(t, f, w, worded(7, strings.Repeat("y", 65533)), 2)
	behind(t, f, header, "", framed(1, sized(strings.Repeat("x", 39997)))+framed(1, sized(strings.Repeat("y", 65533))))
	// What an earlier writer keeps is its own.
	f, old := created(t, "'int'", 0, 100)
	well(t, old.Append(number(3, 5)))
	w = resumed(t, f, 1, 0)
	well(t, w.Append(number(3, -6)))
	well(t, old.Flush())
	behind(t, f, coded("'int'", "null"), framed(1, "\x0b")+framed(1, "\x0a"), "")
}

// P18: nothing comes between what Resume looks at and what it replaces.
func TestResumeLock(t *testing.T) {
	f := holding(t, "abc", "d")
	err := f.cut(func(all string) (int, error) {
		if f.lock.TryLock() {
			t.Error("within it the file is another's, too")
		}
		if all != "abcd" {
			t.Errorf("all: %q", all)
		}
		return 2, nil
	})
	well(t, err)
	has(t, f, "ab", "")
	if !f.lock.TryLock() {
		t.Error("the file is not left to others")
	}
}

// P18: what others write meanwhile is not lost.
func TestResumeAtTheSameTime(t *testing.T) {
	f := holding(t, coded("'int'", "null"), "")
	const writers, records = 4, 100
	var all sync.WaitGroup
	for i := range writers {
		all.Go(func() {
			for n := range records {
				w, err := Resume(f, 1)
				if err != nil {
					t.Error(err)
					return
				}
				w.Append(number(3, int64(i*records+n)))
			}
		})
	}
	all.Wait()
	safe, written := f.Bytes()
	list, err := ReadAll(safe+written, nil)
	well(t, err)
	counts := map[int64]int{}
	for _, d := range list {
		counts[d.Int]++
	}
	if len(list) != writers*records || len(counts) != len(list) {
		t.Errorf("%d records, %d of them different, want %d", len(list), len(counts), writers*records)
	}
}

// P15 to P18: whatever goes down, and however much a crash leaves: what Resume goes on with is the first of what was appended, and no less than was flushed.
func TestResumeCrashes(t *testing.T) {
	r := rand.New(rand.NewSource(21))
	counts := map[string]int{}
	for range 300 {
		codec, block := r.Intn(3), 1+r.Intn(8)
		f, w := created(t, "'int'", codec, block)
		var sent []int64 // by writers, and not lost yet
		flushed := 0
		for range 6 {
			if r.Intn(3) > 0 {
				f.Fuse(1 + r.Intn(12))
			}
			for range r.Intn(15) {
				n := r.Int63n(1 << 20)
				sent = append(sent, n)
				if w.Append(number(3, n)) != nil {
					break
				}
				if r.Intn(4) == 0 && w.Flush() == nil {
					flushed = len(sent)
				}
			}
			_, written := f.Bytes()
			f.Crash(r.Intn(len(written) + 3))
			if r.Intn(4) == 0 {
				f.Fuse(1)
			}
			safe, _ := f.Bytes()
			next, err := Resume(f, block)
			if err != nil {
				counts["down"]++
				has(t, f, safe, "")
				f.Crash(0)
				next, err = Resume(f, block)
				well(t, err)
			}
			f.Fuse(0)
			whole, _ := f.Bytes()
			if len(whole) < len(safe) {
				counts["cut"]++
			}
			list, err := ReadAll(whole, nil)
			if err != nil || len(list) < flushed || len(list) > len(sent) || !strings.HasPrefix(safe, whole) {
				t.Fatalf("%d records of %d, %d of them flushed: %v", len(list), len(sent), flushed, err)
			}
			for i, d := range list {
				if d.Int != sent[i] {
					t.Fatalf("record %d: %d, want %d", i, d.Int, sent[i])
				}
			}
			w, sent, flushed = next, sent[:len(list)], len(list)
		}
	}
	if counts["down"] < 50 || counts["cut"] < 50 {
		t.Errorf("too few to tell: %v", counts)
	}
}

// P18: bytes bent anywhere: what is left is what the rules tell.
func TestResumeBent(t *testing.T) {
	r := rand.New(rand.NewSource(22))
	counts := map[string]int{}
	for range 5000 {
		codec := codecs[r.Intn(3)]
		header := coded("'string'", codec)
		file := header + bentBlocks(r, codec)
		end := len(header)
		for at, found := end, true; found && at < len(file); {
			if _, at, found = blockAt(schemaOf(t, "'string'"), codec, file, at); found {
				end = at
			}
		}
		f := holding(t, file, "")
		operations := 0
		if end < len(file) {
			operations = 1
			counts["cut"]++
		}
		counts[fmt.Sprint(end > len(header))]++
		resumed(t, f, 1, operations)
		has(t, f, file[:end], "")
	}
	if counts["cut"] < 500 || counts["true"] < 500 || counts["false"] < 500 {
		t.Errorf("too few to tell: %v", counts)
	}
}
