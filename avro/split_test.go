package avro

import (
	"fmt"
	"math"
	"math/rand"
	"strings"
	"testing"
)

// splits looks at the records of a part of a file: these, or the error alone.
func splits(t *testing.T, what, file string, from, to int, reason error, at int, want ...Datum) {
	t.Helper()
	list, err := ReadSplit(file, from, to)
	gotReason, gotAt := faultOf(t, err)
	if shown(of(11, list...)) != shown(of(11, want...)) || gotReason != reason || gotAt != at || err != nil && list != nil {
		t.Errorf("%s, %d to %d: got %.200s, %v, want %.200s, %v at %d", what, from, to, shown(of(11, list...)), err, shown(of(11, want...)), reason, at)
	}
}

// P20: any part of a whole file: the records of the blocks that begin in it.
func TestReadSplit(t *testing.T) {
	for _, codec := range codecs {
		header := coded("'int'", codec)
		blocks := []string{framed(1, told(codec, "\x0a")), framed(2, told(codec, "\x0b\x0e")), framed(1, told(codec, "\x10"))}
		data := [][]Datum{{number(3, 5)}, {number(3, -6), number(3, 7)}, {number(3, 8)}}
		file := header + strings.Join(blocks, "")
		for from := -2; from < len(file)+3; from++ {
			for to := -2; to < len(file)+3; to++ {
				var want []Datum
				begin := len(header)
				for i, block := range blocks {
					if from <= begin && begin < to {
						want = append(want, data[i]...)
					}
					begin += len(block)
				}
				splits(t, codec, file, from, to, nil, noFault, want...)
			}
		}
	}
}

// P20: numbers beyond all files.
func TestReadSplitEdges(t *testing.T) {
	header := coded("'int'", "null")
	file := header + framed(1, "\x0a")
	splits(t, "all", file, math.MinInt, math.MaxInt, nil, noFault, number(3, 5))
	splits(t, "all, from the header's end", file, len(header), len(header)+1, nil, noFault, number(3, 5))
	splits(t, "up to the header's end", file, 0, len(header), nil, noFault)
	splits(t, "up to nothing", file, math.MinInt, math.MinInt, nil, noFault)
	splits(t, "from beyond", file, math.MaxInt, math.MaxInt, nil, noFault)
	splits(t, "from beyond, to ahead of it", file, math.MaxInt, math.MinInt, nil, noFault)
	splits(t, "from behind the header's end", file, len(header)+1, math.MaxInt, nil, noFault)
	splits(t, "from the end", file, len(file), math.MaxInt, nil, noFault)
	splits(t, "from behind the end", file, len(file)+1, math.MaxInt, nil, noFault)
	splits(t, "no blocks", header, 0, math.MaxInt, nil, noFault)
	splits(t, "no blocks, from behind the end", header, len(header)+1, math.MaxInt, nil, noFault)
}

// P20: parts that are one behind the other have each record once.
func TestReadSplitParts(t *testing.T) {
	r := rand.New(rand.NewSource(24))
	schemas := drawn(t)
	for range 300 {
		s, codec := schemas[r.Intn(len(schemas))], r.Intn(3)
		f, w := created(t, s.Canonical(), codec, 1+r.Intn(20))
		var want []Datum
		for range r.Intn(30) {
			d := anyDatum(r, s)
			want = append(want, d)
			well(t, w.Append(d))
		}
		well(t, w.Close())
		file, _ := f.Bytes()
		var got []Datum
		for from := 0; from < len(file); {
			to := from + 1 + r.Intn(60)
			list, err := ReadSplit(file, from, to)
			well(t, err)
			got = append(got, list...)
			from = to
		}
		if shown(of(11, got...)) != shown(of(11, want...)) {
			t.Errorf("%q: got %.200s, want %.200s", file, shown(of(11, got...)), shown(of(11, want...)))
		}
	}
}

// P20: the header's errors are told whatever the part, and of no record.
func TestReadSplitHeader(t *testing.T) {
	whole := coded("'int'", "null")
	for file, want := range map[string]error{
		"":                            ErrHeader,
		whole[1:]:                     ErrHeader,
		whole[:len(whole)-1]:          ErrHeader,
		coded("int", "x"):             ErrText,
		coded("'in'", "x"):            ErrSchema,
		coded("'int'", "x"):           ErrCodec,
		coded("'int'", "x") + "\x00":  ErrCodec,
		whole[1:] + framed(1, "\x0a"): ErrHeader,
	} {
		for _, from := range []int{math.MinInt, -1, 0, 1, len(file), len(file) + 1, math.MaxInt} {
			for _, to := range []int{math.MinInt, 0, len(file), math.MaxInt} {
				splits(t, fmt.Sprintf("%q", file), file, from, to, want, noFault)
			}
		}
	}
}

// P20: a block's error: no list, and how many records of the part are ahead of it. What is not of the part is not looked at.
func TestReadSplitWrong(t *testing.T) {
	for _, codec := range codecs {
		two, one := framed(2, told(codec, "\x0a\x0b")), framed(1, told(codec, "\x0e"))
		for what, c := range map[string]struct {
			block string
			want  error
		}{
			"a count":         {framed(0, told(codec, "")), ErrBlock},
			"a record's half": {framed(1, told(codec, "\x8a")), ErrShort},
			"no int":          {framed(1, told(codec, "\x80\x80\x80\x80\x10")), ErrRange},
			"bytes behind":    {framed(1, told(codec, "\x0a\x0b")), ErrBlock},
			"too many bytes":  {framed(65536, told(codec, strings.Repeat("\x00", 65537))), ErrCap},
		} {
			header := coded("'int'", codec)
			begin := len(header) + len(two)
			bad := begin + len(one)
			file := header + two + one + c.block + one
			splits(t, codec+": "+what, file, 0, math.MaxInt, c.want, 3)
			splits(t, codec+": "+what, file, begin, math.MaxInt, c.want, 1)
			splits(t, codec+": "+what, file, begin-1, bad+1, c.want, 1)
			splits(t, codec+": "+what, file, begin+1, math.MaxInt, c.want, 0)
			splits(t, codec+": "+what, file, bad, bad+1, c.want, 0)
			splits(t, codec+": "+what+", behind the part", file, 0, bad, nil, noFault, number(3, 5), number(3, -6), number(3, 7))
			splits(t, codec+": "+what+", behind the part", file, begin, bad, nil, noFault, number(3, 7))
			splits(t, codec+": "+what+", no part", file, bad, bad, nil, noFault)
			splits(t, codec+": "+what+", ahead of the part", file, bad+1, math.MaxInt, nil, noFault, number(3, 7))
		}
	}
	header := coded("'int'", "null")
	whole := framed(1, "\x0a")
	for i := range len(whole) - 1 {
		file := header + whole + whole[:1+i]
		splits(t, "cut", file, 0, math.MaxInt, ErrBlock, 1)
		splits(t, "cut", file, len(header)+1, math.MaxInt, ErrBlock, 0)
		splits(t, "cut, and no marker", file, len(header)+len(whole)+1, math.MaxInt, nil, noFault)
		splits(t, "cut, behind the part", file, 0, len(header)+len(whole), nil, noFault, number(3, 5))
	}
	packed := coded("'int'", "deflate", framed(1, "\x07"))
	splits(t, "not packed", packed, 0, math.MaxInt, ErrFlate, 0)
	splits(t, "deep", coded(linkedSchema, "null", framed(1, strings.Repeat("\x02", 31)+"\x00")), 0, math.MaxInt, ErrDeep, 0)
	splits(t, "many", coded("{'type':'array','items':'null'}", "null", framed(1, "\xd2\x0f\x00")), 0, math.MaxInt, ErrMany, 0)
}

// P20: a marker is wherever its bytes stand: in a record, and over the header's end.
func TestReadSplitWithin(t *testing.T) {
	header := coded("'string'", "null")
	inner := framed(1, sized("in"))
	outer := "x" + sixteenBytes + inner
	file := header + framed(1, sized(outer)) + framed(1, sized("last"))
	begin := len(header) + 3 // of the outer's text: behind a count, a size and a length of a byte each
	splits(t, "whole", file, 0, math.MaxInt, nil, noFault, worded(8, outer), worded(8, "last"))
	splits(t, "a block within", file, len(header)+1, begin+18, nil, noFault, worded(8, "in"))
	splits(t, "a block within, and what is behind it", file, begin+17, math.MaxInt, ErrBlock, 1)
	splits(t, "the marker behind the block within", file, begin+18, begin+len(outer), nil, noFault)
	splits(t, "the block's own", file, begin+len(outer)+1, math.MaxInt, nil, noFault, worded(8, "last"))
	same := strings.Repeat("\x02", 16)
	file = strings.ReplaceAll(coded("'int'", "null", framed(1, "\x02"), framed(1, "\x02")), sixteenBytes, same)
	end := len(coded("'int'", "null"))
	splits(t, "one byte's marker", file, end, math.MaxInt, nil, noFault, number(3, 1), number(3, 1))
	for i := 1; i < 19; i++ {
		splits(t, "over the header's end", file, end+i, end+i+1, nil, noFault, number(3, 1))
		splits(t, "over the header's end", file, end+i, math.MaxInt, ErrBlock, 1)
	}
	splits(t, "one byte's marker, from the second on", file, end+19, math.MaxInt, nil, noFault, number(3, 1))
}

// P20: any blocks, bent and cut, in any part: what the rules tell.
func TestReadSplitBent(t *testing.T) {
	r := rand.New(rand.NewSource(25))
	s := schemaOf(t, "'string'")
	counts := map[string]int{}
	for range 20000 {
		codec := codecs[r.Intn(3)]
		header := coded("'string'", codec)
		file := header + bentBlocks(r, codec)
		from, to := r.Intn(len(file)+2), r.Intn(len(file)+2)
		at := len(header)
		if from > at {
			for at = from; at <= len(file) && file[at-16:at] != sixteenBytes; {
				at++
			}
		}
		var want []Datum
		failed := false
		for at < to && at < len(file) && !failed {
			list, end, found := blockAt(s, codec, file, at)
			want, at, failed = append(want, list...), end, !found
		}
		if !failed {
			counts[fmt.Sprint(len(want) > 0)]++
			splits(t, fmt.Sprintf("%q", file), file, from, to, nil, noFault, want...)
			continue
		}
		counts["failed"]++
		list, err := ReadSplit(file, from, to)
		if _, place := faultOf(t, err); list != nil || place != len(want) {
			t.Errorf("%q, %d to %d: %v, %v, want an error at %d", file, from, to, list, err, len(want))
		}
	}
	if counts["true"] < 1000 || counts["false"] < 1000 || counts["failed"] < 500 {
		t.Errorf("too few to tell: %v", counts)
	}
}

// P2: the records are the caller's.
func TestReadSplitIsNew(t *testing.T) {
	file := coded("{'type':'array','items':'int'}", "null", framed(2, "\x02\x0a\x00\x02\x0b\x00"))
	first, err := ReadSplit(file, 0, math.MaxInt)
	well(t, err)
	for i := range first {
		first[i].Kids[0].Int = 9
	}
	splits(t, "again", file, 0, math.MaxInt, nil, noFault, ints(5), ints(-6))
}
