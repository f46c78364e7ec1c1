package avro

import (
	"encoding/binary"
	"fmt"
	"math/rand"
	"strings"
	"testing"
)

// blockAt tells the block at a place of a file, if one of few bytes is there: its records, and its end. (A model: the frame is read by the library.)
func blockAt(s *Schema, codec, file string, at int) ([]Datum, int, bool) {
	count, n := binary.Varint([]byte(file[at:]))
	if n <= 0 || count < 1 || count > 65536 {
		return nil, 0, false
	}
	size, m := binary.Varint([]byte(file[at+n:]))
	begin := at + n + m
	if m <= 0 || size < 0 || size > int64(len(file)-begin-16) {
		return nil, 0, false
	}
	end := begin + int(size) + 16
	if file[end-16:end] != sixteenBytes {
		return nil, 0, false
	}
	records := file[begin : end-16]
	if codec == "deflate-crc" {
		packed := records[:max(0, len(records)-4)]
		unpacked, err := Inflate(packed, 65536)
		if err != nil || summed(packed, unpacked) != records {
			return nil, 0, false
		}
		records = unpacked
	}
	if codec == "deflate" {
		unpacked, err := Inflate(records, 65536)
		if err != nil {
			return nil, 0, false
		}
		records = unpacked
	}
	var list []Datum
	for range count {
		d, n, err := s.Decode(records)
		if err != nil {
			return nil, 0, false
		}
		list, records = append(list, d), records[n:]
	}
	if records != "" {
		return nil, 0, false
	}
	return list, end, true
}

// bentBlocks are some blocks of strings, a byte of them bent here and there, some of them with a marker or a block in a string; perhaps they are cut.
func bentBlocks(r *rand.Rand, codec string) string {
	blocks := ""
	for range r.Intn(6) {
		records, count := "", int64(0)
		for range 1 + r.Intn(3) {
			text := []string{"", "a", sixteenBytes, sixteenBytes + framed(1, told(codec, "\x02z")), sixteenBytes[:9]}[r.Intn(5)]
			records, count = records+sized(text), count+1
		}
		blocks += framed(count, told(codec, records))
	}
	bytes := []byte(blocks)
	for range r.Intn(4) {
		if len(bytes) > 0 {
			bytes[r.Intn(len(bytes))] ^= 1 << r.Intn(8)
		}
	}
	if r.Intn(3) == 0 {
		bytes = bytes[:r.Intn(len(bytes)+1)]
	}
	return string(bytes)
}

// recovers looks at what is told of a file: these records, and how often something was left out.
func recovers(t *testing.T, what, file string, leftOut int, want ...Datum) {
	t.Helper()
	list, n, err := Recover(file)
	if shown(of(11, list...)) != shown(of(11, want...)) || n != leftOut || err != nil {
		t.Errorf("%s: got %.200s, %d, %v, want %.200s, %d", what, shown(of(11, list...)), n, err, shown(of(11, want...)), leftOut)
	}
}

// P21: whole files: all of the records, and nothing is left out.
func TestRecover(t *testing.T) {
	for _, codec := range codecs {
		recovers(t, "none", coded("'int'", codec), 0)
		recovers(t, "one", coded("'int'", codec, framed(1, told(codec, "\x0a"))), 0, number(3, 5))
		recovers(t, "some", coded("'int'", codec, framed(2, told(codec, "\x0a\x0b")), framed(1, told(codec, "\x0e"))), 0, number(3, 5), number(3, -6), number(3, 7))
	}
	recovers(t, "no codec told", headed("avro.schema", `"int"`)+framed(1, "\x0a"), 0, number(3, 5))
	recovers(t, "markers in strings", coded("'string'", "null", framed(1, sized(sixteenBytes)), framed(1, sized(sixteenBytes+framed(1, "\x02a")))), 0, worded(8, sixteenBytes), worded(8, sixteenBytes+framed(1, "\x02a")))
}

// P21: the header's errors: no records, and nothing is left out.
func TestRecoverHeader(t *testing.T) {
	whole := coded("'int'", "null")
	for file, want := range map[string]error{
		"":                                   ErrHeader,
		whole[1:]:                            ErrHeader,
		whole[:len(whole)-1]:                 ErrHeader,
		headed("avro.codec", "x"):            ErrHeader,
		coded("int", "x"):                    ErrText,
		coded("'in'", "x"):                   ErrSchema,
		coded("'int'", "x"):                  ErrCodec,
		coded("'int'", "x") + "\x00":         ErrCodec,
		whole[1:] + framed(1, "\x0a"):        ErrHeader,
		coded("int", "null") + sixteenBytes:  ErrText,
		coded("'in'", "null") + sixteenBytes: ErrSchema,
	} {
		if list, n, err := Recover(file); list != nil || n != 0 || reasonOf(t, err) != want {
			t.Errorf("%q: %v, %d, %v, want %v", file, list, n, err, want)
		}
	}
}

// P21: a file that is cut anywhere behind its header: the whole blocks; what is left out is so once.
func TestRecoverCut(t *testing.T) {
	for _, codec := range codecs {
		header, block := coded("'int'", codec), framed(1, told(codec, "\x0a"))
		for n := range 4 * len(block) {
			file := (header + strings.Repeat(block, 4))[:len(header)+n]
			leftOut := 0
			if n%len(block) > 0 {
				leftOut = 1
			}
			var want []Datum
			for range n / len(block) {
				want = append(want, number(3, 5))
			}
			recovers(t, fmt.Sprint(codec, ": ", n, " bytes of blocks"), file, leftOut, want...)
		}
	}
}

// P21: what is no block, with a marker at its end or not, first, last or between: it goes on behind the next marker.
func TestRecoverLeftOut(t *testing.T) {
	five, seven := number(3, 5), number(3, 7)
	first, last := framed(1, "\x0a"), framed(1, "\x0e")
	bad := framed(1, "\x8a")
	noMarker := bad[:len(bad)-1] + "g"
	recovers(t, "first", coded("'int'", "null", bad, first, last), 1, five, seven)
	recovers(t, "between", coded("'int'", "null", first, bad, last), 1, five, seven)
	recovers(t, "last", coded("'int'", "null", first, last, bad), 1, five, seven)
	recovers(t, "alone", coded("'int'", "null", bad), 1)
	recovers(t, "two, one behind the other", coded("'int'", "null", first, bad, bad, last), 2, five, seven)
	recovers(t, "two, apart", coded("'int'", "null", bad, first, bad, last), 2, five, seven)
	recovers(t, "the marker, too: it goes with the block behind it", coded("'int'", "null", noMarker, first, last), 1, seven)
	recovers(t, "the marker, too, and no other", coded("'int'", "null", first, noMarker), 1, five)
	recovers(t, "a byte ahead", coded("'int'", "null", "\x00", first, last), 1, seven)
	recovers(t, "a marker ahead", coded("'int'", "null", sixteenBytes, first, last), 1, five, seven)
	recovers(t, "markers, each of them for itself", coded("'int'", "null", first, strings.Repeat(sixteenBytes, 3), last), 3, five, seven)
	recovers(t, "a byte behind", coded("'int'", "null", first, last, "\x00"), 1, five, seven)
	recovers(t, "a marker behind", coded("'int'", "null", first, last, sixteenBytes), 1, five, seven)
	recovers(t, "a marker and a byte behind", coded("'int'", "null", first, last, sixteenBytes, "\x00"), 2, five, seven)
	recovers(t, "no block at all", coded("'int'", "null", strings.Repeat("x", 1000)), 1)
	recovers(t, "of a block all or nothing", coded("'int'", "null", framed(3, "\x0a\x0b\x8a"), last), 1, seven)
}

// P21: each of P16's ways of being none.
func TestRecoverNoBlock(t *testing.T) {
	beyond := strings.Repeat("\x00", 65537)
	for codec, blocks := range map[string][]string{
		"null":        {framed(0, ""), framed(-1, "\x0a"), framed(65537, ""), framed(65536, beyond), framed(1, ""), framed(1, "\x80\x80\x80\x80\x10"), framed(1, "\x0a\x0b"), long(1) + long(-1) + sixteenBytes, long(1) + long(1<<40) + sixteenBytes},
		"deflate":     {framed(1, ""), framed(1, "\x07"), framed(1, Deflate("\x0a")+"\x00"), framed(65536, Deflate(beyond)), framed(1, Deflate("")), framed(1, Deflate("\x8a")), framed(1, Deflate("\x0a\x0b"))},
		"deflate-crc": {framed(1, "\x4b\x04\x00"), framed(1, Deflate("\x0a")), framed(1, summed(Deflate("\x0a"), "\x0b")), framed(1, summed("\x07", "\x0a")), framed(2, told("deflate-crc", "\x0a"))},
	} {
		whole := framed(1, told(codec, "\x0a"))
		for _, block := range blocks {
			recovers(t, fmt.Sprintf("%s: %.40q", codec, block), coded("'int'", codec, whole, block, whole), 1, number(3, 5), number(3, 5))
		}
	}
}

// P21: a marker is wherever its bytes stand: in what is left out, too, and what stands behind that may be a block.
func TestRecoverWithin(t *testing.T) {
	inner := sixteenBytes + framed(1, sized("in"))
	file := coded("'string'", "null", framed(2, sized("ahead"+inner)), framed(1, sized("last")))
	// Behind the inner block the outer one's marker stands, which is none either.
	recovers(t, "a block within", file, 2, worded(8, "in"), worded(8, "last"))
	// Markers that overlap: the one that begins first is taken.
	same := strings.Repeat("\x02", 16)
	file = strings.ReplaceAll(coded("'int'", "null", "\x00", framed(1, "\x02")), sixteenBytes, same)
	recovers(t, "a marker of one byte", file, 2)
	recovers(t, "a marker of one byte, and as many more as a block needs", file+strings.Repeat("\x02", 16), 1, number(3, 1))
}

// P21: any blocks, bent and cut: what the rules tell.
func TestRecoverBent(t *testing.T) {
	r := rand.New(rand.NewSource(23))
	s := schemaOf(t, "'string'")
	counts := map[int]int{}
	for range 10000 {
		codec := codecs[r.Intn(3)]
		header := coded("'string'", codec)
		file := header + bentBlocks(r, codec)
		var want []Datum
		leftOut := 0
		for at := len(header); at < len(file); {
			list, end, found := blockAt(s, codec, file, at)
			if found {
				want, at = append(want, list...), end
				continue
			}
			leftOut++
			for at += 16; at <= len(file) && file[at-16:at] != sixteenBytes; {
				at++
			}
		}
		counts[min(leftOut, 3)]++
		recovers(t, fmt.Sprintf("%q", file), file, leftOut, want...)
	}
	for n := range 4 {
		if counts[n] < 200 {
			t.Errorf("%d times left out: %d: too few to tell", n, counts[n])
		}
	}
}

// P21: as long as the file is whole, as ReadAll; P2: the records are the caller's.
func TestRecoverIsNew(t *testing.T) {
	schema := "{'type':'map','values':{'type':'array','items':'int'}}"
	item := "\x02\x02k\x02\x0a\x00\x00"
	file := coded(schema, "deflate", framed(2, Deflate(item+item)), framed(1, Deflate(item)))
	want := mapped([]string{"k"}, ints(5))
	first, _, err := Recover(file)
	well(t, err)
	for i := range first {
		if shown(first[i]) != shown(want) {
			t.Errorf("%d: %s, want %s", i, shown(first[i]), shown(want))
		}
		first[i].Names[0], first[i].Kids[0].Kids[0].Int = "x", 9
	}
	recovers(t, "again", file, 0, want, want, want)
}

// P1, P21: also a file of markers alone comes to its end, whatever stands in the marker: no block, a block's beginning, or one that says that half of the file is a block.
func TestRecoverMarkers(t *testing.T) {
	const many = 20000
	far := "\x02" + long(16*many/2-4)
	for _, marker := range []string{sixteenBytes, strings.Repeat("\x00", 16), "\x02\x3c" + strings.Repeat("\xff", 14), far + strings.Repeat("\xff", 16-len(far))} {
		header := coded("'int'", "null")
		header = header[:len(header)-16] + marker
		if list, n, err := Recover(header + strings.Repeat(marker, many)); len(list) > 0 || n != many || err != nil {
			t.Errorf("%q: %d records, %d, %v", marker, len(list), n, err)
		}
	}
}
