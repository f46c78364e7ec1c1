package avro

import (
	"encoding/binary"
	"errors"
	"fmt"
	"hash/crc32"
	"math"
	"math/rand"
	"strings"
	"testing"
)

const (
	sixteenBytes = "0123456789abcdef"
	noFault      = -1
)

// long is a number as a varint.
func long(n int64) string { return string(binary.AppendVarint(nil, n)) }

// sized is a text behind its length.
func sized(text string) string { return long(int64(len(text))) + text }

// headed is a header with these entries: a key, what it names, and so on.
func headed(entries ...string) string {
	header := "Obj\x01" + long(int64(len(entries)/2))
	for _, entry := range entries {
		header += sized(entry)
	}
	return header + "\x00" + sixteenBytes
}

// framed is a block of so many records.
func framed(count int64, bytes string) string { return long(count) + sized(bytes) + sixteenBytes }

// summed is a text behind which its sum stands, as deflate-crc has it.
func summed(text, records string) string {
	return text + string(binary.BigEndian.AppendUint32(nil, crc32.ChecksumIEEE([]byte(records))))
}

// told is some records' bytes as a codec has them.
func told(codec, records string) string {
	switch codec {
	case "deflate":
		return Deflate(records)
	case "deflate-crc":
		return summed(Deflate(records), records)
	}
	return records
}

// faultOf tells an error's reason, which must be just one, and of which record it is; noFault, if it tells none.
func faultOf(t *testing.T, err error) (error, int) {
	t.Helper()
	var f *Fault
	if !errors.As(err, &f) {
		return reasonOf(t, err), noFault
	}
	if !strings.Contains(err.Error(), f.Err.Error()) {
		t.Errorf("a fault whose text tells no reason: %v", err)
	}
	return reasonOf(t, f.Err), f.At
}

// reads looks at what is told of a file: these records, and then the error, if one is wanted: in a list, and one by one.
func reads(t *testing.T, what, file string, r *Schema, want []Datum, reason error, at int) {
	t.Helper()
	list, err := ReadAll(file, r)
	if gotReason, gotAt := faultOf(t, err); shown(of(11, list...)) != shown(of(11, want...)) || gotReason != reason || gotAt != at {
		t.Errorf("%s: got %.200s, %v, want %.200s, %v at %d", what, shown(of(11, list...)), err, shown(of(11, want...)), reason, at)
	}
	one := []Datum{}
	var last error
	for d, err := range Records(file, r) {
		if last != nil {
			t.Errorf("%s: it goes on behind %v", what, last)
		}
		last = err
		if err == nil {
			one = append(one, d)
		} else if shown(d) != shown(Datum{}) {
			t.Errorf("%s: beside %v: %s", what, err, shown(d))
		}
	}
	if gotReason, gotAt := faultOf(t, last); shown(of(11, one...)) != shown(of(11, list...)) || gotReason != reason || gotAt != at {
		t.Errorf("%s: one by one: %.200s, %v", what, shown(of(11, one...)), last)
	}
}

// P16: headers that are there, as P8 has the map, or as P9 reads it.
func TestHeaders(t *testing.T) {
	schema := sized("avro.schema") + sized(`"int"`)
	codec := sized("avro.codec") + sized("deflate")
	for what, header := range map[string]string{
		"a schema alone":          headed("avro.schema", `"int"`),
		"null":                    headed("avro.codec", "null", "avro.schema", `"int"`),
		"the schema ahead":        headed("avro.schema", `"int"`, "avro.codec", "null"),
		"blanks in the schema":    headed("avro.schema", ` { "type" : "int" } `),
		"others":                  headed("", "", "avro.schema", `"int"`, "avro.Codec", "x", "avro.codec ", "\xff", "schema", "x"),
		"a block with its size":   "Obj\x01\x01" + long(int64(len(schema))) + schema + "\x00" + sixteenBytes,
		"longer forms of numbers": "Obj\x01\x82\x00" + schema + "\x80\x00" + sixteenBytes,
	} {
		reads(t, what, header, nil, nil, nil, noFault)
		reads(t, what, header+framed(1, "\x0a"), nil, []Datum{number(3, 5)}, nil, noFault)
	}
	for what, header := range map[string]string{
		"deflate":    headed("avro.schema", `"int"`, "avro.codec", "deflate"),
		"two blocks": "Obj\x01\x02" + codec + "\x02" + schema + "\x00" + sixteenBytes,
	} {
		reads(t, what, header+framed(1, Deflate("\x0a")), nil, []Datum{number(3, 5)}, nil, noFault)
	}
	header := headed("avro.schema", `"int"`, "avro.codec", "deflate-crc")
	reads(t, "deflate-crc", header+framed(1, summed(Deflate("\x0a"), "\x0a")), nil, []Datum{number(3, 5)}, nil, noFault)
}

// P16: headers that are not there. Of several errors the one that is named first.
func TestHeadersWrong(t *testing.T) {
	whole := headed("avro.codec", "null", "avro.schema", `"int"`)
	for i := range whole {
		reads(t, fmt.Sprint("the first bytes: ", i), whole[:i], nil, nil, ErrHeader, noFault)
	}
	for i := range 4 {
		reads(t, fmt.Sprint("bent at ", i), whole[:i]+string([]byte{whole[i] ^ 1})+whole[i+1:], nil, nil, ErrHeader, noFault)
	}
	schema := sized("avro.schema") + sized(`"int"`)
	for what, header := range map[string]string{
		"no entries":               headed(),
		"no schema":                headed("avro.codec", "null"),
		"another's case":           headed("Avro.schema", `"int"`),
		"no schema, and a codec":   headed("avro.codec", "snappy"),
		"a key twice":              headed("avro.schema", `"int"`, "avro.schema", `"int"`),
		"another's key twice":      headed("x", "", "avro.schema", `"int"`, "x", ""),
		"a key that is no UTF-8":   headed("avro.schema", `"int"`, "\xff", ""),
		"another size":             "Obj\x01\x01" + long(int64(len(schema)+1)) + schema + "\x00" + sixteenBytes,
		"a size below 0":           "Obj\x01\x01\x01" + schema + "\x00" + sixteenBytes,
		"a length below 0":         "Obj\x01\x02\x01" + sixteenBytes,
		"a length beyond":          "Obj\x01\x02" + long(math.MaxInt64) + sixteenBytes,
		"a count beyond":           "Obj\x01" + long(math.MinInt64) + "\x00" + schema + "\x00" + sixteenBytes,
		"bytes ahead":              " " + whole,
		"a file of another manner": "Obj\x02" + whole[4:],
	} {
		reads(t, what, header+framed(1, "\x0a"), nil, nil, ErrHeader, noFault)
	}
	for i := range 16 {
		noJSON := headed("avro.schema", "x", "avro.codec", "x")
		reads(t, fmt.Sprint("no JSON, and of the marker only ", i), noJSON[:len(noJSON)-16+i], nil, nil, ErrHeader, noFault)
	}
	for what, c := range map[string]struct {
		header string
		want   error
	}{
		"an empty schema":         {headed("avro.schema", ""), ErrText},
		"no JSON":                 {headed("avro.schema", "int"), ErrText},
		"no UTF-8":                {headed("avro.schema", "\"\xff\""), ErrText},
		"4,001 bytes":             {headed("avro.schema", `"int"`+strings.Repeat(" ", 3996)), ErrText},
		"no schema":               {headed("avro.schema", `"integer"`), ErrSchema},
		"no JSON, and no codec":   {headed("avro.codec", "snappy", "avro.schema", "int"), ErrText},
		"no schema, and no codec": {headed("avro.codec", "snappy", "avro.schema", `"integer"`), ErrSchema},
		"no codec":                {headed("avro.codec", "snappy", "avro.schema", `"int"`), ErrCodec},
		"an empty codec":          {headed("avro.codec", "", "avro.schema", `"int"`), ErrCodec},
		"a codec's case":          {headed("avro.codec", "Null", "avro.schema", `"int"`), ErrCodec},
		"a codec with a blank":    {headed("avro.codec", "null ", "avro.schema", `"int"`), ErrCodec},
		"a codec's beginning":     {headed("avro.codec", "deflate-", "avro.schema", `"int"`), ErrCodec},
	} {
		reads(t, what, c.header+framed(1, "\x0a"), nil, nil, c.want, noFault)
	}
	reads(t, "4,000 bytes", headed("avro.schema", `"int"`+strings.Repeat(" ", 3995)), nil, nil, nil, noFault)
}

// P16: as P9 reads it: 1,000 entries, and no more.
func TestHeadersMany(t *testing.T) {
	for n, want := range map[int]error{1000: nil, 1001: ErrHeader} {
		entries := []string{"avro.schema", `"int"`}
		for i := range n - 1 {
			entries = append(entries, fmt.Sprint(i), "")
		}
		reads(t, fmt.Sprint(n, " entries"), headed(entries...), nil, nil, want, noFault)
	}
}

// coded is a file of a schema and a codec, with these blocks.
func coded(schema, codec string, blocks ...string) string {
	return headed("avro.codec", codec, "avro.schema", plainly(schema)) + strings.Join(blocks, "")
}

// wrong looks that a block behind a whole one is none: the whole one's records are told, and then the error.
func wrong(t *testing.T, what, codec, block string, reason error) {
	t.Helper()
	ahead := framed(2, told(codec, "\x0a\x0b"))
	reads(t, codec+": "+what, coded("'int'", codec, ahead, block), nil, []Datum{number(3, 5), number(3, -6)}, reason, 2)
	reads(t, codec+": "+what+", with a whole one behind it", coded("'int'", codec, ahead, block, ahead), nil, []Datum{number(3, 5), number(3, -6)}, reason, 2)
}

// P16: what no block is, whatever the codec: it ends early, another count, another marker.
func TestFramesWrong(t *testing.T) {
	for _, codec := range codecs {
		bytes := told(codec, "\x0a")
		whole := framed(1, bytes)
		for i := range len(whole) - 1 {
			reads(t, fmt.Sprint(codec, ": the first bytes: ", i+1), coded("'int'", codec, whole, whole[:i+1]), nil, []Datum{number(3, 5)}, ErrBlock, 1)
		}
		for i := range 16 {
			bent := []byte(whole)
			bent[len(whole)-1-i] ^= 0x80
			wrong(t, fmt.Sprint("the marker bent at ", 15-i), codec, string(bent), ErrBlock)
		}
		for _, count := range []int64{0, -1, 65537, math.MinInt64, math.MaxInt64, 1 << 32} {
			wrong(t, fmt.Sprint("count ", count), codec, framed(count, bytes), ErrBlock)
		}
		for _, size := range []int64{-1, math.MinInt64, math.MaxInt64, 1 << 32, int64(len(bytes)) + 1, int64(len(bytes)) - 1} {
			wrong(t, fmt.Sprint("size ", size), codec, long(1)+long(size)+bytes+sixteenBytes, ErrBlock)
		}
		elevenBytes := strings.Repeat("\x80", 10) + "\x00"
		wrong(t, "no varint's count", codec, elevenBytes+sized(bytes)+sixteenBytes, ErrBlock)
		wrong(t, "no varint's size", codec, "\x02"+elevenBytes+bytes+sixteenBytes, ErrBlock)
		size := string([]byte{byte(2*len(bytes)) | 0x80, 0})
		reads(t, codec+": longer forms", coded("'int'", codec, "\x82\x80\x00"+size+bytes+sixteenBytes), nil, []Datum{number(3, 5)}, nil, noFault)
	}
}

// P16: 65,536 records, and bytes of them, and no more.
func TestFramesMost(t *testing.T) {
	of65536 := strings.Repeat("\x00", 65536)
	all := make([]Datum, 65536)
	for i := range all {
		all[i] = number(3, 0)
	}
	more := of65536 + "\x00"
	reads(t, "as they are", coded("'int'", "null", framed(65536, of65536)), nil, all, nil, noFault)
	reads(t, "deflated", coded("'int'", "deflate", framed(65536, Deflate(of65536))), nil, all, nil, noFault)
	reads(t, "with a sum", coded("'int'", "deflate-crc", framed(65536, summed(Deflate(of65536), of65536))), nil, all, nil, noFault)
	for i := range all {
		all[i] = null()
	}
	reads(t, "no bytes", coded("'null'", "null", framed(65536, "")), nil, all, nil, noFault)
	wrong(t, "a byte more", "null", framed(65536, more), ErrCap)
	wrong(t, "a byte more", "deflate", framed(65536, Deflate(more)), ErrCap)
	wrong(t, "a byte more", "deflate-crc", framed(65536, summed(Deflate(more), more)), ErrCap)
	wrong(t, "a byte more, and no records", "null", framed(1, strings.Repeat("\xff", 65537)), ErrCap)
	wrong(t, "a byte more, and another marker", "null", long(65536)+sized(more)+strings.ToUpper(sixteenBytes), ErrBlock)
	wrong(t, "a byte more, and another count", "null", framed(65537, more), ErrBlock)
	wrong(t, "a byte more, and another sum", "deflate-crc", framed(65536, summed(Deflate(more), of65536)), ErrCap)
	wrong(t, "a byte more, and no end", "deflate", framed(65536, Deflate(more)[:len(Deflate(more))-1]+"\xff\xff"), ErrCap)
	// Many packed bytes that say few.
	packed := strings.Repeat("\x00\x00\x00\xff\xff", 20000) + Deflate("\x0a")
	reads(t, "empty stored blocks", coded("'int'", "deflate", framed(1, packed)), nil, []Datum{number(3, 5)}, nil, noFault)
	wrong(t, "as many as they are", "null", framed(1, packed), ErrCap)
}

// P16: what is packed must be so, and its sum must be told, the high byte first.
func TestFramesPacked(t *testing.T) {
	records := "\x0a"
	for _, text := range []string{"", "\x07", "\x0a", Deflate(records)[:2], Deflate(records) + "\x00"} {
		wrong(t, fmt.Sprintf("%x", text), "deflate", framed(1, text), ErrFlate)
		wrong(t, fmt.Sprintf("%x", text), "deflate-crc", framed(1, summed(text, records)), ErrFlate)
		wrong(t, fmt.Sprintf("%x and another sum", text), "deflate-crc", framed(1, text+"\x00\x00\x00\x00"), ErrFlate)
	}
	for n := range 4 {
		wrong(t, fmt.Sprint("bytes: ", n), "deflate-crc", framed(1, Deflate(records)[:min(n, 3)]+strings.Repeat("\x00", n-min(n, 3))), ErrBlock)
	}
	whole := summed(Deflate(records), records)
	for i := range 32 {
		bent := []byte(whole)
		bent[len(whole)-1-i/8] ^= 1 << (i % 8)
		wrong(t, fmt.Sprint("a bit of the sum: ", i), "deflate-crc", framed(1, string(bent)), ErrBlock)
	}
	lowFirst := binary.LittleEndian.AppendUint32(nil, crc32.ChecksumIEEE([]byte(records)))
	wrong(t, "the low byte first", "deflate-crc", framed(1, Deflate(records)+string(lowFirst)), ErrBlock)
	wrong(t, "the sum of what is packed", "deflate-crc", framed(1, summed(Deflate(records), Deflate(records))), ErrBlock)
	wrong(t, "another sum, and no records", "deflate-crc", framed(1, summed(Deflate("\x80"), records)), ErrBlock)
	wrong(t, "no sum", "deflate-crc", framed(1, Deflate(strings.Repeat(records, 9))), ErrFlate)
	for _, level := range []int{0, 1, 6, 9, -2} {
		text := packed(t, strings.Repeat("\x0a\x0b", 300), level)
		var want []Datum
		for range 300 {
			want = append(want, number(3, 5), number(3, -6))
		}
		reads(t, "as the library packs", coded("'int'", "deflate", framed(600, text)), nil, want, nil, noFault)
	}
}

// P16: the records, as P9 has them, and no bytes behind them, whatever the codec.
func TestFramesRecords(t *testing.T) {
	for _, codec := range codecs {
		pack := func(records string) string { return told(codec, records) }
		for what, c := range map[string]struct {
			count   int64
			records string
			want    error
		}{
			"none":                   {1, "", ErrShort},
			"one too few":            {3, "\x0a\x0b", ErrShort},
			"a varint's half":        {1, "\x8a", ErrShort},
			"the second's half":      {2, "\x0a\x8b", ErrShort},
			"no int":                 {1, "\x80\x80\x80\x80\x10", ErrRange},
			"no int, and more":       {1, "\x80\x80\x80\x80\x10\x00", ErrRange},
			"one too many":           {1, "\x0a\x0b", ErrBlock},
			"a byte behind the last": {2, "\x0a\x0b\x80", ErrBlock},
		} {
			wrong(t, what, codec, framed(c.count, pack(c.records)), c.want)
		}
		reads(t, codec+": deep", coded(linkedSchema, codec, framed(1, pack(strings.Repeat("\x02", 31)+"\x00"))), nil, nil, ErrDeep, 0)
		reads(t, codec+": many", coded("{'type':'array','items':'null'}", codec, framed(1, pack("\xd2\x0f\x00"))), nil, nil, ErrMany, 0)
		reads(t, codec+": bytes behind nothing", coded("'null'", codec, framed(3, pack("\x00"))), nil, nil, ErrBlock, 0)
		reads(t, codec+": no UTF-8", coded("'string'", codec, framed(2, pack("\x02a\x02\xff"))), nil, nil, ErrRange, 0)
		reads(t, codec+": another block's bytes", coded("'string'", codec, framed(1, pack("\x04a")), framed(1, pack("\x02a"))), nil, nil, ErrShort, 0)
	}
}

// P1: whatever the bytes: records that fit, and perhaps one of the reasons, with how many were told, if it is a block's.
func TestRecordsEnd(t *testing.T) {
	r := rand.New(rand.NewSource(17))
	counts := map[error]int{}
	for range 20000 {
		codec := codecs[r.Intn(3)]
		var blocks []string
		for range r.Intn(4) {
			records := strings.Repeat("\x04ab\x0a", 1+r.Intn(3))
			blocks = append(blocks, framed(int64(len(records)/4), told(codec, records)))
		}
		file := []byte(coded("{'type':'record','name':'R','fields':[{'name':'a','type':'string'},{'name':'b','type':'int'}]}", codec, blocks...))
		for range r.Intn(3) {
			file[r.Intn(len(file))] ^= 1 << r.Intn(8)
		}
		if r.Intn(3) == 0 {
			file = file[:r.Intn(len(file)+1)]
		}
		list, err := ReadAll(string(file), nil)
		reason, at := faultOf(t, err)
		counts[reason]++
		switch reason {
		case nil:
		case ErrHeader, ErrText, ErrSchema, ErrCodec:
			if at != noFault || len(list) > 0 {
				t.Fatalf("%q: %v, %v", file, list, err)
			}
		case ErrBlock, ErrFlate, ErrShort, ErrRange, ErrDeep, ErrMany, ErrCap:
			if at != len(list) {
				t.Fatalf("%q: %v, %v", file, list, err)
			}
		default:
			t.Fatalf("%q: %v, %v", file, list, err)
		}
	}
	for _, reason := range []error{nil, ErrHeader, ErrText, ErrSchema, ErrCodec, ErrBlock, ErrFlate, ErrShort} {
		if counts[reason] < 20 {
			t.Errorf("%v: only %d times: too few to tell", reason, counts[reason])
		}
	}
}
