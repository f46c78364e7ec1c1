package wire

import (
	"errors"
	"math"
	"slices"
	"strings"
	"unicode/utf8"

	"avro/datum"
	"avro/schema"
	"avro/stop"
)

// Why bytes are no datum's: asked with errors.Is.
var (
	ErrShort = errors.New("they end within a datum")
	ErrRange = errors.New("a number or a text that may not stand there")
	ErrDeep  = errors.New("a datum nested too deep")
	ErrMany  = errors.New("more items of arrays and maps than may be")
)

const (
	floatSize  = 4
	doubleSize = 8

	// Of a varint's bytes.
	bitsEach    = 7
	moreFollows = 1 << bitsEach
	mostBytes   = 10
	lastMost    = 1 // the tenth has room for one bit of 64

	notTold = -1 // the size of a block that tells none
)

// Decode tells the datum with which a text begins, and how many bytes that is (P9).
func Decode(t *schema.Type, text string) (datum.Datum, int, error) {
	var d datum.Datum
	r := &reader{text: text}
	err := stop.Caught(func() { d = r.datum(t, 1) })
	if err != nil {
		return datum.Datum{}, 0, err
	}
	return d, r.at, nil
}

// reader reads one datum, from the left.
type reader struct {
	text   string
	at     int // where it has come to
	listed int // items of arrays and maps so far
}

// datum reads a datum that stands depth deep.
func (r *reader) datum(t *schema.Type, depth int) datum.Datum {
	stop.Unless(depth <= datum.MostDeep, ErrDeep)
	d := datum.Datum{Kind: t.Kind}
	switch t.Kind {
	case datum.Boolean:
		d.Int = placeIn(2, int64(r.bytes(1)[0]))
	case datum.Int:
		d.Int = r.varint()
		stop.Unless(datum.IsInt(d.Int), ErrRange)
	case datum.Long:
		d.Int = r.varint()
	case datum.Float:
		d.Bits = r.low(floatSize)
	case datum.Double:
		d.Bits = r.low(doubleSize)
	case datum.Bytes:
		d.Text = r.lengthy()
	case datum.String:
		d.Text = r.unicode()
	case datum.Fixed:
		d.Text = strings.Clone(r.bytes(int64(t.Size)))
	case datum.Enum:
		d.Int = placeIn(len(t.Symbols), r.varint())
	case datum.Record:
		d.Kids = r.fields(t, depth+1)
	case datum.Array:
		d.Kids = r.array(t, depth+1)
	case datum.Map:
		d.Names, d.Kids = r.mapping(t, depth+1)
	case datum.Union:
		d.Int = placeIn(len(t.Branches), r.varint())
		d.Kids = []datum.Datum{r.datum(t.Branches[d.Int], depth+1)}
	}
	return d
}

// bytes tells the next n, as a piece of the text.
func (r *reader) bytes(n int64) string {
	stop.Unless(n >= 0, ErrRange)
	stop.Unless(n <= int64(len(r.text)-r.at), ErrShort)
	begin := r.at
	r.at += int(n)
	return r.text[begin:r.at]
}

func (r *reader) low(size int64) uint64 {
	var bits uint64
	for i, b := range []byte(r.bytes(size)) {
		bits |= uint64(b) << (8 * i)
	}
	return bits
}

func (r *reader) varint() int64 {
	var bits uint64
	for i := range mostBytes {
		b := r.bytes(1)[0]
		stop.Unless(i < mostBytes-1 || b <= lastMost, ErrRange)
		bits |= uint64(b%moreFollows) << (bitsEach * i)
		if b < moreFollows {
			break
		}
	}
	return int64(bits>>1) ^ -int64(bits&1)
}

// placeIn tells a place again that a list of n must have.
func placeIn(n int, place int64) int64 {
	stop.Unless(0 <= place && place < int64(n), ErrRange)
	return place
}

// lengthy reads bytes behind their length. They are copied: a piece of the text would keep all of it.
func (r *reader) lengthy() string { return strings.Clone(r.bytes(r.varint())) }

func (r *reader) unicode() string {
	text := r.lengthy()
	stop.Unless(utf8.ValidString(text), ErrRange)
	return text
}

func (r *reader) fields(t *schema.Type, depth int) []datum.Datum {
	kids := slices.Grow([]datum.Datum(nil), len(t.Fields))
	for _, field := range t.Fields {
		kids = append(kids, r.datum(field.Type, depth))
	}
	return kids
}

func (r *reader) array(t *schema.Type, depth int) []datum.Datum {
	var kids []datum.Datum
	r.blocks(func() { kids = append(kids, r.datum(t.Item, depth)) })
	return kids
}

func (r *reader) mapping(t *schema.Type, depth int) ([]string, []datum.Datum) {
	var names []string
	var kids []datum.Datum
	places := map[string]int{}
	r.blocks(func() {
		name := r.unicode()
		_, ok := places[name]
		stop.Unless(!ok, ErrRange)
		places[name] = len(names)
		names = append(names, name)
		kids = append(kids, r.datum(t.Item, depth))
	})
	return names, kids
}

// blocks reads the blocks of an array or map, up to the count 0.
func (r *reader) blocks(item func()) {
	for count := r.varint(); count != 0; count = r.varint() {
		size := int64(notTold)
		if count < 0 {
			size = r.varint()
			stop.Unless(size >= 0 && count > math.MinInt64, ErrRange)
			count = -count
		}
		stop.Unless(count <= int64(datum.MostItems-r.listed), ErrMany)
		r.listed += int(count)
		begin := r.at
		for range count {
			item()
		}
		stop.Unless(size == notTold || size == int64(r.at-begin), ErrRange)
	}
}
