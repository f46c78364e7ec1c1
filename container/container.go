// Package container has a file's header and its blocks as bytes: P16. They are written and read as data are: a header is a record of a fixed, a map of bytes and a fixed, a block is one of a long, bytes and a fixed, or, to be read, of two longs, and what these tell of.
package container

import (
	"errors"
	"slices"
	"strings"

	"avro/datum"
	"avro/schema"
	"avro/wire"
)

const (
	MarkerSize  = 16
	MostRecords = 65536 // of a block
	MostBytes   = 65536 // of a block's records, as they were

	begin     = "Obj\x01"
	codecKey  = "avro.codec"
	schemaKey = "avro.schema"
	noCodec   = "null" // what a header without a codec's name means
)

var (
	errBegin    = errors.New("bytes that begin as no file's")
	errNoSchema = errors.New("a header without a schema")
	errCount    = errors.New("so many records as no block has")
	errSize     = errors.New("so many bytes as the text does not have")
	errMarker   = errors.New("a block without the marker behind it")
)

// Header is what stands ahead of a file's blocks.
type Header struct {
	Schema string // its text
	Codec  string // its name
	Marker string
}

// Encode tells a header as a file begins with it: the codec ahead of the schema (P17).
func (h Header) Encode() string {
	entries := datum.Datum{Kind: datum.Map, Names: []string{codecKey, schemaKey}, Kids: []datum.Datum{ofBytes(h.Codec), ofBytes(h.Schema)}}
	return wire.Encode(record(fixed(begin), entries, fixed(h.Marker)))
}

// DecodeHeader tells the header with which a text begins, and how many bytes that is.
func DecodeHeader(text string) (Header, int, error) {
	t := recordOf(fixedOf(len(begin)), &schema.Type{Kind: datum.Map, Item: bytesType()}, fixedOf(MarkerSize))
	d, size, err := wire.Decode(t, text)
	if err != nil {
		return Header{}, 0, err
	}
	if d.Kids[0].Text != begin {
		return Header{}, 0, errBegin
	}
	told, ok := entry(d.Kids[1], schemaKey)
	if !ok {
		return Header{}, 0, errNoSchema
	}
	codec, ok := entry(d.Kids[1], codecKey)
	if !ok {
		codec = noCodec
	}
	return Header{told, codec, d.Kids[2].Text}, size, nil
}

// entry tells what a map of bytes has under a key.
func entry(entries datum.Datum, key string) (string, bool) {
	place := slices.Index(entries.Names, key)
	if place < 0 {
		return "", false
	}
	return entries.Kids[place].Text, true
}

// Block is some records' bytes.
type Block struct {
	Count int
	Bytes string // as the codec has them
}

// Encode tells a block as a file with that marker has it.
func (b Block) Encode(marker string) string {
	count := datum.Datum{Kind: datum.Long, Int: int64(b.Count)}
	return wire.Encode(record(count, ofBytes(b.Bytes), fixed(marker)))
}

// DecodeBlock tells the block with which a text begins, and how many bytes that is. The block's bytes are a piece of the text: where a damaged file is searched for blocks, most of what is tried is none, and a copy each time would cost more than all else.
func DecodeBlock(text, marker string) (Block, int, error) {
	number := &schema.Type{Kind: datum.Long}
	d, begin, err := wire.Decode(recordOf(number, number), text)
	if err != nil {
		return Block{}, 0, err
	}
	count, size := d.Kids[0].Int, d.Kids[1].Int
	if count < 1 || count > MostRecords {
		return Block{}, 0, errCount
	}
	if size < 0 || size > int64(len(text)-begin) {
		return Block{}, 0, errSize
	}
	end := begin + int(size)
	if !strings.HasPrefix(text[end:], marker) {
		return Block{}, 0, errMarker
	}
	return Block{int(count), text[begin:end]}, end + len(marker), nil
}

func record(kids ...datum.Datum) datum.Datum { return datum.Datum{Kind: datum.Record, Kids: kids} }

func fixed(text string) datum.Datum { return datum.Datum{Kind: datum.Fixed, Text: text} }

func ofBytes(text string) datum.Datum { return datum.Datum{Kind: datum.Bytes, Text: text} }

func recordOf(types ...*schema.Type) *schema.Type {
	t := &schema.Type{Kind: datum.Record}
	for _, one := range types {
		t.Fields = append(t.Fields, schema.Field{Type: one})
	}
	return t
}

func fixedOf(size int) *schema.Type { return &schema.Type{Kind: datum.Fixed, Size: size} }

func bytesType() *schema.Type { return &schema.Type{Kind: datum.Bytes} }
