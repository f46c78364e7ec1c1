// Package wire has data as bytes: P8, P9.
package wire

import "avro/datum"

// Encode tells the bytes of a datum that fits its schema (P8). Its kinds alone tell how it is written, then.
func Encode(d datum.Datum) string { return string(put(nil, d)) }

// put adds a datum's bytes to those that are there.
func put(to []byte, d datum.Datum) []byte {
	switch d.Kind {
	case datum.Boolean:
		return append(to, byte(d.Int))
	case datum.Int, datum.Long, datum.Enum:
		return putVarint(to, d.Int)
	case datum.Float:
		return putLow(to, d.Bits, floatSize)
	case datum.Double:
		return putLow(to, d.Bits, doubleSize)
	case datum.Bytes, datum.String:
		return putText(to, d.Text)
	case datum.Fixed:
		return append(to, d.Text...)
	case datum.Record:
		return putAll(to, d.Kids)
	case datum.Union:
		return putAll(putVarint(to, d.Int), d.Kids)
	case datum.Array, datum.Map:
		return putItems(to, d)
	}
	return to
}

func putVarint(to []byte, n int64) []byte {
	rest := uint64(n)<<1 ^ uint64(n>>63) // zigzag: the sign is the lowest bit, so that small numbers are short
	for rest >= moreFollows {
		to = append(to, byte(rest)|moreFollows)
		rest >>= bitsEach
	}
	return append(to, byte(rest))
}

func putLow(to []byte, bits uint64, size int) []byte {
	for range size {
		to = append(to, byte(bits))
		bits >>= 8
	}
	return to
}

func putText(to []byte, text string) []byte {
	return append(putVarint(to, int64(len(text))), text...)
}

func putAll(to []byte, kids []datum.Datum) []byte {
	for _, kid := range kids {
		to = put(to, kid)
	}
	return to
}

func putItems(to []byte, d datum.Datum) []byte {
	if len(d.Kids) > 0 {
		to = putVarint(to, int64(len(d.Kids)))
	}
	for i, kid := range d.Kids {
		if d.Kind == datum.Map {
			to = putText(to, d.Names[i])
		}
		to = put(to, kid)
	}
	return putVarint(to, 0)
}
