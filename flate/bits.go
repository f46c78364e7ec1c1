package flate

import "avro/stop"

const (
	bitsOfByte = 8
	lowBit     = 1
)

// bitReader reads a text's bits, each byte's from the lowest on.
type bitReader struct {
	text string
	at   int // how many bits are read
}

func (r *bitReader) bit() int {
	stop.Unless(r.at < len(r.text)*bitsOfByte, errEnds)
	bit := r.text[r.at/bitsOfByte] >> (r.at % bitsOfByte) & lowBit
	r.at++
	return int(bit)
}

// number reads a number of some bits, the lowest first.
func (r *bitReader) number(bits int) int {
	n := 0
	for i := range bits {
		n |= r.bit() << i
	}
	return n
}

// toByte leaves out the rest of a byte that is begun.
func (r *bitReader) toByte() { r.at = wholeBytes(r.at) * bitsOfByte }

// isAtEnd tells whether no byte is left of which nothing is read.
func (r *bitReader) isAtEnd() bool { return wholeBytes(r.at) == len(r.text) }

// wholeBytes tells how many bytes have room for some bits.
func wholeBytes(bits int) int { return (bits + bitsOfByte - 1) / bitsOfByte }

// bitWriter writes bytes by their bits, each byte's from the lowest on.
type bitWriter struct {
	bytes []byte
	at    int // how many bits are written
}

func (w *bitWriter) bit(bit int) {
	if w.at%bitsOfByte == 0 {
		w.bytes = append(w.bytes, 0)
	}
	w.bytes[len(w.bytes)-1] |= byte(bit << (w.at % bitsOfByte))
	w.at++
}

// number writes a number of some bits, the lowest first.
func (w *bitWriter) number(n, bits int) {
	for i := range bits {
		w.bit(n >> i & lowBit)
	}
}

// word writes a code's word of some bits, the highest first.
func (w *bitWriter) word(word, bits int) {
	for i := range bits {
		w.bit(word >> (bits - 1 - i) & lowBit)
	}
}

// toByte leaves the rest of a byte that is begun 0.
func (w *bitWriter) toByte() { w.at = len(w.bytes) * bitsOfByte }

// backTo takes back all but the first bits.
func (w *bitWriter) backTo(at int) {
	w.bytes = w.bytes[:wholeBytes(at)]
	w.at = at
	if begun := at % bitsOfByte; begun > 0 {
		w.bytes[len(w.bytes)-1] &= 1<<begun - 1
	}
}
