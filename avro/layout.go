package avro

import "avro/container"

// packing is how a block's records are told: Create's codec.
type packing int

const (
	asTheyAre packing = iota
	byDeflate
	byDeflateWithSum
)

// codecs are the packings' names.
var codecs = [...]string{"null", "deflate", "deflate-crc"}

const sumSize = 4

// packingNamed tells the packing that goes by a name, if there is one.
func packingNamed(name string) (packing, bool) {
	for i, codec := range codecs {
		if codec == name {
			return packing(i), true
		}
	}
	return 0, false
}

func (p packing) pack(records string) string {
	switch p {
	case byDeflate:
		return Deflate(records)
	case byDeflateWithSum:
		return Deflate(records) + sumBytes(records)
	}
	return records
}

// sumBytes tells a text's sum with the high byte first, unlike all other numbers (P16).
func sumBytes(text string) string {
	sum := Sum(text)
	return string([]byte{byte(sum >> 24), byte(sum >> 16), byte(sum >> 8), byte(sum)})
}

func (p packing) unpack(text string) (string, error) {
	switch p {
	case byDeflate:
		return Inflate(text, container.MostBytes)
	case byDeflateWithSum:
		return unpackWithSum(text)
	}
	if len(text) > container.MostBytes {
		return "", ErrCap
	}
	return text, nil
}

func unpackWithSum(text string) (string, error) {
	end := len(text) - sumSize
	if end < 0 {
		return "", ErrBlock
	}
	records, err := Inflate(text[:end], container.MostBytes)
	if err != nil {
		return "", err
	}
	if sumBytes(records) != text[end:] {
		return "", ErrBlock
	}
	return records, nil
}

// layout is how a file's blocks are written and read: what its header tells.
type layout struct {
	schema  *Schema
	packing packing
	marker  string
}

// readLayout tells the layout with whose header a text begins, and how many bytes that is (P16).
func readLayout(text string) (layout, int, error) {
	header, size, err := container.DecodeHeader(text)
	if err != nil {
		return layout{}, 0, &refusal{ErrHeader, err}
	}
	s, err := Parse(header.Schema)
	if err != nil {
		return layout{}, 0, err
	}
	packing, ok := packingNamed(header.Codec)
	if !ok {
		return layout{}, 0, ErrCodec
	}
	return layout{s, packing, header.Marker}, size, nil
}

// block tells so many records' bytes as a block.
func (l layout) block(count int, records string) string {
	return container.Block{Count: count, Bytes: l.packing.pack(records)}.Encode(l.marker)
}

// readBlock tells the records of the block with which a text begins, and how many bytes that is (P16).
func (l layout) readBlock(text string) ([]Datum, int, error) {
	block, size, err := container.DecodeBlock(text, l.marker)
	if err != nil {
		return nil, 0, &refusal{ErrBlock, err}
	}
	records, err := l.packing.unpack(block.Bytes)
	if err != nil {
		return nil, 0, err
	}
	list, err := l.schema.decodeAll(records, block.Count)
	if err != nil {
		return nil, 0, err
	}
	return list, size, nil
}

// decodeAll tells the n data that bytes are, and no bytes more.
func (s *Schema) decodeAll(text string, n int) ([]Datum, error) {
	var list []Datum
	for range n {
		d, size, err := s.Decode(text)
		if err != nil {
			return nil, err
		}
		list = append(list, d)
		text = text[size:]
	}
	if text != "" {
		return nil, ErrBlock
	}
	return list, nil
}
