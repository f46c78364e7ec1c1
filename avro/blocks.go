package avro

import (
	"iter"
	"strings"
)

// wholeBlock is a block as it was found in a text.
type wholeBlock struct {
	records []Datum
	end     int // its place in the text
}

// blocks tells the blocks of a text that begin from a place on and ahead of to; where none is, the error, as the last.
func (l layout) blocks(text string, from, to int) iter.Seq2[wholeBlock, error] {
	return func(yield func(wholeBlock, error) bool) {
		for at := from; at < min(to, len(text)); {
			records, size, err := l.readBlock(text[at:])
			if err != nil {
				yield(wholeBlock{}, err)
				return
			}
			at += size
			if !yield(wholeBlock{records, at}, nil) {
				return
			}
		}
	}
}

// wholeEnd tells where the last of the whole blocks ends that stand one behind the other from a place on; the place itself, if none does.
func (l layout) wholeEnd(text string, from int) int {
	end := from
	for block, err := range l.blocks(text, from, len(text)) {
		if err != nil {
			break
		}
		end = block.end
	}
	return end
}

// behindMarker tells the end of the first marker that begins at a place or behind it; the text's end, if there is none.
func (l layout) behindMarker(text string, from int) int {
	found := strings.Index(text[from:], l.marker)
	if found < 0 {
		return len(text)
	}
	return from + found + len(l.marker)
}

// splitBegin tells from where on blocks are of a split: what begins ahead of from is of the split ahead of it (P20).
func (l layout) splitBegin(text string, headerEnd, from int) int {
	switch {
	case from <= headerEnd:
		return headerEnd
	case from > len(text):
		return len(text)
	}
	return l.behindMarker(text, from-len(l.marker))
}
