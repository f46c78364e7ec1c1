// Package flate has texts in fewer bytes, as RFC 1951 has them: P13, P14.
package flate

import (
	"errors"

	"avro/stop"
)

// ErrCap tells that more bytes come out than may: asked with errors.Is. Any other error tells what is wrong in the text.
var ErrCap = errors.New("more bytes come out than may")

var (
	errEnds     = errors.New("the text ends too early")
	errKind     = errors.New("a block of a kind that there is not")
	errStored   = errors.New("a length and its complement that do not fit")
	errMany     = errors.New("more lengths told than there may be")
	errNone     = errors.New("a length again where there is none ahead")
	errBeyond   = errors.New("lengths beyond those that are told")
	errNoEnd    = errors.New("a block without a word for its end")
	errCode     = errors.New("a code with more words than there is room for, or with less")
	errWord     = errors.New("a word that there is not")
	errDistance = errors.New("a distance beyond what came out")
	errBehind   = errors.New("bytes behind the last block")
)

const (
	mostValues    = 286
	mostDistances = 30

	// What words that tell lengths stand for: up to mostBits that length, and then runs of them.
	sameAgain    = 16
	fewNoughts   = 17
	manyNoughts  = 18
	lengthValues = 19
	lengthBits   = 3 // of the length of such a word
)

// lengthOrder is the order in which the lengths of the words that tell lengths stand: the last may be left out.
var lengthOrder = [lengthValues]int{sameAgain, fewNoughts, manyNoughts, 0, 8, 7, 9, 6, 10, 5, 11, 4, 12, 3, 13, 2, 14, 1, 15}

// Inflate tells what a text says, if that is at most so many bytes (P13).
func Inflate(text string, most int) (string, error) {
	in := &inflater{bitReader: bitReader{text: text}, most: most}
	err := stop.Caught(in.blocks)
	if err != nil {
		return "", err
	}
	return string(in.out), nil
}

// inflater reads blocks, and lets out byte by byte what they say.
type inflater struct {
	bitReader
	out  []byte
	most int
}

func (in *inflater) blocks() {
	values, distances := fixedCodes()
nextBlock:
	isLast := in.bit() == 1
	switch in.number(kindBits) {
	case storedKind:
		in.stored()
	case fixedKind:
		in.coded(values, distances)
	case toldKind:
		in.coded(in.toldCodes())
	default:
		stop.With(errKind)
	}
	if !isLast {
		goto nextBlock
	}
	stop.Unless(in.isAtEnd(), errBehind)
}

func (in *inflater) tell(b byte) {
	stop.Unless(len(in.out) < in.most, ErrCap)
	in.out = append(in.out, b)
}

func (in *inflater) stored() {
	in.toByte()
	length := uint16(in.number(storedBits))
	turned := uint16(in.number(storedBits))
	stop.Unless(turned == ^length, errStored)
	for range length {
		in.tell(byte(in.number(bitsOfByte)))
	}
}

// coded reads a block of words, up to the one for its end.
func (in *inflater) coded(values, distances *code) {
	for value := in.word(values); value != blockEnd; value = in.word(values) {
		if value < blockEnd {
			in.tell(byte(value))
			continue
		}
		length := in.length(value - firstLength)
		distance := in.distance(in.word(distances))
		in.repeat(length, distance)
	}
}

func (in *inflater) length(place int) int {
	stop.Unless(place < len(lengthSpans), errWord)
	return in.within(lengthSpans[place])
}

func (in *inflater) distance(place int) int {
	stop.Unless(place < len(distanceSpans), errWord)
	return in.within(distanceSpans[place])
}

func (in *inflater) within(s span) int { return s.first + in.number(s.bits) }

// repeat lets out again what came out some way ahead: byte by byte, as what it lets out may be wanted within the same run.
func (in *inflater) repeat(length, distance int) {
	stop.Unless(distance <= len(in.out), errDistance)
	for range length {
		in.tell(in.out[len(in.out)-distance])
	}
}

// fixedCodes tells the codes of blocks that do not tell theirs.
func fixedCodes() (values, distances *code) {
	var valueBits [fixedValues]int
	for value := range valueBits {
		_, valueBits[value] = fixedWord(value)
	}
	var distanceBits [fixedDistances]int
	for value := range distanceBits {
		distanceBits[value] = fixedDistanceBits
	}
	return codeOf(valueBits[:]), codeOf(distanceBits[:])
}

// toldCodes reads the codes that a block tells.
func (in *inflater) toldCodes() (values, distances *code) {
	manyValues := in.within(span{257, 5})
	manyDistances := in.within(span{1, 5})
	stop.Unless(manyValues <= mostValues && manyDistances <= mostDistances, errMany)
	bits := in.toldLengths(in.lengthCode(), manyValues+manyDistances)
	stop.Unless(bits[blockEnd] > 0, errNoEnd)
	return toldCode(bits[:manyValues]), toldCode(bits[manyValues:])
}

// lengthCode reads the code in which the lengths of the other codes' words are told.
func (in *inflater) lengthCode() *code {
	var bits [lengthValues]int
	for i := range in.within(span{4, 4}) {
		bits[lengthOrder[i]] = in.number(lengthBits)
	}
	return toldCode(bits[:])
}

// toldLengths reads both codes' lengths as one list: a run of them may go on from the one into the other.
func (in *inflater) toldLengths(c *code, many int) []int {
	var list []int
	for len(list) < many {
		length, times := in.word(c), 1
		switch length {
		case sameAgain:
			stop.Unless(len(list) > 0, errNone)
			length, times = list[len(list)-1], in.within(span{3, 2})
		case fewNoughts:
			length, times = 0, in.within(span{3, 3})
		case manyNoughts:
			length, times = 0, in.within(span{11, 7})
		}
		for range times {
			list = append(list, length)
		}
	}
	stop.Unless(len(list) == many, errBeyond)
	return list
}
