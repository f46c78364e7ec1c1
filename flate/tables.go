package flate

// A block's kinds.
const (
	storedKind = iota
	fixedKind
	toldKind
)

const (
	kindBits   = 2
	storedBits = 16 // of a stored block's length
	mostStored = 1<<storedBits - 1

	// What words stand for: a byte, the block's end, or a length.
	blockEnd    = 256
	firstLength = 257
	fixedValues = 288 // two of which stand for nothing

	fixedDistances    = 32 // two of which stand for nothing
	fixedDistanceBits = 5
)

// span is the numbers from a first one on that some bits behind a word can tell.
type span struct{ first, bits int }

var lengthSpans = [29]span{
	{3, 0}, {4, 0}, {5, 0}, {6, 0}, {7, 0}, {8, 0}, {9, 0}, {10, 0},
	{11, 1}, {13, 1}, {15, 1}, {17, 1}, {19, 2}, {23, 2}, {27, 2}, {31, 2},
	{35, 3}, {43, 3}, {51, 3}, {59, 3}, {67, 4}, {83, 4}, {99, 4}, {115, 4},
	{131, 5}, {163, 5}, {195, 5}, {227, 5}, {258, 0},
}

var distanceSpans = [30]span{
	{1, 0}, {2, 0}, {3, 0}, {4, 0}, {5, 1}, {7, 1}, {9, 2}, {13, 2},
	{17, 3}, {25, 3}, {33, 4}, {49, 4}, {65, 5}, {97, 5}, {129, 6}, {193, 6},
	{257, 7}, {385, 7}, {513, 8}, {769, 8}, {1025, 9}, {1537, 9}, {2049, 10}, {3073, 10},
	{4097, 11}, {6145, 11}, {8193, 12}, {12289, 12}, {16385, 13}, {24577, 13},
}

// fixedWord tells the fixed code's word for a value, and how many bits it has.
func fixedWord(value int) (word, bits int) {
	switch {
	case value < 144:
		return 0b00110000 + value, 8
	case value < 256:
		return 0b110010000 + value - 144, 9
	case value < 280:
		return value - 256, 7
	}
	return 0b11000000 + value - 280, 8
}
