package flate

const (
	leastLength = 3
	mostLength  = 258
	mostBack    = 32768

	// As many places there are in the 64 bytes ahead: what says the same 1 to 64 bytes again and again is always found (P14).
	mostTries = 64

	none = -1 // a place that there is not
)

// three is the fewest bytes that can be told by how far ahead they stood.
type three [leastLength]byte

// Deflate tells a text in fewer bytes, where it says something again (P14).
func Deflate(text string) string {
	d := &deflater{text: text, last: map[three]int{}, before: make([]int, len(text))}
	from := 0
nextBlock:
	to := min(from+mostStored, len(text))
	d.block(from, to)
	if to < len(text) {
		from = to
		goto nextBlock
	}
	return string(d.bytes)
}

// deflater writes a text block by block.
type deflater struct {
	bitWriter
	text   string
	last   map[three]int // where three bytes stood last
	before []int         // of each place that last told: where its three stood before that
}

// block writes a part of the text: stored, if its words would take more.
func (d *deflater) block(from, to int) {
	begin := d.at
	d.head(fixedKind, to)
	d.coded(from, to)
	coded := d.at
	storedEnd := wholeBytes(begin+1+kindBits)*bitsOfByte + 2*storedBits + (to-from)*bitsOfByte
	if coded > storedEnd {
		d.backTo(begin)
		d.head(storedKind, to)
		d.stored(d.text[from:to])
	}
}

func (d *deflater) head(kind, to int) {
	isLast := 0
	if to == len(d.text) {
		isLast = 1
	}
	d.number(isLast, 1)
	d.number(kind, kindBits)
}

func (d *deflater) stored(part string) {
	d.toByte()
	length := uint16(len(part))
	d.number(int(length), storedBits)
	d.number(int(^length), storedBits)
	d.bytes = append(d.bytes, part...)
	d.toByte()
}

// coded writes a part of the text by the fixed code's words.
func (d *deflater) coded(from, to int) {
	for at := from; at < to; {
		length, distance := d.longest(at, to)
		if length == 0 {
			d.value(int(d.text[at]))
			length = 1
		} else {
			d.repeat(length, distance)
		}
		for range length {
			d.remember(at)
			at++
		}
	}
	d.value(blockEnd)
}

func (d *deflater) value(value int) { d.word(fixedWord(value)) }

func (d *deflater) repeat(length, distance int) {
	place := lengthPlace(length)
	d.value(firstLength + place)
	d.number(length-lengthSpans[place].first, lengthSpans[place].bits)
	place = distancePlace(distance)
	d.word(place, fixedDistanceBits)
	d.number(distance-distanceSpans[place].first, distanceSpans[place].bits)
}

func lengthPlace(length int) int {
	place := len(lengthSpans) - 1
	for lengthSpans[place].first > length {
		place--
	}
	return place
}

func distancePlace(distance int) int {
	place := len(distanceSpans) - 1
	for distanceSpans[place].first > distance {
		place--
	}
	return place
}

// threeAt tells the three bytes at a place that has two behind it.
func (d *deflater) threeAt(at int) three {
	return three{d.text[at], d.text[at+1], d.text[at+2]}
}

// remember keeps that a place's three bytes stand there.
func (d *deflater) remember(at int) {
	if at+leastLength > len(d.text) {
		return
	}
	key := d.threeAt(at)
	d.before[at] = d.lastOf(key)
	d.last[key] = at
}

func (d *deflater) lastOf(key three) int {
	place, ok := d.last[key]
	if !ok {
		return none
	}
	return place
}

// longest tells how many bytes from a place on stood before, and how far ahead; 0, if too few did. Of several as long the nearest is told: it takes the fewest bits.
func (d *deflater) longest(at, to int) (length, distance int) {
	most := min(to-at, mostLength)
	if most < leastLength {
		return 0, 0
	}
	place := d.lastOf(d.threeAt(at))
	for range mostTries {
		if place == none || at-place > mostBack || length == most {
			break
		}
		if n := d.alike(place, at, most); n > length {
			length, distance = n, at-place
		}
		place = d.before[place]
	}
	return length, distance
}

// alike tells how many bytes from two places on are the same, most at most.
func (d *deflater) alike(one, other, most int) int {
	n := 0
	for n < most && d.text[one+n] == d.text[other+n] {
		n++
	}
	return n
}
