package flate

import "avro/stop"

const mostBits = 15 // of a word

// code is a Huffman code: the words of more bits stand behind those of fewer, and those of as many in the order of what they stand for.
type code struct {
	many   [mostBits + 1]int // how many words there are of so many bits
	values []int             // what the words stand for, in their order
}

// codeOf tells the code of a list that says of each value how many bits its word has, or 0, if there is none.
func codeOf(lengths []int) *code {
	c := &code{values: make([]int, len(lengths))}
	for _, bits := range lengths {
		c.many[bits]++
	}
	c.many[0] = 0
	var place [mostBits + 1]int
	for bits := range mostBits {
		place[bits+1] = place[bits] + c.many[bits]
	}
	for value, bits := range lengths {
		if bits > 0 {
			c.values[place[bits]] = value
			place[bits]++
		}
	}
	return c
}

// toldCode is codeOf lengths that a text tells, which may be no code's.
func toldCode(lengths []int) *code {
	c := codeOf(lengths)
	room, words := 1, 0
	for _, many := range c.many[1:] {
		room = 2*room - many // which, once it is below 0, stays there
		words += many
	}
	isLone := words == 1 && c.many[1] == 1
	stop.Unless(room == 0 || words == 0 || isLone, errCode)
	return c
}

// word reads a word, and tells what it stands for.
func (r *bitReader) word(c *code) int {
	behind := 0 // how far the word is behind the first of as many bits
	place := 0  // where in the code that first one stands
	for bits := range mostBits {
		many := c.many[bits+1]
		behind = 2*behind + r.bit()
		if behind < many {
			return c.values[place+behind]
		}
		behind -= many
		place += many
	}
	stop.With(errWord)
	return 0
}
