package jsonvalue

import (
	"errors"
	"strconv"
	"strings"

	"avro/stop"
)

// end is what stands behind a text's last rune: no rune of a text.
const end rune = -1

type reader struct {
	runes []rune
	at    int
}

func (r *reader) wrong(what string) {
	stop.With(errors.New("at rune " + strconv.Itoa(r.at) + ": " + what))
}

func (r *reader) peek() rune {
	if r.at == len(r.runes) {
		return end
	}
	return r.runes[r.at]
}

func (r *reader) next() rune {
	c := r.peek()
	if c == end {
		r.wrong("the text ends too early")
	}
	r.at++
	return c
}

func (r *reader) take(c rune) bool {
	if r.peek() != c {
		return false
	}
	r.at++
	return true
}

func (r *reader) need(c rune) {
	if !r.take(c) {
		r.wrong("no " + string(c))
	}
}

func (r *reader) blanks() {
	for r.take(' ') || r.take('\t') || r.take('\n') || r.take('\r') {
	}
}

// value reads a value that stands in depth arrays and objects.
func (r *reader) value(depth int) Value {
	r.blanks()
	switch c := r.peek(); {
	case c == '"':
		return Value{Kind: String, Text: r.text()}
	case c == '[':
		return r.array(depth + 1)
	case c == '{':
		return r.object(depth + 1)
	case c == '-' || isDigit(c):
		return Value{Kind: Number, Int: r.number()}
	}
	return r.word()
}

func (r *reader) word() Value {
	from := r.at
	for 'a' <= r.peek() && r.peek() <= 'z' {
		r.at++
	}
	switch string(r.runes[from:r.at]) {
	case "null":
		return Value{Kind: Null}
	case "true":
		return Value{Kind: Boolean, Int: 1}
	case "false":
		return Value{Kind: Boolean}
	}
	r.at = from
	r.wrong("no value")
	return Value{}
}

func isDigit(c rune) bool { return '0' <= c && c <= '9' }

func (r *reader) number() int64 {
	negative := r.take('-')
	if !isDigit(r.peek()) {
		r.wrong("no digit")
	}
	nought := r.peek() == '0'
	n := int64(0)
	for count := 1; isDigit(r.peek()); count++ {
		if count > mostDigits {
			r.wrong("more than " + strconv.Itoa(mostDigits) + " digits")
		}
		if count > 1 && nought {
			r.wrong("a nought ahead of other digits")
		}
		n = n*10 + int64(r.next()-'0')
	}
	if negative {
		return -n
	}
	return n
}

func (r *reader) array(depth int) Value {
	v := Value{Kind: Array}
	if r.opens('[', ']', depth) {
		return v
	}
	for {
		v.Items = append(v.Items, r.value(depth))
		if r.ends(']') {
			return v
		}
	}
}

func (r *reader) object(depth int) Value {
	v := Value{Kind: Object, places: map[string]int{}}
	if r.opens('{', '}', depth) {
		return v
	}
	for {
		r.blanks()
		name := r.text()
		if _, ok := v.places[name]; ok {
			r.wrong("an object's name for the second time")
		}
		v.places[name] = len(v.Names)
		v.Names = append(v.Names, name)
		r.blanks()
		r.need(':')
		v.Items = append(v.Items, r.value(depth))
		if r.ends('}') {
			return v
		}
	}
}

// opens reads an array's or object's first token, and its last if that follows at once: is it empty?
func (r *reader) opens(first, last rune, depth int) bool {
	if depth > mostDeep {
		r.wrong("more than " + strconv.Itoa(mostDeep) + " arrays and objects in each other")
	}
	r.need(first)
	r.blanks()
	return r.take(last)
}

// ends reads what stands behind an item: its last token, or a comma, behind which one more must come.
func (r *reader) ends(last rune) bool {
	r.blanks()
	if r.take(',') {
		return false
	}
	r.need(last)
	return true
}

func (r *reader) text() string {
	r.need('"')
	var out strings.Builder
	for {
		switch c := r.next(); {
		case c == '"':
			return out.String()
		case c == '\\':
			out.WriteRune(r.escape())
		case c < ' ':
			r.wrong("a byte below 32 in a string")
		default:
			out.WriteRune(c)
		}
	}
}

func (r *reader) escape() rune {
	switch c := r.next(); c {
	case '"', '\\', '/':
		return c
	case 'b':
		return '\b'
	case 'f':
		return '\f'
	case 'n':
		return '\n'
	case 'r':
		return '\r'
	case 't':
		return '\t'
	case 'u':
		return r.codePoint()
	}
	r.wrong("an escape that there is not")
	return 0
}

// codePoint reads what stands behind \u: a code point above U+FFFF is told by two of them.
func (r *reader) codePoint() rune {
	high := r.fourDigits()
	if high < 0xd800 || 0xdfff < high {
		return high
	}
	if 0xdbff < high || !r.take('\\') || !r.take('u') {
		r.wrong("a surrogate alone")
	}
	low := r.fourDigits()
	if low < 0xdc00 || 0xdfff < low {
		r.wrong("a high surrogate without a low one")
	}
	return 0x10000 + (high-0xd800)<<10 + (low - 0xdc00)
}

func (r *reader) fourDigits() rune {
	n := rune(0)
	for range 4 {
		n = n<<4 + r.hexDigit()
	}
	return n
}

func (r *reader) hexDigit() rune {
	switch c := r.next(); {
	case isDigit(c):
		return c - '0'
	case 'a' <= c && c <= 'f':
		return c - 'a' + 10
	case 'A' <= c && c <= 'F':
		return c - 'A' + 10
	}
	r.wrong("no digit to the base 16")
	return 0
}
