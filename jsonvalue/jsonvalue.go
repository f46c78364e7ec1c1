// Package jsonvalue reads JSON as schemas are told in it (P3): its numbers are whole, and no object has a name twice.
package jsonvalue

import (
	"errors"
	"strconv"
	"unicode/utf8"

	"avro/stop"
)

// Kind tells which of JSON's values one is.
type Kind int

const (
	Null Kind = iota + 1
	Boolean
	Number
	String
	Array
	Object
)

const (
	mostBytes  = 4000
	mostDeep   = 32
	mostDigits = 18
)

// Value is a value of JSON.
type Value struct {
	Kind   Kind
	Int    int64          // a boolean's 0 or 1; a number
	Text   string         // a string
	Items  []Value        // an array's items; what an object's names name
	Names  []string       // an object's names, in the order of the text
	places map[string]int // where in Names each name is
}

// Named tells what a name names in an object, and whether it names something there.
func (v Value) Named(name string) (Value, bool) {
	place, ok := v.places[name]
	if !ok {
		return Value{}, false
	}
	return v.Items[place], true
}

// Read tells the value that a text is, or why it is none.
func Read(text string) (Value, error) {
	var v Value
	err := stop.Caught(func() { v = whole(text) })
	if err != nil {
		return Value{}, err
	}
	return v, nil
}

func whole(text string) Value {
	if len(text) > mostBytes {
		stop.With(errors.New("more than " + strconv.Itoa(mostBytes) + " bytes"))
	}
	if !utf8.ValidString(text) {
		stop.With(errors.New("not UTF-8"))
	}
	r := &reader{runes: runesOf(text)}
	v := r.value(0)
	r.blanks()
	if r.peek() != end {
		r.wrong("something behind the value")
	}
	return v
}

func runesOf(text string) []rune {
	l := make([]rune, 0, len(text))
	for _, c := range text {
		l = append(l, c)
	}
	return l
}
