// Package schema has what schemas are (P4), their fields' defaults (P5), their plainest form (P6).
package schema

import (
	"avro/datum"
	"avro/jsonvalue"
	"avro/stop"
)

// NoSymbol is the Default of an enum that has none.
const NoSymbol = -1

const (
	mostListed = 12 // branches, fields, symbols, aliases
	mostNamed  = 16
	mostSize   = 64
)

// words are those of the kinds that are told by their word alone, from kind 1 on.
var words = [...]string{"null", "boolean", "int", "long", "float", "double", "bytes", "string"}

// Type is a schema. What goes by one name is one Type, wherever it stands: a record may stand in itself.
type Type struct {
	Kind     int
	Name     string   // the full name of a record, enum, fixed
	Aliases  []string // full names, too
	Fields   []Field  // of a record
	Symbols  []string // of an enum
	Default  int      // of an enum: the default symbol's place, or NoSymbol
	Size     int      // of a fixed
	Item     *Type    // what an array or map has
	Branches []*Type  // of a union
}

// Field is a field of a record.
type Field struct {
	Name    string
	Aliases []string
	Type    *Type
	told    jsonvalue.Value // the default
	isTold  bool
}

// Read tells the schema that a value is, or why it is none.
func Read(v jsonvalue.Value) (*Type, error) {
	var t *Type
	err := stop.Caught(func() {
		r := &reader{places: map[string]int{}}
		t = r.schema(v, "")
		r.checkDefaults()
	})
	if err != nil {
		return nil, err
	}
	return t, nil
}

// kindOf tells the kind that a word alone tells, or 0.
func kindOf(word string) int {
	for i, w := range words {
		if w == word {
			return i + datum.Null
		}
	}
	return 0
}
