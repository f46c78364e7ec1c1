package resolve

import (
	"errors"
	"slices"
	"unicode/utf8"

	"avro/datum"
	"avro/schema"
	"avro/stop"
)

// As tells a datum that w has as r has it, in new memory, or why r does not (P11).
func As(w, r *schema.Type, d datum.Datum) (datum.Datum, error) {
	var made datum.Datum
	err := stop.Caught(func() {
		made = as(w, r, d)
		if !r.Fits(made) { // by unions and defaults it may be deeper, or have more items, than it had
			wrong("a datum beyond what may be")
		}
	})
	if err != nil {
		return datum.Datum{}, err
	}
	return made, nil
}

func wrong(what string) { stop.With(errors.New(what)) }

func as(w, r *schema.Type, d datum.Datum) datum.Datum {
	if w.Kind == datum.Union {
		return as(w.Branches[d.Int], r, d.Kids[0])
	}
	if r.Kind == datum.Union {
		return asBranch(w, r, d)
	}
	if !Match(w, r) {
		wrong("a datum of a schema that does not match")
	}
	made := datum.Datum{Kind: r.Kind}
	switch r.Kind {
	case datum.Boolean, datum.Int, datum.Long:
		made.Int = d.Int
	case datum.Float, datum.Double:
		return floating(r.Kind, d)
	case datum.Bytes, datum.String, datum.Fixed:
		made.Text = textAs(r.Kind, d.Text)
	case datum.Enum:
		made.Int = symbolAs(w, r, d.Int)
	case datum.Record:
		made.Kids = fieldsAs(w, r, d)
	case datum.Array, datum.Map:
		made.Names = slices.Clone(d.Names)
		for _, item := range d.Kids {
			made.Kids = append(made.Kids, as(w.Item, r.Item, item))
		}
	}
	return made
}

// asBranch takes the first branch that matches, and no other, also where that does not have the datum.
func asBranch(w, r *schema.Type, d datum.Datum) datum.Datum {
	place := slices.IndexFunc(r.Branches, func(branch *schema.Type) bool { return Match(w, branch) })
	if place < 0 {
		wrong("a datum that no branch of a union matches")
	}
	return datum.Datum{Kind: datum.Union, Int: int64(place), Kids: []datum.Datum{as(w, r.Branches[place], d)}}
}

// floating tells a number as a float or a double.
func floating(kind int, d datum.Datum) datum.Datum {
	switch {
	case d.Kind == kind:
		return datum.Datum{Kind: kind, Bits: d.Bits} // the same bits, also of what is no number
	case d.Kind == datum.Float:
		return datum.FromFloat64(datum.Number(d))
	}
	return datum.Nearest(kind, d.Int)
}

func textAs(kind int, text string) string {
	if kind == datum.String && !utf8.ValidString(text) {
		wrong("bytes as a string that are not UTF-8")
	}
	return text
}

func symbolAs(w, r *schema.Type, place int64) int64 {
	if found := slices.Index(r.Symbols, w.Symbols[place]); found >= 0 {
		return int64(found)
	}
	if r.Default == schema.NoSymbol {
		wrong("a symbol that is not there, nor a default: " + w.Symbols[place])
	}
	return int64(r.Default)
}

func fieldsAs(w, r *schema.Type, d datum.Datum) []datum.Datum {
	var kids []datum.Datum
nextField:
	for _, field := range r.Fields {
		for _, name := range append([]string{field.Name}, field.Aliases...) {
			for i, written := range w.Fields {
				if written.Name == name {
					kids = append(kids, as(written.Type, field.Type, d.Kids[i]))
					continue nextField
				}
			}
		}
		byDefault, ok := field.Default()
		if !ok {
			wrong("a field that was not written, and has no default: " + field.Name)
		}
		kids = append(kids, byDefault)
	}
	return kids
}
