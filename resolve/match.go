// Package resolve has what a reader makes of data that were written under another schema: P10, P11.
package resolve

import (
	"strings"

	"avro/datum"
	"avro/schema"
)

// Match tells whether what w wrote may be read as r (P10).
func Match(w, r *schema.Type) bool {
	switch {
	case w.Kind == datum.Union || r.Kind == datum.Union:
		return true
	case w.Kind != r.Kind:
		return isPromoted(w.Kind, r.Kind)
	}
	switch r.Kind {
	case datum.Array, datum.Map:
		return Match(w.Item, r.Item)
	case datum.Fixed:
		return w.Size == r.Size && areNamed(w, r)
	case datum.Record, datum.Enum:
		return areNamed(w, r)
	}
	return true
}

func isPromoted(from, to int) bool {
	switch from {
	case datum.Int, datum.Long, datum.Float:
		return from < to && to <= datum.Double // the kinds of numbers stand in this order
	case datum.Bytes:
		return to == datum.String
	case datum.String:
		return to == datum.Bytes
	}
	return false
}

// areNamed tells whether r goes by w's name.
func areNamed(w, r *schema.Type) bool {
	name := lastPart(w.Name)
	if lastPart(r.Name) == name {
		return true
	}
	for _, alias := range r.Aliases {
		if lastPart(alias) == name {
			return true
		}
	}
	return false
}

func lastPart(name string) string { return name[strings.LastIndex(name, ".")+1:] }
