package schema

import (
	"strconv"
	"strings"

	"avro/datum"
)

// Canonical tells a schema in its plainest form (P6).
func (t *Type) Canonical() string {
	w := &writer{ahead: map[string]int{}}
	w.schema(t)
	return w.out.String()
}

type writer struct {
	out   strings.Builder
	ahead map[string]int // the full names that are written already
}

func (w *writer) put(texts ...string) {
	for _, text := range texts {
		w.out.WriteString(text)
	}
}

// quoted needs no escapes: all that is written in quotes are names.
func quoted(name string) string { return `"` + name + `"` }

func (w *writer) schema(t *Type) {
	switch t.Kind {
	case datum.Array:
		w.put(`{"type":"array","items":`)
		w.schema(t.Item)
		w.put(`}`)
	case datum.Map:
		w.put(`{"type":"map","values":`)
		w.schema(t.Item)
		w.put(`}`)
	case datum.Union:
		w.put(`[`)
		w.list(len(t.Branches), func(i int) { w.schema(t.Branches[i]) })
		w.put(`]`)
	case datum.Record, datum.Enum, datum.Fixed:
		w.named(t)
	default:
		w.put(quoted(words[t.Kind-datum.Null]))
	}
}

func (w *writer) list(n int, item func(i int)) {
	for i := range n {
		if i > 0 {
			w.put(`,`)
		}
		item(i)
	}
}

func (w *writer) named(t *Type) {
	if _, ok := w.ahead[t.Name]; ok {
		w.put(quoted(t.Name))
		return
	}
	w.ahead[t.Name] = len(w.ahead)
	w.put(`{"name":`, quoted(t.Name))
	switch t.Kind {
	case datum.Record:
		w.put(`,"type":"record","fields":[`)
		w.list(len(t.Fields), func(i int) { w.field(t.Fields[i]) })
		w.put(`]}`)
	case datum.Enum:
		w.put(`,"type":"enum","symbols":[`)
		w.list(len(t.Symbols), func(i int) { w.put(quoted(t.Symbols[i])) })
		w.put(`]}`)
	case datum.Fixed:
		w.put(`,"type":"fixed","size":`, strconv.Itoa(t.Size), `}`)
	}
}

func (w *writer) field(f Field) {
	w.put(`{"name":`, quoted(f.Name), `,"type":`)
	w.schema(f.Type)
	w.put(`}`)
}
