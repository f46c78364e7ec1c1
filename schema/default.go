package schema

import (
	"math"
	"slices"
	"strconv"

	"avro/datum"
	"avro/jsonvalue"
)

const (
	mostDefaultsDeep = 32
	mostDefaults     = 4000
)

// Default tells a field's default (P5), in new memory, and whether it has one. (It cannot go wrong of a field that Read told.)
func (f Field) Default() (datum.Datum, bool) {
	if !f.isTold {
		return datum.Datum{}, false
	}
	m := &maker{}
	return m.datum(f.Type, f.told, 1), true
}

// checkDefaults comes behind all else: a default may be of a record that it stands in, which has all its fields only then.
func (r *reader) checkDefaults() {
	for _, t := range r.named {
		for _, f := range t.Fields {
			f.Default()
		}
	}
}

// maker makes the default of one field.
type maker struct {
	made   int // defaults so far
	listed int // items of arrays and maps so far
}

// datum makes a default that stands depth deep.
func (m *maker) datum(t *Type, v jsonvalue.Value, depth int) datum.Datum {
	m.made++
	if depth > mostDefaultsDeep || m.made > mostDefaults {
		wrong("a default in which too many stand, or too deep")
	}
	d := datum.Datum{Kind: t.Kind}
	switch t.Kind {
	case datum.Null:
		check(v, jsonvalue.Null)
	case datum.Boolean:
		d.Int = check(v, jsonvalue.Boolean).Int
	case datum.Int, datum.Long:
		d.Int = numberOf(t, v)
	case datum.Float, datum.Double:
		d = datum.Nearest(t.Kind, check(v, jsonvalue.Number).Int)
	case datum.String:
		d.Text = check(v, jsonvalue.String).Text
	case datum.Bytes, datum.Fixed:
		d.Text = bytesOf(t, v)
	case datum.Enum:
		d.Int = symbolOf(t, v)
	case datum.Record:
		d.Kids = m.fields(t, v, depth)
	case datum.Array:
		d.Kids = m.items(t, check(v, jsonvalue.Array), depth)
	case datum.Map:
		d.Kids = m.items(t, check(v, jsonvalue.Object), depth)
		d.Names = slices.Clone(v.Names)
	case datum.Union:
		d.Kids = []datum.Datum{m.datum(t.Branches[0], v, depth+1)}
	}
	return d
}

func check(v jsonvalue.Value, kind jsonvalue.Kind) jsonvalue.Value {
	if v.Kind != kind {
		wrong("a default of another kind")
	}
	return v
}

func numberOf(t *Type, v jsonvalue.Value) int64 {
	n := check(v, jsonvalue.Number).Int
	if t.Kind == datum.Int && !datum.IsInt(n) {
		wrong("a default that is no int")
	}
	return n
}

func bytesOf(t *Type, v jsonvalue.Value) string {
	var l []byte
	for _, c := range check(v, jsonvalue.String).Text {
		if c > math.MaxUint8 {
			wrong("a default of bytes with a code point above 255")
		}
		l = append(l, byte(c))
	}
	if t.Kind == datum.Fixed && len(l) != t.Size {
		wrong("a default of a fixed with another size")
	}
	return string(l)
}

func symbolOf(t *Type, v jsonvalue.Value) int64 {
	place := slices.Index(t.Symbols, check(v, jsonvalue.String).Text)
	if place < 0 {
		wrong("a default that is no symbol")
	}
	return int64(place)
}

func (m *maker) fields(t *Type, v jsonvalue.Value, depth int) []datum.Datum {
	check(v, jsonvalue.Object)
	var kids []datum.Datum
	for _, f := range t.Fields {
		given, ok := v.Named(f.Name)
		if !ok {
			given, ok = f.told, f.isTold
		}
		if !ok {
			wrong("a default without a field that has none of its own: " + f.Name)
		}
		kids = append(kids, m.datum(f.Type, given, depth+1))
	}
	return kids
}

// items makes an array's or map's items. Of what P7 asks it looks at how many they are: all else holds by the way in which defaults are made.
func (m *maker) items(t *Type, v jsonvalue.Value, depth int) []datum.Datum {
	ahead := m.listed
	m.listed += len(v.Items)
	var kids []datum.Datum
	for _, item := range v.Items {
		kids = append(kids, m.datum(t.Item, item, depth+1))
	}
	if m.listed-ahead > datum.MostItems {
		wrong("a default with more than " + strconv.Itoa(datum.MostItems) + " items of arrays and maps")
	}
	return kids
}
