package schema

import (
	"math"
	"unicode/utf8"

	"avro/datum"
)

// Fits tells whether the schema has a datum (P7).
func (t *Type) Fits(d datum.Datum) bool {
	f := &fitting{}
	return f.fits(t, d, 1)
}

// fitting looks at one datum, whatever is in it.
type fitting struct {
	listed int // items of arrays and maps so far
}

func (f *fitting) fits(t *Type, d datum.Datum, depth int) bool {
	return depth <= datum.MostDeep && d.Kind == t.Kind && isBare(t.Kind, d) && isOf(t, d) && f.kidsFit(t, d, depth+1)
}

// isBare tells whether nothing is there that a kind gives no meaning.
func isBare(kind int, d datum.Datum) bool {
	switch kind {
	case datum.Boolean, datum.Int, datum.Long, datum.Enum:
		d.Int = 0
	case datum.Float, datum.Double:
		d.Bits = 0
	case datum.Bytes, datum.String, datum.Fixed:
		d.Text = ""
	case datum.Record, datum.Array:
		d.Kids = nil
	case datum.Map:
		d.Kids, d.Names = nil, nil
	case datum.Union:
		d.Int, d.Kids = 0, nil
	}
	return d.Int == 0 && d.Bits == 0 && d.Text == "" && len(d.Names) == 0 && len(d.Kids) == 0
}

// isOf looks at all but the Kids themselves.
func isOf(t *Type, d datum.Datum) bool {
	switch t.Kind {
	case datum.Boolean:
		return isPlace(d.Int, 2)
	case datum.Int:
		return datum.IsInt(d.Int)
	case datum.Float:
		return d.Bits <= math.MaxUint32
	case datum.String:
		return utf8.ValidString(d.Text)
	case datum.Fixed:
		return len(d.Text) == t.Size
	case datum.Enum:
		return isPlace(d.Int, len(t.Symbols))
	case datum.Record:
		return len(d.Kids) == len(t.Fields)
	case datum.Union:
		return isPlace(d.Int, len(t.Branches)) && len(d.Kids) == 1
	}
	return true
}

// isPlace tells whether a list of n has a place.
func isPlace(place int64, n int) bool { return 0 <= place && place < int64(n) }

// kidsFit looks at Kids that stand depth deep.
func (f *fitting) kidsFit(t *Type, d datum.Datum, depth int) bool {
	switch t.Kind {
	case datum.Record:
		for i, field := range t.Fields {
			if !f.fits(field.Type, d.Kids[i], depth) {
				return false
			}
		}
	case datum.Union:
		return f.fits(t.Branches[d.Int], d.Kids[0], depth)
	case datum.Array:
		return f.itemsFit(t, d.Kids, depth)
	case datum.Map:
		return len(d.Names) == len(d.Kids) && f.itemsFit(t, d.Kids, depth) && areKeys(d.Names)
	}
	return true
}

func (f *fitting) itemsFit(t *Type, items []datum.Datum, depth int) bool {
	f.listed += len(items)
	if f.listed > datum.MostItems {
		return false
	}
	for _, item := range items {
		if !f.fits(t.Item, item, depth) {
			return false
		}
	}
	return true
}

func areKeys(names []string) bool {
	places := map[string]int{}
	for i, name := range names {
		if _, ok := places[name]; ok || !utf8.ValidString(name) {
			return false
		}
		places[name] = i
	}
	return true
}
