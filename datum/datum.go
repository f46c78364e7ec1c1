// Package datum has what data are made of (Words), and their numbers (P7).
package datum

import "math"

// The kinds, of data and of schemas.
const (
	Null = iota + 1
	Boolean
	Int
	Long
	Float
	Double
	Bytes
	String
	Record
	Enum
	Array
	Map
	Union
	Fixed
)

const (
	MostDeep  = 64   // a datum itself is 1 deep, its Kids 2
	MostItems = 1000 // of arrays and maps, in all that a datum has
)

// Datum is a value: package avro's Datum.
type Datum struct {
	Kind  int
	Int   int64
	Bits  uint64
	Text  string
	Names []string
	Kids  []Datum
}

// IsInt tells whether kind Int has a number.
func IsInt(n int64) bool { return math.MinInt32 <= n && n <= math.MaxInt32 }

func FromFloat32(f float32) Datum { return Datum{Kind: Float, Bits: uint64(math.Float32bits(f))} }

func FromFloat64(f float64) Datum { return Datum{Kind: Double, Bits: math.Float64bits(f)} }

// Nearest tells the datum of kind Float or Double that is nearest to a whole number. A float is made of it at once: by way of a double it would be rounded twice.
func Nearest(kind int, n int64) Datum {
	if kind == Float {
		return FromFloat32(float32(n))
	}
	return FromFloat64(float64(n))
}

// Number tells what a number's datum is, as a double.
func Number(d Datum) float64 {
	switch d.Kind {
	case Float:
		return float64(math.Float32frombits(uint32(d.Bits)))
	case Double:
		return math.Float64frombits(d.Bits)
	}
	return float64(d.Int)
}
