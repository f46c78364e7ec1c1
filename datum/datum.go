// Package datum has what data are made of (Words).
package datum

// The kinds, of data and of schemas.
const (
	Null = iota + 1
	Boolean
	Int
	Long
	Float
	Double
	Bytes
	String
	Record
	Enum
	Array
	Map
	Union
	Fixed
)

// Datum is a value: package avro's Datum.
type Datum struct {
	Kind  int
	Int   int64
	Bits  uint64
	Text  string
	Names []string
	Kids  []Datum
}
