// Package avro: files of records under a schema: see DOC.md.
package avro

import (
	"errors"
	"strconv"

	"avro/crc"
	"avro/datum"
	"avro/flate"
	"avro/jsonvalue"
	"avro/resolve"
	"avro/schema"
	"avro/wire"
)

// Why something is refused: asked with errors.Is.
var (
	ErrText    = errors.New("no JSON")
	ErrSchema  = errors.New("a schema that may not be")
	ErrDatum   = errors.New("a datum that the schema does not have")
	ErrShort   = errors.New("bytes that end too early")
	ErrRange   = errors.New("a number or a text that may not be")
	ErrDeep    = errors.New("nested too deep")
	ErrMany    = errors.New("too many items")
	ErrFlate   = errors.New("no compressed data")
	ErrCap     = errors.New("more data than may be")
	ErrHeader  = errors.New("no header")
	ErrCodec   = errors.New("a codec that is not known")
	ErrBlock   = errors.New("no block")
	ErrMatch   = errors.New("schemas that do not go together")
	ErrResolve = errors.New("a datum that the reader's schema does not have")
	ErrClosed  = errors.New("it is closed")
	ErrDown    = errors.New("the file is down")
)

// Fault is a reason and of which record: asked with errors.As (for a *Fault).
type Fault struct {
	At  int
	Err error
}

func (f *Fault) Error() string {
	if f == nil || f.Err == nil {
		return "a fault without a reason"
	}
	return "record " + strconv.Itoa(f.At) + ": " + f.Err.Error()
}

func (f *Fault) Unwrap() error {
	if f == nil {
		return nil
	}
	return f.Err
}

// refusal is a reason with what in particular was found.
type refusal struct {
	reason error
	found  error
}

func (r *refusal) Error() string { return r.reason.Error() + ": " + r.found.Error() }

func (r *refusal) Unwrap() error { return r.reason }

// Datum is a value (Words).
type Datum = datum.Datum

// FromFloat32 tells the datum of a float (P7).
func FromFloat32(f float32) Datum { return datum.FromFloat32(f) }

// FromFloat64 tells the datum of a double (P7).
func FromFloat64(f float64) Datum { return datum.FromFloat64(f) }

// Number tells what a number's datum is (P7).
func Number(d Datum) float64 { return datum.Number(d) }

// Schema tells which data may be.
type Schema struct{ root *schema.Type }

// Parse makes a schema out of JSON (P3 to P5).
func Parse(text string) (*Schema, error) {
	value, err := jsonvalue.Read(text)
	if err != nil {
		return nil, &refusal{ErrText, err}
	}
	root, err := schema.Read(value)
	if err != nil {
		return nil, &refusal{ErrSchema, err}
	}
	return &Schema{root}, nil
}

// Canonical tells a schema in its plainest form (P6).
func (s *Schema) Canonical() string {
	if !s.isMade() {
		return ""
	}
	return s.root.Canonical()
}

// isMade tells whether Parse made the schema: to any other no datum fits.
func (s *Schema) isMade() bool { return s != nil && s.root != nil }

// Fits tells whether the schema has a datum (P7).
func (s *Schema) Fits(d Datum) bool { return s.isMade() && s.root.Fits(d) }

// Encode tells a datum's bytes (P8).
func (s *Schema) Encode(d Datum) (string, error) {
	if !s.Fits(d) {
		return "", ErrDatum
	}
	return wire.Encode(d), nil
}

// Decode tells the datum that bytes begin with, and how many they are (P9).
func (s *Schema) Decode(text string) (Datum, int, error) {
	if !s.isMade() {
		return Datum{}, 0, ErrSchema
	}
	d, n, err := wire.Decode(s.root, text)
	if err != nil {
		return Datum{}, 0, &refusal{unread(err), err}
	}
	return d, n, nil
}

// unread tells by which reason bytes are refused.
func unread(err error) error {
	switch {
	case errors.Is(err, wire.ErrShort):
		return ErrShort
	case errors.Is(err, wire.ErrDeep):
		return ErrDeep
	case errors.Is(err, wire.ErrMany):
		return ErrMany
	}
	return ErrRange
}

// Match tells whether a writer's and a reader's schema go together (P10).
func Match(w, r *Schema) bool { return w.isMade() && r.isMade() && resolve.Match(w.root, r.root) }

// DecodeAs tells the datum that a writer's bytes begin with, as this schema has it (P11).
func (s *Schema) DecodeAs(w *Schema, text string) (Datum, int, error) {
	if !s.isMade() {
		return Datum{}, 0, ErrSchema
	}
	d, n, err := w.Decode(text)
	if err != nil {
		return Datum{}, 0, err
	}
	d, err = resolve.As(w.root, s.root, d)
	if err != nil {
		return Datum{}, 0, &refusal{ErrResolve, err}
	}
	return d, n, nil
}

// Sum tells the sum of bytes (P12).
func Sum(text string) uint32 { return crc.Sum(text) }

// Deflate tells a text in fewer bytes, as a rule (P14).
func Deflate(text string) string { return flate.Deflate(text) }

// Inflate tells what compressed bytes say (P13).
func Inflate(text string, most int) (string, error) {
	said, err := flate.Inflate(text, most)
	if err != nil {
		return "", &refusal{uninflated(err), err}
	}
	return said, nil
}

// uninflated tells by which reason compressed bytes are refused.
func uninflated(err error) error {
	if errors.Is(err, flate.ErrCap) {
		return ErrCap
	}
	return ErrFlate
}

// File is a stand-in for a file (P15).
type File struct{}

// NewFile makes an empty one (P15).
func NewFile() *File { return nil }

// Write adds to what is only written (P15).
func (f *File) Write(text string) error { return nil }

// Sync makes what is written safe (P15).
func (f *File) Sync() error { return nil }

// Replace puts a text in the place of all (P15).
func (f *File) Replace(text string) error { return nil }

// Fuse lets the file go down later (P15).
func (f *File) Fuse(n int) {}

// Crash loses what is not safe (P15).
func (f *File) Crash(keep int) {}

// Bytes tells what is safe, and what is only written (P15).
func (f *File) Bytes() (string, string) { return "", "" }

// Writer writes records.
type Writer struct{}

// Create begins a file (P17).
func Create(f *File, schema string, codec, block int, marker string) (*Writer, error) {
	return nil, nil
}

// Resume goes on with a file (P18).
func Resume(f *File, block int) (*Writer, error) { return nil, nil }

// Append writes a record, some time (P17).
func (w *Writer) Append(d Datum) error { return nil }

// Flush makes all safe (P17).
func (w *Writer) Flush() error { return nil }

// Close makes all safe, and ends (P17).
func (w *Writer) Close() error { return nil }

// Records tells the records of a file (P19).
func Records(text string, r *Schema) func(yield func(Datum, error) bool) {
	return func(yield func(Datum, error) bool) {}
}

// ReadAll tells the records of a file in a list (P19).
func ReadAll(text string, r *Schema) ([]Datum, error) { return nil, nil }

// ReadSplit tells the records of a part of a file (P20).
func ReadSplit(text string, from, to int) ([]Datum, error) { return nil, nil }

// Recover tells the records of what is whole in a file (P21).
func Recover(text string) ([]Datum, int, error) { return nil, 0, nil }
