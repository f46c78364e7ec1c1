// Package avro: files of records under a schema: see DOC.md.
package avro

import (
	"errors"
	"strconv"

	"avro/crc"
	"avro/datum"
	"avro/flate"
	"avro/jsonvalue"
	"avro/resolve"
	"avro/schema"
	"avro/wire"
)

// Why something is refused: asked with errors.Is.
var (
	ErrText    = errors.New("no JSON")
	ErrSchema  = errors.New("a schema that may not be")
	ErrDatum   = errors.New("a datum that the schema does not have")
	ErrShort   = errors.New("bytes that end too early")
	ErrRange   = errors.New("a number or a text that may not be")
	ErrDeep    = errors.New("nested too deep")
	ErrMany    = errors.New("too many items")
	ErrFlate   = errors.New("no compressed data")
	ErrCap     = errors.New("more data than may be")
	ErrHeader  = errors.New("no header")
	ErrCodec   = errors.New("a codec that is not known")
	ErrBlock   = errors.New("no block")
	ErrMatch   = errors.New("schemas that do not go together")
	ErrResolve = errors.New("a datum that the reader's schema does not have")
	ErrClosed  = errors.New("it is closed")
	ErrDown    = errors.New("the file is down")
)

// Fault is a reason and of which record: asked with errors.As (for a *Fault).
type Fault struct {
	At  int
	Err error
}

func (f *Fault) Error() string {
	if f == nil || f.Err == nil {
		return "a fault without a reason"
	}
	return "record " + strconv.Itoa(f.At) + ": " + f.Err.Error()
}

func (f *Fault) Unwrap() error {
	if f == nil {
		return nil
	}
	return f.Err
}

// refusal is a reason with what in particular was found.
type refusal struct {
	reason error
	found  error
}

func (r *refusal) Error() string { return r.reason.Error() + ": " + r.found.Error() }

func (r *refusal) Unwrap() error { return r.reason }

// Datum is a value (Words).
type Datum = datum.Datum

// FromFloat32 tells the datum of a float (P7).
func FromFloat32(f float32) Datum { return datum.FromFloat32(f) }

// FromFloat64 tells the datum of a double (P7).
func FromFloat64(f float64) Datum { return datum.FromFloat64(f) }

// Number tells what a number's datum is (P7).
func Number(d Datum) float64 { return datum.Number(d) }

// Schema tells which data may be.
type Schema struct{ root *schema.Type }

// Parse makes a schema out of JSON (P3 to P5).
func Parse(text string) (*Schema, error) {
	value, err := jsonvalue.Read(text)
	if err != nil {
		return nil, &refusal{ErrText, err}
	}
	root, err := schema.Read(value)
	if err != nil {
		return nil, &refusal{ErrSchema, err}
	}
	return &Schema{root}, nil
}

// Canonical tells a schema in its plainest form (P6).
func (s *Schema) Canonical() string {
	if !s.isMade() {
		return ""
	}
	return s.root.Canonical()
}

// isMade tells whether Parse made the schema: to any other no datum fits.
func (s *Schema) isMade() bool { return s != nil && s.root != nil }

// Fits tells whether the schema has a datum (P7).
func (s *Schema) Fits(d Datum) bool { return s.isMade() && s.root.Fits(d) }

// Encode tells a datum's bytes (P8).
func (s *Schema) Encode(d Datum) (string, error) {
	if !s.Fits(d) {
		return "", ErrDatum
	}
	return wire.Encode(d), nil
}

// Decode tells the datum that bytes begin with, and how many they are (P9).
func (s *Schema) Decode(text string) (Datum, int, error) {
	if !s.isMade() {
		return Datum{}, 0, ErrSchema
	}
	d, n, err := wire.Decode(s.root, text)
	if err != nil {
		return Datum{}, 0, &refusal{unread(err), err}
	}
	return d, n, nil
}

// unread tells by which reason bytes are refused.
func unread(err error) error {
	switch {
	case errors.Is(err, wire.ErrShort):
		return ErrShort
	case errors.Is(err, wire.ErrDeep):
		return ErrDeep
	case errors.Is(err, wire.ErrMany):
		return ErrMany
	}
	return ErrRange
}

// Match tells whether a writer's and a reader's schema go together (P10).
func Match(w, r *Schema) bool { return w.isMade() && r.isMade() && resolve.Match(w.root, r.root) }

// DecodeAs tells the datum that a writer's bytes begin with, as this schema has it (P11).
func (s *Schema) DecodeAs(w *Schema, text string) (Datum, int, error) {
	if !s.isMade() {
		return Datum{}, 0, ErrSchema
	}
	d, n, err := w.Decode(text)
	if err != nil {
		return Datum{}, 0, err
	}
	d, err = s.resolve(w, d)
	if err != nil {
		return Datum{}, 0, err
	}
	return d, n, nil
}

// resolve tells a writer's datum as this schema has it.
func (s *Schema) resolve(w *Schema, d Datum) (Datum, error) {
	d, err := resolve.As(w.root, s.root, d)
	if err != nil {
		return Datum{}, &refusal{ErrResolve, err}
	}
	return d, nil
}

// Sum tells the sum of bytes (P12).
func Sum(text string) uint32 { return crc.Sum(text) }

// Deflate tells a text in fewer bytes, as a rule (P14).
func Deflate(text string) string { return flate.Deflate(text) }

// Inflate tells what compressed bytes say (P13).
func Inflate(text string, most int) (string, error) {
	said, err := flate.Inflate(text, most)
	if err != nil {
		return "", &refusal{uninflated(err), err}
	}
	return said, nil
}

// uninflated tells by which reason compressed bytes are refused.
func uninflated(err error) error {
	if errors.Is(err, flate.ErrCap) {
		return ErrCap
	}
	return ErrFlate
}
