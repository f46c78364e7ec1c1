package avro

import (
	"errors"
	"testing"
)

func reasons() []error {
	return []error{ErrText, ErrSchema, ErrDatum, ErrShort, ErrRange, ErrDeep, ErrMany, ErrFlate, ErrCap, ErrHeader, ErrCodec, ErrBlock, ErrMatch, ErrResolve, ErrClosed, ErrDown}
}

// Words: each reason has a text, and is none of the others.
func TestReasons(t *testing.T) {
	for i, r := range reasons() {
		if r == nil || r.Error() == "" {
			t.Fatalf("reason %d has no text", i)
		}
		for j, other := range reasons() {
			if errors.Is(r, other) != (i == j) {
				t.Errorf("reasons %d and %d", i, j)
			}
		}
	}
}

// Words: a Fault wraps its Err, and tells At.
func TestFault(t *testing.T) {
	for i, r := range reasons() {
		f := &Fault{At: i, Err: r}
		if f.Error() == "" || f.Unwrap() != r {
			t.Errorf("a fault of %v: %q, %v", r, f.Error(), f.Unwrap())
		}
		for j, other := range reasons() {
			if errors.Is(f, other) != (i == j) {
				t.Errorf("a fault of %v is %v?", r, other)
			}
		}
		var got *Fault
		if !errors.As(error(&refusal{f, f}), &got) || got.At != i {
			t.Errorf("a fault in another error is not found")
		}
	}
	for _, f := range []*Fault{nil, {}} {
		if f.Error() == "" || f.Unwrap() != nil {
			t.Errorf("a fault without a reason: %q, %v", f.Error(), f.Unwrap())
		}
	}
}

// Words: what Parse answers wraps just one reason, and no Fault. P1: beside it there is nothing.
func TestParseErrors(t *testing.T) {
	for text, want := range map[string]error{"": ErrText, "int": ErrText, "[1,]": ErrText, "\"\xff\"": ErrText, `""`: ErrSchema, `"integer"`: ErrSchema, "null": ErrSchema} {
		s, err := Parse(text)
		if s != nil || err == nil || err.Error() == "" {
			t.Fatalf("%q: %v, %v", text, s, err)
		}
		for _, r := range reasons() {
			if errors.Is(err, r) != (r == want) {
				t.Errorf("%q: %v, want %v", text, err, want)
			}
		}
		var f *Fault
		if errors.As(err, &f) {
			t.Errorf("%q: a fault, where no record is told", text)
		}
	}
}
