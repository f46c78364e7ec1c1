package avro_test

import (
	"testing"

	"avro/plain"
)

// Words: as plain asks: each reason by its number, with a text; in a Fault, with its place.
func TestReasonsFromOutside(t *testing.T) {
	for k := range 16 {
		if n, at, text := plain.Reason(k, false); n != k+1 || at != -1 || !text {
			t.Errorf("reason %d: %d, %d, %v", k, n, at, text)
		}
		if n, at, text := plain.Reason(k, true); n != k+1 || at != 7 || !text {
			t.Errorf("reason %d in a fault: %d, %d, %v", k, n, at, text)
		}
	}
}

// The document's first example, as plain asks.
func TestParseFromOutside(t *testing.T) {
	for text, want := range map[string]int{`"int"`: 0, `{"type":"int","x":[]}`: 0, `int`: 1, `"integer"`: 2, `[1,]`: 1, `["int","int"]`: 2} {
		if s, n := plain.Parse(text); n != want || (s == nil) != (want > 0) {
			t.Errorf("%s: %v, %d, want %d", text, s, n, want)
		}
	}
}
