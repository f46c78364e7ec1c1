package datum

import "testing"

// Words: the kinds by number.
func TestKinds(t *testing.T) {
	for i, kind := range []int{Null, Boolean, Int, Long, Float, Double, Bytes, String, Record, Enum, Array, Map, Union, Fixed} {
		if kind != i+1 {
			t.Errorf("kind %d, want %d", kind, i+1)
		}
	}
}
