package datum

import "testing"

// Words: the kinds by number.
func TestKinds(t *testing.T) {
	for i, kind := range []int{Null, Boolean, Int, Long, Float, Double, Bytes, String, Record, Enum, Array, Map, Union, Fixed} {
		if kind != i+1 {
			t.Errorf("kind %d, want %d", kind, i+1)
		}
	}
}

// P5, P11: the float nearest to a number, halves to the even one.
func TestNearest(t *testing.T) {
	for _, c := range []struct {
		kind int
		n    int64
		want uint64
	}{
		{Float, 16777217, 0x4b800000},
		{Float, 16777219, 0x4b800002},
		{Float, 1<<58 + 1<<34 + 1, 0x5c800001}, // by way of a double: half way
		{Float, -1 << 63, 0xdf000000},
		{Double, 16777217, 0x4170000010000000},
		{Double, 1<<53 + 1, 0x4340000000000000},
		{Double, 0, 0},
	} {
		if d := Nearest(c.kind, c.n); d.Kind != c.kind || d.Bits != c.want || d.Int != 0 {
			t.Errorf("%d: got %v, want %x", c.n, d, c.want)
		}
	}
}

func TestIsInt(t *testing.T) {
	for n, want := range map[int64]bool{0: true, 1<<31 - 1: true, -1 << 31: true, 1 << 31: false, -1<<31 - 1: false, 1 << 32: false, -1 << 63: false} {
		if IsInt(n) != want {
			t.Errorf("%d: got %v", n, !want)
		}
	}
}
