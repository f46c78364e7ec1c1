package avro

import (
	"fmt"
	"math"
	"testing"
)

// fitting looks which data a schema has.
func fitting(t *testing.T, schema string, want bool, data ...Datum) {
	t.Helper()
	s := schemaOf(t, schema)
	for _, d := range data {
		if got := s.Fits(d); got != want {
			t.Errorf("%s: %.200s: got %v", schema, shown(d), got)
		}
	}
}

// P7: data without Kids.
func TestFits(t *testing.T) {
	fitting(t, "'null'", true, null())
	fitting(t, "'null'", false, Datum{}, number(2, 0), number(1, 1))
	fitting(t, "'boolean'", true, number(2, 0), number(2, 1))
	fitting(t, "'boolean'", false, number(2, 2), number(2, -1), number(3, 1))
	fitting(t, "'int'", true, number(3, 0), number(3, math.MaxInt32), number(3, math.MinInt32))
	fitting(t, "'int'", false, number(3, math.MaxInt32+1), number(3, math.MinInt32-1), number(3, 1<<32), number(4, 0))
	fitting(t, "'long'", true, number(4, 0), number(4, math.MaxInt64), number(4, math.MinInt64))
	fitting(t, "'long'", false, number(3, 0), number(5, 0))
	fitting(t, "'float'", true, bits(5, 0), bits(5, 0x7f800001), bits(5, math.MaxUint32))
	fitting(t, "'float'", false, bits(5, math.MaxUint32+1), bits(5, 1<<63), bits(6, 0))
	fitting(t, "'double'", true, bits(6, 0), bits(6, math.MaxUint64))
	fitting(t, "'double'", false, bits(5, 0))
	fitting(t, "'bytes'", true, worded(7, ""), worded(7, "\xff\x00"))
	fitting(t, "'bytes'", false, worded(8, ""), worded(14, ""))
	fitting(t, "'string'", true, worded(8, ""), worded(8, "a\x00\u00e9\u20ac\U0010ffff"))
	fitting(t, "'string'", false, worded(7, ""), worded(8, "\xff"), worded(8, "\xc0\x80"), worded(8, "\xed\xa0\x80"), worded(8, "\xf4\x90\x80\x80"), worded(8, "a\xc3"))
	fitting(t, "{'type':'fixed','name':'F','size':2}", true, worded(14, "ab"), worded(14, "\xff\x00"))
	fitting(t, "{'type':'fixed','name':'F','size':2}", false, worded(14, ""), worded(14, "a"), worded(14, "abc"), worded(7, "ab"))
	fitting(t, "{'type':'fixed','name':'F','size':0}", true, worded(14, ""))
	fitting(t, "{'type':'enum','name':'E','symbols':['a','b']}", true, number(10, 0), number(10, 1))
	fitting(t, "{'type':'enum','name':'E','symbols':['a','b']}", false, number(10, 2), number(10, -1), number(10, 1<<32), number(3, 0))
}

// P7, Words: records, unions, arrays, maps.
func TestFitsWithKids(t *testing.T) {
	record := "{'type':'record','name':'R','fields':[{'name':'a','type':'int'},{'name':'b','type':'string','default':'x'}]}"
	fitting(t, record, true, of(9, number(3, 1), worded(8, "")))
	fitting(t, record, false, of(9), of(9, number(3, 1)), of(9, worded(8, ""), number(3, 1)), of(9, number(3, 1), worded(8, ""), null()), of(11, number(3, 1), worded(8, "")), of(9, number(3, 1), worded(8, "\xff")), of(9, number(3, 1<<31), worded(8, "")))
	fitting(t, "{'type':'record','name':'R','fields':[]}", true, of(9), Datum{Kind: 9, Kids: []Datum{}, Names: []string{}})
	fitting(t, "{'type':'record','name':'R','fields':[]}", false, of(9, null()))
	fitting(t, "['int','string']", true, branch(0, number(3, 1)), branch(1, worded(8, "a")))
	fitting(t, "['int','string']", false, branch(1, number(3, 1)), branch(0, worded(8, "a")), branch(2, worded(8, "a")), branch(-1, number(3, 1)), branch(1<<32, number(3, 1)), of(13), of(13, number(3, 1), number(3, 1)), number(3, 1))
	fitting(t, "{'type':'array','items':'int'}", true, of(11), ints(1), ints(1, 1, 2))
	fitting(t, "{'type':'array','items':'int'}", false, of(12), of(11, null()), of(11, number(3, 1), number(4, 1)), of(9, number(3, 1)))
	maps := "{'type':'map','values':'int'}"
	fitting(t, maps, true, of(12), mapped([]string{""}, number(3, 1)), mapped([]string{"b", "a"}, number(3, 1), number(3, 1)))
	fitting(t, maps, false, of(11), mapped([]string{"a", "a"}, number(3, 1), number(3, 2)), mapped([]string{"a", "b", "a"}, number(3, 1), number(3, 2), number(3, 3)), mapped([]string{"\xff"}, number(3, 1)),
		mapped([]string{"a"}), mapped(nil, number(3, 1)), mapped([]string{"a"}, number(3, 1), number(3, 2)), mapped([]string{"a", "b"}, number(3, 1)), mapped([]string{"a"}, number(4, 1)))
	// Two maps may have the same key.
	one := mapped([]string{"a"}, number(3, 1))
	fitting(t, "{'type':'array','items':"+maps+"}", true, of(11, one, one))
}

// Words: what a kind gives no meaning is 0, "" or empty.
func TestFitsBare(t *testing.T) {
	some := map[string]Datum{
		"'null'": null(), "'boolean'": number(2, 1), "'int'": number(3, 1), "'long'": number(4, 1), "'float'": bits(5, 1), "'double'": bits(6, 1), "'bytes'": worded(7, "a"), "'string'": worded(8, "a"),
		"{'type':'record','name':'R','fields':[{'name':'a','type':'null'}]}": of(9, null()),
		"{'type':'enum','name':'E','symbols':['a','b']}":                     number(10, 1),
		"{'type':'array','items':'null'}":                                    of(11, null()),
		"{'type':'map','values':'null'}":                                     mapped([]string{"a"}, null()),
		"['null','int']":                                                     branch(1, number(3, 1)),
		"{'type':'fixed','name':'F','size':1}":                               worded(14, "a"),
	}
	for schema, d := range some {
		fitting(t, schema, true, d)
		for i := range 5 {
			more := d
			switch {
			case i == 0 && d.Int == 0:
				more.Int = 1
			case i == 1 && d.Bits == 0:
				more.Bits = 1
			case i == 2 && d.Text == "":
				more.Text = "a"
			case i == 3 && d.Names == nil:
				more.Names = []string{"a"}
			case i == 4 && d.Kids == nil:
				more.Kids = []Datum{null()}
			default:
				continue
			}
			fitting(t, schema, false, more)
			if schema != "'null'" {
				fitting(t, "{'type':'array','items':"+schema+"}", false, of(11, d, more))
			}
		}
	}
}

// P7: 64 deep, and no more; P1: also what is nested 10,000 deep is looked at.
func TestFitsDeep(t *testing.T) {
	fitting(t, linkedSchema, true, linked(3), linked(63))
	fitting(t, linkedSchema, false, linked(65), linked(9999))
	fitting(t, "["+linkedSchema+"]", true, branch(0, linked(63)))
	fitting(t, "{'type':'array','items':["+linkedSchema+"]}", false, of(11, branch(0, linked(63))))
	lists := "{'type':'record','name':'R','fields':[{'name':'a','type':{'type':'array','items':'R'}}]}"
	d := of(9, of(11))
	for range 31 {
		d = of(9, of(11, d))
	}
	fitting(t, lists, true, d)
	fitting(t, lists, false, of(9, of(11, d)))
	fitting(t, "['null',"+lists+"]", false, branch(1, d))
}

// P7: 1,000 items of arrays and maps in all.
func TestFitsMany(t *testing.T) {
	array := "{'type':'array','items':'null'}"
	fitting(t, array, true, nulls(1000))
	fitting(t, array, false, nulls(1001))
	arrays := "{'type':'array','items':" + array + "}"
	fitting(t, arrays, true, of(11, nulls(499), nulls(499)))
	fitting(t, arrays, false, of(11, nulls(499), nulls(500)))
	record := "{'type':'record','name':'R','fields':[{'name':'a','type':" + array + "},{'name':'b','type':[" + array + "]}]}"
	fitting(t, record, true, of(9, nulls(400), branch(0, nulls(600))))
	fitting(t, record, false, of(9, nulls(400), branch(0, nulls(601))))
	for n, fine := range map[int]bool{999: true, 1000: false} {
		names := []string{}
		for i := range n {
			names = append(names, fmt.Sprint(i))
		}
		m := mapped(names, nulls(n).Kids...)
		fitting(t, "{'type':'array','items':{'type':'map','values':'null'}}", fine, of(11, m))
		fitting(t, "{'type':'map','values':'null'}", true, m)
	}
}

// P7: floats, and their data.
func TestFloats(t *testing.T) {
	for _, f := range []float32{0, float32(math.Copysign(0, -1)), 1, -1.5, math.MaxFloat32, math.SmallestNonzeroFloat32, float32(math.Inf(-1)), float32(math.NaN())} {
		d := FromFloat32(f)
		if shown(d) != shown(bits(5, uint64(math.Float32bits(f)))) && f == f || d.Kind != 5 || d.Bits > math.MaxUint32 {
			t.Errorf("%v: %s", f, shown(d))
		}
		if got := Number(d); math.Float64bits(got) != math.Float64bits(float64(f)) && (f == f || got == got) {
			t.Errorf("%v again: %v", f, got)
		}
	}
	for _, f := range []float64{0, math.Copysign(0, -1), 1, math.Pi, math.MaxFloat64, math.SmallestNonzeroFloat64, math.Inf(1), math.NaN()} {
		d := FromFloat64(f)
		if shown(d) != shown(bits(6, math.Float64bits(f))) && f == f || d.Kind != 6 {
			t.Errorf("%v: %s", f, shown(d))
		}
		if got := Number(d); math.Float64bits(got) != math.Float64bits(f) && (f == f || got == got) {
			t.Errorf("%v again: %v", f, got)
		}
	}
}

// P7: Number, of all data.
func TestNumber(t *testing.T) {
	for _, c := range []struct {
		d    Datum
		want float64
	}{
		{number(3, -5), -5},
		{number(4, math.MaxInt64), 9223372036854775808},
		{number(4, 9007199254740993), 9007199254740992}, // half way: to the even one
		{number(4, 9007199254740995), 9007199254740996},
		{number(2, 1), 1},
		{number(10, 3), 3},
		{branch(2, number(3, 7)), 2},
		{worded(8, "7"), 0},
		{Datum{}, 0},
		{Datum{Kind: -3, Int: 4, Bits: 1}, 4},
		{Datum{Kind: 5, Int: 4, Bits: 0xabcdef003fc00000}, 1.5}, // the low 32
		{Datum{Kind: 6, Int: 4, Bits: 0x3ff8000000000000}, 1.5},
	} {
		if got := Number(c.d); got != c.want {
			t.Errorf("%s: got %v, want %v", shown(c.d), got, c.want)
		}
	}
	for _, d := range []Datum{bits(5, 0x7f800001), bits(5, 0xffffffff), bits(6, 0x7ff0000000000001), bits(6, math.MaxUint64)} {
		if got := Number(d); got == got {
			t.Errorf("%s: got %v, want what is no number", shown(d), got)
		}
	}
}

// P1: what Parse did not make has no data, and does no harm.
func TestNoSchema(t *testing.T) {
	whole := schemaOf(t, "'null'")
	for _, s := range []*Schema{nil, {}} {
		if s.Fits(null()) || Match(s, whole) || Match(whole, s) || s.Canonical() != "" {
			t.Error("what is no schema has data")
		}
		if text, err := s.Encode(null()); text != "" || reasonOf(t, err) != ErrDatum {
			t.Errorf("Encode: %q, %v", text, err)
		}
		for _, decode := range []func(string) (Datum, int, error){s.Decode, func(text string) (Datum, int, error) { return s.DecodeAs(whole, text) }, func(text string) (Datum, int, error) { return whole.DecodeAs(s, text) }} {
			if d, n, err := decode("\x00"); shown(d) != shown(Datum{}) || n != 0 || reasonOf(t, err) != ErrSchema {
				t.Errorf("Decode: %s, %d, %v", shown(d), n, err)
			}
		}
	}
}

// P2: what goes in is only read.
func TestDataAreOnlyRead(t *testing.T) {
	s := schemaOf(t, "{'type':'map','values':{'type':'array','items':'int'}}")
	d := mapped([]string{"b", "a"}, ints(2, 1), of(11))
	want := shown(d)
	s.Fits(d)
	s.Encode(d)
	Number(d)
	if got := shown(d); got != want {
		t.Errorf("changed: %s, want %s", got, want)
	}
}
