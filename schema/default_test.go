package schema

import (
	"fmt"
	"reflect"
	"strings"
	"testing"

	"avro/datum"
	"avro/jsonvalue"
)

// read tells the schema that a text with ' for " is.
func read(t *testing.T, text string) *Type {
	t.Helper()
	v, err := jsonvalue.Read(strings.ReplaceAll(text, "'", `"`))
	if err != nil {
		t.Fatalf("%s: %v", text, err)
	}
	s, err := Read(v)
	if err != nil {
		t.Fatalf("%s: %v", text, err)
	}
	return s
}

// byDefault tells the default of a record's one field.
func byDefault(t *testing.T, schema, value string) datum.Datum {
	t.Helper()
	d, ok := read(t, "{'type':'record','name':'R','fields':[{'name':'a','type':"+schema+",'default':"+value+"}]}").Fields[0].Default()
	if !ok {
		t.Fatalf("%s by default %s: there is none", schema, value)
	}
	return d
}

// P5, Words: the datum that each default is; what has no meaning in it is 0, "" or empty.
func TestDefaultData(t *testing.T) {
	number := func(kind int, n int64) datum.Datum { return datum.Datum{Kind: kind, Int: n} }
	bits := func(kind int, n uint64) datum.Datum { return datum.Datum{Kind: kind, Bits: n} }
	text := func(kind int, s string) datum.Datum { return datum.Datum{Kind: kind, Text: s} }
	of := func(kind int, kids ...datum.Datum) datum.Datum { return datum.Datum{Kind: kind, Kids: kids} }
	inner := "{'type':'record','name':'S','fields':[{'name':'x','type':'int','default':5},{'name':'y','type':'string'},{'name':'z','type':['null','S'],'default':null}]}"
	for _, c := range []struct {
		schema, value string
		want          datum.Datum
	}{
		{"'null'", "null", datum.Datum{Kind: 1}},
		{"'boolean'", "true", number(2, 1)},
		{"'boolean'", "false", number(2, 0)},
		{"'int'", "-2147483648", number(3, -2147483648)},
		{"'long'", "-999999999999999999", number(4, -999999999999999999)},
		{"'float'", "0", bits(5, 0)},
		{"'float'", "-0", bits(5, 0)},
		{"'float'", "1", bits(5, 0x3f800000)},
		{"'float'", "-3", bits(5, 0xc0400000)},
		{"'float'", "16777217", bits(5, 0x4b800000)},           // half way: to the even one
		{"'float'", "16777219", bits(5, 0x4b800002)},           // half way: to the even one
		{"'float'", "288230393331580929", bits(5, 0x5c800001)}, // above half way by less than a double has
		{"'double'", "1", bits(6, 0x3ff0000000000000)},
		{"'double'", "16777217", bits(6, 0x4170000010000000)},
		{"'double'", "9007199254740993", bits(6, 0x4340000000000000)},
		{"'double'", "-9007199254740995", bits(6, 0xc340000000000002)},
		{"'string'", "'\u20ac\\u0000'", text(8, "\u20ac\x00")},
		{"'bytes'", "'a\u00ff\\u0080\\u0000'", text(7, "a\xff\x80\x00")},
		{"'bytes'", "''", text(7, "")},
		{"{'type':'fixed','name':'F','size':2}", "'\u00e9a'", text(14, "\xe9a")},
		{"{'type':'enum','name':'E','symbols':['p','q','r']}", "'q'", number(10, 1)},
		{"{'type':'array','items':'int'}", "[3,1,2]", of(11, number(3, 3), number(3, 1), number(3, 2))},
		{"{'type':'array','items':'int'}", "[]", of(11)},
		{"{'type':'map','values':'int'}", "{'b':1,'':2,'a':3}", datum.Datum{Kind: 12, Names: []string{"b", "", "a"}, Kids: []datum.Datum{number(3, 1), number(3, 2), number(3, 3)}}},
		{"{'type':'map','values':'int'}", "{}", of(12)},
		{"['string','null']", "'x'", of(13, text(8, "x"))},
		{inner, "{'y':'q'}", of(9, number(3, 5), text(8, "q"), of(13, datum.Datum{Kind: 1}))},
		{inner, "{'other':0,'z':null,'y':'','x':-1}", of(9, number(3, -1), text(8, ""), of(13, datum.Datum{Kind: 1}))},
		{"{'type':'record','name':'S','fields':[]}", "{}", of(9)},
		{"{'type':'array','items':" + inner + "}", "[{'y':'a'},{'y':'b','x':6}]", of(11, of(9, number(3, 5), text(8, "a"), of(13, datum.Datum{Kind: 1})), of(9, number(3, 6), text(8, "b"), of(13, datum.Datum{Kind: 1})))},
	} {
		if got := byDefault(t, c.schema, c.value); !same(got, c.want) {
			t.Errorf("%s by default %s: got %+v, want %+v", c.schema, c.value, got, c.want)
		}
	}
}

// same takes an empty list for none.
func same(a, b datum.Datum) bool { return fmt.Sprintf("%#v", bare(a)) == fmt.Sprintf("%#v", bare(b)) }

func bare(d datum.Datum) datum.Datum {
	kids := append([]datum.Datum{}, d.Kids...)
	for i := range kids {
		kids[i] = bare(kids[i])
	}
	d.Kids, d.Names = kids, append([]string{}, d.Names...)
	return d
}

// P2: a default is its caller's from then on.
func TestDefaultIsNew(t *testing.T) {
	s := read(t, "{'type':'record','name':'R','fields':[{'name':'a','type':{'type':'map','values':{'type':'array','items':'int'}},'default':{'x':[1]}},{'name':'b','type':'int'}]}")
	one, _ := s.Fields[0].Default()
	want := fmt.Sprint(one)
	one.Names[0], one.Kids[0].Kids[0].Int = "y", 2
	if two, ok := s.Fields[0].Default(); !ok || fmt.Sprint(two) != want {
		t.Errorf("changed: %v, want %v", two, want)
	}
	if d, ok := s.Fields[1].Default(); ok || !reflect.DeepEqual(d, datum.Datum{}) {
		t.Errorf("a field without a default: %v, %v", d, ok)
	}
}
