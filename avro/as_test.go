package avro

import (
	"fmt"
	"math/rand"
	"strings"
	"testing"
)

// matching looks at Match of two schemas.
func matching(t *testing.T, want bool, w, r string) {
	t.Helper()
	if got := Match(schemaOf(t, w), schemaOf(t, r)); got != want {
		t.Errorf("%s as %s: got %v", w, r, got)
	}
}

// P10: all kinds against each other.
func TestMatchKinds(t *testing.T) {
	kinds := []string{"'null'", "'boolean'", "'int'", "'long'", "'float'", "'double'", "'bytes'", "'string'", "{'type':'record','name':'N','fields':[]}", "{'type':'enum','name':'N','symbols':['a']}", "{'type':'array','items':'null'}", "{'type':'map','values':'null'}", "{'type':'fixed','name':'N','size':1}"}
	pairs := map[string]int{"'int' 'long'": 1, "'int' 'float'": 2, "'int' 'double'": 3, "'long' 'float'": 4, "'long' 'double'": 5, "'float' 'double'": 6, "'bytes' 'string'": 7, "'string' 'bytes'": 8}
	for i, w := range kinds {
		for j, r := range kinds {
			_, ok := pairs[w+" "+r]
			matching(t, i == j || ok, w, r)
			matching(t, true, w, "["+r+"]")
			matching(t, true, "["+w+"]", r)
			matching(t, true, "["+w+"]", "["+r+"]")
			matching(t, i == j || ok, "{'type':'array','items':"+w+"}", "{'type':'array','items':"+r+"}")
			matching(t, i == j || ok, "{'type':'map','values':"+w+"}", "{'type':'map','values':"+r+"}")
			matching(t, false, "{'type':'map','values':"+w+"}", "{'type':'array','items':"+r+"}")
		}
	}
}

// P10: names, sizes, aliases; what stands in records and enums does not matter.
func TestMatchNames(t *testing.T) {
	for _, form := range []string{"{'type':'record','name':%s,'fields':[]}", "{'type':'enum','name':%s,'symbols':['a']}", "{'type':'fixed','name':%s,'size':1}"} {
		for _, c := range []struct {
			w, r string
			want bool
		}{
			{"'A'", "'A'", true}, {"'x.A'", "'A'", true}, {"'A'", "'x.y.A'", true}, {"'A','namespace':'x'", "'y.A'", true},
			{"'A'", "'B'", false}, {"'x.A'", "'x.B'", false}, {"'A.B'", "'A'", false}, {"'A'", "'A.B'", false}, {"'XA'", "'A'", false}, {"'A'", "'XA'", false}, {"'a'", "'A'", false},
			{"'A'", "'B','aliases':['C','A']", true}, {"'x.A'", "'B','aliases':['y.A']", true}, {"'x.A'", "'z.B','aliases':['A']", true}, {"'A'", "'B','aliases':['A.C']", false}, {"'A'", "'B','aliases':[]", false}, {"'A'", "'A','aliases':['C']", true},
			{"'B','aliases':['A']", "'A'", false}, {"'B','aliases':['A']", "'C','aliases':['A']", false},
		} {
			matching(t, c.want, fmt.Sprintf(form, c.w), fmt.Sprintf(form, c.r))
			matching(t, c.want, "{'type':'array','items':"+fmt.Sprintf(form, c.w)+"}", "{'type':'array','items':"+fmt.Sprintf(form, c.r)+"}")
		}
	}
	matching(t, false, "{'type':'fixed','name':'A','size':1}", "{'type':'fixed','name':'A','size':2}")
	matching(t, false, "{'type':'fixed','name':'A','size':1}", "{'type':'fixed','name':'B','aliases':['A'],'size':0}")
	matching(t, true, "{'type':'record','name':'A','fields':[{'name':'a','type':'int'}]}", "{'type':'record','name':'A','fields':[{'name':'b','type':'string'}]}")
	matching(t, true, "{'type':'enum','name':'A','symbols':['a']}", "{'type':'enum','name':'A','symbols':['b']}")
	matching(t, false, "{'type':'array','items':{'type':'map','values':'long'}}", "{'type':'array','items':{'type':'map','values':'int'}}")
	matching(t, true, "{'type':'array','items':{'type':'map','values':['long']}}", "{'type':'array','items':{'type':'map','values':'int'}}")
}

// readAs looks at what a reader makes of bytes: a reason, or a datum of all of them.
func readAs(t *testing.T, w, r, text string, want any) {
	t.Helper()
	d, n, err := schemaOf(t, r).DecodeAs(schemaOf(t, w), raw(t, text))
	switch want := want.(type) {
	case error:
		if shown(d) != shown(Datum{}) || n != 0 || reasonOf(t, err) != want {
			t.Errorf("%s as %s: %.80s: got %.200s, %d, %v, want: %v", w, r, text, shown(d), n, err, want)
		}
	case Datum:
		if shown(d) != shown(want) || n != len(raw(t, text)) || err != nil {
			t.Errorf("%s as %s: %.80s: got %.200s, %d, %v, want %.200s", w, r, text, shown(d), n, err, shown(want))
		}
	}
}

// P11: data that stay what they are, in all kinds.
func TestAsItIs(t *testing.T) {
	readAs(t, "'null'", "'null'", "", null())
	readAs(t, "'boolean'", "'boolean'", "01", number(2, 1))
	readAs(t, "'int'", "'int'", "0b", number(3, -6))
	readAs(t, "'long'", "'long'", "ffffffffffffffffff01", number(4, -1<<63))
	readAs(t, "'float'", "'float'", "0100807f", bits(5, 0x7f800001))
	readAs(t, "'double'", "'double'", "010000000000f07f", bits(6, 0x7ff0000000000001))
	readAs(t, "'bytes'", "'bytes'", "02ff", worded(7, "\xff"))
	readAs(t, "'string'", "'string'", "0261", worded(8, "a"))
	readAs(t, "{'type':'fixed','name':'x.F','size':2}", "{'type':'fixed','name':'G','size':2,'aliases':['F']}", "01ff", worded(14, "\x01\xff"))
	readAs(t, "{'type':'map','values':'int'}", "{'type':'map','values':'int'}", "04 026202 026104 00", mapped([]string{"b", "a"}, number(3, 1), number(3, 2)))
	readAs(t, linkedSchema, linkedSchema, "02 02 00", linked(7))
}

// P11: numbers and texts that are promoted.
func TestAsPromoted(t *testing.T) {
	readAs(t, "'int'", "'long'", "ffffffff0f", number(4, -1<<31))
	readAs(t, "'int'", "'float'", "82808010", bits(5, 0x4b800000)) // 16777217: half way, to the even one
	readAs(t, "'int'", "'float'", "86808010", bits(5, 0x4b800002)) // 16777219
	readAs(t, "'int'", "'double'", "82808010", bits(6, 0x4170000010000000))
	readAs(t, "'int'", "'float'", "01", bits(5, 0xbf800000))
	readAs(t, "'int'", "'float'", "00", bits(5, 0))
	readAs(t, "'long'", "'double'", "8280808080808020", bits(6, 0x4340000000000000)) // 2^53 + 1
	readAs(t, "'long'", "'double'", "feffffffffffffffff01", bits(6, 0x43e0000000000000))
	readAs(t, "'long'", "'float'", "ffffffffffffffffff01", bits(5, 0xdf000000))
	readAs(t, "'float'", "'double'", "0000c03f", bits(6, 0x3ff8000000000000))
	readAs(t, "'float'", "'double'", "01000080", bits(6, 0xb6a0000000000000))
	readAs(t, "'float'", "'double'", "000080ff", bits(6, 0xfff0000000000000))
	if d, _, err := schemaOf(t, "'double'").DecodeAs(schemaOf(t, "'float'"), raw(t, "0100807f")); d.Kind != 6 || Number(d) == Number(d) || err != nil {
		t.Errorf("what is no number as a double: %s, %v", shown(d), err)
	}
	// 2^58 + 2^34 + 1: by way of a double it would be half way between two floats, and go down.
	s := schemaOf(t, "'long'")
	text, _ := s.Encode(number(4, 1<<58+1<<34+1))
	if d, _, _ := schemaOf(t, "'float'").DecodeAs(s, text); d.Bits != 0x5c800001 {
		t.Errorf("rounded twice: %s", shown(d))
	}
	readAs(t, "'bytes'", "'string'", "04c3a9", worded(8, "\u00e9"))
	readAs(t, "'bytes'", "'string'", "02c3", ErrResolve)
	readAs(t, "'string'", "'bytes'", "04c3a9", worded(7, "\xc3\xa9"))
	readAs(t, "'string'", "'bytes'", "02c3", ErrRange) // as w's Decode
	for _, c := range [][2]string{{"'long'", "'int'"}, {"'double'", "'float'"}, {"'float'", "'long'"}, {"'int'", "'boolean'"}, {"'boolean'", "'int'"}, {"'null'", "'int'"}, {"'int'", "'null'"}, {"'bytes'", "'int'"}, {"'string'", "'null'"}} {
		readAs(t, c[0], c[1], "0000000000000000", ErrResolve)
	}
	readAs(t, "'bytes'", "{'type':'fixed','name':'F','size':1}", "0261", ErrResolve)
}

// P11: unions of either.
func TestAsUnions(t *testing.T) {
	readAs(t, "['int','string']", "'bytes'", "020261", worded(7, "a"))
	readAs(t, "['int','string']", "'long'", "000a", number(4, 5))
	readAs(t, "['int','string']", "'long'", "020261", ErrResolve)
	readAs(t, "['int','string']", "'string'", "000a", ErrResolve)
	readAs(t, "'int'", "['null','double','int']", "0a", branch(1, bits(6, 0x4014000000000000))) // the first that matches, not the best
	readAs(t, "'int'", "['int','double']", "0a", branch(0, number(3, 5)))
	readAs(t, "'int'", "['null','string']", "0a", ErrResolve)
	readAs(t, "['null','int']", "['string','long','null']", "00", branch(2, null()))
	readAs(t, "['null','int']", "['string','long','null']", "020a", branch(1, number(4, 5)))
	readAs(t, "['null','int']", "['string','boolean','null']", "020a", ErrResolve)
	readAs(t, "'bytes'", "['string','bytes']", "02ff", ErrResolve) // the first matches, and does not have it
	readAs(t, "'bytes'", "['bytes','string']", "02ff", branch(0, worded(7, "\xff")))
	w := "{'type':'record','name':'R','fields':[{'name':'a','type':'int'}]}"
	other := "{'type':'record','name':'x.R','fields':[{'name':'b','type':'int'}]}"
	readAs(t, w, "["+other+","+w+"]", "0a", ErrResolve)
	readAs(t, w, "["+w+","+other+"]", "0a", branch(0, of(9, number(3, 5))))
	readAs(t, "{'type':'array','items':'int'}", "[{'type':'array','items':['null','long']}]", "020a00", branch(0, of(11, branch(1, number(4, 5)))))
	readAs(t, "{'type':'array','items':'int'}", "[{'type':'map','values':'int'},{'type':'array','items':'string'}]", "00", ErrResolve)
}

// P11: enums: by their symbols' texts.
func TestAsEnums(t *testing.T) {
	w := "{'type':'enum','name':'E','symbols':['a','b','c'],'default':'a'}"
	r := "{'type':'enum','name':'E','symbols':['c','a']%s}"
	readAs(t, w, fmt.Sprintf(r, ""), "00", number(10, 1))
	readAs(t, w, fmt.Sprintf(r, ""), "04", number(10, 0))
	readAs(t, w, fmt.Sprintf(r, ""), "02", ErrResolve) // w's default does not count
	readAs(t, w, fmt.Sprintf(r, ",'default':'a'"), "02", number(10, 1))
	readAs(t, w, fmt.Sprintf(r, ",'default':'c'"), "02", number(10, 0))
	readAs(t, w, fmt.Sprintf(r, ",'default':'a'"), "04", number(10, 0))
	readAs(t, w, "{'type':'enum','name':'F','symbols':['a','b','c']}", "00", ErrResolve)
	readAs(t, w, "{'type':'enum','name':'F','aliases':['E'],'symbols':['a','b','c']}", "02", number(10, 1))
}

// P11: arrays and maps, item by item; where they do not match, also without items.
func TestAsItems(t *testing.T) {
	array, mapping := "{'type':'array','items':%s}", "{'type':'map','values':%s}"
	readAs(t, fmt.Sprintf(array, "'int'"), fmt.Sprintf(array, "'long'"), "03 04 0a0b 00", of(11, number(4, 5), number(4, -6)))
	readAs(t, fmt.Sprintf(array, "'int'"), fmt.Sprintf(array, "['null','long']"), "04 0a0b 00", of(11, branch(1, number(4, 5)), branch(1, number(4, -6))))
	readAs(t, fmt.Sprintf(array, "['null','int']"), fmt.Sprintf(array, "'int'"), "02 020a 00", ints(5))
	readAs(t, fmt.Sprintf(array, "['null','int']"), fmt.Sprintf(array, "'int'"), "04 020a 00 00", ErrResolve)
	readAs(t, fmt.Sprintf(array, "['null','int']"), fmt.Sprintf(array, "'string'"), "00", of(11))
	readAs(t, fmt.Sprintf(array, "'int'"), fmt.Sprintf(array, "'string'"), "00", ErrResolve)
	readAs(t, fmt.Sprintf(mapping, "'string'"), fmt.Sprintf(mapping, "'bytes'"), "04 026200 026100 00", mapped([]string{"b", "a"}, worded(7, ""), worded(7, "")))
	readAs(t, fmt.Sprintf(mapping, "'bytes'"), fmt.Sprintf(mapping, "'string'"), "02 0262 02ff 00", ErrResolve)
	readAs(t, fmt.Sprintf(mapping, "'int'"), fmt.Sprintf(array, "'int'"), "00", ErrResolve)
}

// P11: records: fields by name, else by alias, else by default.
func TestAsRecords(t *testing.T) {
	w := "{'type':'record','name':'R','fields':[{'name':'a','type':'int'},{'name':'b','type':'string','aliases':['z']},{'name':'c','type':['null','int'],'default':null}]}"
	text := "0a 0261 020b"
	as := func(fields string, want any) {
		t.Helper()
		readAs(t, w, "{'type':'record','name':'R','fields':["+fields+"]}", text, want)
	}
	a, b, c := number(3, 5), worded(8, "a"), number(3, -6)
	as("", of(9))
	as("{'name':'c','type':'int'},{'name':'a','type':'int'}", of(9, c, a))
	as("{'name':'a','type':'double'},{'name':'b','type':'bytes'}", of(9, bits(6, 0x4014000000000000), worded(7, "a")))
	as("{'name':'x','type':'int','aliases':['a']}", of(9, a))
	as("{'name':'x','type':'int','aliases':['y','c','a']}", of(9, c)) // the first that w has
	as("{'name':'x','type':'int','aliases':['y','a','c']}", of(9, a))
	as("{'name':'a','type':'int','aliases':['c']}", of(9, a)) // the name goes ahead of all aliases
	as("{'name':'x','type':'int','aliases':['a'],'default':7},{'name':'a','type':'int'}", of(9, a, a))
	as("{'name':'x','type':'string','aliases':['a','b']}", ErrResolve)          // the first that w has, whatever it is
	as("{'name':'a','type':'string','aliases':['b'],'default':''}", ErrResolve) // nor does a default help
	as("{'name':'z','type':'string'}", ErrResolve)                              // w's aliases do not count
	as("{'name':'x','type':'int'}", ErrResolve)
	as("{'name':'x','type':'int','default':7},{'name':'b','type':'string'}", of(9, number(3, 7), b))
	as("{'name':'x','type':['null','int'],'default':null}", of(9, branch(0, null())))
	as("{'name':'x','type':{'type':'record','name':'S','fields':[{'name':'p','type':'int','default':1},{'name':'q','type':{'type':'map','values':'string'}}]},'default':{'q':{'k':'v'}}}", of(9, of(9, number(3, 1), mapped([]string{"k"}, worded(8, "v")))))
	as("{'name':'c','type':['null','long']}", of(9, branch(1, number(4, -6))))
	as("{'name':'c','type':'null'}", ErrResolve)
	readAs(t, w, "{'type':'record','name':'S','fields':[]}", text, ErrResolve)
	readAs(t, w, "{'type':'record','name':'S','aliases':['R'],'fields':[]}", text, of(9))
	readAs(t, w, "{'type':'record','name':'x.R','fields':[{'name':'a','type':'int'}]}", text, of(9, a))
	readAs(t, w, "['null',{'type':'record','name':'R','fields':[{'name':'a','type':'int'}]}]", text, branch(1, of(9, a)))
	// In each other.
	readAs(t, linkedSchema, "{'type':'record','name':'R','fields':[{'name':'n','aliases':['a'],'type':['R','null']},{'name':'x','type':'boolean','default':true}]}", "0200",
		of(9, branch(0, of(9, branch(1, null()), number(2, 1))), number(2, 1)))
}

// P11: the writer's errors go ahead of what the reader does not have.
func TestAsWritersErrors(t *testing.T) {
	readAs(t, "'boolean'", "'string'", "02", ErrRange)
	readAs(t, "{'type':'array','items':'null'}", "'string'", "d20f", ErrMany)
	readAs(t, "{'type':'record','name':'R','fields':[{'name':'a','type':'R'}]}", "'string'", "", ErrDeep)
	readAs(t, "{'type':'record','name':'R','fields':[{'name':'a','type':'int'},{'name':'b','type':'bytes'}]}", "{'type':'record','name':'R','fields':[{'name':'c','type':'int'}]}", "0a 8002", ErrShort)
	readAs(t, "'int'", "'string'", "", ErrShort)
}

// P11, P7: what would be deeper than 64, or have more than 1,000 items, the reader does not have.
func TestAsBeyond(t *testing.T) {
	wrapped := "[" + linkedSchema + "]"
	readAs(t, linkedSchema, wrapped, strings.Repeat("02", 30)+"00", branch(0, linked(63)))
	readAs(t, linkedSchema, "{'type':'record','name':'R','fields':[{'name':'a','type':['null','R']},{'name':'b','type':{'type':'array','items':{'type':'array','items':['null']}},'default':[[null]]}]}", strings.Repeat("02", 30)+"00", ErrResolve)
	rows := func(n int) string {
		return "{'type':'array','items':{'type':'record','name':'R','fields':[{'name':'a','type':{'type':'array','items':'int'},'default':[" + strings.TrimSuffix(strings.Repeat("1,", n), ",") + "]}]}}"
	}
	row := of(9, ints(1, 1, 1))
	full := Datum{Kind: 11}
	for range 250 {
		full.Kids = append(full.Kids, row)
	}
	w := "{'type':'array','items':{'type':'record','name':'R','fields':[]}}"
	readAs(t, w, rows(3), "f403 00", full)       // 250 and 750
	readAs(t, w, rows(3), "f603 00", ErrResolve) // 251 and 753
	readAs(t, w, w, "d00f 00", many(make([]int, 1000), func(int) Datum { return of(9) }))
}

// P2: no two lists of what is handed out share memory, also where one field of the writer's is read twice, or a default stands twice.
func TestAsIsNew(t *testing.T) {
	w := schemaOf(t, "{'type':'array','items':{'type':'record','name':'R','fields':[{'name':'a','type':{'type':'map','values':{'type':'array','items':'int'}}}]}}")
	r := schemaOf(t, "{'type':'array','items':{'type':'record','name':'R','fields':[{'name':'x','aliases':['a'],'type':{'type':'map','values':{'type':'array','items':'int'}}},{'name':'a','type':{'type':'map','values':{'type':'array','items':'int'}}},{'name':'d','type':{'type':'map','values':{'type':'array','items':'int'}},'default':{'k':[1]}}]}}")
	text := raw(t, "04 02 026b 020200 00 02 026b 020200 00 00")
	one, _, err := r.DecodeAs(w, text)
	if err != nil {
		t.Fatal(err)
	}
	want := shown(one)
	for i := range 2 {
		for j := range 3 {
			one, _, _ := r.DecodeAs(w, text)
			whole := shown(one)
			m := &one.Kids[i].Kids[j]
			before := *m
			m.Names[0], m.Kids[0].Kids[0].Int = "x", 9
			changed := shown(one)
			m.Names[0], m.Kids[0].Kids[0].Int = "k", 1
			if whole != want || shown(*m) != shown(before) || strings.Count(changed, `"x"`) != 1 || strings.Count(changed, "<3 9 ") != 1 {
				t.Errorf("%d, %d: %s: %s", i, j, whole, changed)
			}
		}
	}
}

// P1: DecodeAs ends with a datum that the reader has, or with one of its reasons; it takes as many bytes as Decode. Under one schema it is Decode.
func TestAsEnds(t *testing.T) {
	r := rand.New(rand.NewSource(11))
	schemas := drawn(t)
	fine, refused := 0, 0
	for range 60000 {
		w, s, text := schemas[r.Intn(len(schemas))], schemas[r.Intn(len(schemas))], anyBytes(r)
		plainOne, size, plainErr := w.Decode(text)
		if same, n, err := w.DecodeAs(w, text); shown(same) != shown(plainOne) || n != size || reasonOf(t, err) != reasonOf(t, plainErr) {
			t.Fatalf("%s as itself: %x: %s, %d, %v", w.Canonical(), text, shown(same), n, err)
		}
		d, n, err := s.DecodeAs(w, text)
		switch reason := reasonOf(t, err); {
		case plainErr != nil:
			if reason != reasonOf(t, plainErr) || n != 0 || shown(d) != shown(Datum{}) {
				t.Fatalf("%s as %s: %x: %s, %d, %v", w.Canonical(), s.Canonical(), text, shown(d), n, err)
			}
		case err != nil:
			refused++
			if reason != ErrResolve || n != 0 || shown(d) != shown(Datum{}) {
				t.Fatalf("%s as %s: %x: %s, %d, %v", w.Canonical(), s.Canonical(), text, shown(d), n, err)
			}
		default:
			fine++
			if !s.Fits(d) || n != size || !Match(w, s) {
				t.Fatalf("%s as %s: %x: %s, %d", w.Canonical(), s.Canonical(), text, shown(d), n)
			}
		}
	}
	if fine < 1000 || refused < 1000 {
		t.Errorf("%d are fine, %d refused: too few to tell", fine, refused)
	}
}
