package avro

import (
	"fmt"
	"strings"
	"testing"
)

func isFine(form string) bool { return strings.HasPrefix(form, "[") || strings.HasPrefix(form, "{") }

// taken looks whether a record's field may have a default.
func taken(t *testing.T, schema string, fine bool, defaults ...string) {
	t.Helper()
	without := parsed(plainly(ofField(schema, "")))
	if !isFine(without) {
		t.Fatalf("%s: %s", schema, without)
	}
	for _, d := range defaults {
		want := "schema"
		if fine {
			want = without
		}
		if got := parsed(plainly(ofField(schema, ",'default':"+d))); got != want {
			t.Errorf("%s by default %s: got %s, want %s", schema, d, got, want)
		}
	}
}

// P5: by the field's schema. (schema's tests look at the data that come of it.)
func TestDefaults(t *testing.T) {
	taken(t, "'null'", true, "null")
	taken(t, "'null'", false, "0", "false", "''", "'null'", "[]", "{}")
	taken(t, "'boolean'", true, "true", "false")
	taken(t, "'boolean'", false, "null", "0", "1", "'true'")
	taken(t, "'int'", true, "0", "-0", "2147483647", "-2147483648")
	taken(t, "'int'", false, "2147483648", "-2147483649", "999999999999999999", "null", "true", "'1'", "[1]")
	taken(t, "'long'", true, "0", "2147483648", "999999999999999999", "-999999999999999999")
	taken(t, "'long'", false, "null", "true", "'1'", "{}")
	taken(t, "'float'", true, "0", "-1", "999999999999999999")
	taken(t, "'float'", false, "null", "'1'", "'NaN'")
	taken(t, "'double'", true, "0", "-1", "999999999999999999")
	taken(t, "'double'", false, "null", "false", "'1'")
	taken(t, "'string'", true, "''", "'a'", "'\u20ac\\ud83d\\ude00\\u0000'")
	taken(t, "'string'", false, "null", "1", "['a']")
	taken(t, "'bytes'", true, "''", "'a'", "'\\u0000\u00ff\\u00ff'")
	taken(t, "'bytes'", false, "'\u0100'", "'\\u0100'", "'\\ud83d\\ude00'", "null", "1", "[1]")
	taken(t, "{'type':'fixed','name':'F','size':2}", true, "'ab'", "'\u00ff\\u0000'")
	taken(t, "{'type':'fixed','name':'F','size':2}", false, "''", "'a'", "'abc'", "'\u00ff'", "'a\u0100'", "null", "12")
	taken(t, "{'type':'fixed','name':'F','size':0}", true, "''")
	taken(t, "{'type':'fixed','name':'F','size':0}", false, "'a'")
	taken(t, "{'type':'enum','name':'E','symbols':['a','b'],'default':'a'}", true, "'a'", "'b'")
	taken(t, "{'type':'enum','name':'E','symbols':['a','b'],'default':'a'}", false, "'c'", "''", "0", "null")
	taken(t, "{'type':'array','items':'int'}", true, "[]", "[1]", "[1,2,1]")
	taken(t, "{'type':'array','items':'int'}", false, "1", "{}", "null", "['1']", "[1,null]", "[2147483648]", "[[1]]")
	taken(t, "{'type':'map','values':'int'}", true, "{}", "{'':1}", "{'a':1,'b':2}")
	taken(t, "{'type':'map','values':'int'}", false, "1", "[]", "null", "{'a':'1'}", "{'a':1,'b':null}")
	taken(t, "['int','null']", true, "1")
	taken(t, "['int','null']", false, "null", "'int'", "{'int':1}", "[1]")
	taken(t, "['null','int']", true, "null")
	taken(t, "['null','int']", false, "1")
	taken(t, "['null','R']", true, "null")
	taken(t, "['null','R']", false, "{}")
}

// P5: of records, and of fields that a default does not have.
func TestDefaultsOfRecords(t *testing.T) {
	schema := "{'type':'record','name':'S','fields':[{'name':'x','type':'int','default':5},{'name':'y','type':'string'}]}"
	taken(t, schema, true, "{'y':''}", "{'y':'','x':1}", "{'y':'','z':[]}")
	taken(t, schema, false, "{}", "{'x':1}", "{'y':1}", "{'x':'','y':''}", "{'x':null,'y':''}", "null", "[]", "[1,'']", "''")
	taken(t, "{'type':'record','name':'S','fields':[]}", true, "{}", "{'z':1}")
	taken(t, "{'type':'record','name':'S','fields':[]}", false, "null", "[]")
	taken(t, "{'type':'record','name':'S','fields':[{'name':'x','type':['null','S'],'default':null}]}", true, "{}", "{'x':null}")
	taken(t, "{'type':'record','name':'S','fields':[{'name':'x','type':['null','S'],'default':null}]}", false, "{'x':{}}")
	taken(t, "{'type':'record','name':'S','fields':[{'name':'x','type':['S','null']}]}", false, "{}", "{'x':{}}", "{'x':null}")
	// Endless ones.
	taken(t, "'R'", false, "{}", "{'a':{}}", "null")
	taken(t, "{'type':'array','items':'R'}", true, "[]", "[{'a':[]}]", "[{'a':[]},{'a':[{'a':[]}]}]")
	taken(t, "{'type':'array','items':'R'}", false, "[{}]", "[{'a':[{}]}]")
	taken(t, "{'type':'map','values':'R'}", true, "{'a':{'a':{}}}")
	taken(t, "{'type':'map','values':'R'}", false, "{'a':{}}")
	look(t, [][2]string{
		// A field's own default is looked at also where no other default needs it.
		{ofField("{'type':'record','name':'S','fields':[{'name':'x','type':'int','default':''}]}", ",'default':{'x':1}"), "schema"},
		// A record that a default stands in has all its fields, also those behind it.
		{"{'name':'R','type':'record','fields':[{'name':'a','type':{'type':'array','items':'R'},'default':[{'a':[]}]},{'name':'b','type':'int'}]}", "schema"},
		{"{'name':'R','type':'record','fields':[{'name':'a','type':{'type':'array','items':'R'},'default':[{'a':[],'b':1}]},{'name':'b','type':'int'}]}", "{'name':'R','type':'record','fields':[{'name':'a','type':{'type':'array','items':'R'}},{'name':'b','type':'int'}]}"},
		{"{'name':'R','type':'record','fields':[{'name':'a','type':{'type':'array','items':'R'},'default':[{'a':[]}]},{'name':'b','type':'int','default':1}]}", "{'name':'R','type':'record','fields':[{'name':'a','type':{'type':'array','items':'R'}},{'name':'b','type':'int'}]}"},
		{"{'name':'R','type':'record','fields':[" + listed(12, "{'name':'f%d','type':'R','default':{}}") + "]}", "schema"},
	})
}

// P5: 32 deep, by what stands in the text and by fields' own defaults; a union is one.
func TestDefaultsDeep(t *testing.T) {
	// arrays is of n arrays in each other and an int: n+1 deep.
	arrays := func(n int) (schema, value string) {
		return strings.Repeat("{'type':'array','items':", n) + "'int'" + strings.Repeat("}", n), strings.Repeat("[", n) + "1" + strings.Repeat("]", n)
	}
	// chain is of records behind each other, each the field of the next: with n arrays and k of them n+1+k deep.
	chain := func(n, k int, form string) string {
		schema, value := arrays(n)
		l := []string{"{'name':'S0','type':'record','fields':[{'name':'a','type':" + schema + ",'default':" + value + "}]}"}
		for i := range k {
			l = append(l, fmt.Sprintf("{'name':'S%d','type':'record','fields':[{'name':'a','type':%s,'default':{}}]}", i+1, fmt.Sprintf(form, i)))
		}
		return plainly("[" + strings.Join(l, ",") + "]")
	}
	for _, c := range []struct {
		n, k int
		form string
		deep int
	}{{20, 11, "'S%d'", 32}, {21, 11, "'S%d'", 33}, {9, 11, "['S%d']", 32}, {10, 11, "['S%d']", 33}, {21, 10, "'S%d'", 32}, {22, 10, "'S%d'", 33}, {0, 11, "'S%d'", 12}} {
		if got := parsed(chain(c.n, c.k, c.form)); isFine(got) != (c.deep <= 32) || !isFine(got) && got != "schema" {
			t.Errorf("%d deep (%d arrays, %d records): %.40s", c.deep, c.n, c.k, got)
		}
	}
}

// P5: at most 4,000 in a field's default, each as often as it stands there.
func TestDefaultsMany(t *testing.T) {
	for ints, fine := range map[int]bool{2: true, 3: true, 4: false} {
		// S is 2 + 997, T 1 + 4 times that + ints.
		s := "{'name':'S','type':'record','fields':[{'name':'a','type':{'type':'array','items':'int'},'default':[" + strings.Repeat("0,", 996) + "0]}]}"
		t1 := "{'name':'T','type':'record','fields':[" + listed(4, "{'name':'s%d','type':'S','default':{}}") + "," + listed(ints, "{'name':'i%d','type':'int','default':0}") + "]}"
		u := "{'name':'U','type':'record','fields':[{'name':'t','type':'T','default':{}}]}"
		if got := parsed(plainly("[" + s + "," + t1 + "," + u + "]")); isFine(got) != fine || !fine && got != "schema" {
			t.Errorf("%d defaults: %.40s", 3997+ints, got)
		}
	}
	// The same by numbers that no text could have: it must end soon.
	l := []string{"{'name':'S0','type':'record','fields':[{'name':'a','type':'int','default':0}]}"}
	for i := range 11 {
		l = append(l, fmt.Sprintf("{'name':'S%d','type':'record','fields':[%s]}", i+1, listed(6, fmt.Sprintf("{'name':'f%%d','type':'S%d','default':{}}", i))))
	}
	if got := parsed(plainly("[" + strings.Join(l, ",") + "]")); got != "schema" {
		t.Errorf("6 to the power of 11: %.40s", got)
	}
}

// P5, P7: an array's or map's default has at most 1,000 items of arrays and maps in all.
func TestDefaultsFit(t *testing.T) {
	noughts := func(n int) string { return strings.TrimSuffix(strings.Repeat("0,", n), ",") }
	named := func(n int) string {
		l := []string{}
		for i := range n {
			l = append(l, fmt.Sprintf("'%x':[]", i))
		}
		return strings.Join(l, ",")
	}
	array, arrays, maps := "{'type':'array','items':'int'}", "{'type':'array','items':{'type':'array','items':'int'}}", "{'type':'map','values':{'type':'array','items':'int'}}"
	for _, c := range []struct {
		schema, value string
		fine          bool
	}{
		{array, "[" + noughts(1000) + "]", true},
		{array, "[" + noughts(1001) + "]", false},
		{"[" + array + "]", "[" + noughts(1000) + "]", true},
		{"[" + array + "]", "[" + noughts(1001) + "]", false},
		{arrays, "[[" + noughts(499) + "],[" + noughts(499) + "]]", true},
		{arrays, "[[" + noughts(499) + "],[" + noughts(500) + "]]", false},
		{maps, "{" + named(300) + ",'x':[" + noughts(699) + "]}", true},
		{maps, "{" + named(300) + ",'x':[" + noughts(700) + "]}", false},
		// A record's arrays are held to it each for itself: it is neither array nor map.
		{"{'type':'record','name':'S','fields':[{'name':'x','type':" + array + "},{'name':'y','type':" + array + "}]}", "{'x':[" + noughts(501) + "],'y':[" + noughts(500) + "]}", true},
		{"{'type':'record','name':'S','fields':[{'name':'x','type':" + array + "}]}", "{'x':[" + noughts(1001) + "]}", false},
		// Fields' own items count.
		{"{'type':'array','items':{'type':'record','name':'S','fields':[{'name':'x','type':" + array + ",'default':[" + noughts(499) + "]}]}}", "[{},{}]", true},
		{"{'type':'array','items':{'type':'record','name':'S','fields':[{'name':'x','type':" + array + ",'default':[" + noughts(500) + "]}]}}", "[{},{}]", false},
	} {
		taken(t, c.schema, c.fine, c.value)
	}
}
