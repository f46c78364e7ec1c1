package avro

import (
	"errors"
	"fmt"
	"strings"
	"testing"
)

// parsed tells a text's plainest form, or by a word why there is none.
func parsed(text string) string {
	s, err := Parse(text)
	switch {
	case errors.Is(err, ErrText):
		return "text"
	case errors.Is(err, ErrSchema):
		return "schema"
	case err != nil:
		return "another error"
	}
	return s.Canonical()
}

// plainly writes JSON with ' for ".
func plainly(text string) string { return strings.ReplaceAll(text, "'", `"`) }

// look holds what is parsed against what is wanted; "" wants the text itself again.
func look(t *testing.T, cases [][2]string) {
	t.Helper()
	for _, c := range cases {
		text, want := plainly(c[0]), plainly(c[1])
		if want == "" {
			want = text
		}
		if got := parsed(text); got != want {
			t.Errorf("%s: got %s, want %s", text, got, want)
		}
	}
}

// listed joins n texts made by a form with a number in it.
func listed(n int, form string) string {
	l := []string{}
	for i := range n {
		l = append(l, fmt.Sprintf(form, i))
	}
	return strings.Join(l, ",")
}

// ofField is a record with one field.
func ofField(schema, more string) string {
	return "{'type':'record','name':'R','fields':[{'name':'a','type':" + schema + more + "}]}"
}

// P3: what is no JSON is told ahead of what is no schema. (jsonvalue's tests look at JSON itself.)
func TestText(t *testing.T) {
	look(t, [][2]string{
		{"", "text"},
		{"int", "text"},
		{"['int','int'", "text"},
		{"[1,]", "text"},
		{"'int'x", "text"},
		{"{'type':'int','type':'int'}", "text"},
		{"{'type':'what','a':1.5}", "text"},
		{"{'type':'int','a':'\\ud800'}", "text"},
		{"\t\r\n 'int' \t\r\n", "'int'"},
		{"'\\u0069\\u006e\\u0074'", "'int'"},
		{"{'\\u0074ype':'\\u0069nt'}", "'int'"},
		{"{'type':'int','a':" + strings.Repeat("[", 31) + strings.Repeat("]", 31) + "}", "'int'"},
		{"{'type':'int','a':" + strings.Repeat("[", 32) + strings.Repeat("]", 32) + "}", "text"},
		{"'int'" + strings.Repeat(" ", 3995), "'int'"},
		{"'int'" + strings.Repeat(" ", 3996), "text"},
		{"'what'" + strings.Repeat(" ", 3995), "text"},
	})
}

// P4, P6: the eight words.
func TestWords(t *testing.T) {
	for _, word := range []string{"null", "boolean", "int", "long", "float", "double", "bytes", "string"} {
		look(t, [][2]string{
			{"'" + word + "'", ""},
			{"{'type':'" + word + "'}", "'" + word + "'"},
			{"{'type':'" + word + "','name':1,'items':2,'default':[],'aliases':{},'x':null}", "'" + word + "'"},
			{"{'type':'fixed','name':'" + word + "','size':1}", "schema"},
			{"{'type':'enum','name':'" + word + "','symbols':['a']}", "schema"},
			{"{'type':'record','name':'" + word + "','fields':[]}", "schema"},
			{"{'type':'fixed','name':'n." + word + "','size':1}", "{'name':'n." + word + "','type':'fixed','size':1}"},
			{"{'type':'fixed','name':'F','aliases':['" + word + "'],'size':1}", "{'name':'F','type':'fixed','size':1}"},
		})
	}
	look(t, [][2]string{
		{"null", "schema"}, {"true", "schema"}, {"1", "schema"}, {"''", "schema"}, {"'Int'", "schema"}, {"' int'", "schema"}, {"'integer'", "schema"},
		{"'array'", "schema"}, {"'record'", "schema"}, {"'R'", "schema"}, {"'.int'", "schema"},
		{"{}", "schema"}, {"{'type':'what'}", "schema"}, {"{'type':''}", "schema"}, {"{'type':1}", "schema"}, {"{'type':null}", "schema"},
		{"{'type':['int']}", "schema"}, {"{'type':{'type':'int'}}", "schema"}, {"{'type':'union'}", "schema"}, {"{'Type':'int'}", "schema"},
		{"[{'type':'fixed','name':'F','size':1},{'type':'map','values':{'type':'F'}}]", "schema"},
	})
}

// P4, P6: arrays, maps, unions.
func TestNested(t *testing.T) {
	fixeds := listed(2, "{'name':'F%d','type':'fixed','size':1}")
	twelve := "'null','boolean','int','long','float','double','bytes','string',{'type':'array','items':'int'},{'type':'map','values':'int'}," + fixeds
	look(t, [][2]string{
		{"{'type':'array','items':'string'}", ""},
		{"{'items':{'type':'int'},'values':1,'type':'array'}", "{'type':'array','items':'int'}"},
		{"{'type':'map','values':{'type':'map','values':'bytes'}}", ""},
		{"{'type':'array','items':['null',{'type':'array','items':'int'}]}", ""},
		{"{'type':'array'}", "schema"}, {"{'type':'array','values':'int'}", "schema"}, {"{'type':'array','items':'what'}", "schema"}, {"{'type':'array','items':null}", "schema"},
		{"{'type':'map'}", "schema"}, {"{'type':'map','items':'int'}", "schema"}, {"{'type':'map','values':1}", "schema"},
		{"['int']", ""}, {" [ 'null' , 'int' ] ", "['null','int']"},
		{"[]", "schema"}, {"[1]", "schema"}, {"['what']", "schema"}, {"['null',null]", "schema"},
		{"['int','int']", "schema"}, {"['int',{'type':'int'}]", "schema"}, {"['null','int','null']", "schema"},
		{"['int',['null']]", "schema"}, {"[['int']]", "schema"},
		{"[{'type':'array','items':'int'},{'type':'array','items':'long'}]", "schema"},
		{"[{'type':'map','values':'int'},{'type':'map','values':'long'}]", "schema"},
		{"[{'type':'array','items':'int'},{'type':'map','values':'int'}]", ""},
		{"[" + twelve + "]", ""},
		{"[" + twelve + ",{'name':'G','type':'fixed','size':1}]", "schema"},
		{"[{'name':'F','type':'fixed','size':1},'F']", "schema"},
		{"[{'name':'R','type':'record','fields':[]},{'name':'E','type':'enum','symbols':['a']},{'name':'F','type':'fixed','size':1},{'name':'S','type':'record','fields':[]}]", ""},
		{ofField("[{'name':'F','type':'fixed','size':1},{'type':'array','items':'F'},'F']", ""), "schema"},
		{ofField("['null','R','R']", ""), "schema"},
	})
}

// P4, P6: names and namespaces.
func TestNames(t *testing.T) {
	fixed := func(name string) string { return "{'type':'fixed','name':" + name + ",'size':1}" }
	plain := func(name string) string { return "{'name':'" + name + "','type':'fixed','size':1}" }
	for _, name := range []string{"F", "f", "_", "_1", "AZaz09_", "a.b", "a1._.B", "record", "n.int", "int.F"} {
		look(t, [][2]string{{fixed("'" + name + "'"), plain(name)}})
	}
	for _, name := range []string{"''", "'1F'", "'a-b'", "'a b'", "' a'", "'\u00e9'", "'\u0410'", "'.'", "'.a'", "'a.'", "'a..b'", "'a.1'", "'a.b c'", "'@'", "'['", "'`'", "'{'", "'a/'", "'a:'", "'a@'", "'a['", "'a^'", "'a`'", "'a{'", "'a~'", "1", "null", "['F']"} {
		look(t, [][2]string{{fixed(name), "schema"}})
	}
	look(t, [][2]string{
		{"{'type':'fixed','size':1}", "schema"},
		{"{'type':'fixed','name':'F','namespace':'','size':1}", plain("F")},
		{"{'type':'fixed','name':'F','namespace':'a','size':1}", plain("a.F")},
		{"{'type':'fixed','name':'F','namespace':'a.b','size':1}", plain("a.b.F")},
		{"{'type':'fixed','name':'x.F','namespace':'a.b','size':1}", plain("x.F")},
		{"{'type':'fixed','name':'int','namespace':'a','size':1}", plain("a.int")},
		{"{'type':'fixed','name':'int','namespace':'','size':1}", "schema"},
		{"{'type':'fixed','name':'x.F','namespace':'a.','size':1}", "schema"},
		{"{'type':'fixed','name':'F','namespace':'.','size':1}", "schema"},
		{"{'type':'fixed','name':'F','namespace':'a b','size':1}", "schema"},
		{"{'type':'fixed','name':'F','namespace':null,'size':1}", "schema"},
		{"{'type':'fixed','name':'F','namespace':1,'size':1}", "schema"},
		// A namespace goes for what stands in it, not for what stands behind it.
		{"[{'type':'record','name':'a.R','fields':[{'name':'x','type':{'type':'fixed','name':'F','size':1}}]},{'type':'fixed','name':'F','size':1},{'type':'map','values':'F'},{'type':'array','items':'a.F'}]",
			"[{'name':'a.R','type':'record','fields':[{'name':'x','type':{'name':'a.F','type':'fixed','size':1}}]},{'name':'F','type':'fixed','size':1},{'type':'map','values':'F'},{'type':'array','items':'a.F'}]"},
		{"{'type':'record','name':'R','namespace':'a','fields':[{'name':'x','type':{'type':'record','name':'S','namespace':'','fields':[{'name':'y','type':{'type':'fixed','name':'F','size':1}}]}},{'name':'z','type':'S'}]}", "schema"},
		{"{'type':'record','name':'R','namespace':'a','fields':[{'name':'x','type':{'type':'record','name':'S','namespace':'b','fields':[{'name':'y','type':{'type':'fixed','name':'F','size':1}}]}},{'name':'z','type':['R','b.F','b.S']}]}",
			"{'name':'a.R','type':'record','fields':[{'name':'x','type':{'name':'b.S','type':'record','fields':[{'name':'y','type':{'name':'b.F','type':'fixed','size':1}}]}},{'name':'z','type':['a.R','b.F','b.S']}]}"},
		{"{'type':'record','name':'a.R','namespace':'b','fields':[{'name':'x','type':['null','R']},{'name':'y','type':'a.R'}]}", "{'name':'a.R','type':'record','fields':[{'name':'x','type':['null','a.R']},{'name':'y','type':'a.R'}]}"},
		{"{'type':'record','name':'a.R','fields':[{'name':'x','type':'b.R'}]}", "schema"},
		// A name without a point is never one of no namespace, where there is one.
		{"[" + fixed("'F'") + ",{'type':'record','name':'a.R','fields':[{'name':'x','type':'F'}]}]", "schema"},
		// A word is its kind, also where a name of the namespace is the same.
		{"[" + fixed("'a.int'") + ",{'type':'record','name':'a.R','fields':[{'name':'x','type':'int'},{'name':'y','type':'a.int'}]}]",
			"[" + plain("a.int") + ",{'name':'a.R','type':'record','fields':[{'name':'x','type':'int'},{'name':'y','type':'a.int'}]}]"},
		// A record's name is told to what stands in it, wherever in the text the name is; other names ahead alone.
		{"{'fields':[{'type':{'items':'R','type':'array'},'name':'x'}],'name':'R','type':'record'}", "{'name':'R','type':'record','fields':[{'name':'x','type':{'type':'array','items':'R'}}]}"},
		{"[{'type':'array','items':'F'}," + fixed("'F'") + "]", "schema"},
		{"{'type':'record','name':'R','fields':[{'name':'x','type':'F'},{'name':'y','type':" + fixed("'F'") + "}]}", "schema"},
		{"[{'type':'array','items':" + fixed("'F'") + "},{'type':'map','values':'F'}]", "[{'type':'array','items':" + plain("F") + "},{'type':'map','values':'F'}]"},
		// Each full name once.
		{"[" + fixed("'F'") + ",{'type':'enum','name':'F','symbols':['a']}]", "schema"},
		{"[" + fixed("'a.F'") + ",{'type':'fixed','name':'F','namespace':'a','size':1}]", "schema"},
		{"[" + fixed("'a.F'") + "," + fixed("'b.F'") + "]", "[" + plain("a.F") + "," + plain("b.F") + "]"},
		{"{'type':'record','name':'R','fields':[{'name':'x','type':{'type':'record','name':'R','fields':[]}}]}", "schema"},
		{"{'type':'record','name':'r','fields':[{'name':'x','type':{'type':'record','name':'R','fields':[]}}]}", "{'name':'r','type':'record','fields':[{'name':'x','type':{'name':'R','type':'record','fields':[]}}]}"},
	})
}

// P4: aliases.
func TestAliases(t *testing.T) {
	for _, c := range [][2]string{
		{"[]", "ok"}, {"['a']", "ok"}, {"['a','n.a','m.a','F']", "ok"}, {"['int']", "ok"},
		{"[" + listed(12, "'a%d'") + "]", "ok"}, {"[" + listed(13, "'a%d'") + "]", "schema"},
		{"['a','a']", "schema"}, {"['n.a','n.a']", "schema"}, {"['']", "schema"}, {"['a b']", "schema"}, {"['a.']", "schema"}, {"['1']", "schema"}, {"[1]", "schema"}, {"'a'", "schema"}, {"null", "schema"}, {"{}", "schema"},
	} {
		for schema, want := range map[string]string{
			"{'type':'fixed','name':'n.F','size':1,'aliases':" + c[0] + "}":       "{'name':'n.F','type':'fixed','size':1}",
			"{'type':'enum','name':'n.E','symbols':['a'],'aliases':" + c[0] + "}": "{'name':'n.E','type':'enum','symbols':['a']}",
			"{'type':'record','name':'n.R','fields':[],'aliases':" + c[0] + "}":   "{'name':'n.R','type':'record','fields':[]}",
		} {
			if c[1] != "ok" {
				want = c[1]
			}
			look(t, [][2]string{{schema, want}})
		}
	}
	fine := "{'name':'R','type':'record','fields':[{'name':'a','type':'int'}]}"
	look(t, [][2]string{
		{ofField("'int'", ",'aliases':[]"), fine},
		{ofField("'int'", ",'aliases':['b','a']"), fine},
		{ofField("'int'", ",'aliases':["+listed(12, "'a%d'")+"]"), fine},
		{ofField("'int'", ",'aliases':["+listed(13, "'a%d'")+"]"), "schema"},
		{ofField("'int'", ",'aliases':['b','b']"), "schema"},
		{ofField("'int'", ",'aliases':['n.b']"), "schema"},
		{ofField("'int'", ",'aliases':['']"), "schema"},
		{ofField("'int'", ",'aliases':[null]"), "schema"},
		{ofField("'int'", ",'aliases':'b'"), "schema"},
		// By an alias nothing goes.
		{"[{'type':'fixed','name':'F','size':1,'aliases':['G']},{'type':'array','items':'G'}]", "schema"},
		{"[{'type':'fixed','name':'F','size':1,'aliases':['G']},{'type':'fixed','name':'G','size':1}]", "[{'name':'F','type':'fixed','size':1},{'name':'G','type':'fixed','size':1}]"},
	})
}

// P4, P6: records, enums, fixeds.
func TestNamed(t *testing.T) {
	record := func(fields string) string { return "{'name':'R','type':'record','fields':" + fields + "}" }
	enum := func(more string) string { return "{'name':'E','type':'enum'" + more + "}" }
	fixed := func(more string) string { return "{'name':'F','type':'fixed'" + more + "}" }
	look(t, [][2]string{
		{record("[]"), ""}, {record("[{'name':'a','type':'int'},{'name':'b','type':['null','R']},{'name':'A','type':'int'}]"), ""},
		{record("[{'doc':1,'type':{'type':'int'},'order':'x','name':'a'}]"), record("[{'name':'a','type':'int'}]")},
		{"{'type':'record','name':'R','fields':[],'default':1,'size':-1,'symbols':0,'doc':''}", record("[]")},
		{record("[" + listed(12, "{'name':'f%d','type':'int'}") + "]"), ""}, {record("[" + listed(13, "{'name':'f%d','type':'int'}") + "]"), "schema"},
		{"{'name':'R','type':'record'}", "schema"}, {record("null"), "schema"}, {record("{}"), "schema"}, {record("[1]"), "schema"}, {record("['a']"), "schema"}, {record("[[]]"), "schema"}, {record("[{}]"), "schema"},
		{record("[{'name':'a'}]"), "schema"}, {record("[{'type':'int'}]"), "schema"}, {record("[{'name':1,'type':'int'}]"), "schema"}, {record("[{'name':'a','type':'what'}]"), "schema"}, {record("[{'name':'a','type':null}]"), "schema"},
		{record("[{'name':'','type':'int'}]"), "schema"}, {record("[{'name':'1','type':'int'}]"), "schema"}, {record("[{'name':'a.b','type':'int'}]"), "schema"},
		{record("[{'name':'int','type':'int'}]"), ""},
		{record("[{'name':'a','type':'int'},{'name':'a','type':'long'}]"), "schema"}, {record("[{'name':'a','type':'int'},{'name':'b','type':'int'},{'name':'a','type':'int'}]"), "schema"},
		{record("[{'name':'a','type':'array','items':'int'}]"), "schema"}, {record("[{'name':'a','type':'R'}]"), ""},
		{enum(",'symbols':['a']"), ""}, {enum(",'symbols':['B_1','a','A']"), ""}, {enum(",'symbols':['a','b'],'default':'b','size':70,'fields':0"), enum(",'symbols':['a','b']")},
		{enum(",'symbols':[" + listed(12, "'a%d'") + "]"), ""}, {enum(",'symbols':[" + listed(13, "'a%d'") + "]"), "schema"},
		{enum(""), "schema"}, {enum(",'symbols':[]"), "schema"}, {enum(",'symbols':'a'"), "schema"}, {enum(",'symbols':{}"), "schema"}, {enum(",'symbols':['a','a']"), "schema"}, {enum(",'symbols':['a.b']"), "schema"}, {enum(",'symbols':['']"), "schema"}, {enum(",'symbols':['1']"), "schema"}, {enum(",'symbols':[1]"), "schema"},
		{enum(",'symbols':['a'],'default':'b'"), "schema"}, {enum(",'symbols':['a'],'default':null"), "schema"}, {enum(",'symbols':['a'],'default':0"), "schema"}, {enum(",'symbols':['a'],'default':''"), "schema"},
		{fixed(",'size':0"), ""}, {fixed(",'size':64"), ""}, {fixed(",'size':-0,'default':1,'symbols':[]"), fixed(",'size':0")},
		{fixed(",'size':65"), "schema"}, {fixed(",'size':-1"), "schema"}, {fixed(""), "schema"}, {fixed(",'size':'1'"), "schema"}, {fixed(",'size':null"), "schema"}, {fixed(",'size':true"), "schema"}, {fixed(",'size':4294967297"), "schema"},
	})
}

// P4: no more than 16 are named, of all three kinds together.
func TestSixteenNames(t *testing.T) {
	eleven := listed(9, "{'name':'f%d','type':{'name':'F%[1]d','type':'fixed','size':1}}") + ",{'name':'e','type':{'name':'E','type':'enum','symbols':['a']}},{'name':'g','type':{'name':'F','type':'fixed','size':1}}"
	four := listed(4, "{'name':'f%d','type':{'name':'G%[1]d','type':'fixed','size':1}}")
	record := func(last string) string {
		return "{'name':'R','type':'record','fields':[" + eleven + ",{'name':'r','type':{'name':'S','type':'record','fields':[" + four + last + "]}}]}"
	}
	look(t, [][2]string{
		{record(""), "schema"},
		{strings.Replace(record(""), "{'name':'G3','type':'fixed','size':1}", "'F3'", 1), ""},
		{strings.Replace(record(",{'name':'x','type':['R','S','E','F','F0']}"), "{'name':'G3','type':'fixed','size':1}", "'F3'", 1), ""},
	})
}

// P6: the document's second example; what Parse makes of a plainest form is the same form.
func TestCanonical(t *testing.T) {
	look(t, [][2]string{
		{"{'type':'record','namespace':'n','name':'R','fields':[{'type':['null','R'],'name':'a','default':null}]}", "{'name':'n.R','type':'record','fields':[{'name':'a','type':['null','n.R']}]}"},
		{"{'name':'n.R','type':'record','fields':[{'name':'a','type':['null','n.R']}]}", ""},
		{"{'name':'n.R','type':'record','fields':[{'name':'a','type':{'name':'n.E','type':'enum','symbols':['x','y']}},{'name':'b','type':{'type':'map','values':'n.E'}},{'name':'c','type':{'name':'m.F','type':'fixed','size':3}},{'name':'d','type':['m.F','n.E','n.R']}]}", ""},
		{"{'type':'record','name':'a.R','fields':[{'name':'x','type':{'type':'fixed','name':'F','namespace':'','size':1}}]}", "{'name':'a.R','type':'record','fields':[{'name':'x','type':{'name':'F','type':'fixed','size':1}}]}"},
	})
	s, err := Parse(`"int"`)
	if err != nil || s.Canonical() != s.Canonical() {
		t.Errorf("%v, %q", err, s.Canonical())
	}
	for _, s := range []*Schema{nil, {}} {
		if s.Canonical() != "" {
			t.Errorf("a schema that Parse did not make: %q", s.Canonical())
		}
	}
}
