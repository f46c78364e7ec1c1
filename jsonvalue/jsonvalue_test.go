package jsonvalue

import (
	"fmt"
	"strings"
	"testing"
)

// told writes a value: n, T, F, numbers, 'text' with its runes beyond ASCII by number, [..], {name:..}.
func told(v Value) string {
	l := []string{}
	for i, item := range v.Items {
		name := ""
		if v.Kind == Object {
			name = v.Names[i] + ":"
		}
		l = append(l, name+told(item))
	}
	switch v.Kind {
	case Null:
		return "n"
	case Boolean:
		return "FT"[v.Int : v.Int+1]
	case Number:
		return fmt.Sprint(v.Int)
	case String:
		return fmt.Sprintf("%+q", v.Text)
	case Array:
		return "[" + strings.Join(l, " ") + "]"
	case Object:
		return "{" + strings.Join(l, " ") + "}"
	}
	return "?"
}

func TestValues(t *testing.T) {
	for text, want := range map[string]string{
		"null": "n", "true": "T", "false": "F",
		"0": "0", "-0": "0", "7": "7", "-7": "-7", "10": "10",
		"999999999999999999": "999999999999999999", "-999999999999999999": "-999999999999999999",
		`""`: `""`, `"a b"`: `"a b"`, "\"\x7f\"": `"\x7f"`,
		`[]`: "[]", `[ ]`: "[]", `[1,"2",[],{}]`: `[1 "2" [] {}]`,
		`{}`: "{}", `{ }`: "{}", `{"b":1,"a":{"b":null}}`: "{b:1 a:{b:n}}", `{"":0}`: "{:0}",
		" \t\n\r{ \t\n\r\"a\" \t\n\r: \t\n\r[ \t\n\r1 \t\n\r, \t\n\rtrue \t\n\r] \t\n\r, \t\n\r\"b\" : 2 } \t\n\r": "{a:[1 T] b:2}",
		`"\"\\\/\b\f\n\r\t"`:               `"\"\\/\b\f\n\r\t"`,
		`"\u0000\u0041\u00e9\uABCD\uabcd"`: `"\x00A\u00e9\uabcd\uabcd"`,
		`"\ud7ff\ue000\uffff"`:             `"\ud7ff\ue000\uffff"`,
		`"\ud800\udc00\uDBFF\uDFFF"`:       `"\U00010000\U0010ffff"`,
		`"\\u0041"`:                        `"\\u0041"`,
		"\"\u00e9\ufffd\U0010ffff\"":       `"\u00e9\ufffd\U0010ffff"`,
	} {
		v, err := Read(text)
		if got := told(v); err != nil || got != want {
			t.Errorf("%q: got %s, %v, want %s", text, got, err, want)
		}
	}
}

func TestNoValues(t *testing.T) {
	for _, text := range []string{
		"", " ", "nul", "nulll", "Null", "TRUE", "truefalse", "true false", "null,", "x", "'a'", "\u00a0null", "\v1", "\f1", "null\x00", "\ufeffnull",
		"-", "--1", "- 1", "+1", "00", "01", "-01", "1.0", "1.", ".5", "1e5", "1E5", "0x1", "1_0", "1a", "\u0661", "1000000000000000000", "-1000000000000000000",
		`"`, `"a`, `"\`, `"\"`, `"a"b`, "\"a\nb\"", "\"\t\"", "\"\x00\"", "\"\x1f\"",
		`"\x"`, `"\a"`, `"\v"`, `"\0"`, `"\'"`, `"\U0041"`, `"\u"`, `"\u12"`, `"\u123"`, `"\u123g"`, `"\u12 4"`, `"\u+123"`,
		`"\ud800"`, `"\udbff"`, `"\udc00"`, `"\udfff"`, `"\ud800\ud800"`, `"\udc00\ud800"`, `"\ud800A"`, `"\ud800\n"`, `"\ud800\u0041"`, `"\ud800\ue000"`, `"\ud800\udbff"`, `"\ud800 \udc00"`, `"\ud800\`, `"\ud800\u`, `"\ud800\udc0`,
		"\"\x80\"", "\"\xc3\"", "\"\xc0\x80\"", "\"\xe0\x80\x80\"", "\"\xed\xa0\x80\"", "\"\xf4\x90\x80\x80\"", "\"\xf8\x88\x80\x80\x80\"", "\"\xff\"", "\"\\u00\xe9\"", "null\xff",
		"[", "]", "[1", "[1,", "[1,]", "[,1]", "[,]", "[1 2]", "[1,,2]", "[1}", "[1]]", "[] []",
		"{", "}", `{"a"`, `{"a":`, `{"a":1`, `{"a":1,`, `{"a":1,}`, `{,"a":1}`, `{"a"}`, `{"a" 1}`, `{"a":1 "b":2}`, `{"a":}`, `{a:1}`, `{1:1}`, `{null:1}`, `{"a":1]`, `{"a"::1}`,
		`{"a":1,"a":1}`, `{"a":1,"b":2,"\u0061":3}`, `{"":1,"":2}`, `[{"x":{"a":1,"a":2}}]`, `{"\ud83d\ude00":1,"` + "\U0001f600" + `":2}`,
	} {
		if v, err := Read(text); err == nil || err.Error() == "" || told(v) != "?" {
			t.Errorf("%q: got %s, %v, want an error alone", text, told(v), err)
		}
	}
}

func TestEdges(t *testing.T) {
	nested := func(n int, open, end string) string { return strings.Repeat(open, n) + "1" + strings.Repeat(end, n) }
	for _, c := range []struct {
		what, text string
		fine       bool
	}{
		{"4,000 bytes", "1" + strings.Repeat(" ", 3999), true},
		{"4,001 bytes", "1" + strings.Repeat(" ", 4000), false},
		{"4,000 bytes of fewer runes", `"` + strings.Repeat("\u00e9", 1999) + `"`, true},
		{"4,002 bytes of fewer runes", `"` + strings.Repeat("\u00e9", 2000) + `"`, false},
		{"32 arrays", nested(32, "[", "]"), true},
		{"33 arrays", nested(33, "[", "]"), false},
		{"32 objects", nested(32, `{"a":`, "}"), true},
		{"33 objects", nested(33, `{"a":`, "}"), false},
		{"32 of both", nested(16, `[{"a":`, "}]"), true},
		{"33 of both", "[" + nested(16, `[{"a":`, "}]") + "]", false},
		{"33 empty ones", strings.Repeat("[", 33) + strings.Repeat("]", 33), false},
		{"many beside each other", "[" + strings.Repeat("[],", 1000) + "[]]", true},
		{"18 digits", "[" + strings.Repeat("1", 18) + "]", true},
		{"19 digits", "[" + strings.Repeat("1", 19) + "]", false},
		{"many digits", strings.Repeat("9", 3000), false},
	} {
		if _, err := Read(c.text); (err == nil) != c.fine {
			t.Errorf("%s: %v", c.what, err)
		}
	}
}

func TestNamed(t *testing.T) {
	v, err := Read(`{"a":1,"b":{"a":2},"c":null}`)
	if err != nil {
		t.Fatal(err)
	}
	if got, ok := v.Named("a"); !ok || told(got) != "1" {
		t.Errorf("a: %s, %v", told(got), ok)
	}
	if got, ok := v.Named("c"); !ok || told(got) != "n" {
		t.Errorf("c: %s, %v", told(got), ok)
	}
	if got, ok := v.Named("d"); ok || told(got) != "?" {
		t.Errorf("d: %s, %v", told(got), ok)
	}
	if _, ok := (Value{Kind: Array}).Named("a"); ok {
		t.Error("an array names nothing")
	}
}
