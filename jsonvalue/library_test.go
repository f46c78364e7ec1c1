package jsonvalue

import (
	"encoding/json"
	"io"
	"math/rand"
	"regexp"
	"strconv"
	"strings"
	"testing"
	"unicode/utf8"
)

var surrogate = regexp.MustCompile(`\\u[dD][89abAB][0-9a-fA-F]{2}\\u[dD][c-fC-F][0-9a-fA-F]{2}|\\u[dD][89a-fA-F][0-9a-fA-F]{2}|\\.`)

// byLibrary tells what the library takes a text for, as told writes it; not fine: no value as P3 has it.
func byLibrary(text string) (string, bool) {
	if len(text) > mostBytes || !utf8.ValidString(text) || !json.Valid([]byte(text)) {
		return "", false
	}
	for _, s := range surrogate.FindAllString(text, -1) {
		if len(s) == 6 && s[1] == 'u' {
			return "", false
		}
	}
	d := json.NewDecoder(strings.NewReader(text))
	d.UseNumber()
	out, fine := libraryValue(d, 0)
	if _, err := d.Token(); err != io.EOF {
		return "", false
	}
	return out, fine
}

func libraryValue(d *json.Decoder, depth int) (string, bool) {
	token, err := d.Token()
	if err != nil {
		return "", false
	}
	switch x := token.(type) {
	case nil:
		return "n", true
	case bool:
		return map[bool]string{true: "T", false: "F"}[x], true
	case json.Number:
		n, err := strconv.ParseInt(string(x), 10, 64)
		return strconv.FormatInt(n, 10), err == nil && n < 1e18 && n > -1e18
	case string:
		return strconv.QuoteToASCII(x), true
	}
	object := token == json.Delim('{')
	fine := depth < mostDeep
	seen := map[string]bool{}
	l := []string{}
	for d.More() {
		name := ""
		if object {
			token, _ := d.Token()
			name, _ = token.(string)
			fine = fine && !seen[name]
			seen[name] = true
			name += ":"
		}
		item, ok := libraryValue(d, depth+1)
		fine = fine && ok
		l = append(l, name+item)
	}
	d.Token()
	if object {
		return "{" + strings.Join(l, " ") + "}", fine
	}
	return "[" + strings.Join(l, " ") + "]", fine
}

func bent(r *rand.Rand, text string) string {
	parts := []string{`"`, `\`, `\u`, `\ud83d`, `\ude00`, `\u0061`, "[", "]", "{", "}", ",", ":", "1", "0", "-", ".", "e", "a", " ", "\n", "null", "true", `"a":`, "\u00e9", "\ufffd", "\xff", "\x01"}
	for range 1 + r.Intn(3) {
		i := r.Intn(len(text) + 1)
		j := min(len(text), i+r.Intn(3))
		text = text[:i] + parts[r.Intn(len(parts))] + text[j:]
	}
	return text
}

// TestAsTheLibrary: on texts bent at random (but always the same ones) P3 says what the library says, but for what P3 narrows.
func TestAsTheLibrary(t *testing.T) {
	r := rand.New(rand.NewSource(1))
	seeds := []string{
		`{"type":"record","name":"R","fields":[{"name":"a","type":["null","R"],"default":null}]}`,
		`[1,-20,0,true,false,null,"\ud83d\ude00\u00e9\n"]`, `{"a":{"b":[{"a":1},{}]},"b":""}`, ` [ [ ] , { } ] `, `"a\\\"\/"`, `-123456789012345678`,
		strings.Repeat(`[{"a":`, 16) + "1" + strings.Repeat("}]", 16),
	}
	fine := 0
	for range 60000 {
		text := bent(r, seeds[r.Intn(len(seeds))])
		want, ok := byLibrary(text)
		v, err := Read(text)
		if ok != (err == nil) || ok && told(v) != want {
			t.Fatalf("%q: got %s, %v; the library: %s, %v", text, told(v), err, want, ok)
		}
		if ok {
			fine++
		}
	}
	if fine < 3000 {
		t.Errorf("only %d texts were fine: too few to tell", fine)
	}
}
