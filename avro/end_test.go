package avro

import (
	"errors"
	"math/rand"
	"testing"
)

// bent changes a text at some places.
func bent(r *rand.Rand, text string) string {
	parts := []string{"", "", "'", "\\", "[", "]", "{", "}", ",", ":", "1", "-", "'R'", "'n.R'", "'int'", "'null'", "[]", "{}", "null", "'type':'array','items':", "'default':{},", "'name':'a',", "\u00ff", "\xff"}
	for range 1 + r.Intn(3) {
		i := r.Intn(len(text) + 1)
		j := min(len(text), i+r.Intn(8))
		text = text[:i] + plainly(parts[r.Intn(len(parts))]) + text[j:]
	}
	return text
}

// P1: Parse ends and does not panic, whatever the text; it answers a schema or one of its reasons. What it answers hangs on the text alone.
func TestParseEnds(t *testing.T) {
	r := rand.New(rand.NewSource(2))
	seeds := []string{
		"{'type':'record','namespace':'n','name':'R','aliases':['S'],'fields':[{'type':['null','R'],'name':'a','default':null},{'name':'b','type':{'type':'array','items':'R'},'default':[{'b':[],'c':''}]},{'name':'c','type':'string','aliases':['d']}]}",
		"[{'type':'enum','name':'E','symbols':['a','b'],'default':'b'},{'type':'fixed','name':'x.F','size':3},{'type':'map','values':['E','x.F']},{'type':'array','items':{'type':'record','name':'R','fields':[{'name':'f','type':'x.F','default':'abc'}]}}]",
	}
	fine := 0
	for range 30000 {
		text := bent(r, plainly(seeds[r.Intn(len(seeds))]))
		s, err := Parse(text)
		again, _ := Parse(text)
		switch {
		case err == nil && s != nil && again != nil && s.Canonical() == again.Canonical() && s.Canonical() != "":
			fine++
		case s == nil && again == nil && (errors.Is(err, ErrText) != errors.Is(err, ErrSchema)):
		default:
			t.Fatalf("%q: %v, %v", text, s, err)
		}
	}
	if fine < 300 {
		t.Errorf("only %d texts were fine: too few to tell", fine)
	}
}
