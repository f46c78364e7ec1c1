package schema

import (
	"strings"
	"testing"

	"avro/jsonvalue"
)

// P4: what a schema keeps of a text, beside its plainest form.
func TestKept(t *testing.T) {
	s := read(t, "{'type':'record','name':'R','namespace':'n','aliases':['Old','m.Old'],'fields':[{'name':'e','aliases':['f','g'],'type':{'type':'enum','name':'x.E','aliases':['D'],'symbols':['a','b'],'default':'b'}},{'name':'h','type':{'type':'enum','name':'H','symbols':['a']}},{'name':'i','type':['null','R','x.E']}]}")
	if got := strings.Join(s.Aliases, " "); got != "n.Old m.Old" {
		t.Errorf("the record's aliases: %s", got)
	}
	enum := s.Fields[0].Type
	if got := strings.Join(enum.Aliases, " "); got != "x.D" {
		t.Errorf("the enum's aliases: %s", got)
	}
	if got := strings.Join(s.Fields[0].Aliases, " "); got != "f g" {
		t.Errorf("the field's aliases: %s", got)
	}
	if enum.Default != 1 || s.Fields[1].Type.Default != NoSymbol {
		t.Errorf("the enums' defaults: %d, %d", enum.Default, s.Fields[1].Type.Default)
	}
	if branches := s.Fields[2].Type.Branches; branches[1] != s || branches[2] != enum {
		t.Error("what goes by one name is not one schema")
	}
}

func TestNoSchemaBesideAnError(t *testing.T) {
	v, _ := jsonvalue.Read(`["int","int"]`)
	if s, err := Read(v); s != nil || err == nil || err.Error() == "" {
		t.Errorf("got %v, %v", s, err)
	}
}
