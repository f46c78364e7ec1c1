package avro

import (
	"errors"
	"fmt"
	"math/rand"
	"strings"
	"testing"
)

// schemaOf is that of a text with ' for ".
func schemaOf(t *testing.T, text string) *Schema {
	t.Helper()
	s, err := Parse(plainly(text))
	if err != nil {
		t.Fatalf("%s: %v", text, err)
	}
	return s
}

func number(kind int, n int64) Datum          { return Datum{Kind: kind, Int: n} }
func bits(kind int, n uint64) Datum           { return Datum{Kind: kind, Bits: n} }
func worded(kind int, text string) Datum      { return Datum{Kind: kind, Text: text} }
func of(kind int, kids ...Datum) Datum        { return Datum{Kind: kind, Kids: kids} }
func branch(place int64, one Datum) Datum     { return Datum{Kind: 13, Int: place, Kids: []Datum{one}} }
func null() Datum                             { return Datum{Kind: 1} }
func ints(list ...int64) Datum                { return many(list, func(n int64) Datum { return number(3, n) }) }
func nulls(n int) Datum                       { return many(make([]int, n), func(int) Datum { return null() }) }
func mapped(names []string, d ...Datum) Datum { return Datum{Kind: 12, Names: names, Kids: d} }

func many[T any](list []T, item func(T) Datum) Datum {
	d := Datum{Kind: 11}
	for _, x := range list {
		d.Kids = append(d.Kids, item(x))
	}
	return d
}

// linked is a datum of linkedSchema, nested as deep as is said: 3 at least, and odd.
func linked(deep int) Datum {
	d := of(9, branch(0, null()))
	for range (deep - 3) / 2 {
		d = of(9, branch(1, d))
	}
	return d
}

const linkedSchema = "{'type':'record','name':'R','fields':[{'name':'a','type':['null','R']}]}"

// shown tells a datum, an empty list like none.
func shown(d Datum) string {
	kids := []string{}
	for _, kid := range d.Kids {
		kids = append(kids, shown(kid))
	}
	return fmt.Sprintf("<%d %d %x %q %q [%s]>", d.Kind, d.Int, d.Bits, d.Text, append([]string{}, d.Names...), strings.Join(kids, " "))
}

// reasonOf tells an error's reason, and nil of none; it must be just one, and in no Fault.
func reasonOf(t *testing.T, err error) error {
	t.Helper()
	var found []error
	for _, r := range reasons() {
		if errors.Is(err, r) {
			found = append(found, r)
		}
	}
	var f *Fault
	if err != nil && (len(found) != 1 || err.Error() == "") || errors.As(err, &f) {
		t.Fatalf("an error with the reasons %v: %v", found, err)
	}
	if err == nil {
		return nil
	}
	return found[0]
}

// drawn are some schemas that random data are made of.
func drawn(t *testing.T) []*Schema {
	t.Helper()
	var l []*Schema
	for _, text := range []string{
		"'null'", "'boolean'", "'int'", "'long'", "'float'", "'double'", "'bytes'", "'string'",
		linkedSchema,
		"{'type':'record','name':'n.S','fields':[{'name':'a','type':'int'},{'name':'b','type':'string','aliases':['c']},{'name':'e','type':{'type':'enum','name':'E','symbols':['x','y','z'],'default':'y'}}]}",
		"{'type':'record','name':'S','fields':[{'name':'a','type':'double'},{'name':'c','type':['null','bytes','string'],'default':null},{'name':'e','type':{'type':'enum','name':'E','symbols':['z','y']}},{'name':'d','type':{'type':'array','items':'int'},'default':[1,2]}]}",
		"{'type':'array','items':{'type':'map','values':['long','string',{'type':'fixed','name':'F','size':2}]}}",
		"{'type':'array','items':{'type':'map','values':['double','bytes',{'type':'fixed','name':'n.F','size':2}]}}",
		"['null','string','double',{'type':'record','name':'T','aliases':['R'],'fields':[{'name':'k','aliases':['a'],'type':['null',{'type':'array','items':'T'},'T'],'default':null}]}]",
		"{'type':'map','values':{'type':'array','items':'boolean'}}",
	} {
		l = append(l, schemaOf(t, text))
	}
	return l
}

// anyBytes is a text of bytes that small data are likely to be made of.
func anyBytes(r *rand.Rand) string {
	l := make([]byte, r.Intn(24))
	for i := range l {
		switch r.Intn(4) {
		case 0:
			l[i] = byte(r.Intn(256))
		case 1:
			l[i] = "az\xc3\xa9"[r.Intn(4)]
		default:
			l[i] = byte(r.Intn(7))
		}
	}
	return string(l)
}
