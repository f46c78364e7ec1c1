package avro

import (
	"errors"
	"fmt"
	"math/rand"
	"testing"
)

// P19: as they were written, or as the reader has them.
func TestRecords(t *testing.T) {
	five, six, seven := number(3, 5), number(3, -6), number(3, 7)
	file := coded("'int'", "null", framed(2, "\x0a\x0b"), framed(1, "\x0e"))
	reads(t, "none", coded("'int'", "null"), nil, nil, nil, noFault)
	reads(t, "none, with a reader", coded("'int'", "null"), schemaOf(t, "'double'"), nil, nil, noFault)
	reads(t, "as they were written", file, nil, []Datum{five, six, seven}, nil, noFault)
	reads(t, "as ints", file, schemaOf(t, "'int'"), []Datum{five, six, seven}, nil, noFault)
	reads(t, "as longs", file, schemaOf(t, "'long'"), []Datum{number(4, 5), number(4, -6), number(4, 7)}, nil, noFault)
	reads(t, "as a union's", file, schemaOf(t, "['null','double']"), []Datum{branch(1, FromFloat64(5)), branch(1, FromFloat64(-6)), branch(1, FromFloat64(7))}, nil, noFault)
	w := "{'type':'record','name':'R','fields':[{'name':'a','type':'int'},{'name':'b','type':'string'}]}"
	r := schemaOf(t, "{'type':'record','name':'R','fields':[{'name':'c','type':{'type':'array','items':'int'},'default':[1]},{'name':'x','aliases':['a'],'type':'long'}]}")
	reads(t, "fields", coded(w, "null", framed(2, "\x0a\x02b\x0b\x02c")), r, []Datum{of(9, ints(1), number(4, 5)), of(9, ints(1), number(4, -6))}, nil, noFault)
}

// P19: schemas that do not match: told ahead of all records, behind the header's errors, and of no record.
func TestRecordsMatch(t *testing.T) {
	for _, blocks := range []string{"", framed(1, "\x0a"), "\x00"} {
		for _, r := range []*Schema{schemaOf(t, "'string'"), schemaOf(t, "'boolean'"), schemaOf(t, "{'type':'array','items':'int'}"), {}} {
			reads(t, "no match", coded("'int'", "null", blocks), r, nil, ErrMatch, noFault)
			reads(t, "no match, and no header", coded("'int'", "null")[1:]+blocks, r, nil, ErrHeader, noFault)
			reads(t, "no match, and no JSON", coded("int", "null", blocks), r, nil, ErrText, noFault)
			reads(t, "no match, and no schema", coded("'in'", "null", blocks), r, nil, ErrSchema, noFault)
			reads(t, "no match, and no codec", coded("'int'", "nul", blocks), r, nil, ErrCodec, noFault)
		}
	}
}

// P19: what the reader does not have: the records ahead of it are told, those of its block, too.
func TestRecordsResolve(t *testing.T) {
	file := coded("['int','string']", "null", framed(1, "\x00\x02"), framed(3, "\x00\x0a\x02\x02b\x00\x0b"), framed(1, "\x00\x0e"))
	reads(t, "as ints", file, schemaOf(t, "'int'"), []Datum{number(3, 1), number(3, 5)}, ErrResolve, 2)
	reads(t, "as strings", file, schemaOf(t, "'string'"), nil, ErrResolve, 0)
	reads(t, "as arrays", file, schemaOf(t, "{'type':'array','items':'int'}"), nil, ErrResolve, 0)
	reads(t, "as a union's", file, schemaOf(t, "['bytes','long']"), []Datum{branch(1, number(4, 1)), branch(1, number(4, 5)), branch(0, worded(7, "b")), branch(1, number(4, -6)), branch(1, number(4, 7))}, nil, noFault)
	// A block that is none tells no record, also none of those ahead of what the reader does not have.
	file = coded("['int','string']", "null", framed(1, "\x00\x02"), framed(3, "\x00\x0a\x02\x02b\x00"))
	reads(t, "a block's error", file, schemaOf(t, "'int'"), []Datum{number(3, 1)}, ErrShort, 1)
	reads(t, "a block's error alone", file, nil, []Datum{branch(0, number(3, 1))}, ErrShort, 1)
	// A writer's and a reader's record of one name match, whatever their fields.
	w := "{'type':'record','name':'R','fields':[{'name':'a','type':'int'}]}"
	r := schemaOf(t, "{'type':'record','name':'R','fields':[{'name':'b','type':'int'}]}")
	reads(t, "a field without a default", coded(w, "null", framed(1, "\x0a")), r, nil, ErrResolve, 0)
	reads(t, "a field without a default, and no records", coded(w, "null"), r, nil, nil, noFault)
}

// P19: no further one is told when yield has answered false: a record, or an error.
func TestRecordsStop(t *testing.T) {
	whole := coded("'int'", "null", framed(2, "\x0a\x0b"), framed(2, "\x0e\x10"))
	for _, c := range []struct {
		file string
		most int
	}{{whole, 4}, {whole + "\x00", 5}, {whole[:len(whole)-1], 3}, {"", 1}, {coded("'int'", "x"), 1}} {
		for _, r := range []*Schema{nil, schemaOf(t, "'long'")} {
			for wanted := 1; wanted <= c.most+1; wanted++ {
				calls := 0
				Records(c.file, r)(func(Datum, error) bool {
					calls++
					return calls < wanted
				})
				if calls != min(wanted, c.most) {
					t.Errorf("%q: %d wanted of %d: %d calls", c.file, wanted, c.most, calls)
				}
			}
		}
	}
}

// P19: what is behind the last record that is wanted is not looked at. What is told hangs on the bytes alone, however often they are gone through.
func TestRecordsAgain(t *testing.T) {
	records := Records(coded("'int'", "null", framed(2, "\x0a\x0b"), "\x00"), nil)
	for range 2 {
		for d, err := range records {
			if shown(d) != shown(number(3, 5)) || err != nil {
				t.Errorf("%s, %v", shown(d), err)
			}
			break
		}
		calls := 0
		for d, err := range records {
			for again := range records { // from the first on, also within another
				if shown(again) != shown(number(3, 5)) {
					t.Errorf("within: %s", shown(again))
				}
				break
			}
			want := []Datum{number(3, 5), number(3, -6), {}}[calls]
			if shown(d) != shown(want) || errors.Is(err, ErrBlock) != (calls == 2) {
				t.Errorf("call %d: %s, %v", calls, shown(d), err)
			}
			calls++
		}
		if calls != 3 {
			t.Errorf("%d calls", calls)
		}
	}
}

// P2: records that are told are the caller's: no two share memory, nor do they with another call's.
func TestRecordsAreNew(t *testing.T) {
	schema := "{'type':'map','values':{'type':'array','items':'int'}}"
	item := "\x02\x02k\x02\x0a\x00\x00"
	file := coded(schema, "deflate", framed(2, Deflate(item+item)), framed(1, Deflate(item)))
	for _, r := range []*Schema{nil, schemaOf(t, schema)} {
		first, err := ReadAll(file, r)
		well(t, err)
		want := mapped([]string{"k"}, ints(5))
		second, _ := ReadAll(file, r)
		for i := range first {
			if shown(first[i]) != shown(want) {
				t.Errorf("%d: %s, want %s", i, shown(first[i]), shown(want))
			}
			first[i].Names[0], first[i].Kids[0].Kids[0].Int = "x", 9
		}
		reads(t, "again", file, r, second, nil, noFault)
		reads(t, "again", file, r, []Datum{want, want, want}, nil, noFault)
	}
}

// P19: as Decode and DecodeAs have it, of each record for itself.
func TestRecordsAsDecoded(t *testing.T) {
	r := rand.New(rand.NewSource(19))
	schemas := drawn(t)
	counts := map[error]int{}
	for range 2000 {
		w, s := schemas[r.Intn(len(schemas))], schemas[r.Intn(len(schemas))]
		var want []Datum
		var reason error
		at := noFault
		if !Match(w, s) {
			reason = ErrMatch
		}
		file := coded(w.Canonical(), "null")
		for range r.Intn(4) {
			var records string
			count := 1 + r.Intn(3)
			for range count {
				text, _ := w.Encode(anyDatum(r, w))
				records += text
				if reason != nil {
					continue
				}
				d, _, err := s.DecodeAs(schemaOf(t, w.Canonical()), text)
				if err != nil {
					reason, at = ErrResolve, len(want)
					continue
				}
				want = append(want, d)
			}
			file += framed(int64(count), records)
		}
		counts[reason]++
		reads(t, fmt.Sprint(w.Canonical(), " as ", s.Canonical()), file, s, want, reason, at)
	}
	if counts[nil] < 100 || counts[ErrResolve] < 100 || counts[ErrMatch] < 100 {
		t.Errorf("too few to tell: %v", counts)
	}
}
