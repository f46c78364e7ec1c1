package schema

import (
	"errors"
	"slices"
	"strconv"

	"avro/datum"
	"avro/jsonvalue"
	"avro/stop"
)

// reader reads a schema.
type reader struct {
	named  []*Type        // in the order in which they were told
	places map[string]int // where in named each full name is
}

func wrong(what string) { stop.With(errors.New(what)) }

// schema reads a schema that stands in a namespace.
func (r *reader) schema(v jsonvalue.Value, space string) *Type {
	switch v.Kind {
	case jsonvalue.String:
		return r.byWord(v.Text, space)
	case jsonvalue.Array:
		return r.union(v, space)
	case jsonvalue.Object:
		return r.byObject(v, space)
	}
	wrong("a schema that is no string, array or object")
	return nil
}

func (r *reader) byWord(word, space string) *Type {
	if kind := kindOf(word); kind != 0 {
		return &Type{Kind: kind}
	}
	place, ok := r.places[fullName(word, space)]
	if !ok {
		wrong("a name that was not told ahead: " + strconv.Quote(word))
	}
	return r.named[place]
}

func (r *reader) union(v jsonvalue.Value, space string) *Type {
	checkLength(v, "a union", 1)
	t := &Type{Kind: datum.Union}
	for _, item := range v.Items {
		branch := r.schema(item, space)
		if branch.Kind == datum.Union {
			wrong("a union in a union")
		}
		same := func(other *Type) bool { return other.Kind == branch.Kind && other.Name == branch.Name }
		if slices.ContainsFunc(t.Branches, same) {
			wrong("two branches of a union that are the same")
		}
		t.Branches = append(t.Branches, branch)
	}
	return t
}

func (r *reader) byObject(v jsonvalue.Value, space string) *Type {
	word := textIn(v, "type")
	if kind := kindOf(word); kind != 0 {
		return &Type{Kind: kind}
	}
	switch word {
	case "array":
		return &Type{Kind: datum.Array, Item: r.schema(in(v, "items"), space)}
	case "map":
		return &Type{Kind: datum.Map, Item: r.schema(in(v, "values"), space)}
	case "record":
		return r.record(v, space)
	case "enum":
		return r.enum(v, space)
	case "fixed":
		return r.fixed(v, space)
	}
	wrong("a type that there is not: " + strconv.Quote(word))
	return nil
}

// name begins a schema that has a name. From here on it goes by that, so that what stands in it may name it.
func (r *reader) name(kind int, v jsonvalue.Value, space string) *Type {
	name := textIn(v, "name")
	if !isFullName(name) {
		wrong("no name: " + strconv.Quote(name))
	}
	if _, ok := v.Named("namespace"); ok {
		space = textIn(v, "namespace")
		if space != "" && !isFullName(space) {
			wrong("no namespace: " + strconv.Quote(space))
		}
	}
	t := &Type{Kind: kind, Name: fullName(name, space)}
	for _, alias := range aliasesIn(v, isFullName) {
		t.Aliases = append(t.Aliases, fullName(alias, spaceOf(t.Name)))
	}
	if _, ok := r.places[t.Name]; ok || kindOf(t.Name) != 0 {
		wrong("a name that is given away: " + t.Name)
	}
	if len(r.named) == mostNamed {
		wrong("more than " + strconv.Itoa(mostNamed) + " names")
	}
	r.places[t.Name] = len(r.named)
	r.named = append(r.named, t)
	return t
}

func (r *reader) record(v jsonvalue.Value, space string) *Type {
	t := r.name(datum.Record, v, space)
	for _, item := range listIn(v, "fields", 0) {
		f := r.field(item, spaceOf(t.Name))
		if slices.ContainsFunc(t.Fields, func(other Field) bool { return other.Name == f.Name }) {
			wrong("two fields of one name: " + f.Name)
		}
		t.Fields = append(t.Fields, f)
	}
	return t
}

func (r *reader) field(v jsonvalue.Value, space string) Field {
	f := Field{Name: textIn(v, "name"), Aliases: aliasesIn(v, isName)}
	if !isName(f.Name) {
		wrong("no name of a field: " + strconv.Quote(f.Name))
	}
	f.Type = r.schema(in(v, "type"), space)
	f.told, f.isTold = v.Named("default")
	return f
}

func (r *reader) enum(v jsonvalue.Value, space string) *Type {
	t := r.name(datum.Enum, v, space)
	t.Symbols = namesOf(listIn(v, "symbols", 1), isName)
	t.Default = NoSymbol
	if _, ok := v.Named("default"); ok {
		t.Default = slices.Index(t.Symbols, textIn(v, "default"))
		if t.Default < 0 {
			wrong("an enum's default that is no symbol")
		}
	}
	return t
}

func (r *reader) fixed(v jsonvalue.Value, space string) *Type {
	t := r.name(datum.Fixed, v, space)
	size := in(v, "size")
	if size.Kind != jsonvalue.Number || size.Int < 0 || size.Int > mostSize {
		wrong("no size of a fixed")
	}
	t.Size = int(size.Int)
	return t
}
