package schema

import (
	"slices"
	"strconv"

	"avro/jsonvalue"
)

// in tells what an object must have under a name.
func in(v jsonvalue.Value, name string) jsonvalue.Value {
	part, ok := v.Named(name)
	if !ok {
		wrong("no " + name)
	}
	return part
}

func textIn(v jsonvalue.Value, name string) string {
	part := in(v, name)
	if part.Kind != jsonvalue.String {
		wrong(name + ": no string")
	}
	return part.Text
}

func listIn(v jsonvalue.Value, name string, least int) []jsonvalue.Value {
	part := in(v, name)
	if part.Kind != jsonvalue.Array {
		wrong(name + ": no array")
	}
	checkLength(part, name, least)
	return part.Items
}

func checkLength(v jsonvalue.Value, what string, least int) {
	if len(v.Items) < least || len(v.Items) > mostListed {
		wrong(what + ": not " + strconv.Itoa(least) + " to " + strconv.Itoa(mostListed))
	}
}

func aliasesIn(v jsonvalue.Value, allowed func(string) bool) []string {
	if _, ok := v.Named("aliases"); !ok {
		return nil
	}
	return namesOf(listIn(v, "aliases", 0), allowed)
}

// namesOf tells the names that a list must be made of, no two the same.
func namesOf(list []jsonvalue.Value, allowed func(string) bool) []string {
	var names []string
	for _, v := range list {
		if v.Kind != jsonvalue.String || !allowed(v.Text) || slices.Contains(names, v.Text) {
			wrong("no list of names, each of them once")
		}
		names = append(names, v.Text)
	}
	return names
}
