package schema

import "strings"

func isName(text string) bool {
	for i, c := range text {
		letter := 'A' <= c && c <= 'Z' || 'a' <= c && c <= 'z' || c == '_'
		digit := '0' <= c && c <= '9'
		if !letter && (!digit || i == 0) {
			return false
		}
	}
	return text != ""
}

func isFullName(text string) bool {
	for _, part := range strings.Split(text, ".") {
		if !isName(part) {
			return false
		}
	}
	return true
}

// fullName tells the full name of a name that stands in a namespace.
func fullName(name, space string) string {
	if space == "" || strings.Contains(name, ".") {
		return name
	}
	return space + "." + name
}

// spaceOf tells the namespace that a full name is of.
func spaceOf(name string) string {
	return name[:max(0, strings.LastIndex(name, "."))]
}
