// Package paths says what a path is.
package paths

import (
	"strings"

	"leasekeeper/api"
)

const slash = '/'

// Valid: is the text a path?
func Valid(text string) bool {
	if len(text) > api.MaxPath {
		return false
	}
	// As if a slash stood ahead: so the first name, too, must not be empty.
	previous := slash
	for _, r := range text {
		if r == slash && previous == slash || r != slash && !inName(r) {
			return false
		}
		previous = r
	}
	return previous != slash
}

// Within: is the path the prefix, or below it? All paths are within an empty prefix.
func Within(path string, prefix string) bool {
	below, ok := strings.CutPrefix(path, prefix)
	return ok && (prefix == "" || below == "" || below[0] == slash)
}

func inName(r rune) bool {
	return 'a' <= r && r <= 'z' || '0' <= r && r <= '9' || r == '-'
}
