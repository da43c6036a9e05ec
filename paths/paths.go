// Package paths says what a path is.
package paths

import "leasekeeper/api"

const slash = '/'

// Valid: is the text a path?
func Valid(text string) bool {
	if len(text) > api.MaxPath {
		return false
	}
	// As if a slash stood ahead: so the first name, too, must not be empty.
	previous := slash
	for _, r := range text {
		if r == slash && previous == slash || r != slash && !inName(r) {
			return false
		}
		previous = r
	}
	return previous != slash
}

func inName(r rune) bool {
	return 'a' <= r && r <= 'z' || '0' <= r && r <= '9' || r == '-'
}
