// Package names has the names of tokens and leases: t0, t1, .. and l1, l2, ..
package names

import (
	"cmp"
	"strconv"
)

// Kind says what a name names. Tokens stand ahead of leases, as they do in a walk over all.
type Kind int

const (
	None Kind = iota
	Token
	Lease
)

// Name is a name taken apart. The zero Name names nothing, and its text is empty.
type Name struct {
	Kind   Kind
	Number uint64
}

// Root is the name of the token that is above all others.
func Root() Name { return Name{Kind: Token} }

// Parse takes a text apart; of one that String does not write it makes the zero Name, so that no name has two spellings.
func Parse(text string) Name {
	if text == "" {
		return Name{}
	}
	number, err := strconv.ParseUint(text[1:], 10, 64)
	name := Name{Kind: kindOf(text[0]), Number: number}
	if err != nil || name.String() != text {
		return Name{}
	}
	return name
}

// String writes the name as callers know it.
func (n Name) String() string {
	switch n.Kind {
	case Token:
		return "t" + strconv.FormatUint(n.Number, 10)
	case Lease:
		return "l" + strconv.FormatUint(n.Number, 10)
	}
	return ""
}

// Compare orders names by kind, then by number; the order of their texts would put t10 ahead of t2.
func (n Name) Compare(other Name) int {
	return cmp.Or(cmp.Compare(n.Kind, other.Kind), cmp.Compare(n.Number, other.Number))
}

func kindOf(letter byte) Kind {
	switch letter {
	case 't':
		return Token
	case 'l':
		return Lease
	}
	return None
}
