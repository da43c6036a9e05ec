package leasekeeper

import "leasekeeper/names"

// What the calls that are not built yet will bring about, so that tests can hold the built ones against it.

// PassTime: it is so late, and nothing is tried.
func (v *Vault) PassTime(now uint64) { v.time = now }

// MakePending: a token or lease was revoked, and tried in vain so often.
func (v *Vault) MakePending(id string, at uint64, tries int) {
	e := v.entryOf(id)
	e.pending, e.at, e.tries = true, at, tries
}

// MakeGone: a token or lease was revoked at its place.
func (v *Vault) MakeGone(id string) {
	delete(v.tokens, names.Parse(id))
	delete(v.leases, names.Parse(id))
}

func (v *Vault) entryOf(id string) *entry {
	if token, ok := v.tokens[names.Parse(id)]; ok {
		return &token.entry
	}
	return &v.leases[names.Parse(id)].entry
}
