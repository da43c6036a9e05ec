package leasekeeper

import (
	"cmp"

	"leasekeeper/names"
	"leasekeeper/order"
)

// turn is the place of a token or lease among what is due.
type turn struct {
	at   uint64
	name names.Name
}

// Compare: leases go ahead of tokens, which is the other way round than in a walk over all.
func (t turn) Compare(other turn) int {
	return cmp.Or(
		cmp.Compare(t.at, other.at),
		cmp.Compare(other.name.Kind, t.name.Kind),
		cmp.Compare(t.name.Number, other.name.Number),
	)
}

// Tick: it is so late; what is due is tried (P10, P11).
func (v *Vault) Tick(now uint64) error {
	v.time = max(v.time, now)
	// A revoker may ask for a Tick itself: would that one try anything, neither might ever end.
	if v.ticking {
		return nil
	}
	v.ticking = true
	// However this ends, by a panic of the revoker too, the next Tick begins anew.
	defer func() {
		v.ticking = false
		v.due.Empty()
	}()
	v.queueAll()
	for next, ok := v.due.Pop(); ok; next, ok = v.due.Pop() {
		v.try(next.name)
	}
	return nil
}

// queueAll puts in line what is due ahead of all tries.
func (v *Vault) queueAll() {
	for name := range order.Walk(v.tokens) {
		v.queueToken(name)
	}
	for name, lease := range order.Walk(v.leases) {
		// Such a lease is not live, whether it was revoked or not.
		if lease.at <= v.time {
			v.due.Push(turn{at: lease.at, name: name})
		}
	}
}

// queueToken puts a token in line, if it is due.
func (v *Vault) queueToken(name names.Name) {
	token := v.tokens[name]
	if !token.live() && token.at <= v.time && !v.hasBelow(name) {
		v.due.Push(turn{at: token.at, name: name})
	}
}

// hasBelow: is a token or lease left right below the token?
func (v *Vault) hasBelow(name names.Name) bool {
	for _, token := range v.tokens {
		if token.above == name {
			return true
		}
	}
	for _, lease := range v.leases {
		if lease.above == name {
			return true
		}
	}
	return false
}

// try asks the revoker. If the last one below a token goes, the token above may be due by that; so each is put in line once in a Tick.
func (v *Vault) try(name names.Name) {
	tried := v.entryOf(name)
	if !v.revoker.Revoke(name.String()) {
		tried.fail(v.time)
		return
	}
	delete(v.tokens, name)
	delete(v.leases, name)
	v.queueToken(tried.above)
}

// entryOf is what a token and a lease share, of one that is not gone.
func (v *Vault) entryOf(name names.Name) *entry {
	if token, ok := v.tokens[name]; ok {
		return &token.entry
	}
	return &v.leases[name].entry
}
