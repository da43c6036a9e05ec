package leasekeeper

import (
	"cmp"

	"leasekeeper/names"
	"leasekeeper/order"
	"leasekeeper/records"
)

// turn is the place of a token or lease among what is due.
type turn struct {
	at   uint64
	name names.Name
}

// Compare: leases go ahead of tokens, which is the other way round than in a walk over all.
func (t turn) Compare(other turn) int {
	return cmp.Or(
		cmp.Compare(t.at, other.at),
		cmp.Compare(other.name.Kind, t.name.Kind),
		cmp.Compare(t.name.Number, other.name.Number),
	)
}

// Tick: it is so late; what is due is tried (P10, P11).
func (v *Vault) Tick(now uint64) error {
	v.time = max(v.time, now)
	// A revoker may ask for a Tick itself: would that one try anything, neither might ever end. (What is being tried is due, so that an error of the disk is to be said.)
	if v.ticking {
		return v.journal.Err()
	}
	v.ticking = true
	// However this ends, by a panic of the revoker too, the next Tick begins anew.
	defer func() {
		v.ticking = false
		v.due.Empty()
	}()
	v.queueAll()
	for next, ok := v.due.Pop(); ok; next, ok = v.due.Pop() {
		if err := v.try(next.name); err != nil {
			return err
		}
	}
	return nil
}

// queueAll puts in line what is due ahead of all tries.
func (v *Vault) queueAll() {
	for name := range order.Walk(v.tokens) {
		v.queueToken(name)
	}
	for name, lease := range order.Walk(v.leases) {
		// Such a lease is not live, whether it was revoked or not.
		if lease.at <= v.time {
			v.due.Push(turn{at: lease.at, name: name})
		}
	}
}

// queueToken puts a token in line, if it is due.
func (v *Vault) queueToken(name names.Name) {
	token := v.tokens[name]
	if !token.live() && token.at <= v.time && !v.hasBelow(name) {
		v.due.Push(turn{at: token.at, name: name})
	}
}

// hasBelow: is a token or lease left right below the token?
func (v *Vault) hasBelow(name names.Name) bool {
	for _, token := range v.tokens {
		if token.above == name {
			return true
		}
	}
	for _, lease := range v.leases {
		if lease.above == name {
			return true
		}
	}
	return false
}

// try asks the revoker, unless what it says could not be made durable. If the last one below a token goes, the token above may be due by that; so each is put in line once in a Tick.
func (v *Vault) try(name names.Name) error {
	if err := v.journal.Err(); err != nil {
		return err
	}
	above := v.aboveOf(name)
	if !v.revoker.Revoke(name.String()) {
		return v.keep(v.failed(name))
	}
	if err := v.keep(records.Record{Kind: records.Gone, Name: name}); err != nil {
		return err
	}
	v.queueToken(above)
	return nil
}

// failed is how a token or lease stands when it was tried in vain.
func (v *Vault) failed(name names.Name) records.Record {
	if token, ok := v.tokens[name]; ok {
		token.fail(v.time)
		return token.record(name)
	}
	lease := v.leases[name]
	lease.fail(v.time)
	return lease.record(name)
}

func (v *Vault) aboveOf(name names.Name) names.Name {
	if token, ok := v.tokens[name]; ok {
		return token.above
	}
	return v.leases[name].above
}
