package leasekeeper

import (
	"leasekeeper/api"
	"leasekeeper/names"
	"leasekeeper/order"
	"leasekeeper/paths"
	"leasekeeper/records"
)

// Revoke: a lease is to go (P8).
func (v *Vault) Revoke(id string) error {
	name := names.Parse(id)
	lease, ok := v.leases[name]
	if !ok {
		return api.ErrLease
	}
	if !lease.live(v.time) {
		return nil
	}
	lease.revoke(v.time)
	return v.keep(lease.record(name))
}

// RevokePrefix: all leases below a path are to go (P8).
func (v *Vault) RevokePrefix(prefix string) (int, error) {
	if prefix != "" && !paths.Valid(prefix) {
		return 0, api.ErrPath
	}
	list := v.revokedLeases(func(lease leaseEntry) bool {
		return paths.Within(lease.path, prefix)
	})
	if err := v.keep(list...); err != nil {
		return 0, err
	}
	return len(list), nil
}

// RevokeToken: a token and all below it are to go (P9).
func (v *Vault) RevokeToken(id string) error {
	top := names.Parse(id)
	if _, ok := v.tokens[top]; !ok || top == names.Root() {
		return api.ErrToken
	}
	list := v.revokedLeases(func(lease leaseEntry) bool {
		return v.isWithin(lease.above, top)
	})
	for name, token := range order.Walk(v.tokens) {
		if token.live() && v.isWithin(name, top) {
			token.revoke(v.time)
			list = append(list, token.record(name))
		}
	}
	return v.keep(list...)
}

// revokedLeases are the live leases that are meant, as they stand when they are revoked.
func (v *Vault) revokedLeases(meant func(leaseEntry) bool) []records.Record {
	var list []records.Record
	for name, lease := range order.Walk(v.leases) {
		if lease.live(v.time) && meant(lease) {
			lease.revoke(v.time)
			list = append(list, lease.record(name))
		}
	}
	return list
}

// isWithin: is the token top, or below it? Whatever is above a token that is not gone is not gone either, so that the way up ends behind the root alone.
func (v *Vault) isWithin(name names.Name, top names.Name) bool {
	for name != top {
		token, ok := v.tokens[name]
		if !ok {
			return false
		}
		name = token.above
	}
	return true
}
