package leasekeeper

import (
	"leasekeeper/api"
	"leasekeeper/names"
	"leasekeeper/order"
	"leasekeeper/paths"
)

// Revoke: a lease is to go (P8).
func (v *Vault) Revoke(id string) error {
	lease, ok := v.leases[names.Parse(id)]
	if !ok {
		return api.ErrLease
	}
	if lease.live(v.time) {
		lease.revoke(v.time)
	}
	return nil
}

// RevokePrefix: all leases below a path are to go (P8).
func (v *Vault) RevokePrefix(prefix string) (int, error) {
	if prefix != "" && !paths.Valid(prefix) {
		return 0, api.ErrPath
	}
	return v.revokeLeases(func(lease *leaseEntry) bool {
		return paths.Within(lease.path, prefix)
	}), nil
}

// RevokeToken: a token and all below it are to go (P9).
func (v *Vault) RevokeToken(id string) error {
	top := names.Parse(id)
	if _, ok := v.tokens[top]; !ok || top == names.Root() {
		return api.ErrToken
	}
	for name, token := range order.Walk(v.tokens) {
		if token.live() && v.isWithin(name, top) {
			token.revoke(v.time)
		}
	}
	v.revokeLeases(func(lease *leaseEntry) bool {
		return v.isWithin(lease.above, top)
	})
	return nil
}

// revokeLeases revokes the live leases that are meant, and says how many.
func (v *Vault) revokeLeases(meant func(*leaseEntry) bool) int {
	count := 0
	for _, lease := range order.Walk(v.leases) {
		if lease.live(v.time) && meant(lease) {
			lease.revoke(v.time)
			count++
		}
	}
	return count
}

// isWithin: is the token top, or below it? Whatever is above a token that is not gone is not gone either, so that the way up ends behind the root alone.
func (v *Vault) isWithin(name names.Name, top names.Name) bool {
	for name != top {
		token, ok := v.tokens[name]
		if !ok {
			return false
		}
		name = token.above
	}
	return true
}
