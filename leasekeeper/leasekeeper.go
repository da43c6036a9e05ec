// Package leasekeeper: leases under tokens, kept and revoked through any fall of its disk: see DOC.md.
package leasekeeper

import (
	"leasekeeper/api"
	"leasekeeper/journal"
	"leasekeeper/names"
	"leasekeeper/order"
	"leasekeeper/paths"
	"leasekeeper/queue"
	"leasekeeper/records"
)

// Vault is what keeps tokens and leases.
type Vault struct {
	journal *journal.Journal
	revoker api.Revoker
	time    uint64
	tokens  map[names.Name]tokenEntry // those that are not gone
	leases  map[names.Name]leaseEntry // those that are not gone

	// The highest numbers that were given: what the maps hold does not tell them, since what is gone had one, too.
	tokenNumber uint64
	leaseNumber uint64

	ticking bool
	due     queue.Queue[turn] // empty, but while a Tick runs
}

// Open opens a vault over what a disk has (P3, P13).
func Open(d api.Disk, r api.Revoker, now uint64) (*Vault, error) {
	v := &Vault{
		revoker: r,
		time:    now,
		tokens:  map[names.Name]tokenEntry{names.Root(): {entry{at: api.Never}}},
		leases:  map[names.Name]leaseEntry{},
	}
	opened, err := journal.Open(d, v.count)
	if err != nil {
		return nil, err
	}
	v.journal = opened
	return v, nil
}

// CreateToken makes a token below another (P4).
func (v *Vault) CreateToken(parent string) (string, error) {
	above := names.Parse(parent)
	if !v.isLiveToken(above) {
		return "", api.ErrToken
	}
	if len(v.tokens) >= api.MaxTokens {
		return "", api.ErrMany
	}
	name := names.Name{Kind: names.Token, Number: v.tokenNumber + 1}
	token := tokenEntry{entry{above: above, at: api.Never}}
	if err := v.keep(token.record(name)); err != nil {
		return "", err
	}
	return name.String(), nil
}

// Issue makes a lease of a token (P5).
func (v *Vault) Issue(token string, path string, ttl uint64, most uint64) (string, error) {
	above := names.Parse(token)
	if err := v.mayIssue(above, path, ttl, most); err != nil {
		return "", err
	}
	name := names.Name{Kind: names.Lease, Number: v.leaseNumber + 1}
	lease := leaseEntry{
		entry: entry{above: above, at: later(v.time, ttl)},
		path:  path,
		last:  later(v.time, most),
	}
	if err := v.keep(lease.record(name)); err != nil {
		return "", err
	}
	return name.String(), nil
}

// mayIssue says the error that the document names first, of all that apply.
func (v *Vault) mayIssue(above names.Name, path string, ttl uint64, most uint64) error {
	switch {
	case !v.isLiveToken(above):
		return api.ErrToken
	case !paths.Valid(path):
		return api.ErrPath
	case ttl == 0 || ttl > most:
		return api.ErrTime
	case len(v.leases) >= api.MaxLeases:
		return api.ErrMany
	case v.time == api.Never:
		return api.ErrTime
	}
	return nil
}

// Renew makes a lease last longer (P6).
func (v *Vault) Renew(id string, ttl uint64) (uint64, error) {
	name := names.Parse(id)
	lease, ok := v.liveLease(name)
	if !ok {
		return 0, api.ErrLease
	}
	at := min(later(v.time, ttl), lease.last)
	if at <= lease.at {
		return lease.at, nil
	}
	lease.at = at
	if err := v.keep(lease.record(name)); err != nil {
		return 0, err
	}
	return at, nil
}

// Authorize: is the lease live, and is that its path (P7)?
func (v *Vault) Authorize(id string, path string) bool {
	lease, ok := v.liveLease(names.Parse(id))
	return ok && lease.path == path
}

// Next: when something is over, or due (P10).
func (v *Vault) Next() uint64 {
	var least uint64 = api.Never
	for info := range v.All() {
		least = min(least, info.At)
	}
	return least
}

// All walks through tokens and leases (P12).
func (v *Vault) All() func(yield func(api.Info) bool) {
	return func(yield func(api.Info) bool) {
		for name, token := range order.Walk(v.tokens) {
			if !yield(token.info(name)) {
				return
			}
		}
		for name, lease := range order.Walk(v.leases) {
			if !yield(lease.info(name, v.time)) {
				return
			}
		}
	}
}

func (v *Vault) isLiveToken(name names.Name) bool {
	token, ok := v.tokens[name]
	return ok && token.live()
}

func (v *Vault) liveLease(name names.Name) (leaseEntry, bool) {
	lease, ok := v.leases[name]
	return lease, ok && lease.live(v.time)
}

// keep makes records durable together, and only then lets them count. All that turns but the time turns here.
func (v *Vault) keep(list ...records.Record) error {
	if len(list) == 0 {
		return nil
	}
	if err := v.journal.Add(append([]records.Record{v.now()}, list...)...); err != nil {
		return err
	}
	for _, record := range list {
		v.count(record)
	}
	return nil
}

func (v *Vault) now() records.Record { return records.Record{Kind: records.Time, At: v.time} }

// count does what a record tells, whether it was just made or is read.
func (v *Vault) count(record records.Record) {
	switch record.Kind {
	case records.Time:
		v.time = max(v.time, record.At)
	case records.Kept:
		v.put(record)
	case records.Gone:
		delete(v.tokens, record.Name)
		delete(v.leases, record.Name)
	case records.Used:
		v.use(record.Name)
	}
}

func (v *Vault) put(record records.Record) {
	v.use(record.Name)
	switch record.Name.Kind {
	case names.Token:
		v.tokens[record.Name] = tokenOf(record)
	case names.Lease:
		v.leases[record.Name] = leaseOf(record)
	}
}

// use notes that a name was given, lest it be given again.
func (v *Vault) use(name names.Name) {
	switch name.Kind {
	case names.Token:
		v.tokenNumber = max(v.tokenNumber, name.Number)
	case names.Lease:
		v.leaseNumber = max(v.leaseNumber, name.Number)
	}
}
