package leasekeeper

import (
	"leasekeeper/names"
	"leasekeeper/order"
	"leasekeeper/records"
)

// Compact writes anew what is durable (P16). All that the vault has is durable, but for the time, which becomes so by this.
func (v *Vault) Compact() error { return v.journal.Replace(v.allRecords()...) }

// allRecords tell all that the vault has, to one that is told nothing else.
func (v *Vault) allRecords() []records.Record {
	list := []records.Record{
		v.now(),
		{Kind: records.Used, Name: names.Name{Kind: names.Token, Number: v.tokenNumber}},
		{Kind: records.Used, Name: names.Name{Kind: names.Lease, Number: v.leaseNumber}},
	}
	for name, token := range order.Walk(v.tokens) {
		list = append(list, token.record(name))
	}
	for name, lease := range order.Walk(v.leases) {
		list = append(list, lease.record(name))
	}
	return list
}
