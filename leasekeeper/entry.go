package leasekeeper

import (
	"leasekeeper/api"
	"leasekeeper/names"
	"leasekeeper/records"
)

// entry is what tokens and leases share.
type entry struct {
	above   names.Name // the token right above; of the root no name
	at      uint64
	tries   int
	pending bool // whatever the time says
}

// tokenEntry is a token that is not gone.
type tokenEntry struct {
	entry
}

// leaseEntry is a lease that is not gone.
type leaseEntry struct {
	entry
	path string
	last uint64
}

// live holds for tokens as it stands: no time ends them, not even Never.
func (e *entry) live() bool { return !e.pending }

// live: the time alone ends a lease, too, without a call that could mark it.
func (l *leaseEntry) live(time uint64) bool { return l.entry.live() && time < l.at }

// revoke turns what is live.
func (e *entry) revoke(time uint64) { e.pending, e.at = true, time }

// fail: it was tried in vain. Of a lease that the time alone had ended the AT lies ahead again then, so that from now on the mark must say that it is pending.
func (e *entry) fail(time uint64) {
	e.pending = true
	e.tries++
	e.at = later(time, wait(e.tries))
}

func (e *entry) info(name names.Name, live bool) api.Info {
	state := api.Pending
	if live {
		state = api.Live
	}
	return api.Info{Id: name.String(), State: state, At: e.at, Tries: e.tries, Token: e.above.String()}
}

func (t *tokenEntry) info(name names.Name) api.Info {
	return t.entry.info(name, t.live())
}

func (l *leaseEntry) info(name names.Name, time uint64) api.Info {
	info := l.entry.info(name, l.live(time))
	info.Path = l.path
	return info
}

func (e *entry) record(name names.Name) records.Record {
	return records.Record{Kind: records.Kept, Name: name, Above: e.above, Pending: e.pending, At: e.at, Tries: e.tries}
}

func (l *leaseEntry) record(name names.Name) records.Record {
	record := l.entry.record(name)
	record.Path, record.Last = l.path, l.last
	return record
}

func entryOf(record records.Record) entry {
	return entry{above: record.Above, at: record.At, tries: record.Tries, pending: record.Pending}
}

func tokenOf(record records.Record) tokenEntry { return tokenEntry{entryOf(record)} }

func leaseOf(record records.Record) leaseEntry {
	return leaseEntry{entry: entryOf(record), path: record.Path, last: record.Last}
}

// later is a sum of times, which ends at Never and does not wrap round.
func later(time uint64, ticks uint64) uint64 {
	if ticks > api.Never-time {
		return api.Never
	}
	return time + ticks
}

// wait is how many ticks pass until the next try, behind so many failures.
func wait(failures int) uint64 {
	var ticks uint64 = api.Base
	for n := 1; n < failures && ticks < api.MaxBackoff; n++ {
		ticks *= 2
	}
	return min(ticks, api.MaxBackoff)
}
