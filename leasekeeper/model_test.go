package leasekeeper_test

import (
	"fmt"
	"math"
	"math/rand"
	"slices"
	"strings"
	"testing"

	"leasekeeper/api"
	"leasekeeper/plain"
)

// thing is a token or lease of the model, as the document's words have it.
type thing struct {
	id, above, path string
	isLease         bool
	number, tries   int
	at, last        uint64
	revoked, gone   bool
	tick            int // the last Tick that tried it
}

// model is a slow vault: whatever it is asked it goes over all that ever was.
type model struct {
	time           uint64
	durable        uint64 // the last time at which something turned, or all was written anew
	tick           int
	tokens, leases []*thing
}

func newModel(now uint64) *model {
	return &model{time: now, tokens: []*thing{{id: "t0", at: api.Never}}}
}

func (m *model) live(x *thing) bool {
	return !x.gone && !x.revoked && (!x.isLease || m.time < x.at)
}

func (m *model) both() []*thing { return slices.Concat(m.tokens, m.leases) }

func (m *model) find(list []*thing, id string) *thing {
	for _, x := range list {
		if x.id == id && !x.gone {
			return x
		}
	}
	return nil
}

func (m *model) count(list []*thing) int {
	n := 0
	for _, x := range list {
		if !x.gone {
			n++
		}
	}
	return n
}

func sum(a uint64, b uint64) uint64 {
	if a+b < a {
		return api.Never
	}
	return a + b
}

func (m *model) create(parent string) (string, api.Errno) {
	above := m.find(m.tokens, parent)
	switch {
	case above == nil || !m.live(above):
		return "", api.ErrToken
	case m.count(m.tokens) == 10:
		return "", api.ErrMany
	}
	x := &thing{id: fmt.Sprint("t", len(m.tokens)), number: len(m.tokens), above: parent, at: api.Never}
	m.tokens = append(m.tokens, x)
	m.durable = m.time
	return x.id, api.OK
}

func (m *model) issue(token string, path string, ttl uint64, most uint64) (string, api.Errno) {
	above := m.find(m.tokens, token)
	switch {
	case above == nil || !m.live(above):
		return "", api.ErrToken
	case strings.HasSuffix(path, "/"):
		return "", api.ErrPath
	case ttl == 0 || ttl > most:
		return "", api.ErrTime
	case m.count(m.leases) == 14:
		return "", api.ErrMany
	case m.time == api.Never:
		return "", api.ErrTime
	}
	n := len(m.leases) + 1
	x := &thing{id: fmt.Sprint("l", n), isLease: true, number: n, above: token, path: path, at: sum(m.time, ttl), last: sum(m.time, most)}
	m.leases = append(m.leases, x)
	m.durable = m.time
	return x.id, api.OK
}

func (m *model) renew(id string, ttl uint64) (uint64, api.Errno) {
	x := m.find(m.leases, id)
	if x == nil || !m.live(x) {
		return 0, api.ErrLease
	}
	if at := min(sum(m.time, ttl), x.last); at > x.at {
		x.at = at
		m.durable = m.time
	}
	return x.at, api.OK
}

func (m *model) revoke(x *thing) int {
	if !m.live(x) {
		return 0
	}
	x.revoked, x.at = true, m.time
	m.durable = m.time
	return 1
}

func (m *model) revokeLease(id string) api.Errno {
	x := m.find(m.leases, id)
	if x == nil {
		return api.ErrLease
	}
	m.revoke(x)
	return api.OK
}

func (m *model) revokePrefix(prefix string) (int, api.Errno) {
	if strings.HasSuffix(prefix, "/") {
		return 0, api.ErrPath
	}
	n := 0
	for _, x := range m.leases {
		if prefix == "" || x.path == prefix || strings.HasPrefix(x.path, prefix+"/") {
			n += m.revoke(x)
		}
	}
	return n, api.OK
}

func (m *model) revokeToken(id string) api.Errno {
	x := m.find(m.tokens, id)
	if x == nil || id == "t0" {
		return api.ErrToken
	}
	m.revokeBelow(x)
	return api.OK
}

func (m *model) revokeBelow(x *thing) {
	m.revoke(x)
	for _, lease := range m.leases {
		if lease.above == x.id {
			m.revoke(lease)
		}
	}
	for _, token := range m.tokens {
		if token.above == x.id {
			m.revokeBelow(token)
		}
	}
}

func (m *model) isDue(x *thing) bool {
	if x.gone || m.live(x) || x.at > m.time || x.tick == m.tick {
		return false
	}
	return !slices.ContainsFunc(m.both(), func(y *thing) bool { return !y.gone && y.above == x.id })
}

// isAhead: is x tried ahead of y?
func isAhead(x *thing, y *thing) bool {
	switch {
	case x.at != y.at:
		return x.at < y.at
	case x.isLease != y.isLease:
		return x.isLease
	}
	return x.number < y.number
}

func (m *model) firstDue() *thing {
	var first *thing
	for _, x := range m.both() {
		if m.isDue(x) && (first == nil || isAhead(x, first)) {
			first = x
		}
	}
	return first
}

// doTick makes so many tries at the most.
func (m *model) doTick(now uint64, fails uint64, most int) []string {
	m.time = max(m.time, now)
	m.tick++
	var tried []string
	for x := m.firstDue(); x != nil && len(tried) < most; x = m.firstDue() {
		tried = append(tried, x.id)
		x.tick = m.tick
		if fails&1 == 0 {
			x.gone = true
		} else {
			x.revoked = true
			x.at = sum(m.time, []uint64{2, 4, 8, 16, 32}[min(x.tries, 4)])
			x.tries++
		}
		fails >>= 1
		m.durable = m.time
	}
	return tried
}

func (m *model) all() []api.Info {
	var list []api.Info
	for _, x := range m.both() {
		state := api.Pending
		if m.live(x) {
			state = api.Live
		}
		if !x.gone {
			list = append(list, api.Info{Id: x.id, State: state, At: x.at, Tries: x.tries, Token: x.above, Path: x.path})
		}
	}
	return list
}

func (m *model) next() uint64 {
	var least uint64 = api.Never
	for _, info := range m.all() {
		least = min(least, info.At)
	}
	return least
}

// chooser chooses calls and what they are given, so that much of it fits what is there.
type chooser struct{ *rand.Rand }

// name: mostly one of the last things, and then mostly one that is not gone.
func (c chooser) name(letter string, list []*thing) string {
	number := len(list) + 1 - c.Intn(min(20, len(list)+2))
	for _, x := range list {
		if x.number >= number && !x.gone && c.Intn(5) > 0 {
			return x.id
		}
	}
	return fmt.Sprint(letter, number)
}

func (c chooser) path() string {
	return []string{"a", "a/b", "a/b/c", "ab", "b", "a/"}[c.Intn(6)]
}

func (c chooser) ticks() uint64 {
	if c.Intn(40) == 0 {
		return api.Never - uint64(c.Intn(3))
	}
	return uint64(c.Intn(25))
}

func (c chooser) now(m *model) uint64 {
	switch c.Intn(500) {
	case 0:
		return api.Never - uint64(c.Intn(40))
	case 1:
		return 0
	}
	return sum(m.time, uint64(c.Intn(4)))
}

// call is a call of the vault and what the model does for it. Both tell what is answered, beside an error; of a Tick, which may turn something and say an error, that is what was tried.
type call struct {
	text              string
	isTick, isCompact bool
	ask               func(h *plain.Host, f plain.Fall) (string, api.Errno)
	do                func(m *model, tries int) (string, api.Errno)
}

func (c chooser) call(m *model) call {
	token, lease, path, ttl := c.name("t", m.tokens), c.name("l", m.leases), c.path(), c.ticks()
	switch c.Intn(14) {
	case 0, 1:
		return createCall(token)
	case 2, 3, 4, 5:
		return issueCall(token, path, ttl, sum(ttl, uint64(c.Intn(20))))
	case 6:
		return renewCall(lease, ttl)
	case 7:
		return revokeCall(lease)
	case 8:
		if c.Intn(10) == 0 {
			return prefixCall("")
		}
		return prefixCall(path)
	case 9:
		return revokeTokenCall(token)
	case 10:
		return compactCall()
	}
	return tickCall(c.now(m), c.Uint64()&c.Uint64())
}

func createCall(parent string) call {
	return call{
		text: "CreateToken " + parent,
		ask:  func(h *plain.Host, f plain.Fall) (string, api.Errno) { return h.CreateToken(parent, f) },
		do:   func(m *model, _ int) (string, api.Errno) { return m.create(parent) },
	}
}

func issueCall(token string, path string, ttl uint64, most uint64) call {
	return call{
		text: fmt.Sprintf("Issue %s %s %d %d", token, path, ttl, most),
		ask:  func(h *plain.Host, f plain.Fall) (string, api.Errno) { return h.Issue(token, path, ttl, most, f) },
		do:   func(m *model, _ int) (string, api.Errno) { return m.issue(token, path, ttl, most) },
	}
}

func renewCall(lease string, ttl uint64) call {
	return call{
		text: fmt.Sprintf("Renew %s %d", lease, ttl),
		ask:  func(h *plain.Host, f plain.Fall) (string, api.Errno) { return told(h.Renew(lease, ttl, f)) },
		do:   func(m *model, _ int) (string, api.Errno) { return told(m.renew(lease, ttl)) },
	}
}

func revokeCall(lease string) call {
	return call{
		text: "Revoke " + lease,
		ask:  func(h *plain.Host, f plain.Fall) (string, api.Errno) { return "", h.Revoke(lease, f) },
		do:   func(m *model, _ int) (string, api.Errno) { return "", m.revokeLease(lease) },
	}
}

func prefixCall(prefix string) call {
	return call{
		text: "RevokePrefix " + prefix,
		ask:  func(h *plain.Host, f plain.Fall) (string, api.Errno) { return told(h.RevokePrefix(prefix, f)) },
		do:   func(m *model, _ int) (string, api.Errno) { return told(m.revokePrefix(prefix)) },
	}
}

func revokeTokenCall(token string) call {
	return call{
		text: "RevokeToken " + token,
		ask:  func(h *plain.Host, f plain.Fall) (string, api.Errno) { return "", h.RevokeToken(token, f) },
		do:   func(m *model, _ int) (string, api.Errno) { return "", m.revokeToken(token) },
	}
}

func tickCall(now uint64, fails uint64) call {
	return call{
		text:   fmt.Sprintf("Tick %d %b", now, fails),
		isTick: true,
		ask: func(h *plain.Host, f plain.Fall) (string, api.Errno) {
			tried, e := h.Tick(now, fails, f)
			return strings.Join(tried, " "), e
		},
		do: func(m *model, tries int) (string, api.Errno) {
			return strings.Join(m.doTick(now, fails, tries), " "), api.OK
		},
	}
}

func compactCall() call {
	return call{
		text:      "Compact",
		isCompact: true,
		ask:       func(h *plain.Host, f plain.Fall) (string, api.Errno) { return "", h.Compact(f) },
		do:        func(m *model, _ int) (string, api.Errno) { m.durable = m.time; return "", api.OK },
	}
}

// told: a number as a text; zero, as it stands beside an error, as the empty one.
func told[N int | uint64](number N, e api.Errno) (string, api.Errno) {
	if number == 0 {
		return "", e
	}
	return fmt.Sprint(number), e
}

// wantModel: does the vault have what the model has?
func wantModel(t *testing.T, h *plain.Host, m *model, calls []string) {
	t.Helper()
	if got, want := all(t, h), m.all(); !slices.Equal(got, want) {
		t.Fatalf("%s\nAll: %v, want\n%v", strings.Join(calls, "\n"), got, want)
	}
	if got, want := h.Next(), m.next(); got != want {
		t.Fatalf("%s\nNext = %d, want %d", strings.Join(calls, "\n"), got, want)
	}
}

// wantRoom: behind a Compact the disk has no more than it may.
func wantRoom(t *testing.T, h *plain.Host) {
	t.Helper()
	if size, most := h.Size(), 1000+200*len(all(t, h)); size > most {
		t.Fatalf("P16: the disk has %d bytes, %d at the most", size, most)
	}
}

func TestTheVaultDoesWhatTheModelDoes(t *testing.T) {
	for seed := range int64(300) {
		c := chooser{rand.New(rand.NewSource(seed))}
		h, m := open(t, 100), newModel(100)
		calls := []string{fmt.Sprint("seed ", seed)}
		for range 300 {
			call := c.call(m)
			calls = append(calls, call.text)
			got, gotErr := call.ask(h, well)
			want, wantErr := call.do(m, math.MaxInt)
			if got != want || gotErr != wantErr {
				t.Fatalf("%s\n= %s, %d, want %s, %d", strings.Join(calls, "\n"), got, gotErr, want, wantErr)
			}
			wantModel(t, h, m, calls)
			if call.isCompact {
				wantRoom(t, h)
			}
		}
	}
}
