package leasekeeper_test

import (
	"fmt"
	"math"
	"strings"
	"testing"

	"leasekeeper/api"
	"leasekeeper/plain"
)

// allFail, as what Tick is told: the revoker fails whatever it is asked.
const allFail = math.MaxUint64

// tick: what is tried when it is so late? The revoker fails as the bits say, the lowest first.
func tick(t *testing.T, h *plain.Host, now uint64, fails uint64, want string) {
	t.Helper()
	tried, e := h.Tick(now, fails, well)
	if got := strings.Join(tried, " "); got != want || e != api.OK {
		t.Errorf("Tick(%d) tried %q, %d, want %q", now, got, e, want)
	}
}

func mustRevoke(t *testing.T, h *plain.Host, id string) {
	t.Helper()
	if e := h.Revoke(id, well); e != api.OK {
		t.Errorf("Revoke(%q) = %d", id, e)
	}
}

func mustRevokeToken(t *testing.T, h *plain.Host, id string) {
	t.Helper()
	if e := h.RevokeToken(id, well); e != api.OK {
		t.Errorf("RevokeToken(%q) = %d", id, e)
	}
}

// pending makes of what is told of something live what is told of it when it waits.
func pending(info api.Info, at uint64, tries int) api.Info {
	info.State, info.At, info.Tries = api.Pending, at, tries
	return info
}

func infoOf(t *testing.T, h *plain.Host, id string) api.Info {
	t.Helper()
	for _, info := range all(t, h) {
		if info.Id == id {
			return info
		}
	}
	t.Fatalf("no %s in the walk", id)
	return api.Info{}
}

// wantLive: do all calls say the same of a lease on the path a?
func wantLive(t *testing.T, h *plain.Host, id string, want bool) {
	t.Helper()
	state, renewal := api.Live, api.OK
	if !want {
		state, renewal = api.Pending, api.ErrLease
	}
	if got := infoOf(t, h, id).State; got != state {
		t.Errorf("P12: state of %s = %d, want %d", id, got, state)
	}
	if got := h.Authorize(id, "a"); got != want {
		t.Errorf("P7: Authorize(%s) = %v", id, got)
	}
	if at, e := h.Renew(id, 0, well); e != renewal || !want && at != 0 {
		t.Errorf("P6: Renew(%s) = %d, %d", id, at, e)
	}
}

func TestP3ALeaseIsLiveBelowItsAt(t *testing.T) {
	h := open(t, 100)
	mustIssue(t, h, "t0", "a", 10, 20, "l1")
	wantLive(t, h, "l1", true)
	tick(t, h, 109, 0, "")
	wantLive(t, h, "l1", true)
	tick(t, h, 110, allFail, "l1")
	wantLive(t, h, "l1", false)
	tick(t, h, api.Never, allFail, "l1")
	wantLive(t, h, "l1", false)
}

func TestP3NeverEndsLeasesAndNoTokens(t *testing.T) {
	h := open(t, 100)
	mustIssue(t, h, "t0", "a", api.Never, api.Never, "l1")
	tick(t, h, api.Never-1, 0, "")
	wantLive(t, h, "l1", true)
	tick(t, h, api.Never, allFail, "l1")
	wantLive(t, h, "l1", false)
	mustCreate(t, h, "t0", "t1")
	tick(t, h, api.Never, 0, "l1")
	wantAll(t, h, token("t0", ""), token("t1", "t0"))
}

// wantUnknown: does every call that takes a name say that there is no such token or lease?
func wantUnknown(t *testing.T, h *plain.Host, id string) {
	t.Helper()
	if made, e := h.CreateToken(id, well); made != "" || e != api.ErrToken {
		t.Errorf("P4: CreateToken(%q) = %q, %d", id, made, e)
	}
	if made, e := h.Issue(id, "a", 1, 1, well); made != "" || e != api.ErrToken {
		t.Errorf("P5: Issue(%q) = %q, %d", id, made, e)
	}
	if at, e := h.Renew(id, 1, well); at != 0 || e != api.ErrLease {
		t.Errorf("P6: Renew(%q) = %d, %d", id, at, e)
	}
	if h.Authorize(id, "a") {
		t.Errorf("P7: Authorize(%q)", id)
	}
	if e := h.Revoke(id, well); e != api.ErrLease {
		t.Errorf("P8: Revoke(%q) = %d", id, e)
	}
	if e := h.RevokeToken(id, well); e != api.ErrToken {
		t.Errorf("P9: RevokeToken(%q) = %d", id, e)
	}
}

func TestP3WhatIsGoneIsUnknownAndItsNameIsNotUsedAgain(t *testing.T) {
	h := open(t, 100)
	mustCreate(t, h, "t0", "t1")
	mustCreate(t, h, "t0", "t2")
	mustIssue(t, h, "t0", "a", 5, 5, "l1")
	mustIssue(t, h, "t0", "a", 9, 9, "l2")
	mustRevokeToken(t, h, "t2")
	tick(t, h, 109, 0, "t2 l1 l2")
	wantAll(t, h, token("t0", ""), token("t1", "t0"))
	for _, id := range []string{"t2", "l1", "l2"} {
		wantUnknown(t, h, id)
	}
	if next := h.Next(); next != api.Never {
		t.Errorf("P10: Next = %d", next)
	}
	mustCreate(t, h, "t0", "t3")
	mustIssue(t, h, "t0", "a", 1, 1, "l3")
}

func TestP4WhatIsPendingTakesRoomAndWhatIsGoneDoesNot(t *testing.T) {
	h := open(t, 100)
	fillTokens(t, h)
	mustRevokeToken(t, h, "t5")
	for parent, want := range map[string]api.Errno{"t0": api.ErrMany, "t5": api.ErrToken} {
		if id, e := h.CreateToken(parent, well); id != "" || e != want {
			t.Errorf("an eleventh token below %s: %q, %d", parent, id, e)
		}
	}
	tick(t, h, 100, 0, "t5")
	mustCreate(t, h, "t0", "t10")
}

func TestP4P5APendingTokenTakesNothing(t *testing.T) {
	h := open(t, 100)
	mustCreate(t, h, "t0", "t1")
	mustRevokeToken(t, h, "t1")
	if id, e := h.CreateToken("t1", well); id != "" || e != api.ErrToken {
		t.Errorf("P4: %q, %d", id, e)
	}
	wantRefusals(t, h, []refusal{{"t1", "a", 1, 1, api.ErrToken}, {"t1", "", 0, 0, api.ErrToken}})
}

func TestP5WhatIsPendingTakesRoomAndWhatIsGoneDoesNot(t *testing.T) {
	h := open(t, 100)
	fillLeases(t, h)
	mustRevoke(t, h, "l1")
	wantRefusals(t, h, []refusal{{"t0", "a", 1, 1, api.ErrMany}})
	tick(t, h, 104, 0, "l1")
	mustIssue(t, h, "t0", "a", 1, 1, "l15")
	tick(t, h, 105, allFail, "l2 l3 l4 l5 l6 l7 l8 l9 l10 l11 l12 l13 l14 l15")
	wantRefusals(t, h, []refusal{{"t0", "a", 1, 1, api.ErrMany}})
}

func TestP5NoRoomIsNamedAheadOfNever(t *testing.T) {
	h := open(t, 100)
	fillLeases(t, h)
	h.Tick(api.Never, allFail, well)
	wantRefusals(t, h, []refusal{{"t0", "a", 1, 1, api.ErrMany}})
	h.Tick(api.Never, allFail-1, well)
	wantRefusals(t, h, []refusal{{"t0", "a", 1, 1, api.ErrTime}})
}

func TestP6RenewGoesByTheTimeOfTheCall(t *testing.T) {
	h := open(t, 100)
	mustIssue(t, h, "t0", "a", 10, 20, "l1")
	for _, c := range []struct{ now, ttl, want uint64 }{
		{105, 4, 110}, {105, 5, 110}, {105, 6, 111}, {110, 9, 119}, {115, 5, 120}, {115, 6, 120}, {119, api.Never, 120},
	} {
		tick(t, h, c.now, 0, "")
		mustRenew(t, h, "l1", c.ttl, c.want)
	}
	tick(t, h, 120, allFail, "l1")
	if at, e := h.Renew("l1", 5, well); at != 0 || e != api.ErrLease {
		t.Errorf("Renew at its LAST = %d, %d", at, e)
	}
}

func TestP6P7ARevokedLeaseIsNotLive(t *testing.T) {
	h := open(t, 100)
	mustIssue(t, h, "t0", "a", 10, 20, "l1")
	mustRevoke(t, h, "l1")
	wantLive(t, h, "l1", false)
	tick(t, h, 100, allFail, "l1")
	wantLive(t, h, "l1", false)
	if next := h.Next(); next != 102 {
		t.Errorf("P10: Next = %d", next)
	}
}

func TestP12StatesAndFailures(t *testing.T) {
	h := open(t, 100)
	mustCreate(t, h, "t0", "t1")
	mustCreate(t, h, "t0", "t2")
	mustIssue(t, h, "t1", "a", 10, 20, "l1")
	mustIssue(t, h, "t0", "b", 5, 20, "l2")
	mustIssue(t, h, "t0", "c", 50, 50, "l3")
	mustRevokeToken(t, h, "t1")
	mustRevokeToken(t, h, "t2")
	tick(t, h, 101, allFail, "l1 t2")
	tick(t, h, 105, allFail, "l1 t2 l2")
	wantAll(t, h,
		token("t0", ""), pending(token("t1", "t0"), 100, 0), pending(token("t2", "t0"), 109, 2),
		pending(lease("l1", 0, "t1", "a"), 109, 2), pending(lease("l2", 0, "t0", "b"), 107, 1), lease("l3", 150, "t0", "c"))
}

func TestP12WhatGoesWithinAWalkIsNotTold(t *testing.T) {
	v := openVault(t, willing{})
	for _, id := range []string{"t0", "t1"} {
		v.CreateToken(id)
		v.Issue(id, "a", 1, 1)
	}
	got := ""
	for info := range v.All() {
		got += info.Id + " "
		v.RevokeToken("t1")
		v.Tick(100)
	}
	if got != "t0 l1 " {
		t.Errorf("walked: %s", got)
	}
}

func TestP10NextCountsWhatIsPending(t *testing.T) {
	h := open(t, 100)
	mustCreate(t, h, "t0", "t1")
	mustIssue(t, h, "t1", "a", 50, 50, "l1")
	tick(t, h, 110, 0, "")
	mustRevokeToken(t, h, "t1")
	for _, c := range []struct{ now, next uint64 }{{110, 110}, {112, 110}} {
		tick(t, h, c.now, allFail, "l1")
		if got := h.Next(); got != c.next {
			t.Errorf("Next = %d, want %d: t1 is not due, but it is not gone", got, c.next)
		}
	}
	tick(t, h, 116, 2, "l1 t1")
	if got := h.Next(); got != 118 {
		t.Errorf("Next = %d", got)
	}
	tick(t, h, 118, 0, "t1")
	if got := h.Next(); got != api.Never {
		t.Errorf("Next = %d", got)
	}
}

func TestP3NamesGoOnBeyondTenAndFourteen(t *testing.T) {
	h := open(t, 100)
	for i := 1; i <= 30; i++ {
		name := fmt.Sprint("t", i)
		mustCreate(t, h, "t0", name)
		mustIssue(t, h, name, "a", 5, 5, fmt.Sprint("l", i))
		mustRevokeToken(t, h, name)
		tick(t, h, 100, 0, fmt.Sprintf("l%d t%d", i, i))
	}
	wantAll(t, h, token("t0", ""))
}
