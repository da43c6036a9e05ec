package leasekeeper_test

import (
	"errors"
	"fmt"
	"slices"
	"testing"

	"leasekeeper/api"
	"leasekeeper/leasekeeper"
	"leasekeeper/plain"
)

// reopen: the power fails, nothing that is not durable is kept, and a vault is opened.
func reopen(t *testing.T, h *plain.Host, now uint64) {
	t.Helper()
	h.Lose(0, 0)
	if e := h.Open(now, well); e != api.OK || !h.Is() {
		t.Fatalf("P13: Open at %d: %d", now, e)
	}
}

// mixed is a vault at 106 that has things in all states.
func mixed(t *testing.T) *plain.Host {
	t.Helper()
	h := open(t, 100)
	for i, parent := range []string{"t0", "t1", "t2", "t1"} {
		mustCreate(t, h, parent, fmt.Sprint("t", i+1))
	}
	mustIssue(t, h, "t1", "a", 50, 90, "l1")
	mustIssue(t, h, "t2", "a/b", 5, 5, "l2")
	mustIssue(t, h, "t0", "b", 50, 70, "l3")
	mustIssue(t, h, "t3", "a/b/c", 40, api.Never, "l4")
	mustIssue(t, h, "t0", "c", 3, 3, "l5")
	mustRevokeToken(t, h, "t4")
	tick(t, h, 106, 5, "t4 l5 l2")
	mustRevoke(t, h, "l3")
	return h
}

func mixedInfos() []api.Info {
	return []api.Info{
		token("t0", ""), token("t1", "t0"), token("t2", "t1"), token("t3", "t2"), pending(token("t4", "t1"), 108, 1),
		lease("l1", 150, "t1", "a"), pending(lease("l2", 0, "t2", "a/b"), 108, 1), pending(lease("l3", 0, "t0", "b"), 106, 0), lease("l4", 140, "t3", "a/b/c"),
	}
}

// wantMixed: whatever is asked of it, the vault answers as mixed does.
func wantMixed(t *testing.T, h *plain.Host) {
	t.Helper()
	wantAll(t, h, mixedInfos()...)
	if next := h.Next(); next != 106 {
		t.Errorf("Next = %d", next)
	}
	if !h.Authorize("l1", "a") || h.Authorize("l3", "b") || h.Authorize("l5", "c") {
		t.Error("Authorize")
	}
	wantUnknown(t, h, "l5")
}

func TestP13WhatWasThereIsThereAgain(t *testing.T) {
	h := mixed(t)
	wantMixed(t, h)
	for _, now := range []uint64{106, 0, 107, 106} {
		reopen(t, h, now)
		wantMixed(t, h)
	}
}

func TestP13AVaultThatEndsWithoutAFallLeavesTheSame(t *testing.T) {
	h := mixed(t)
	for range 3 {
		if e := h.Open(106, well); e != api.OK {
			t.Fatalf("Open = %d", e)
		}
		wantAll(t, h, mixedInfos()...)
	}
}

func TestP13NamesThatWereUsedStayUsed(t *testing.T) {
	h := open(t, 100)
	mustCreate(t, h, "t0", "t1")
	mustCreate(t, h, "t0", "t2")
	mustIssue(t, h, "t0", "a", 1, 1, "l1")
	mustIssue(t, h, "t2", "a", 1, 1, "l2")
	mustRevokeToken(t, h, "t2")
	tick(t, h, 101, 0, "l2 t2 l1")
	reopen(t, h, 101)
	wantAll(t, h, token("t0", ""), token("t1", "t0"))
	for _, id := range []string{"t2", "l1", "l2"} {
		wantUnknown(t, h, id)
	}
	mustCreate(t, h, "t0", "t3")
	mustIssue(t, h, "t0", "a", 1, 1, "l3")
}

func TestP13TheLastIsKept(t *testing.T) {
	h := open(t, 100)
	mustIssue(t, h, "t0", "a", 10, 20, "l1")
	reopen(t, h, 105)
	mustRenew(t, h, "l1", 7, 112)
	reopen(t, h, 106)
	mustRenew(t, h, "l1", api.Never, 120)
	reopen(t, h, 119)
	wantAll(t, h, token("t0", ""), lease("l1", 120, "t0", "a"))
	mustRenew(t, h, "l1", api.Never, 120)
}

func TestP13FailuresAreKept(t *testing.T) {
	h := open(t, 100)
	mustCreate(t, h, "t0", "t1")
	mustIssue(t, h, "t1", "a", 9, 9, "l1")
	mustRevokeToken(t, h, "t1")
	at := uint64(100)
	for i, next := range []uint64{102, 106, 114, 130, 162, 194, 226} {
		tick(t, h, at, 1, "l1")
		reopen(t, h, at)
		wantAll(t, h, token("t0", ""), pending(token("t1", "t0"), 100, 0), pending(lease("l1", 0, "t1", "a"), next, i+1))
		tick(t, h, next-1, 0, "")
		at = next
	}
	tick(t, h, at, 0, "l1 t1")
	reopen(t, h, at)
	wantAll(t, h, token("t0", ""))
}

// wantTime: which time is it? A lease that is issued tells.
func wantTime(t *testing.T, h *plain.Host, want uint64) {
	t.Helper()
	id, e := h.Issue("t0", "time", 1, 1, well)
	if e != api.OK {
		t.Fatalf("Issue = %d", e)
	}
	if at := infoOf(t, h, id).At; at != want+1 {
		t.Errorf("P13: the time is %d, want %d", at-1, want)
	}
}

func TestP13TheTime(t *testing.T) {
	turns := []func(h *plain.Host) api.Errno{
		func(h *plain.Host) api.Errno { _, e := h.CreateToken("t0", well); return e },
		func(h *plain.Host) api.Errno { _, e := h.Issue("t0", "new", 9, 9, well); return e },
		func(h *plain.Host) api.Errno { _, e := h.Renew("l4", 90, well); return e },
		func(h *plain.Host) api.Errno { return h.Revoke("l4", well) },
		func(h *plain.Host) api.Errno { _, e := h.RevokePrefix("a", well); return e },
		func(h *plain.Host) api.Errno { return h.RevokeToken("t1", well) },
		func(h *plain.Host) api.Errno { _, e := h.Tick(120, 0, well); return e },
		func(h *plain.Host) api.Errno { _, e := h.Tick(120, allFail, well); return e },
	}
	for i, turn := range turns {
		for _, c := range []struct{ now, want uint64 }{{0, 120}, {119, 120}, {120, 120}, {121, 121}} {
			h := mixed(t)
			reopen(t, h, 120)
			if e := turn(h); e != api.OK {
				t.Fatalf("row %d: %d", i, e)
			}
			reopen(t, h, c.now)
			wantTime(t, h, c.want)
		}
	}
}

func TestP13ATimeAtWhichNothingTurnedIsNotKept(t *testing.T) {
	h := open(t, 100)
	mustIssue(t, h, "t0", "a", 50, 50, "l1")
	tick(t, h, 130, 0, "")
	mustRenew(t, h, "l1", 1, 150)
	if n, e := h.RevokePrefix("b", well); n != 0 || e != api.OK {
		t.Errorf("RevokePrefix = %d, %d", n, e)
	}
	reopen(t, h, 0)
	wantTime(t, h, 100)
	reopen(t, h, 149)
	reopen(t, h, 110)
	wantTime(t, h, 110)
}

func TestP13WhatTheTimeEndedIsPending(t *testing.T) {
	h := open(t, 100)
	mustIssue(t, h, "t0", "a", 10, 20, "l1")
	reopen(t, h, 110)
	wantLive(t, h, "l1", false)
	reopen(t, h, 109)
	wantLive(t, h, "l1", true)
	reopen(t, h, 110)
	mustCreate(t, h, "t0", "t1")
	reopen(t, h, 109)
	wantLive(t, h, "l1", false)
	tick(t, h, 110, 0, "l1")
}

func TestP13GreatNumbersAreKept(t *testing.T) {
	h := open(t, api.Never-40)
	longest := "a-0/9z/abcdefghijklmnopq"
	mustIssue(t, h, "t0", longest, 2, api.Never, "l1")
	mustIssue(t, h, "t0", "a", api.Never, api.Never, "l2")
	reopen(t, h, 0)
	wantAll(t, h, token("t0", ""), lease("l1", api.Never-38, "t0", longest), lease("l2", api.Never, "t0", "a"))
	mustRenew(t, h, "l1", api.Never, api.Never)
	tick(t, h, api.Never, allFail, "l1 l2")
	reopen(t, h, 0)
	wantAll(t, h, token("t0", ""), pending(lease("l1", 0, "t0", longest), api.Never, 1), pending(lease("l2", 0, "t0", "a"), api.Never, 1))
	wantRefusals(t, h, []refusal{{"t0", "a", 1, 1, api.ErrTime}})
}

func TestP13AFullVaultIsKept(t *testing.T) {
	h := open(t, 100)
	fillTokens(t, h)
	fillLeases(t, h)
	want := all(t, h)
	reopen(t, h, 100)
	wantAll(t, h, want...)
	if id, e := h.CreateToken("t0", well); id != "" || e != api.ErrMany {
		t.Errorf("P4: %q, %d", id, e)
	}
	wantRefusals(t, h, []refusal{{"t0", "a", 1, 1, api.ErrMany}})
}

func TestP2VaultsOverTwoDisksAreApart(t *testing.T) {
	one, other := mixed(t), open(t, 100)
	reopen(t, other, 100)
	wantAll(t, other, token("t0", ""))
	mustCreate(t, other, "t0", "t1")
	reopen(t, one, 106)
	wantAll(t, one, mixedInfos()...)
}

var errOdd = errors.New("odd")

// turning: calls of a vault as mixed has it, each of which would turn something.
func turning() map[string]func(v *leasekeeper.Vault) (string, error) {
	return map[string]func(v *leasekeeper.Vault) (string, error){
		"CreateToken": func(v *leasekeeper.Vault) (string, error) { return v.CreateToken("t3") },
		"Issue":       func(v *leasekeeper.Vault) (string, error) { return v.Issue("t3", "new", 9, 9) },
		"Renew": func(v *leasekeeper.Vault) (string, error) {
			at, err := v.Renew("l4", 99)
			return nonzero(at), err
		},
		"Revoke": func(v *leasekeeper.Vault) (string, error) { return "", v.Revoke("l4") },
		"RevokePrefix": func(v *leasekeeper.Vault) (string, error) {
			n, err := v.RevokePrefix("a")
			return nonzero(n), err
		},
		"RevokeToken": func(v *leasekeeper.Vault) (string, error) { return "", v.RevokeToken("t1") },
		"Tick":        func(v *leasekeeper.Vault) (string, error) { return "", v.Tick(106) },
	}
}

func nonzero[N int | uint64](n N) string {
	if n == 0 {
		return ""
	}
	return fmt.Sprint(n)
}

// mixedVault is as mixed has it, over a disk that counts and a revoker that fails, and tells what was tried.
func mixedVault(t *testing.T) (v *leasekeeper.Vault, d *counted, tried *[]string) {
	t.Helper()
	d, tried = newCounted(), &[]string{}
	v, err := leasekeeper.Open(d, asking(func(id string) bool {
		*tried = append(*tried, id)
		return id == "l5"
	}), 100)
	if err != nil {
		t.Fatal(err)
	}
	for _, parent := range []string{"t0", "t1", "t2", "t1"} {
		v.CreateToken(parent)
	}
	v.Issue("t1", "a", 50, 90)
	v.Issue("t2", "a/b", 5, 5)
	v.Issue("t0", "b", 50, 70)
	v.Issue("t3", "a/b/c", 40, api.Never)
	v.Issue("t0", "c", 3, 3)
	v.RevokeToken("t4")
	v.Tick(106)
	v.Revoke("l3")
	wantVault(t, v, mixedInfos()...)
	*tried = nil
	return v, d, tried
}

func wantVault(t *testing.T, v *leasekeeper.Vault, want ...api.Info) {
	t.Helper()
	if got := slices.Collect(v.All()); !slices.Equal(got, want) {
		t.Errorf("All:\n%v, want\n%v", got, want)
	}
}

// wantQuiet: calls that turn nothing are as ever.
func wantQuiet(t *testing.T, v *leasekeeper.Vault) {
	t.Helper()
	for i, c := range []struct {
		do   func() (string, error)
		want string
		err  error
	}{
		{func() (string, error) { return v.CreateToken("t9") }, "", api.ErrToken},
		{func() (string, error) { return v.CreateToken("t4") }, "", api.ErrToken},
		{func() (string, error) { return v.Issue("t4", "a", 1, 1) }, "", api.ErrToken},
		{func() (string, error) { return v.Issue("t0", "A", 1, 1) }, "", api.ErrPath},
		{func() (string, error) { return v.Issue("t0", "a", 2, 1) }, "", api.ErrTime},
		{func() (string, error) { at, err := v.Renew("l4", 34); return nonzero(at), err }, "140", nil},
		{func() (string, error) { at, err := v.Renew("l1", 0); return nonzero(at), err }, "150", nil},
		{func() (string, error) { at, err := v.Renew("l3", 99); return nonzero(at), err }, "", api.ErrLease},
		{func() (string, error) { return "", v.Revoke("l3") }, "", nil},
		{func() (string, error) { return "", v.Revoke("l5") }, "", api.ErrLease},
		{func() (string, error) { n, err := v.RevokePrefix("b"); return nonzero(n), err }, "", nil},
		{func() (string, error) { n, err := v.RevokePrefix("/"); return nonzero(n), err }, "", api.ErrPath},
		{func() (string, error) { return "", v.RevokeToken("t4") }, "", nil},
		{func() (string, error) { return "", v.RevokeToken("t0") }, "", api.ErrToken},
	} {
		if got, err := c.do(); got != c.want || err != c.err {
			t.Errorf("P14: row %d: %q, %v, want %q, %v", i, got, err, c.want, c.err)
		}
	}
	if !v.Authorize("l1", "a") || v.Authorize("l3", "b") || v.Next() != 106 {
		t.Error("P14: Authorize, or Next")
	}
	wantVault(t, v, mixedInfos()...)
}

func TestP14WhatTurnsNothingDoesNotWrite(t *testing.T) {
	v, d, _ := mixedVault(t)
	d.left, d.err, d.writes = 0, errOdd, 0
	wantQuiet(t, v)
	if d.writes != 0 {
		t.Errorf("%d calls that write", d.writes)
	}
}

func TestP14ATickThatTriesNothingDoesNotWrite(t *testing.T) {
	d := newCounted()
	v, _ := leasekeeper.Open(d, willing{}, 100)
	v.CreateToken("t0")
	v.Issue("t1", "a", 5, 5)
	d.left, d.err, d.writes = 0, errOdd, 0
	for _, now := range []uint64{100, 104, 0} {
		if err := v.Tick(now); err != nil || d.writes != 0 {
			t.Errorf("Tick(%d) = %v, %d calls that write", now, err, d.writes)
		}
	}
	if err := v.Tick(105); err != errOdd {
		t.Errorf("Tick = %v", err)
	}
}

func TestP14AnErrorOfTheDisk(t *testing.T) {
	for name, turn := range turning() {
		for left := range 2 {
			v, d, tried := mixedVault(t)
			d.left, d.err = left, errOdd
			if got, err := turn(v); got != "" || err != errOdd {
				t.Errorf("%s = %q, %v", name, got, err)
			}
			wantVault(t, v, mixedInfos()...)
			*tried = nil
			d.left, d.writes = -1, 0
			for other, turn := range turning() {
				if got, err := turn(v); got != "" || err != errOdd {
					t.Errorf("behind %s: %s = %q, %v", name, other, got, err)
				}
			}
			if err := v.Compact(); err != errOdd {
				t.Errorf("behind %s: Compact = %v", name, err)
			}
			wantQuiet(t, v)
			if d.writes != 0 || len(*tried) != 0 {
				t.Errorf("behind %s: %d calls that write, tried: %v", name, d.writes, *tried)
			}
		}
	}
}

func TestP14BehindAnErrorATickTurnsTheTimeAlone(t *testing.T) {
	d := newCounted()
	v, _ := leasekeeper.Open(d, willing{}, 100)
	v.Issue("t0", "a", 5, 5)
	d.left, d.err = 0, errOdd
	v.CreateToken("t0")
	if err := v.Tick(104); err != nil || !v.Authorize("l1", "a") {
		t.Errorf("P14: a Tick at which nothing is due = %v", err)
	}
	for range 2 {
		if err := v.Tick(105); err != errOdd || v.Authorize("l1", "a") {
			t.Errorf("P14: a Tick at which something is due = %v", err)
		}
	}
	wantVault(t, v, token("t0", ""), pending(lease("l1", 0, "t0", "a"), 105, 0))
}

func TestP14TheTickThatMeetsTheErrorTurnsTheTime(t *testing.T) {
	v, d, tried := mixedVault(t)
	d.left, d.err = 2, errOdd
	if err := v.Tick(145); err != errOdd {
		t.Errorf("Tick = %v", err)
	}
	if want := []string{"l3", "l2"}; !slices.Equal(*tried, want) {
		t.Errorf("tried: %v", *tried)
	}
	want := mixedInfos()
	want[7].At, want[7].Tries, want[8].State = 147, 1, api.Pending
	wantVault(t, v, want...)
	if v.Authorize("l4", "a/b/c") {
		t.Error("P14: the time did not turn")
	}
}

func TestP14ErrorsAreSaidAsTheDiskSaysThem(t *testing.T) {
	for _, err := range []error{api.ErrFull, api.ErrDown, api.ErrNone, api.Errno(77), errOdd, fmt.Errorf("within: %w", api.ErrNone)} {
		d := newCounted()
		v, _ := leasekeeper.Open(d, willing{}, 100)
		d.left, d.err = 0, err
		if id, got := v.CreateToken("t0"); id != "" || got != err {
			t.Errorf("CreateToken = %q, %v, want %v", id, got, err)
		}
		if v, got := leasekeeper.Open(d, willing{}, 100); v != nil || got != err {
			t.Errorf("Open = %v, %v, want %v", v != nil, got, err)
		}
	}
}

func TestP14OverAnEmptyDiskOpenDoesNotWrite(t *testing.T) {
	d := newCounted()
	d.left, d.err = 0, errOdd
	if v, err := leasekeeper.Open(d, willing{}, 100); v == nil || err != nil || d.writes != 0 {
		t.Errorf("Open = %v, %v, %d calls that write", v != nil, err, d.writes)
	}
}

func TestP14ARevokerThatMeetsTheError(t *testing.T) {
	d := newCounted()
	var v *leasekeeper.Vault
	v, _ = leasekeeper.Open(d, asking(func(string) bool {
		d.left, d.err = 0, errOdd
		if _, err := v.CreateToken("t0"); err != errOdd {
			t.Errorf("CreateToken = %v", err)
		}
		d.left = -1
		if err := v.Tick(110); err != errOdd {
			t.Errorf("a Tick within a Tick = %v", err)
		}
		return true
	}), 100)
	v.Issue("t0", "a", 5, 5)
	if err := v.Tick(105); err != errOdd {
		t.Errorf("Tick = %v", err)
	}
	wantVault(t, v, token("t0", ""), pending(lease("l1", 0, "t0", "a"), 105, 0))
}

// TestP15AllOrNothing: each call is torn at each byte of what it writes.
func TestP15AllOrNothing(t *testing.T) {
	turns := map[string]func(h *plain.Host, f plain.Fall) api.Errno{
		"CreateToken":  func(h *plain.Host, f plain.Fall) api.Errno { _, e := h.CreateToken("t3", f); return e },
		"Issue":        func(h *plain.Host, f plain.Fall) api.Errno { _, e := h.Issue("t3", "new", 9, 9, f); return e },
		"Renew":        func(h *plain.Host, f plain.Fall) api.Errno { _, e := h.Renew("l4", 99, f); return e },
		"Revoke":       func(h *plain.Host, f plain.Fall) api.Errno { return h.Revoke("l4", f) },
		"RevokePrefix": func(h *plain.Host, f plain.Fall) api.Errno { _, e := h.RevokePrefix("", f); return e },
		"RevokeToken":  func(h *plain.Host, f plain.Fall) api.Errno { return h.RevokeToken("t1", f) },
		"Tick":         func(h *plain.Host, f plain.Fall) api.Errno { _, e := h.Tick(106, 0, f); return e },
	}
	for name, turn := range turns {
		h := mixed(t)
		before := h.Size()
		turn(h, well)
		whole, length := all(t, h), h.Size()-before
		seen := 0
		// By plain.Fall an even Part tears the one Append, behind Part/7 bytes.
		for part := 0; part < 7*(length+1); part += 2 {
			h := mixed(t)
			if e := turn(h, plain.Fall{Left: 1, Full: -1, Kept: 1, Part: part}); e != api.ErrDown || h.Is() {
				t.Fatalf("%s = %d", name, e)
			}
			reopen(t, h, 106)
			want := mixedInfos()
			if slices.Equal(all(t, h), whole) {
				want = whole
				seen++
			}
			wantAll(t, h, want...)
			mustIssue(t, h, "t0", "z", 1, 1, nextLease(t, h))
			want = all(t, h)
			reopen(t, h, 106)
			wantAll(t, h, want...)
		}
		if seen == 0 || seen > 4 {
			t.Errorf("%s counts at %d lengths", name, seen)
		}
	}
}

// nextLease is the name of the next lease, of a vault as mixed has it: l6 is used if it is there.
func nextLease(t *testing.T, h *plain.Host) string {
	t.Helper()
	list := all(t, h)
	if list[len(list)-1].Id == "l6" {
		return "l7"
	}
	return "l6"
}

func TestP15WhatCountsOnceCountsForGood(t *testing.T) {
	h := mixed(t)
	if e := h.RevokeToken("t1", plain.Fall{Left: -1, Full: 1}); e != api.ErrFull || !h.Is() {
		t.Fatalf("RevokeToken = %d", e)
	}
	wantAll(t, h, mixedInfos()...)
	if e := h.Open(106, well); e != api.OK {
		t.Fatalf("Open = %d", e)
	}
	want := all(t, h)
	reopen(t, h, 106)
	wantAll(t, h, want...)
}

func TestP15EachTryIsDurableAheadOfTheNext(t *testing.T) {
	l1, l2, l3, l4 := lease("l1", 104, "t0", "a"), lease("l2", 103, "t0", "a"), lease("l3", 102, "t0", "a"), lease("l4", 101, "t0", "a")
	failed2, failed3 := pending(l2, 112, 1), pending(l3, 112, 1)
	// What is left when so many tries count. (Behind one it is 110, at which time the others are over.)
	wants := [][]api.Info{
		{l1, l2, l3, l4},
		{pending(l1, 104, 0), pending(l2, 103, 0), pending(l3, 102, 0)},
		{pending(l1, 104, 0), pending(l2, 103, 0), failed3},
		{pending(l1, 104, 0), failed2, failed3},
		{failed2, failed3},
	}
	for left := range 8 {
		for kept := range 2 {
			h := open(t, 100)
			for i := range uint64(4) {
				mustIssue(t, h, "t0", "a", 4-i, 4, fmt.Sprint("l", i+1))
			}
			tried, e := h.Tick(110, 0b0110, plain.Fall{Left: left, Full: -1, Kept: kept, Part: 1})
			want := []string{"l4", "l3", "l2", "l1"}[:left/2+1]
			if !slices.Equal(tried, want) || e != api.ErrDown {
				t.Errorf("behind %d: tried %v, %d", left, tried, e)
			}
			reopen(t, h, 100)
			wantAll(t, h, append([]api.Info{token("t0", "")}, wants[left/2+kept]...)...)
		}
	}
}
