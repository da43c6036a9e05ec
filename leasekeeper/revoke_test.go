package leasekeeper_test

import (
	"fmt"
	"strings"
	"testing"

	"leasekeeper/api"
	"leasekeeper/leasekeeper"
	"leasekeeper/plain"
)

func TestP8Revoke(t *testing.T) {
	h := open(t, 100)
	mustIssue(t, h, "t0", "a", 10, 20, "l1")
	mustIssue(t, h, "t0", "a", 10, 20, "l2")
	tick(t, h, 104, 0, "")
	mustRevoke(t, h, "l1")
	wantAll(t, h, token("t0", ""), pending(lease("l1", 0, "t0", "a"), 104, 0), lease("l2", 110, "t0", "a"))
}

func TestP8RevokeOfWhatIsPendingTurnsNothing(t *testing.T) {
	h := open(t, 100)
	mustIssue(t, h, "t0", "a", 10, 20, "l1")
	mustIssue(t, h, "t0", "a", 2, 20, "l2")
	mustRevoke(t, h, "l1")
	tick(t, h, 102, allFail, "l1 l2")
	tick(t, h, 103, 0, "")
	before := all(t, h)
	mustRevoke(t, h, "l1")
	mustRevoke(t, h, "l2")
	wantAll(t, h, before...)
}

func TestP8RevokeOfNoLease(t *testing.T) {
	h := open(t, 100)
	mustCreate(t, h, "t0", "t1")
	mustIssue(t, h, "t0", "a", 5, 9, "l1")
	before := all(t, h)
	for _, id := range []string{"", "l", "l0", "l2", "l01", "L1", "t0", "t1", "l1 ", "a", "1"} {
		if e := h.Revoke(id, well); e != api.ErrLease {
			t.Errorf("Revoke(%q) = %d", id, e)
		}
	}
	wantAll(t, h, before...)
}

// prefixPaths are those of l1 to l7.
func prefixPaths() []string {
	return []string{"a", "a/b", "ab", "a-b", "a/b/c", "b/a", strings.Repeat("x", 24)}
}

func openPrefixes(t *testing.T) *plain.Host {
	h := open(t, 100)
	mustCreate(t, h, "t0", "t1")
	for i, path := range prefixPaths() {
		mustIssue(t, h, fmt.Sprint("t", i%2), path, 50, 50, fmt.Sprint("l", i+1))
	}
	tick(t, h, 103, 0, "")
	return h
}

func TestP8RevokePrefix(t *testing.T) {
	for prefix, want := range map[string]string{
		"a": "l1 l2 l5", "a/b": "l2 l5", "a/b/c": "l5", "a/b/c/d": "", "ab": "l3", "a-b": "l4", "a-": "", "b": "l6", "b/a": "l6", "c": "", "-": "",
		strings.Repeat("x", 24): "l7", strings.Repeat("x", 23): "",
		"": "l1 l2 l3 l4 l5 l6 l7",
	} {
		h := openPrefixes(t)
		ids := strings.Fields(want)
		if n, e := h.RevokePrefix(prefix, well); n != len(ids) || e != api.OK {
			t.Errorf("RevokePrefix(%q) = %d, %d", prefix, n, e)
		}
		for _, info := range all(t, h)[2:] {
			state, at := api.Live, uint64(150)
			if strings.Contains(want, info.Id) {
				state, at = api.Pending, 103
			}
			if info.State != state || info.At != at {
				t.Errorf("RevokePrefix(%q): %v", prefix, info)
			}
		}
		tick(t, h, 103, allFail, want)
	}
}

func TestP8RevokePrefixTurnsWhatIsLiveAlone(t *testing.T) {
	h := openPrefixes(t)
	mustRevoke(t, h, "l2")
	tick(t, h, 103, allFail, "l2")
	tick(t, h, 104, 0, "")
	for _, want := range []int{2, 0} {
		if n, e := h.RevokePrefix("a", well); n != want || e != api.OK {
			t.Errorf("RevokePrefix = %d, %d, want %d", n, e, want)
		}
	}
	if info := infoOf(t, h, "l2"); info != pending(lease("l2", 0, "t1", "a/b"), 105, 1) {
		t.Errorf("l2: %v", info)
	}
	tick(t, h, 104, 0, "l1 l5")
	if n, e := h.RevokePrefix("", well); n != 4 || e != api.OK {
		t.Errorf("RevokePrefix of all = %d, %d", n, e)
	}
	if n, e := h.RevokePrefix("", well); n != 0 || e != api.OK {
		t.Errorf("RevokePrefix of all, again = %d, %d", n, e)
	}
}

func TestP8RevokePrefixOfNoPath(t *testing.T) {
	h := openPrefixes(t)
	before := all(t, h)
	for _, prefix := range []string{"/", "a/", "/a", "a//b", "A", "a b", "é", "\xff", " ", strings.Repeat("x", 25), strings.Repeat("x", 24) + "/"} {
		if n, e := h.RevokePrefix(prefix, well); n != 0 || e != api.ErrPath {
			t.Errorf("RevokePrefix(%q) = %d, %d", prefix, n, e)
		}
	}
	wantAll(t, h, before...)
}

// openTree: t1 below t0, t2 below t1, t3 below t2, t5 below t1, t4 aside; a lease each of t1, t3, t4, t0, t5.
func openTree(t *testing.T) *plain.Host {
	h := open(t, 100)
	for i, parent := range []string{"t0", "t1", "t2", "t0", "t1"} {
		mustCreate(t, h, parent, fmt.Sprint("t", i+1))
	}
	for i, above := range []string{"t1", "t3", "t4", "t0", "t5"} {
		mustIssue(t, h, above, "a", 50, 50, fmt.Sprint("l", i+1))
	}
	return h
}

func TestP9RevokeToken(t *testing.T) {
	for id, want := range map[string]string{
		"t1": "t1 t2 t3 t5 l1 l2 l5", "t2": "t2 t3 l2", "t3": "t3 l2", "t4": "t4 l3", "t5": "t5 l5",
	} {
		h := openTree(t)
		tick(t, h, 104, 0, "")
		before := all(t, h)
		for i, info := range before {
			if strings.Contains(want, info.Id) {
				before[i] = pending(info, 104, 0)
			}
		}
		for range 2 {
			mustRevokeToken(t, h, id)
			wantAll(t, h, before...)
		}
	}
}

func TestP9RevokeTokenLeavesWhatIsPending(t *testing.T) {
	h := openTree(t)
	mustRevoke(t, h, "l1")
	mustRevokeToken(t, h, "t3")
	tick(t, h, 101, allFail, "l1 l2")
	tick(t, h, 102, 0, "")
	mustRevokeToken(t, h, "t1")
	wantAll(t, h,
		token("t0", ""), pending(token("t1", "t0"), 102, 0), pending(token("t2", "t1"), 102, 0), pending(token("t3", "t2"), 100, 0), token("t4", "t0"), pending(token("t5", "t1"), 102, 0),
		pending(lease("l1", 0, "t1", "a"), 103, 1), pending(lease("l2", 0, "t3", "a"), 103, 1), lease("l3", 150, "t4", "a"), lease("l4", 150, "t0", "a"), pending(lease("l5", 0, "t5", "a"), 102, 0))
}

func TestP9RevokeTokenOfWhatIsPendingTurnsNothing(t *testing.T) {
	h := openTree(t)
	mustRevokeToken(t, h, "t1")
	tick(t, h, 101, 2, "l1 l2 l5 t5")
	tick(t, h, 102, 0, "")
	before := all(t, h)
	for _, id := range []string{"t1", "t2", "t3"} {
		mustRevokeToken(t, h, id)
	}
	wantAll(t, h, before...)
}

func TestP9RevokeTokenAtNever(t *testing.T) {
	h := open(t, api.Never)
	mustCreate(t, h, "t0", "t1")
	mustCreate(t, h, "t1", "t2")
	mustRevokeToken(t, h, "t1")
	wantAll(t, h, token("t0", ""), pending(token("t1", "t0"), api.Never, 0), pending(token("t2", "t1"), api.Never, 0))
	tick(t, h, 0, 1, "t2")
	tick(t, h, 0, 0, "t2 t1")
}

func TestP9RevokeTokenOfNoToken(t *testing.T) {
	h := openTree(t)
	before := all(t, h)
	for _, id := range []string{"", "t0", "t", "t6", "t00", "t01", "T1", "l1", "l6", "t1 ", " t1", "1", "t18446744073709551617"} {
		if e := h.RevokeToken(id, well); e != api.ErrToken {
			t.Errorf("RevokeToken(%q) = %d", id, e)
		}
	}
	wantAll(t, h, before...)
}

// A lease that the time has ended, but that was not tried yet, is to be seen by the revoker alone.
func TestP8P9ALeaseThatTheTimeEndedIsNotRevokedAnew(t *testing.T) {
	var v *leasekeeper.Vault
	v = openVault(t, asking(func(id string) bool {
		if id != "l1" {
			return true
		}
		if n, err := v.RevokePrefix(""); n != 0 || err != nil {
			t.Errorf("RevokePrefix = %d, %v", n, err)
		}
		if one, all := v.Revoke("l2"), v.RevokeToken("t1"); one != nil || all != nil {
			t.Errorf("Revoke = %v, RevokeToken = %v", one, all)
		}
		if at, err := v.Renew("l2", 99); at != 0 || err != api.ErrLease || v.Authorize("l2", "a") {
			t.Errorf("Renew = %d, %v", at, err)
		}
		for info := range v.All() {
			if want := pending(lease("l2", 0, "t1", "a"), 105, 0); info.Id == "l2" && info != want {
				t.Errorf("l2: %v", info)
			}
		}
		return true
	}))
	v.CreateToken("t0")
	v.Issue("t1", "a", 5, 50)
	v.Issue("t1", "a", 5, 50)
	if err := v.Tick(110); err != nil {
		t.Errorf("Tick = %v", err)
	}
	if got := ids(v.All()); got != "t0" {
		t.Errorf("left: %s", got)
	}
}
