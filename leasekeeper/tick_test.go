package leasekeeper_test

import (
	"fmt"
	"strings"
	"testing"

	"leasekeeper/api"
	"leasekeeper/leasekeeper"
)

func TestExamples(t *testing.T) {
	h := open(t, 100)
	mustIssue(t, h, "t0", "a/b", 10, 20, "l1")
	mustRenew(t, h, "l1", 15, 115)
	mustRenew(t, h, "l1", 10, 115)
	mustRenew(t, h, "l1", 99, 120)
	if !h.Authorize("l1", "a/b") || h.Authorize("l1", "a") {
		t.Error("Authorize")
	}
	wantRefusals(t, h, []refusal{{"t0", "a/", 1, 1, api.ErrPath}, {"t0", "a", 6, 5, api.ErrTime}})
	if n, e := h.RevokePrefix("a", well); n != 1 || e != api.OK {
		t.Errorf("RevokePrefix = %d, %d", n, e)
	}
	wantAll(t, h, token("t0", ""), pending(lease("l1", 0, "t0", "a/b"), 100, 0))
	at := uint64(100)
	for i, next := range []uint64{102, 106, 114, 130, 162, 194, 226} {
		tick(t, h, at, 1, "l1")
		wantAll(t, h, token("t0", ""), pending(lease("l1", 0, "t0", "a/b"), next, i+1))
		at = next
	}
}

func TestExampleOfTokensBelowTokens(t *testing.T) {
	h := openTree(t)
	mustRevokeToken(t, h, "t1")
	tick(t, h, 101, 2, "l1 l2 l5 t5")
	tick(t, h, 103, 0, "l2 t3 t2 t1")
	wantAll(t, h, token("t0", ""), token("t4", "t0"), lease("l3", 150, "t4", "a"), lease("l4", 150, "t0", "a"))
}

func TestP10TheTimeNeverGoesBack(t *testing.T) {
	h := open(t, 100)
	tick(t, h, 120, 0, "")
	for _, now := range []uint64{119, 0, 120} {
		tick(t, h, now, 0, "")
		mustIssue(t, h, "t0", "a", 5, 5, fmt.Sprint("l", len(all(t, h))))
	}
	for _, info := range all(t, h)[1:] {
		if info.At != 125 {
			t.Errorf("issued at 120: %v", info)
		}
	}
	tick(t, h, 124, 0, "")
	tick(t, h, 99, 0, "")
	tick(t, h, 125, 0, "l1 l2 l3")
}

func TestP10TheTimeTurnsThoughNothingIsDue(t *testing.T) {
	h := open(t, 100)
	tick(t, h, api.Never, 0, "")
	wantRefusals(t, h, []refusal{{"t0", "a", 1, 1, api.ErrTime}})
	wantAll(t, h, token("t0", ""))
}

func TestP10WhatIsNotDueIsNotTried(t *testing.T) {
	h := open(t, 100)
	mustCreate(t, h, "t0", "t1")
	mustIssue(t, h, "t1", "a", 10, 20, "l1")
	tick(t, h, 109, 0, "")
	mustRenew(t, h, "l1", 5, 114)
	tick(t, h, 113, 0, "")
	tick(t, h, 114, 0, "l1")
	tick(t, h, api.Never, 0, "")
	wantAll(t, h, token("t0", ""), token("t1", "t0"))
}

func TestP10TheLeastAtIsFirst(t *testing.T) {
	h := open(t, 100)
	for i, ttl := range []uint64{9, 3, 7, 3, 1, 8, 2, 9, 5, 4, 11, 6, 10, 1} {
		mustIssue(t, h, "t0", "a", ttl, ttl, fmt.Sprint("l", i+1))
	}
	tick(t, h, 110, 0, "l5 l14 l7 l2 l4 l10 l9 l12 l3 l6 l1 l8 l13")
	tick(t, h, 111, 0, "l11")
}

func TestP10OfOneAtLeasesGoAheadOfTokensThenLowerNumbers(t *testing.T) {
	h := open(t, 100)
	fillTokens(t, h)
	fillLeases(t, h)
	for i := 9; i > 0; i-- {
		mustRevokeToken(t, h, fmt.Sprint("t", i))
	}
	h.RevokePrefix("", well)
	tick(t, h, 100, 0, "l1 l2 l3 l4 l5 l6 l7 l8 l9 l10 l11 l12 l13 l14 t1 t2 t3 t4 t5 t6 t7 t8 t9")
}

func TestP10NumbersAreNotOrderedAsTexts(t *testing.T) {
	h := open(t, 100)
	for i := 1; i <= 12; i++ {
		mustCreate(t, h, "t0", fmt.Sprint("t", i))
		if i < 9 {
			mustRevokeToken(t, h, fmt.Sprint("t", i))
			tick(t, h, 100, 0, fmt.Sprint("t", i))
		}
	}
	for _, id := range []string{"t12", "t10", "t9", "t11"} {
		mustRevokeToken(t, h, id)
	}
	tick(t, h, 100, 0, "t9 t10 t11 t12")
}

func TestP10AnEarlierTokenGoesAheadOfALaterLease(t *testing.T) {
	h := open(t, 100)
	mustCreate(t, h, "t0", "t1")
	mustIssue(t, h, "t0", "a", 5, 5, "l1")
	mustIssue(t, h, "t0", "a", 4, 4, "l2")
	tick(t, h, 103, 0, "")
	mustRevokeToken(t, h, "t1")
	tick(t, h, 105, 0, "t1 l2 l1")
}

func TestP10ATokenWaitsForWhatIsRightBelowIt(t *testing.T) {
	h := open(t, 100)
	mustCreate(t, h, "t0", "t1")
	mustCreate(t, h, "t1", "t2")
	mustIssue(t, h, "t1", "a", 50, 50, "l1")
	mustRevokeToken(t, h, "t1")
	tick(t, h, 100, 1, "l1 t2")
	tick(t, h, 101, 0, "")
	tick(t, h, 102, 1, "l1")
	tick(t, h, 106, 0, "l1 t1")
	wantAll(t, h, token("t0", ""))
}

func TestP10WhatBecomesDueByATryIsTriedInItsOrder(t *testing.T) {
	h := open(t, 100)
	mustCreate(t, h, "t0", "t1")
	mustCreate(t, h, "t1", "t2")
	mustIssue(t, h, "t2", "a", 50, 50, "l1")
	mustIssue(t, h, "t0", "a", 1, 1, "l2")
	mustIssue(t, h, "t0", "a", 5, 5, "l3")
	mustRevokeToken(t, h, "t1")
	tick(t, h, 105, 0, "l1 t2 t1 l2 l3")
}

func TestP10WhatBecomesDueByALateTryIsTriedBehindIt(t *testing.T) {
	h := open(t, 100)
	mustCreate(t, h, "t0", "t1")
	mustIssue(t, h, "t1", "a", 50, 50, "l1")
	mustIssue(t, h, "t0", "a", 3, 3, "l2")
	mustIssue(t, h, "t0", "a", 4, 4, "l3")
	mustRevokeToken(t, h, "t1")
	tick(t, h, 100, 1, "l1")
	tick(t, h, 102, 1, "l1")
	tick(t, h, 106, 0, "l2 l3 l1 t1")
}

func TestP10EachIsTriedOnceInATick(t *testing.T) {
	h := open(t, 100)
	mustCreate(t, h, "t0", "t1")
	mustIssue(t, h, "t0", "a", 5, 5, "l1")
	mustRevokeToken(t, h, "t1")
	for tries := 1; tries <= 70; tries++ {
		want := "t1 l1"
		if tries > 1 {
			want = "l1 t1"
		}
		tick(t, h, api.Never, allFail, want)
		wantAll(t, h, token("t0", ""), pending(token("t1", "t0"), api.Never, tries), pending(lease("l1", 0, "t0", "a"), api.Never, tries))
	}
}

func TestP11EachHasFailuresOfItsOwn(t *testing.T) {
	h := open(t, 100)
	mustIssue(t, h, "t0", "a", 5, 5, "l1")
	mustIssue(t, h, "t0", "a", 8, 8, "l2")
	tick(t, h, 105, 1, "l1")
	tick(t, h, 108, 3, "l1 l2")
	wantAll(t, h, token("t0", ""), pending(lease("l1", 0, "t0", "a"), 112, 2), pending(lease("l2", 0, "t0", "a"), 110, 1))
	tick(t, h, 112, 2, "l2 l1")
	wantAll(t, h, token("t0", ""), pending(lease("l1", 0, "t0", "a"), 120, 3))
}

func TestP11TheWaitGoesByTheTimeNotByTheAt(t *testing.T) {
	h := open(t, 100)
	mustIssue(t, h, "t0", "a", 5, 5, "l1")
	tick(t, h, 150, 1, "l1")
	wantAll(t, h, token("t0", ""), pending(lease("l1", 0, "t0", "a"), 152, 1))
	tick(t, h, 200, 1, "l1")
	wantAll(t, h, token("t0", ""), pending(lease("l1", 0, "t0", "a"), 204, 2))
	tick(t, h, 150, 0, "")
}

func TestP11TokensWaitLikeLeases(t *testing.T) {
	h := open(t, 100)
	mustCreate(t, h, "t0", "t1")
	mustRevokeToken(t, h, "t1")
	at := uint64(100)
	waits := []uint64{2, 4, 8, 16}
	for i := range 80 {
		tick(t, h, at, 1, "t1")
		if i < len(waits) {
			at += waits[i]
		} else {
			at += 32
		}
		wantAll(t, h, token("t0", ""), pending(token("t1", "t0"), at, i+1))
		tick(t, h, at-1, 0, "")
	}
	tick(t, h, at, 0, "t1")
	wantAll(t, h, token("t0", ""))
}

func TestP11WaitsEndAtNever(t *testing.T) {
	for back := range uint64(4) {
		h := open(t, 100)
		mustIssue(t, h, "t0", "a", 5, 5, "l1")
		tick(t, h, api.Never-back, 1, "l1")
		want := uint64(api.Never)
		if back > 2 {
			want = api.Never - back + 2
		}
		wantAll(t, h, token("t0", ""), pending(lease("l1", 0, "t0", "a"), want, 1))
	}
}

func TestP1ARevokerMayAskForATick(t *testing.T) {
	var v *leasekeeper.Vault
	var tried []string
	v = openVault(t, asking(func(id string) bool {
		tried = append(tried, id)
		if err := v.Tick(200); err != nil {
			t.Errorf("a Tick within a Tick = %v", err)
		}
		return id != "l1"
	}))
	v.CreateToken("t0")
	v.Issue("t1", "a", 5, 5)
	v.Issue("t0", "a", 6, 6)
	v.RevokeToken("t1")
	v.Tick(106)
	if got := strings.Join(tried, " "); got != "l1 l2" {
		t.Errorf("tried: %s", got)
	}
	var last api.Info
	for last = range v.All() {
	}
	if want := pending(lease("l1", 0, "t1", "a"), 202, 1); last != want {
		t.Errorf("left: %v, want %v", last, want)
	}
}

func TestP1ARevokerMayAddAndRevokeWithoutEnd(t *testing.T) {
	var v *leasekeeper.Vault
	tries := 0
	v = openVault(t, asking(func(string) bool {
		tries++
		lease, _ := v.Issue("t0", "a", 5, 5)
		token, _ := v.CreateToken("t0")
		v.Revoke(lease)
		v.RevokeToken(token)
		return true
	}))
	v.Issue("t0", "a", 1, 1)
	v.Tick(101)
	if tries != 1 {
		t.Errorf("%d tries", tries)
	}
	v.Tick(101)
	if tries != 3 {
		t.Errorf("%d tries", tries)
	}
}

func TestAVaultGoesOnBehindARevokerThatPanics(t *testing.T) {
	bad := true
	var tried []string
	v := openVault(t, asking(func(id string) bool {
		tried = append(tried, id)
		if bad {
			panic(id)
		}
		return true
	}))
	v.Issue("t0", "a", 1, 1)
	v.Issue("t0", "a", 2, 2)
	func() {
		defer func() {
			if got := recover(); got != "l1" {
				t.Errorf("the revoker's panic = %v", got)
			}
		}()
		v.Tick(102)
	}()
	bad = false
	v.Tick(102)
	if got := strings.Join(tried, " "); got != "l1 l1 l2" {
		t.Errorf("tried: %s", got)
	}
}
