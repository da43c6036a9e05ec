package leasekeeper_test

import (
	"fmt"
	"slices"
	"strings"
	"testing"

	"leasekeeper/api"
	"leasekeeper/leasekeeper"
	"leasekeeper/plain"
)

func mustCompact(t *testing.T, h *plain.Host) {
	t.Helper()
	if e := h.Compact(well); e != api.OK || !h.Is() {
		t.Fatalf("P16: Compact = %d", e)
	}
	wantRoom(t, h)
}

func TestP16NothingElseTurns(t *testing.T) {
	h := mixed(t)
	for _, now := range []uint64{106, 0, 107, 106} {
		mustCompact(t, h)
		wantMixed(t, h)
		reopen(t, h, now)
		wantMixed(t, h)
	}
}

// TestP16CallsGoOnBehindIt: what is done then is durable, too.
func TestP16CallsGoOnBehindIt(t *testing.T) {
	h := mixed(t)
	mustCompact(t, h)
	mustCreate(t, h, "t3", "t5")
	mustIssue(t, h, "t5", "d", 9, 9, "l6")
	mustRenew(t, h, "l4", 99, 205)
	mustRevoke(t, h, "l1")
	tick(t, h, 108, 1, "l1 l3 l2 t4")
	want := []api.Info{
		token("t0", ""), token("t1", "t0"), token("t2", "t1"), token("t3", "t2"), token("t5", "t3"),
		pending(lease("l1", 0, "t1", "a"), 110, 1), lease("l4", 205, "t3", "a/b/c"), lease("l6", 115, "t5", "d"),
	}
	wantAll(t, h, want...)
	reopen(t, h, 108)
	wantAll(t, h, want...)
	mustCompact(t, h)
	reopen(t, h, 108)
	wantAll(t, h, want...)
	tick(t, h, 120, 0, "l1 l6")
	mustCreate(t, h, "t0", "t6")
	mustIssue(t, h, "t0", "d", 9, 9, "l7")
}

func TestP16NamesThatWereUsedStayUsed(t *testing.T) {
	h := open(t, 100)
	mustCompact(t, h)
	mustCreate(t, h, "t0", "t1")
	mustCompact(t, h)
	mustIssue(t, h, "t1", "a", 1, 1, "l1")
	mustIssue(t, h, "t1", "a", 1, 1, "l2")
	mustCreate(t, h, "t0", "t2")
	mustRevokeToken(t, h, "t2")
	tick(t, h, 101, 0b010, "t2 l1 l2")
	mustCompact(t, h)
	mustCompact(t, h)
	reopen(t, h, 101)
	for _, id := range []string{"t2", "l2"} {
		wantUnknown(t, h, id)
	}
	mustRevokeToken(t, h, "t1")
	tick(t, h, 103, 0, "l1 t1")
	mustCompact(t, h)
	reopen(t, h, 101)
	wantAll(t, h, token("t0", ""))
	mustCreate(t, h, "t0", "t3")
	mustIssue(t, h, "t0", "a", 1, 1, "l3")
}

func TestP16TheRootIsKeptAsItIs(t *testing.T) {
	h := open(t, 100)
	for range 3 {
		mustCompact(t, h)
		reopen(t, h, 100)
		wantAll(t, h, token("t0", ""))
		if e := h.RevokeToken("t0", well); e != api.ErrToken {
			t.Errorf("P9: RevokeToken of the root = %d", e)
		}
	}
	mustCreate(t, h, "t0", "t1")
	mustIssue(t, h, "t0", "a", 1, 1, "l1")
}

func TestP16TheLastIsKept(t *testing.T) {
	h := open(t, 100)
	mustIssue(t, h, "t0", "a", 10, 20, "l1")
	mustCompact(t, h)
	reopen(t, h, 105)
	mustRenew(t, h, "l1", 7, 112)
	mustCompact(t, h)
	reopen(t, h, 106)
	mustRenew(t, h, "l1", api.Never, 120)
}

func TestP16FailuresAreKept(t *testing.T) {
	h := open(t, 100)
	mustCreate(t, h, "t0", "t1")
	mustIssue(t, h, "t1", "a", 9, 9, "l1")
	mustRevokeToken(t, h, "t1")
	at := uint64(100)
	for i, next := range []uint64{102, 106, 114, 130, 162, 194, 226} {
		tick(t, h, at, 1, "l1")
		mustCompact(t, h)
		reopen(t, h, at)
		wantAll(t, h, token("t0", ""), pending(token("t1", "t0"), 100, 0), pending(lease("l1", 0, "t1", "a"), next, i+1))
		at = next
	}
	tick(t, h, at, 0, "l1 t1")
	mustCompact(t, h)
	reopen(t, h, at)
	wantAll(t, h, token("t0", ""))
}

// TestP16TheTimeOfItIsKept: something is made durable at it.
func TestP16TheTimeOfItIsKept(t *testing.T) {
	for _, c := range []struct{ now, want uint64 }{{0, 130}, {129, 130}, {130, 130}, {131, 131}} {
		h := open(t, 100)
		mustIssue(t, h, "t0", "a", 50, 50, "l1")
		tick(t, h, 130, 0, "")
		mustCompact(t, h)
		reopen(t, h, c.now)
		wantTime(t, h, c.want)
	}
}

func TestP16WhatTheTimeEndedStaysPending(t *testing.T) {
	h := open(t, 100)
	mustIssue(t, h, "t0", "a", 10, 20, "l1")
	reopen(t, h, 110)
	mustCompact(t, h)
	reopen(t, h, 109)
	wantLive(t, h, "l1", false)
	tick(t, h, 110, 0, "l1")
}

// fullest is a vault that has as much as it may, and of each the longest: it was revoked, and failed often.
func fullest(t *testing.T) *plain.Host {
	t.Helper()
	h := open(t, api.Never-1000)
	for i := range 9 {
		mustCreate(t, h, fmt.Sprint("t", i), fmt.Sprint("t", i+1))
	}
	for i := range 14 {
		mustIssue(t, h, "t9", strings.Repeat("z", 24), 900, api.Never, fmt.Sprint("l", i+1))
	}
	mustRevokeToken(t, h, "t1")
	for i := range uint64(10) {
		h.Tick(api.Never-1000+32*i, allFail, well)
	}
	return h
}

func TestP16AFullVaultHasRoom(t *testing.T) {
	h := fullest(t)
	before, want := h.Size(), all(t, h)
	if len(want) != 24 || want[23].Tries < 9 {
		t.Fatalf("%v", want)
	}
	mustCompact(t, h)
	if h.Size() >= before {
		t.Errorf("P16: %d bytes, %d ahead of it", h.Size(), before)
	}
	reopen(t, h, 0)
	wantAll(t, h, want...)
	wantRoom(t, h)
}

func TestP16WhatIsGoneTakesNoRoom(t *testing.T) {
	h := fullest(t)
	now := uint64(api.Never - 600)
	h.Tick(now, 0, well)
	wantAll(t, h, token("t0", ""))
	for range 300 {
		h.Issue("t0", "some/path", 1, 1, well)
		now++
		h.Tick(now, 0, well)
	}
	if size := h.Size(); size < 10000 {
		t.Fatalf("%d bytes ahead of it", size)
	}
	mustCompact(t, h)
	wantAll(t, h, token("t0", ""))
	if size := h.Size(); size > 1200 {
		t.Errorf("P16: %d bytes, of the root alone", size)
	}
}

// TestP16WhatEarlierOnesLeftTakesNoRoom: each of them met an error, at another moment.
func TestP16WhatEarlierOnesLeftTakesNoRoom(t *testing.T) {
	h := fullest(t)
	want := all(t, h)
	for _, full := range []int{2, 0, 3, 1, 2, 2, 3, 0} {
		if e := h.Compact(plain.Fall{Left: -1, Full: full}); e != api.ErrFull {
			t.Fatalf("Compact = %d", e)
		}
		reopen(t, h, 0)
		wantAll(t, h, want...)
		h.Tick(infoOf(t, h, "l1").At, allFail, well)
		want = all(t, h)
	}
	mustCompact(t, h)
	reopen(t, h, 0)
	wantAll(t, h, want...)
}

// histories are vaults as mixed has it, behind a Compact or not, and with leavings of one that fell or not.
func histories() map[string]func(t *testing.T) *plain.Host {
	fell := func(f plain.Fall) func(t *testing.T) *plain.Host {
		return func(t *testing.T) *plain.Host {
			h := mixed(t)
			if e := h.Compact(f); e != api.ErrDown {
				t.Fatalf("P16: Compact = %d", e)
			}
			reopen(t, h, 106)
			return h
		}
	}
	return map[string]func(t *testing.T) *plain.Host{
		"none": mixed,
		"compacted": func(t *testing.T) *plain.Host {
			h := mixed(t)
			mustCompact(t, h)
			return h
		},
		"torn":      fell(plain.Fall{Left: 1, Full: -1, Kept: 1, Part: 7 * 100}),
		"not gone":  fell(plain.Fall{Left: 2, Full: -1}),
		"all empty": fell(plain.Fall{Left: 0, Full: -1, Kept: 1, Part: 0}),
	}
}

// wantWhole: the vault opens as mixed has it, goes on, and can be compacted.
func wantWhole(t *testing.T, h *plain.Host, what ...any) {
	t.Helper()
	reopen(t, h, 106)
	if got := all(t, h); !slices.Equal(got, mixedInfos()) {
		t.Fatalf("P16: %v: %v", fmt.Sprint(what...), got)
	}
	mustIssue(t, h, "t0", "z", 9, 9, "l6")
	mustCreate(t, h, "t0", "t5")
	want := all(t, h)
	reopen(t, h, 106)
	wantAll(t, h, want...)
	mustCompact(t, h)
	reopen(t, h, 106)
	wantAll(t, h, want...)
}

func TestP16TheDiskGoesDownAtAnyMoment(t *testing.T) {
	for name, history := range histories() {
		for left := range 6 {
			for kept := range 8 {
				for _, part := range []int{0, 1, 2, 3, 700, 1401, 7 * 500} {
					h := history(t)
					e := h.Compact(plain.Fall{Left: left, Full: -1, Kept: kept, Part: part})
					if e != api.ErrDown && (e != api.OK || left < 4) {
						t.Fatalf("P16: %s, behind %d calls: Compact = %d", name, left, e)
					}
					h.Lose(kept, part)
					wantWhole(t, h, name, left, kept, part)
				}
			}
		}
	}
}

// TestP16ItIsTornAtEachByte: by plain.Fall an even Part tears the one Write, behind Part/7 bytes.
func TestP16ItIsTornAtEachByte(t *testing.T) {
	h := mixed(t)
	mustCompact(t, h)
	length := h.Size()
	for name, history := range histories() {
		for part := 0; part < 7*(length+1); part += 6 {
			h := history(t)
			if e := h.Compact(plain.Fall{Left: part / 6 % 2, Full: -1, Kept: 1, Part: part}); e != api.ErrDown || h.Is() {
				t.Fatalf("P16: Compact = %d", e)
			}
			wantWhole(t, h, name, part)
		}
	}
}

func TestP16TheDiskIsFullAtAnyMoment(t *testing.T) {
	for name, history := range histories() {
		for full := range 4 {
			for kept := range 8 {
				h := history(t)
				if e := h.Compact(plain.Fall{Left: -1, Full: full}); e != api.ErrFull || !h.Is() {
					t.Fatalf("P16: %s, at %d: Compact = %d", name, full, e)
				}
				wantAll(t, h, mixedInfos()...)
				if id, e := h.CreateToken("t0", well); id != "" || e != api.ErrFull {
					t.Errorf("P14: behind it CreateToken = %q, %d", id, e)
				}
				if tried, e := h.Tick(120, 0, well); len(tried) != 0 || e != api.ErrFull {
					t.Errorf("P14: behind it Tick = %v, %d", tried, e)
				}
				if e := h.Compact(well); e != api.ErrFull {
					t.Errorf("P14: behind it Compact = %d", e)
				}
				if kept%2 == 0 {
					h.Open(106, well)
					wantAll(t, h, mixedInfos()...)
				}
				h.Lose(kept, 1)
				wantWhole(t, h, name, full, kept)
			}
		}
	}
}

// TestP14AnErrorOfTheDiskAtCompact: at each of its calls that write, the others being done; it writes though nothing turned since the last one.
func TestP14AnErrorOfTheDiskAtCompact(t *testing.T) {
	for _, want := range []error{errOdd, api.ErrFull, api.ErrDown, api.ErrNone, fmt.Errorf("within: %w", api.ErrNone)} {
		for left := range 4 {
			v, d, tried := mixedVault(t)
			if err := v.Compact(); err != nil {
				t.Fatalf("Compact = %v", err)
			}
			d.left, d.err = left, want
			if err := v.Compact(); err != want {
				t.Errorf("behind %d: Compact = %v, want %v", left, err, want)
			}
			d.left, d.writes = -1, 0
			for name, turn := range turning() {
				if got, err := turn(v); got != "" || err != want {
					t.Errorf("behind %d: %s = %q, %v, want %v", left, name, got, err, want)
				}
			}
			if err := v.Compact(); err != want {
				t.Errorf("behind %d: Compact = %v, want %v", left, err, want)
			}
			wantQuiet(t, v)
			if d.writes != 0 || len(*tried) != 0 {
				t.Errorf("behind %d: %d calls that write, tried: %v", left, d.writes, *tried)
			}
			again, err := leasekeeper.Open(d, willing{}, 106)
			if err != nil {
				t.Fatalf("Open = %v", err)
			}
			wantVault(t, again, mixedInfos()...)
		}
	}
}

func TestP16ARevokerMayAskForIt(t *testing.T) {
	d := newCounted()
	var v *leasekeeper.Vault
	v, _ = leasekeeper.Open(d, asking(func(id string) bool {
		if err := v.Compact(); err != nil {
			t.Errorf("Compact = %v", err)
		}
		return id != "l2"
	}), 100)
	v.CreateToken("t0")
	for range 3 {
		v.Issue("t1", "a", 5, 5)
	}
	v.RevokeToken("t1")
	if err := v.Tick(100); err != nil {
		t.Errorf("Tick = %v", err)
	}
	want := []api.Info{token("t0", ""), pending(token("t1", "t0"), 100, 0), pending(lease("l2", 0, "t1", "a"), 102, 1)}
	wantVault(t, v, want...)
	again, err := leasekeeper.Open(d, willing{}, 100)
	if err != nil {
		t.Fatalf("Open = %v", err)
	}
	wantVault(t, again, want...)
}

func TestP2P16VaultsOverTwoDisksAreApart(t *testing.T) {
	one, other := mixed(t), open(t, 100)
	mustCompact(t, other)
	mustCompact(t, one)
	mustCompact(t, other)
	reopen(t, other, 100)
	wantAll(t, other, token("t0", ""))
	mustCreate(t, other, "t0", "t1")
	reopen(t, one, 106)
	wantAll(t, one, mixedInfos()...)
}
