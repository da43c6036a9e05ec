package leasekeeper_test

import (
	"fmt"
	"slices"
	"testing"

	"leasekeeper/api"
	"leasekeeper/leasekeeper"
	"leasekeeper/plain"
)

func infoOf(t *testing.T, v *leasekeeper.Vault, id string) api.Info {
	t.Helper()
	for info := range v.All() {
		if info.Id == id {
			return info
		}
	}
	t.Fatalf("no %s in the walk", id)
	return api.Info{}
}

func issue(t *testing.T, v *leasekeeper.Vault, above string, ttl uint64, most uint64, want string) {
	t.Helper()
	if id, err := v.Issue(above, "a", ttl, most); id != want || err != nil {
		t.Fatalf("Issue of %s = %q, %v, want %q", above, id, err, want)
	}
}

func create(t *testing.T, v *leasekeeper.Vault, parent string, want string) {
	t.Helper()
	if id, err := v.CreateToken(parent); id != want || err != nil {
		t.Fatalf("CreateToken(%q) = %q, %v, want %q", parent, id, err, want)
	}
}

// wantLive: do all calls say the same of a lease on the path a?
func wantLive(t *testing.T, v *leasekeeper.Vault, id string, want bool) {
	t.Helper()
	state, renewal := api.Live, api.OK
	if !want {
		state, renewal = api.Pending, api.ErrLease
	}
	if got := infoOf(t, v, id).State; got != state {
		t.Errorf("P12: state of %s = %d, want %d", id, got, state)
	}
	if got := v.Authorize(id, "a"); got != want {
		t.Errorf("P7: Authorize(%s) = %v", id, got)
	}
	at, err := v.Renew(id, 0)
	if plain.Told(err) != renewal || !want && at != 0 {
		t.Errorf("P6: Renew(%s) = %d, %v", id, at, err)
	}
}

func TestP3ALeaseIsLiveBelowItsAt(t *testing.T) {
	v := openVault(t)
	issue(t, v, "t0", 10, 20, "l1")
	for _, c := range []struct {
		now  uint64
		live bool
	}{{100, true}, {109, true}, {110, false}, {111, false}, {api.Never, false}} {
		v.PassTime(c.now)
		wantLive(t, v, "l1", c.live)
		if at := infoOf(t, v, "l1").At; at != 110 {
			t.Errorf("P12: AT at %d = %d", c.now, at)
		}
		if next := v.Next(); next != 110 {
			t.Errorf("P10: Next at %d = %d", c.now, next)
		}
	}
}

func TestP3NeverEndsLeasesAndNoTokens(t *testing.T) {
	v := openVault(t)
	issue(t, v, "t0", api.Never, api.Never, "l1")
	v.PassTime(api.Never - 1)
	wantLive(t, v, "l1", true)
	v.PassTime(api.Never)
	wantLive(t, v, "l1", false)
	create(t, v, "t0", "t1")
	if info := infoOf(t, v, "t1"); info != token("t1", "t0") {
		t.Errorf("P12: %v", info)
	}
}

func TestP3WhatIsGoneIsUnknownAndItsNameIsNotUsedAgain(t *testing.T) {
	v := openVault(t)
	create(t, v, "t0", "t1")
	create(t, v, "t0", "t2")
	issue(t, v, "t0", 5, 5, "l1")
	issue(t, v, "t0", 9, 9, "l2")
	v.MakeGone("t2")
	v.MakeGone("l2")
	v.MakeGone("l1")
	if got := ids(v.All()); got != "t0 t1" {
		t.Errorf("P12: walked: %s", got)
	}
	if _, err := v.CreateToken("t2"); err != api.ErrToken {
		t.Errorf("P4: %v", err)
	}
	if _, err := v.Issue("t2", "a", 1, 1); err != api.ErrToken {
		t.Errorf("P5: %v", err)
	}
	if _, err := v.Renew("l1", 1); err != api.ErrLease || v.Authorize("l1", "a") {
		t.Errorf("P6, P7: %v", err)
	}
	if next := v.Next(); next != api.Never {
		t.Errorf("P10: Next = %d", next)
	}
	create(t, v, "t0", "t3")
	issue(t, v, "t0", 1, 1, "l3")
}

func TestP4WhatIsPendingTakesRoomAndWhatIsGoneDoesNot(t *testing.T) {
	v := openVault(t)
	for i := 1; i < 10; i++ {
		create(t, v, "t0", fmt.Sprint("t", i))
	}
	v.MakePending("t5", 100, 0)
	if id, err := v.CreateToken("t0"); id != "" || err != api.ErrMany {
		t.Errorf("an eleventh token: %q, %v", id, err)
	}
	if id, err := v.CreateToken("t5"); id != "" || err != api.ErrToken {
		t.Errorf("a token below one that is pending: %q, %v", id, err)
	}
	v.MakeGone("t5")
	create(t, v, "t0", "t10")
}

func TestP4P5APendingTokenTakesNothing(t *testing.T) {
	v := openVault(t)
	create(t, v, "t0", "t1")
	v.MakePending("t1", 100, 0)
	if id, err := v.CreateToken("t1"); id != "" || err != api.ErrToken {
		t.Errorf("P4: %q, %v", id, err)
	}
	if id, err := v.Issue("t1", "", 0, 0); id != "" || err != api.ErrToken {
		t.Errorf("P5: %q, %v", id, err)
	}
}

func TestP5WhatIsPendingTakesRoomAndWhatIsGoneDoesNot(t *testing.T) {
	v := openVault(t)
	for i := 1; i <= 14; i++ {
		issue(t, v, "t0", 5, 5, fmt.Sprint("l", i))
	}
	v.MakePending("l1", 100, 0)
	v.PassTime(105)
	if id, err := v.Issue("t0", "a", 1, 1); id != "" || err != api.ErrMany {
		t.Errorf("a fifteenth lease: %q, %v", id, err)
	}
	v.PassTime(api.Never)
	if id, err := v.Issue("t0", "a", 1, 1); id != "" || err != api.ErrMany {
		t.Errorf("a fifteenth lease at Never: %q, %v", id, err)
	}
	v.MakeGone("l1")
	if id, err := v.Issue("t0", "a", 1, 1); id != "" || err != api.ErrTime {
		t.Errorf("a fourteenth lease at Never: %q, %v", id, err)
	}
	v.PassTime(105)
	issue(t, v, "t0", 1, 1, "l15")
}

func TestP6RenewGoesByTheTimeOfTheCall(t *testing.T) {
	v := openVault(t)
	issue(t, v, "t0", 10, 20, "l1")
	for _, c := range []struct{ now, ttl, want uint64 }{
		{105, 4, 110}, {105, 5, 110}, {105, 6, 111}, {110, 9, 119}, {115, 5, 120}, {115, 6, 120}, {119, api.Never, 120},
	} {
		v.PassTime(c.now)
		if at, err := v.Renew("l1", c.ttl); at != c.want || err != nil {
			t.Errorf("Renew(%d) at %d = %d, %v, want %d", c.ttl, c.now, at, err, c.want)
		}
	}
	v.PassTime(120)
	if at, err := v.Renew("l1", 5); at != 0 || err != api.ErrLease {
		t.Errorf("Renew at its LAST = %d, %v", at, err)
	}
}

func TestP6P7ARevokedLeaseIsNotLive(t *testing.T) {
	v := openVault(t)
	issue(t, v, "t0", 10, 20, "l1")
	v.MakePending("l1", 102, 1)
	wantLive(t, v, "l1", false)
	if next := v.Next(); next != 102 {
		t.Errorf("P10: Next = %d", next)
	}
}

func TestP12StatesAndFailures(t *testing.T) {
	v := openVault(t)
	create(t, v, "t0", "t1")
	issue(t, v, "t1", 10, 20, "l1")
	issue(t, v, "t0", 5, 20, "l2")
	v.MakePending("t1", 106, 2)
	v.MakePending("l1", 114, 3)
	v.PassTime(105)
	want := []api.Info{
		{Id: "t0", State: api.Live, At: api.Never},
		{Id: "t1", State: api.Pending, At: 106, Tries: 2, Token: "t0"},
		{Id: "l1", State: api.Pending, At: 114, Tries: 3, Token: "t1", Path: "a"},
		{Id: "l2", State: api.Pending, At: 105, Token: "t0", Path: "a"},
	}
	var got []api.Info
	for info := range v.All() {
		got = append(got, info)
	}
	if !slices.Equal(got, want) {
		t.Errorf("All:\n%v, want\n%v", got, want)
	}
}

func TestP12WhatGoesWithinAWalkIsNotTold(t *testing.T) {
	v := openVault(t)
	create(t, v, "t0", "t1")
	issue(t, v, "t0", 1, 1, "l1")
	got := ""
	for info := range v.All() {
		got += info.Id + " "
		v.MakeGone("t1")
	}
	if got != "t0 l1 " {
		t.Errorf("walked: %s", got)
	}
}
