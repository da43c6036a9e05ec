package leasekeeper_test

import (
	"fmt"
	"slices"
	"strings"
	"testing"

	"leasekeeper/api"
	"leasekeeper/leasekeeper"
	"leasekeeper/plain"
)

var well = plain.Well()

func open(t *testing.T, now uint64) *plain.Host {
	t.Helper()
	h := plain.NewHost()
	if e := h.Open(now, well); e != api.OK || !h.Is() {
		t.Fatalf("Open at %d: %d", now, e)
	}
	return h
}

func all(t *testing.T, h *plain.Host) []api.Info {
	t.Helper()
	list, ok := h.All(0)
	if !ok {
		t.Fatal("All: no walk")
	}
	return list
}

func token(id string, above string) api.Info {
	return api.Info{Id: id, State: api.Live, At: api.Never, Token: above}
}

func lease(id string, at uint64, above string, path string) api.Info {
	return api.Info{Id: id, State: api.Live, At: at, Token: above, Path: path}
}

func wantAll(t *testing.T, h *plain.Host, want ...api.Info) {
	t.Helper()
	if got := all(t, h); !slices.Equal(got, want) {
		t.Errorf("All:\n%v, want\n%v", got, want)
	}
}

func mustCreate(t *testing.T, h *plain.Host, parent string, want string) {
	t.Helper()
	if id, e := h.CreateToken(parent, well); id != want || e != api.OK {
		t.Fatalf("CreateToken(%q) = %q, %d, want %q", parent, id, e, want)
	}
}

func mustIssue(t *testing.T, h *plain.Host, above string, path string, ttl uint64, most uint64, want string) {
	t.Helper()
	if id, e := h.Issue(above, path, ttl, most, well); id != want || e != api.OK {
		t.Fatalf("Issue(%q, %q, %d, %d) = %q, %d, want %q", above, path, ttl, most, id, e, want)
	}
}

func mustRenew(t *testing.T, h *plain.Host, id string, ttl uint64, want uint64) {
	t.Helper()
	if at, e := h.Renew(id, ttl, well); at != want || e != api.OK {
		t.Errorf("Renew(%q, %d) = %d, %d, want %d", id, ttl, at, e, want)
	}
}

// fillTokens and fillLeases: as many as there may be.
func fillTokens(t *testing.T, h *plain.Host) {
	t.Helper()
	for i := 1; i < 10; i++ {
		mustCreate(t, h, "t0", fmt.Sprint("t", i))
	}
}

func fillLeases(t *testing.T, h *plain.Host) {
	t.Helper()
	for i := 1; i <= 14; i++ {
		mustIssue(t, h, "t0", "a", 5, 9, fmt.Sprint("l", i))
	}
}

func TestP1OddTextsAndNumbers(t *testing.T) {
	texts := []string{
		"", "t", "l", "t0", "t1", "t01", "t99", "l1", "l2", "l01", "T0", "a", "a/", "/", "\x00", "\xff\xfe", "é", "😀", "t\xff", "l-1", "l+1",
		"t18446744073709551615", "l18446744073709551616", strings.Repeat("t", 1<<12), "t" + strings.Repeat("9", 1<<12),
	}
	numbers := []uint64{0, 1, 2, 99, 1 << 63, api.Never - 1, api.Never}
	for _, now := range numbers {
		h := open(t, now)
		h.Issue("t0", "a", 1, 2, well)
		for _, text := range texts {
			if id, e := h.CreateToken(text, well); (e == api.OK) == (id == "") {
				t.Errorf("CreateToken(%q) = %q, %d", text, id, e)
			}
			for _, other := range texts {
				h.Authorize(text, other)
			}
			if n, e := h.RevokePrefix(text, well); e != api.OK && n != 0 {
				t.Errorf("RevokePrefix(%q) = %d, %d", text, n, e)
			}
			h.Revoke(text, well)
			h.RevokeToken(text, well)
			for i, later := range numbers {
				if _, e := h.Tick(later%(now+3), uint64(i), well); e != api.OK {
					t.Errorf("Tick = %d", e)
				}
			}
			for _, ttl := range numbers {
				if at, e := h.Renew(text, ttl, well); e != api.OK && at != 0 {
					t.Errorf("Renew(%q, %d) = %d, %d", text, ttl, at, e)
				}
				for _, path := range texts {
					if id, e := h.Issue(text, path, ttl, 99, well); (e == api.OK) == (id == "") {
						t.Errorf("Issue(%q, %q, %d) = %q, %d", text, path, ttl, id, e)
					}
				}
			}
		}
		h.Next()
		all(t, h)
	}
}

func TestP2VaultsAreApart(t *testing.T) {
	one, other := open(t, 100), open(t, 200)
	mustCreate(t, one, "t0", "t1")
	mustIssue(t, one, "t1", "a", 1, 1, "l1")
	wantAll(t, other, token("t0", ""))
	mustCreate(t, other, "t0", "t1")
	mustIssue(t, other, "t0", "b", 5, 5, "l1")
	wantAll(t, one, token("t0", ""), token("t1", "t0"), lease("l1", 101, "t1", "a"))
	wantAll(t, other, token("t0", ""), token("t1", "t0"), lease("l1", 205, "t0", "b"))
	mustRevokeToken(t, one, "t1")
	tick(t, one, 300, 1, "l1")
	tick(t, other, 204, 0, "")
	wantAll(t, other, token("t0", ""), token("t1", "t0"), lease("l1", 205, "t0", "b"))
}

func TestP3AnEmptyDiskHasTheRoot(t *testing.T) {
	for _, now := range []uint64{0, 100, api.Never - 1, api.Never} {
		wantAll(t, open(t, now), token("t0", ""))
	}
}

func TestP3TheTimeIsNow(t *testing.T) {
	for _, now := range []uint64{0, 1, 100, 1 << 63} {
		h := open(t, now)
		mustIssue(t, h, "t0", "a", 7, 7, "l1")
		wantAll(t, h, token("t0", ""), lease("l1", now+7, "t0", "a"))
	}
}

func TestP3NamesAreGivenInTheirOrder(t *testing.T) {
	h := open(t, 100)
	mustIssue(t, h, "t0", "a", 1, 1, "l1")
	mustCreate(t, h, "t0", "t1")
	mustIssue(t, h, "t1", "a", 1, 1, "l2")
	h.CreateToken("t7", well)
	h.Issue("t0", "a", 0, 1, well)
	mustCreate(t, h, "t1", "t2")
	mustIssue(t, h, "t2", "a", 1, 1, "l3")
}

func TestP4Tokens(t *testing.T) {
	h := open(t, 100)
	mustCreate(t, h, "t0", "t1")
	mustCreate(t, h, "t1", "t2")
	mustCreate(t, h, "t2", "t3")
	mustCreate(t, h, "t1", "t4")
	wantAll(t, h, token("t0", ""), token("t1", "t0"), token("t2", "t1"), token("t3", "t2"), token("t4", "t1"))
}

func TestP4AtNeverTokensAreMadeAllTheSame(t *testing.T) {
	h := open(t, api.Never)
	mustCreate(t, h, "t0", "t1")
	mustCreate(t, h, "t1", "t2")
	wantAll(t, h, token("t0", ""), token("t1", "t0"), token("t2", "t1"))
}

func TestP4WrongParents(t *testing.T) {
	h := open(t, 100)
	mustIssue(t, h, "t0", "a", 1, 1, "l1")
	for _, parent := range []string{"", "t", "0", "t1", "t00", "T0", "l1", "t0 ", " t0", "t18446744073709551616"} {
		if id, e := h.CreateToken(parent, well); id != "" || e != api.ErrToken {
			t.Errorf("CreateToken(%q) = %q, %d", parent, id, e)
		}
	}
	wantAll(t, h, token("t0", ""), lease("l1", 101, "t0", "a"))
}

func TestP4TenTokensAreAll(t *testing.T) {
	h := open(t, 100)
	fillTokens(t, h)
	for parent, want := range map[string]api.Errno{"t0": api.ErrMany, "t9": api.ErrMany, "t10": api.ErrToken, "": api.ErrToken} {
		if id, e := h.CreateToken(parent, well); id != "" || e != want {
			t.Errorf("CreateToken(%q) = %q, %d, want %d", parent, id, e, want)
		}
	}
	if n := len(all(t, h)); n != 10 {
		t.Errorf("%d tokens", n)
	}
}

func TestP5Leases(t *testing.T) {
	longest := strings.Repeat("a", 24)
	h := open(t, 100)
	mustCreate(t, h, "t0", "t1")
	mustIssue(t, h, "t0", "a/b", 10, 20, "l1")
	mustIssue(t, h, "t1", "a/b", 1, 1, "l2")
	mustIssue(t, h, "t1", longest, 5, api.Never, "l3")
	wantAll(t, h, token("t0", ""), token("t1", "t0"),
		lease("l1", 110, "t0", "a/b"), lease("l2", 101, "t1", "a/b"), lease("l3", 105, "t1", longest))
}

func TestP5SumsEndAtNever(t *testing.T) {
	for _, c := range []struct{ now, ttl, want uint64 }{
		{100, api.Never, api.Never},
		{100, api.Never - 100, api.Never},
		{100, api.Never - 101, api.Never - 1},
		{100, api.Never - 99, api.Never},
		{0, api.Never, api.Never},
		{1 << 63, 1 << 63, api.Never},
		{api.Never - 1, 1, api.Never},
		{api.Never - 1, 2, api.Never},
		{api.Never - 1, api.Never, api.Never},
	} {
		h := open(t, c.now)
		mustIssue(t, h, "t0", "a", c.ttl, c.ttl, "l1")
		wantAll(t, h, token("t0", ""), lease("l1", c.want, "t0", "a"))
		mustRenew(t, h, "l1", api.Never, c.want)
		if !h.Authorize("l1", "a") {
			t.Errorf("a lease until %d is not live at %d", c.want, c.now)
		}
	}
}

// refusal is an Issue and the error that is named first of those that apply.
type refusal struct {
	above, path string
	ttl, most   uint64
	want        api.Errno
}

func wantRefusals(t *testing.T, h *plain.Host, list []refusal) {
	t.Helper()
	before := all(t, h)
	for _, c := range list {
		if id, e := h.Issue(c.above, c.path, c.ttl, c.most, well); id != "" || e != c.want {
			t.Errorf("Issue(%q, %q, %d, %d) = %q, %d, want %d", c.above, c.path, c.ttl, c.most, id, e, c.want)
		}
	}
	wantAll(t, h, before...)
}

func TestP5Refusals(t *testing.T) {
	h := open(t, 100)
	mustIssue(t, h, "t0", "a", 1, 1, "l1")
	wantRefusals(t, h, []refusal{
		{"t1", "a", 1, 1, api.ErrToken}, {"", "a", 1, 1, api.ErrToken}, {"l1", "a", 1, 1, api.ErrToken}, {"t00", "a", 1, 1, api.ErrToken}, {"t1", "", 0, 0, api.ErrToken},
		{"t0", "", 1, 1, api.ErrPath}, {"t0", "a/", 1, 1, api.ErrPath}, {"t0", "A", 0, 0, api.ErrPath}, {"t0", strings.Repeat("a", 25), 2, 1, api.ErrPath},
		{"t0", "a", 0, 0, api.ErrTime}, {"t0", "a", 0, 5, api.ErrTime}, {"t0", "a", 1, 0, api.ErrTime}, {"t0", "a", 6, 5, api.ErrTime}, {"t0", "a", api.Never, api.Never - 1, api.ErrTime},
	})
	mustIssue(t, h, "t0", "a", 1, 1, "l2")
}

func TestP5FourteenLeasesAreAll(t *testing.T) {
	h := open(t, 100)
	fillLeases(t, h)
	wantRefusals(t, h, []refusal{
		{"t0", "a", 1, 1, api.ErrMany},
		{"t0", "a", 2, 1, api.ErrTime}, {"t0", "a", 0, 1, api.ErrTime}, {"t0", "/", 1, 1, api.ErrPath}, {"t1", "a", 1, 1, api.ErrToken},
	})
	mustCreate(t, h, "t0", "t1")
}

func TestP5ManyTokensLeaveRoomForLeases(t *testing.T) {
	h := open(t, 100)
	fillTokens(t, h)
	fillLeases(t, h)
	if n := len(all(t, h)); n != 24 {
		t.Errorf("%d tokens and leases", n)
	}
}

func TestP5NothingIsIssuedAtNever(t *testing.T) {
	wantRefusals(t, open(t, api.Never), []refusal{
		{"t0", "a", 1, 1, api.ErrTime}, {"t0", "a", api.Never, api.Never, api.ErrTime},
		{"t0", "", 1, 1, api.ErrPath}, {"t1", "a", 1, 1, api.ErrToken},
	})
}

func TestP6Renew(t *testing.T) {
	h := open(t, 100)
	mustIssue(t, h, "t0", "a/b", 10, 20, "l1")
	mustIssue(t, h, "t0", "a", 5, 5, "l2")
	mustIssue(t, h, "t0", "a", 1, api.Never, "l3")
	for _, c := range []struct {
		id        string
		ttl, want uint64
	}{
		{"l1", 0, 110}, {"l1", 9, 110}, {"l1", 10, 110}, {"l1", 11, 111}, {"l1", 15, 115}, {"l1", 10, 115}, {"l1", 19, 119}, {"l1", 20, 120}, {"l1", 21, 120}, {"l1", 99, 120}, {"l1", api.Never, 120}, {"l1", 0, 120},
		{"l2", 6, 105}, {"l2", api.Never, 105},
		{"l3", api.Never - 101, api.Never - 1}, {"l3", api.Never - 99, api.Never},
	} {
		mustRenew(t, h, c.id, c.ttl, c.want)
	}
	wantAll(t, h, token("t0", ""), lease("l1", 120, "t0", "a/b"), lease("l2", 105, "t0", "a"), lease("l3", api.Never, "t0", "a"))
}

func TestP6NoLease(t *testing.T) {
	h := open(t, 100)
	mustIssue(t, h, "t0", "a", 5, 9, "l1")
	for _, id := range []string{"", "l", "l0", "l2", "l01", "L1", "t0", "t1", "l1 ", "a"} {
		if at, e := h.Renew(id, 9, well); at != 0 || e != api.ErrLease {
			t.Errorf("Renew(%q) = %d, %d", id, at, e)
		}
	}
	wantAll(t, h, token("t0", ""), lease("l1", 105, "t0", "a"))
}

func TestP7Authorize(t *testing.T) {
	h := open(t, 100)
	mustIssue(t, h, "t0", "a/b", 5, 9, "l1")
	mustIssue(t, h, "t0", "a", 5, 9, "l2")
	for _, c := range []struct {
		id, path string
		want     bool
	}{
		{"l1", "a/b", true}, {"l2", "a", true},
		{"l1", "a", false}, {"l1", "a/", false}, {"l1", "a/b/c", false}, {"l1", "", false}, {"l1", "A/B", false}, {"l2", "a/b", false},
		{"l3", "a", false}, {"l01", "a/b", false}, {"", "", false}, {"", "a", false}, {"t0", "", false}, {"t0", "a", false},
	} {
		if got := h.Authorize(c.id, c.path); got != c.want {
			t.Errorf("Authorize(%q, %q) = %v", c.id, c.path, got)
		}
	}
}

func TestP10NextIsTheLeast(t *testing.T) {
	h := open(t, 100)
	wantNext := func(want uint64) {
		t.Helper()
		if got := h.Next(); got != want {
			t.Errorf("Next = %d, want %d", got, want)
		}
	}
	wantNext(api.Never)
	mustCreate(t, h, "t0", "t1")
	wantNext(api.Never)
	mustIssue(t, h, "t0", "a", api.Never, api.Never, "l1")
	wantNext(api.Never)
	mustIssue(t, h, "t1", "a", 10, 30, "l2")
	wantNext(110)
	mustIssue(t, h, "t0", "a", 20, 20, "l3")
	wantNext(110)
	mustIssue(t, h, "t0", "a", 1, 9, "l4")
	wantNext(101)
	mustRenew(t, h, "l4", 9, 109)
	wantNext(109)
}

func TestP12TheWalkGoesByNumbers(t *testing.T) {
	h := open(t, 100)
	fillLeases(t, h)
	fillTokens(t, h)
	var want []api.Info
	for i := range 10 {
		want = append(want, token(fmt.Sprint("t", i), "t0"))
	}
	want[0].Token = ""
	for i := 1; i <= 14; i++ {
		want = append(want, lease(fmt.Sprint("l", i), 105, "t0", "a"))
	}
	wantAll(t, h, want...)
	for left := 1; left <= len(want); left++ {
		if got, _ := h.All(left); !slices.Equal(got, want[:left]) {
			t.Errorf("the first %d: %v", left, got)
		}
	}
}

func openVault(t *testing.T, r api.Revoker) *leasekeeper.Vault {
	t.Helper()
	v, err := leasekeeper.Open(memory{}, r, 100)
	if err != nil {
		t.Fatal(err)
	}
	return v
}

func ids(walk func(yield func(api.Info) bool)) string {
	var list []string
	for info := range walk {
		list = append(list, info.Id)
	}
	return strings.Join(list, " ")
}

func TestP12EachRangeBeginsAnew(t *testing.T) {
	v := openVault(t, willing{})
	walk := v.All()
	if got := ids(walk); got != "t0" {
		t.Errorf("walked: %s", got)
	}
	v.CreateToken("t0")
	v.Issue("t1", "a", 1, 1)
	for range walk {
		break
	}
	for range 2 {
		if got := ids(walk); got != "t0 t1 l1" {
			t.Errorf("walked: %s", got)
		}
	}
	for range walk {
		if got := ids(walk); got != "t0 t1 l1" {
			t.Errorf("walked within a walk: %s", got)
		}
	}
}

func TestP12TheWalkEndsWhenToldAmongTokensAndAmongLeases(t *testing.T) {
	v := openVault(t, willing{})
	v.CreateToken("t0")
	v.Issue("t0", "a", 1, 1)
	v.Issue("t0", "a", 1, 1)
	for stop := 1; stop <= 4; stop++ {
		calls := 0
		v.All()(func(api.Info) bool {
			calls++
			return calls < stop
		})
		if calls != stop {
			t.Errorf("told to end at %d: %d calls", stop, calls)
		}
	}
}

func TestP12TheVaultMayTurnWithinAWalk(t *testing.T) {
	v := openVault(t, willing{})
	v.CreateToken("t0")
	for info := range v.All() {
		v.CreateToken(info.Id)
		v.Issue(info.Id, "a", 1, 1)
	}
	if got := ids(v.All()); !strings.HasPrefix(got, "t0 t1 t2 t3 l1 l2") {
		t.Errorf("walked: %s", got)
	}
}
