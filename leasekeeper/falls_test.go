package leasekeeper_test

import (
	"fmt"
	"math"
	"math/rand"
	"slices"
	"strings"
	"testing"

	"leasekeeper/api"
	"leasekeeper/plain"
)

func (m *model) clone() *model {
	other := *m
	other.tokens, other.leases = cloned(m.tokens), cloned(m.leases)
	return &other
}

func cloned(list []*thing) []*thing {
	var others []*thing
	for _, x := range list {
		other := *x
		others = append(others, &other)
	}
	return others
}

// opened: what is durable of the model, opened at the time now.
func (m *model) opened(now uint64) *model {
	other := m.clone()
	other.time = max(now, m.durable)
	return other
}

// after: the model behind a call of so many tries.
func (m *model) after(c call, tries int) *model {
	other := m.clone()
	c.do(other, tries)
	return other
}

func isOfDisk(e api.Errno) bool { return e == api.ErrFull || e == api.ErrDown }

// fall: mostly none.
func (c chooser) fall() plain.Fall {
	f := plain.Fall{Left: -1, Full: -1, Kept: c.Int(), Part: c.Int()}
	switch c.Intn(10) {
	case 0, 1:
		f.Left = c.Intn(6)
	case 2, 3:
		f.Full = c.Intn(6)
	}
	return f
}

// run is a vault and its model, over a disk that falls, and all that was done.
type run struct {
	*testing.T
	chooser
	h    *plain.Host
	m    *model
	done []string
}

func (r *run) note(what ...any) { r.done = append(r.done, fmt.Sprint(what...)) }

func (r *run) fail(what ...any) {
	r.Helper()
	r.Fatalf("%s\n%s", strings.Join(r.done, "\n"), fmt.Sprint(what...))
}

// step does a call over a disk that may fall at it.
func (r *run) step() {
	call, f := r.call(r.m), r.fall()
	got, e := call.ask(r.h, f)
	r.note(call.text, " ", f, " = ", got, " ", e)
	if isOfDisk(e) {
		r.fallen(call, got)
		return
	}
	if want, wantErr := call.do(r.m, math.MaxInt); got != want || e != wantErr {
		r.fail("want ", want, " ", wantErr)
	}
	wantModel(r.T, r.h, r.m, r.done)
	if call.isCompact {
		wantRoom(r.T, r.h)
	}
	if r.Intn(10) == 0 {
		r.reopen(r.m)
	}
}

// fallen: the disk said an error at a call. What was tried ahead of the last try counts; the last one, and all else that the call would have turned, counts or not.
func (r *run) fallen(c call, answer string) {
	tries := len(strings.Fields(answer))
	switch {
	case !c.isTick && answer != "":
		r.fail("P1: an answer beside an error")
	case c.isTick && tries == 0:
		r.fail("P14: a Tick that tries nothing, over a disk that was well, says an error")
	}
	before := r.m.clone()
	if c.isTick {
		before = r.m.after(c, tries-1)
	}
	whole := r.m.after(c, tries)
	if want, _ := c.do(r.m.clone(), tries); c.isTick && answer != want {
		r.fail("P10: want ", want)
	}
	r.m = before
	if r.h.Is() {
		r.refused()
	}
	// What the Tick of a vault that writes no more turned in the time alone is not durable.
	r.reopen(before, whole)
}

// refused: a vault that met an error says it of whatever would turn something, and is as ever beside that.
func (r *run) refused() {
	wantModel(r.T, r.h, r.m, r.done)
	for range r.Intn(8) {
		call := r.call(r.m)
		want, wantErr := call.do(r.m.clone(), math.MaxInt)
		turns := call.isCompact || !slices.Equal(r.m.all(), r.m.after(call, math.MaxInt).all())
		if call.isTick {
			turns = want != ""
			call.do(r.m, 0)
		}
		got, e := call.ask(r.h, r.fall())
		r.note("refused: ", call.text, " = ", got, " ", e)
		switch {
		case turns && (got != "" || !isOfDisk(e)):
			r.fail("P14: want an error of the disk")
		case !turns && (got != want || e != wantErr):
			r.fail("P14: want ", want, " ", wantErr)
		}
		if !r.h.Is() {
			r.fail("P14: the disk went down by a call that was to write nothing")
		}
		wantModel(r.T, r.h, r.m, r.done)
	}
}

// reopen opens the vault anew, several times, the disk falling meanwhile or not: it has just what one of the models has.
func (r *run) reopen(models ...*model) {
	now := r.now(r.m)
	if r.Intn(3) == 0 {
		now = uint64(r.Intn(200))
	}
	var left []*model
	for i := range 2 + r.Intn(3) {
		if r.Intn(2) == 0 || !r.h.Is() && i == 0 {
			r.h.Lose(r.Int(), r.Int())
			r.note("lost")
		}
		if f := r.fall(); f != well {
			e := r.h.Open(now, f)
			r.note("Open ", now, " ", f, " = ", e)
			if e != api.OK && (r.h.Is() || !isOfDisk(e)) {
				r.fail("P14: Open says another error, or has a vault beside it")
			}
		}
		if e := r.h.Open(now, well); e != api.OK {
			r.fail("P13: Open = ", e)
		}
		got := all(r.T, r.h)
		left = nil
		for _, m := range models {
			if opened := m.opened(now); slices.Equal(got, opened.all()) {
				left = append(left, opened)
			}
		}
		if len(left) == 0 {
			r.fail("P13, P15: opened at ", now, ": ", got)
		}
		models = left
	}
	r.note("opened at ", now)
	r.m = left[0]
	wantModel(r.T, r.h, r.m, r.done)
	if len(left) > 1 {
		r.settle(left)
	}
}

// settle: whether a Compact that fell counts is told by the time alone, which is not always to be seen; behind a Tick of the later one, and a Compact that does not fall, it is the same.
func (r *run) settle(models []*model) {
	for _, m := range models {
		if m.time > r.m.time {
			r.m = m
		}
	}
	for _, call := range []call{tickCall(r.m.time, 0), compactCall()} {
		got, e := call.ask(r.h, well)
		r.note(call.text, " = ", got, " ", e)
		if want, wantErr := call.do(r.m, math.MaxInt); got != want || e != wantErr {
			r.fail("want ", want, " ", wantErr)
		}
	}
	wantModel(r.T, r.h, r.m, r.done)
	wantRoom(r.T, r.h)
}

func TestP13ToP16TheVaultDoesWhatTheModelDoesHoweverTheDiskFalls(t *testing.T) {
	for seed := range int64(200) {
		r := &run{T: t, chooser: chooser{rand.New(rand.NewSource(seed))}, h: open(t, 100), m: newModel(100)}
		r.note("seed ", seed)
		for range 200 {
			r.step()
		}
	}
}
