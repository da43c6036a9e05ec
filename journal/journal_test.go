package journal_test

import (
	"errors"
	"fmt"
	"slices"
	"strings"
	"testing"

	"leasekeeper/api"
	"leasekeeper/journal"
	"leasekeeper/names"
	"leasekeeper/records"
)

// disk has one file. It says what it was told, and fails as often as it has errors, nil being none.
type disk struct {
	durable, now []byte
	exists       bool
	told         []string
	errors       []error
}

func (d *disk) tell(what string) error {
	d.told = append(d.told, what)
	if len(d.errors) == 0 {
		return nil
	}
	err := d.errors[0]
	d.errors = d.errors[1:]
	return err
}

func (d *disk) Read(string) ([]byte, error) {
	if err := d.tell("read"); err != nil {
		return nil, err
	}
	if !d.exists {
		return nil, fmt.Errorf("journal: %w", api.ErrNone)
	}
	return slices.Clone(d.now), nil
}

// Append scribbles over what it was handed, as a disk may that takes it over.
func (d *disk) Append(_ string, data []byte) error {
	err := d.tell("append")
	if err == nil {
		d.now, d.exists = append(d.now, data...), true
	}
	for i := range data {
		data[i] = '!'
	}
	return err
}

func (d *disk) Sync() error {
	err := d.tell("sync")
	if err == nil {
		d.durable = slices.Clone(d.now)
	}
	return err
}

func (d *disk) Write(string, []byte) error { return d.tell("write") }
func (d *disk) Remove(string) error        { return d.tell("remove") }
func (d *disk) Names() ([]string, error)   { return nil, d.tell("names") }

// fall: of what is not durable so many bytes are kept.
func (d *disk) fall(kept int) {
	d.now = slices.Clone(d.now[:len(d.durable)+kept])
	d.durable = slices.Clone(d.now)
}

var errOdd = errors.New("odd")

func record(number int) records.Record {
	return records.Record{Kind: records.Gone, Name: names.Name{Kind: names.Lease, Number: uint64(number)}}
}

// opened opens the journal, and has the numbers of the records that count.
func opened(t *testing.T, d *disk) (*journal.Journal, string) {
	t.Helper()
	var told []string
	j, err := journal.Open(d, func(r records.Record) { told = append(told, r.Name.String()) })
	if err != nil {
		t.Fatalf("Open: %v", err)
	}
	return j, strings.Join(told, " ")
}

func add(t *testing.T, j *journal.Journal, numbers ...int) {
	t.Helper()
	var list []records.Record
	for _, number := range numbers {
		list = append(list, record(number))
	}
	if err := j.Add(list...); err != nil {
		t.Fatalf("Add(%v): %v", numbers, err)
	}
}

func wantTold(t *testing.T, d *disk, want string) {
	t.Helper()
	for range 2 {
		if _, got := opened(t, d); got != want {
			t.Errorf("told: %s, want %s", got, want)
		}
	}
}

func TestAnEmptyDiskIsReadAlone(t *testing.T) {
	d := &disk{}
	wantTold(t, d, "")
	if got := strings.Join(d.told, " "); got != "read read" {
		t.Errorf("the disk was told: %s", got)
	}
}

func TestWhatWasAddedIsToldInItsOrder(t *testing.T) {
	d := &disk{}
	j, _ := opened(t, d)
	add(t, j, 3)
	add(t, j, 1, 2, 9)
	wantTold(t, d, "l3 l1 l2 l9")
	j, _ = opened(t, d)
	add(t, j, 3, 3)
	wantTold(t, d, "l3 l1 l2 l9 l3 l3")
}

func TestWhatWasAddedIsDurable(t *testing.T) {
	d := &disk{}
	j, _ := opened(t, d)
	add(t, j, 1)
	add(t, j, 2, 3)
	if got := strings.Join(d.told, " "); got != "read append sync append sync" {
		t.Errorf("the disk was told: %s", got)
	}
	d.fall(0)
	wantTold(t, d, "l1 l2 l3")
}

func TestAllFieldsAreTold(t *testing.T) {
	want := records.Record{
		Kind: records.Kept, Name: names.Name{Kind: names.Lease, Number: 1}, Above: names.Root(),
		Pending: true, At: api.Never, Tries: 4, Last: 9, Path: "a/b",
	}
	d := &disk{}
	j, _ := opened(t, d)
	j.Add(want)
	var got records.Record
	journal.Open(d, func(r records.Record) { got = r })
	if got != want {
		t.Errorf("told: %v, want %v", got, want)
	}
}

// TestATornAddCountsNotAtAll: wherever it is torn, and whatever is added behind it, torn again or not.
func TestATornAddCountsNotAtAll(t *testing.T) {
	for kept, whole := 0, false; !whole; kept++ {
		d := &disk{}
		j, _ := opened(t, d)
		add(t, j, 1, 2)
		d.errors = []error{nil, api.ErrDown}
		if err := j.Add(record(3), record(4), record(5)); err != api.ErrDown {
			t.Fatalf("Add = %v", err)
		}
		whole = len(d.durable)+kept == len(d.now)
		d.fall(kept)
		counts := "l1 l2"
		if whole {
			counts += " l3 l4 l5"
		}
		wantTold(t, d, counts)
		j, _ = opened(t, d)
		d.errors = []error{nil, api.ErrDown}
		j.Add(record(6))
		d.fall(min(kept, len(d.now)-len(d.durable)-1))
		wantTold(t, d, counts)
		j, _ = opened(t, d)
		add(t, j, 7)
		add(t, j, 8)
		wantTold(t, d, counts+" l7 l8")
	}
}

func TestWhatIsToldIsDurable(t *testing.T) {
	d := &disk{}
	j, _ := opened(t, d)
	d.errors = []error{nil, api.ErrFull}
	if err := j.Add(record(1)); err != api.ErrFull {
		t.Fatalf("Add = %v", err)
	}
	wantTold(t, d, "l1")
	d.fall(0)
	wantTold(t, d, "l1")
}

func TestOpenSaysWhatTheDiskSays(t *testing.T) {
	for i, list := range [][]error{{errOdd}, {api.ErrDown}, {nil, errOdd}, {nil, api.ErrFull}} {
		d := &disk{}
		j, _ := opened(t, d)
		add(t, j, 1)
		d.errors = list
		told := 0
		j, err := journal.Open(d, func(records.Record) { told++ })
		if j != nil || err != list[len(list)-1] || told != 0 {
			t.Errorf("%d: Open = %v, %v, %d told", i, j, err, told)
		}
		wantTold(t, d, "l1")
	}
}

func TestBehindAnErrorNothingIsWritten(t *testing.T) {
	for i, list := range [][]error{{errOdd}, {nil, errOdd}} {
		d := &disk{}
		j, _ := opened(t, d)
		add(t, j, 1)
		if j.Err() != nil {
			t.Errorf("%d: Err = %v", i, j.Err())
		}
		d.errors = list
		if err := j.Add(record(2)); err != errOdd {
			t.Errorf("%d: Add = %v", i, err)
		}
		asked := len(d.told)
		for range 3 {
			if err := j.Add(record(3)); err != errOdd || j.Err() != errOdd {
				t.Errorf("%d: Add = %v, then Err = %v", i, err, j.Err())
			}
		}
		if len(d.told) != asked {
			t.Errorf("%d: the disk was told: %v", i, d.told)
		}
		d.fall(0)
		wantTold(t, d, "l1")
	}
}

// TestWhatIsNoLineIsPassedOver: nothing else writes to the file, but no call may panic, whatever it has.
func TestWhatIsNoLineIsPassedOver(t *testing.T) {
	for _, text := range []string{
		"", "\n", " ", "  ", "\n\n\n", "0", "0 0 ", "\n0 0 \n", "0 14695981039346656037 ", "\n0 14695981039346656037", "1 1 1", "-1 -1 x", "\x00", "\xff\xff", "é 😀 \n",
		"18446744073709551616 18446744073709551616 ", strings.Repeat(" ", 99), strings.Repeat("9", 99), strings.Repeat("\n9 ", 99),
	} {
		d := &disk{now: []byte(text), exists: true}
		wantTold(t, d, "")
		j, _ := opened(t, d)
		add(t, j, 1, 2)
		wantTold(t, d, "l1 l2")
	}
}

func TestALineWithAnotherByteIsPassedOver(t *testing.T) {
	d := &disk{}
	j, _ := opened(t, d)
	add(t, j, 1)
	from := len(d.now)
	add(t, j, 2)
	to := len(d.now)
	add(t, j, 3)
	for i := from + 1; i < to; i++ {
		for _, other := range []byte{d.now[i] ^ 1, '7', ' ', 'x'} {
			if other == d.now[i] {
				continue
			}
			odd := &disk{now: slices.Clone(d.now), exists: true}
			odd.now[i] = other
			wantTold(t, odd, "l1 l3")
		}
	}
}
