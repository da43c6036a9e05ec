package journal_test

import (
	"errors"
	"strings"
	"testing"

	"leasekeeper/api"
	"leasekeeper/journal"
	"leasekeeper/names"
	"leasekeeper/records"
)

var errOdd = errors.New("odd")

func record(number int) records.Record {
	return records.Record{Kind: records.Gone, Name: names.Name{Kind: names.Lease, Number: uint64(number)}}
}

func recordsOf(numbers ...int) []records.Record {
	var list []records.Record
	for _, number := range numbers {
		list = append(list, record(number))
	}
	return list
}

// opened opens the journal, and has the numbers of the records that count.
func opened(t *testing.T, d *disk) (*journal.Journal, string) {
	t.Helper()
	var told []string
	j, err := journal.Open(d, func(r records.Record) { told = append(told, r.Name.String()) })
	if err != nil {
		t.Fatalf("Open: %v", err)
	}
	return j, strings.Join(told, " ")
}

func add(t *testing.T, j *journal.Journal, numbers ...int) {
	t.Helper()
	if err := j.Add(recordsOf(numbers...)...); err != nil {
		t.Fatalf("Add(%v): %v", numbers, err)
	}
}

func wantTold(t *testing.T, d *disk, want string) {
	t.Helper()
	for range 2 {
		if _, got := opened(t, d); got != want {
			t.Errorf("told: %s, want %s", got, want)
		}
	}
}

func TestAnEmptyDiskIsReadAlone(t *testing.T) {
	d := newDisk()
	wantTold(t, d, "")
	if got := strings.Join(d.told, " "); got != "names read names read" {
		t.Errorf("the disk was told: %s", got)
	}
}

func TestWhatWasAddedIsToldInItsOrder(t *testing.T) {
	d := newDisk()
	j, _ := opened(t, d)
	add(t, j, 3)
	add(t, j, 1, 2, 9)
	wantTold(t, d, "l3 l1 l2 l9")
	j, _ = opened(t, d)
	add(t, j, 3, 3)
	wantTold(t, d, "l3 l1 l2 l9 l3 l3")
}

func TestWhatWasAddedIsDurable(t *testing.T) {
	d := newDisk()
	j, _ := opened(t, d)
	add(t, j, 1)
	add(t, j, 2, 3)
	if got := strings.Join(d.told, " "); got != "names read append sync append sync" {
		t.Errorf("the disk was told: %s", got)
	}
	d.fall(0, 0, 0)
	wantTold(t, d, "l1 l2 l3")
}

func TestAllFieldsAreTold(t *testing.T) {
	want := records.Record{
		Kind: records.Kept, Name: names.Name{Kind: names.Lease, Number: 1}, Above: names.Root(),
		Pending: true, At: api.Never, Tries: 4, Last: 9, Path: "a/b",
	}
	d := newDisk()
	j, _ := opened(t, d)
	j.Add(want)
	var got records.Record
	journal.Open(d, func(r records.Record) { got = r })
	if got != want {
		t.Errorf("told: %v, want %v", got, want)
	}
}

// TestATornAddCountsNotAtAll: wherever it is torn, and whatever is added behind it, torn again or not.
func TestATornAddCountsNotAtAll(t *testing.T) {
	for kept, whole := 0, false; !whole; kept++ {
		d := newDisk()
		j, _ := opened(t, d)
		add(t, j, 1, 2)
		d.errors = []error{nil, api.ErrDown}
		if err := j.Add(record(3), record(4), record(5)); err != api.ErrDown {
			t.Fatalf("Add = %v", err)
		}
		whole = kept == len(d.pending[0].data)
		d.fall(1, 0, kept)
		counts := "l1 l2"
		if whole {
			counts += " l3 l4 l5"
		}
		wantTold(t, d, counts)
		j, _ = opened(t, d)
		d.errors = []error{nil, api.ErrDown}
		j.Add(record(6))
		d.fall(1, 0, min(kept, len(d.pending[0].data)-1))
		wantTold(t, d, counts)
		j, _ = opened(t, d)
		add(t, j, 7)
		add(t, j, 8)
		wantTold(t, d, counts+" l7 l8")
	}
}

func TestWhatIsToldIsDurable(t *testing.T) {
	d := newDisk()
	j, _ := opened(t, d)
	d.errors = []error{nil, api.ErrFull}
	if err := j.Add(record(1)); err != api.ErrFull {
		t.Fatalf("Add = %v", err)
	}
	wantTold(t, d, "l1")
	d.fall(0, 0, 0)
	wantTold(t, d, "l1")
}

func TestOpenSaysWhatTheDiskSays(t *testing.T) {
	for i, list := range [][]error{{errOdd}, {api.ErrDown}, {api.ErrNone}, {nil, errOdd}, {nil, api.ErrDown}, {nil, nil, errOdd}, {nil, nil, api.ErrFull}} {
		d := newDisk()
		j, _ := opened(t, d)
		add(t, j, 1)
		d.errors = list
		told := 0
		j, err := journal.Open(d, func(records.Record) { told++ })
		if j != nil || err != list[len(list)-1] || told != 0 {
			t.Errorf("%d: Open = %v, %v, %d told", i, j, err, told)
		}
		wantTold(t, d, "l1")
	}
}

func TestOpenSaysWhatTheDiskSaysOfTheFirstFile(t *testing.T) {
	for text, list := range map[string][]error{"": {nil, nil, errOdd}, "\n1 1": {nil, nil, errOdd}} {
		d := holding(text)
		d.errors = list
		if j, err := journal.Open(d, func(records.Record) {}); j != nil || err != errOdd {
			t.Errorf("over %q: Open = %v, %v", text, j, err)
		}
	}
	d := newDisk()
	d.errors = []error{nil, errOdd}
	if j, err := journal.Open(d, func(records.Record) {}); j != nil || err != errOdd {
		t.Errorf("over an empty disk: Open = %v, %v", j, err)
	}
}

func TestBehindAnErrorNothingIsWritten(t *testing.T) {
	for i, list := range [][]error{{errOdd}, {nil, errOdd}} {
		d := newDisk()
		j, _ := opened(t, d)
		add(t, j, 1)
		if j.Err() != nil {
			t.Errorf("%d: Err = %v", i, j.Err())
		}
		d.errors = list
		if err := j.Add(record(2)); err != errOdd {
			t.Errorf("%d: Add = %v", i, err)
		}
		asked := len(d.told)
		for range 3 {
			if err := j.Add(record(3)); err != errOdd || j.Err() != errOdd {
				t.Errorf("%d: Add = %v, then Err = %v", i, err, j.Err())
			}
		}
		if len(d.told) != asked {
			t.Errorf("%d: the disk was told: %v", i, d.told)
		}
		d.fall(0, 0, 0)
		wantTold(t, d, "l1")
	}
}

// TestWhatIsNoLineIsPassedOver: nothing else writes to the file, but no call may panic, whatever it has.
func TestWhatIsNoLineIsPassedOver(t *testing.T) {
	for _, text := range []string{
		"", "\n", " ", "  ", "\n\n\n", "0", "0 0 ", "\n0 0 \n", "0 14695981039346656037 ", "\n0 14695981039346656037", "1 1 1", "-1 -1 x", "\x00", "\xff\xff", "é 😀 \n",
		"18446744073709551616 18446744073709551616 ", strings.Repeat(" ", 99), strings.Repeat("9", 99), strings.Repeat("\n9 ", 99),
	} {
		d := holding(text)
		wantTold(t, d, "")
		j, _ := opened(t, d)
		add(t, j, 1, 2)
		wantTold(t, d, "l1 l2")
	}
}

func TestALineWithAnotherByteIsPassedOver(t *testing.T) {
	d := newDisk()
	j, _ := opened(t, d)
	add(t, j, 1)
	from := len(d.now["journal"])
	add(t, j, 2)
	to := len(d.now["journal"])
	add(t, j, 3)
	for i := from + 1; i < to; i++ {
		data := []byte(d.now["journal"])
		was := data[i]
		for _, other := range []byte{was ^ 1, '7', ' ', 'x'} {
			if other != was {
				data[i] = other
				wantTold(t, holding(string(data)), "l1 l3")
			}
		}
	}
}
