package journal_test

import (
	"fmt"
	"strings"
	"testing"

	"leasekeeper/api"
	"leasekeeper/journal"
)

func replace(t *testing.T, j *journal.Journal, numbers ...int) {
	t.Helper()
	if err := j.Replace(recordsOf(numbers...)...); err != nil {
		t.Fatalf("Replace(%v): %v", numbers, err)
	}
}

func wantFiles(t *testing.T, d *disk, want string) {
	t.Helper()
	if got := d.files(); got != want {
		t.Errorf("durable: %s, want %s", got, want)
	}
}

func TestWhatReplacesStandsInThePlaceOfAllElse(t *testing.T) {
	d := newDisk()
	j, _ := opened(t, d)
	add(t, j, 1)
	add(t, j, 2, 3)
	replace(t, j, 8, 2)
	d.fall(0, 0, 0)
	wantTold(t, d, "l8 l2")
	wantFiles(t, d, "journal1")
	add(t, j, 4)
	add(t, j, 5, 6)
	d.fall(0, 0, 0)
	wantTold(t, d, "l8 l2 l4 l5 l6")
	j, _ = opened(t, d)
	add(t, j, 7)
	replace(t, j, 9)
	replace(t, j, 9)
	add(t, j, 1)
	wantTold(t, d, "l9 l1")
	wantFiles(t, d, "journal3")
}

func TestReplaceOverAnEmptyDisk(t *testing.T) {
	d := newDisk()
	j, _ := opened(t, d)
	replace(t, j, 1)
	add(t, j, 2)
	d.fall(0, 0, 0)
	wantTold(t, d, "l1 l2")
	wantFiles(t, d, "journal1")
}

func TestTheNewOneIsDurableAheadOfWhatGoes(t *testing.T) {
	d := newDisk()
	j, _ := opened(t, d)
	add(t, j, 1)
	d.told = nil
	replace(t, j, 2)
	if got := strings.Join(d.told, " "); got != "write sync names remove sync" {
		t.Errorf("the disk was told: %s", got)
	}
}

// TestWhatAnEarlierOneLeftGoes: the order of the names is not the order of the numbers.
func TestWhatAnEarlierOneLeftGoes(t *testing.T) {
	d := newDisk()
	j, _ := opened(t, d)
	add(t, j, 100)
	for i := range 12 {
		d.errors = []error{nil, nil, nil, api.ErrFull}
		if err := j.Replace(record(i)); err != api.ErrFull {
			t.Fatalf("Replace = %v", err)
		}
		d.fall(0, 0, 0)
		wantTold(t, d, fmt.Sprint("l", i))
		j, _ = opened(t, d)
	}
	add(t, j, 50)
	wantTold(t, d, "l11 l50")
	wantFiles(t, d, "journal journal1 journal10 journal11 journal12 journal2 journal3 journal4 journal5 journal6 journal7 journal8 journal9")
	replace(t, j, 60)
	wantTold(t, d, "l60")
	wantFiles(t, d, "journal13")
}

func TestFilesOfOthersStay(t *testing.T) {
	d := newDisk()
	others := []string{"", "1", "Journal", "journa", "journal+1", "journal-1", "journal0", "journal01", "journal1 ", "journal18446744073709551616", "journalx", "other", "xjournal"}
	j, _ := opened(t, d)
	add(t, j, 1)
	text := d.now["journal"]
	for _, name := range others {
		d.Write(name, []byte(text))
	}
	d.Sync()
	j, told := opened(t, d)
	if told != "l1" {
		t.Errorf("told: %s", told)
	}
	replace(t, j, 2)
	replace(t, j, 3)
	wantTold(t, d, "l3")
	for _, name := range others {
		if d.durable[name] != text {
			t.Errorf("the file %q is %q", name, d.durable[name])
		}
	}
	if len(d.durable) != len(others)+1 {
		t.Errorf("durable: %s", d.files())
	}
}

// histories are disks with a journal that tells l1 l2, its first line being torn or not, replaced or not, and with leavings of earlier ones.
func histories(t *testing.T) map[string]*disk {
	plain := newDisk()
	j, _ := opened(t, plain)
	add(t, j, 1)
	add(t, j, 2)

	torn := holding("\n12 3")
	j, _ = opened(t, torn)
	add(t, j, 1, 2)

	replaced := newDisk()
	j, _ = opened(t, replaced)
	add(t, j, 7)
	replace(t, j, 1)
	add(t, j, 2)

	tornNext := plain.clone()
	j, _ = opened(t, tornNext)
	tornNext.errors = []error{api.ErrDown}
	j.Replace(record(1), record(2), record(3))
	tornNext.fall(1, 0, 30)

	oldStays := newDisk()
	j, _ = opened(t, oldStays)
	add(t, j, 7)
	oldStays.errors = []error{nil, nil, nil, api.ErrDown}
	j.Replace(record(1))
	oldStays.fall(0, 0, 0)
	j, _ = opened(t, oldStays)
	add(t, j, 2)

	tornFar := plain.clone()
	tornFar.Write("journal9", []byte("\n1"))
	tornFar.Sync()

	return map[string]*disk{"plain": plain, "torn": torn, "replaced": replaced, "tornNext": tornNext, "tornFar": tornFar, "oldStays": oldStays}
}

// TestReplaceCountsAsAWholeOrNotAtAll: whichever of its calls the disk falls at, whatever is kept, wherever a Write is torn.
func TestReplaceCountsAsAWholeOrNotAtAll(t *testing.T) {
	for name, history := range histories(t) {
		for calls := range 7 {
			for bits := range 8 {
				for bytes := range 80 {
					d := history.clone()
					j, told := opened(t, d)
					if told != "l1 l2" {
						t.Fatalf("%s: told: %s", name, told)
					}
					d.errors = append(make([]error, calls), api.ErrDown)
					err := j.Replace(record(8), record(9))
					d.errors = nil
					d.fall(bits, 0, bytes)
					got := toldAnyOf(t, d, "l1 l2", "l8 l9")
					if (err == nil || calls > 1) && got != "l8 l9" {
						t.Fatalf("%s behind %d calls: %v, told: %s", name, calls, err, got)
					}
					goOn(t, d, got)
				}
			}
		}
	}
}

func toldAnyOf(t *testing.T, d *disk, wants ...string) string {
	t.Helper()
	_, got := opened(t, d)
	for _, want := range wants {
		if got == want {
			return got
		}
	}
	t.Fatalf("told: %s, want any of %q", got, wants)
	return ""
}

// goOn: what is added and replaced behind a fall counts, too.
func goOn(t *testing.T, d *disk, told string) {
	t.Helper()
	j, _ := opened(t, d)
	add(t, j, 3)
	d.fall(0, 0, 0)
	wantTold(t, d, told+" l3")
	replace(t, j, 4)
	add(t, j, 5)
	d.fall(0, 0, 0)
	wantTold(t, d, "l4 l5")
	if len(d.durable) != 1 {
		t.Errorf("durable: %s", d.files())
	}
}

// TestAReplaceThatCountsOnceCountsForGood: it was not durable when it met the error, but no fall came ahead of the next Open.
func TestAReplaceThatCountsOnceCountsForGood(t *testing.T) {
	d := newDisk()
	j, _ := opened(t, d)
	add(t, j, 1)
	d.errors = []error{nil, api.ErrFull}
	if err := j.Replace(record(2)); err != api.ErrFull {
		t.Fatalf("Replace = %v", err)
	}
	wantTold(t, d, "l2")
	d.fall(0, 0, 0)
	wantTold(t, d, "l2")
}

func TestBehindAnErrorOfReplaceNothingIsWritten(t *testing.T) {
	for calls := range 5 {
		for _, want := range []error{errOdd, api.ErrNone, api.ErrFull} {
			d := newDisk()
			j, _ := opened(t, d)
			add(t, j, 1)
			d.errors = append(make([]error, calls), want)
			if err := j.Replace(record(2)); err != want || j.Err() != want {
				t.Errorf("behind %d calls: Replace = %v, then Err = %v", calls, err, j.Err())
			}
			asked := len(d.told)
			if err := j.Replace(record(3)); err != want {
				t.Errorf("behind %d calls: Replace = %v", calls, err)
			}
			if err := j.Add(record(3)); err != want {
				t.Errorf("behind %d calls: Add = %v", calls, err)
			}
			if len(d.told) != asked {
				t.Errorf("behind %d calls the disk was told: %v", calls, d.told)
			}
		}
	}
}

func TestBehindAnErrorOfAddNothingIsReplaced(t *testing.T) {
	d := newDisk()
	j, _ := opened(t, d)
	d.errors = []error{errOdd}
	j.Add(record(1))
	asked := len(d.told)
	if err := j.Replace(record(2)); err != errOdd || len(d.told) != asked {
		t.Errorf("Replace = %v, the disk was told: %v", err, d.told)
	}
}

func TestReplaceByNothing(t *testing.T) {
	d := newDisk()
	j, _ := opened(t, d)
	add(t, j, 1)
	replace(t, j)
	d.fall(0, 0, 0)
	wantTold(t, d, "")
	add(t, j, 2)
	wantTold(t, d, "l2")
}
