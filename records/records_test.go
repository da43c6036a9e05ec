package records_test

import (
	"math"
	"slices"
	"strings"
	"testing"

	"leasekeeper/names"
	"leasekeeper/records"
)

const never = math.MaxUint64

func token(number uint64) names.Name { return names.Name{Kind: names.Token, Number: number} }
func lease(number uint64) names.Name { return names.Name{Kind: names.Lease, Number: number} }

// samples: of each kind, and what is greatest.
func samples() []records.Record {
	return []records.Record{
		{Kind: records.Time},
		{Kind: records.Time, At: never},
		{Kind: records.Kept, Name: token(1), Above: token(0), At: never},
		{Kind: records.Kept, Name: token(12), Above: token(3), Pending: true, At: 100, Tries: 7},
		{Kind: records.Kept, Name: lease(1), Above: token(0), At: 110, Last: 120, Path: "a/b"},
		{Kind: records.Kept, Name: lease(never), Above: token(never), Pending: true, At: never, Tries: math.MaxInt, Last: never, Path: strings.Repeat("-", 24)},
		{Kind: records.Gone, Name: token(5)},
		{Kind: records.Gone, Name: lease(6)},
		{Kind: records.Kept, Name: token(0), At: never},
		{Kind: records.Kept, Name: token(never), Above: token(never), Pending: true, At: never, Tries: math.MaxInt},
		{Kind: records.Used, Name: token(0)},
		{Kind: records.Used, Name: token(never)},
		{Kind: records.Used, Name: lease(never)},
	}
}

func TestTextIsReadAsItWasWritten(t *testing.T) {
	list := samples()
	for i := range list {
		for j := i + 1; j <= len(list); j++ {
			want := list[i:j]
			got, ok := records.Parse(records.Text(want...))
			if !ok || !slices.Equal(got, want) {
				t.Errorf("%v was read as %v, %v", want, got, ok)
			}
		}
	}
}

func TestTextsTellRecordsApart(t *testing.T) {
	seen := map[string]bool{}
	for _, record := range samples() {
		text := records.Text(record)
		if seen[text] || strings.Contains(text, "\n") {
			t.Errorf("%v has the text %q", record, text)
		}
		seen[text] = true
	}
}

// TestTextsAreShort: a vault that is written anew has so much room for each token and lease.
func TestTextsAreShort(t *testing.T) {
	for _, record := range samples() {
		if n := len(records.Text(record, record)) - len(records.Text(record)); n > 200 {
			t.Errorf("%v takes %d bytes", record, n)
		}
	}
}

func TestWhatIsNoRecordIsRefused(t *testing.T) {
	const good = "1 l1 t0 false 110 0 120 a/b"
	if _, ok := records.Parse(good); !ok {
		t.Fatalf("%q is refused", good)
	}
	for _, text := range []string{
		"", " ", ";", "       ", good + ";", ";" + good, good + ";;" + good, good + " ", " " + good, good + " c", "1 l1 t0 false 110 0 120",
		"01 l1 t0 false 110 0 120 a/b", "x l1 t0 false 110 0 120 a/b", " l1 t0 false 110 0 120 a/b",
		"1 l01 t0 false 110 0 120 a/b", "1 x1 t0 false 110 0 120 a/b", "1 l1 t false 110 0 120 a/b", "1 l1 t00 false 110 0 120 a/b",
		"1 l1 t0 False 110 0 120 a/b", "1 l1 t0  110 0 120 a/b", "1 l1 t0 1 110 0 120 a/b",
		"1 l1 t0 false 0110 0 120 a/b", "1 l1 t0 false -1 0 120 a/b", "1 l1 t0 false 18446744073709551616 0 120 a/b", "1 l1 t0 false  0 120 a/b",
		"1 l1 t0 false 110 +1 120 a/b", "1 l1 t0 false 110  120 a/b", "1 l1 t0 false 110 99999999999999999999 120 a/b",
		"1 l1 t0 false 110 0 0x78 a/b", "1 l1 t0 false 110 0  a/b",
		"\xff", "\x00", good + ";\n" + good,
	} {
		if list, ok := records.Parse(text); ok || list != nil {
			t.Errorf("%q was read as %v, %v", text, list, ok)
		}
	}
}
