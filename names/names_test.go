package names

import (
	"slices"
	"testing"
)

func TestParseReadsWhatStringWrites(t *testing.T) {
	for _, c := range []struct {
		text string
		want Name
	}{
		{"t0", Root()},
		{"t1", Name{Token, 1}},
		{"t10", Name{Token, 10}},
		{"l1", Name{Lease, 1}},
		{"l18446744073709551615", Name{Lease, 1<<64 - 1}},
	} {
		if got := Parse(c.text); got != c.want {
			t.Errorf("Parse(%q) = %v, want %v", c.text, got, c.want)
		}
		if got := c.want.String(); got != c.text {
			t.Errorf("String() = %q, want %q", got, c.text)
		}
	}
}

func TestParseRefusesOtherSpellings(t *testing.T) {
	for _, text := range []string{
		"", "t", "l", "0", "1", "x1", "T1", "L1", "t00", "t01", "l01", "t+1", "t-1", "t 1", " t1", "t1 ", "t1\x00", "t1_0", "t0x1", "t1t1", "tt1",
		"t18446744073709551616", "t18446744073709551617", "é1", "\xff1", "t\xff", "t१",
	} {
		if got := Parse(text); got != (Name{}) {
			t.Errorf("Parse(%q) = %v, want no name", text, got)
		}
	}
}

func TestNoNameIsEmptyText(t *testing.T) {
	if got := (Name{}).String(); got != "" {
		t.Errorf("String() = %q", got)
	}
}

func TestCompareGoesByKindThenNumber(t *testing.T) {
	want := []Name{{}, {Token, 0}, {Token, 2}, {Token, 10}, {Lease, 1}, {Lease, 9}, {Lease, 10}, {Lease, 1<<64 - 1}}
	got := slices.Clone(want)
	slices.Reverse(got)
	slices.SortFunc(got, Name.Compare)
	if !slices.Equal(got, want) {
		t.Errorf("sorted: %v, want %v", got, want)
	}
	if c := Root().Compare(Root()); c != 0 {
		t.Errorf("a name against itself: %d", c)
	}
}
