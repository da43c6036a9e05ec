package paths

import (
	"strings"
	"testing"
)

func TestPaths(t *testing.T) {
	for _, text := range []string{
		"a", "z", "0", "9", "-", "--", "a/b", "a-b/c", "x-1/y/0", "-/-", "a/b/c/d/e/f/g/h/i/j/k",
		strings.Repeat("a", 24), strings.Repeat("a/", 11) + "bc",
	} {
		if !Valid(text) {
			t.Errorf("Valid(%q) = false", text)
		}
	}
}

func TestNoPaths(t *testing.T) {
	for _, text := range []string{
		"", "/", "//", "/a", "a/", "a//b", "A", "aB", "a_b", "a.b", "a b", " a", "a ", "a\n", "a\x00", "a\\b", "`", "{", ":", ",", ".",
		"é", "aé", "\xff", "a\xff", "\xc3", "\ufffd", "a\ufffdb", "٣", "ａ",
		strings.Repeat("a", 25), strings.Repeat("a/", 12) + "b", strings.Repeat("a/", 12), strings.Repeat("a", 1<<16),
	} {
		if Valid(text) {
			t.Errorf("Valid(%q) = true", text)
		}
	}
}

func TestWithin(t *testing.T) {
	longest := strings.Repeat("x", 24)
	for _, c := range []struct {
		path, prefix string
		want         bool
	}{
		{"a", "", true}, {"a/b", "", true}, {longest, "", true},
		{"a", "a", true}, {"a/b", "a", true}, {"a/b/c", "a", true}, {"a/b", "a/b", true}, {"a/b/c", "a/b", true}, {longest, longest, true},
		{"ab", "a", false}, {"a-b", "a", false}, {"a-/b", "a", false}, {"ab/c", "a/b", false}, {"a/bc", "a/b", false}, {"a", "a/b", false}, {"b/a", "a", false}, {"aa/a", "a", false}, {longest, longest[1:], false},
	} {
		if got := Within(c.path, c.prefix); got != c.want {
			t.Errorf("Within(%q, %q) = %v", c.path, c.prefix, got)
		}
	}
}
