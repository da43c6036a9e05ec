package journal

import (
	"strconv"
	"strings"
)

// Each line begins with it, and none ends with it: so what is appended behind a torn line stands on a line of its own.
const lineStart = "\n"

const betweenNumbers = " "

// mark is what stands ahead of a text on its line: how many runes the text has, and a sum over them. The first alone tells a torn line, always; the second tells what was never written here.
type mark [2]uint64

// The numbers of the sum that is known as FNV-1a.
const (
	sumStart = 14695981039346656037
	sumTimes = 1099511628211
)

func markOf(text string) mark {
	m := mark{0, sumStart}
	for _, r := range text {
		m[0]++
		m[1] = (m[1] ^ uint64(r)) * sumTimes
	}
	return m
}

func lineOf(text string) string {
	line := lineStart
	for _, number := range markOf(text) {
		line += strconv.FormatUint(number, 10) + betweenNumbers
	}
	return line + text
}

// textOf takes a line, without its start, apart; false: it is torn.
func textOf(line string) (string, bool) {
	var told mark
	text := line
	for i := range told {
		number, rest, _ := strings.Cut(text, betweenNumbers)
		told[i], _ = strconv.ParseUint(number, 10, 64)
		text = rest
	}
	return text, told == markOf(text)
}

// beginsWhole: is the first line of a file whole? A Write that was torn left no such line.
func beginsWhole(lines string) bool {
	_, lines, _ = strings.Cut(lines, lineStart)
	first, _, _ := strings.Cut(lines, lineStart)
	_, whole := textOf(first)
	return whole
}
