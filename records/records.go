// Package records has what is written down of tokens and leases, and its text.
package records

import (
	"strconv"
	"strings"

	"leasekeeper/names"
)

// Kind says what a record tells. The numbers stand on disks, so that a new kind comes behind the others.
type Kind int

const (
	Time Kind = iota // it was At when the records beside this one were made
	Kept             // the token or lease is not gone, and stands like this
	Gone             // the token or lease is gone; its name stays used
	Used             // the name was given, and of its kind all lower ones; of what is gone nothing else may be left that tells it
)

// Record tells one thing; what its kind has no use for is zero.
type Record struct {
	Kind    Kind
	Name    names.Name
	Above   names.Name
	Pending bool
	At      uint64
	Tries   int
	Last    uint64
	Path    string
}

// Neither stands in a field: a path has none of them.
const (
	betweenFields  = " "
	betweenRecords = ";"
)

// Text writes records that stand together, on one line.
func Text(list ...Record) string {
	texts := make([]string, len(list))
	for i, record := range list {
		texts[i] = record.String()
	}
	return strings.Join(texts, betweenRecords)
}

// Parse reads what Text writes; false: Text does not write this.
func Parse(text string) ([]Record, bool) {
	var list []Record
	for _, part := range strings.Split(text, betweenRecords) {
		record, ok := parseOne(part)
		if !ok {
			return nil, false
		}
		list = append(list, record)
	}
	return list, true
}

// String writes one record.
func (r Record) String() string {
	return strings.Join([]string{
		strconv.Itoa(int(r.Kind)),
		r.Name.String(),
		r.Above.String(),
		strconv.FormatBool(r.Pending),
		strconv.FormatUint(r.At, 10),
		strconv.Itoa(r.Tries),
		strconv.FormatUint(r.Last, 10),
		r.Path,
	}, betweenFields)
}

// parseOne leaves it to String to say whether a field was none: that is not written as it was read.
func parseOne(text string) (Record, bool) {
	fields := strings.Split(text, betweenFields)
	if len(fields) != 8 {
		return Record{}, false
	}
	kind, _ := strconv.Atoi(fields[0])
	at, _ := strconv.ParseUint(fields[4], 10, 64)
	tries, _ := strconv.Atoi(fields[5])
	last, _ := strconv.ParseUint(fields[6], 10, 64)
	record := Record{
		Kind:    Kind(kind),
		Name:    names.Parse(fields[1]),
		Above:   names.Parse(fields[2]),
		Pending: fields[3] == strconv.FormatBool(true),
		At:      at,
		Tries:   tries,
		Last:    last,
		// A copy, since a path would hold on to the whole text that it was cut from.
		Path: strings.Clone(fields[7]),
	}
	if record.String() != text {
		return Record{}, false
	}
	return record, true
}
