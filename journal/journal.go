// Package journal keeps records on a disk: those that are added together count together, or not at all, however the disk falls.
package journal

import (
	"errors"
	"slices"
	"strings"

	"leasekeeper/api"
	"leasekeeper/records"
)

// Journal is what records are added to.
type Journal struct {
	disk   api.Disk
	number uint64 // of the file that counts
	err    error  // the first that the disk said
}

// Open opens the journal that a disk has; each record that counts is told, in the order in which they were added.
func Open(disk api.Disk, tell func(records.Record)) (*Journal, error) {
	j := &Journal{disk: disk}
	lines, err := j.find()
	if err != nil {
		return nil, err
	}
	if lines != "" {
		// The last of it may have been written by one whose Sync failed: it must not count now and be lost later.
		if err := disk.Sync(); err != nil {
			return nil, err
		}
	}
	tellAll(lines, tell)
	return j, nil
}

// find looks for the file that counts, and has what stands in it: the last one that begins with a whole line. One that a fall tore never counted, and the one ahead of it is there still.
func (j *Journal) find() (string, error) {
	numbers, err := numbersOn(j.disk)
	if err != nil {
		return "", err
	}
	for _, number := range slices.Backward(numbers) {
		data, err := j.disk.Read(fileOf(number))
		if err != nil {
			return "", err
		}
		if beginsWhole(string(data)) {
			j.number = number
			return string(data), nil
		}
	}
	return j.first()
}

// first has what stands in the first file, which counts however it begins: it is not written as a whole, and there is none until something is added.
func (j *Journal) first() (string, error) {
	data, err := j.disk.Read(firstFile)
	if errors.Is(err, api.ErrNone) {
		return "", nil
	}
	return string(data), err
}

func tellAll(lines string, tell func(records.Record)) {
	for _, line := range strings.Split(lines, lineStart) {
		text, whole := textOf(line)
		if !whole {
			continue
		}
		list, _ := records.Parse(text)
		for _, record := range list {
			tell(record)
		}
	}
}

// Add makes records durable together. Behind an error nothing more is written: what stands on the disk is not known then.
func (j *Journal) Add(list ...records.Record) error {
	if j.err == nil {
		j.err = j.addLine(lineOf(records.Text(list...)))
	}
	return j.err
}

// Replace makes records durable together, in the place of all that were added so far. Behind an error the ones or the others count, and nothing more is written.
func (j *Journal) Replace(list ...records.Record) error {
	if j.err == nil {
		j.err = j.beginAnew(lineOf(records.Text(list...)))
	}
	return j.err
}

// Err is the first error that the disk said, if any.
func (j *Journal) Err() error { return j.err }

func (j *Journal) addLine(line string) error {
	if err := j.disk.Append(fileOf(j.number), []byte(line)); err != nil {
		return err
	}
	return j.disk.Sync()
}

// beginAnew goes on in a new file, which has the line alone. Until that is durable the old one stays.
func (j *Journal) beginAnew(line string) error {
	next := j.number + 1
	if err := j.disk.Write(fileOf(next), []byte(line)); err != nil {
		return err
	}
	if err := j.disk.Sync(); err != nil {
		return err
	}
	j.number = next
	return j.removeOthers()
}

// removeOthers removes what counts no more: what was left when an earlier Replace met an error, too.
func (j *Journal) removeOthers() error {
	numbers, err := numbersOn(j.disk)
	if err != nil {
		return err
	}
	for _, number := range numbers {
		if number == j.number {
			continue
		}
		if err := j.disk.Remove(fileOf(number)); err != nil {
			return err
		}
	}
	return j.disk.Sync()
}
