// Package journal keeps records on a disk: those that are added together count together, or not at all, however the disk falls.
package journal

import (
	"errors"
	"strings"

	"leasekeeper/api"
	"leasekeeper/records"
)

// It is only ever appended to: a Write that is torn could lose what was durable.
const file = "journal"

// Journal is what records are added to.
type Journal struct {
	disk api.Disk
	err  error // the first that the disk said
}

// Open opens the journal that a disk has; each record that counts is told, in the order in which they were added.
func Open(disk api.Disk, tell func(records.Record)) (*Journal, error) {
	data, err := disk.Read(file)
	if errors.Is(err, api.ErrNone) {
		return &Journal{disk: disk}, nil
	}
	if err != nil {
		return nil, err
	}
	// The last of it may have been added by one whose Sync failed: it must not count now and be lost later.
	if err := disk.Sync(); err != nil {
		return nil, err
	}
	tellAll(string(data), tell)
	return &Journal{disk: disk}, nil
}

func tellAll(lines string, tell func(records.Record)) {
	for _, line := range strings.Split(lines, lineStart) {
		text, whole := textOf(line)
		if !whole {
			continue
		}
		list, _ := records.Parse(text)
		for _, record := range list {
			tell(record)
		}
	}
}

// Add makes records durable together. Behind an error nothing more is written: what stands on the disk is not known then.
func (j *Journal) Add(list ...records.Record) error {
	if j.err == nil {
		j.err = j.write(lineOf(records.Text(list...)))
	}
	return j.err
}

// Err is the first error that the disk said, if any.
func (j *Journal) Err() error { return j.err }

func (j *Journal) write(line string) error {
	if err := j.disk.Append(file, []byte(line)); err != nil {
		return err
	}
	return j.disk.Sync()
}
