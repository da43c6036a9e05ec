package journal_test

import (
	"fmt"
	"maps"
	"slices"
	"strings"

	"leasekeeper/api"
)

// op is what a disk was told to do; of what is not durable yet any may be lost.
type op struct{ kind, name, data string }

func (o op) do(files map[string]string) {
	switch o.kind {
	case "write":
		files[o.name] = o.data
	case "append":
		files[o.name] += o.data
	case "remove":
		delete(files, o.name)
	}
}

// disk says what it was told, and fails as often as it has errors, nil being none.
type disk struct {
	durable, now map[string]string
	pending      []op
	told         []string
	errors       []error
}

func newDisk() *disk { return &disk{durable: map[string]string{}, now: map[string]string{}} }

// holding is a disk whose first file is this.
func holding(text string) *disk {
	d := newDisk()
	d.durable["journal"], d.now["journal"] = text, text
	return d
}

func (d *disk) clone() *disk {
	return &disk{durable: maps.Clone(d.durable), now: maps.Clone(d.now), pending: slices.Clone(d.pending)}
}

func (d *disk) tell(what string) error {
	d.told = append(d.told, what)
	if len(d.errors) == 0 {
		return nil
	}
	err := d.errors[0]
	d.errors = d.errors[1:]
	return err
}

// turn: what fails may be done all the same, when the disk falls.
func (d *disk) turn(o op) error {
	err := d.tell(o.kind)
	if err == nil {
		o.do(d.now)
	}
	d.pending = append(d.pending, o)
	return err
}

func (d *disk) Read(name string) ([]byte, error) {
	if err := d.tell("read"); err != nil {
		return nil, err
	}
	text, ok := d.now[name]
	if !ok {
		return nil, fmt.Errorf("%s: %w", name, api.ErrNone)
	}
	return []byte(text), nil
}

func (d *disk) Write(name string, data []byte) error {
	defer scribble(data)
	return d.turn(op{"write", name, string(data)})
}

func (d *disk) Append(name string, data []byte) error {
	defer scribble(data)
	return d.turn(op{"append", name, string(data)})
}

// scribble: a disk may take over what it was handed.
func scribble(data []byte) {
	for i := range data {
		data[i] = '!'
	}
}

func (d *disk) Remove(name string) error {
	if _, ok := d.now[name]; !ok {
		return api.ErrNone
	}
	return d.turn(op{"remove", name, ""})
}

func (d *disk) Names() ([]string, error) {
	if err := d.tell("names"); err != nil {
		return nil, err
	}
	return slices.Sorted(maps.Keys(d.now)), nil
}

func (d *disk) Sync() error {
	err := d.tell("sync")
	if err == nil {
		d.durable, d.pending = maps.Clone(d.now), nil
	}
	return err
}

// fall: of what is not durable so much is kept as its bits say; of the torn one so many bytes.
func (d *disk) fall(bits int, torn int, bytes int) {
	for i, o := range d.pending {
		if i == torn {
			o.data = o.data[:min(bytes, len(o.data))]
		}
		if bits>>i&1 == 1 {
			o.do(d.durable)
		}
	}
	d.now, d.pending = maps.Clone(d.durable), nil
}

// files are the names of those that are durable.
func (d *disk) files() string { return strings.Join(slices.Sorted(maps.Keys(d.durable)), " ") }
