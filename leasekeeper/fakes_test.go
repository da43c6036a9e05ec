package leasekeeper_test

import (
	"slices"

	"leasekeeper/api"
)

// memory is a disk that never falls.
type memory map[string][]byte

func (m memory) Read(name string) ([]byte, error) {
	data, ok := m[name]
	if !ok {
		return nil, api.ErrNone
	}
	return slices.Clone(data), nil
}

func (m memory) Write(name string, data []byte) error {
	m[name] = slices.Clone(data)
	return nil
}

func (m memory) Append(name string, data []byte) error {
	m[name] = append(m[name], data...)
	return nil
}

func (m memory) Remove(name string) error {
	if _, ok := m[name]; !ok {
		return api.ErrNone
	}
	delete(m, name)
	return nil
}

func (m memory) Names() ([]string, error) {
	var list []string
	for name := range m {
		list = append(list, name)
	}
	slices.Sort(list)
	return list, nil
}

func (m memory) Sync() error { return nil }

// willing is a revoker that never fails.
type willing struct{}

func (willing) Revoke(string) bool { return true }

// asking is a revoker that does what its function does: it may ask the vault itself, or panic.
type asking func(id string) bool

func (a asking) Revoke(id string) bool { return a(id) }

// counted is a disk that counts the calls that write; behind so many (below 0: never) each says an error, though it is done.
type counted struct {
	memory
	writes, left int
	err          error
}

func newCounted() *counted { return &counted{memory: memory{}, left: -1} }

func (c *counted) write() error {
	c.writes++
	if c.left == 0 {
		return c.err
	}
	c.left--
	return nil
}

func (c *counted) Write(name string, data []byte) error {
	c.memory.Write(name, data)
	return c.write()
}

func (c *counted) Append(name string, data []byte) error {
	c.memory.Append(name, data)
	return c.write()
}

func (c *counted) Remove(name string) error {
	c.memory.Remove(name)
	return c.write()
}

func (c *counted) Sync() error { return c.write() }
