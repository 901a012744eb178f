package tests

import (
	"bytes"
	"math/rand"
	"testing"

	"loop.example/s02127/impl"
)

// filled is a text of n bytes x.
func filled(n int, x byte) []byte {
	return bytes.Repeat([]byte{x}, n)
}

// ramp is a text of n bytes in which neighbours differ, so that a shifted copy shows.
func ramp(n int, from byte) []byte {
	b := make([]byte, n)
	for i := range b {
		b[i] = from + byte(i)*7
	}
	return b
}

func randomText(r *rand.Rand, n int) []byte {
	b := make([]byte, n)
	r.Read(b)
	return b
}

// withRoom is b with room behind its end: an append to a part of it would
// write there.
func withRoom(b []byte) []byte {
	return append(make([]byte, 0, len(b)+300), b...)
}

func cloneDev(d impl.Dev) impl.Dev {
	c := d
	c.Disk = append([]byte{}, d.Disk...)
	c.Cache = nil
	for _, p := range d.Cache {
		c.Cache = append(c.Cache, impl.Pend{Sector: p.Sector, Data: append([]byte{}, p.Data...)})
	}
	return c
}

// sameDev holds an empty list and nil for the same value.
func sameDev(a, b impl.Dev) bool {
	if !bytes.Equal(a.Disk, b.Disk) || a.Fuel != b.Fuel || a.Dead != b.Dead || len(a.Cache) != len(b.Cache) {
		return false
	}
	for i, p := range a.Cache {
		if p.Sector != b.Cache[i].Sector || !bytes.Equal(p.Data, b.Cache[i].Data) {
			return false
		}
	}
	return true
}

// bytesOf names every list of bytes of a device, each up to its capacity:
// memory behind the length is shared too if an append would reach it.
func bytesOf(d impl.Dev) [][]byte {
	lists := [][]byte{d.Disk[:cap(d.Disk)]}
	for _, p := range d.Cache {
		lists = append(lists, p.Data[:cap(p.Data)])
	}
	return lists
}

func cloneLists(lists [][]byte) [][]byte {
	var c [][]byte
	for _, b := range lists {
		c = append(c, append([]byte{}, b...))
	}
	return c
}

func flip(b []byte) {
	for i := range b {
		b[i] = ^b[i]
	}
}

// wantApart spoils each list of an answer in turn and looks whether any other
// list, of the answer or of the arguments, changes with it.
func wantApart(t *testing.T, what string, answer [][]byte, given [][]byte) {
	t.Helper()
	all := append(append([][]byte{}, answer...), given...)
	was := cloneLists(all)
	for i, b := range answer {
		flip(b)
		for j, other := range all {
			if j != i && !bytes.Equal(other, was[j]) {
				t.Fatalf("%s: list %d of the answer shares memory with list %d of %d and %d", what, i, j, len(answer), len(given))
			}
		}
		flip(b)
	}
}

// wantDevApart does the same with the list of the cache's entries.
func wantDevApart(t *testing.T, what string, answer impl.Dev, given impl.Dev, more ...[]byte) {
	t.Helper()
	wantApart(t, what, bytesOf(answer), append(bytesOf(given), more...))
	before := cloneDev(given)
	entries := answer.Cache[:cap(answer.Cache)]
	for i := range entries {
		entries[i] = impl.Pend{Sector: -77}
	}
	if !sameDev(given, before) {
		t.Fatalf("%s: the cache of the answer is that of the argument", what)
	}
}
