package tests

import (
	"testing"

	"loop.example/s02127/impl"
)

// memoryDevs are small devices for every path that a step takes, valid or not.
func memoryDevs() []namedDev {
	var small []namedDev
	for _, c := range edgeDevs() {
		if len(c.dev.Cache) <= 12 {
			small = append(small, c)
		}
	}
	return small
}

// roomy is d with lists that have room behind their end: an append to a part
// of the argument would write there.
func roomy(d impl.Dev) impl.Dev {
	r := cloneDev(d)
	r.Disk = append(make([]byte, 0, len(d.Disk)+256), d.Disk...)
	r.Cache = make([]impl.Pend, 0, len(d.Cache)+4)
	for _, p := range d.Cache {
		r.Cache = append(r.Cache, impl.Pend{Sector: p.Sector, Data: append(make([]byte, 0, len(p.Data)+80), p.Data...)})
	}
	return r
}

func TestReadsAreNewMemory(t *testing.T) {
	for _, c := range memoryDevs() {
		d := roomy(c.dev)
		for _, s := range []int64{0, 3, 7} {
			got := impl.DevRead(d, s)
			wantApart(t, "read of "+c.name, [][]byte{got[:cap(got)]}, bytesOf(d))
		}
	}
}

func TestWritesAreNewMemory(t *testing.T) {
	for _, c := range memoryDevs() {
		for _, size := range []int{63, 64} {
			d := roomy(c.dev)
			data := append(make([]byte, 0, 200), ramp(size, 1)...)
			wantDevApart(t, "write to "+c.name, impl.DevWrite(d, 3, data), d, data[:cap(data)])
		}
	}
}

func TestSyncsAreNewMemory(t *testing.T) {
	for _, c := range memoryDevs() {
		d := roomy(c.dev)
		wantDevApart(t, "sync of "+c.name, impl.DevSync(d), d)
	}
}

func TestCrashesAreNewMemory(t *testing.T) {
	for _, c := range memoryDevs() {
		for _, crash := range []impl.Crash{{Tear: -1}, {Keep: []bool{true, true, true}, Tear: 0, At: 7}} {
			d := roomy(c.dev)
			wantDevApart(t, "crash of "+c.name, impl.DevCrash(d, crash), d)
		}
	}
}

// Two writes of the same text are two lists, though the text is one.
func TestTwoWritesOfOneText(t *testing.T) {
	data := ramp(64, 1)
	d := impl.DevWrite(impl.DevWrite(impl.DevNew(8), 1, data), 1, data)
	wantDevApart(t, "two writes", impl.DevWrite(d, 2, data), d, data)
}

// Memory behind the end of an argument's list is the caller's too.
func TestRoomBehindAnArgumentStays(t *testing.T) {
	d := roomy(withCache(devOf(8), 3))
	impl.DevWrite(d, 3, ramp(64, 1))
	impl.DevSync(d)
	impl.DevCrash(d, impl.Crash{Keep: []bool{true, true, true}, Tear: 1, At: 9})
	for _, p := range d.Cache[len(d.Cache):cap(d.Cache)] {
		if p.Sector != 0 || p.Data != nil {
			t.Errorf("an entry was put behind the argument's cache")
		}
	}
	for _, x := range d.Disk[len(d.Disk):cap(d.Disk)] {
		if x != 0 {
			t.Errorf("a byte was put behind the argument's disk")
		}
	}
}
