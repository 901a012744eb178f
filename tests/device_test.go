package tests

import (
	"bytes"
	"math"
	"testing"

	"loop.example/s02127/impl"
)

// devOf is a device of n sectors, each filled with its own number plus 100.
func devOf(n int) impl.Dev {
	d := impl.Dev{Fuel: -1}
	for s := range n {
		d.Disk = append(d.Disk, filled(64, byte(100+s))...)
	}
	return d
}

// withCache adds n writes, all to sectors 0 to 7 in turn.
func withCache(d impl.Dev, n int) impl.Dev {
	d = cloneDev(d)
	for i := range n {
		d.Cache = append(d.Cache, impl.Pend{Sector: int64(i % 8), Data: ramp(64, byte(i))})
	}
	return d
}

func withEntry(d impl.Dev, s int64, data []byte) impl.Dev {
	d = cloneDev(d)
	d.Cache = append(d.Cache, impl.Pend{Sector: s, Data: data})
	return d
}

func withFuel(d impl.Dev, fuel int64) impl.Dev {
	d = cloneDev(d)
	d.Fuel = fuel
	return d
}

func dead(d impl.Dev) impl.Dev {
	d = cloneDev(d)
	d.Dead = true
	return d
}

type namedDev struct {
	name  string
	dev   impl.Dev
	valid bool
}

// edgeDevs are devices on both sides of every bound that chapter 1 names.
func edgeDevs() []namedDev {
	d := devOf(8)
	return []namedDev{
		{"the zero device", impl.Dev{}, false},
		{"no disk, fuel -1", impl.Dev{Fuel: -1}, false},
		{"1 sector", devOf(1), false},
		{"7 sectors", devOf(7), false},
		{"8 sectors", d, true},
		{"9 sectors", devOf(9), true},
		{"255 sectors", devOf(255), true},
		{"256 sectors", devOf(256), true},
		{"257 sectors", devOf(257), false},
		{"512 sectors", devOf(512), false},
		{"511 bytes", impl.Dev{Disk: make([]byte, 511), Fuel: -1}, false},
		{"513 bytes", impl.Dev{Disk: make([]byte, 513), Fuel: -1}, false},
		{"544 bytes", impl.Dev{Disk: make([]byte, 544), Fuel: -1}, false},
		{"575 bytes", impl.Dev{Disk: make([]byte, 575), Fuel: -1}, false},
		{"16383 bytes", impl.Dev{Disk: make([]byte, 16383), Fuel: -1}, false},
		{"16385 bytes", impl.Dev{Disk: make([]byte, 16385), Fuel: -1}, false},
		{"1 entry", withCache(d, 1), true},
		{"12 entries", withCache(d, 12), true},
		{"999 entries", withCache(d, 999), true},
		{"1000 entries", withCache(d, 1000), true},
		{"1001 entries", withCache(d, 1001), false},
		{"an entry at -1", withEntry(d, -1, filled(64, 1)), false},
		{"an entry at 7 of 8", withEntry(d, 7, filled(64, 1)), true},
		{"an entry at 8 of 8", withEntry(d, 8, filled(64, 1)), false},
		{"an entry at 8 of 9", withEntry(devOf(9), 8, filled(64, 1)), true},
		{"an entry at the least number", withEntry(d, math.MinInt64, filled(64, 1)), false},
		{"an entry at the greatest number", withEntry(d, math.MaxInt64, filled(64, 1)), false},
		{"an entry at 2^32", withEntry(d, 1<<32, filled(64, 1)), false},
		{"an entry of 63 bytes", withEntry(d, 3, filled(63, 1)), false},
		{"an entry of 65 bytes", withEntry(d, 3, filled(65, 1)), false},
		{"an entry of no bytes", withEntry(d, 3, nil), false},
		{"a wrong entry before a right one", withEntry(withEntry(d, 8, filled(64, 1)), 3, filled(64, 2)), false},
		{"a wrong entry behind a right one", withEntry(withEntry(d, 3, filled(64, 1)), 3, filled(65, 2)), false},
		{"fuel at the least number", withFuel(d, math.MinInt64), false},
		{"fuel -2", withFuel(d, -2), false},
		{"fuel -1 with entries", withFuel(withCache(d, 3), -1), true},
		{"fuel 0", withFuel(d, 0), true},
		{"fuel 0 with entries", withFuel(withCache(d, 3), 0), true},
		{"fuel 1", withFuel(withCache(d, 3), 1), true},
		{"fuel 2", withFuel(withCache(d, 3), 2), true},
		{"fuel 1000000", withFuel(d, 1000000), true},
		{"fuel 1000001", withFuel(d, 1000001), false},
		{"fuel at the greatest number", withFuel(d, math.MaxInt64), false},
		{"a full cache without fuel", withFuel(withCache(d, 1000), 0), true},
		{"999 entries and fuel 5", withFuel(withCache(d, 999), 5), true},
		{"dead", dead(withFuel(d, 0)), true},
		{"dead with entries", dead(withFuel(withCache(d, 5), 0)), true},
		{"dead with fuel", dead(withFuel(withCache(d, 5), 7)), true},
		{"dead with fuel -1", dead(withCache(d, 5)), true},
		{"dead and not valid", dead(withEntry(d, 8, filled(64, 1))), false},
	}
}

func TestValidDevEdges(t *testing.T) {
	for _, c := range edgeDevs() {
		if impl.ValidDev(c.dev) != c.valid {
			t.Errorf("%s: valid is not %v", c.name, c.valid)
		}
	}
}

func TestDevNewEdges(t *testing.T) {
	for _, n := range []int64{math.MinInt64, -1, 0, 1, 7, 257, 1 << 32, 1<<32 + 8, 1<<58 + 8, math.MaxInt64} {
		if !sameDev(impl.DevNew(n), impl.Dev{}) {
			t.Errorf("a device of %d sectors", n)
		}
	}
	for n := int64(8); n <= 256; n++ {
		want := impl.Dev{Disk: make([]byte, 64*n), Fuel: -1}
		if got := impl.DevNew(n); !sameDev(got, want) || !impl.ValidDev(got) {
			t.Errorf("no new device of %d sectors", n)
		}
	}
	a, b := impl.DevNew(8), impl.DevNew(8)
	wantDevApart(t, "DevNew", a, b)
}

func TestDevReadSeesTheLastWrite(t *testing.T) {
	d := devOf(8)
	d = withEntry(d, 2, ramp(64, 1))
	d = withEntry(d, 7, ramp(64, 2))
	d = withEntry(d, 2, ramp(64, 3))
	d = withEntry(d, 0, ramp(64, 4))
	want := [][]byte{0: ramp(64, 4), 1: filled(64, 101), 2: ramp(64, 3), 3: filled(64, 103), 7: ramp(64, 2)}
	for s, w := range want {
		if w != nil && !bytes.Equal(impl.DevRead(d, int64(s)), w) {
			t.Errorf("sector %d: % x", s, impl.DevRead(d, int64(s)))
		}
	}
	if !bytes.Equal(impl.DevRead(dead(withFuel(d, 0)), 2), ramp(64, 3)) {
		t.Errorf("reading asks for power")
	}
	for _, s := range []int64{math.MinInt64, -64, -1, 8, 9, 512, 1 << 58, 1<<58 + 2, math.MaxInt64} {
		if len(impl.DevRead(d, s)) != 0 {
			t.Errorf("sector %d is read", s)
		}
	}
}

func TestDevWriteRefusals(t *testing.T) {
	d := withFuel(withCache(devOf(8), 3), 0)
	for _, s := range []int64{math.MinInt64, -1, 8, 1 << 58, math.MaxInt64} {
		if !sameDev(impl.DevWrite(d, s, filled(64, 1)), d) {
			t.Errorf("a write to sector %d changes the device", s)
		}
	}
	for _, n := range []int{0, 1, 63, 65, 128} {
		if !sameDev(impl.DevWrite(d, 3, filled(n, 1)), d) {
			t.Errorf("a write of %d bytes changes the device", n)
		}
	}
	full := withFuel(withCache(devOf(8), 1000), 0)
	if !sameDev(impl.DevWrite(full, 3, filled(64, 1)), full) {
		t.Errorf("a write to a full cache changes the device")
	}
}

func TestDevWriteFillsTheCache(t *testing.T) {
	d := impl.DevWrite(withFuel(withCache(devOf(8), 999), 2), 6, ramp(64, 9))
	if len(d.Cache) != 1000 || d.Fuel != 1 || d.Dead || d.Cache[999].Sector != 6 || !bytes.Equal(d.Cache[999].Data, ramp(64, 9)) {
		t.Errorf("entry 1000: %d entries, fuel %d", len(d.Cache), d.Fuel)
	}
	if !bytes.Equal(d.Disk, devOf(8).Disk) {
		t.Errorf("a write reaches the disk ahead of a sync")
	}
}

// Each step takes one of the fuel; the one that finds none changes nothing but Dead.
func TestStepsBurnFuel(t *testing.T) {
	for _, fuel := range []int64{-1, 1, 2, 1000000} {
		left := max(fuel-1, -1) // -1 stays
		d := withFuel(withCache(devOf(8), 2), fuel)
		if w := impl.DevWrite(d, 1, filled(64, 9)); w.Fuel != left || w.Dead || len(w.Cache) != 3 {
			t.Errorf("a write with fuel %d: fuel %d", fuel, w.Fuel)
		}
		if s := impl.DevSync(d); s.Fuel != left || s.Dead || len(s.Cache) != 0 {
			t.Errorf("a sync with fuel %d: fuel %d", fuel, s.Fuel)
		}
	}
	d := withFuel(withCache(devOf(8), 2), 0)
	if !sameDev(impl.DevWrite(d, 1, filled(64, 9)), dead(d)) {
		t.Errorf("a write without fuel")
	}
	if !sameDev(impl.DevSync(d), dead(d)) {
		t.Errorf("a sync without fuel")
	}
	for _, fuel := range []int64{-1, 0, 5} {
		d := dead(withFuel(withCache(devOf(8), 2), fuel))
		if !sameDev(impl.DevWrite(d, 1, filled(64, 9)), d) || !sameDev(impl.DevSync(d), d) {
			t.Errorf("a dead device with fuel %d makes a step", fuel)
		}
	}
}

func TestDevSyncWritesInOrder(t *testing.T) {
	d := devOf(8)
	d = withEntry(d, 2, ramp(64, 1))
	d = withEntry(d, 7, ramp(64, 2))
	d = withEntry(d, 2, ramp(64, 3))
	want := devOf(8)
	copy(want.Disk[2*64:], ramp(64, 3))
	copy(want.Disk[7*64:], ramp(64, 2))
	if !sameDev(impl.DevSync(d), want) {
		t.Errorf("sync")
	}
}

func TestDevCrashTears(t *testing.T) {
	d := withEntry(withEntry(devOf(8), 3, filled(64, 1)), 3, filled(64, 2))
	cases := []struct {
		name  string
		crash impl.Crash
		ones  int // how far the bytes 1 of the first entry reach
		twos  int // and the bytes 2 of the second, which lie over them
	}{
		{"nothing is kept", impl.Crash{Tear: -1}, 0, 0},
		{"the first is kept", impl.Crash{Keep: []bool{true}, Tear: -1}, 64, 0},
		{"the second is kept", impl.Crash{Keep: []bool{false, true}, Tear: -1}, 0, 64},
		{"both are kept", impl.Crash{Keep: []bool{true, true, false}, Tear: 2, At: 9}, 64, 64},
		{"Keep is longer than the cache", impl.Crash{Keep: []bool{true, false, true, true}, Tear: 3, At: 9}, 64, 0},
		{"a torn write over a kept one", impl.Crash{Keep: []bool{true, true}, Tear: 1, At: 5}, 64, 5},
		{"a torn write that is not kept", impl.Crash{Keep: []bool{true}, Tear: 1, At: 5}, 64, 5},
		{"a torn write under a kept one", impl.Crash{Keep: []bool{false, true}, Tear: 0, At: 5}, 0, 64},
		{"a torn write under none", impl.Crash{Keep: []bool{true}, Tear: 0, At: 5}, 5, 0},
		{"Tear 0 and no Keep", impl.Crash{Tear: 0, At: 63}, 63, 0},
		{"At at the least number", impl.Crash{Keep: []bool{true, true}, Tear: 1, At: math.MinInt64}, 64, 0},
		{"At -1", impl.Crash{Keep: []bool{true, true}, Tear: 1, At: -1}, 64, 0},
		{"At 0", impl.Crash{Keep: []bool{true, true}, Tear: 1, At: 0}, 64, 0},
		{"At 1", impl.Crash{Keep: []bool{true, true}, Tear: 1, At: 1}, 64, 1},
		{"At 64", impl.Crash{Keep: []bool{true}, Tear: 1, At: 64}, 64, 64},
		{"At 65", impl.Crash{Keep: []bool{true}, Tear: 1, At: 65}, 64, 64},
		{"At at the greatest number", impl.Crash{Tear: 1, At: math.MaxInt64}, 0, 64},
		{"Tear at the least number", impl.Crash{Keep: []bool{true}, Tear: math.MinInt64, At: 5}, 64, 0},
		{"Tear at the greatest number", impl.Crash{Keep: []bool{true}, Tear: math.MaxInt64, At: 5}, 64, 0},
	}
	for _, c := range cases {
		want := devOf(8)
		copy(want.Disk[3*64:], filled(c.ones, 1))
		copy(want.Disk[3*64:], filled(c.twos, 2))
		for _, from := range []impl.Dev{d, dead(withFuel(d, 0)), withFuel(d, 7), dead(d)} {
			if !sameDev(impl.DevCrash(from, c.crash), want) {
				t.Errorf("%s, fuel %d, dead %v", c.name, from.Fuel, from.Dead)
			}
		}
	}
}
