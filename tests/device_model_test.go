package tests

import (
	"bytes"
	"math"
	"math/rand"
	"testing"

	"loop.example/s02127/impl"
)

// The chapter's words once more, byte by byte, to hold the program against.

func modelValid(d impl.Dev) bool {
	ok := len(d.Disk)%64 == 0 && len(d.Disk)/64 >= 8 && len(d.Disk)/64 <= 256
	ok = ok && len(d.Cache) <= 1000 && d.Fuel >= -1 && d.Fuel <= 1000000
	for _, p := range d.Cache {
		ok = ok && p.Sector >= 0 && p.Sector <= int64(len(d.Disk)/64)-1 && len(p.Data) == 64
	}
	return ok
}

func modelSectorIn(d impl.Dev, s int64) bool {
	return s >= 0 && s <= int64(len(d.Disk)/64)-1
}

func modelRead(d impl.Dev, s int64) []byte {
	if !modelValid(d) || !modelSectorIn(d, s) {
		return nil
	}
	answer := d.Disk[s*64 : s*64+64]
	for _, p := range d.Cache {
		if p.Sector == s {
			answer = p.Data
		}
	}
	return append([]byte{}, answer...)
}

// modelFuel is the device after the fuel of one step, and whether the step goes on.
func modelFuel(d impl.Dev) (impl.Dev, bool) {
	after := cloneDev(d)
	switch {
	case d.Fuel == 0:
		after.Dead = true
		return after, false
	case d.Fuel > 0:
		after.Fuel = d.Fuel - 1
	}
	return after, true
}

func modelWrite(d impl.Dev, s int64, data []byte) impl.Dev {
	if !modelValid(d) || d.Dead || !modelSectorIn(d, s) || len(data) != 64 || len(d.Cache) >= 1000 {
		return cloneDev(d)
	}
	after, on := modelFuel(d)
	if on {
		after.Cache = append(after.Cache, impl.Pend{Sector: s, Data: append([]byte{}, data...)})
	}
	return after
}

func modelSync(d impl.Dev) impl.Dev {
	if !modelValid(d) || d.Dead {
		return cloneDev(d)
	}
	after, on := modelFuel(d)
	if on {
		for s := range int64(len(d.Disk) / 64) {
			copy(after.Disk[s*64:], modelRead(d, s))
		}
		after.Cache = nil
	}
	return after
}

func modelCrash(d impl.Dev, c impl.Crash) impl.Dev {
	if !modelValid(d) {
		return impl.Dev{}
	}
	after := impl.Dev{Disk: append([]byte{}, d.Disk...), Fuel: -1}
	for i, p := range d.Cache {
		for k := range int64(64) {
			torn := int64(i) == c.Tear && k < c.At
			kept := int64(i) != c.Tear && i < len(c.Keep) && c.Keep[i]
			if torn || kept {
				after.Disk[p.Sector*64+k] = p.Data[k]
			}
		}
	}
	return after
}

func modelCrashes(r *rand.Rand, d impl.Dev) []impl.Crash {
	n := len(d.Cache)
	keeps := [][]bool{nil, make([]bool, n), make([]bool, n/2), make([]bool, n+3), make([]bool, n)}
	for _, k := range keeps[2:] {
		for i := range k {
			k[i] = r.Intn(2) == 0
		}
	}
	for i := range keeps[4] {
		keeps[4][i] = true
	}
	var all []impl.Crash
	for _, k := range keeps {
		for _, tear := range []int64{math.MinInt64, -1, 0, int64(n / 2), int64(n - 1), int64(n), math.MaxInt64} {
			for _, at := range []int64{math.MinInt64, -1, 0, 1, 31, 63, 64, 65, math.MaxInt64} {
				all = append(all, impl.Crash{Keep: k, Tear: tear, At: at})
			}
		}
	}
	return all
}

// checkAgainstModel asks every function of the chapter at one device, and
// whether the device is the same afterwards.
func checkAgainstModel(t *testing.T, r *rand.Rand, name string, d impl.Dev) {
	t.Helper()
	before := cloneDev(d)
	n := int64(len(d.Disk) / 64)
	if impl.ValidDev(d) != modelValid(d) {
		t.Errorf("%s: valid", name)
	}
	for _, s := range []int64{math.MinInt64, -1, 0, 1, 3, n - 1, n, n + 1, 1 << 58, math.MaxInt64} {
		if !bytes.Equal(impl.DevRead(d, s), modelRead(d, s)) {
			t.Errorf("%s: read of %d", name, s)
		}
		for _, size := range []int{0, 63, 64, 65} {
			data := ramp(size, byte(r.Intn(256)))
			was := append([]byte{}, data...)
			if !sameDev(impl.DevWrite(d, s, data), modelWrite(d, s, data)) {
				t.Errorf("%s: write of %d bytes to %d", name, size, s)
			}
			if !bytes.Equal(data, was) {
				t.Errorf("%s: a write changes its data", name)
			}
		}
	}
	if !sameDev(impl.DevSync(d), modelSync(d)) {
		t.Errorf("%s: sync", name)
	}
	for _, c := range modelCrashes(r, d) {
		keep := append([]bool{}, c.Keep...)
		if !sameDev(impl.DevCrash(d, c), modelCrash(d, c)) {
			t.Errorf("%s: crash, %d kept or not, tear %d at %d", name, len(c.Keep), c.Tear, c.At)
		}
		for i := range keep {
			if c.Keep[i] != keep[i] {
				t.Errorf("%s: a crash changes Keep", name)
			}
		}
	}
	if !sameDev(d, before) {
		t.Errorf("%s: the argument is changed", name)
	}
}

func TestDeviceIsChapterOneAtItsEdges(t *testing.T) {
	r := rand.New(rand.NewSource(1))
	for _, c := range edgeDevs() {
		checkAgainstModel(t, r, c.name, c.dev)
	}
}

// randomDev is mostly valid; now and then one of its parts is not.
func randomDev(r *rand.Rand) impl.Dev {
	d := devOf(7 + r.Intn(6))
	d.Fuel = int64(r.Intn(7) - 2)
	d.Dead = r.Intn(6) == 0
	for range r.Intn(8) {
		p := impl.Pend{Sector: int64(r.Intn(8)), Data: ramp(64, byte(r.Intn(256)))}
		if r.Intn(40) == 0 {
			p.Sector = int64(r.Intn(20) - 4)
		}
		if r.Intn(40) == 0 {
			p.Data = ramp(r.Intn(130), 5)
		}
		d.Cache = append(d.Cache, p)
	}
	if r.Intn(20) == 0 {
		d.Disk = d.Disk[:len(d.Disk)-r.Intn(64)]
	}
	return d
}

func TestDeviceIsChapterOneAtRandom(t *testing.T) {
	r := rand.New(rand.NewSource(2))
	for range 400 {
		checkAgainstModel(t, r, "a random device", randomDev(r))
	}
}

// A row of steps, so that what one step answers is what the next is given.
func TestRowsOfSteps(t *testing.T) {
	r := rand.New(rand.NewSource(3))
	for range 200 {
		got := impl.DevNew(int64(8 + r.Intn(3)))
		got.Fuel = int64(r.Intn(30) - 1)
		want := cloneDev(got)
		for range 40 {
			switch r.Intn(8) {
			case 0:
				got, want = impl.DevSync(got), modelSync(want)
			case 1:
				c := impl.Crash{Keep: []bool{true, false, true, true}, Tear: int64(r.Intn(6) - 1), At: int64(r.Intn(70) - 3)}
				got, want = impl.DevCrash(got, c), modelCrash(want, c)
				got.Fuel, want.Fuel = 9, 9
			default:
				s, data := int64(r.Intn(11)), ramp(64, byte(r.Intn(256)))
				got, want = impl.DevWrite(got, s, data), modelWrite(want, s, data)
			}
			if !sameDev(got, want) {
				t.Fatalf("the devices part ways")
			}
		}
	}
}
