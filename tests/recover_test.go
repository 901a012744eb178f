package tests

import (
	"math/rand"
	"testing"

	"loop.example/s02127/impl"
)

// wantRefused wants the code and the zero gate.
func wantRefused(t *testing.T, what string, d impl.Dev, key []byte, code int64) {
	t.Helper()
	got := impl.Recover(d, key)
	if !sameGateRes(got, impl.GateRes{Code: code}) {
		t.Errorf("%s: %d, and not %d: %+v", what, got.Code, code, got.Gate)
	}
	if model := modelRecover(d, key); !sameGateRes(model, impl.GateRes{Code: code}) {
		t.Errorf("%s: the model has %+v", what, model)
	}
}

func TestRecoveriesThatAreBad(t *testing.T) {
	first := impl.Snap{Gen: 0, Tail: 1}
	for _, c := range edgeDevs() {
		d := c.dev
		if len(d.Disk) >= 128 {
			d = putSnap(d, first)
		}
		if !c.valid || d.Dead || len(d.Cache) > 0 {
			wantRefused(t, c.name, d, ticketKey(), impl.CodeBad)
			wantRefused(t, c.name+" without a snap", c.dev, ticketKey(), impl.CodeBad)
			continue
		}
		wantRecovered(t, c.name, d, impl.CodeOk)
		wantRefused(t, c.name+" without a snap", c.dev, ticketKey(), impl.CodeCorrupt)
	}
	d := busyDev()
	wantRefused(t, "a write that changes nothing", withEntry(d, 0, d.Disk[:64]), ticketKey(), impl.CodeBad)
	wantRefused(t, "all in the cache", inCache(impl.DevNew(12), d), ticketKey(), impl.CodeBad)
	wantRefused(t, "dead", dead(d), ticketKey(), impl.CodeBad)
	long := append(ticketKey(), ticketKey()...)
	for _, size := range []int{0, 1, 31, 33, 64} {
		wantRefused(t, "a key of another length", d, long[:size], impl.CodeBad)
		wantRefused(t, "such a key and no snap", impl.DevNew(8), long[:size], impl.CodeBad)
	}
	if got := impl.Recover(d, nil); !sameGateRes(got, impl.GateRes{Code: impl.CodeBad}) {
		t.Errorf("no key: %+v", got)
	}
	odd := filled(32, 0xff)
	if got := impl.Recover(d, odd); got.Code != impl.CodeOk || !sameGateRes(got, modelRecover(d, odd)) {
		t.Errorf("a key that is no point: %+v", got)
	}
}

func TestRecoveriesThatAreCorrupt(t *testing.T) {
	d := busyDev()
	for _, fuel := range []int64{-1, 0, 1, 4, 1000000} {
		for _, n := range []int64{8, 9, 256} {
			wantRefused(t, "zeros", withFuel(impl.DevNew(n), fuel), ticketKey(), impl.CodeCorrupt)
		}
		spoilt := withFuel(putText(d, 0, filled(256, 1)), fuel)
		wantRefused(t, "both slots spoilt", spoilt, ticketKey(), impl.CodeCorrupt)
		unfit := withFuel(putFrames(d, 8, tapFrame(10, 1)), fuel)
		wantRefused(t, "a frame that does not fit", unfit, ticketKey(), impl.CodeCorrupt)
		late := withFuel(putFrames(d, 11, ackFrame(7, 0)), fuel)
		wantRefused(t, "a last frame that does not fit", late, ticketKey(), impl.CodeCorrupt)
	}
	torn := impl.DevNew(8)
	torn = putText(putSnap(torn, impl.Snap{Gen: 2, Tail: 1}), 1, make([]byte, 64))
	wantRefused(t, "half a snap", torn, ticketKey(), impl.CodeCorrupt)
}

// countedGate has count frames from tail on, the last an ack of some of the
// taps before it, or none.
func countedGate(t *testing.T, n int64, tail uint32, count int, acked int) impl.Gate {
	t.Helper()
	frames := tapFrames(0, count)
	if acked > 0 {
		frames[count-1] = ackFrame(uint32(acked), 0)
	}
	s := impl.Snap{Gen: 5, Tail: tail, Deny: []int64{255}}
	return gateOver(t, putFrames(putSnap(impl.DevNew(n), s), tail, frames...))
}

// wantNoCompaction wants the gate over the device, whatever its fuel.
func wantNoCompaction(t *testing.T, what string, g impl.Gate) {
	t.Helper()
	for _, fuel := range []int64{-1, 0, 3, 4, 1000000} {
		g.Dev.Fuel = fuel
		if got := wantRecovered(t, what, g.Dev, impl.CodeOk); !sameGate(got, g) {
			t.Fatalf("%s, fuel %d: %+v", what, fuel, got.Image)
		}
	}
}

func TestRecoveryCompactsAboveHalf(t *testing.T) {
	for _, n := range []int64{8, 9, 10, 11, 12, 13, 255, 256} {
		places := int(n - 4)
		for _, count := range []int{0, 1, 2, places/2 - 1, places / 2, places/2 + 1, places - 1, places} {
			for _, acked := range []int{0, 1, count / 2, count - 1} {
				if count < 2 && acked > 0 || acked < 0 {
					continue
				}
				tail := uint32(3 + 7*count)
				g := countedGate(t, n, tail, count, acked)
				if 2*count <= places || acked == 0 {
					wantNoCompaction(t, "at most half, or nothing to compact", g)
					continue
				}
				s := impl.Snap{Gen: 6, Tail: tail + uint32(acked), Deny: []int64{255}, Used: serials(0, int64(acked))}
				if acked == count-1 {
					s.Tail++
				}
				got := wantRecovered(t, "above half", g.Dev, impl.CodeOk)
				if !sameDev(got.Dev, putSnap(g.Dev, s)) || !sameSnap(got.Image.Snap, s) || !sameState(got.Image.State, g.Image.State) {
					t.Fatalf("%d frames of %d, %d acknowledged: %+v", count, places, acked, got.Image)
				}
			}
		}
	}
}

func TestRecoveryAtTheEndOfGen(t *testing.T) {
	s := impl.Snap{Gen: modelNumberMax, Tail: 9}
	d := putFrames(putSnap(impl.DevNew(8), s), 9, tapFrame(1, 5), ackFrame(1, 0), tapFrame(2, 6))
	wantNoCompaction(t, "the last Gen", gateOver(t, d))
	s.Gen--
	d = putFrames(putSnap(impl.DevNew(8), s), 9, tapFrame(1, 5), ackFrame(1, 0), tapFrame(2, 6))
	got := wantRecovered(t, "the last but one", d, impl.CodeOk)
	if want := (impl.Snap{Gen: modelNumberMax, Tail: 11, Used: []int64{1}}); !sameSnap(got.Image.Snap, want) {
		t.Errorf("the last but one: %+v", got.Image)
	}
}

func TestFuelOfRecovery(t *testing.T) {
	g := countedGate(t, 10, 17, 5, 3)
	s := impl.Snap{Gen: 6, Tail: 20, Deny: []int64{255}, Used: serials(0, 3)}
	for fuel, end := range snapEnds(g, s) {
		got := wantRecovered(t, "too little", withFuel(g.Dev, int64(fuel)), impl.CodeLost)
		if want := (impl.Gate{Dev: end, Key: g.Key, Image: g.Image}); !sameGate(got, want) || impl.ValidGate(got) {
			t.Errorf("fuel %d: %+v, and not %+v", fuel, got, want)
		}
	}
	for _, fuel := range []int64{-1, 4, 5, 1000000} {
		got := wantRecovered(t, "enough", withFuel(g.Dev, fuel), impl.CodeOk)
		want := withFuel(putSnap(g.Dev, s), burnt(fuel, 4))
		if !sameDev(got.Dev, want) || !sameState(got.Image.State, g.Image.State) {
			t.Errorf("fuel %d: %+v", fuel, got)
		}
	}
}

// Every disk that crashes in recovery lead to, crashed again in every way,
// until no new one comes: the state is always the one from before.
func TestCrashesInRecoveryAgainAndAgain(t *testing.T) {
	for _, gen := range []uint32{0, 1, 254, 255} {
		start := impl.DevNew(8)
		if gen > 0 {
			start = putSnap(start, impl.Snap{Gen: gen - 1, Tail: 1, Deny: serials(200, 216), Used: []int64{9}})
		}
		// Few bytes of this snap are zeros, so that each tear makes a disk of its own.
		s := impl.Snap{Gen: gen, Tail: 6, Deny: serials(234, 250), Used: serials(9, 250)}
		start = putFrames(putSnap(start, s), 6, tapFrame(1, 5), tapFrame(2, 6), ackFrame(uint32(len(s.Used)+1), 0))
		state := modelLoad(start).State
		seen := map[string]bool{string(start.Disk): true}
		work := []impl.Dev{start}
		done := 0
		for len(work) > 0 {
			d := work[0]
			work = work[1:]
			for fuel := int64(-1); fuel <= 4; fuel++ {
				got := impl.Recover(withFuel(d, fuel), ticketKey())
				if got.Code == impl.CodeOk && sameState(got.Gate.Image.State, state) {
					done++
					continue
				}
				if got.Code != impl.CodeLost || !got.Gate.Dev.Dead || fuel < 0 || fuel > 3 {
					t.Fatalf("fuel %d: code %d, %+v", fuel, got.Code, got.Gate.Image)
				}
				for _, c := range crashesOf(got.Gate.Dev) {
					crashed := impl.DevCrash(got.Gate.Dev, c)
					if key := string(crashed.Disk); !seen[key] {
						seen[key] = true
						work = append(work, crashed)
					}
				}
			}
		}
		if len(seen) < 50 || done < 2*len(seen) {
			t.Errorf("%d disks, %d recoveries", len(seen), done)
		}
	}
}

// anyDev holds anything, near enough to what a gate writes that much of it loads.
func anyDev(r *rand.Rand) impl.Dev {
	d := devOfChance(r)
	d.Disk = modelSync(withFuel(d, -1)).Disk
	d.Cache = nil
	if r.Intn(20) == 0 {
		r.Read(d.Disk[64*r.Intn(6):])
	}
	if r.Intn(12) == 0 {
		gen := modelNumberMax - uint32(r.Intn(3))
		d = putSnap(d, impl.Snap{Gen: gen, Tail: modelLoad(d).Snap.Tail})
	}
	return d
}

// Promise 16.
func TestRecoveryOfAnyDevice(t *testing.T) {
	r := rand.New(rand.NewSource(72))
	codes := map[int64]int{}
	compacted := 0
	for range 4000 {
		d := anyDev(r)
		for _, fuel := range []int64{-1, 4, 5, 1000000, int64(r.Intn(4))} {
			got := impl.Recover(withFuel(d, fuel), ticketKey())
			if !sameGateRes(got, modelRecover(withFuel(d, fuel), ticketKey())) {
				t.Fatalf("fuel %d: %+v", fuel, got)
			}
			codes[got.Code]++
			if fuel >= 0 && fuel < 4 {
				continue
			}
			steps := fuel - got.Gate.Dev.Fuel
			switch got.Code {
			case impl.CodeCorrupt:
			case impl.CodeOk:
				if !impl.ValidGate(got.Gate) || steps != 0 && steps != 4 {
					t.Fatalf("fuel %d: %d steps: %+v", fuel, steps, got.Gate)
				}
				if steps == 4 {
					compacted++
				}
			default:
				t.Fatalf("fuel %d: code %d", fuel, got.Code)
			}
		}
	}
	if codes[impl.CodeOk] < 4000 || codes[impl.CodeCorrupt] < 1000 || codes[impl.CodeLost] < 50 || compacted < 200 {
		t.Errorf("codes %v, %d compactions", codes, compacted)
	}
}

func TestRecoveryOfNoise(t *testing.T) {
	r := rand.New(rand.NewSource(73))
	for range 300 {
		d := impl.DevNew(8 + r.Int63n(249))
		r.Read(d.Disk)
		wantRefused(t, "noise", d, ticketKey(), impl.CodeCorrupt)
		s := snapOfChance(r)
		wantNoCompaction(t, "a snap in noise", gateOver(t, putSnap(d, s)))
	}
}
