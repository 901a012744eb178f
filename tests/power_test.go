package tests

import (
	"bytes"
	"slices"
	"testing"

	"loop.example/s02127/impl"
)

// crashesOf are all that may befall a cache: every choice of kept writes, no
// tear or one, at every byte, and tears of no entry.
func crashesOf(d impl.Dev) []impl.Crash {
	var all []impl.Crash
	n := len(d.Cache)
	for choice := range 1 << n {
		var keep []bool
		for i := range n {
			keep = append(keep, choice>>i&1 == 1)
		}
		all = append(all, impl.Crash{Keep: keep, Tear: -1}, impl.Crash{Keep: keep, Tear: int64(n), At: 32})
		for tear := range int64(n) {
			if keep[tear] {
				continue // an entry that is torn is not asked whether it is kept
			}
			for at := range int64(65) {
				all = append(all, impl.Crash{Keep: keep, Tear: tear, At: at})
			}
		}
	}
	return all
}

// wantRecovered wants the model's whole answer, and answers it.
func wantRecovered(t *testing.T, what string, d impl.Dev, code int64) impl.Gate {
	t.Helper()
	was := cloneDev(d)
	got, want := impl.Recover(d, ticketKey()), modelRecover(d, ticketKey())
	if got.Code != code || !sameGateRes(got, want) {
		t.Fatalf("%s: code %d, and not %d: %+v, and not %+v", what, got.Code, code, got.Gate.Image, want.Gate.Image)
	}
	if !sameDev(d, was) {
		t.Fatalf("%s: the device given is changed", what)
	}
	if code == impl.CodeOk && !impl.ValidGate(got.Gate) {
		t.Fatalf("%s: not valid: %+v", what, got.Gate)
	}
	return got.Gate
}

// dying is a device whose power went: what was synced, and what was not.
func dying(disk impl.Dev, cache ...impl.Pend) impl.Dev {
	d := cloneDev(disk)
	d.Fuel, d.Dead, d.Cache = 0, true, cache
	return d
}

// frameEnds are the devices that a frame leaves by the fuel, two steps.
func frameEnds(g impl.Gate, f impl.Frame) []impl.Dev {
	q := g.Image.Next
	written := impl.Pend{Sector: sectorOfFrame(g.Dev, q), Data: modelFrame(q, byte(f.Kind), f.A, f.B)}
	return []impl.Dev{dying(g.Dev), dying(g.Dev, written)}
}

// snapEnds are those that a compaction leaves, four steps.
func snapEnds(g impl.Gate, s impl.Snap) []impl.Dev {
	at := int64(s.Gen%2) * 2
	text := modelSnap(s)
	first, second := impl.Pend{Sector: at, Data: text[:64]}, impl.Pend{Sector: at + 1, Data: text[64:]}
	half := putText(g.Dev, at, text[:64])
	return []impl.Dev{dying(g.Dev), dying(g.Dev, first), dying(half), dying(half, second)}
}

// wantLost does an op with too little fuel for its steps, by each fuel.
func wantLost(t *testing.T, what string, g impl.Gate, op impl.Op, ends []impl.Dev) []impl.Gate {
	t.Helper()
	var lost []impl.Gate
	for fuel, d := range ends {
		g.Dev.Fuel = int64(fuel)
		after := wantDone(t, what, g, op, impl.CodeLost)
		if want := (impl.Gate{Dev: d, Key: g.Key, Image: g.Image}); !sameGate(after, want) {
			t.Fatalf("%s, fuel %d: %+v, and not %+v", what, fuel, after, want)
		}
		if impl.ValidGate(after) || !sameGateRes(impl.GateDo(after, op), impl.GateRes{}) {
			t.Fatalf("%s, fuel %d: a gate without power is valid", what, fuel)
		}
		lost = append(lost, after)
	}
	return lost
}

// powerGates are busyGate with what may stand where the next frame goes: nothing,
// a frame of an earlier round, noise, and that frame itself but for its end.
func powerGates(t *testing.T) []impl.Gate {
	t.Helper()
	g := busyGate(t)
	at := sectorOfFrame(g.Dev, g.Image.Next)
	torn := modelFrame(g.Image.Next, 1, 4, 50)
	torn[60] ^= 1
	var list []impl.Gate
	for _, text := range [][]byte{make([]byte, 64), modelFrame(g.Image.Next-8, 1, 4, 50), filled(64, 0xa5), torn} {
		list = append(list, gateOver(t, putText(g.Dev, at, text)))
	}
	return list
}

func TestPowerInFrames(t *testing.T) {
	for _, g := range powerGates(t) {
		for _, c := range changingOps() {
			for _, fuel := range []int64{-1, 2, 3, 4} {
				g.Dev.Fuel = fuel
				wantWritten(t, c.name, g, c.op, c.code, c.frame)
			}
			with := modelDo(gateOver(t, withFuel(g.Dev, -1)), c.op).Gate
			for _, lost := range wantLost(t, c.name, g, c.op, frameEnds(g, c.frame)) {
				wantEitherState(t, c.name, lost.Dev, g, with)
			}
		}
	}
}

// wantEitherState crashes a device in every way. The state with the lost op is
// wanted exactly where the whole disk is that of the op done.
func wantEitherState(t *testing.T, what string, d impl.Dev, without, with impl.Gate) {
	t.Helper()
	for _, c := range crashesOf(d) {
		crashed := modelCrash(d, c)
		want := without.Image.State
		if bytes.Equal(crashed.Disk, with.Dev.Disk) {
			want = with.Image.State
		}
		got := wantRecovered(t, what, impl.DevCrash(d, c), impl.CodeOk)
		if !sameState(got.Image.State, want) {
			t.Fatalf("%s, crash %+v: %+v, and not %+v", what, c, got.Image.State, want)
		}
	}
}

func TestPowerInOpsThatWriteNothing(t *testing.T) {
	for fuel := int64(-1); fuel <= 4; fuel++ {
		g := busyGate(t)
		g.Dev.Fuel = fuel
		for _, n := range quietOps() {
			wantUntouched(t, n.name, g, n.op, n.code)
		}
		full := tappedFrom(t, 8, 3, 4)
		full.Dev.Fuel = fuel
		wantUntouched(t, "a full journal", full, tapOp(253, 100, 50), impl.CodeFull)
		wantUntouched(t, "nothing to compact", full, numberOp(impl.OpCompact, 0), impl.CodeOk)
	}
}

func TestPowerInCompactions(t *testing.T) {
	compact := numberOp(impl.OpCompact, 0)
	for i, c := range compactions() {
		gen, tail := uint32(2+i%2), uint32(1+i)
		s := impl.Snap{Gen: gen, Tail: tail, Deny: []int64{9, 77}, Used: []int64{100, 200}}
		older := putSnap(impl.DevNew(10), impl.Snap{Gen: gen - 1, Tail: 1, Used: []int64{200}})
		g := gateOver(t, putFrames(putSnap(older, s), tail, c.frames...))
		next := impl.Snap{Gen: gen + 1, Tail: tail + uint32(c.passed), Deny: c.deny, Used: c.used}
		for _, fuel := range []int64{-1, 4, 5} {
			g.Dev.Fuel = fuel
			wantCompacted(t, c.name, g, next)
		}
		for _, lost := range wantLost(t, c.name, g, compact, snapEnds(g, next)) {
			for _, crash := range crashesOf(lost.Dev) {
				crashed := impl.DevCrash(lost.Dev, crash)
				got := wantRecovered(t, c.name, crashed, impl.CodeOk)
				if !sameState(got.Image.State, g.Image.State) || got.Image.Next != g.Image.Next {
					t.Fatalf("%s, crash %+v: %+v, and not %+v", c.name, crash, got.Image, g.Image)
				}
				whole := bytes.Equal(crashed.Disk, putSnap(g.Dev, next).Disk)
				if loaded := impl.LoadDev(crashed).Snap; sameSnap(loaded, next) != whole || !whole && !sameSnap(loaded, s) {
					t.Fatalf("%s, crash %+v: %+v", c.name, crash, loaded)
				}
			}
		}
	}
}

// Two ops that are lost one after the other write frames with one Seq to one
// place; each is torn at every byte.
func TestTornFrameOverATornFrame(t *testing.T) {
	for _, next := range []uint32{5, 256, 65538} {
		s := impl.Snap{Gen: 3, Tail: next - 2, Used: []int64{100, 200}}
		d := putFrames(putSnap(impl.DevNew(8), s), next-2, tapFrame(10, 50), denyFrame(77, 1))
		d = putFrames(d, next-4, tapFrame(100, 1))
		g := gateOver(t, withFuel(d, 1))
		first := impl.GateDo(g, tapOp(4, 100, 50))
		with := impl.StepState(g.Image.State, g.Key, tapOp(4, 100, 50)).State
		for at := range int64(65) {
			b := wantRecovered(t, "the first", impl.DevCrash(first.Gate.Dev, impl.Crash{Tear: 0, At: at}), impl.CodeOk)
			if sameState(b.Image.State, with) {
				continue
			}
			if !sameState(b.Image.State, g.Image.State) {
				t.Fatalf("torn at %d: %+v", at, b.Image.State)
			}
			for _, op := range []impl.Op{numberOp(impl.OpDeny, 200), numberOp(impl.OpAck, 3)} {
				b.Dev.Fuel = 1
				second := impl.GateDo(b, op)
				done := modelDo(gateOver(t, withFuel(b.Dev, -1)), op).Gate
				for _, c := range crashesOf(second.Gate.Dev) {
					disk := modelCrash(second.Gate.Dev, c)
					want := b.Image.State
					if bytes.Equal(disk.Disk, done.Dev.Disk) {
						want = done.Image.State
					}
					if got := impl.Recover(disk, ticketKey()); got.Code != impl.CodeOk || !sameState(got.Gate.Image.State, want) {
						t.Fatalf("torn at %d, then %+v: %+v, and not %+v", at, c, got.Gate.Image.State, want)
					}
				}
			}
		}
	}
}

// Two compactions that are lost one after the other write snaps with one Gen
// and other contents to one slot; each is torn at every byte.
func TestTornSnapOverATornSnap(t *testing.T) {
	compact := numberOp(impl.OpCompact, 0)
	for _, gen := range []uint32{1, 2, 255} {
		older := putSnap(impl.DevNew(14), impl.Snap{Gen: gen - 1, Tail: 1, Used: []int64{200}})
		s := impl.Snap{Gen: gen, Tail: 7, Deny: []int64{9}, Used: []int64{100, 200}}
		d := putFrames(putSnap(older, s), 7, tapFrame(10, 50), ackFrame(3, 0), tapFrame(11, 51))
		for fuel := int64(1); fuel <= 3; fuel++ {
			first := impl.GateDo(gateOver(t, withFuel(d, fuel)), compact)
			for _, c := range crashesOf(first.Gate.Dev) {
				if c.Tear == 0 && c.At%3 != 1 && c.At < 58 {
					continue
				}
				b := wantRecovered(t, "the first", impl.DevCrash(first.Gate.Dev, c), impl.CodeOk)
				wantSecondCompaction(t, b)
			}
		}
	}
}

func wantSecondCompaction(t *testing.T, g impl.Gate) {
	t.Helper()
	for _, op := range []impl.Op{numberOp(impl.OpAck, 4), numberOp(impl.OpDeny, 12)} {
		g = impl.GateDo(g, op).Gate
	}
	for fuel := int64(0); fuel <= 3; fuel++ {
		g.Dev.Fuel = fuel
		second := impl.GateDo(g, numberOp(impl.OpCompact, 0))
		if second.Code != impl.CodeLost {
			t.Fatalf("the second compaction: %d", second.Code)
		}
		for _, c := range crashesOf(second.Gate.Dev) {
			got := impl.Recover(impl.DevCrash(second.Gate.Dev, c), ticketKey())
			if got.Code != impl.CodeOk || !sameState(got.Gate.Image.State, g.Image.State) {
				t.Fatalf("crash %+v: %+v, and not %+v", c, got.Gate.Image.State, g.Image.State)
			}
		}
	}
}

// The fuel runs out over a row of ops: all that were answered are there.
func TestPowerOverARowOfOps(t *testing.T) {
	ops := []impl.Op{
		tapOp(1, 100, 50), numberOp(impl.OpDeny, 3), tapOp(3, 100, 50), tapOp(2, 100, 51), numberOp(impl.OpAck, 1),
		numberOp(impl.OpCompact, 0), numberOp(impl.OpAllow, 3), tapOp(3, 100, 52), numberOp(impl.OpAck, 3), numberOp(impl.OpCompact, 0), tapOp(5, 100, 53),
	}
	codes := []int64{1, 9, 5, 1, 9, 9, 9, 1, 9, 9, 1}
	needed := int64(0)
	for _, n := range []int64{9, 10, 12} {
		for fuel := int64(-1); fuel <= 26; fuel++ {
			g := impl.Format(n, ticketKey()).Gate
			g.Dev.Fuel = fuel
			done := 0
			var last impl.GateRes
			for done < len(ops) {
				last = impl.GateDo(g, ops[done])
				if last.Code == impl.CodeLost {
					break
				}
				if last.Code != codes[done] {
					t.Fatalf("op %d: code %d", done, last.Code)
				}
				g = last.Gate
				done++
			}
			if fuel >= 0 && last.Code != impl.CodeLost {
				needed = max(needed, fuel-g.Dev.Fuel)
				continue
			}
			with := g.Image.State
			if fuel >= 0 {
				with = impl.StepState(g.Image.State, g.Key, ops[done]).State
			}
			for _, c := range crashesOf(last.Gate.Dev) {
				got := wantRecovered(t, "after a row", impl.DevCrash(last.Gate.Dev, c), impl.CodeOk)
				if state := got.Image.State; !sameState(state, g.Image.State) && !sameState(state, with) {
					t.Fatalf("fuel %d, op %d, crash %+v: %+v", fuel, done, c, state)
				}
			}
		}
	}
	if needed != 24 {
		t.Errorf("the row takes %d steps", needed)
	}
}

// A gate that was not lost has nothing in its cache: a crash takes nothing.
func TestCrashOfALiveGate(t *testing.T) {
	for _, c := range changingOps() {
		after := impl.GateDo(busyGate(t), c.op).Gate
		for _, crash := range []impl.Crash{{Tear: -1}, {Keep: []bool{true, true}, Tear: 0, At: 9}} {
			got := impl.Recover(impl.DevCrash(after.Dev, crash), after.Key)
			if got.Code != impl.CodeOk || !sameState(got.Gate.Image.State, after.Image.State) {
				t.Errorf("%s: %+v, and not %+v", c.name, got.Gate.Image.State, after.Image.State)
			}
			if !slices.Equal(got.Gate.Image.Frames, after.Image.Frames) && len(after.Image.Frames) <= 4 {
				t.Errorf("%s: the frames are not what they were", c.name)
			}
		}
	}
}
