package tests

import (
	"bytes"
	"testing"

	"loop.example/s02127/impl"
)

// The model of chapter 7 over the models of the chapters before it. It asks
// after its steps whether the power is gone, and throws nothing.

func cloneGate(g impl.Gate) impl.Gate {
	return impl.Gate{Dev: cloneDev(g.Dev), Key: bytes.Clone(g.Key), Image: cloneImage(g.Image)}
}

// sameGate holds an empty list and nil for the same value.
func sameGate(a, b impl.Gate) bool {
	return sameDev(a.Dev, b.Dev) && bytes.Equal(a.Key, b.Key) && sameImage(a.Image, b.Image)
}

func sameGateRes(a, b impl.GateRes) bool {
	return a.Code == b.Code && sameGate(a.Gate, b.Gate)
}

func modelValidGate(g impl.Gate) bool {
	if !modelValid(g.Dev) || g.Dev.Dead || len(g.Dev.Cache) != 0 || len(g.Key) != 32 {
		return false
	}
	im := modelLoad(g.Dev)
	return im.Ok && sameImage(g.Image, im)
}

type deviceStep func(d impl.Dev) impl.Dev

func writeStep(s int64, data []byte) deviceStep {
	return func(d impl.Dev) impl.Dev { return modelWrite(d, s, data) }
}

func modelAfter(g impl.Gate, code int64, steps ...deviceStep) impl.GateRes {
	after := cloneGate(g)
	for _, step := range steps {
		after.Dev = step(after.Dev)
	}
	if after.Dev.Dead {
		return impl.GateRes{Code: 11, Gate: after}
	}
	after.Image = modelLoad(after.Dev)
	return impl.GateRes{Code: code, Gate: after}
}

func modelFormat(n int64, key []byte) impl.GateRes {
	if n < 8 || n > 256 || len(key) != 32 {
		return impl.GateRes{Code: 10}
	}
	d := impl.Dev{Disk: make([]byte, 64*n), Fuel: -1}
	copy(d.Disk, modelSnap(impl.Snap{Tail: 1}))
	return impl.GateRes{Code: 9, Gate: impl.Gate{Dev: d, Key: bytes.Clone(key), Image: modelLoad(d)}}
}

// modelNextSnap is the snap that a compaction up to cut writes.
func modelNextSnap(im impl.Image, cut uint32) impl.Snap {
	s := impl.State{Deny: im.Snap.Deny, Used: im.Snap.Used, Acked: int64(len(im.Snap.Used))}
	for _, f := range im.Frames {
		if f.Seq < cut {
			s = modelApply(s, f).State
		}
	}
	return impl.Snap{Gen: im.Snap.Gen + 1, Tail: cut, Deny: s.Deny, Used: s.Used}
}

func modelCompact(g impl.Gate) impl.GateRes {
	cut := modelCut(g.Image)
	if cut == g.Image.Snap.Tail {
		return impl.GateRes{Code: 9, Gate: cloneGate(g)}
	}
	if g.Image.Snap.Gen == modelNumberMax {
		return impl.GateRes{Code: 8, Gate: cloneGate(g)}
	}
	s := modelNextSnap(g.Image, cut)
	text, at := modelSnap(s), 2*(int64(s.Gen)%2)
	return modelAfter(g, 9, writeStep(at, text[:64]), modelSync, writeStep(at+1, text[64:]), modelSync)
}

// modelDue is the frame that an op is due for when it changes the state.
func modelDue(op impl.Op, seq uint32) impl.Frame {
	switch op.Kind {
	case 1:
		return impl.Frame{Seq: seq, Kind: 1, A: uint32(modelTicket(op.Ticket).Serial), B: uint32(op.Now)}
	case 2:
		return impl.Frame{Seq: seq, Kind: 2, A: uint32(op.N), B: 1}
	case 3:
		return impl.Frame{Seq: seq, Kind: 2, A: uint32(op.N), B: 0}
	}
	return impl.Frame{Seq: seq, Kind: 3, A: uint32(op.N), B: 0}
}

func modelDo(g impl.Gate, op impl.Op) impl.GateRes {
	if !modelValidGate(g) {
		return impl.GateRes{}
	}
	if op.Kind == 5 {
		return modelCompact(g)
	}
	r := modelStep(g.Image.State, g.Key, op)
	if sameState(r.State, g.Image.State) {
		return impl.GateRes{Code: r.Code, Gate: cloneGate(g)}
	}
	places := int64(len(g.Dev.Disk)/64 - 4)
	if int64(g.Image.Next)-int64(g.Image.Snap.Tail) == places || g.Image.Next == modelNumberMax {
		return impl.GateRes{Code: 8, Gate: cloneGate(g)}
	}
	f := modelDue(op, g.Image.Next)
	text := modelFrame(f.Seq, byte(f.Kind), f.A, f.B)
	return modelAfter(g, r.Code, writeStep(4+int64(f.Seq)%places, text), modelSync)
}

func modelRecover(d impl.Dev, key []byte) impl.GateRes {
	if !modelValid(d) || d.Dead || len(d.Cache) > 0 || len(key) != 32 {
		return impl.GateRes{Code: 10}
	}
	im := modelLoad(d)
	if !im.Ok {
		return impl.GateRes{Code: 12}
	}
	g := impl.Gate{Dev: cloneDev(d), Key: bytes.Clone(key), Image: im}
	if 2*len(im.Frames) > len(d.Disk)/64-4 {
		r := modelCompact(g)
		if r.Code == 11 {
			return r
		}
		g = r.Gate
	}
	return impl.GateRes{Code: 9, Gate: g}
}

// gateOver is the gate of the tickets' key over a device that loads.
func gateOver(t *testing.T, d impl.Dev) impl.Gate {
	t.Helper()
	g := impl.Gate{Dev: cloneDev(d), Key: ticketKey(), Image: modelLoad(d)}
	if !modelValidGate(g) {
		t.Fatalf("no gate: %+v", g.Image)
	}
	return g
}

// busyDev has two snaps, a journal of eight that wraps round its end, frames
// of every kind, and one tap that is acknowledged of three.
func busyDev() impl.Dev {
	d := putSnap(impl.DevNew(12), impl.Snap{Gen: 2, Tail: 4, Deny: []int64{9}, Used: []int64{100}})
	d = putSnap(d, impl.Snap{Gen: 3, Tail: 6, Deny: []int64{9, 77}, Used: []int64{100, 200}})
	return putFrames(d, 6, tapFrame(10, 50), denyFrame(77, 0), tapFrame(12, 60), ackFrame(3, 0), tapFrame(11, 70))
}

func busyGate(t *testing.T) impl.Gate {
	t.Helper()
	return gateOver(t, busyDev())
}

// wantDone wants the code, the model's whole answer, and the gate as it was;
// it answers the gate after the op.
func wantDone(t *testing.T, what string, g impl.Gate, op impl.Op, code int64) impl.Gate {
	t.Helper()
	was := cloneGate(g)
	got, want := impl.GateDo(g, op), modelDo(g, op)
	if got.Code != code || !sameGateRes(got, want) {
		t.Fatalf("%s: code %d, and not %d: %+v, and not %+v", what, got.Code, code, got.Gate, want.Gate)
	}
	if !sameGate(g, was) {
		t.Fatalf("%s: the gate given is changed", what)
	}
	return got.Gate
}

// wantUntouched is for ops that write nothing.
func wantUntouched(t *testing.T, what string, g impl.Gate, op impl.Op, code int64) {
	t.Helper()
	if after := wantDone(t, what, g, op, code); !sameGate(after, g) {
		t.Fatalf("%s: the gate is not what it was: %+v", what, after)
	}
}

// burnt is the fuel after so many steps.
func burnt(fuel, steps int64) int64 {
	if fuel == -1 {
		return -1
	}
	return fuel - steps
}

// wantWritten wants one frame more in the journal, and nothing else changed
// but the fuel of two steps.
func wantWritten(t *testing.T, what string, g impl.Gate, op impl.Op, code int64, f impl.Frame) impl.Gate {
	t.Helper()
	after := wantDone(t, what, g, op, code)
	d := withFuel(putFrames(g.Dev, g.Image.Next, f), burnt(g.Dev.Fuel, 2))
	want := impl.Gate{Dev: d, Key: g.Key, Image: imageOf(t, g.Image.Snap, append(cloneImage(g.Image).Frames, f)...)}
	if !sameGate(after, want) || !impl.ValidGate(after) {
		t.Fatalf("%s: %+v, and not %+v", what, after, want)
	}
	return after
}

// wantCompacted wants the snap in its slot, and nothing else changed but the
// fuel of four steps.
func wantCompacted(t *testing.T, what string, g impl.Gate, s impl.Snap) impl.Gate {
	t.Helper()
	after := wantDone(t, what, g, numberOp(impl.OpCompact, 0), impl.CodeOk)
	d := withFuel(putSnap(g.Dev, s), burnt(g.Dev.Fuel, 4))
	want := impl.Gate{Dev: d, Key: g.Key, Image: imageOf(t, s, g.Image.Frames[s.Tail-g.Image.Snap.Tail:]...)}
	if !sameGate(after, want) || !impl.ValidGate(after) {
		t.Fatalf("%s: %+v, and not %+v", what, after, want)
	}
	if !sameState(after.Image.State, g.Image.State) {
		t.Fatalf("%s: a compaction changes the state: %+v", what, after.Image.State)
	}
	return after
}
