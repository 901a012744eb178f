package tests

import (
	"math"
	"math/rand"
	"slices"
	"testing"

	"loop.example/s02127/impl"
)

// The state of busyGate: 9 denied; 10, 11, 12, 100 and 200 used, three of them
// acknowledged; 12 and 11 tapped.

type namedOp struct {
	name string
	op   impl.Op
	code int64
}

func forged(op impl.Op) impl.Op {
	op.Ticket = slices.Clone(op.Ticket)
	op.Ticket[70] ^= 1
	return op
}

// quietOps leave the state of busyGate as it is.
func quietOps() []namedOp {
	return []namedOp{
		{"kind 0", numberOp(0, 4), impl.CodeBad},
		{"kind 6", numberOp(6, 4), impl.CodeBad},
		{"kind -1", numberOp(-1, 4), impl.CodeBad},
		{"kind 2 + 2^32", numberOp(2+1<<32, 4), impl.CodeBad},
		{"a time below 0", tapOp(4, 100, -1), impl.CodeBad},
		{"a time that is too great", tapOp(4, 100, 1<<32), impl.CodeBad},
		{"no ticket", impl.Op{Kind: impl.OpTap, Now: 5}, impl.CodeFormat},
		{"serial 256", tapOp(256, 100, 50), impl.CodeRange},
		{"expired", tapOp(4, 100, 101), impl.CodeExpired},
		{"denied", tapOp(9, 100, 50), impl.CodeDenied},
		{"used and acknowledged", tapOp(100, 100, 50), impl.CodeUsed},
		{"used and pending", tapOp(11, 100, 50), impl.CodeUsed},
		{"forged", forged(tapOp(4, 100, 50)), impl.CodeSignature},
		{"deny -1", numberOp(impl.OpDeny, -1), impl.CodeBad},
		{"deny 256", numberOp(impl.OpDeny, 256), impl.CodeBad},
		{"deny 4 + 2^32", numberOp(impl.OpDeny, 4+1<<32), impl.CodeBad},
		{"denied again", numberOp(impl.OpDeny, 9), impl.CodeOk},
		{"allow -1", numberOp(impl.OpAllow, -1), impl.CodeBad},
		{"allow 256", numberOp(impl.OpAllow, 256), impl.CodeBad},
		{"allow what is not denied", numberOp(impl.OpAllow, 77), impl.CodeOk},
		{"ack fewer", numberOp(impl.OpAck, 2), impl.CodeBad},
		{"ack more", numberOp(impl.OpAck, 6), impl.CodeBad},
		{"ack the same", numberOp(impl.OpAck, 3), impl.CodeOk},
		{"ack 4 + 2^32", numberOp(impl.OpAck, 4+1<<32), impl.CodeBad},
	}
}

type changingOp struct {
	namedOp
	frame impl.Frame
}

// changingOps each put one frame into the journal of busyGate.
func changingOps() []changingOp {
	return []changingOp{
		{namedOp{"admit", tapOp(4, 100, 50), impl.CodeAdmit}, tapFrame(4, 50)},
		{namedOp{"admit at the edges", tapOp(255, modelNowMax, modelNowMax), impl.CodeAdmit}, tapFrame(255, math.MaxUint32)},
		{namedOp{"admit serial 0 at 0", tapOp(0, 0, 0), impl.CodeAdmit}, tapFrame(0, 0)},
		{namedOp{"admit what is allowed again", tapOp(77, 100, 99), impl.CodeAdmit}, tapFrame(77, 99)},
		{namedOp{"deny", numberOp(impl.OpDeny, 4), impl.CodeOk}, denyFrame(4, 1)},
		{namedOp{"deny 0", numberOp(impl.OpDeny, 0), impl.CodeOk}, denyFrame(0, 1)},
		{namedOp{"deny 255", numberOp(impl.OpDeny, 255), impl.CodeOk}, denyFrame(255, 1)},
		{namedOp{"deny what is used", numberOp(impl.OpDeny, 11), impl.CodeOk}, denyFrame(11, 1)},
		{namedOp{"allow", numberOp(impl.OpAllow, 9), impl.CodeOk}, denyFrame(9, 0)},
		{namedOp{"ack one", numberOp(impl.OpAck, 4), impl.CodeOk}, ackFrame(4, 0)},
		{namedOp{"ack all", numberOp(impl.OpAck, 5), impl.CodeOk}, ackFrame(5, 0)},
	}
}

// oddFields sets the fields that an op's kind does not name.
func oddFields(op impl.Op) impl.Op {
	if op.Kind == impl.OpTap {
		op.N = 4
		return op
	}
	op.Now, op.Ticket = 77, ticketOf(4, 100)
	return op
}

func TestOpsThatWriteNothing(t *testing.T) {
	for _, fuel := range []int64{-1, 0, 1, 2, 1000000} {
		g := busyGate(t)
		g.Dev.Fuel = fuel
		for _, n := range quietOps() {
			wantUntouched(t, n.name, g, n.op, n.code)
			wantUntouched(t, n.name, g, oddFields(n.op), n.code)
		}
	}
}

func TestOpsThatWriteAFrame(t *testing.T) {
	for _, fuel := range []int64{-1, 2, 3, 1000000} {
		g := busyGate(t)
		g.Dev.Fuel = fuel
		for _, c := range changingOps() {
			wantWritten(t, c.name, g, c.op, c.code, c.frame)
			wantWritten(t, c.name, g, oddFields(c.op), c.code, c.frame)
		}
	}
}

func TestFullDenialsOfAGate(t *testing.T) {
	s := impl.Snap{Gen: 1, Tail: 1, Deny: serials(100, 115)}
	g := gateOver(t, putSnap(impl.DevNew(8), s))
	g = wantWritten(t, "the sixteenth", g, numberOp(impl.OpDeny, 7), impl.CodeOk, denyFrame(7, 1))
	wantUntouched(t, "the seventeenth", g, numberOp(impl.OpDeny, 8), impl.CodeBad)
	wantUntouched(t, "one of them again", g, numberOp(impl.OpDeny, 7), impl.CodeOk)
}

// A key that is no point refuses every signature, and does all else.
func TestGateWithAKeyThatIsNoPoint(t *testing.T) {
	g := impl.Format(8, filled(32, 0xff)).Gate
	for _, op := range []impl.Op{tapOp(4, 100, 50), tapOp(5, 100, 50)} {
		if got := impl.GateDo(g, op); got.Code != impl.CodeSignature || !sameGate(got.Gate, g) {
			t.Errorf("a tap: %d", got.Code)
		}
	}
	if got := impl.GateDo(g, numberOp(impl.OpDeny, 4)); got.Code != impl.CodeOk || !slices.Equal(got.Gate.Image.State.Deny, []int64{4}) {
		t.Errorf("a denial: %+v", got)
	}
}

// tappedFrom is a gate with count taps from tail on, on n sectors.
func tappedFrom(t *testing.T, n int64, tail uint32, count int) impl.Gate {
	t.Helper()
	s := impl.Snap{Gen: 6, Tail: tail, Deny: []int64{254}, Used: []int64{255}}
	return gateOver(t, putFrames(putSnap(impl.DevNew(n), s), tail, tapFrames(0, count)...))
}

func TestJournalThatFillsUp(t *testing.T) {
	for _, n := range []int64{8, 9, 256} {
		places := int(n - 4)
		for _, tail := range []uint32{1, 3, uint32(places), uint32(places + 1), 1000} {
			full := tappedFrom(t, n, tail, places)
			nearly := tappedFrom(t, n, tail, places-1)
			changing := []changingOp{
				{namedOp{"a tap", tapOp(253, 100, 50), impl.CodeAdmit}, tapFrame(253, 50)},
				{namedOp{"a denial", numberOp(impl.OpDeny, 5), impl.CodeOk}, denyFrame(5, 1)},
				{namedOp{"no denial", numberOp(impl.OpAllow, 254), impl.CodeOk}, denyFrame(254, 0)},
				{namedOp{"an ack", numberOp(impl.OpAck, 2), impl.CodeOk}, ackFrame(2, 0)},
			}
			for _, c := range changing {
				wantWritten(t, "the last place: "+c.name, nearly, c.op, c.code, c.frame)
				wantUntouched(t, "no place: "+c.name, full, c.op, impl.CodeFull)
			}
			wantUntouched(t, "denied in a full journal", full, tapOp(254, 100, 50), impl.CodeDenied)
			wantUntouched(t, "used in a full journal", full, tapOp(255, 100, 50), impl.CodeUsed)
			wantUntouched(t, "forged in a full journal", full, forged(tapOp(253, 100, 50)), impl.CodeSignature)
			wantUntouched(t, "denied again in a full journal", full, numberOp(impl.OpDeny, 254), impl.CodeOk)
			wantUntouched(t, "bad in a full journal", full, numberOp(impl.OpAck, 0), impl.CodeBad)
			wantUntouched(t, "no compaction of what is pending", full, numberOp(impl.OpCompact, 0), impl.CodeOk)
		}
	}
}

func TestNextAtItsEnd(t *testing.T) {
	for _, n := range []int64{8, 11, 256} {
		for _, count := range []uint32{0, 1, 3} {
			g := tappedFrom(t, n, modelNumberMax-1-count, int(count))
			if g.Image.Next != impl.SeqMax-1 {
				t.Fatal("this gate is not at the last but one")
			}
			last := wantWritten(t, "the last number", g, tapOp(253, 100, 50), impl.CodeAdmit, tapFrame(253, 50))
			for _, done := range []impl.Gate{last, tappedFrom(t, n, modelNumberMax-count, int(count))} {
				if done.Image.Next != impl.SeqMax {
					t.Fatal("this gate is not at its end")
				}
				wantUntouched(t, "a tap", done, tapOp(252, 100, 50), impl.CodeFull)
				wantUntouched(t, "a denial", done, numberOp(impl.OpDeny, 1), impl.CodeFull)
				wantUntouched(t, "no denial", done, numberOp(impl.OpAllow, 254), impl.CodeFull)
				wantUntouched(t, "used", done, tapOp(255, 100, 50), impl.CodeUsed)
				wantUntouched(t, "denied again", done, numberOp(impl.OpDeny, 254), impl.CodeOk)
			}
		}
	}
}

// A checkpoint may have the last number as its Tail; then nothing more goes in.
func TestCompactionUpToTheEnd(t *testing.T) {
	g := tappedFrom(t, 8, modelNumberMax-2, 1)
	g = wantWritten(t, "the last frame", g, numberOp(impl.OpAck, 2), impl.CodeOk, ackFrame(2, 0))
	g = wantCompacted(t, "all", g, impl.Snap{Gen: 7, Tail: modelNumberMax, Deny: []int64{254}, Used: []int64{0, 255}})
	wantUntouched(t, "a tap", g, tapOp(253, 100, 50), impl.CodeFull)
	wantUntouched(t, "a compaction", g, numberOp(impl.OpCompact, 0), impl.CodeOk)
}

func TestGenAtItsEnd(t *testing.T) {
	compact := numberOp(impl.OpCompact, 0)
	for _, frames := range [][]impl.Frame{{denyFrame(3, 1)}, {tapFrame(3, 1), ackFrame(1, 0)}, {denyFrame(3, 1), tapFrame(4, 1)}} {
		d := putFrames(putSnap(impl.DevNew(8), impl.Snap{Gen: modelNumberMax - 1, Tail: 5}), 5, frames...)
		g := gateOver(t, d)
		cut := modelCut(g.Image)
		g = wantCompacted(t, "the last checkpoint", g, modelNextSnap(g.Image, cut))
		if g.Image.Snap.Gen != impl.GenMax {
			t.Fatalf("Gen %d", g.Image.Snap.Gen)
		}
		wantUntouched(t, "nothing to compact", g, compact, impl.CodeOk)
		d = putFrames(putSnap(impl.DevNew(8), impl.Snap{Gen: modelNumberMax, Tail: 5}), 5, frames...)
		for _, fuel := range []int64{-1, 0, 4} {
			g = gateOver(t, withFuel(d, fuel))
			wantUntouched(t, "no checkpoint more", g, compact, impl.CodeFull)
		}
		g = gateOver(t, d)
		wantWritten(t, "frames go on", g, numberOp(impl.OpDeny, 9), impl.CodeOk, denyFrame(9, 1))
	}
	g := gateOver(t, putFrames(putSnap(impl.DevNew(8), impl.Snap{Gen: modelNumberMax, Tail: 5}), 5, tapFrames(0, 4)...))
	wantUntouched(t, "the cut is the tail", g, compact, impl.CodeOk)
	wantUntouched(t, "a full journal", g, numberOp(impl.OpAck, 1), impl.CodeFull)
}

type compaction struct {
	name   string
	frames []impl.Frame
	passed int
	deny   []int64
	used   []int64
}

// compactions begin with 9 and 77 denied and 100 and 200 used; passed is the
// number of frames that the checkpoint takes in.
func compactions() []compaction {
	return []compaction{
		{"denials alone", []impl.Frame{denyFrame(1, 1), denyFrame(9, 0), denyFrame(255, 1)}, 3, []int64{1, 77, 255}, []int64{100, 200}},
		{"an ack of old", []impl.Frame{ackFrame(2, 0)}, 1, []int64{9, 77}, []int64{100, 200}},
		{"all acknowledged", []impl.Frame{tapFrame(50, 5), tapFrame(40, 6), ackFrame(4, 0)}, 3, []int64{9, 77}, []int64{40, 50, 100, 200}},
		{"all acknowledged one by one", []impl.Frame{tapFrame(50, 5), ackFrame(3, 0), tapFrame(40, 6), ackFrame(4, 0)}, 4, []int64{9, 77}, []int64{40, 50, 100, 200}},
		{"pending behind what is acknowledged", []impl.Frame{tapFrame(50, 5), ackFrame(3, 0), tapFrame(40, 6)}, 2, []int64{9, 77}, []int64{50, 100, 200}},
		{"pending in the middle, acknowledged before", []impl.Frame{tapFrame(50, 5), tapFrame(40, 6), denyFrame(41, 1), ackFrame(3, 0), denyFrame(9, 0)}, 1, []int64{9, 77}, []int64{50, 100, 200}},
		{"denials before what is pending", []impl.Frame{denyFrame(9, 0), denyFrame(2, 1), tapFrame(50, 5), denyFrame(3, 1)}, 2, []int64{2, 77}, []int64{100, 200}},
		{"acks that are old when they are read again", []impl.Frame{tapFrame(50, 5), tapFrame(40, 6), tapFrame(30, 7), ackFrame(3, 0), ackFrame(4, 0), denyFrame(5, 1)}, 2, []int64{9, 77}, []int64{40, 50, 100, 200}},
		{"denied, tapped before", []impl.Frame{tapFrame(50, 5), denyFrame(50, 1), ackFrame(3, 0), tapFrame(7, 1), denyFrame(50, 0)}, 3, []int64{9, 50, 77}, []int64{50, 100, 200}},
		{"allowed, then tapped", []impl.Frame{denyFrame(9, 0), tapFrame(9, 5), ackFrame(3, 0), denyFrame(9, 1)}, 4, []int64{9, 77}, []int64{9, 100, 200}},
	}
}

// Each compaction with the journal at every place round its end, from a
// checkpoint in either slot, with the other slot empty, older or spoilt.
func TestCompactions(t *testing.T) {
	others := []func(d impl.Dev, gen uint32) impl.Dev{
		func(d impl.Dev, gen uint32) impl.Dev { return d },
		func(d impl.Dev, gen uint32) impl.Dev { return putSnap(d, impl.Snap{Gen: gen - 1, Tail: 1}) },
		func(d impl.Dev, gen uint32) impl.Dev { return putText(d, int64((gen+1)%2)*2, filled(128, 'S')) },
	}
	for _, c := range compactions() {
		for tail := uint32(1); tail <= 14; tail++ {
			for _, gen := range []uint32{0, 1, 2, 7, 255, 256} {
				s := impl.Snap{Gen: gen, Tail: tail, Deny: []int64{9, 77}, Used: []int64{100, 200}}
				d := putFrames(putSnap(others[tail%3](impl.DevNew(10), gen), s), tail, c.frames...)
				g := gateOver(t, withFuel(d, int64(4+tail)))
				next := impl.Snap{Gen: gen + 1, Tail: tail + uint32(c.passed), Deny: c.deny, Used: c.used}
				after := wantCompacted(t, c.name, g, next)
				wantUntouched(t, c.name+", again", after, numberOp(impl.OpCompact, 0), impl.CodeOk)
			}
		}
	}
}

func TestCompactionsOfNothing(t *testing.T) {
	compact := numberOp(impl.OpCompact, 0)
	s := impl.Snap{Gen: 3, Tail: 7, Deny: []int64{9}, Used: []int64{100}}
	for _, frames := range [][]impl.Frame{nil, tapFrames(0, 1), tapFrames(0, 4), {tapFrame(0, 1), denyFrame(9, 0), ackFrame(1, 0)}} {
		for _, fuel := range []int64{-1, 0, 1, 4} {
			d := putFrames(putSnap(impl.DevNew(8), s), 7, frames...)
			wantUntouched(t, "the cut is the tail", gateOver(t, withFuel(d, fuel)), compact, impl.CodeOk)
		}
	}
}

func TestGreatCompactions(t *testing.T) {
	frames := slices.Concat(tapFrames(4, 250), []impl.Frame{denyFrame(0, 1), ackFrame(121, 0)})
	for _, tail := range []uint32{1, 100, 252, modelNumberMax - 252} {
		s := impl.Snap{Gen: 8, Tail: tail, Used: []int64{0}}
		g := gateOver(t, putFrames(putSnap(impl.DevNew(256), s), tail, frames...))
		used := append([]int64{0}, serials(4, 124)...)
		wantCompacted(t, "a full journal", g, impl.Snap{Gen: 9, Tail: tail + 120, Used: used})
	}
}

// A gate over a device that no gate wrote: what already stands behind the new
// frame is read with it, whether it fits or not.
func TestFramesThatStandBehindTheJournal(t *testing.T) {
	s := impl.Snap{Gen: 3, Tail: 7}
	before := putFrames(putSnap(impl.DevNew(10), s), 7, tapFrame(1, 5))
	deny := numberOp(impl.OpDeny, 30)

	g := gateOver(t, putFrames(before, 9, tapFrame(2, 6), denyFrame(3, 1)))
	after := wantDone(t, "frames that fit", g, deny, impl.CodeOk)
	want := imageOf(t, s, tapFrame(1, 5), denyFrame(30, 1), tapFrame(2, 6), denyFrame(3, 1))
	if !sameImage(after.Image, want) || !impl.ValidGate(after) {
		t.Errorf("frames that fit: %+v", after.Image)
	}

	g = gateOver(t, putFrames(before, 9, tapFrame(1, 6)))
	after = wantDone(t, "a frame that does not fit", g, deny, impl.CodeOk)
	if !sameImage(after.Image, impl.Image{}) || impl.ValidGate(after) {
		t.Errorf("a frame that does not fit: %+v", after.Image)
	}
	if got := impl.GateDo(after, deny); !sameGateRes(got, impl.GateRes{}) {
		t.Errorf("and after it: %+v", got)
	}
}

// devOfState lays a state on a device: what is acknowledged in the snap, and
// the rest as frames.
func devOfState(n int64, s impl.State) impl.Dev {
	snap := impl.Snap{Gen: 2, Tail: 5, Deny: nil, Used: slices.Clone(s.Used)}
	var frames []impl.Frame
	for _, tap := range s.Taps {
		snap.Used = modelWithout(snap.Used, tap.Serial)
		frames = append(frames, tapFrame(uint32(tap.Serial), uint32(tap.Now)))
	}
	for _, v := range s.Deny {
		frames = append(frames, denyFrame(uint32(v), 1))
	}
	return putFrames(putSnap(impl.DevNew(n), snap), 5, frames...)
}

// stateOfChance is valid, with serials near the edges.
func stateOfChance(r *rand.Rand) impl.State {
	s := impl.State{}
	for range r.Intn(40) {
		op := opOfChance(r, s)
		if op.Kind == impl.OpTap {
			s = modelApply(s, tapFrameIfFits(s, r)).State
			continue
		}
		s = modelStep(s, ticketKey(), op).State
	}
	return s
}

func tapFrameIfFits(s impl.State, r *rand.Rand) impl.Frame {
	for {
		serial := r.Int63n(256)
		if r.Intn(2) == 0 {
			serial = r.Int63n(24)
		}
		if !slices.Contains(s.Used, serial) && !slices.Contains(s.Deny, serial) {
			return tapFrame(uint32(serial), uint32(r.Intn(20)))
		}
	}
}

// Promise 8, by the frames that gates write: the last frame of the image is
// the one that the op was due for.
func TestDueFramesOfGates(t *testing.T) {
	r := rand.New(rand.NewSource(71))
	written := 0
	for range 700 {
		s := stateOfChance(r)
		g := gateOver(t, devOfState(100, s))
		if !sameState(g.Image.State, s) {
			t.Fatalf("the device does not hold the state: %+v", g.Image)
		}
		for range 4 {
			op := opOfChance(r, s)
			want := impl.StepState(s, ticketKey(), op)
			after := wantDone(t, "an op of chance", g, op, want.Code)
			if !sameState(after.Image.State, want.State) {
				t.Fatalf("%+v: %+v, and not %+v", op, after.Image.State, want.State)
			}
			if sameState(want.State, s) {
				continue
			}
			written++
			last := after.Image.Frames[len(after.Image.Frames)-1]
			applied := impl.ApplyFrame(s, last)
			if len(after.Image.Frames) != len(g.Image.Frames)+1 || !applied.Ok || !sameState(applied.State, want.State) {
				t.Fatalf("%+v: the frame %+v makes %+v, and not %+v", op, last, applied.State, want.State)
			}
		}
	}
	if written < 600 {
		t.Errorf("%d frames only", written)
	}
}

// Promise 8 at states that no journal holds, by the model's frame of the op.
func TestDueFramesOfStates(t *testing.T) {
	ops := []impl.Op{tapOp(4, 100, 50), tapOp(255, modelNowMax, modelNowMax), numberOp(impl.OpCompact, 0)}
	for _, v := range []int64{0, 3, 7, 90, 100, 107, 240, 255} {
		ops = append(ops, numberOp(impl.OpDeny, v), numberOp(impl.OpAllow, v))
	}
	for _, n := range validStates() {
		acks := []impl.Op{}
		for v := int64(-1); v <= 257; v++ {
			acks = append(acks, numberOp(impl.OpAck, v))
		}
		for _, op := range slices.Concat(ops, acks) {
			r := impl.StepState(n.state, ticketKey(), op)
			if sameState(r.State, n.state) {
				continue
			}
			got := impl.ApplyFrame(n.state, modelDue(op, 9))
			if !got.Ok || !sameState(got.State, r.State) {
				t.Errorf("%s, %+v: %+v, and not %+v", n.name, op, got, r.State)
			}
		}
	}
}
