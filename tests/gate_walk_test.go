package tests

import (
	"math/rand"
	"slices"
	"testing"

	"loop.example/s02127/impl"
)

// walk is a gate and what it is held against: the state by the rules alone,
// and every admission that counts, in order.
type walk struct {
	t            *testing.T
	r            *rand.Rand
	gate         impl.Gate
	state        impl.State
	admissions   []impl.TapRec
	acknowledged []impl.TapRec
	tickets      [][]byte
	counts       map[string]int
}

func newWalk(t *testing.T, r *rand.Rand, n int64, counts map[string]int) *walk {
	g := impl.Format(n, ticketKey())
	if g.Code != impl.CodeOk {
		t.Fatalf("format: %d", g.Code)
	}
	return &walk{t: t, r: r, gate: g.Gate, counts: counts}
}

// op is mostly one that writes; the fuller the journal, the more it is one
// that makes room.
func (w *walk) op() impl.Op {
	places := len(w.gate.Dev.Disk)/64 - 4
	total := w.state.Acked + int64(len(w.state.Taps))
	pick := w.r.Intn(20)
	if len(w.gate.Image.Frames) >= places-2 && w.r.Intn(6) > 0 {
		pick = 8 + w.r.Intn(8)
	}
	switch {
	case pick < 8:
		return impl.Op{Kind: impl.OpTap, Ticket: ticketsOfChance[w.r.Intn(len(ticketsOfChance))], Now: w.r.Int63n(9)}
	case pick < 10:
		return numberOp(impl.OpAck, total)
	case pick < 12:
		return numberOp(impl.OpAck, w.state.Acked+w.r.Int63n(int64(len(w.state.Taps))+3)-1)
	case pick < 16:
		return numberOp(impl.OpCompact, w.r.Int63())
	case pick < 18:
		return numberOp(impl.OpDeny, w.r.Int63n(24))
	case pick < 19:
		return numberOp(impl.OpAllow, w.r.Int63n(24))
	}
	return opOfChance(w.r, w.state)
}

// count takes an op into account that counts: one answered, or lost but there.
func (w *walk) count(op impl.Op, after impl.State) {
	if op.Kind == impl.OpTap && len(after.Taps) > len(w.state.Taps) {
		w.admissions = append(w.admissions, after.Taps[len(after.Taps)-1])
		w.tickets = append(w.tickets, op.Ticket)
	}
	if op.Kind == impl.OpAck {
		w.acknowledged = append(w.acknowledged, w.state.Taps[:after.Acked-w.state.Acked]...)
	}
	w.state = cloneState(after)
}

func (w *walk) step() {
	op := w.op()
	want := modelStep(w.state, w.gate.Key, op)
	got := impl.GateDo(w.gate, op)
	if !sameGateRes(got, modelDo(w.gate, op)) {
		w.t.Fatalf("%+v: %+v, and not the model's", op, got)
	}
	due := !sameState(want.State, w.state)
	switch {
	case got.Code == impl.CodeLost:
		w.counts["lost"]++
		w.recover(got.Gate.Dev, op, want.State)
		return
	case got.Code == impl.CodeFull:
		w.counts["full"]++
		if !due || len(w.gate.Image.Frames) != len(w.gate.Dev.Disk)/64-4 || !sameGate(got.Gate, w.gate) {
			w.t.Fatalf("%+v: full: %+v", op, got.Gate.Image)
		}
		return
	case got.Code != want.Code:
		w.t.Fatalf("%+v: code %d, and not %d", op, got.Code, want.Code)
	}
	if op.Kind == impl.OpCompact && got.Gate.Image.Snap.Gen > w.gate.Image.Snap.Gen {
		w.counts["compacted"]++
	}
	w.gate = got.Gate
	w.count(op, want.State)
	w.check()
}

func (w *walk) crash(d impl.Dev) impl.Dev {
	c := impl.Crash{Tear: w.r.Int63n(3) - 1, At: w.r.Int63n(65)}
	if w.r.Intn(2) == 0 {
		c.At = 56 + w.r.Int63n(9)
	}
	for range w.r.Intn(5) {
		c.Keep = append(c.Keep, w.r.Intn(2) == 0)
	}
	after := impl.DevCrash(d, c)
	after.Fuel = w.r.Int63n(7) - 1
	return after
}

// recover crashes and recovers until the gate stands, and finds out whether
// the lost op is there.
func (w *walk) recover(d impl.Dev, op impl.Op, with impl.State) {
	for {
		crashed := w.crash(d)
		got := impl.Recover(crashed, w.gate.Key)
		if !sameGateRes(got, modelRecover(crashed, w.gate.Key)) {
			w.t.Fatalf("recovery: %+v, and not the model's", got)
		}
		if got.Code == impl.CodeLost {
			w.counts["lost in recovery"]++
			d = got.Gate.Dev
			continue
		}
		if got.Code != impl.CodeOk || !impl.ValidGate(got.Gate) {
			w.t.Fatalf("recovery: code %d: %+v", got.Code, got.Gate)
		}
		w.gate = got.Gate
		break
	}
	state := w.gate.Image.State
	switch {
	case sameState(state, w.state):
		w.counts["without"]++
	case sameState(state, with):
		w.counts["with"]++
		w.count(op, with)
	default:
		w.t.Fatalf("%+v lost: %+v, and neither %+v nor %+v", op, state, w.state, with)
	}
	w.gate.Dev.Fuel = w.r.Int63n(14) - 1
	w.check()
	w.tapAgain()
}

// check is promise 15, and that the gate's state is that of the rules.
func (w *walk) check() {
	s := w.gate.Image.State
	if !sameState(s, w.state) {
		w.t.Fatalf("state %+v, and not %+v", s, w.state)
	}
	if s.Acked != int64(len(w.acknowledged)) || !slices.Equal(slices.Concat(w.acknowledged, s.Taps), w.admissions) {
		w.t.Fatalf("acknowledged %v and pending %v are not the admissions %v", w.acknowledged, s.Taps, w.admissions)
	}
}

// tapAgain is promise 13.
func (w *walk) tapAgain() {
	for _, ticket := range w.tickets {
		for _, now := range []int64{0, w.r.Int63n(12), modelNowMax} {
			got := impl.GateDo(w.gate, impl.Op{Kind: impl.OpTap, Ticket: ticket, Now: now})
			if got.Code != impl.CodeUsed && got.Code != impl.CodeExpired && got.Code != impl.CodeDenied || !sameGate(got.Gate, w.gate) {
				w.t.Fatalf("tapped again at %d: code %d", now, got.Code)
			}
			w.counts["tapped again"]++
		}
	}
}

// empty is promise 14: all acknowledged and compacted, the journal is empty.
// A journal that is full of taps takes no acknowledgement any more.
func (w *walk) empty() {
	w.gate.Dev.Fuel = -1
	compact := numberOp(impl.OpCompact, 0)
	g := impl.GateDo(w.gate, compact).Gate
	if !sameState(g.Image.State, w.state) {
		w.t.Fatalf("a compaction changes the state: %+v", g.Image.State)
	}
	acked := impl.GateDo(g, numberOp(impl.OpAck, int64(len(w.admissions))))
	if acked.Code == impl.CodeFull {
		w.counts["stuck"]++
		return
	}
	done := impl.GateDo(acked.Gate, compact)
	im := done.Gate.Image
	if acked.Code != impl.CodeOk || done.Code != impl.CodeOk || im.Next != im.Snap.Tail || len(im.Frames) != 0 {
		w.t.Fatalf("acknowledged %d, compacted %d: %+v", acked.Code, done.Code, im)
	}
	if !sameState(im.State, acked.Gate.Image.State) || im.State.Acked != int64(len(w.admissions)) || len(im.State.Taps) != 0 {
		w.t.Fatalf("emptied: %+v", im.State)
	}
	w.counts["emptied"]++
}

func wantCounts(t *testing.T, counts, least map[string]int) {
	t.Helper()
	for name, n := range least {
		if counts[name] < n {
			t.Errorf("%s: %d times, and not %d: %v", name, counts[name], n, counts)
		}
	}
}

// Promises 12 to 15.
func TestWalksWithCrashes(t *testing.T) {
	r := rand.New(rand.NewSource(74))
	counts := map[string]int{}
	for range 220 {
		w := newWalk(t, r, 8+r.Int63n(8), counts)
		w.gate.Dev.Fuel = r.Int63n(12)
		for range 70 {
			w.step()
			if r.Intn(15) == 0 {
				w.recover(w.gate.Dev, numberOp(impl.OpCompact, 0), w.state)
			}
		}
		w.empty()
	}
	wantCounts(t, counts, map[string]int{"lost": 600, "lost in recovery": 150, "with": 100, "without": 800, "full": 100, "compacted": 500, "tapped again": 3000, "emptied": 60})
}

// Promise 11: without a crash, with a gate that is never without fuel.
func TestWalksWithoutCrashes(t *testing.T) {
	r := rand.New(rand.NewSource(75))
	counts := map[string]int{}
	for i := range 60 {
		n := 8 + r.Int63n(12)
		if i%10 == 0 {
			n = 256
		}
		w := newWalk(t, r, n, counts)
		for range 120 {
			w.step()
			if w.gate.Dev.Fuel != -1 || w.gate.Dev.Dead || len(w.gate.Dev.Cache) != 0 {
				t.Fatalf("the device: %+v", w.gate.Dev)
			}
		}
		w.empty()
	}
	if counts["lost"] != 0 {
		t.Errorf("%d lost", counts["lost"])
	}
	wantCounts(t, counts, map[string]int{"full": 50, "compacted": 200, "emptied": 20})
}

// Every serial is admitted once through a journal of four, and nothing is
// lost on the way round it.
func TestEverySerialThroughASmallJournal(t *testing.T) {
	g := impl.Format(8, ticketKey()).Gate
	var admitted []impl.TapRec
	for serial := range int64(256) {
		tap := tapOp(serial, 1000, serial)
		for _, row := range []struct {
			op   impl.Op
			code int64
		}{{tap, impl.CodeAdmit}, {tap, impl.CodeUsed}, {numberOp(impl.OpAck, serial+1), impl.CodeOk}, {numberOp(impl.OpCompact, 0), impl.CodeOk}, {tap, impl.CodeUsed}} {
			r := impl.GateDo(g, row.op)
			if r.Code != row.code {
				t.Fatalf("serial %d, kind %d: code %d", serial, row.op.Kind, r.Code)
			}
			if r.Code == impl.CodeAdmit {
				admitted = append(admitted, r.Gate.Image.State.Taps...)
			}
			g = r.Gate
		}
		if im := g.Image; im.Next != im.Snap.Tail || im.Snap.Gen != uint32(serial+1) || im.Next != uint32(2*serial+3) {
			t.Fatalf("serial %d: %+v", serial, im)
		}
	}
	if len(admitted) != 256 || g.Image.State.Acked != 256 || !slices.Equal(g.Image.State.Used, serials(0, 256)) {
		t.Errorf("%d admitted: %+v", len(admitted), g.Image.State)
	}
}
