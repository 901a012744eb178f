package tests

import (
	"math"
	"math/rand"
	"testing"

	"loop.example/s02127/impl"
)

// wantApplied also holds the answer against the model.
func wantApplied(t *testing.T, what string, s impl.State, f impl.Frame, want impl.State) {
	t.Helper()
	got := impl.ApplyFrame(s, f)
	if !got.Ok || !sameState(got.State, want) {
		t.Errorf("%s: %+v gives %+v, and not %+v", what, f, got, want)
	}
	if model := modelApply(s, f); !model.Ok || !sameState(model.State, want) {
		t.Errorf("%s: the model has %+v", what, model)
	}
}

func wantUnfit(t *testing.T, what string, s impl.State, f impl.Frame) {
	t.Helper()
	if got := impl.ApplyFrame(s, f); got.Ok || !sameState(got.State, impl.State{}) {
		t.Errorf("%s: %+v gives %+v", what, f, got)
	}
	if modelApply(s, f).Ok {
		t.Errorf("%s: the model takes it", what)
	}
}

func tapFrame(a, b uint32) impl.Frame {
	return impl.Frame{Seq: 7, Kind: impl.FrameTap, A: a, B: b}
}

func denyFrame(a, b uint32) impl.Frame {
	return impl.Frame{Seq: 7, Kind: impl.FrameDeny, A: a, B: b}
}

func ackFrame(a, b uint32) impl.Frame {
	return impl.Frame{Seq: 7, Kind: impl.FrameAck, A: a, B: b}
}

// goodFrames all fit someState, and each but the last changes it.
func goodFrames() []impl.Frame {
	return []impl.Frame{tapFrame(4, 50), denyFrame(4, 1), denyFrame(3, 0), ackFrame(2, 0), ackFrame(0, 0)}
}

func TestFramesOnBrokenStates(t *testing.T) {
	for _, f := range goodFrames() {
		if !impl.ApplyFrame(someState(), f).Ok {
			t.Errorf("%+v does not fit", f)
		}
		for _, n := range brokenStates() {
			wantUnfit(t, n.name, n.state, f)
		}
	}
}

func TestTapFrames(t *testing.T) {
	for _, a := range []uint32{1, 4, 6, 89, 91, 254} {
		for _, b := range edgeNumbers {
			want := someState()
			want.Used = modelWith(want.Used, int64(a))
			want.Taps = append(want.Taps, impl.TapRec{Serial: int64(a), Now: int64(b)})
			wantApplied(t, "a tap", someState(), tapFrame(a, b), want)
		}
	}
	for _, a := range []uint32{0, 255} {
		want := impl.State{Used: []int64{int64(a)}, Taps: []impl.TapRec{{Serial: int64(a), Now: 1}}}
		wantApplied(t, "the first and the last serial", impl.State{}, tapFrame(a, 1), want)
	}
	for _, a := range []uint32{0, 5, 255} {
		wantUnfit(t, "a used serial", someState(), tapFrame(a, 1))
	}
	wantUnfit(t, "a denied serial", someState(), tapFrame(3, 1))
	wantUnfit(t, "a denied and used serial", someState(), tapFrame(90, 1))
	for _, a := range []uint32{256, 257, 4 + 256, 65536, 1 << 31, math.MaxUint32} {
		wantUnfit(t, "no serial", impl.State{}, tapFrame(a, 1))
	}
}

func TestDenyFrames(t *testing.T) {
	for _, a := range []uint32{0, 1, 5, 89, 255} {
		want := someState()
		want.Deny = modelWith(want.Deny, int64(a))
		wantApplied(t, "denied", someState(), denyFrame(a, 1), want)
		wantApplied(t, "and allowed", want, denyFrame(a, 0), someState())
		wantUnfit(t, "denied again", want, denyFrame(a, 1))
		wantUnfit(t, "allowed without being denied", someState(), denyFrame(a, 0))
	}
	for _, a := range []uint32{256, 3 + 256, 3 + 65536, 1 << 31, math.MaxUint32} {
		wantUnfit(t, "no serial to deny", someState(), denyFrame(a, 1))
		wantUnfit(t, "no serial to allow", someState(), denyFrame(a, 0))
	}
	for _, b := range []uint32{2, 3, 256, 257, 1 << 31, math.MaxUint32} {
		wantUnfit(t, "another B, not denied", someState(), denyFrame(4, b))
		wantUnfit(t, "another B, denied", someState(), denyFrame(3, b))
	}
}

func TestFullDenyFrames(t *testing.T) {
	nearly, full := impl.State{Deny: serials(100, 115)}, impl.State{Deny: serials(100, 116)}
	wantApplied(t, "the sixteenth", nearly, denyFrame(115, 1), full)
	wantApplied(t, "one of sixteen leaves", full, denyFrame(115, 0), nearly)
	wantUnfit(t, "a seventeenth", full, denyFrame(116, 1))
	wantUnfit(t, "one of sixteen again", full, denyFrame(107, 1))
}

func TestAckFrames(t *testing.T) {
	s := impl.State{Used: []int64{1, 2, 3, 4, 5}, Acked: 2, Taps: tapsOf(5, 1, 3)}
	for a := range uint32(3) {
		wantApplied(t, "an old acknowledgement", s, ackFrame(a, 0), s)
	}
	for a := uint32(3); a <= 5; a++ {
		want := cloneState(s)
		want.Acked, want.Taps = int64(a), s.Taps[a-2:]
		wantApplied(t, "an acknowledgement", s, ackFrame(a, 0), want)
	}
	for _, a := range []uint32{6, 7, 256, 258, 1 << 31, math.MaxUint32} {
		wantUnfit(t, "more than there are", s, ackFrame(a, 0))
	}
	for _, b := range []uint32{1, 2, 256, 1 << 31, math.MaxUint32} {
		for a := range uint32(7) {
			wantUnfit(t, "another B", s, ackFrame(a, b))
		}
	}
	wantApplied(t, "none of none", impl.State{}, ackFrame(0, 0), impl.State{})
	wantUnfit(t, "one of none", impl.State{}, ackFrame(1, 0))
}

func TestFramesOfOtherKinds(t *testing.T) {
	for _, kind := range []int64{0, 4, 5, -1, 255, 257, 258, 259, 1 + 1<<32, 3 + 1<<32, math.MinInt64, math.MaxInt64} {
		for _, f := range goodFrames() {
			f.Kind = kind
			wantUnfit(t, "another kind", someState(), f)
		}
	}
}

func TestSeqOfAFrameDoesNotMatter(t *testing.T) {
	for _, f := range goodFrames() {
		want := modelApply(someState(), f).State
		for _, seq := range edgeNumbers {
			f.Seq = seq
			wantApplied(t, "another Seq", someState(), f, want)
		}
	}
}

func frameOfChance(r *rand.Rand, s impl.State) impl.Frame {
	f := impl.Frame{Seq: r.Uint32(), Kind: int64(r.Intn(5)), A: uint32(r.Intn(28)), B: uint32(r.Intn(3))}
	if f.Kind == impl.FrameAck {
		f.A = uint32(max(0, s.Acked+r.Int63n(int64(len(s.Taps))+4)-2))
		f.B = uint32(r.Intn(8) / 7)
	}
	if r.Intn(8) == 0 {
		f.A = 252 + uint32(r.Intn(7))
	}
	return f
}

func TestFramesOfChance(t *testing.T) {
	r := rand.New(rand.NewSource(53))
	fits := map[int64]int{}
	for range 200 {
		s := impl.State{}
		for range 120 {
			f := frameOfChance(r, s)
			was := cloneState(s)
			got, want := impl.ApplyFrame(s, f), modelApply(s, f)
			if got.Ok != want.Ok || !sameState(got.State, want.State) {
				t.Fatalf("%+v on %+v: %+v, and not %+v", f, s, got, want)
			}
			if !impl.ValidState(got.State) || !modelValidState(got.State) {
				t.Fatalf("%+v makes a state that is not valid: %+v", f, got.State)
			}
			if !sameState(s, was) {
				t.Fatalf("%+v changed its argument", f)
			}
			if got.Ok {
				fits[f.Kind]++
				s = got.State
			}
		}
	}
	for kind := int64(1); kind <= 3; kind++ {
		if fits[kind] < 1000 {
			t.Errorf("kind %d fitted %d times only", kind, fits[kind])
		}
	}
}

func TestFramesShareNothing(t *testing.T) {
	frames := append(goodFrames(), tapFrame(5, 0), denyFrame(3, 1), ackFrame(9, 0), impl.Frame{})
	for _, n := range allStates() {
		for _, f := range frames {
			given := roomyState(n.state)
			was := cloneAll(given)
			got := impl.ApplyFrame(given, f)
			wantStateApart(t, n.name, got.State, given, was)
		}
	}
}
