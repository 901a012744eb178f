package tests

import (
	"math"
	"testing"

	"loop.example/s02127/impl"
)

// wantCut also holds the cut against the model, and the image against what it was.
func wantCut(t *testing.T, what string, im impl.Image, want uint32) {
	t.Helper()
	was := cloneImage(im)
	if got := impl.CutPoint(im); got != want {
		t.Errorf("%s: cut %d, and not %d: %+v", what, got, want, im)
	}
	if model := modelCut(im); model != want {
		t.Errorf("%s: the model cuts at %d", what, model)
	}
	if !sameImage(im, was) {
		t.Errorf("%s: the image is changed", what)
	}
}

func TestCutOfNoImage(t *testing.T) {
	wantCut(t, "zero", impl.Image{}, 0)
	s := impl.Snap{Gen: 2, Tail: 5, Used: []int64{3}}
	for _, frames := range [][]impl.Frame{nil, tapFrames(10, 3), {ackFrame(1, 0)}} {
		im := imageOf(t, s, frames...)
		im.Ok = false
		wantCut(t, "not Ok", im, 0)
	}
}

func TestCutWithoutTaps(t *testing.T) {
	for _, tail := range []uint32{1, 5, 3999999990, 4000000000} {
		s := impl.Snap{Gen: 2, Tail: tail, Deny: []int64{4}, Used: []int64{3, 4}}
		wantCut(t, "no frames", imageOf(t, s), tail)
		wantCut(t, "no taps", imageOf(t, s, denyFrame(9, 1), ackFrame(2, 0), denyFrame(4, 0)), tail+3)
	}
}

// Four taps with two used before them, of which each number is acknowledged.
func TestCutBetweenTaps(t *testing.T) {
	s := impl.Snap{Gen: 2, Tail: 5, Used: []int64{3, 4}}
	for acked, want := range map[uint32]uint32{2: 5, 3: 6, 4: 7, 5: 8, 6: 10} {
		frames := append(tapFrames(10, 4), ackFrame(acked, 0))
		wantCut(t, "taps in a row", imageOf(t, s, frames...), want)
	}
	for acked, want := range map[uint32]uint32{2: 6, 3: 8, 4: 11, 5: 12, 6: 14} {
		frames := []impl.Frame{
			denyFrame(100, 1), tapFrame(10, 1), denyFrame(101, 1), tapFrame(11, 1), ackFrame(2, 0),
			denyFrame(100, 0), tapFrame(12, 1), tapFrame(13, 1), ackFrame(acked, 0),
		}
		wantCut(t, "other kinds between", imageOf(t, s, frames...), want)
	}
}

func TestCutOfAFullJournal(t *testing.T) {
	s := impl.Snap{Gen: 2, Tail: 3999999748}
	frames := tapFrames(0, 251)
	wantCut(t, "none acknowledged", imageOf(t, s, append(frames, ackFrame(0, 0))...), 3999999748)
	wantCut(t, "all but one acknowledged", imageOf(t, s, append(frames, ackFrame(250, 0))...), 3999999998)
	wantCut(t, "all acknowledged", imageOf(t, s, append(frames, ackFrame(251, 0))...), 4000000000)
	all := impl.Snap{Gen: 2, Tail: 9, Used: serials(0, 255)}
	wantCut(t, "the last serial", imageOf(t, all, tapFrame(255, 1)), 9)
	wantCut(t, "the last serial acknowledged", imageOf(t, all, tapFrame(255, 1), ackFrame(256, 0)), 11)
}

// An image that no device gives is answered by the words alone: the frames'
// own Seq, their kinds, and the numbers that stand there.
func TestCutOfOddImages(t *testing.T) {
	frames := []impl.Frame{{Seq: 900, Kind: 0}, {Seq: 70, Kind: 257}, {Seq: 30, Kind: impl.FrameTap}, {Seq: 0, Kind: impl.FrameTap}, {Seq: math.MaxUint32, Kind: impl.FrameTap}}
	for _, c := range []struct {
		acked int64
		want  uint32
	}{{math.MinInt64, 30}, {-1, 30}, {0, 30}, {2, 30}, {3, 0}, {4, math.MaxUint32}, {5, 12}, {math.MaxInt64, 12}} {
		im := impl.Image{Ok: true, Frames: frames, Next: 12}
		im.Snap.Used = []int64{-5, 700}
		im.State.Acked = c.acked
		wantCut(t, "odd", im, c.want)
	}
}
