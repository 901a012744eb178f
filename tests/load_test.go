package tests

import (
	"bytes"
	"math"
	"math/rand"
	"slices"
	"testing"

	"loop.example/s02127/impl"
)

// putText lays a text on the disk from a sector on.
func putText(d impl.Dev, s int64, text []byte) impl.Dev {
	d = cloneDev(d)
	copy(d.Disk[s*64:], text)
	return d
}

// putSnap lays a snap in the slot of its generation.
func putSnap(d impl.Dev, s impl.Snap) impl.Dev {
	return putText(d, int64(s.Gen%2)*2, modelSnap(s))
}

// sectorOfFrame is where the frame q lies on a device.
func sectorOfFrame(d impl.Dev, q uint32) int64 {
	return 4 + int64(q)%int64(len(d.Disk)/64-4)
}

// putFrames gives the frames the numbers from q on and lays each in its sector.
func putFrames(d impl.Dev, q uint32, frames ...impl.Frame) impl.Dev {
	for i, f := range frames {
		f.Seq = q + uint32(i)
		d = putText(d, sectorOfFrame(d, f.Seq), modelFrame(f.Seq, byte(f.Kind), f.A, f.B))
	}
	return d
}

// numbered are the frames as an image has them.
func numbered(q uint32, frames ...impl.Frame) []impl.Frame {
	list := slices.Clone(frames)
	for i := range list {
		list[i].Seq = q + uint32(i)
	}
	return list
}

// tapFrames are n taps of serials from the given one on.
func tapFrames(from, n int) []impl.Frame {
	var list []impl.Frame
	for i := range n {
		list = append(list, tapFrame(uint32(from+i), uint32(1000+i)))
	}
	return list
}

// wantLoaded holds the image against the model's too, and the state of it
// against its promise.
func wantLoaded(t *testing.T, what string, d impl.Dev, want impl.Image) {
	t.Helper()
	got := impl.LoadDev(d)
	if !sameImage(got, want) {
		t.Errorf("%s: %+v, and not %+v", what, got, want)
	}
	if model := modelLoad(d); !sameImage(model, want) {
		t.Errorf("%s: the model has %+v", what, model)
	}
	if !impl.ValidState(got.State) || !modelValidState(got.State) {
		t.Errorf("%s: a state that is not valid: %+v", what, got.State)
	}
}

// imageOf is the image of a snap and frames that fit it.
func imageOf(t *testing.T, s impl.Snap, frames ...impl.Frame) impl.Image {
	t.Helper()
	im := impl.Image{Ok: true, Snap: s, Frames: numbered(s.Tail, frames...), Next: s.Tail + uint32(len(frames))}
	im.State = impl.State{Deny: s.Deny, Used: s.Used, Acked: int64(len(s.Used))}
	for _, f := range im.Frames {
		r := modelApply(im.State, f)
		if !r.Ok {
			t.Fatalf("%+v does not fit %+v", f, im.State)
		}
		im.State = r.State
	}
	return im
}

func TestLoadOfDevicesThatAreNotValid(t *testing.T) {
	for _, c := range edgeDevs() {
		d := c.dev
		if len(d.Disk) >= 128 {
			d = putSnap(d, impl.Snap{Gen: 2, Tail: 1, Used: []int64{3}})
		}
		if slices.ContainsFunc(d.Cache, func(p impl.Pend) bool { return p.Sector < 2 && len(p.Data) == 64 && c.valid }) {
			wantLoaded(t, c.name, d, impl.Image{}) // the cache lies over the slot
			continue
		}
		want := impl.Image{}
		if c.valid {
			want = imageOf(t, impl.Snap{Gen: 2, Tail: 1, Used: []int64{3}})
		}
		wantLoaded(t, c.name, d, want)
	}
}

func TestLoadOfNoSnap(t *testing.T) {
	for _, n := range []int64{8, 256} {
		wantLoaded(t, "zeros", impl.DevNew(n), impl.Image{})
		wantLoaded(t, "frames alone", putFrames(impl.DevNew(n), 1, tapFrames(0, 4)...), impl.Image{})
		wantLoaded(t, "a snap in the journal", putText(impl.DevNew(n), 4, modelSnap(impl.Snap{Tail: 1})), impl.Image{})
		wantLoaded(t, "a snap from sector 1 on", putText(impl.DevNew(n), 1, modelSnap(impl.Snap{Tail: 1})), impl.Image{})
	}
	for _, broken := range brokenSnaps() {
		if broken.snap.Gen > 4000000000 || broken.snap.Tail == 0 || broken.snap.Tail > 4000000000 || len(broken.snap.Deny) == 17 {
			wantLoaded(t, broken.name, putSnap(impl.DevNew(8), broken.snap), impl.Image{})
		}
	}
}

func TestLoadOfOneSnap(t *testing.T) {
	for _, n := range []int64{8, 9, 255, 256} {
		for _, named := range validSnaps() {
			wantLoaded(t, named.name, putSnap(impl.DevNew(n), named.snap), imageOf(t, named.snap))
		}
		for _, gen := range []uint32{0, 1, 2, 3, 255, 256, 3999999999, 4000000000} {
			s := impl.Snap{Gen: gen, Tail: 7, Deny: []int64{1, 200}, Used: []int64{0, 255}}
			wantLoaded(t, "in its slot", putSnap(impl.DevNew(n), s), imageOf(t, s))
			other := int64(1-gen%2) * 2
			wantLoaded(t, "in the other slot", putText(impl.DevNew(n), other, modelSnap(s)), impl.Image{})
		}
	}
}

func TestLoadOfTwoSnaps(t *testing.T) {
	pairs := [][2]uint32{{0, 1}, {1, 2}, {2, 3}, {0, 3}, {1, 256}, {3999999999, 4000000000}, {0, 3999999999}, {1, 4000000000}, {2147483647, 2147483648}}
	for _, p := range pairs {
		old := impl.Snap{Gen: p[0], Tail: 1, Used: []int64{9}}
		fresh := impl.Snap{Gen: p[1], Tail: 3, Used: []int64{9, 10}}
		for _, d := range []impl.Dev{putSnap(putSnap(impl.DevNew(8), old), fresh), putSnap(putSnap(impl.DevNew(8), fresh), old)} {
			wantLoaded(t, "two snaps", d, imageOf(t, fresh))
			for _, s := range []int64{int64(p[1]%2) * 2, int64(p[1]%2)*2 + 1} {
				for _, text := range [][]byte{make([]byte, 64), filled(64, 255), modelFrame(1, 1, 2, 3)} {
					wantLoaded(t, "the newer damaged", putText(d, s, text), imageOf(t, old))
				}
			}
			wantLoaded(t, "the older damaged", putText(d, int64(p[0]%2)*2+1, make([]byte, 64)), imageOf(t, fresh))
			wantLoaded(t, "both damaged", putText(putText(d, 1, make([]byte, 64)), 2, make([]byte, 64)), impl.Image{})
		}
	}
}

// A snap in the wrong slot does not count, whatever its Gen.
func TestLoadOfASnapInTheWrongSlot(t *testing.T) {
	for gen := range uint32(6) {
		right := impl.Snap{Gen: gen, Tail: 5}
		for _, other := range []uint32{gen, gen + 2, gen + 100} {
			wrong := impl.Snap{Gen: other, Tail: 9, Deny: []int64{1}}
			d := putText(putSnap(impl.DevNew(8), right), int64(1-gen%2)*2, modelSnap(wrong))
			wantLoaded(t, "beside one in the wrong slot", d, imageOf(t, right))
		}
	}
	d := putText(putText(impl.DevNew(8), 0, modelSnap(impl.Snap{Gen: 1, Tail: 1})), 2, modelSnap(impl.Snap{Gen: 2, Tail: 1}))
	wantLoaded(t, "both in the wrong slot", d, impl.Image{})
	mixed := append(modelSnap(impl.Snap{Gen: 2, Tail: 1})[:64], modelSnap(impl.Snap{Gen: 4, Tail: 1})[64:]...)
	wantLoaded(t, "two halves of two snaps", putText(impl.DevNew(8), 0, mixed), impl.Image{})
}

// Every length of the journal, from every tail, so that it wraps everywhere.
func TestLoadOfJournals(t *testing.T) {
	for _, n := range []int64{8, 9, 12} {
		places := int(n - 4)
		for tail := uint32(1); tail <= uint32(2*places+1); tail++ {
			s := impl.Snap{Gen: 3, Tail: tail, Used: []int64{200}}
			for count := range places + 1 {
				d := putFrames(putSnap(impl.DevNew(n), s), tail, tapFrames(0, count)...)
				wantLoaded(t, "taps", d, imageOf(t, s, tapFrames(0, count)...))
			}
		}
	}
}

func TestLoadOfGreatJournals(t *testing.T) {
	frames := slices.Concat(tapFrames(4, 250), []impl.Frame{denyFrame(0, 1), ackFrame(120, 0)})
	for _, tail := range []uint32{1, 100, 252, 253, 4000000000 - 252, 4000000000 - 253} {
		s := impl.Snap{Gen: 3, Tail: tail, Used: []int64{0}}
		for _, count := range []int{0, 1, 2, 125, 250, 251, 252} {
			d := putFrames(putSnap(impl.DevNew(256), s), tail, frames[:count]...)
			wantLoaded(t, "256 sectors", d, imageOf(t, s, frames[:count]...))
		}
	}
}

// The journal is full when the frame behind the last would lie at the first.
func TestLoadEndsAfterOneRound(t *testing.T) {
	s := impl.Snap{Gen: 1, Tail: 6}
	d := putFrames(putSnap(impl.DevNew(8), s), 6, tapFrames(0, 4)...)
	wantLoaded(t, "full", d, imageOf(t, s, tapFrames(0, 4)...))
	d = putFrames(putSnap(impl.DevNew(8), s), 7, tapFrames(1, 4)...)
	wantLoaded(t, "the first overwritten by the fifth", d, imageOf(t, s))
}

func TestLoadMeetsFramesOfAnEarlierRound(t *testing.T) {
	for tail := uint32(5); tail < 14; tail++ {
		s := impl.Snap{Gen: 1, Tail: tail, Used: serials(100, 105)}
		old := putSnap(impl.DevNew(8), s)
		for q := tail - 4; q < tail; q++ {
			old = putFrames(old, q, tapFrame(q, q))
		}
		for count := range 5 {
			d := putFrames(old, tail, tapFrames(50, count)...)
			wantLoaded(t, "over an earlier round", d, imageOf(t, s, tapFrames(50, count)...))
		}
	}
}

// What ends the reading, at each place of the journal.
func TestLoadStops(t *testing.T) {
	s := impl.Snap{Gen: 2, Tail: 11, Deny: []int64{77}}
	full := putFrames(putSnap(impl.DevNew(10), s), 11, tapFrames(0, 6)...)
	torn := append(modelFrame(11, 1, 2, 3)[:30], modelFrame(12, 1, 2, 3)[30:]...)
	for i := range uint32(6) {
		q := 11 + i
		texts := map[string][]byte{
			"zeros":          make([]byte, 64),
			"no frame":       filled(64, 'J'),
			"a torn frame":   torn,
			"half a snap":    modelSnap(s)[:64],
			"kind 4":         modelFrame(q, 4, 9, 9),
			"kind 0":         modelFrame(q, 0, 9, 9),
			"one round back": modelFrame(q-6, 1, 9, 9),
			"one round on":   modelFrame(q+6, 1, 9, 9),
			"the last Seq":   modelFrame(q-1, 1, 9, 9),
			"the next Seq":   modelFrame(q+1, 1, 9, 9),
			"Seq 0":          modelFrame(0, 1, 9, 9),
			"Seq at its end": modelFrame(math.MaxUint32, 1, 9, 9),
		}
		for name, text := range texts {
			d := putText(full, sectorOfFrame(full, q), text)
			wantLoaded(t, name, d, imageOf(t, s, tapFrames(0, int(i))...))
		}
	}
}

func TestLoadAtTheEndOfSeq(t *testing.T) {
	for _, n := range []int64{8, 9, 256} {
		for back := range uint32(7) {
			tail := 4000000000 - back
			s := impl.Snap{Gen: 5, Tail: tail, Used: []int64{3}}
			d := putSnap(impl.DevNew(n), s)
			wantLoaded(t, "an empty journal", d, imageOf(t, s))
			d = putFrames(d, tail, tapFrames(10, int(n-4))...)
			count := min(int(back), int(n-4))
			wantLoaded(t, "a full journal", d, imageOf(t, s, tapFrames(10, count)...))
		}
	}
}

func TestLoadOfFramesThatDoNotFit(t *testing.T) {
	s := impl.Snap{Gen: 2, Tail: 3, Deny: []int64{1, 2}, Used: []int64{7, 8}}
	unfit := []impl.Frame{
		tapFrame(7, 5), tapFrame(1, 5), tapFrame(256, 5), tapFrame(math.MaxUint32, 5),
		denyFrame(1, 1), denyFrame(256, 1), denyFrame(3, 0), denyFrame(1, 2),
		ackFrame(10, 0), ackFrame(1, 1),
	}
	for _, f := range unfit {
		for place := range 4 {
			frames := tapFrames(20, 4)
			frames[place] = f
			wantLoaded(t, "a frame that does not fit", putFrames(putSnap(impl.DevNew(8), s), 3, frames...), impl.Image{})
		}
	}
	d := putFrames(putSnap(impl.DevNew(8), s), 3, tapFrame(20, 1), tapFrame(20, 1))
	wantLoaded(t, "one serial tapped twice", d, impl.Image{})
	d = putFrames(putSnap(impl.DevNew(8), s), 3, denyFrame(20, 1), tapFrame(20, 1))
	wantLoaded(t, "denied, then tapped", d, impl.Image{})
	full := impl.Snap{Gen: 2, Tail: 3, Deny: serials(0, 16)}
	wantLoaded(t, "a seventeenth denied", putFrames(putSnap(impl.DevNew(8), full), 3, denyFrame(20, 1)), impl.Image{})
	wantLoaded(t, "one allowed ahead of it", putFrames(putSnap(impl.DevNew(8), full), 3, denyFrame(5, 0), denyFrame(20, 1)), imageOf(t, full, denyFrame(5, 0), denyFrame(20, 1)))
	// A frame that would not fit, behind the end of the reading, is not asked.
	d = putFrames(putSnap(impl.DevNew(8), s), 3, tapFrame(20, 1))
	d = putFrames(d, 5, tapFrame(7, 5))
	wantLoaded(t, "behind the end", d, imageOf(t, s, tapFrame(20, 1)))
	// The older snap is not asked either, though its journal would fit.
	d = putFrames(putSnap(putSnap(impl.DevNew(8), impl.Snap{Gen: 1, Tail: 1}), s), 3, tapFrame(7, 5))
	wantLoaded(t, "beside an older snap", d, impl.Image{})
}

func TestLoadOfAllKinds(t *testing.T) {
	s := impl.Snap{Gen: 4, Tail: 9, Deny: []int64{1}, Used: []int64{1, 50}}
	frames := []impl.Frame{
		tapFrame(255, math.MaxUint32), denyFrame(0, 1), tapFrame(30, 0), ackFrame(3, 0),
		denyFrame(1, 0), ackFrame(2, 0), tapFrame(2, 7), denyFrame(2, 1),
	}
	want := imageOf(t, s, frames...)
	state := impl.State{Deny: []int64{0, 2}, Used: []int64{1, 2, 30, 50, 255}, Acked: 3, Taps: []impl.TapRec{{Serial: 30, Now: 0}, {Serial: 2, Now: 7}}}
	if !sameState(want.State, state) || want.Next != 17 {
		t.Fatalf("the image is not what this test says: %+v", want)
	}
	wantLoaded(t, "all kinds", putFrames(putSnap(impl.DevNew(12), s), 9, frames...), want)
}

// inCache moves every sector that differs between two disks into the cache of
// the first, the new one behind a wrong one of the same sector.
func inCache(from, to impl.Dev) impl.Dev {
	d := cloneDev(from)
	for s := range int64(len(to.Disk) / 64) {
		text := to.Disk[s*64 : s*64+64]
		if !bytes.Equal(from.Disk[s*64:s*64+64], text) {
			d.Cache = append(d.Cache, impl.Pend{Sector: s, Data: filled(64, 9)}, impl.Pend{Sector: s, Data: slices.Clone(text)})
		}
	}
	return d
}

func TestLoadSeesTheCache(t *testing.T) {
	s := impl.Snap{Gen: 4, Tail: 6, Used: []int64{50}}
	for _, n := range []int64{8, 256} {
		durable := putFrames(putSnap(impl.DevNew(n), s), 6, tapFrames(0, 2)...)
		more := putFrames(durable, 8, denyFrame(9, 1))
		newer := putSnap(more, impl.Snap{Gen: 5, Tail: 8, Used: []int64{0, 1, 50}})
		want := imageOf(t, impl.Snap{Gen: 5, Tail: 8, Used: []int64{0, 1, 50}}, denyFrame(9, 1))
		wantLoaded(t, "all in the cache", inCache(impl.DevNew(n), newer), want)
		wantLoaded(t, "a snap and a frame in the cache", inCache(durable, newer), want)
		wantLoaded(t, "a frame in the cache", inCache(durable, more), imageOf(t, s, append(tapFrames(0, 2), denyFrame(9, 1))...))
		spoilt := withEntry(newer, 3, filled(64, 1))
		wantLoaded(t, "a spoilt sector in the cache", spoilt, imageOf(t, s, append(tapFrames(0, 2), denyFrame(9, 1))...))
		for _, d := range []impl.Dev{dead(withFuel(newer, 0)), withFuel(newer, 0), dead(inCache(durable, newer))} {
			wantLoaded(t, "without power", d, want)
		}
	}
}

// The program's own writes and syncs, and its own codes.
func TestLoadAfterSteps(t *testing.T) {
	s := impl.Snap{Gen: 7, Tail: 4, Deny: []int64{255}}
	code := impl.EncodeSnap(s)
	d := impl.DevWrite(impl.DevWrite(impl.DevNew(9), 2, code[:64]), 3, code[64:])
	for _, f := range numbered(4, tapFrames(0, 3)...) {
		d = impl.DevWrite(d, sectorOfFrame(d, f.Seq), impl.EncodeFrame(f))
	}
	wantLoaded(t, "not synced", d, imageOf(t, s, tapFrames(0, 3)...))
	wantLoaded(t, "synced", impl.DevSync(d), imageOf(t, s, tapFrames(0, 3)...))
	wantLoaded(t, "crashed", impl.DevCrash(d, impl.Crash{Keep: []bool{true, true, true, false, true}, Tear: -1}), imageOf(t, s, tapFrames(0, 1)...))
	wantLoaded(t, "crashed, the snap torn", impl.DevCrash(d, impl.Crash{Keep: []bool{true, true, true, true, true}, Tear: 0, At: 63}), imageOf(t, s, tapFrames(0, 3)...))
	wantLoaded(t, "crashed, the snap torn in its middle", impl.DevCrash(d, impl.Crash{Keep: []bool{true, true, true, true, true}, Tear: 0, At: 8}), impl.Image{})
}

// devOfChance has two snaps and a journal behind the newer one. Now and then a
// frame does not fit, has another Seq, or a bit is changed somewhere.
func devOfChance(r *rand.Rand) impl.Dev {
	d := impl.DevNew(8 + r.Int63n(6))
	tail := uint32(2 + r.Intn(20))
	if r.Intn(6) == 0 {
		tail = 4000000000 - uint32(r.Intn(8))
	}
	gen := uint32(r.Intn(6))
	newer := impl.Snap{Gen: gen + 1, Tail: tail, Deny: serials(24, 24+r.Int63n(3)), Used: serials(20, 20+r.Int63n(3))}
	older := impl.Snap{Gen: gen, Tail: tail - uint32(r.Intn(2))}
	d = putSnap(putSnap(d, newer), older)
	q := tail
	state := impl.State{Deny: newer.Deny, Used: newer.Used, Acked: int64(len(newer.Used))}
	for range r.Intn(24) {
		f := frameOfChance(r, state)
		after := modelApply(state, f)
		if !after.Ok && r.Intn(16) > 0 {
			continue
		}
		state = after.State
		f.Seq = q
		if r.Intn(20) == 0 {
			f.Seq = q + uint32(r.Intn(3)) - 1
		}
		d = putText(d, sectorOfFrame(d, q), modelFrame(f.Seq, byte(f.Kind), f.A, f.B))
		q++
	}
	if r.Intn(4) == 0 {
		d.Disk[r.Intn(len(d.Disk))] ^= 1 << r.Intn(8)
	}
	if r.Intn(2) == 0 {
		return inCache(impl.DevNew(int64(len(d.Disk)/64)), d)
	}
	return d
}

func TestLoadOfDevicesOfChance(t *testing.T) {
	r := rand.New(rand.NewSource(63))
	loaded, frames, refused := 0, 0, 0
	for range 4000 {
		d := devOfChance(r)
		was := cloneDev(d)
		got, want := impl.LoadDev(d), modelLoad(d)
		if !sameImage(got, want) {
			t.Fatalf("%+v, and not %+v", got, want)
		}
		if !impl.ValidState(got.State) || !modelValidState(got.State) {
			t.Fatalf("a state that is not valid: %+v", got)
		}
		if !sameDev(d, was) {
			t.Fatal("loading changes its device")
		}
		if cut := impl.CutPoint(got); cut != modelCut(got) {
			t.Fatalf("cut %d, and not %d: %+v", cut, modelCut(got), got)
		}
		if got.Ok {
			loaded++
			frames += len(got.Frames)
		} else {
			refused++
		}
	}
	if loaded < 1000 || frames < 2000 || refused < 200 {
		t.Errorf("%d loaded with %d frames, %d refused", loaded, frames, refused)
	}
}

func TestLoadOfNoise(t *testing.T) {
	r := rand.New(rand.NewSource(64))
	for range 300 {
		d := impl.DevNew(8 + r.Int63n(249))
		r.Read(d.Disk)
		wantLoaded(t, "noise", d, impl.Image{})
		s := snapOfChance(r)
		wantLoaded(t, "a snap in noise", putSnap(d, s), imageOf(t, s))
	}
}

// listsOfImage names the lists of serials up to their capacity.
func listsOfImage(im impl.Image) [][]int64 {
	return append(listsOfSnap(im.Snap), int64sOf(im.State)...)
}

func TestImagesShareNothing(t *testing.T) {
	s := impl.Snap{Gen: 4, Tail: 6, Deny: serials(240, 250), Used: serials(100, 140)}
	quiet := putSnap(impl.DevNew(10), s)
	busy := putFrames(quiet, 6, append(tapFrames(0, 4), ackFrame(42, 0))...)
	for _, d := range []impl.Dev{quiet, busy, inCache(impl.DevNew(10), busy), putFrames(quiet, 6, tapFrame(240, 1)), impl.DevNew(8), {}} {
		given := roomy(d)
		was := cloneLists(bytesOf(given))
		a, b := impl.LoadDev(given), impl.LoadDev(given)
		if !slices.EqualFunc(bytesOf(given), was, bytes.Equal) {
			t.Fatal("loading changes its device")
		}
		wantSerialsApart(t, "two images", append(listsOfImage(a), listsOfImage(b)...))
		second := cloneImage(b)
		for i := range a.Frames[:cap(a.Frames)] {
			a.Frames[:cap(a.Frames)][i] = impl.Frame{Seq: 77}
		}
		for i := range a.State.Taps[:cap(a.State.Taps)] {
			a.State.Taps[:cap(a.State.Taps)][i] = impl.TapRec{Serial: 77}
		}
		if !sameImage(b, second) || !sameImage(impl.LoadDev(given), second) {
			t.Fatal("two images share memory")
		}
	}
}
