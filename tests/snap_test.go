package tests

import (
	"bytes"
	"encoding/binary"
	"math"
	"math/rand"
	"slices"
	"testing"

	"loop.example/s02127/impl"
)

type namedSnap struct {
	name string
	snap impl.Snap
}

// someSnap has its denied serials in both sectors, and bytes that differ in
// every number.
func someSnap() impl.Snap {
	return impl.Snap{
		Gen:  0x01020304,
		Tail: 0x05060708,
		Deny: []int64{0, 3, 17, 40, 41, 99, 128, 200, 201, 254, 255},
		Used: []int64{0, 1, 9, 64, 127, 200, 255},
	}
}

func snapWith(change func(s *impl.Snap)) impl.Snap {
	s := someSnap()
	change(&s)
	return s
}

func validSnaps() []namedSnap {
	list := []namedSnap{
		{"the first", impl.Snap{Tail: 1}},
		{"some", someSnap()},
		{"Gen 0", snapWith(func(s *impl.Snap) { s.Gen = 0 })},
		{"Gen 4000000000", snapWith(func(s *impl.Snap) { s.Gen = 4000000000 })},
		{"Tail 1", snapWith(func(s *impl.Snap) { s.Tail = 1 })},
		{"Tail 4000000000", snapWith(func(s *impl.Snap) { s.Tail = 4000000000 })},
		{"both at their ends", impl.Snap{Gen: 4000000000, Tail: 4000000000}},
		{"lists without length", impl.Snap{Tail: 2, Deny: []int64{}, Used: []int64{}}},
		{"all used", snapWith(func(s *impl.Snap) { s.Used = serials(0, 256) })},
		{"all used and 16 denied", impl.Snap{Gen: 7, Tail: 9, Deny: serials(240, 256), Used: serials(0, 256)}},
		{"serial 0 denied alone", impl.Snap{Gen: 7, Tail: 9, Deny: []int64{0}}},
		{"serial 255 denied alone", impl.Snap{Gen: 7, Tail: 9, Deny: []int64{255}}},
	}
	for _, n := range []int64{0, 1, 7, 8, 9, 15, 16} {
		list = append(list,
			namedSnap{"the first n denied", impl.Snap{Gen: 2, Tail: 3, Deny: serials(0, n)}},
			namedSnap{"the last n denied", impl.Snap{Gen: 2, Tail: 3, Deny: serials(256-n, 256), Used: []int64{5}}})
	}
	return list
}

// brokenSnaps break one condition each.
func brokenSnaps() []namedSnap {
	rows := []struct {
		name   string
		change func(s *impl.Snap)
	}{
		{"Gen 4000000001", func(s *impl.Snap) { s.Gen = 4000000001 }},
		{"Gen at its end", func(s *impl.Snap) { s.Gen = math.MaxUint32 }},
		{"Tail 0", func(s *impl.Snap) { s.Tail = 0 }},
		{"Tail 4000000001", func(s *impl.Snap) { s.Tail = 4000000001 }},
		{"Tail at its end", func(s *impl.Snap) { s.Tail = math.MaxUint32 }},
		{"17 denied", func(s *impl.Snap) { s.Deny = serials(0, 17) }},
		{"all denied", func(s *impl.Snap) { s.Deny = serials(0, 256) }},
		{"denied -1", func(s *impl.Snap) { s.Deny = []int64{-1} }},
		{"denied 256", func(s *impl.Snap) { s.Deny = []int64{256} }},
		{"denied 2^16 + 3", func(s *impl.Snap) { s.Deny = []int64{3 + 1<<16} }},
		{"denied at the ends of int64", func(s *impl.Snap) { s.Deny = []int64{math.MinInt64, math.MaxInt64} }},
		{"denied twice", func(s *impl.Snap) { s.Deny = []int64{3, 3} }},
		{"denied descending", func(s *impl.Snap) { s.Deny = []int64{4, 3} }},
		{"denied descending from one sector to the other", func(s *impl.Snap) { s.Deny = append(serials(10, 18), 9) }},
		{"denied twice, once a sector", func(s *impl.Snap) { s.Deny = append(serials(10, 18), 17) }},
		{"used -1", func(s *impl.Snap) { s.Used = []int64{-1, 5} }},
		{"used 256", func(s *impl.Snap) { s.Used = []int64{5, 256} }},
		{"used 2^32", func(s *impl.Snap) { s.Used = []int64{1 << 32} }},
		{"used at the ends of int64", func(s *impl.Snap) { s.Used = []int64{math.MinInt64, math.MaxInt64} }},
		{"used twice", func(s *impl.Snap) { s.Used = []int64{3, 3} }},
		{"used descending", func(s *impl.Snap) { s.Used = []int64{4, 3} }},
		{"all used and one more", func(s *impl.Snap) { s.Used = serials(0, 257) }},
	}
	var list []namedSnap
	for _, r := range rows {
		list = append(list, namedSnap{r.name, snapWith(r.change)})
	}
	return list
}

// wantNoSnap also holds the text against the model.
func wantNoSnap(t *testing.T, what string, x []byte) {
	t.Helper()
	if r := impl.DecodeSnap(x); r.Ok || !sameSnap(r.Snap, impl.Snap{}) {
		t.Errorf("%s decodes: %+v", what, r)
	}
	if modelDecodeSnap(x).Ok {
		t.Errorf("%s: the model takes it", what)
	}
}

// wantSnapBack wants the snap's code to be the model's, and to decode.
func wantSnapBack(t *testing.T, what string, s impl.Snap) {
	t.Helper()
	x := impl.EncodeSnap(s)
	if !bytes.Equal(x, modelSnap(s)) {
		t.Fatalf("%s: the code of %+v: % x", what, s, x)
	}
	if r := impl.DecodeSnap(x); !r.Ok || !sameSnap(r.Snap, s) {
		t.Fatalf("%s: %+v comes back as %+v", what, s, r)
	}
	if r := modelDecodeSnap(x); !r.Ok || !sameSnap(r.Snap, s) {
		t.Fatalf("%s: the model has %+v", what, r)
	}
}

// wantDecodedAsModel wants what the model says, and that a text that decodes
// is the one code of its snap.
func wantDecodedAsModel(t *testing.T, what string, x []byte) {
	t.Helper()
	got, want := impl.DecodeSnap(x), modelDecodeSnap(x)
	if got.Ok != want.Ok || !sameSnap(got.Snap, want.Snap) {
		t.Fatalf("%s: % x is %+v, and not %+v", what, x, got, want)
	}
	if got.Ok && !bytes.Equal(impl.EncodeSnap(got.Snap), x) {
		t.Fatalf("%s: % x is not the code of %+v", what, x, got.Snap)
	}
}

func TestSnapsComeBack(t *testing.T) {
	for _, n := range validSnaps() {
		wantSnapBack(t, n.name, n.snap)
	}
}

// The code of one snap, byte by byte as the chapter puts it.
func TestPlacesOfASnap(t *testing.T) {
	want := []byte{4, 3, 2, 1, 'S', '1', 11, 0, 8, 7, 6, 5}
	marks := make([]byte, 32)
	marks[0], marks[1], marks[8], marks[15], marks[25], marks[31] = 1+2, 2, 1, 128, 1, 128
	want = append(want, marks...)
	want = append(want, 0, 0, 3, 0, 17, 0, 40, 0, 41, 0, 99, 0, 128, 0, 200, 0, 4, 3, 2, 1)
	want = append(want, 4, 3, 2, 1, 'S', '2', 0, 0, 201, 0, 254, 0, 255, 0)
	want = append(want, make([]byte, 10+32)...)
	sum := impl.Crc32(want)
	want = append(want, byte(sum), byte(sum>>8), byte(sum>>16), byte(sum>>24), 4, 3, 2, 1)
	if got := impl.EncodeSnap(someSnap()); len(want) != 128 || !bytes.Equal(got, want) {
		t.Errorf("% x, and not % x", got, want)
	}
}

func TestNumbersOfASnap(t *testing.T) {
	for _, gen := range edgeNumbers {
		for _, tail := range edgeNumbers {
			s := snapWith(func(s *impl.Snap) { s.Gen, s.Tail = gen, tail })
			if gen <= 4000000000 && tail >= 1 && tail <= 4000000000 {
				wantSnapBack(t, "edge numbers", s)
			} else if x := impl.EncodeSnap(s); len(x) != 0 {
				t.Errorf("Gen %d, Tail %d: % x", gen, tail, x)
			}
		}
	}
}

func TestEverySerialOfASnap(t *testing.T) {
	for v := range int64(256) {
		wantSnapBack(t, "one used", impl.Snap{Gen: 1, Tail: 1, Used: []int64{v}})
		wantSnapBack(t, "one denied", impl.Snap{Gen: 1, Tail: 1, Deny: []int64{v}})
		wantSnapBack(t, "all but one used", impl.Snap{Gen: 1, Tail: 1, Used: modelWithout(serials(0, 256), v)})
		if v <= 240 {
			wantSnapBack(t, "16 neighbours denied", impl.Snap{Gen: 1, Tail: 1, Deny: serials(v, v+16)})
		}
	}
}

func TestNeighboursInASnap(t *testing.T) {
	edges := []int64{-1, 0, 1, 7, 8, 9, 63, 64, 254, 255, 256}
	for _, a := range edges {
		for _, b := range edges {
			for _, s := range []impl.Snap{{Tail: 1, Deny: []int64{a, b}}, {Tail: 1, Used: []int64{a, b}}} {
				if a >= 0 && a < b && b <= 255 {
					wantSnapBack(t, "neighbours", s)
				} else if x := impl.EncodeSnap(s); len(x) != 0 {
					t.Errorf("%+v: % x", s, x)
				}
			}
		}
	}
}

func TestBrokenSnapsHaveNoCode(t *testing.T) {
	for _, n := range brokenSnaps() {
		if x := impl.EncodeSnap(n.snap); len(x) != 0 {
			t.Errorf("%s: % x", n.name, x)
		}
	}
}

// What a broken snap would be written as, where its lists have their places.
func TestCodesOfBrokenSnaps(t *testing.T) {
	for _, n := range brokenSnaps() {
		outside := func(v int64) bool { return v < 0 || v > 255 }
		if slices.ContainsFunc(n.snap.Used, outside) || !slices.IsSorted(n.snap.Used) || len(slices.Compact(slices.Clone(n.snap.Used))) != len(n.snap.Used) {
			continue // bits can't say this
		}
		if slices.Contains(n.snap.Deny, 3+1<<16) || slices.Contains(n.snap.Deny, math.MaxInt64) {
			continue // nor can two bytes say this
		}
		if len(n.snap.Deny) == 256 {
			continue // nor one byte
		}
		wantNoSnap(t, n.name, modelSnap(n.snap))
	}
}

func TestOtherLengthsAreNoSnap(t *testing.T) {
	x := impl.EncodeSnap(someSnap())
	long := append(append([]byte{}, x...), make([]byte, 200)...)
	for n := range long {
		if n != 128 {
			wantNoSnap(t, "a text of another length", long[:n])
		}
	}
	wantNoSnap(t, "a snap twice", append(append([]byte{}, x...), x...))
	wantNoSnap(t, "nil", nil)
	wantNoSnap(t, "zeros", make([]byte, 128))
	wantNoSnap(t, "bytes 255", filled(128, 255))
	wantNoSnap(t, "two frames", append(modelFrame(1, 1, 2, 3), modelFrame(2, 1, 2, 3)...))
	wantNoSnap(t, "the sectors changed about", append(append([]byte{}, x[64:]...), x[:64]...))
}

func TestEveryChangedByteIsNoSnap(t *testing.T) {
	for _, n := range validSnaps() {
		for at := range 128 {
			for _, change := range []byte{1, 2, 4, 8, 16, 32, 64, 128, 255, byte(1 + at)} {
				x := impl.EncodeSnap(n.snap)
				x[at] ^= change
				wantNoSnap(t, n.name, x)
			}
		}
	}
}

// With the right checksum the text decodes if it is again the code of a snap.
func TestChangedBytesUnderTheirChecksum(t *testing.T) {
	decoded := 0
	snaps := []impl.Snap{someSnap(), {Tail: 1}, {Gen: 3, Tail: 4000000000, Deny: serials(240, 256)}, {Gen: 4000000000, Tail: 1, Deny: serials(0, 8), Used: serials(0, 256)}}
	for _, s := range snaps {
		for at := range 128 {
			for change := range 256 {
				x := modelSnap(s)
				x[at] ^= byte(change)
				if at < 120 || at > 123 {
					resumSnap(x)
				}
				wantDecodedAsModel(t, "a changed byte", x)
				if impl.DecodeSnap(x).Ok {
					decoded++
				}
			}
		}
	}
	if decoded < 10000 {
		t.Errorf("%d decode", decoded)
	}
}

func TestGenMustAgreeAtItsPlaces(t *testing.T) {
	for mask := 1; mask < 15; mask++ { // all of the four changed alike make another snap
		for _, change := range []uint32{1, 2, 256, 1 << 16, 1 << 24} {
			x := modelSnap(someSnap())
			for i, at := range []int{0, 60, 64, 124} {
				if mask>>i&1 == 1 {
					binary.LittleEndian.PutUint32(x[at:], someSnap().Gen^change)
				}
			}
			resumSnap(x)
			wantNoSnap(t, "a Gen that differs", x)
		}
	}
}

// The count of the denied must be that of the serials that stand there. A
// place of zeros that is counted is serial 0, which only the first may be.
func TestCountsOfTheDenied(t *testing.T) {
	for _, n := range []int64{0, 1, 2, 7, 8, 9, 15, 16} {
		for count := range 256 {
			x := modelSnap(impl.Snap{Gen: 4, Tail: 5, Deny: serials(100, 100+n)})
			x[6] = byte(count)
			resumSnap(x)
			switch {
			case int64(count) == n:
				wantSnapBack(t, "the right count", impl.DecodeSnap(x).Snap)
			case n == 0 && count == 1:
				wantDecodedAsModel(t, "zeros counted once", x)
				if r := impl.DecodeSnap(x); !slices.Equal(r.Snap.Deny, []int64{0}) {
					t.Errorf("zeros counted once: %+v", r)
				}
			default:
				wantNoSnap(t, "another count", x)
			}
		}
	}
}

func TestSerialsWhereThereAreFewer(t *testing.T) {
	places := append(serials(22, 30), serials(36, 44)...) // in pairs of bytes from 44 and from 72
	for n := range int64(16) {
		for i, place := range places {
			x := modelSnap(impl.Snap{Gen: 4, Tail: 5, Deny: serials(100, 100+n)})
			if int64(i) >= n {
				binary.LittleEndian.PutUint16(x[2*place:], uint16(200))
				resumSnap(x)
				wantNoSnap(t, "a serial behind the last", x)
				x[2*place] = 0
			}
			x[2*place+1] = 1 // 256 and more
			resumSnap(x)
			wantNoSnap(t, "a high byte", x)
		}
	}
}

func TestZerosThatAreNot(t *testing.T) {
	fixed := []int{7, 70, 71}
	for at := 88; at < 120; at++ {
		fixed = append(fixed, at)
	}
	for _, at := range fixed {
		for change := 1; change < 256; change++ {
			x := modelSnap(someSnap())
			x[at] = byte(change)
			resumSnap(x)
			wantNoSnap(t, "a zero that is not", x)
		}
	}
}

func snapOfChance(r *rand.Rand) impl.Snap {
	s := impl.Snap{Gen: uint32(r.Int63n(4000000001)), Tail: uint32(1 + r.Int63n(4000000000))}
	for _, v := range r.Perm(256)[:r.Intn(17)] {
		s.Deny = modelWith(s.Deny, int64(v))
	}
	for _, v := range r.Perm(256)[:r.Intn(257)] {
		s.Used = modelWith(s.Used, int64(v))
	}
	return s
}

func TestSnapsOfChance(t *testing.T) {
	r := rand.New(rand.NewSource(61))
	for range 300 {
		s := snapOfChance(r)
		wantSnapBack(t, "chance", s)
		for range 40 {
			x := modelSnap(s)
			for range 1 + r.Intn(3) {
				x[r.Intn(128)] = byte(r.Intn(256))
			}
			if r.Intn(2) == 0 {
				resumSnap(x)
			}
			wantDecodedAsModel(t, "chance", x)
		}
		wantDecodedAsModel(t, "noise", randomText(r, 128))
	}
}

// Either sector may be torn or stay behind while the other is written: the
// slot is then one of the two snaps or none.
func TestTornSlots(t *testing.T) {
	r := rand.New(rand.NewSource(62))
	pairs := [][2]impl.Snap{{{Gen: 2, Tail: 1}, {Gen: 4, Tail: 1}}, {{Gen: 2, Tail: 1}, {Gen: 4, Tail: 9, Deny: serials(0, 16), Used: serials(0, 256)}}}
	for range 20 {
		old := snapOfChance(r)
		fresh := snapOfChance(r)
		pairs = append(pairs, [2]impl.Snap{old, fresh})
	}
	for _, p := range pairs {
		old, fresh := impl.EncodeSnap(p[0]), impl.EncodeSnap(p[1])
		for k := range 65 {
			for j := range 65 {
				x := append(append([]byte{}, fresh[:k]...), old[k:64]...)
				x = append(append(x, fresh[64:64+j]...), old[64+j:]...)
				if bytes.Equal(x, old) || bytes.Equal(x, fresh) {
					wantDecodedAsModel(t, "whole", x)
				} else if r := impl.DecodeSnap(x); r.Ok {
					t.Fatalf("%+v over %+v, torn at %d and %d: %+v", p[1], p[0], k, j, r)
				}
			}
		}
	}
}

// roomySerials has room behind its end, filled with what must stay.
func roomySerials(list []int64) []int64 {
	return slices.Concat(list, serials(1000, 1040))[:len(list)]
}

func roomySnap(s impl.Snap) impl.Snap {
	s.Deny, s.Used = roomySerials(s.Deny), roomySerials(s.Used)
	return s
}

// listsOfSnap names the lists up to their capacity.
func listsOfSnap(s impl.Snap) [][]int64 {
	return [][]int64{s.Deny[:cap(s.Deny)], s.Used[:cap(s.Used)]}
}

func cloneSerialLists(lists [][]int64) [][]int64 {
	var c [][]int64
	for _, list := range lists {
		c = append(c, slices.Clone(list))
	}
	return c
}

// wantSerialsApart spoils each list in turn and looks at the others.
func wantSerialsApart(t *testing.T, what string, lists [][]int64) {
	t.Helper()
	was := cloneSerialLists(lists)
	for i, list := range lists {
		for k := range list {
			list[k] ^= -1
		}
		for j, other := range lists {
			if j != i && !slices.Equal(other, was[j]) {
				t.Fatalf("%s: lists %d and %d share memory", what, i, j)
			}
		}
		copy(list, was[i])
	}
}

func TestSnapsShareNothing(t *testing.T) {
	for _, n := range append(validSnaps(), brokenSnaps()...) {
		s := roomySnap(n.snap)
		was := cloneSerialLists(listsOfSnap(s))
		x, y := impl.EncodeSnap(s), impl.EncodeSnap(s)
		if !slices.EqualFunc(listsOfSnap(s), was, slices.Equal[[]int64]) {
			t.Errorf("%s: encoding changes its snap", n.name)
		}
		wantApart(t, n.name, [][]byte{x[:cap(x)]}, [][]byte{y[:cap(y)]})

		x = withRoom(x)
		textWas := slices.Clone(x[:cap(x)])
		a, b := impl.DecodeSnap(x), impl.DecodeSnap(x)
		if !bytes.Equal(x[:cap(x)], textWas) {
			t.Errorf("%s: decoding changes its text", n.name)
		}
		wantSerialsApart(t, n.name, append(listsOfSnap(a.Snap), listsOfSnap(b.Snap)...))
	}
}
