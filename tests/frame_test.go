package tests

import (
	"bytes"
	"encoding/binary"
	"hash/crc32"
	"math"
	"math/rand"
	"testing"

	"loop.example/s02127/impl"
)

// edgeNumbers are at both ends of their range and have bytes that differ.
var edgeNumbers = []uint32{0, 1, 2, 255, 256, 0x01020304, 0x7fffffff, 0x80000000, 3999999999, 4000000000, math.MaxUint32 - 1, math.MaxUint32}

// modelFrame is the layout of chapter 2 by the library's means, at any kind byte.
func modelFrame(seq uint32, kind byte, a, b uint32) []byte {
	x := binary.LittleEndian.AppendUint32(nil, seq)
	x = append(x, 'J', '1', kind, 0)
	x = binary.LittleEndian.AppendUint32(x, a)
	x = binary.LittleEndian.AppendUint32(x, b)
	x = append(x, make([]byte, 40)...)
	x = binary.LittleEndian.AppendUint32(x, crc32.ChecksumIEEE(x))
	return binary.LittleEndian.AppendUint32(x, seq)
}

// resum puts the right checksum over the first 56 bytes.
func resum(x []byte) {
	binary.LittleEndian.PutUint32(x[56:], crc32.ChecksumIEEE(x[:56]))
}

func wantNoFrame(t *testing.T, what string, b []byte) {
	t.Helper()
	if r := impl.DecodeFrame(b); r != (impl.FrameRes{}) {
		t.Errorf("%s decodes: %+v", what, r)
	}
}

func TestCrc32(t *testing.T) {
	if impl.Crc32(nil) != 0 || impl.Crc32([]byte{}) != 0 || impl.Crc32([]byte("123456789")) != 0xcbf43926 {
		t.Errorf("known checksums")
	}
	for x := range 256 {
		b := []byte{byte(x)}
		if impl.Crc32(b) != crc32.ChecksumIEEE(b) {
			t.Errorf("the byte %d", x)
		}
	}
	r := rand.New(rand.NewSource(4))
	for n := range 300 {
		b := make([]byte, n)
		r.Read(b)
		was := append([]byte{}, b...)
		if impl.Crc32(b) != crc32.ChecksumIEEE(b) || !bytes.Equal(b, was) {
			t.Errorf("%d bytes", n)
		}
	}
}

func TestFramesComeBack(t *testing.T) {
	for kind := int64(1); kind <= 3; kind++ {
		for _, seq := range edgeNumbers {
			for _, a := range edgeNumbers {
				for _, b := range edgeNumbers {
					f := impl.Frame{Seq: seq, Kind: kind, A: a, B: b}
					x := impl.EncodeFrame(f)
					if !bytes.Equal(x, modelFrame(seq, byte(kind), a, b)) {
						t.Fatalf("the code of %+v: % x", f, x)
					}
					if r := impl.DecodeFrame(x); !r.Ok || r.Frame != f {
						t.Fatalf("%+v comes back as %+v", f, r)
					}
				}
			}
		}
	}
}

// 257 and its like have a lowest byte that is a kind.
func TestOtherKindsHaveNoCode(t *testing.T) {
	for _, kind := range []int64{math.MinInt64, -255, -254, -3, -1, 0, 4, 5, 255, 256, 257, 258, 259, 1<<32 + 1, math.MaxInt64} {
		if x := impl.EncodeFrame(impl.Frame{Seq: 5, Kind: kind, A: 1, B: 2}); len(x) != 0 {
			t.Errorf("kind %d: % x", kind, x)
		}
	}
	for kind := range 256 {
		x := modelFrame(5, byte(kind), 1, 2)
		if r := impl.DecodeFrame(x); r.Ok != (kind >= 1 && kind <= 3) {
			t.Errorf("kind %d decodes: %+v", kind, r)
		} else if !r.Ok && r != (impl.FrameRes{}) {
			t.Errorf("kind %d is refused with %+v", kind, r)
		}
	}
}

func TestOtherLengthsAreNoFrame(t *testing.T) {
	x := impl.EncodeFrame(impl.Frame{Seq: 7, Kind: impl.FrameTap, A: 3, B: 4})
	long := append(append([]byte{}, x...), make([]byte, 200)...)
	for n := range long {
		if n != 64 {
			wantNoFrame(t, "a text of another length", long[:n])
		}
	}
	wantNoFrame(t, "a frame twice", append(append([]byte{}, x...), x...))
	wantNoFrame(t, "nil", nil)
	wantNoFrame(t, "zeros", make([]byte, 64))
	wantNoFrame(t, "bytes 255", filled(64, 255))
}

func TestEveryChangedByteIsNoFrame(t *testing.T) {
	frames := []impl.Frame{{Seq: 0x01020304, Kind: 2, A: 300, B: 1}, {Seq: 0, Kind: 1}, {Seq: math.MaxUint32, Kind: 3, A: math.MaxUint32, B: math.MaxUint32}}
	for _, f := range frames {
		for at := range 64 {
			for change := 1; change < 256; change++ {
				x := impl.EncodeFrame(f)
				x[at] ^= byte(change)
				wantNoFrame(t, "a changed byte", x)
			}
		}
	}
}

// With the right checksum only the fixed bytes themselves can tell.
func TestRightChecksumOverWrongFixedBytes(t *testing.T) {
	fixed := []int{4, 5, 7}
	for at := 16; at < 56; at++ {
		fixed = append(fixed, at)
	}
	for _, at := range fixed {
		for change := 1; change < 256; change++ {
			x := modelFrame(9, 1, 2, 3)
			x[at] ^= byte(change)
			resum(x)
			wantNoFrame(t, "a wrong fixed byte under its checksum", x)
		}
	}
}

func TestSeqMustAgreeAtBothEnds(t *testing.T) {
	for _, at := range []int{0, 1, 2, 3, 60, 61, 62, 63} {
		for change := 1; change < 256; change++ {
			x := modelFrame(0x01020304, 1, 2, 3)
			x[at] ^= byte(change)
			resum(x)
			wantNoFrame(t, "a Seq that differs at its ends", x)
		}
	}
}

// A decoded text is the one code of its frame, also where only one variable part was changed.
func TestChangedPartsUnderTheirChecksum(t *testing.T) {
	for _, at := range []int{6, 8, 9, 10, 11, 12, 13, 14, 15} {
		for change := range 256 {
			x := modelFrame(9, 1, 2, 3)
			x[at] ^= byte(change)
			resum(x)
			r := impl.DecodeFrame(x)
			if r.Ok != (x[6] >= 1 && x[6] <= 3) {
				t.Errorf("byte %d as %d: %+v", at, x[at], r)
			}
			if r.Ok && !bytes.Equal(impl.EncodeFrame(r.Frame), x) {
				t.Errorf("% x is not the code of %+v", x, r.Frame)
			}
		}
	}
}

func TestDecodingChangesNothing(t *testing.T) {
	for _, f := range []impl.Frame{{Seq: 1, Kind: 1, A: 2, B: 3}, {Seq: 1, Kind: 2, A: 2, B: 3}} {
		x := impl.EncodeFrame(f)
		was := append([]byte{}, x...)
		impl.DecodeFrame(x)
		impl.DecodeFrame(x[:63])
		if !bytes.Equal(x, was) {
			t.Errorf("decoding changes its text")
		}
		y := impl.EncodeFrame(f)
		wantApart(t, "EncodeFrame", [][]byte{x[:cap(x)]}, [][]byte{y[:cap(y)]})
	}
}

// wantTornApart tears the two frames' codes at all 65 places, either one in front.
func wantTornApart(t *testing.T, f, g impl.Frame) {
	t.Helper()
	for _, pair := range [][2]impl.Frame{{f, g}, {g, f}} {
		first, rest := impl.EncodeFrame(pair[0]), impl.EncodeFrame(pair[1])
		for k := range 65 {
			x := append(append([]byte{}, first[:k]...), rest[k:]...)
			want := impl.FrameRes{}
			if bytes.Equal(x, first) {
				want = impl.FrameRes{Ok: true, Frame: pair[0]}
			} else if bytes.Equal(x, rest) {
				want = impl.FrameRes{Ok: true, Frame: pair[1]}
			}
			if r := impl.DecodeFrame(x); r != want {
				t.Fatalf("%+v over %+v, torn at %d: %+v", pair[0], pair[1], k, r)
			}
		}
	}
}

// seqPairs are near each other, differ in one byte only, or in all of them.
func seqPairs() [][2]uint32 {
	pairs := [][2]uint32{{0, math.MaxUint32}, {1, 0}, {0x01020304, 0x04030201}, {0x00ffffff, 0x01000000}, {3999999999, 4000000000}, {5, 65}, {math.MaxUint32, math.MaxUint32 - 1}}
	for bit := range 32 {
		pairs = append(pairs, [2]uint32{0x5a5a5a5a, 0x5a5a5a5a ^ 1<<bit})
	}
	return pairs
}

func TestTornSectors(t *testing.T) {
	for _, p := range seqPairs() {
		for kind := int64(1); kind <= 3; kind++ {
			wantTornApart(t, impl.Frame{Seq: p[0], Kind: 1, A: 7, B: 9}, impl.Frame{Seq: p[1], Kind: kind, A: 7, B: 9})
			wantTornApart(t, impl.Frame{Seq: p[0], Kind: kind, A: math.MaxUint32, B: 0}, impl.Frame{Seq: p[1], Kind: kind, A: 0, B: math.MaxUint32})
			wantTornApart(t, impl.Frame{Seq: p[0], Kind: kind}, impl.Frame{Seq: p[1], Kind: 3, A: 0x01020304, B: 0x05060708})
		}
	}
	r := rand.New(rand.NewSource(5))
	for range 2000 {
		f := impl.Frame{Seq: r.Uint32(), Kind: int64(1 + r.Intn(3)), A: r.Uint32(), B: r.Uint32()}
		g := impl.Frame{Seq: r.Uint32(), Kind: int64(1 + r.Intn(3)), A: r.Uint32(), B: r.Uint32()}
		if f.Seq != g.Seq {
			wantTornApart(t, f, g)
		}
	}
}

// The tear made by the device itself: a frame over another in one sector.
func TestTornByTheDevice(t *testing.T) {
	old := impl.Frame{Seq: 3, Kind: impl.FrameTap, A: 10, B: 20}
	fresh := impl.Frame{Seq: 7, Kind: impl.FrameAck, A: 10, B: 20}
	d := impl.DevSync(impl.DevWrite(impl.DevNew(8), 6, impl.EncodeFrame(old)))
	d = impl.DevWrite(d, 6, impl.EncodeFrame(fresh))
	for at := range int64(65) {
		r := impl.DecodeFrame(impl.DevRead(impl.DevCrash(d, impl.Crash{Tear: 0, At: at}), 6))
		switch {
		case at == 0 && r != (impl.FrameRes{Ok: true, Frame: old}):
			t.Errorf("nothing written: %+v", r)
		case at >= 61 && r != (impl.FrameRes{Ok: true, Frame: fresh}):
			t.Errorf("all that differs written, at %d: %+v", at, r)
		case at > 0 && at < 61 && r.Ok:
			t.Errorf("torn at %d: %+v", at, r)
		}
	}
}
