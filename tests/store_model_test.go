package tests

import (
	"bytes"
	"encoding/binary"
	"hash/crc32"
	"slices"

	"loop.example/s02127/impl"
)

// The model of chapter 6. Its snaps are written by the library's means, and
// read by looking at each rule of the code by itself, not by writing again.

const modelNumberMax = 4000000000

func modelValidSnap(s impl.Snap) bool {
	return s.Gen <= modelNumberMax && s.Tail >= 1 && s.Tail <= modelNumberMax &&
		modelAscending(s.Deny) && modelAscending(s.Used) && len(s.Deny) <= 16
}

// modelSnap writes what it is given, also of a snap that is not valid, as far
// as its places reach.
func modelSnap(s impl.Snap) []byte {
	places := make([]byte, 32)
	for i, v := range s.Deny[:min(16, len(s.Deny))] {
		binary.LittleEndian.PutUint16(places[2*i:], uint16(v))
	}
	marks := make([]byte, 32)
	for _, v := range s.Used {
		if v >= 0 && v < 256 {
			marks[v/8] |= byte(1 << (v % 8))
		}
	}
	x := binary.LittleEndian.AppendUint32(nil, s.Gen)
	x = append(x, 'S', '1', byte(len(s.Deny)), 0)
	x = binary.LittleEndian.AppendUint32(x, s.Tail)
	x = append(x, marks...)
	x = append(x, places[:16]...)
	x = binary.LittleEndian.AppendUint32(x, s.Gen)
	x = binary.LittleEndian.AppendUint32(x, s.Gen)
	x = append(x, 'S', '2', 0, 0)
	x = append(x, places[16:]...)
	x = append(x, make([]byte, 32)...)
	x = binary.LittleEndian.AppendUint32(x, crc32.ChecksumIEEE(x))
	return binary.LittleEndian.AppendUint32(x, s.Gen)
}

// resumSnap puts the right checksum over the first 120 bytes.
func resumSnap(x []byte) {
	binary.LittleEndian.PutUint32(x[120:], crc32.ChecksumIEEE(x[:120]))
}

func modelZeros(x []byte) bool {
	return bytes.Equal(x, make([]byte, len(x)))
}

func modelDecodeSnap(x []byte) impl.SnapRes {
	if len(x) != 128 || string(x[4:6]) != "S1" || string(x[68:70]) != "S2" || x[6] > 16 {
		return impl.SnapRes{}
	}
	if !modelZeros(x[7:8]) || !modelZeros(x[70:72]) || !modelZeros(x[88:120]) {
		return impl.SnapRes{}
	}
	for _, at := range []int{60, 64, 124} {
		if !bytes.Equal(x[:4], x[at:at+4]) {
			return impl.SnapRes{}
		}
	}
	if crc32.ChecksumIEEE(x[:120]) != binary.LittleEndian.Uint32(x[120:]) {
		return impl.SnapRes{}
	}
	s := impl.Snap{Gen: binary.LittleEndian.Uint32(x), Tail: binary.LittleEndian.Uint32(x[8:])}
	places := append(append([]byte{}, x[44:60]...), x[72:88]...)
	count := int(x[6])
	for i := range count {
		s.Deny = append(s.Deny, int64(places[2*i])+256*int64(places[2*i+1]))
	}
	for v := range int64(256) {
		if x[12+v/8]&(1<<(v%8)) != 0 {
			s.Used = append(s.Used, v)
		}
	}
	if !modelZeros(places[2*count:]) || !modelValidSnap(s) {
		return impl.SnapRes{}
	}
	return impl.SnapRes{Ok: true, Snap: s}
}

// modelDecodeFrame leans on the model's own frames.
func modelDecodeFrame(x []byte) impl.FrameRes {
	if len(x) != 64 || x[6] < 1 || x[6] > 3 {
		return impl.FrameRes{}
	}
	number := binary.LittleEndian.Uint32
	f := impl.Frame{Seq: number(x), Kind: int64(x[6]), A: number(x[8:]), B: number(x[12:])}
	if !bytes.Equal(x, modelFrame(f.Seq, x[6], f.A, f.B)) {
		return impl.FrameRes{}
	}
	return impl.FrameRes{Ok: true, Frame: f}
}

// modelLoad counts in int64, where nothing wraps.
func modelLoad(d impl.Dev) impl.Image {
	if !modelValid(d) {
		return impl.Image{}
	}
	best := impl.SnapRes{}
	for slot := range int64(2) {
		x := append(modelRead(d, 2*slot), modelRead(d, 2*slot+1)...)
		r := modelDecodeSnap(x)
		if r.Ok && int64(r.Snap.Gen)%2 == slot && (!best.Ok || r.Snap.Gen > best.Snap.Gen) {
			best = r
		}
	}
	if !best.Ok {
		return impl.Image{}
	}
	im := impl.Image{Ok: true, Snap: best.Snap}
	im.State = impl.State{Deny: best.Snap.Deny, Used: best.Snap.Used, Acked: int64(len(best.Snap.Used))}
	places := int64(len(d.Disk)/64 - 4)
	tail := int64(best.Snap.Tail)
	q := tail
	for q-tail < places && q < modelNumberMax {
		r := modelDecodeFrame(modelRead(d, 4+q%places))
		if !r.Ok || int64(r.Frame.Seq) != q {
			break
		}
		im.Frames = append(im.Frames, r.Frame)
		q++
	}
	im.Next = uint32(q)
	for _, f := range im.Frames {
		r := modelApply(im.State, f)
		if !r.Ok {
			return impl.Image{}
		}
		im.State = r.State
	}
	return im
}

func modelCut(im impl.Image) uint32 {
	if !im.Ok {
		return 0
	}
	var taps []impl.Frame
	for _, f := range im.Frames {
		if f.Kind == 1 {
			taps = append(taps, f)
		}
	}
	for i, f := range taps {
		if int64(i+len(im.Snap.Used)) >= im.State.Acked {
			return f.Seq
		}
	}
	return im.Next
}

func cloneSnap(s impl.Snap) impl.Snap {
	s.Deny, s.Used = slices.Clone(s.Deny), slices.Clone(s.Used)
	return s
}

func cloneImage(im impl.Image) impl.Image {
	im.Snap, im.State = cloneSnap(im.Snap), cloneState(im.State)
	im.Frames = slices.Clone(im.Frames)
	return im
}

// sameSnap and sameImage hold an empty list and nil for the same value.
func sameSnap(a, b impl.Snap) bool {
	return a.Gen == b.Gen && a.Tail == b.Tail && slices.Equal(a.Deny, b.Deny) && slices.Equal(a.Used, b.Used)
}

func sameImage(a, b impl.Image) bool {
	return a.Ok == b.Ok && sameSnap(a.Snap, b.Snap) && slices.Equal(a.Frames, b.Frames) && sameState(a.State, b.State) && a.Next == b.Next
}
