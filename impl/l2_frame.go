package impl

const (
	FrameTap  = 1
	FrameDeny = 2
	FrameAck  = 3
)

type Frame struct {
	Seq  uint32
	Kind int64
	A    uint32
	B    uint32
}

type FrameRes struct {
	Ok    bool
	Frame Frame
}

// Where the parts of a frame stand in its sector.
const (
	frameHeadAt = 0
	frameMarkAt = 4
	frameKindAt = 6
	frameAAt    = 8
	frameBAt    = 12
	frameSumAt  = 56
	frameTailAt = 60
)

func Crc32(b []byte) uint32 {
	c := uint32(0xffffffff)
	for _, x := range b {
		c ^= uint32(x)
		for range 8 {
			if c&1 == 1 {
				c = c>>1 ^ 0xedb88320
			} else {
				c >>= 1
			}
		}
	}
	return c ^ 0xffffffff
}

func EncodeFrame(f Frame) []byte {
	if !f.hasKind() {
		return nil
	}
	content := f.encoded()
	return content[:]
}

func DecodeFrame(b []byte) FrameRes {
	if len(b) != SectorBytes {
		return FrameRes{}
	}
	content := sectorOf(b)
	// A torn sector shows here, whatever its checksum says.
	if content.number(frameHeadAt) != content.number(frameTailAt) {
		return FrameRes{}
	}
	f := Frame{
		Seq:  content.number(frameHeadAt),
		Kind: int64(content[frameKindAt]),
		A:    content.number(frameAAt),
		B:    content.number(frameBAt),
	}
	if !f.hasKind() || f.encoded() != content {
		return FrameRes{}
	}
	return FrameRes{Ok: true, Frame: f}
}

func (f *Frame) hasKind() bool {
	return f.Kind >= FrameTap && f.Kind <= FrameAck
}

// encoded is the code of a frame whose kind is one of the three.
func (f *Frame) encoded() sector {
	var content sector
	content.setNumber(frameHeadAt, f.Seq)
	content[frameMarkAt] = 'J'
	content[frameMarkAt+1] = '1'
	content[frameKindAt] = byte(f.Kind)
	content.setNumber(frameAAt, f.A)
	content.setNumber(frameBAt, f.B)
	content.setNumber(frameSumAt, Crc32(content[:frameSumAt]))
	content.setNumber(frameTailAt, f.Seq)
	return content
}

// number reads four bytes, little-endian.
func (x *sector) number(at int) uint32 {
	return uint32(x[at]) | uint32(x[at+1])<<8 | uint32(x[at+2])<<16 | uint32(x[at+3])<<24
}

func (x *sector) setNumber(at int, v uint32) {
	for i := range 4 {
		x[at+i] = byte(v >> (8 * i))
	}
}
