package tests

import (
	"bytes"
	"math"
	"testing"

	"loop.example/s02127/impl"
)

type namedGate struct {
	name string
	gate impl.Gate
}

type gateChange struct {
	name   string
	change func(g *impl.Gate)
}

func changedGates(t *testing.T, changes []gateChange) []namedGate {
	t.Helper()
	var list []namedGate
	for _, c := range changes {
		g := busyGate(t)
		c.change(&g)
		list = append(list, namedGate{c.name, g})
	}
	return list
}

// on puts a gate on another device, with the image of it.
func on(d impl.Dev) func(g *impl.Gate) {
	return func(g *impl.Gate) { g.Dev, g.Image = d, modelLoad(d) }
}

func validGates(t *testing.T) []namedGate {
	t.Helper()
	free := sectorOfFrame(busyDev(), 11)
	return changedGates(t, []gateChange{
		{"as it is", func(*impl.Gate) {}},
		{"fuel 0", func(g *impl.Gate) { g.Dev.Fuel = 0 }},
		{"fuel 1000000", func(g *impl.Gate) { g.Dev.Fuel = 1000000 }},
		{"a key that is no point", func(g *impl.Gate) { g.Key = filled(32, 0xff) }},
		{"a cache without length", func(g *impl.Gate) { g.Dev.Cache = []impl.Pend{} }},
		{"8 sectors", on(putSnap(impl.DevNew(8), impl.Snap{Tail: 1}))},
		{"256 sectors", on(putSnap(impl.DevNew(256), impl.Snap{Tail: 1}))},
		{"lists without length", func(g *impl.Gate) {
			on(putSnap(impl.DevNew(8), impl.Snap{Tail: 1}))(g)
			g.Image.Snap.Deny, g.Image.Snap.Used, g.Image.Frames = []int64{}, []int64{}, []impl.Frame{}
			g.Image.State.Deny, g.Image.State.Used, g.Image.State.Taps = []int64{}, []int64{}, []impl.TapRec{}
		}},
		{"lists that are nil", func(g *impl.Gate) {
			on(putSnap(impl.DevNew(8), impl.Snap{Tail: 1}))(g)
			g.Image.Snap.Deny, g.Image.Snap.Used, g.Image.Frames = nil, nil, nil
			g.Image.State.Deny, g.Image.State.Used, g.Image.State.Taps = nil, nil, nil
		}},
		{"a sector that is not read has other bytes", func(g *impl.Gate) { g.Dev = putText(g.Dev, free, filled(64, 9)) }},
		{"the older snap is spoilt", func(g *impl.Gate) { g.Dev = putText(g.Dev, 0, filled(128, 9)) }},
	})
}

// brokenDevices break what a gate's device must be, with an image of it.
func brokenDevices(t *testing.T) []namedGate {
	t.Helper()
	d := busyDev()
	free := sectorOfFrame(d, 11)
	return changedGates(t, []gateChange{
		{"the zero device", on(impl.Dev{})},
		{"one byte fewer", func(g *impl.Gate) { g.Dev.Disk = g.Dev.Disk[:len(g.Dev.Disk)-1] }},
		{"257 sectors", func(g *impl.Gate) { g.Dev.Disk = append(g.Dev.Disk, make([]byte, 245*64)...) }},
		{"7 sectors", func(g *impl.Gate) { g.Dev.Disk = g.Dev.Disk[:7*64] }},
		{"fuel -2", func(g *impl.Gate) { g.Dev.Fuel = -2 }},
		{"fuel 1000001", func(g *impl.Gate) { g.Dev.Fuel = 1000001 }},
		{"dead", func(g *impl.Gate) { g.Dev.Dead = true }},
		{"dead without fuel", func(g *impl.Gate) { g.Dev.Dead, g.Dev.Fuel = true, 0 }},
		{"a write that changes nothing in its cache", func(g *impl.Gate) { g.Dev = withEntry(d, 0, d.Disk[:64]) }},
		{"a write to a free sector in its cache", func(g *impl.Gate) { g.Dev = withEntry(d, free, filled(64, 7)) }},
		{"the next frame in its cache, and in its image", on(withEntry(d, free, modelFrame(11, 1, 30, 5)))},
		{"an entry that is not valid in its cache", func(g *impl.Gate) { g.Dev = withEntry(d, free, filled(63, 7)) }},
		{"all in its cache", on(inCache(impl.DevNew(12), d))},
		{"zeros", on(impl.DevNew(12))},
		{"zeros under the image", func(g *impl.Gate) { g.Dev = impl.DevNew(12) }},
		{"a frame that does not fit", on(putFrames(d, 11, tapFrame(10, 1)))},
		{"a frame more on the device", func(g *impl.Gate) { g.Dev = putFrames(d, 11, tapFrame(30, 1)) }},
		{"a frame fewer on the device", func(g *impl.Gate) { g.Dev = putText(d, sectorOfFrame(d, 10), filled(64, 0)) }},
		{"its snap spoilt on the device", func(g *impl.Gate) { g.Dev = putText(d, 2, filled(64, 0)) }},
		{"a newer snap on the device", func(g *impl.Gate) {
			g.Dev = putSnap(d, impl.Snap{Gen: 4, Tail: 6, Deny: []int64{9, 77}, Used: []int64{100, 200}})
		}},
		{"no key", func(g *impl.Gate) { g.Key = nil }},
		{"a key of 31 bytes", func(g *impl.Gate) { g.Key = g.Key[:31] }},
		{"a key of 33 bytes", func(g *impl.Gate) { g.Key = append(g.Key, 0) }},
		{"a key of 64 bytes", func(g *impl.Gate) { g.Key = append(g.Key, g.Key...) }},
	})
}

// brokenImages differ from what stands on the device in one field each.
func brokenImages(t *testing.T) []namedGate {
	t.Helper()
	list := changedGates(t, []gateChange{
		{"Ok", func(g *impl.Gate) { g.Image.Ok = false }},
		{"the zero image", func(g *impl.Gate) { g.Image = impl.Image{} }},
		{"the zero image with Ok", func(g *impl.Gate) { g.Image = impl.Image{Ok: true} }},
		{"Gen one more", func(g *impl.Gate) { g.Image.Snap.Gen++ }},
		{"Gen one less", func(g *impl.Gate) { g.Image.Snap.Gen-- }},
		{"Tail one more", func(g *impl.Gate) { g.Image.Snap.Tail++ }},
		{"Tail one less", func(g *impl.Gate) { g.Image.Snap.Tail-- }},
		{"the snap's Deny, one fewer", func(g *impl.Gate) { g.Image.Snap.Deny = g.Image.Snap.Deny[:1] }},
		{"the snap's Deny, one more", func(g *impl.Gate) { g.Image.Snap.Deny = append(g.Image.Snap.Deny, 78) }},
		{"the snap's Deny, another", func(g *impl.Gate) { g.Image.Snap.Deny[1] = 78 }},
		{"the snap's Used, one fewer", func(g *impl.Gate) { g.Image.Snap.Used = g.Image.Snap.Used[1:] }},
		{"the snap's Used, one more", func(g *impl.Gate) { g.Image.Snap.Used = append(g.Image.Snap.Used, 201) }},
		{"the snap's Used, another", func(g *impl.Gate) { g.Image.Snap.Used[0] = 99 }},
		{"no frames", func(g *impl.Gate) { g.Image.Frames = nil }},
		{"a frame fewer", func(g *impl.Gate) { g.Image.Frames = g.Image.Frames[:4] }},
		{"a frame fewer at the start", func(g *impl.Gate) { g.Image.Frames = g.Image.Frames[1:] }},
		{"a frame more", func(g *impl.Gate) { g.Image.Frames = append(g.Image.Frames, impl.Frame{Seq: 11, Kind: 1, A: 30}) }},
		{"the state's Deny, one fewer", func(g *impl.Gate) { g.Image.State.Deny = nil }},
		{"the state's Deny, one more", func(g *impl.Gate) { g.Image.State.Deny = []int64{9, 10} }},
		{"the state's Deny, another", func(g *impl.Gate) { g.Image.State.Deny[0] = 8 }},
		{"the state's Used, one fewer", func(g *impl.Gate) { g.Image.State.Used = g.Image.State.Used[1:] }},
		{"the state's Used, one more", func(g *impl.Gate) { g.Image.State.Used = append(g.Image.State.Used, 201) }},
		{"the state's Used, another", func(g *impl.Gate) { g.Image.State.Used[4] = 201 }},
		{"Acked one more", func(g *impl.Gate) { g.Image.State.Acked++ }},
		{"Acked one less", func(g *impl.Gate) { g.Image.State.Acked-- }},
		{"a tap fewer", func(g *impl.Gate) { g.Image.State.Taps = g.Image.State.Taps[:1] }},
		{"a tap more", func(g *impl.Gate) { g.Image.State.Taps = append(g.Image.State.Taps, impl.TapRec{}) }},
		{"a tap of another serial", func(g *impl.Gate) { g.Image.State.Taps[1].Serial++ }},
		{"a tap at another time", func(g *impl.Gate) { g.Image.State.Taps[0].Now++ }},
		{"taps in another order", func(g *impl.Gate) {
			taps := g.Image.State.Taps
			taps[0], taps[1] = taps[1], taps[0]
		}},
		{"Next one more", func(g *impl.Gate) { g.Image.Next++ }},
		{"Next one less", func(g *impl.Gate) { g.Image.Next-- }},
		{"Next a round on", func(g *impl.Gate) { g.Image.Next += 8 }},
	})
	for i := range 5 {
		list = append(list, changedGates(t, []gateChange{
			{"the Seq of a frame", func(g *impl.Gate) { g.Image.Frames[i].Seq++ }},
			{"the Kind of a frame", func(g *impl.Gate) { g.Image.Frames[i].Kind++ }},
			{"the A of a frame", func(g *impl.Gate) { g.Image.Frames[i].A++ }},
			{"the B of a frame", func(g *impl.Gate) { g.Image.Frames[i].B++ }},
		})...)
	}
	return list
}

func TestValidGates(t *testing.T) {
	for _, n := range validGates(t) {
		if !impl.ValidGate(n.gate) || !modelValidGate(n.gate) {
			t.Errorf("%s is not valid: %+v", n.name, n.gate.Image)
		}
	}
}

func TestBrokenGates(t *testing.T) {
	ops := []impl.Op{tapOp(4, 100, 50), numberOp(impl.OpDeny, 4), numberOp(impl.OpAllow, 9), numberOp(impl.OpAck, 4), numberOp(impl.OpCompact, 0), numberOp(0, 0), numberOp(impl.OpDeny, -1)}
	for _, n := range append(brokenDevices(t), brokenImages(t)...) {
		if impl.ValidGate(n.gate) || modelValidGate(n.gate) {
			t.Errorf("%s: valid: %+v", n.name, n.gate.Image)
		}
		for _, op := range ops {
			if got := impl.GateDo(n.gate, op); !sameGateRes(got, impl.GateRes{}) {
				t.Errorf("%s: kind %d is answered by %d", n.name, op.Kind, got.Code)
			}
		}
	}
	if impl.ValidGate(impl.Gate{}) || !sameGateRes(impl.GateDo(impl.Gate{}, numberOp(impl.OpCompact, 0)), impl.GateRes{}) {
		t.Error("the zero gate is valid")
	}
}

func TestFormat(t *testing.T) {
	long := bytes.Repeat(ticketKey(), 3)
	for _, n := range []int64{math.MinInt64, -8, -1, 0, 1, 7, 8, 9, 10, 100, 255, 256, 257, 512, 8 + 1<<32, math.MaxInt64} {
		for _, size := range []int{0, 1, 31, 32, 33, 64} {
			got := impl.Format(n, long[:size])
			want := impl.GateRes{Code: impl.CodeBad}
			if n >= 8 && n <= 256 && size == 32 {
				d := impl.Dev{Disk: make([]byte, n*64), Fuel: -1}
				copy(d.Disk, modelSnap(impl.Snap{Gen: 0, Tail: 1}))
				want.Code = impl.CodeOk
				want.Gate = impl.Gate{Dev: d, Key: long[:32], Image: impl.Image{Ok: true, Snap: impl.Snap{Tail: 1}, Next: 1}}
			}
			if !sameGateRes(got, want) {
				t.Errorf("%d sectors, a key of %d bytes: %+v", n, size, got)
			}
			if model := modelFormat(n, long[:size]); !sameGateRes(model, want) {
				t.Errorf("%d sectors, a key of %d bytes: the model has %+v", n, size, model)
			}
			if impl.ValidGate(got.Gate) != (got.Code == impl.CodeOk) {
				t.Errorf("%d sectors, a key of %d bytes: valid or not", n, size)
			}
		}
	}
	if got := impl.Format(8, filled(32, 0xff)); got.Code != impl.CodeOk || !impl.ValidGate(got.Gate) {
		t.Errorf("a key that is no point: %+v", got)
	}
}
