package tests

import (
	"fmt"
	"reflect"
	"slices"
	"testing"

	"loop.example/s02127/impl"
)

// span is the memory of one list, with the room behind its end.
type span struct {
	from, to uintptr
	name     string
}

// spansOf names every list in a value, and the lists in these.
func spansOf(name string, v reflect.Value) []span {
	var list []span
	switch v.Kind() {
	case reflect.Struct:
		for i := range v.NumField() {
			list = append(list, spansOf(name+"."+v.Type().Field(i).Name, v.Field(i))...)
		}
	case reflect.Slice:
		if size := v.Type().Elem().Size() * uintptr(v.Cap()); size > 0 {
			list = append(list, span{v.Pointer(), v.Pointer() + size, name})
		}
		if v.Type().Elem().Kind() == reflect.Struct {
			for i := range v.Len() {
				list = append(list, spansOf(fmt.Sprintf("%s[%d]", name, i), v.Index(i))...)
			}
		}
	}
	return list
}

// wholeOf tells a value with what lies behind the ends of its lists.
func wholeOf(v reflect.Value) string {
	text := ""
	switch v.Kind() {
	case reflect.Struct:
		for i := range v.NumField() {
			text += wholeOf(v.Field(i)) + ";"
		}
	case reflect.Slice:
		text += fmt.Sprintf("%d:", v.Len())
		all := v.Slice(0, v.Cap())
		if v.Type().Elem().Kind() == reflect.Uint8 {
			return text + string(all.Bytes())
		}
		for i := range all.Len() {
			text += wholeOf(all.Index(i)) + ","
		}
	default:
		text = fmt.Sprint(v.Interface())
	}
	return text
}

// wantNewMemory calls, and wants the arguments unchanged, room and all, and no
// list of the answer in the memory of an argument or of another list of it.
func wantNewMemory(t *testing.T, what string, call func() any, given ...any) {
	t.Helper()
	var args []span
	var was []string
	for i, g := range given {
		args = append(args, spansOf(fmt.Sprintf("argument %d", i), reflect.ValueOf(g))...)
		was = append(was, wholeOf(reflect.ValueOf(g)))
	}
	answer := spansOf("answer", reflect.ValueOf(call()))
	for i, g := range given {
		if wholeOf(reflect.ValueOf(g)) != was[i] {
			t.Fatalf("%s: argument %d is changed", what, i)
		}
	}
	all := slices.Concat(answer, args)
	for i, a := range answer {
		for _, b := range all[i+1:] {
			if a.from < b.to && b.from < a.to {
				t.Fatalf("%s: %s shares memory with %s", what, a.name, b.name)
			}
		}
	}
}

func roomyImage(im impl.Image) impl.Image {
	frames := slices.Concat(im.Frames, make([]impl.Frame, 9))
	return impl.Image{Ok: im.Ok, Snap: roomySnap(im.Snap), Frames: frames[:len(im.Frames)], State: roomyState(im.State), Next: im.Next}
}

func roomyGate(g impl.Gate) impl.Gate {
	return impl.Gate{Dev: roomy(g.Dev), Key: withRoom(g.Key), Image: roomyImage(g.Image)}
}

func TestGatesAreNewMemory(t *testing.T) {
	ops := []impl.Op{numberOp(impl.OpCompact, 0)}
	for _, c := range changingOps() {
		ops = append(ops, c.op)
	}
	for _, n := range quietOps() {
		ops = append(ops, n.op)
	}
	gates := slices.Concat(validGates(t), brokenDevices(t), brokenImages(t))
	gates = append(gates, namedGate{"a full journal", tappedFrom(t, 8, 3, 4)}, namedGate{"the last Gen", gateOver(t, putFrames(putSnap(impl.DevNew(8), impl.Snap{Gen: modelNumberMax, Tail: 5}), 5, denyFrame(3, 1)))})
	for _, n := range gates {
		g := roomyGate(n.gate)
		wantNewMemory(t, n.name+" is asked whether it is valid", func() any { return impl.ValidGate(g) }, g)
		for _, op := range ops {
			op.Ticket = withRoom(op.Ticket)
			wantNewMemory(t, n.name, func() any { return impl.GateDo(g, op) }, g, op)
		}
	}
}

func TestGatesWithoutPowerAreNewMemory(t *testing.T) {
	ops := []impl.Op{numberOp(impl.OpCompact, 0)}
	for _, c := range changingOps() {
		ops = append(ops, c.op)
	}
	for fuel := int64(-1); fuel <= 5; fuel++ {
		g := roomyGate(busyGate(t))
		g.Dev.Fuel = fuel
		for _, op := range ops {
			op.Ticket = withRoom(op.Ticket)
			wantNewMemory(t, "too little fuel, or just enough", func() any { return impl.GateDo(g, op) }, g, op)
		}
	}
}

func TestFormatsAndRecoveriesAreNewMemory(t *testing.T) {
	keys := [][]byte{withRoom(ticketKey()), withRoom(ticketKey()[:31]), withRoom(append(ticketKey(), 0))}
	for _, key := range keys {
		for _, n := range []int64{7, 8, 256, 257} {
			wantNewMemory(t, "format", func() any { return impl.Format(n, key) }, key)
		}
		devs := []impl.Dev{{}, impl.DevNew(8), busyDev(), dead(busyDev()), inCache(impl.DevNew(12), busyDev()), putFrames(busyDev(), 11, tapFrame(10, 1))}
		for fuel := int64(-1); fuel <= 5; fuel++ {
			devs = append(devs, withFuel(busyDev(), fuel), withFuel(countedGate(t, 10, 17, 5, 3).Dev, fuel), withFuel(countedGate(t, 10, 17, 2, 1).Dev, fuel))
		}
		for _, d := range devs {
			d = roomy(d)
			wantNewMemory(t, "recovery", func() any { return impl.Recover(d, key) }, d, key)
		}
	}
}

func TestScriptsAreNewMemory(t *testing.T) {
	for _, text := range []string{"", "\n", "pending", formatText(8) + "\n" + tapText(1, 100, 50) + "\npending\ncrash - - 0\n", string(filled(20001, '\n'))} {
		given := withRoom([]byte(text))
		wantNewMemory(t, "a script", func() any { return impl.RunScript(given) }, given)
	}
	text := []byte(formatText(8) + "\npending\n")
	first := impl.RunScript(text)
	flip(first[:cap(first)])
	if second := impl.RunScript(text); string(second) != "ok\npending\n" {
		t.Errorf("a second run: %q", second)
	}
	long := filled(20001, 'x')
	first = impl.RunScript(long)
	flip(first)
	if second := impl.RunScript(long); string(second) != "long\n" {
		t.Errorf("a second long text: %q", second)
	}
}

// A script leaves nothing behind for the next one.
func TestScriptsKnowNothingOfEachOther(t *testing.T) {
	wantText(t, formatText(8)+"\n"+tapText(1, 100, 50), "ok\nadmit\n")
	wantText(t, "pending", "none\n")
	wantText(t, formatText(8)+"\npending", "ok\npending\n")
}
