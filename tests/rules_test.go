package tests

import (
	"crypto/ed25519"
	"math"
	"math/rand"
	"testing"

	"loop.example/s02127/impl"
)

// ticketSeed is that of the key that the tickets here are signed with.
const ticketSeed = 41

func ticketKey() []byte {
	return signedBy(ticketSeed, nil).pub
}

func ticketHead(serial, expiry int64) []byte {
	return []byte{'T', '1', byte(serial), byte(serial >> 8), byte(expiry), byte(expiry >> 8), byte(expiry >> 16), byte(expiry >> 24)}
}

func ticketOf(serial, expiry int64) []byte {
	head := ticketHead(serial, expiry)
	return append(head, signedBy(ticketSeed, head).sig...)
}

func serials(from, to int64) []int64 {
	list := []int64{}
	for v := from; v < to; v++ {
		list = append(list, v)
	}
	return list
}

func tapsOf(serials ...int64) []impl.TapRec {
	taps := []impl.TapRec{}
	for i, v := range serials {
		taps = append(taps, impl.TapRec{Serial: v, Now: int64(1000 + i)})
	}
	return taps
}

// someState has two denied (one of them used), four used, one acknowledged and
// three taps that are not in the order of their serials.
func someState() impl.State {
	return impl.State{
		Deny:  []int64{3, 90},
		Used:  []int64{0, 5, 90, 255},
		Acked: 1,
		Taps:  tapsOf(255, 0, 90),
	}
}

type namedState struct {
	name  string
	state impl.State
}

func validStates() []namedState {
	edgeNows := someState()
	edgeNows.Taps[0].Now, edgeNows.Taps[2].Now = 0, modelNowMax
	return []namedState{
		{"empty", impl.State{}},
		{"some", someState()},
		{"lists without length", impl.State{Deny: []int64{}, Used: []int64{}, Taps: []impl.TapRec{}}},
		{"edge serials", impl.State{Deny: []int64{0, 255}, Used: []int64{0, 255}, Taps: tapsOf(255, 0)}},
		{"edge times", edgeNows},
		{"15 denied", impl.State{Deny: serials(100, 115)}},
		{"16 denied", impl.State{Deny: serials(240, 256)}},
		{"all used, none acknowledged", impl.State{Used: serials(0, 256), Taps: tapsOf(serials(0, 256)...)}},
		{"all used, all acknowledged", impl.State{Used: serials(0, 256), Acked: 256}},
		{"all used, one not acknowledged", impl.State{Deny: serials(0, 16), Used: serials(0, 256), Acked: 255, Taps: tapsOf(7)}},
		{"none unacknowledged", impl.State{Used: []int64{1, 2}, Acked: 2}},
	}
}

func changed(change func(s *impl.State)) impl.State {
	s := someState()
	change(&s)
	return s
}

// brokenStates break one condition each.
func brokenStates() []namedState {
	rows := []struct {
		name   string
		change func(s *impl.State)
	}{
		{"denied -1", func(s *impl.State) { s.Deny = []int64{-1} }},
		{"denied 256", func(s *impl.State) { s.Deny = []int64{3, 256} }},
		{"denied at the ends of int64", func(s *impl.State) { s.Deny = []int64{math.MinInt64, math.MaxInt64} }},
		{"denied 2^32 + 3", func(s *impl.State) { s.Deny = []int64{1<<32 + 3} }},
		{"denied twice", func(s *impl.State) { s.Deny = []int64{3, 90, 90} }},
		{"denied descending", func(s *impl.State) { s.Deny = []int64{3, 91, 90} }},
		{"denied descending at the start", func(s *impl.State) { s.Deny = []int64{4, 3, 90} }},
		{"17 denied", func(s *impl.State) { s.Deny = serials(0, 17) }},
		{"all denied", func(s *impl.State) { s.Deny = serials(0, 256) }},
		{"used -1", func(s *impl.State) { s.Used = []int64{-1, 0, 90, 255} }},
		{"used 256", func(s *impl.State) { s.Used = []int64{0, 90, 255, 256} }},
		{"used twice", func(s *impl.State) { s.Used = []int64{0, 90, 90, 255} }},
		{"used descending", func(s *impl.State) { s.Used = []int64{0, 90, 5, 255} }},
		{"used descending at the end", func(s *impl.State) { s.Used = []int64{0, 90, 255, 5} }},
		{"acknowledged one fewer", func(s *impl.State) { s.Acked = 0 }},
		{"acknowledged one more", func(s *impl.State) { s.Acked = 2 }},
		{"one used more", func(s *impl.State) { s.Used = []int64{0, 5, 6, 90, 255} }},
		{"one used fewer", func(s *impl.State) { s.Used = []int64{0, 90, 255} }},
		{"one tap fewer", func(s *impl.State) { s.Taps = s.Taps[:2] }},
		{"acknowledged -1", func(s *impl.State) { s.Acked, s.Used = -1, []int64{0, 255} }},
		{"acknowledged -1 and all tapped", func(s *impl.State) { s.Acked, s.Used = -1, []int64{0, 90}; s.Taps = tapsOf(0, 90, 0) }},
		{"acknowledged the greatest", func(s *impl.State) { s.Acked = math.MaxInt64 }},
		{"acknowledged the least", func(s *impl.State) { s.Acked = math.MinInt64 }},
		{"acknowledged 1 + 2^32", func(s *impl.State) { s.Acked = 1 + 1<<32 }},
		{"a tap that is not used", func(s *impl.State) { s.Taps[1].Serial = 6 }},
		{"a tap that is denied but not used", func(s *impl.State) { s.Taps[1].Serial = 3 }},
		{"a tap of -1", func(s *impl.State) { s.Taps[1].Serial = -1 }},
		{"a tap of 256", func(s *impl.State) { s.Taps[1].Serial = 256 }},
		{"a tap of 90 + 256", func(s *impl.State) { s.Taps[2].Serial = 90 + 256 }},
		{"a tap at the end of int64", func(s *impl.State) { s.Taps[2].Serial = math.MinInt64 }},
		{"two taps of one serial", func(s *impl.State) { s.Taps[2].Serial = 255 }},
		{"two neighbouring taps of one serial", func(s *impl.State) { s.Taps[1].Serial = 90 }},
		{"a tap at -1", func(s *impl.State) { s.Taps[0].Now = -1 }},
		{"the last tap at 2^32", func(s *impl.State) { s.Taps[2].Now = 1 << 32 }},
		{"a tap at the end of int64", func(s *impl.State) { s.Taps[1].Now = math.MaxInt64 }},
	}
	states := []namedState{
		{"a tap without anything used", impl.State{Taps: tapsOf(0)}},
		{"acknowledged 1 without anything used", impl.State{Acked: 1}},
		{"acknowledged -1 with one tap", impl.State{Acked: -1, Taps: tapsOf(0)}},
	}
	for _, r := range rows {
		states = append(states, namedState{r.name, changed(r.change)})
	}
	return states
}

func TestTickets(t *testing.T) {
	for _, serial := range []int64{0, 1, 255, 256, 0x1234, 65535} {
		for _, expiry := range []int64{0, 1, 255, 256, 0x01020304, 1 << 31, modelNowMax} {
			want := impl.Ticket{Ok: true, Serial: serial, Expiry: expiry}
			if got := impl.ParseTicket(ticketOf(serial, expiry)); got != want {
				t.Errorf("ticket of %d until %d: %+v", serial, expiry, got)
			}
			for _, x := range []byte{0, 0x54, 0xff} {
				if got := impl.ParseTicket(append(ticketHead(serial, expiry), filled(64, x)...)); got != want {
					t.Errorf("ticket of %d until %d with a signature of %d: %+v", serial, expiry, x, got)
				}
			}
		}
	}
}

func TestTextsThatAreNoTickets(t *testing.T) {
	good := ticketOf(0x1234, 0x01020304)
	for n := range 200 {
		text := append(append([]byte{}, good...), filled(128, 7)...)[:n]
		if got := impl.ParseTicket(text); got.Ok != (n == 72) || n != 72 && got != (impl.Ticket{}) {
			t.Errorf("a text of %d bytes: %+v", n, got)
		}
	}
	for x := range 256 {
		for at, mark := range []byte{'T', '1'} {
			text := append([]byte{}, good...)
			text[at] = byte(x)
			if got := impl.ParseTicket(text); got != modelTicket(text) || got.Ok != (byte(x) == mark) {
				t.Errorf("byte %d is %d: %+v", at, x, got)
			}
		}
	}
	if got := impl.ParseTicket(nil); got != (impl.Ticket{}) {
		t.Errorf("nothing: %+v", got)
	}
	if got := impl.ParseTicket(append([]byte("1T"), good[2:]...)); got != (impl.Ticket{}) {
		t.Errorf("the mark's bytes changed about: %+v", got)
	}
}

func TestValidStates(t *testing.T) {
	for _, n := range validStates() {
		if !impl.ValidState(n.state) || !modelValidState(n.state) {
			t.Errorf("%s: not valid: %+v", n.name, n.state)
		}
	}
}

func TestBrokenStates(t *testing.T) {
	for _, n := range brokenStates() {
		if impl.ValidState(n.state) || modelValidState(n.state) {
			t.Errorf("%s: valid: %+v", n.name, n.state)
		}
	}
}

// Every pair of neighbours, in either list.
func TestNeighbouringSerials(t *testing.T) {
	edges := []int64{-1, 0, 1, 7, 8, 9, 63, 64, 254, 255, 256}
	for _, a := range edges {
		for _, b := range edges {
			want := a >= 0 && a < b && b <= 255
			if got := impl.ValidState(impl.State{Deny: []int64{a, b}}); got != want {
				t.Errorf("denied %d, %d: %v", a, b, got)
			}
			if got := impl.ValidState(impl.State{Used: []int64{a, b}, Acked: 2}); got != want {
				t.Errorf("used %d, %d: %v", a, b, got)
			}
		}
	}
}

// bentState is a valid state with one number changed by chance, which may or
// may not leave it valid.
func bentState(r *rand.Rand) impl.State {
	s := someState()
	bend := func(v *int64) { *v += int64(r.Intn(7) - 3) }
	switch r.Intn(6) {
	case 0:
		bend(&s.Deny[r.Intn(2)])
	case 1:
		bend(&s.Used[r.Intn(4)])
	case 2:
		bend(&s.Acked)
	case 3:
		bend(&s.Taps[r.Intn(3)].Serial)
	case 4:
		s.Taps[r.Intn(3)].Now = r.Int63n(1<<33) - 1<<31
	case 5:
		s.Taps[r.Intn(3)].Serial = s.Used[r.Intn(4)]
	}
	return s
}

func TestBentStates(t *testing.T) {
	r := rand.New(rand.NewSource(51))
	count := map[bool]int{}
	for range 20000 {
		s := bentState(r)
		want := modelValidState(s)
		count[want]++
		if got := impl.ValidState(s); got != want {
			t.Fatalf("valid %v: %+v", got, s)
		}
	}
	if count[true] < 1000 || count[false] < 1000 {
		t.Errorf("of one sort only: %v", count)
	}
}

// The library's signature is over the first eight bytes and nothing else.
func TestTicketsAreSigned(t *testing.T) {
	ticket := ticketOf(9, 10)
	if !ed25519.Verify(ticketKey(), ticket[:8], ticket[8:]) {
		t.Fatal("the tickets of these tests are not good")
	}
}
