package tests

import (
	"math"
	"math/rand"
	"slices"
	"testing"

	"loop.example/s02127/impl"
)

func tapOp(serial, expiry, now int64) impl.Op {
	return impl.Op{Kind: impl.OpTap, Ticket: ticketOf(serial, expiry), Now: now}
}

func numberOp(kind, n int64) impl.Op {
	return impl.Op{Kind: kind, N: n}
}

// wantStep also holds the answer against the model.
func wantStep(t *testing.T, what string, s impl.State, op impl.Op, code int64, state impl.State) {
	t.Helper()
	got := impl.StepState(s, ticketKey(), op)
	if got.Code != code || !sameState(got.State, state) {
		t.Errorf("%s: %+v, and not %d, %+v", what, got, code, state)
	}
	if model := modelStep(s, ticketKey(), op); model.Code != code || !sameState(model.State, state) {
		t.Errorf("%s: the model has %+v", what, model)
	}
}

// wantKept is for steps that leave the state as it is.
func wantKept(t *testing.T, what string, s impl.State, op impl.Op, code int64) {
	t.Helper()
	wantStep(t, what, s, op, code, cloneState(s))
}

func goodOps() []impl.Op {
	return []impl.Op{tapOp(4, 100, 50), numberOp(impl.OpDeny, 4), numberOp(impl.OpAllow, 3), numberOp(impl.OpAck, 2), numberOp(impl.OpCompact, 0)}
}

func TestStepsOnBrokenStates(t *testing.T) {
	for _, n := range brokenStates() {
		for _, op := range goodOps() {
			wantKept(t, n.name, n.state, op, impl.CodeBad)
		}
	}
}

func TestKeysOfOtherLengths(t *testing.T) {
	key := append(ticketKey(), 0)
	for _, given := range [][]byte{nil, key[:0], key[:31], key[:33], append(ticketKey(), ticketKey()...)} {
		for _, op := range goodOps() {
			got := impl.StepState(someState(), given, op)
			if got.Code != impl.CodeBad || !sameState(got.State, someState()) {
				t.Errorf("a key of %d bytes, kind %d: %+v", len(given), op.Kind, got)
			}
		}
	}
}

// A key is looked at when a ticket's signature is, and not before.
func TestKeyThatIsNoPoint(t *testing.T) {
	key := filled(32, 0xff)
	for _, op := range goodOps() {
		want := modelStep(someState(), ticketKey(), op)
		if op.Kind == impl.OpTap {
			want = impl.StepRes{Code: impl.CodeSignature, State: someState()}
		}
		got := impl.StepState(someState(), key, op)
		if got.Code != want.Code || !sameState(got.State, want.State) {
			t.Errorf("kind %d: %+v", op.Kind, got)
		}
	}
}

func TestOtherKinds(t *testing.T) {
	for _, kind := range []int64{0, 6, -1, 7, 257, 1 + 1<<32, math.MaxInt64, math.MinInt64} {
		op := tapOp(4, 100, 50)
		op.Kind, op.N = kind, 2
		wantKept(t, "a kind that is none", someState(), op, impl.CodeBad)
	}
}

func TestAdmission(t *testing.T) {
	admitted := someState()
	admitted.Used = []int64{0, 4, 5, 90, 255}
	admitted.Taps = append(admitted.Taps, impl.TapRec{Serial: 4, Now: 50})
	wantStep(t, "in the middle", someState(), tapOp(4, 100, 50), impl.CodeAdmit, admitted)

	admitted.Taps[3].Now = 100
	wantStep(t, "at the expiry", someState(), tapOp(4, 100, 100), impl.CodeAdmit, admitted)
	wantKept(t, "one after the expiry", someState(), tapOp(4, 100, 101), impl.CodeExpired)

	for _, serial := range []int64{0, 1, 7, 8, 254, 255} {
		for _, now := range []int64{0, modelNowMax} {
			want := impl.State{Used: []int64{serial}, Taps: []impl.TapRec{{Serial: serial, Now: now}}}
			wantStep(t, "at the edges", impl.State{}, tapOp(serial, modelNowMax, now), impl.CodeAdmit, want)
		}
	}
	want := impl.State{Used: []int64{1}, Taps: []impl.TapRec{{Serial: 1}}}
	wantStep(t, "expiry and time 0", impl.State{}, tapOp(1, 0, 0), impl.CodeAdmit, want)
	wantKept(t, "expiry 0 and time 1", impl.State{}, tapOp(1, 0, 1), impl.CodeExpired)
	wantKept(t, "the last but one expiry", impl.State{}, tapOp(1, modelNowMax-1, modelNowMax), impl.CodeExpired)
	wantKept(t, "serial 256", impl.State{}, tapOp(256, 100, 50), impl.CodeRange)
	wantKept(t, "serial 65535", impl.State{}, tapOp(65535, 100, 50), impl.CodeRange)
}

func TestAdmissionOfTheLastSerial(t *testing.T) {
	for _, missing := range []int64{0, 100, 255} {
		s := impl.State{Used: modelWithout(serials(0, 256), missing), Acked: 255}
		want := impl.State{Used: serials(0, 256), Acked: 255, Taps: []impl.TapRec{{Serial: missing, Now: 6}}}
		wantStep(t, "the last that is not used", s, tapOp(missing, 7, 6), impl.CodeAdmit, want)
	}
}

// faultyTap has the faults whose bits are set, in the document's order, and
// the state in which it has them.
func faultyTap(faults int) (impl.State, impl.Op) {
	const now, format, serialRange, expired, denied, used, signature = 1, 2, 4, 8, 16, 32, 64
	s := impl.State{}
	if faults&denied != 0 {
		s.Deny = []int64{4}
	}
	if faults&used != 0 {
		s.Used, s.Taps = []int64{4}, tapsOf(4)
	}
	serial, expiry := int64(4), int64(100)
	if faults&serialRange != 0 {
		serial = 4 + 256
	}
	if faults&expired != 0 {
		expiry = 49
	}
	op := tapOp(serial, expiry, 50)
	if faults&now != 0 {
		op.Now = 1 << 32
	}
	if faults&signature != 0 {
		op.Ticket[40] ^= 1
	}
	if faults&format != 0 {
		op.Ticket[1] = '2'
	}
	return s, op
}

func TestOrderOfRefusals(t *testing.T) {
	codes := []int64{impl.CodeBad, impl.CodeFormat, impl.CodeRange, impl.CodeExpired, impl.CodeDenied, impl.CodeUsed, impl.CodeSignature}
	for faults := 1; faults < 1<<len(codes); faults++ {
		s, op := faultyTap(faults)
		first := 0
		for faults>>first&1 == 0 {
			first++
		}
		wantKept(t, "a row of faults", s, op, codes[first])
		if faults&1 != 0 {
			op.Now = -1
			wantKept(t, "a time below 0 and a row of faults", s, op, impl.CodeBad)
		}
	}
	s, op := faultyTap(0)
	if got := impl.StepState(s, ticketKey(), op); got.Code != impl.CodeAdmit {
		t.Errorf("no fault at all: %+v", got)
	}
}

func TestTimesOfTaps(t *testing.T) {
	for _, now := range []int64{-1, math.MinInt64, 1 << 32, 50 + 1<<32, math.MaxInt64} {
		wantKept(t, "a time that is none", someState(), tapOp(4, modelNowMax, now), impl.CodeBad)
		wantKept(t, "a time that is none and no ticket", someState(), impl.Op{Kind: impl.OpTap, Now: now}, impl.CodeBad)
	}
	for _, now := range []int64{0, modelNowMax} {
		wantKept(t, "no ticket", someState(), impl.Op{Kind: impl.OpTap, Now: now}, impl.CodeFormat)
	}
}

func TestTextsTapped(t *testing.T) {
	good := tapOp(4, 100, 50)
	for _, n := range []int{0, 1, 8, 71, 73} {
		op := good
		op.Ticket = append(append([]byte{}, good.Ticket...), 0)[:n]
		wantKept(t, "a text of another length", someState(), op, impl.CodeFormat)
	}
}

// Every byte of a ticket is signed or is the signature.
func TestTicketsWithABitChanged(t *testing.T) {
	for at := range 72 {
		op := tapOp(4, 1<<20+100, 50)
		op.Ticket[at] ^= 1 << (at % 8)
		got := impl.StepState(someState(), ticketKey(), op)
		want := modelStep(someState(), ticketKey(), op)
		if got.Code != want.Code || !sameState(got.State, someState()) || at >= 8 && got.Code != impl.CodeSignature {
			t.Errorf("byte %d: %+v, and not %d", at, got, want.Code)
		}
	}
	other := signedBy(ticketSeed+1, ticketHead(4, 100))
	op := impl.Op{Kind: impl.OpTap, Ticket: append(ticketHead(4, 100), other.sig...), Now: 50}
	wantKept(t, "the signature of another key", someState(), op, impl.CodeSignature)
	if got := impl.StepState(someState(), other.pub, op); got.Code != impl.CodeAdmit {
		t.Errorf("with that key: %+v", got)
	}
}

func TestDenials(t *testing.T) {
	for _, kind := range []int64{impl.OpDeny, impl.OpAllow} {
		for _, n := range []int64{-1, 256, 3 + 256, 3 + 1<<32, math.MinInt64, math.MaxInt64} {
			wantKept(t, "no serial", someState(), numberOp(kind, n), impl.CodeBad)
		}
	}
	for _, n := range []int64{0, 4, 255} {
		want := someState()
		want.Deny = modelWith(want.Deny, n)
		wantStep(t, "denied", someState(), numberOp(impl.OpDeny, n), impl.CodeOk, want)
		wantStep(t, "and allowed", want, numberOp(impl.OpAllow, n), impl.CodeOk, someState())
		wantKept(t, "denied again", want, numberOp(impl.OpDeny, n), impl.CodeOk)
		wantKept(t, "allowed without being denied", someState(), numberOp(impl.OpAllow, n), impl.CodeOk)
	}
	alone := impl.State{Deny: []int64{255}}
	wantStep(t, "the only one allowed", alone, numberOp(impl.OpAllow, 255), impl.CodeOk, impl.State{})
}

func TestFullDenials(t *testing.T) {
	nearly := someState()
	nearly.Deny = serials(100, 115)
	full := someState()
	full.Deny = serials(100, 116)
	wantStep(t, "the sixteenth", nearly, numberOp(impl.OpDeny, 115), impl.CodeOk, full)
	wantStep(t, "one of sixteen allowed", full, numberOp(impl.OpAllow, 115), impl.CodeOk, nearly)
	wantKept(t, "one of sixteen denied again", full, numberOp(impl.OpDeny, 107), impl.CodeOk)
	wantKept(t, "one of fifteen denied again", nearly, numberOp(impl.OpDeny, 107), impl.CodeOk)
	wantKept(t, "one of none of sixteen allowed", full, numberOp(impl.OpAllow, 116), impl.CodeOk)
	for _, n := range []int64{0, 99, 116, 255, -1, 256} {
		wantKept(t, "a seventeenth", full, numberOp(impl.OpDeny, n), impl.CodeBad)
	}
}

// A denied ticket that is allowed again is admitted; a used one stays used.
func TestAllowedAgain(t *testing.T) {
	s := impl.StepState(someState(), ticketKey(), numberOp(impl.OpAllow, 3)).State
	if got := impl.StepState(s, ticketKey(), tapOp(3, 100, 50)); got.Code != impl.CodeAdmit {
		t.Errorf("allowed: %+v", got)
	}
	s = impl.StepState(someState(), ticketKey(), numberOp(impl.OpAllow, 90)).State
	wantKept(t, "allowed but used", s, tapOp(90, 100, 50), impl.CodeUsed)
}

func TestAcknowledgements(t *testing.T) {
	taps := someState().Taps
	for n := int64(1); n <= 4; n++ {
		want := someState()
		want.Acked, want.Taps = n, taps[n-1:]
		wantStep(t, "acknowledged", someState(), numberOp(impl.OpAck, n), impl.CodeOk, want)
	}
	for _, n := range []int64{0, 5, -1, 1 + 1<<32, math.MinInt64, math.MaxInt64} {
		wantKept(t, "a number that is not there", someState(), numberOp(impl.OpAck, n), impl.CodeBad)
	}
	done := impl.State{Used: []int64{1, 2}, Acked: 2}
	wantKept(t, "all of them again", done, numberOp(impl.OpAck, 2), impl.CodeOk)
	wantKept(t, "fewer", done, numberOp(impl.OpAck, 1), impl.CodeBad)
	wantKept(t, "more", done, numberOp(impl.OpAck, 3), impl.CodeBad)
	wantKept(t, "none of none", impl.State{}, numberOp(impl.OpAck, 0), impl.CodeOk)
	wantKept(t, "one of none", impl.State{}, numberOp(impl.OpAck, 1), impl.CodeBad)
}

func TestCompactionKeepsTheState(t *testing.T) {
	for _, n := range validStates() {
		wantKept(t, n.name, n.state, numberOp(impl.OpCompact, 0), impl.CodeOk)
	}
}

// Each op once more, with every field that its kind does not name at odds.
func TestFieldsThatAreNotNamed(t *testing.T) {
	for _, op := range goodOps() {
		want := modelStep(someState(), ticketKey(), op)
		for _, odd := range []int64{-1, 0, 256, 1 << 32, math.MinInt64, math.MaxInt64} {
			other := op
			if op.Kind == impl.OpTap {
				other.N = odd
			} else {
				other.Now = odd
				other.Ticket = filled(int(odd&127), 9)
			}
			if op.Kind == impl.OpCompact {
				other.N = odd
			}
			wantStep(t, "odd fields", someState(), other, want.Code, want.State)
		}
	}
}

// opOfChance has numbers near the edges; its ticket is good, or has a bit
// changed, or is no ticket.
func opOfChance(r *rand.Rand, s impl.State) impl.Op {
	op := impl.Op{Kind: int64(r.Intn(7)), Now: r.Int63n(12) - 1, N: r.Int63n(14) - 1}
	if r.Intn(3) == 0 {
		op.Kind = impl.OpTap
	}
	if op.Kind == impl.OpAck {
		op.N = s.Acked + r.Int63n(int64(len(s.Taps))+3) - 1
	}
	if r.Intn(6) == 0 {
		op.N = 250 + r.Int63n(8)
	}
	op.Ticket = ticketsOfChance[r.Intn(len(ticketsOfChance))]
	return op
}

var ticketsOfChance = someTickets()

func someTickets() [][]byte {
	list := [][]byte{nil, ticketOf(4, 9)[:71]}
	for serial := range int64(24) {
		list = append(list, ticketOf(serial, 5+serial%6), ticketOf(serial, modelNowMax))
	}
	for serial := int64(250); serial < 258; serial++ {
		list = append(list, ticketOf(serial, 9))
	}
	for i := range 8 {
		forged := ticketOf(int64(i), 10)
		forged[8+7*i] ^= 4
		list = append(list, forged)
	}
	return list
}

func TestWalksOfChance(t *testing.T) {
	r := rand.New(rand.NewSource(52))
	codes := map[int64]int{}
	for range 60 {
		s := impl.State{}
		for range 100 {
			op := opOfChance(r, s)
			was := cloneState(s)
			got, want := impl.StepState(s, ticketKey(), op), modelStep(s, ticketKey(), op)
			if got.Code != want.Code || !sameState(got.State, want.State) {
				t.Fatalf("%+v: %+v, and not %+v", op, got, want)
			}
			if !impl.ValidState(got.State) || !modelValidState(got.State) {
				t.Fatalf("%+v makes a state that is not valid: %+v", op, got.State)
			}
			if !sameState(s, was) {
				t.Fatalf("%+v changed its argument", op)
			}
			codes[got.Code]++
			s = got.State
		}
	}
	for _, code := range []int64{1, 2, 3, 4, 5, 6, 7, 9, 10} {
		if codes[code] < 20 {
			t.Errorf("code %d came %d times only", code, codes[code])
		}
	}
}

// int64sOf names the lists of serials, up to their capacity.
func int64sOf(s impl.State) [][]int64 {
	return [][]int64{s.Deny[:cap(s.Deny)], s.Used[:cap(s.Used)]}
}

// roomyState has room behind every list, filled with what must stay.
func roomyState(s impl.State) impl.State {
	serials := func(list []int64) []int64 {
		n := len(list)
		return slices.Concat(list, make([]int64, 40))[:n]
	}
	taps := slices.Concat(s.Taps, make([]impl.TapRec, 40))
	return impl.State{Deny: serials(s.Deny), Used: serials(s.Used), Acked: s.Acked, Taps: taps[:len(s.Taps)]}
}

// wantStateApart looks whether the given state is as it was, room and all, and
// whether spoiling any list of the answer is seen in any other list.
func wantStateApart(t *testing.T, what string, answer, given, was impl.State) {
	t.Helper()
	lists := append(int64sOf(answer), int64sOf(given)...)
	before := append(int64sOf(cloneAll(answer)), int64sOf(was)...)
	for i := range lists {
		if i >= 2 && !slices.Equal(lists[i], before[i]) {
			t.Fatalf("%s: an argument is changed: %v, and not %v", what, lists[i], before[i])
		}
	}
	for i := range 2 {
		spoil := lists[i]
		for j := range spoil {
			spoil[j] ^= -1
		}
		for k := range lists {
			if k != i && !slices.Equal(lists[k], before[k]) {
				t.Fatalf("%s: list %d of the answer shares memory with list %d", what, i, k)
			}
		}
		for j := range spoil {
			spoil[j] ^= -1
		}
	}
	taps := answer.Taps[:cap(answer.Taps)]
	for i := range taps {
		taps[i].Serial = -77
	}
	if !slices.Equal(given.Taps[:cap(given.Taps)], was.Taps[:cap(was.Taps)]) {
		t.Fatalf("%s: the taps of the argument are changed, or shared", what)
	}
}

// cloneAll copies a state with what lies behind its lists' ends.
func cloneAll(s impl.State) impl.State {
	serials := func(list []int64) []int64 {
		all := make([]int64, cap(list))
		copy(all, list[:cap(list)])
		return all[:len(list)]
	}
	taps := make([]impl.TapRec, cap(s.Taps))
	copy(taps, s.Taps[:cap(s.Taps)])
	return impl.State{Deny: serials(s.Deny), Used: serials(s.Used), Acked: s.Acked, Taps: taps[:len(s.Taps)]}
}

func allStates() []namedState {
	return append(validStates(), brokenStates()...)
}

func TestStepsShareNothing(t *testing.T) {
	ops := append(goodOps(), numberOp(0, 0), numberOp(impl.OpAck, 1), numberOp(impl.OpDeny, -1), tapOp(5, 1, 1), impl.Op{Kind: impl.OpTap})
	for _, n := range allStates() {
		for _, op := range ops {
			for _, key := range [][]byte{ticketKey(), ticketKey()[:31]} {
				given := roomyState(n.state)
				was := cloneAll(given)
				op.Ticket = withRoom(op.Ticket)
				key = withRoom(key)
				ticketWas, keyWas := slices.Clone(op.Ticket), slices.Clone(key)
				got := impl.StepState(given, key, op)
				wantStateApart(t, n.name, got.State, given, was)
				if !slices.Equal(op.Ticket, ticketWas) || !slices.Equal(key, keyWas) {
					t.Fatalf("%s: the ticket or the key is changed", n.name)
				}
			}
		}
	}
}

// One list given as both Deny and Used comes back as two.
func TestOneListGivenTwice(t *testing.T) {
	list := []int64{1, 2}
	for _, acked := range []int64{2, 3} {
		given := impl.State{Deny: list, Used: list, Acked: acked}
		got := impl.StepState(given, ticketKey(), numberOp(impl.OpCompact, 0))
		got.State.Deny[0] = 99
		if got.State.Used[0] != 1 || list[0] != 1 {
			t.Errorf("shared: %+v, %v", got, list)
		}
	}
}
