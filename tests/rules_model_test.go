package tests

import (
	"crypto/ed25519"
	"slices"

	"loop.example/s02127/impl"
)

// The model of chapter 5: lists that are searched from end to end, and the
// library's signatures. It is slow and says the document's sentences one by one.

const modelNowMax = 1<<32 - 1

func cloneState(s impl.State) impl.State {
	return impl.State{
		Deny:  append([]int64{}, s.Deny...),
		Used:  append([]int64{}, s.Used...),
		Acked: s.Acked,
		Taps:  append([]impl.TapRec{}, s.Taps...),
	}
}

// sameState holds an empty list and nil for the same value.
func sameState(a, b impl.State) bool {
	return slices.Equal(a.Deny, b.Deny) && slices.Equal(a.Used, b.Used) && a.Acked == b.Acked && slices.Equal(a.Taps, b.Taps)
}

func modelAscending(list []int64) bool {
	for i, v := range list {
		if v < 0 || v > 255 || i > 0 && list[i-1] >= v {
			return false
		}
	}
	return true
}

func modelValidState(s impl.State) bool {
	if !modelAscending(s.Deny) || !modelAscending(s.Used) || len(s.Deny) > 16 {
		return false
	}
	// The three are held apart so that no sum wraps: Used has at most 256 here.
	if s.Acked < 0 || s.Acked > 256 || s.Acked+int64(len(s.Taps)) != int64(len(s.Used)) {
		return false
	}
	for i, tap := range s.Taps {
		if !slices.Contains(s.Used, tap.Serial) || tap.Now < 0 || tap.Now > modelNowMax {
			return false
		}
		for _, older := range s.Taps[:i] {
			if older.Serial == tap.Serial {
				return false
			}
		}
	}
	return true
}

func modelWith(list []int64, v int64) []int64 {
	more := append(append([]int64{}, list...), v)
	slices.Sort(more)
	return more
}

func modelWithout(list []int64, v int64) []int64 {
	less := []int64{}
	for _, x := range list {
		if x != v {
			less = append(less, x)
		}
	}
	return less
}

func modelTicket(b []byte) impl.Ticket {
	if len(b) != 72 || string(b[:2]) != "T1" {
		return impl.Ticket{}
	}
	expiry := int64(b[4]) + 256*int64(b[5]) + 65536*int64(b[6]) + 16777216*int64(b[7])
	return impl.Ticket{Ok: true, Serial: int64(b[2]) + 256*int64(b[3]), Expiry: expiry}
}

func modelTap(s impl.State, key []byte, op impl.Op) impl.StepRes {
	ticket := modelTicket(op.Ticket)
	code := int64(0)
	if op.Now < 0 || op.Now > modelNowMax {
		code = 10
	} else if !ticket.Ok {
		code = 2
	} else if ticket.Serial > 255 {
		code = 3
	} else if op.Now > ticket.Expiry {
		code = 4
	} else if slices.Contains(s.Deny, ticket.Serial) {
		code = 5
	} else if slices.Contains(s.Used, ticket.Serial) {
		code = 6
	} else if !ed25519.Verify(key, op.Ticket[:8], op.Ticket[8:]) {
		code = 7
	} else {
		code = 1
		s.Used = modelWith(s.Used, ticket.Serial)
		s.Taps = append(s.Taps, impl.TapRec{Serial: ticket.Serial, Now: op.Now})
	}
	return impl.StepRes{Code: code, State: s}
}

// modelStep's signatures are those of honest keys: there the library and the
// document agree.
func modelStep(given impl.State, key []byte, op impl.Op) impl.StepRes {
	s := cloneState(given)
	bad := impl.StepRes{Code: 10, State: cloneState(given)}
	if !modelValidState(s) || len(key) != 32 {
		return bad
	}
	noSerial := op.N < 0 || op.N > 255
	switch op.Kind {
	case 1:
		return modelTap(s, key, op)
	case 2:
		if noSerial {
			return bad
		}
		if !slices.Contains(s.Deny, op.N) {
			if len(s.Deny) == 16 {
				return bad
			}
			s.Deny = modelWith(s.Deny, op.N)
		}
	case 3:
		if noSerial {
			return bad
		}
		s.Deny = modelWithout(s.Deny, op.N)
	case 4:
		if op.N < s.Acked || op.N > s.Acked+int64(len(s.Taps)) {
			return bad
		}
		s.Taps = s.Taps[op.N-s.Acked:]
		s.Acked = op.N
	case 5:
	default:
		return bad
	}
	return impl.StepRes{Code: 9, State: s}
}

func modelApply(given impl.State, f impl.Frame) impl.ApplyRes {
	s := cloneState(given)
	a := int64(f.A)
	denied, used := slices.Contains(s.Deny, a), slices.Contains(s.Used, a)
	if !modelValidState(s) {
		return impl.ApplyRes{}
	}
	switch {
	case f.Kind == 1 && a < 256 && !used && !denied:
		s.Used = modelWith(s.Used, a)
		s.Taps = append(s.Taps, impl.TapRec{Serial: a, Now: int64(f.B)})
	case f.Kind == 2 && f.B == 1 && a < 256 && !denied && len(s.Deny) < 16:
		s.Deny = modelWith(s.Deny, a)
	case f.Kind == 2 && f.B == 0 && denied:
		s.Deny = modelWithout(s.Deny, a)
	case f.Kind == 3 && f.B == 0 && a <= s.Acked:
	case f.Kind == 3 && f.B == 0 && a <= s.Acked+int64(len(s.Taps)):
		s.Taps = s.Taps[a-s.Acked:]
		s.Acked = a
	default:
		return impl.ApplyRes{}
	}
	return impl.ApplyRes{Ok: true, State: s}
}
