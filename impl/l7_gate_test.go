package impl

import (
	"strings"
	"testing"
)

// No crash spoils the snap of a gate that a script formats, so that no script
// comes to "corrupt". Here a device is spoilt by other means, which only the
// package itself can do; all other tests stand in ../tests.

func wantAnswer(t *testing.T, s *script, line, want string) {
	t.Helper()
	if got := s.answer(orderOf(scriptWords(), line)); got != want {
		t.Errorf("%q is answered by %q, and not %q", line, got, want)
	}
}

func formatLine() string {
	return "format 8 " + strings.Repeat("0f", keyBytes)
}

// wantCorrupt wants no gate to be there after the crash, until the next format.
func wantCorrupt(t *testing.T, s *script, crash string) {
	t.Helper()
	wantAnswer(t, s, crash, "corrupt")
	for _, line := range []string{"pending", crash, "power 5", "deny 1", "compact", "", "nothing"} {
		wantAnswer(t, s, line, "none")
	}
	wantAnswer(t, s, formatLine(), "ok")
	wantAnswer(t, s, "pending", "pending")
}

func TestCrashOfASpoiltDevice(t *testing.T) {
	for _, crash := range []string{"crash - - 0", "crash 1 0 30", "crash - - 0 0", "crash - - 0 9"} {
		var s script
		wantAnswer(t, &s, formatLine(), "ok")
		s.gate.Dev.Disk[30] ^= 1
		wantCorrupt(t, &s, crash)
	}
}

func TestCrashOfASpoiltDeadDevice(t *testing.T) {
	for _, power := range []string{"power 0", "power 1"} {
		var s script
		wantAnswer(t, &s, formatLine(), "ok")
		wantAnswer(t, &s, power, "ok")
		wantAnswer(t, &s, "deny 1", "lost")
		s.gate.Dev.Disk[30] ^= 1
		wantAnswer(t, &s, "pending", "lost")
		wantCorrupt(t, &s, "crash 1 - 0")
	}
}
