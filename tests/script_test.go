package tests

import (
	"encoding/hex"
	"math/rand"
	"strconv"
	"strings"
	"testing"

	"loop.example/s02127/impl"
)

// wantText also holds the answer against the model.
func wantText(t *testing.T, text, want string) {
	t.Helper()
	if got := string(impl.RunScript([]byte(text))); got != want {
		t.Errorf("%q is answered by %q, and not %q", text, got, want)
	}
	if model := modelRun(text); model != want {
		t.Errorf("%q: the model has %q", text, model)
	}
}

// wantLines runs rows of a line and its answer.
func wantLines(t *testing.T, rows ...[2]string) {
	t.Helper()
	text, want := "", ""
	for _, row := range rows {
		text += row[0] + "\n"
		want += row[1] + "\n"
	}
	wantText(t, text, want)
	// Without its newline, an empty last line is none at all.
	if rows[len(rows)-1][0] != "" {
		wantText(t, strings.TrimSuffix(text, "\n"), want)
	}
}

func opened(n int) [2]string {
	return [2]string{formatText(n), "ok"}
}

func TestTextsWithoutAGate(t *testing.T) {
	wantText(t, "", "")
	wantText(t, "\n", "none\n")
	wantText(t, "\n\n\n", "none\nnone\nnone\n")
	wantText(t, "pending", "none\n")
	wantText(t, "pending\n", "none\n")
	wantText(t, "\npending", "none\nnone\n")
	wantText(t, "pending\n\npending", "none\nnone\nnone\n")
	wantText(t, " ", "none\n")
	wantText(t, "\x00\xff\n\r\n", "none\nnone\n")
	if got := impl.RunScript(nil); len(got) != 0 {
		t.Errorf("nil: %q", got)
	}
}

func TestLastLineOfATextWithAGate(t *testing.T) {
	wantText(t, formatText(8)+"\n", "ok\n")
	wantText(t, formatText(8), "ok\n")
	wantText(t, formatText(8)+"\n\n", "ok\nbad\n")
	wantText(t, formatText(8)+"\n\n\npending", "ok\nbad\nbad\npending\n")
	wantText(t, formatText(8)+"\n ", "ok\nbad\n")
}

func TestLongTexts(t *testing.T) {
	format := formatText(8) + "\n"
	for _, n := range []int{19999, 20000} {
		wantText(t, strings.Repeat("\n", n), strings.Repeat("none\n", n))
		wantText(t, strings.Repeat("x", n), "none\n")
		rest := n - len(format)
		wantText(t, format+strings.Repeat("\n", rest), "ok\n"+strings.Repeat("bad\n", rest))
		wantText(t, format+strings.Repeat(" ", rest), "ok\nbad\n")
		digits := 2 * ((rest - 6) / 2)
		wantText(t, format+"tap "+strings.Repeat("0", digits)+" 5", "ok\nformat\n")
		wantText(t, format+"crash "+strings.Repeat("1", rest-10)+" - 0", "ok\nok\n")
	}
	for _, n := range []int{20001, 20002, 40000, 1 << 20} {
		wantText(t, strings.Repeat("\n", n), "long\n")
		wantText(t, strings.Repeat("x", n), "long\n")
		wantText(t, format+strings.Repeat("\n", n-len(format)), "long\n")
	}
}

func TestFormatLines(t *testing.T) {
	key := keyHex()
	capital := strings.Replace(key, "a", "A", 1)
	if capital == key {
		t.Fatal("this key has no letter to make a capital of")
	}
	good := map[string]string{
		"format 8 " + key: "ok", "format 9 " + key: "ok", "format 256 " + key: "ok", "format 100 " + strings.Repeat("0f", 32): "ok",
		"format 7 " + key: "bad", "format 257 " + key: "bad", "format 0 " + key: "bad", "format 1 " + key: "bad", "format 9999999999 " + key: "bad", "format 4294967304 " + key: "bad",
	}
	for line, want := range good {
		wantLines(t, [2]string{line, want})
		wantLines(t, opened(8), [2]string{line, want})
		wantLines(t, opened(8), [2]string{"power 0", "ok"}, [2]string{"deny 1", "lost"}, [2]string{line, want})
	}
	wrong := []string{
		"format", "format ", "format 8", "format 8 ", "format " + key, "format 8 -", "format 8 00", "format 8 " + key[:62], "format 8 " + key[:63], "format 8 " + key + "0",
		"format 8 " + key + "00", "format 8 " + capital, "format 8 " + key[:63] + "g", "format  8 " + key, "format 8  " + key, " format 8 " + key, "format 8 " + key + " ",
		"format 8 " + key + " 1", "format\t8 " + key, "format 8\t" + key, "format 08 " + key, "format +8 " + key, "format -8 " + key, "format 8. " + key, "format x " + key,
		"format - " + key, "format 10000000000 " + key, "format 00000000008 " + key, "Format 8 " + key, "formats 8 " + key, "format8 " + key, "format " + key + " 8", "format 8 " + key + "\r",
	}
	for _, line := range wrong {
		wantLines(t, [2]string{line, "none"})
		wantLines(t, opened(8), [2]string{line, "bad"}, [2]string{"pending", "pending"})
		wantLines(t, opened(8), [2]string{"power 0", "ok"}, [2]string{"deny 1", "lost"}, [2]string{line, "lost"})
	}
}

// A format that is bad leaves the gate; one that is good puts another there.
func TestFormatsOneAfterTheOther(t *testing.T) {
	wantLines(t,
		[2]string{formatText(7), "bad"}, [2]string{"pending", "none"}, opened(8),
		[2]string{tapText(1, 100, 50), "admit"}, [2]string{formatText(257), "bad"}, [2]string{"pending", "pending 1@50"},
		[2]string{"power 1", "ok"}, [2]string{formatText(0), "bad"}, [2]string{"deny 5", "lost"}, [2]string{formatText(0), "bad"}, [2]string{"pending", "lost"},
		opened(9), [2]string{"pending", "pending"}, [2]string{tapText(1, 100, 51), "admit"}, [2]string{"pending", "pending 1@51"},
		[2]string{"format 8 " + strings.Repeat("ff", 32), "ok"}, [2]string{tapText(1, 100, 51), "signature"}, [2]string{"pending", "pending"})
}

func TestWordsOfEveryCode(t *testing.T) {
	forgedTap := "tap " + hex.EncodeToString(forged(tapOp(4, 100, 50)).Ticket) + " 50"
	wantLines(t, opened(8),
		[2]string{tapText(1, 100, 50), "admit"}, [2]string{"tap - 50", "format"}, [2]string{"tap 00 50", "format"}, [2]string{tapText(256, 100, 50), "range"},
		[2]string{tapText(2, 100, 100), "admit"}, [2]string{tapText(3, 100, 101), "expired"}, [2]string{"deny 3", "ok"}, [2]string{tapText(3, 100, 50), "denied"},
		[2]string{tapText(1, 100, 50), "used"}, [2]string{forgedTap, "signature"}, [2]string{"pending", "pending 1@50 2@100"}, [2]string{"ack 1", "ok"},
		[2]string{"allow 3", "full"}, [2]string{"ack 2", "full"}, [2]string{"allow 4", "ok"}, [2]string{"deny 3", "ok"}, [2]string{"ack 0", "bad"}, [2]string{"ack 3", "bad"},
		[2]string{"deny 256", "bad"}, [2]string{"allow 256", "bad"}, [2]string{"deny 9999999999", "bad"}, [2]string{tapText(4, 100, 4294967296), "bad"}, [2]string{"tap - 9999999999", "bad"},
		[2]string{"pending", "pending 2@100"}, [2]string{"compact", "ok"}, [2]string{"allow 3", "ok"}, [2]string{tapText(3, 100, 50), "full"},
		[2]string{"compact", "ok"}, [2]string{tapText(3, 100, 50), "full"}, [2]string{"pending", "pending 2@100"},
		[2]string{"power 0", "ok"}, [2]string{"compact", "ok"}, [2]string{tapText(3, 100, 50), "full"}, [2]string{tapText(2, 100, 50), "used"})
	wantLines(t, opened(9), [2]string{tapText(255, modelNowMax, modelNowMax), "admit"}, [2]string{tapText(0, 0, 0), "admit"}, [2]string{"pending", "pending 255@4294967295 0@0"},
		[2]string{"ack 2", "ok"}, [2]string{"pending", "pending"}, [2]string{"power 3", "ok"}, [2]string{"compact", "lost"})
}

// numbersThatAreWrong are no NUM.
func numbersThatAreWrong() []string {
	return []string{"", "00", "01", "007", "0000000001", "12345678901", "10000000000", "00000000001", "-1", "+1", "-", "1.0", "0x1", "1a", "a1", "a", "1_0", "1,0", "1e1", "\u0663", "\u00b2", "1\t", "\t1", "1\r", "1 ", " 1", "1 1", "/", ":"}
}

// Each field that is a NUM, in a line that is otherwise good.
func TestNumbersOfLines(t *testing.T) {
	lines := map[string]string{
		"power #": "ok", "deny #": "ok", "allow #": "ok", "ack #": "ok", "tap - #": "format",
		"crash - # 0": "ok", "crash - - #": "ok", "crash - - 0 #": "ok", "crash 01 3 # 4": "ok", "crash 1 # 4 5": "ok",
	}
	for line, good := range lines {
		wantLines(t, opened(8), [2]string{strings.Replace(line, "#", "0", 1), good})
		for _, wrong := range numbersThatAreWrong() {
			if wrong == "-" && strings.Contains(line, "# 0") || wrong == "-" && strings.Contains(line, "# 4 5") {
				continue // a TEAR may be "-"
			}
			if wrong == "1 1" && strings.HasSuffix(line, "- #") && strings.HasPrefix(line, "crash") {
				continue // an AT and a K
			}
			if wrong == "1 1" && line == "crash - # 0" {
				continue // a TEAR, an AT and a K
			}
			wantLines(t, opened(8), [2]string{strings.Replace(line, "#", wrong, 1), "bad"}, [2]string{"pending", "pending"})
		}
	}
	wantLines(t, opened(8), [2]string{"crash - 1 1 0", "ok"}, [2]string{"crash - - 1 1", "ok"}, [2]string{"crash - - 1", "ok"})
	for line, want := range map[string]string{
		"power 1000000": "ok", "power 1000001": "bad", "power 9999999999": "bad", "crash - - 64": "ok", "crash - - 65": "bad", "crash - - 9999999999": "bad",
		"crash - - 0 1000000": "ok", "crash - - 0 1000001": "bad", "crash - 9999999999 64": "ok", "crash - 10000000000 64": "bad", "tap - 4294967295": "format", "tap - 4294967296": "bad",
		"deny 255": "ok", "deny 256": "bad", "allow 255": "ok", "allow 256": "bad", "ack 1": "bad", "ack 9999999999": "bad", "deny 4294967296": "bad",
	} {
		wantLines(t, opened(8), [2]string{line, want})
	}
}

func TestTextsOfTaps(t *testing.T) {
	good := hex.EncodeToString(ticketOf(1, 100))
	for field, want := range map[string]string{
		good: "admit", good[:142]: "format", good + "00": "format", "-": "format", "00": "format", "0f": "format", "ff": "format",
		"": "bad", "0": "bad", "000": "bad", good[:143]: "bad", good + "0": "bad", strings.ToUpper(good): "bad", "0A": "bad", "A0": "bad", "0g": "bad", "g0": "bad",
		"--": "bad", "-0": "bad", "0-": "bad", "0x00": "bad", "0/": "bad", "0:": "bad", "0`": "bad", "\u00e9": "bad", "0\x00": "bad", "00 00": "bad",
	} {
		wantLines(t, opened(8), [2]string{"tap " + field + " 50", want})
	}
	for i := range 144 {
		for _, x := range []string{"G", "g", " ", "A", "-", "\xff"} {
			wantLines(t, opened(8), [2]string{"tap " + good[:i] + x + good[i+1:] + " 50", "bad"})
		}
	}
}

func TestKeepsAndTears(t *testing.T) {
	for line, want := range map[string]string{
		"crash 0 - 0": "ok", "crash 1 - 0": "ok", "crash 0101010101 - 0": "ok", "crash - 0 64": "ok",
		"crash 2 - 0": "bad", "crash 012 - 0": "bad", "crash 0- - 0": "bad", "crash -- - 0": "bad", "crash  - 0": "bad", "crash a - 0": "bad", "crash 1a1 - 0": "bad", "crash \u0661 - 0": "bad",
		"crash - -- 0": "bad", "crash - -1 0": "bad", "crash - - -": "bad", "crash - - 0 -": "bad", "crash -  0": "bad", "crash 1,0 - 0": "bad",
	} {
		wantLines(t, opened(8), [2]string{line, want})
		if want == "ok" {
			wantLines(t, opened(8), [2]string{"power 1", "ok"}, [2]string{"deny 1", "lost"}, [2]string{line, want})
		} else {
			wantLines(t, opened(8), [2]string{"power 1", "ok"}, [2]string{"deny 1", "lost"}, [2]string{line, "lost"})
		}
		wantLines(t, [2]string{line, "none"})
	}
}

// goodLines are one of each word but format, with the answer of a fresh gate.
func goodLines() map[string]string {
	return map[string]string{
		"power 5": "ok", "tap - 5": "format", tapText(1, 100, 50): "admit", "deny 1": "ok", "allow 1": "ok", "ack 0": "ok", "compact": "ok", "pending": "pending", "crash - - 0": "ok", "crash 1 0 5 4": "ok",
	}
}

// badLines are made of good ones by a small change each.
func badLines() []string {
	list := []string{"", " ", "  ", "-", "0", "nothing", "ok", "lost", "none", "recover", "power", "tap", "deny", "allow", "ack", "crash", "tap -", "crash -", "crash - -", "compact 1", "pending 1", "compact -", "crash - - 0 1 1"}
	for line := range goodLines() {
		word, rest, _ := strings.Cut(line, " ")
		list = append(list, line+" ", " "+line, line+"\t", "\t"+line, line+"\r", line+" x", line+"\x00", "x"+line)
		list = append(list, strings.ToUpper(word)+" "+rest, word[1:]+" "+rest, word+word+" "+rest, "ta\xff "+rest, word+" ")
		list = append(list, word+"  "+rest, word+"\t"+rest, word+"_"+rest)
		if fields := strings.Fields(rest); len(fields) > 0 && line != "crash 1 0 5 4" {
			list = append(list, word+" "+strings.Join(fields[1:], " "), word+" "+strings.Join(fields[:len(fields)-1], " "))
		}
	}
	return list
}

func TestLinesWithoutAGateOrWithADeadDevice(t *testing.T) {
	gone := [][2]string{opened(8), {"power 1", "ok"}, {tapText(9, 100, 5), "lost"}}
	for line, want := range goodLines() {
		wantLines(t, [2]string{line, "none"})
		wantLines(t, opened(8), [2]string{line, want})
		if strings.HasPrefix(line, "crash") {
			wantLines(t, append(gone, [2]string{line, "ok"}, [2]string{"deny 9", "ok"})...)
			continue
		}
		wantLines(t, append(gone, [2]string{line, "lost"}, [2]string{"crash 1 - 0", "ok"}, [2]string{"pending", "pending 9@5"})...)
		wantLines(t, append(gone, [2]string{line, "lost"}, opened(8), [2]string{line, want})...)
	}
	for _, line := range badLines() {
		wantLines(t, [2]string{line, "none"})
		wantLines(t, opened(8), [2]string{line, "bad"}, [2]string{"pending", "pending"})
		wantLines(t, append(gone, [2]string{line, "lost"}, [2]string{"crash 1 - 0", "ok"}, [2]string{"pending", "pending 9@5"})...)
	}
}

func TestPowerOfScripts(t *testing.T) {
	tap := func(serial int64) string { return tapText(serial, 100, 50) }
	wantLines(t, opened(12), [2]string{"power 4", "ok"}, [2]string{tap(1), "admit"}, [2]string{tap(1), "used"}, [2]string{tap(2), "admit"}, [2]string{tap(3), "lost"}, [2]string{"power 9", "lost"}, [2]string{"crash - - 0", "ok"},
		[2]string{"pending", "pending 1@50 2@50"}, [2]string{tap(3), "admit"}, [2]string{tap(4), "admit"}, [2]string{tap(5), "admit"})
	wantLines(t, opened(12), [2]string{"power 0", "ok"}, [2]string{"power 2", "ok"}, [2]string{tap(1), "admit"}, [2]string{"power 3", "ok"}, [2]string{tap(2), "admit"}, [2]string{tap(3), "lost"}, [2]string{"crash 1 - 0", "ok"}, [2]string{"pending", "pending 1@50 2@50 3@50"})
	for fuel, kept := range []string{"pending", "pending 1@50"} {
		wantLines(t, opened(12), [2]string{"power " + strconv.Itoa(fuel), "ok"}, [2]string{tap(1), "lost"}, [2]string{"crash 1 - 0", "ok"}, [2]string{"pending", kept})
		wantLines(t, opened(12), [2]string{"power " + strconv.Itoa(fuel), "ok"}, [2]string{tap(1), "lost"}, [2]string{"crash 0 - 0", "ok"}, [2]string{"pending", "pending"})
		wantLines(t, opened(12), [2]string{"power " + strconv.Itoa(fuel), "ok"}, [2]string{tap(1), "lost"}, [2]string{"crash - - 0", "ok"}, [2]string{"pending", "pending"})
		wantLines(t, opened(12), [2]string{"power " + strconv.Itoa(fuel), "ok"}, [2]string{tap(1), "lost"}, [2]string{"crash 1111 - 0", "ok"}, [2]string{"pending", kept})
		wantLines(t, opened(12), [2]string{"power " + strconv.Itoa(fuel), "ok"}, [2]string{tap(1), "lost"}, [2]string{"crash 0111 - 0", "ok"}, [2]string{"pending", "pending"})
		wantLines(t, opened(12), [2]string{"power " + strconv.Itoa(fuel), "ok"}, [2]string{tap(1), "lost"}, [2]string{"crash 1 1 0", "ok"}, [2]string{"pending", kept})
		for at := range 65 {
			want := "pending"
			if at >= 61 {
				want = kept
			}
			wantLines(t, opened(12), [2]string{"power " + strconv.Itoa(fuel), "ok"}, [2]string{tap(1), "lost"}, [2]string{"crash 1 0 " + strconv.Itoa(at), "ok"}, [2]string{"pending", want}, [2]string{tap(2), "admit"})
		}
	}
}

// The fuel of a crash counts in the compaction of the recovery, and what is
// left of it behind.
func TestFuelOfACrash(t *testing.T) {
	tap := func(serial int64) string { return tapText(serial, 100, 50) }
	start := [][2]string{opened(8), {tap(1), "admit"}, {tap(2), "admit"}, {"ack 1", "ok"}}
	for fuel := range 4 {
		crash := "crash - - 0 " + strconv.Itoa(fuel)
		wantLines(t, append(start, [2]string{crash, "lost"}, [2]string{"pending", "lost"}, [2]string{crash, "lost"}, [2]string{"crash 1 - 0 4", "ok"}, [2]string{"pending", "pending 2@50"}, [2]string{tap(1), "used"})...)
		wantLines(t, append(start, [2]string{crash, "lost"}, [2]string{"crash 1 0 30", "ok"}, [2]string{"pending", "pending 2@50"}, [2]string{tap(3), "admit"}, [2]string{tap(2), "used"})...)
	}
	// The second sector got there whole: this recovery has nothing to compact.
	wantLines(t, append(start, [2]string{"crash - - 0 3", "lost"}, [2]string{"crash 1 - 0 0", "ok"}, [2]string{"compact", "ok"}, [2]string{tap(1), "used"}, [2]string{tap(4), "lost"})...)
	wantLines(t, append(start, [2]string{"crash - - 0 4", "ok"}, [2]string{tap(1), "used"}, [2]string{tap(3), "lost"})...)
	wantLines(t, append(start, [2]string{"crash - - 0 6", "ok"}, [2]string{tap(3), "admit"}, [2]string{"compact", "ok"}, [2]string{tap(4), "lost"})...)
	wantLines(t, append(start, [2]string{"power 0", "ok"}, [2]string{"crash - - 0", "ok"}, [2]string{tap(3), "admit"}, [2]string{tap(4), "admit"}, [2]string{tap(5), "full"})...)
	wantLines(t, opened(8), [2]string{"crash - - 0 0", "ok"}, [2]string{tap(1), "lost"}, [2]string{"crash - - 0 2", "ok"}, [2]string{tap(1), "admit"}, [2]string{"deny 1", "lost"})
}

// partOfChance is a field, good or not.
func partOfChance(r *rand.Rand) string {
	parts := []string{"0", "1", "2", "3", "4", "5", "8", "9", "64", "65", "255", "256", "-", "-", "1", "01", "11", "10", "00", "", "x", "1000000", "1000001", "9999999999", "10000000000", "4294967295", keyHex(), hex.EncodeToString(ticketsOfChance[2+r.Intn(24)])}
	return parts[r.Intn(len(parts))]
}

func lineOfChance(r *rand.Rand) string {
	ticket := hex.EncodeToString(ticketsOfChance[r.Intn(len(ticketsOfChance))])
	if ticket == "" {
		ticket = "-"
	}
	number := func(n int) string { return strconv.Itoa(r.Intn(n)) }
	crash := "crash " + []string{"-", "1", "0", "01", "1"}[r.Intn(5)] + " " + []string{"-", "0", "1"}[r.Intn(3)] + " " + number(66)
	lines := []string{
		"tap " + ticket + " " + number(9), "tap " + ticket + " " + number(9), "tap " + ticket + " " + number(9), "deny " + number(20), "allow " + number(20), "ack " + number(6), "ack " + number(20), "compact", "pending", "pending",
		"power " + number(9), crash, crash + " " + number(8), crash + " 9",
	}
	line := lines[r.Intn(len(lines))]
	switch r.Intn(14) {
	case 0:
		at := r.Intn(len(line))
		line = line[:at] + string(rune(r.Intn(130))) + line[at+1:]
	case 1:
		at := r.Intn(len(line))
		line = line[:at] + line[at+1:]
	case 2:
		fields := strings.Split(line, " ")
		fields[r.Intn(len(fields))] = partOfChance(r)
		line = strings.Join(fields, " ")
	case 3:
		line += " " + partOfChance(r)
	}
	return line
}

// Promise 17, and that each answer is the model's.
func TestScriptsOfChance(t *testing.T) {
	r := rand.New(rand.NewSource(76))
	words := map[string]int{}
	for range 700 {
		text := ""
		if r.Intn(20) > 0 {
			text = formatText(8+r.Intn(6)) + "\n"
		}
		for range r.Intn(60) {
			text += lineOfChance(r) + "\n"
		}
		if r.Intn(2) == 0 {
			text = strings.TrimSuffix(text, "\n")
		}
		wantText(t, text, modelRun(text))
		for _, line := range strings.Split(modelRun(text), "\n") {
			word, _, _ := strings.Cut(line, " ")
			words[word]++
		}
		if t.Failed() {
			return
		}
	}
	for _, word := range strings.Fields("admit format range expired denied used signature full ok bad lost none pending") {
		if words[word] < 40 {
			t.Errorf("%s: %d times only: %v", word, words[word], words)
		}
	}
	// A gate that a script formats keeps its snap through every crash.
	if words["corrupt"] > 0 {
		t.Errorf("corrupt: %v", words)
	}
}

// Promise 17 for texts of any bytes.
func TestScriptsOfNoise(t *testing.T) {
	r := rand.New(rand.NewSource(77))
	letters := []byte("\n\n\n  0123456789abcdefformatcrashtapdenyallowackcompactpendingpower-\t\r\x00\xff")
	for i := range 1500 {
		text := randomText(r, r.Intn(300))
		if i%2 == 0 {
			for j := range text {
				text[j] = letters[r.Intn(len(letters))]
			}
		}
		if i%3 == 0 {
			text = append([]byte(formatText(8)+"\n"), text...)
		}
		lines := strings.Count(string(text), "\n")
		if len(text) > 0 && text[len(text)-1] != '\n' {
			lines++
		}
		got := string(impl.RunScript(text))
		if strings.Count(got, "\n") != lines || got != "" && !strings.HasSuffix(got, "\n") || got != modelRun(string(text)) {
			t.Fatalf("%q: %q", text, got)
		}
	}
	for x := range 256 {
		line := string([]byte{byte(x)})
		if x != '\n' {
			wantLines(t, [2]string{line, "none"})
			wantLines(t, opened(8), [2]string{line, "bad"}, [2]string{"pending" + line, "bad"})
		}
	}
}

// No crash spoils the snap of a gate that a script formats, not even one in a
// recovery: no script comes to "corrupt", and each one ends with the gate there.
func TestNoCrashOfAScriptIsCorrupt(t *testing.T) {
	row := formatText(8) + "\npower FUEL\n" + tapText(1, 100, 50) + "\ndeny 3\nack 1\ncompact\n" + tapText(2, 100, 51) + "\nallow 3\nack 2\n"
	for fuel := range 17 {
		for at := range 65 {
			crash := "crash 1 0 " + strconv.Itoa(at)
			text := strings.Replace(row, "FUEL", strconv.Itoa(fuel), 1)
			text += crash + " " + strconv.Itoa((fuel+at)%5) + "\n" + crash + " 3\n" + crash + "\npending\ndeny 9\n" + tapText(1, 100, 50)
			answer := modelRun(text)
			wantText(t, text, answer)
			if strings.Contains(answer, "corrupt") || strings.Count(answer, "lost") == 0 && fuel < 16 || strings.Contains(answer[strings.Index(answer, "pending"):], "lost") {
				t.Fatalf("%q: %q", text, answer)
			}
		}
	}
}
