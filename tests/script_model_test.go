package tests

import (
	"encoding/hex"
	"regexp"
	"strconv"
	"strings"

	"loop.example/s02127/impl"
)

// The model of scripts: each line of the chapter's list is a pattern.

const (
	numPattern = `(0|[1-9][0-9]{0,9})`
	hexPattern = `(-|(?:[0-9a-f][0-9a-f])+)`
)

var (
	formatLine  = regexp.MustCompile(`\Aformat ` + numPattern + ` ([0-9a-f]{64})\z`)
	powerLine   = regexp.MustCompile(`\Apower ` + numPattern + `\z`)
	tapLine     = regexp.MustCompile(`\Atap ` + hexPattern + ` ` + numPattern + `\z`)
	numberLine  = regexp.MustCompile(`\A(deny|allow|ack) ` + numPattern + `\z`)
	crashLine   = regexp.MustCompile(`\Acrash (-|[01]+) (-|` + numPattern + `) ` + numPattern + `( ` + numPattern + `)?\z`)
	modelWords  = strings.Fields("? admit format range expired denied used signature full ok bad lost corrupt")
	numberKinds = map[string]int64{"deny": 2, "allow": 3, "ack": 4}
)

type modelScript struct {
	has  bool
	gate impl.Gate
}

func modelNumber(field string) int64 {
	n, err := strconv.ParseInt(field, 10, 64)
	if err != nil {
		panic(err)
	}
	return n
}

func modelBytes(field string) []byte {
	if field == "-" {
		return nil
	}
	return hexText(field)
}

func (m *modelScript) take(r impl.GateRes) string {
	m.gate = r.Gate
	return modelWords[r.Code]
}

func (m *modelScript) line(line string) string {
	if f := formatLine.FindStringSubmatch(line); f != nil {
		r := modelFormat(modelNumber(f[1]), modelBytes(f[2]))
		if r.Code != 9 {
			return "bad"
		}
		m.has = true
		return m.take(r)
	}
	if !m.has {
		return "none"
	}
	if f := crashLine.FindStringSubmatch(line); f != nil && modelNumber(f[4]) <= 64 && (f[5] == "" || modelNumber(f[6]) <= 1000000) {
		return m.crash(f)
	}
	if m.gate.Dev.Dead {
		return "lost"
	}
	return m.gateLine(line)
}

func (m *modelScript) gateLine(line string) string {
	if f := powerLine.FindStringSubmatch(line); f != nil && modelNumber(f[1]) <= 1000000 {
		m.gate.Dev.Fuel = modelNumber(f[1])
		return "ok"
	}
	if f := tapLine.FindStringSubmatch(line); f != nil {
		return m.take(modelDo(m.gate, impl.Op{Kind: 1, Ticket: modelBytes(f[1]), Now: modelNumber(f[2])}))
	}
	if f := numberLine.FindStringSubmatch(line); f != nil {
		return m.take(modelDo(m.gate, impl.Op{Kind: numberKinds[f[1]], N: modelNumber(f[2])}))
	}
	if line == "compact" {
		return m.take(modelDo(m.gate, impl.Op{Kind: 5}))
	}
	if line != "pending" {
		return "bad"
	}
	for _, tap := range m.gate.Image.State.Taps {
		line += " " + strconv.Itoa(int(tap.Serial)) + "@" + strconv.Itoa(int(tap.Now))
	}
	return line
}

func (m *modelScript) crash(f []string) string {
	c := impl.Crash{Tear: -1, At: modelNumber(f[4])}
	for _, x := range strings.Trim(f[1], "-") {
		c.Keep = append(c.Keep, x == '1')
	}
	if f[2] != "-" {
		c.Tear = modelNumber(f[2])
	}
	d := modelCrash(m.gate.Dev, c)
	if f[5] != "" {
		d.Fuel = modelNumber(f[6])
	}
	r := modelRecover(d, m.gate.Key)
	m.has = r.Code != 12
	return m.take(r)
}

func modelRun(text string) string {
	if len(text) > 20000 {
		return "long\n"
	}
	lines := strings.Split(text, "\n")
	if lines[len(lines)-1] == "" {
		lines = lines[:len(lines)-1]
	}
	m := modelScript{}
	var answer strings.Builder
	for _, line := range lines {
		answer.WriteString(m.line(line) + "\n")
	}
	return answer.String()
}

func keyHex() string {
	return hex.EncodeToString(ticketKey())
}

// formatText is the line that makes a gate of n sectors.
func formatText(n int) string {
	return "format " + strconv.Itoa(n) + " " + keyHex()
}

func tapText(serial, expiry, now int64) string {
	return "tap " + hex.EncodeToString(ticketOf(serial, expiry)) + " " + strconv.Itoa(int(now))
}
