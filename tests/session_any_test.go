package tests

import (
	"encoding/hex"
	"fmt"
	"math/rand"
	"regexp"
	"slices"
	"strconv"
	"strings"
	"testing"

	"loop.example/steerage/impl"
)

// clerk is chapter 8, written down a second time: lines are told apart as a whole, and a host is apart from what it is made of.
type clerk struct {
	list   []impl.Ins
	tables []impl.Table
	host   impl.Host
	made   bool
	seen   map[string]int
}

var (
	tableLine  = regexp.MustCompile(`^table (row|hash) (0|[1-9][0-9]{0,9}) (0|[1-9][0-9]{0,9})$`)
	socketLine = regexp.MustCompile(`^(close|work|drain|read) (0|[1-9][0-9]{0,9})$`)
	setLine    = regexp.MustCompile(`^set (0|[1-9][0-9]{0,9}) (0|[1-9][0-9]{0,9})$`)
	comeLine   = regexp.MustCompile(`^come (0|[1-9][0-9]{0,9}) ((?:[0-9a-f][0-9a-f])+)$`)
)

func okIf(ok bool) string {
	return map[bool]string{true: "ok", false: "no"}[ok]
}

func (c *clerk) answer(line string) string {
	kind, answer := c.told(line)
	c.seen[kind+" "+map[bool]string{true: answer, false: "told"}[answer == "ok" || answer == "no" || answer == "what" || kind == "work"]]++
	return answer
}

// told is what kind of line it is, and its answer.
func (c *clerk) told(line string) (string, string) {
	if x, ok := impl.LineGet(line); ok {
		fits := !c.made && len(c.list) < 48
		if fits {
			c.list = append(c.list, x)
		}
		return "op", okIf(fits)
	}
	if m := tableLine.FindStringSubmatch(line); m != nil {
		return "table", okIf(c.table(m[1], m[2], m[3]))
	}
	switch line {
	case "form":
		return line, strconv.Itoa(impl.ProgForm(c.list))
	case "proof":
		p := impl.ProofOf(c.list, c.tables)
		return line, fmt.Sprintf("code %d at %d most %d", p.Code, p.At, p.Most)
	case "host":
		h, ok := impl.HostNew(c.list, c.tables)
		if ok = ok && !c.made; ok {
			c.host, c.made = h, true
		}
		return line, okIf(ok)
	}
	if !c.made {
		return "ahead of a host", "what"
	}
	return c.toldOfHost(line)
}

func (c *clerk) table(kind string, size string, room string) bool {
	sizeOf, _ := strconv.Atoi(size)
	roomOf, _ := strconv.Atoi(room)
	m := impl.TableNew(map[string]int{"row": 1, "hash": 2}[kind], sizeOf, roomOf)
	if c.made || len(c.tables) == 3 || m.Kind == 0 {
		return false
	}
	c.tables = append(c.tables, m)
	return true
}

func (c *clerk) toldOfHost(line string) (string, string) {
	switch line {
	case "open":
		x, id := impl.HostOpen(c.host)
		c.host = x
		return line, strconv.Itoa(id)
	case "dropped":
		return line, strconv.Itoa(c.host.Dropped)
	}
	if m := setLine.FindStringSubmatch(line); m != nil {
		id, _ := strconv.Atoi(m[1])
		key, _ := strconv.Atoi(m[2])
		x, ok := impl.HostSet(c.host, key, id)
		c.host = x
		return "set", okIf(ok)
	}
	if m := comeLine.FindStringSubmatch(line); m != nil {
		id, _ := strconv.Atoi(m[1])
		bytes, _ := hex.DecodeString(m[2])
		x, ok := impl.HostCome(c.host, id, string(bytes))
		c.host = x
		return "come", okIf(ok)
	}
	if m := socketLine.FindStringSubmatch(line); m != nil {
		id, _ := strconv.Atoi(m[2])
		return m[1], c.toldOfSocket(m[1], id)
	}
	return "others", "what"
}

func (c *clerk) toldOfSocket(word string, id int) (answer string) {
	var n int
	var ok bool
	switch word {
	case "close":
		c.host, ok = impl.HostClose(c.host, id)
		return okIf(ok)
	case "work":
		c.host, n = impl.HostWork(c.host, id)
		return strconv.Itoa(n)
	case "drain":
		c.host, n = impl.HostDrain(c.host, id)
		return strconv.Itoa(n)
	}
	c.host, answer = impl.HostRead(c.host, id)
	return hex.EncodeToString([]byte(answer))
}

// sessionPrograms are such as are let in with at most three tables of any kind, and some that are not.
func sessionPrograms() []string {
	const look = "mov r9 r1; mov r1 0; load1 r2 r9 1; call look; same r0 0 3; load1 r6 r0 0; add r6 1; store1 r0 0 r6; load1 r1 r9 1; call send; load1 r0 r9 0; exit"
	return []string{
		keeping, keeping, steered, steered, steered, look, look, counted,
		"mov r9 r1; mov r1 0; load1 r2 r9 1; load1 r3 r9 2; call put; mov r1 r0; call send; load1 r0 r9 0; exit",
		"mov r9 r1; load1 r1 r9 1; call find; mov r6 1; same r0 0 3; mov r1 r0; call drop; mov r6 2; load1 r1 r9 1; call send; mov r0 r6; exit",
		"load1 r0 r1 12; exit", "exit", "mov r0 1", "go 5; exit",
	}
}

// word is a number, most often that of a socket.
func (d drawer) word() string {
	if d.draw.Intn(12) == 0 {
		return d.one(wrongNumbers())
	}
	if d.draw.Intn(6) == 0 {
		return d.one([]string{"0", "1", "7", "4294967295", "4294967296", "9999999999"})
	}
	return strconv.Itoa(d.draw.Intn(5)/2*1000 + 1 + d.draw.Intn(6)/5)
}

func (d drawer) hexWord() string {
	if d.draw.Intn(10) == 0 {
		return d.one(wrongBytes())
	}
	return hex.EncodeToString([]byte(d.stream(40)))
}

func (d drawer) hostLine() string {
	switch d.draw.Intn(24) {
	case 0, 1:
		return "open"
	case 2:
		return "close " + d.word()
	case 3, 4:
		return "set " + d.word() + " " + strconv.Itoa(d.draw.Intn(9))
	case 5:
		return "set " + d.word() + " " + d.word()
	case 6, 7, 8, 9:
		return "come " + d.word() + " " + d.hexWord()
	case 10:
		return "drain " + d.word()
	case 11, 12:
		return "read " + d.word()
	}
	return "work " + d.word()
}

func (d drawer) anyLine() string {
	switch d.draw.Intn(30) {
	case 0:
		return "form"
	case 1:
		return "proof"
	case 2:
		return "dropped"
	case 3:
		return d.one(exampleOps())
	case 4:
		return "table " + d.one([]string{"row", "hash"}) + " " + d.word() + " " + d.word()
	case 5:
		return "host"
	case 6:
		return d.one(misspelt(d.one(append(hostLines(), "form", "proof", "host", "exit", "mov r0 1", "table row 1 1"))))
	case 7:
		return d.bytes(d.draw.Intn(12))
	}
	return d.hostLine()
}

// session is lines that make a host, most often, and do things to it.
func (d drawer) session() []string {
	var lines []string
	for range d.draw.Intn(5) {
		lines = append(lines, "table "+d.one([]string{"row", "hash"})+" "+strconv.Itoa(d.draw.Intn(10))+" "+strconv.Itoa(d.draw.Intn(10)))
	}
	for _, line := range strings.Split(d.one(sessionPrograms()), "; ") {
		lines = append(lines, line)
		if d.draw.Intn(40) == 0 {
			lines = append(lines, d.anyLine())
		}
	}
	lines = append(lines, "host", "open", "open")
	for range d.draw.Intn(70) {
		lines = append(lines, d.anyLine())
	}
	return lines
}

func clerkSays(lines []string, seen map[string]int) string {
	c := &clerk{seen: seen}
	out := ""
	for _, line := range lines[:min(len(lines), 80)] {
		out += c.answer(line) + "\n"
	}
	return out
}

func TestSessionIsWhatTheClerkSays(t *testing.T) {
	d := drawer{rand.New(rand.NewSource(30))}
	seen := map[string]int{}
	for range 3000 {
		lines := d.session()
		if got, want := impl.Session(lines), clerkSays(lines, seen); got != want {
			t.Fatalf("%q is answered %q, not %q", lines, got, want)
		}
	}
	for _, what := range []string{
		"op ok", "op no", "table ok", "table no", "form told", "proof told", "host ok", "host no", "ahead of a host what", "open told", "dropped told", "close ok", "close no", "set ok", "set no",
		"come ok", "come no", "work 0", "work 1", "work 2", "work 3", "work 4", "work 5", "drain told", "read told", "others what",
	} {
		if seen[what] < 30 {
			t.Errorf("%s was seen %d times: %v", what, seen[what], seen)
		}
	}
}

func TestP48WhatWasToldFirstIsToldFirst(t *testing.T) {
	d := drawer{rand.New(rand.NewSource(31))}
	longer := 0
	for range 500 {
		lines := d.session()
		for range d.draw.Intn(40) {
			lines = append(lines, d.anyLine())
		}
		whole := impl.Session(lines)
		if strings.Count(whole, "\n") != min(len(lines), 80) {
			t.Fatalf("%d lines: %q", len(lines), whole)
		}
		for range 8 {
			first := d.draw.Intn(len(lines) + 1)
			got := impl.Session(lines[:first])
			if !strings.HasPrefix(whole, got) || strings.Count(got, "\n") != min(first, 80) || first >= 80 && got != whole {
				t.Fatalf("%q is answered %q, the first %d of them %q", lines, whole, first, got)
			}
		}
		if len(lines) > 80 {
			longer++
		}
	}
	if !within(longer, 50, 450) {
		t.Error("there were more lines than can be", longer, "times")
	}
}

func TestP49WhoAsksChangesNothingWhateverWasDone(t *testing.T) {
	d := drawer{rand.New(rand.NewSource(32))}
	ask := []string{"proof", "form", "dropped", "proof"}
	for range 1000 {
		lines := d.session()
		lines = lines[:min(len(lines), 72)]
		told := strings.Split(impl.Session(slices.Concat(lines, ask)), "\n")[len(lines):]
		if told[0] != told[3] || !strings.HasPrefix(told[0], "code ") {
			t.Fatalf("%q: asked it is %q", lines, told)
		}
		// And what comes behind is answered as if nobody had asked.
		behind := []string{d.anyLine(), "host", "open", d.anyLine()}
		if asked, plain := impl.Session(slices.Concat(lines, ask, behind)), impl.Session(slices.Concat(lines, behind)); tail(asked, 4) != tail(plain, 4) {
			t.Fatalf("%q, and %q: once asked %q, else %q", lines, behind, tail(asked, 4), tail(plain, 4))
		}
	}
}

func tail(s string, count int) string {
	lines := strings.Split(s, "\n")
	return strings.Join(lines[len(lines)-1-count:], "\n")
}

func TestSessionOfAnyText(t *testing.T) {
	d := drawer{rand.New(rand.NewSource(33))}
	for range 300 {
		var lines []string
		for range d.draw.Intn(100) {
			line := d.anyLine()
			if at := d.draw.Intn(len(line) + 1); d.draw.Intn(2) == 0 {
				line = line[:at] + d.bytes(d.draw.Intn(3)) + line[at:]
			}
			lines = append(lines, line)
		}
		if got, want := impl.Session(lines), clerkSays(lines, map[string]int{}); got != want {
			t.Fatalf("%q is answered %q, not %q", lines, got, want)
		}
	}
	long := strings.Repeat("come 1 00 ", 100000)
	if got := impl.Session([]string{long, strings.Repeat(" ", 100000), strings.Repeat("1", 100000), "table row " + strings.Repeat("9", 100000) + " 1", "come 1 " + strings.Repeat("00", 100000)}); got != strings.Repeat("what\n", 5) {
		t.Errorf("long lines are answered %q", got)
	}
}
