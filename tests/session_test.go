package tests

import (
	"slices"
	"strconv"
	"strings"
	"testing"

	"loop.example/steerage/impl"
)

// wantTalk holds a session against what each of its lines is answered: `line => answer`.
func wantTalk(t *testing.T, what string, talk ...string) {
	t.Helper()
	var lines, want []string
	for _, s := range talk {
		line, answer, ok := strings.Cut(s, " => ")
		if !ok {
			t.Fatalf("%s: %q has no answer", what, s)
		}
		lines, want = append(lines, line), append(want, answer)
	}
	got := strings.Split(impl.Session(lines), "\n")
	if len(got) != len(want)+1 || got[len(want)] != "" {
		t.Fatalf("%s: %d lines have answers %q", what, len(lines), got)
	}
	for i := range want {
		if got[i] != want[i] {
			t.Errorf("%s: line %d, %q, is answered %q, not %q", what, i+1, lines[i], got[i], want[i])
		}
	}
}

// all is each of some lines with the same answer.
func all(lines []string, answer string) []string {
	var out []string
	for _, s := range lines {
		out = append(out, s+" => "+answer)
	}
	return out
}

func times(line string, count int) []string {
	return slices.Repeat([]string{line}, count)
}

// taken is ops that are taken, each.
func taken(lines string) []string {
	return all(strings.Split(lines, "; "), "ok")
}

// hosted is a talk that makes a host of a program and opens so many sockets.
func hosted(lines string, count int) []string {
	talk := append(taken(lines), "host => ok")
	for at := range count {
		talk = append(talk, "open => "+strconv.Itoa(at*1000+1))
	}
	return talk
}

const keeping = "mov r0 1; exit"

func TestSessionLimit(t *testing.T) {
	if impl.SessionMax != 80 {
		t.Error("SessionMax is", impl.SessionMax)
	}
}

func TestSessionOfTheDocument(t *testing.T) {
	wantTalk(t, "example",
		"table row 1 4 => ok", "load1 r6 r1 0 => ok", "mov r1 r6 => ok", "call send => ok", "mov r0 2 => ok", "less r6 200 1 => ok", "mov r0 0 => ok",
		"form => 2", "exit => ok", "form => 0", "proof => code 0 at 0 most 7", "open => what", "host => ok", "open => 1", "open => 1001",
		"set 1001 7 => ok", "set 9 7 => no", "come 1 0207ff01c8 => ok", "work 1 => 0", "work 1 => 5", "work 1 => 2", "read 1001 => 07ff", "read 1001 => ",
		"dropped => 1", "come 1 0d => ok", "drain 1 => 0", "close 1 => no", "open => 2", "exit => no", "table hash 1 1 => no", "come 2 0 => what", "what => what",
	)
}

func TestSessionOfNoLines(t *testing.T) {
	for _, lines := range [][]string{nil, {}} {
		if s := impl.Session(lines); s != "" {
			t.Errorf("it is %q", s)
		}
	}
	wantTalk(t, "an empty line", " => what", " => what", "form => 4")
}

// exampleOps are lines of all ops.
func exampleOps() []string {
	ops := []string{"go 0", "load1 r0 r1 0", "load2 r0 r1 -128", "load4 r10 r10 127", "store1 r10 -1 7", "store2 r0 0 r1", "store4 r0 127 4294967295", "exit"}
	for _, word := range []string{"mov", "add", "sub", "mul", "and", "or", "xor", "shl", "shr", "div", "mod"} {
		ops = append(ops, word+" r0 r10", word+" r10 4294967295")
	}
	for _, word := range []string{"same", "other", "less", "more"} {
		ops = append(ops, word+" r3 r4 -1", word+" r3 0 0")
	}
	for _, word := range []string{"look", "put", "find", "drop", "rand", "send"} {
		ops = append(ops, "call "+word)
	}
	return ops
}

func TestSessionOps(t *testing.T) {
	ops := exampleOps()
	wantTalk(t, "ahead of a host", all(ops, "ok")...)
	wantTalk(t, "once there is a host", slices.Concat(hosted(keeping, 0), all(ops, "no"), []string{"form => 0", "proof => code 0 at 0 most 2"})...)
	wantTalk(t, "what is no op", all([]string{
		"mov", "mov r0", "mov r0 1 1", "mov r11 1", "mov r0 r11", "mov r0 01", "mov r0 4294967296", "mov r0 -1", "Mov r0 1", " exit", "exit ", "exit 1", "exit\n",
		"load r0 r1 0", "load3 r0 r1 0", "load1 r0 1 0", "store1 r0 r1 0", "store1 r10 -1", "go", "go 128", "go -129", "go +1", "go -0", "call", "call see", "mov  r0 1", "mov r0  1",
	}, "what")...)
}

// A line that is no op is no op once there is a host, either.
func TestSessionWhatIsNoOpOnceThereIsAHost(t *testing.T) {
	wantTalk(t, "no op", append(hosted(keeping, 0), all([]string{"mov", "mov r11 1", "exit ", " exit", "mov r0 01", "go 128", "call see"}, "what")...)...)
}

func TestSessionAsManyOpsAsCanBe(t *testing.T) {
	wantTalk(t, "ProgMax, to an end", slices.Concat(all(times("mov r0 1", 47), "ok"), []string{
		"form => 4", "exit => ok", "form => 0", "mov r0 1 => no", "exit => no", "form => 0", "proof => code 0 at 0 most 48", "host => ok", "exit => no", "proof => code 0 at 0 most 48",
	})...)
	wantTalk(t, "ProgMax, to no end", slices.Concat(all(times("mov r0 1", 48), "ok"), []string{
		"form => 4", "exit => no", "mov r0 11111111111 => what", "table row 1 1 => ok", "form => 4", "proof => code 1 at 0 most 0", "host => no",
	})...)
}

func TestSessionForm(t *testing.T) {
	wantTalk(t, "op by op", "form => 4", "go 0 => ok", "form => 2", "mov r0 r2 => ok", "form => 4", "less r0 5 -3 => ok", "form => 4", "go -4 => ok", "form => 0", "go 1 => ok", "form => 2", "exit => ok", "form => 2", "exit => ok", "form => 0")
}

func TestSessionProof(t *testing.T) {
	for lines, want := range map[string]string{
		"":                                       "code 1 at 0 most 0",
		"mov r0 1":                               "code 1 at 0 most 0",
		"exit":                                   "code 2 at 0 most 0",
		"mov r6 1; mov r0 r2; exit":              "code 2 at 1 most 0",
		"mov r0 r1; exit":                        "code 3 at 1 most 0",
		"load1 r0 r1 12; exit":                   "code 4 at 0 most 0",
		"mov r0 1; load1 r0 r10 0; exit":         "code 4 at 1 most 0",
		"load1 r0 r10 -1; exit":                  "code 5 at 0 most 0",
		"mov r1 0; mov r2 0; call look; exit":    "code 6 at 2 most 0",
		"mov r1 0; call find; mov r0 0; exit":    "code 7 at 3 most 0",
		"go -1":                                  "code 8 at 0 most 0",
		"mov r0 1; exit":                         "code 0 at 0 most 2",
		"mov r0 0; add r0 1; less r0 5 -2; exit": "code 0 at 0 most 12",
	} {
		var talk []string
		if lines != "" {
			talk = taken(lines)
		}
		made := "no"
		if strings.HasPrefix(want, "code 0") {
			made = "ok"
		}
		// That it was asked, and that it can be no host, leaves all as it is.
		wantTalk(t, lines, append(talk, "proof => "+want, "host => "+made, "proof => "+want, "host => no", "proof => "+want)...)
	}
}

func TestSessionTables(t *testing.T) {
	for _, kind := range []string{"row", "hash"} {
		for _, n := range []int{0, 1, 2, 7, 8, 9, 255, 4294967295, 9999999999} {
			want := "no"
			if within(n, 1, 8) {
				want = "ok"
			}
			wantTalk(t, "sizes and rooms", "table "+kind+" "+strconv.Itoa(n)+" 3 => "+want, "table "+kind+" 3 "+strconv.Itoa(n)+" => "+want)
		}
	}
	wantTalk(t, "once there is a host", append(hosted(keeping, 0), "table row 1 1 => no", "table hash 8 8 => no", "table row 0 1 => no", "table row 01 1 => what", "table rows 1 1 => what")...)
}

// What was refused is not among them: which is at the place of each is told by how far bytes of it can be read.
func TestSessionAsManyTablesAsCanBe(t *testing.T) {
	for table, size := range []int{2, 8, 1} {
		for at := range 9 {
			look := taken("mov r1 " + strconv.Itoa(table) + "; mov r2 0; call look; same r0 0 1; load1 r0 r0 " + strconv.Itoa(at) + "; exit")
			want := "code 0 at 0 most 6"
			if at >= size {
				want = "code 4 at 4 most 0"
			}
			wantTalk(t, "three tables", slices.Concat([]string{
				"table row 2 1 => ok", "table row 9 1 => no", "table hash 8 8 => ok", "table hash 1 0 => no", "table row 1 2 => ok", "table row 4 1 => no", "table hash 4 1 => no", "table row 9 9 => no",
			}, look, []string{"proof => " + want})...)
		}
	}
	wantTalk(t, "a fourth one", slices.Concat(all(times("table row 1 1", 3), "ok"), []string{"table row 1 1 => no"}, taken("mov r1 3; mov r2 0; call look; mov r0 0; exit"), []string{"proof => code 6 at 2 most 0"})...)
}

// A row has its keys, as many as there is room; what goes by keys has none.
func TestSessionKindsAndRooms(t *testing.T) {
	for line, keys := range map[string]int{"table row 1 1": 1, "table row 1 4": 4, "table row 4 1": 1, "table row 8 8": 8, "table hash 1 1": 0, "table hash 1 8": 0} {
		for key := range 10 {
			want := "5"
			if key < keys {
				want = "0"
			}
			wantTalk(t, line, slices.Concat([]string{line + " => ok"}, hosted("mov r1 0; mov r2 "+strconv.Itoa(key)+"; call look; same r0 0 1; mov r0 1; exit", 1), []string{"come 1 0161 => ok", "work 1 => " + want})...)
		}
	}
}

// What stands in tables is kept from frame to frame: each second one is kept.
func TestSessionTablesAreKept(t *testing.T) {
	wantTalk(t, "each second", slices.Concat([]string{"table row 1 1 => ok"}, hosted("mov r1 0; mov r2 0; call look; same r0 0 5; load1 r6 r0 0; add r6 1; store1 r0 0 r6; and r6 1; mov r0 r6; exit", 1), []string{
		"come 1 0161016201630164 => ok", "proof => code 0 at 0 most 10", "work 1 => 0", "work 1 => 5", "work 1 => 0", "work 1 => 5", "work 1 => 2", "dropped => 2", "read 1 => 61", "read 1 => 63", "read 1 => ", "proof => code 0 at 0 most 10",
	})...)
}

// hostLines are such as are asked of a host alone.
func hostLines() []string {
	return []string{"open", "dropped", "close 1", "set 1 1", "come 1 00", "work 1", "drain 1", "read 1"}
}

func TestSessionAheadOfAHost(t *testing.T) {
	wantTalk(t, "no host", all(hostLines(), "what")...)
	wantTalk(t, "no host, but a program", slices.Concat(taken(keeping), all(hostLines(), "what"), []string{"proof => code 0 at 0 most 2"})...)
	wantTalk(t, "a host that was refused", slices.Concat([]string{"mov r0 1 => ok", "host => no"}, all(hostLines(), "what"), []string{"exit => ok", "host => ok", "open => 1"})...)
	wantTalk(t, "a host of nothing", "host => no", "table row 1 1 => ok", "host => no", "exit => ok", "host => no")
}

func TestSessionASecondHost(t *testing.T) {
	wantTalk(t, "a second one", append(hosted(keeping, 2),
		"come 1 016101620163 => ok", "set 1001 7 => ok", "work 1 => 0", "host => no", "read 1 => 61", "work 1 => 0", "host => no", "open => 2001", "read 1 => 62", "form => 0", "host now => what",
	)...)
}

func TestSessionSockets(t *testing.T) {
	wantTalk(t, "all slots, all they can be", append(hosted(keeping, 4),
		"open => -1", "close 1 => ok", "close 1 => no", "open => 2", "open => -1", "close 2 => ok", "close 1001 => ok", "open => 3", "open => 1002", "open => -1",
		"close 3 => ok", "open => -1", "close 3 => no", "close 0 => no", "close 4 => no", "close 1000 => no", "close 4001 => no", "close 9999999999 => no", "close 3001 => ok", "open => 3002",
	)...)
}

func TestSessionWays(t *testing.T) {
	wantTalk(t, "as many as can be", append(hosted(keeping, 2),
		"set 1 0 => ok", "set 1 1 => ok", "set 1001 2 => ok", "set 1001 3 => ok", "set 1 4294967295 => ok", "set 1 4294967296 => no", "set 1 9999999999 => no", "set 2 5 => no", "set 0 5 => no",
		"set 1 5 => ok", "set 1 6 => no", "set 1001 5 => ok", "set 1001 0 => ok", "close 1 => ok", "set 1001 6 => ok", "set 1 6 => no",
	)...)
	wantTalk(t, "where a key leads", slices.Concat(hosted(steered, 3), []string{
		"set 1001 7 => ok", "come 1 0202070202080202070202070207 => ok", "work 1 => 0", "work 1 => 5", "work 1 => 0", "close 1001 => ok", "work 1 => 5", "work 1 => 2", "open => 1002", "read 1002 => ",
	})...)
	wantTalk(t, "the socket ahead, the key behind", slices.Concat(hosted("load1 r1 r1 0; call send; mov r0 2; exit", 3), []string{
		"set 1001 7 => ok", "set 1 1 => ok", "come 1 02070a02070b02080c0201ee => ok", "work 1 => 0", "set 2001 7 => ok", "work 1 => 0", "work 1 => 5", "work 1 => 0", "work 1 => 2",
		"read 1001 => 070a", "read 1001 => ", "read 2001 => 070b", "read 2001 => ", "read 1 => 01ee", "dropped => 1",
	})...)
}

func TestSessionCome(t *testing.T) {
	byte0 := strings.Repeat("01", 60)
	wantTalk(t, "as much as can be", append(hosted(keeping, 2),
		"come 1 "+byte0+byte0+"01 => no", "come 1 "+byte0+byte0+" => ok", "come 1 01 => no", "come 1001 "+byte0+" => ok", "come 1001 "+byte0+"01 => no", "come 1001 "+byte0+" => ok", "come 1001 00 => no",
		"come 2 00 => no", "come 0 00 => no", "come 2001 00 => no", "come 9999999999 00 => no", "work 1 => 0", "come 1 0101 => ok", "come 1 01 => no", "close 1 => ok", "come 1 00 => no",
	)...)
	wantTalk(t, "in pieces", append(hosted(keeping, 1), "come 1 02 => ok", "work 1 => 2", "come 1 61 => ok", "work 1 => 2", "come 1 6201 => ok", "work 1 => 0", "work 1 => 2", "come 1 0a => ok", "work 1 => 0", "read 1 => 6162", "read 1 => 0a")...)
}

// Each byte that there is comes, and is read, as two small figures.
func TestSessionBytes(t *testing.T) {
	const figures = "0123456789abcdef"
	for first := 0; first < 256; first += 8 {
		frame := ""
		for n := first; n < first+8; n++ {
			frame += string(figures[n/16]) + string(figures[n%16])
		}
		wantTalk(t, "bytes", append(hosted(keeping, 1), "come 1 08"+frame+" => ok", "work 1 => 0", "read 1 => "+frame)...)
		lengths := append(hosted(keeping, 4), "open => -1")
		for i := range 4 {
			n, id := frame[2*i:2*i+2], strconv.Itoa(i*1000+1)
			code := "3"
			if within(first+i, 1, 12) {
				code = "2"
			}
			lengths = append(lengths, "come "+id+" "+n+" => ok", "work "+id+" => "+code)
		}
		wantTalk(t, "lengths", lengths...)
	}
	wantTalk(t, "frames of all sizes", append(hosted(keeping, 1),
		"come 1 01000c000102030405060708090a0b => ok", "drain 1 => 2", "read 1 => 00", "read 1 => 000102030405060708090a0b", "come 1 0d => ok", "work 1 => 3", "come 1 00 => no",
	)...)
}

func TestSessionWork(t *testing.T) {
	wantTalk(t, "each code", append(hosted("load1 r0 r1 0; exit", 2),
		"work 1 => 2", "work 2 => 1", "work 0 => 1", "work 2001 => 1", "work 9999999999 => 1", "come 1 01010100010101010101 => ok", "work 1 => 0", "work 1 => 5", "work 1 => 0", "work 1 => 0", "work 1 => 4", "work 1 => 4",
		"read 1 => 01", "work 1 => 0", "work 1 => 2", "dropped => 1", "come 1 0d => ok", "work 1 => 3", "work 1 => 1", "read 1 => ", "dropped => 1", "work 1001 => 2",
	)...)
}

// A session's host is a new one: what is drawn is the number 0.
func TestSessionTheNumberThatIsDrawn(t *testing.T) {
	wantTalk(t, "0 alone", append(hosted("call rand; mov r6 r0; mov r0 0; other r6 0 1; mov r0 1; exit", 1), "come 1 01610162 => ok", "work 1 => 0", "work 1 => 0", "dropped => 0")...)
}

func TestSessionDrain(t *testing.T) {
	wantTalk(t, "how many", append(hosted("load1 r0 r1 0; exit", 2),
		"drain 1 => 0", "drain 2 => 0", "drain 9999999999 => 0", "come 1 010001010100 => ok", "drain 1 => 3", "dropped => 2", "drain 1 => 0", "come 1 010101010101 => ok", "drain 1 => 2",
		"drain 1 => 0", "come 1 01 => ok", "drain 1 => 0", "read 1 => 01", "drain 1 => 1", "come 1001 "+strings.Repeat("0100", 12)+"00 => ok", "drain 1001 => 12", "dropped => 14", "work 1001 => 1", "close 1001 => no",
	)...)
	wantTalk(t, "to where there is no room", append(hosted(keeping, 1), "come 1 "+strings.Repeat("0161", 7)+" => ok", "drain 1 => 3", "drain 1 => 0", "work 1 => 4", "read 1 => 61", "drain 1 => 1", "read 1 => 61", "read 1 => 61", "drain 1 => 2", "drain 1 => 0", "work 1 => 4")...)
}

func TestSessionRead(t *testing.T) {
	wantTalk(t, "in order", append(hosted(keeping, 2),
		"read 1 => ", "read 2 => ", "read 0 => ", "read 9999999999 => ", "come 1 016101620163 => ok", "read 1 => ", "drain 1 => 3", "read 1001 => ", "read 1 => 61", "read 1 => 62", "close 1 => ok", "read 1 => ", "open => 2", "read 2 => ",
	)...)
}

// wrongNumbers are words that are no numbers of 1 to 10 figures.
func wrongNumbers() []string {
	return []string{
		"", "00", "01", "001", "0000000001", "-1", "-0", "+1", "1.", "1.0", "1e1", "1_0", "0x1", "a", "r1", "1a", "a1", "one", "10000000000", "00000000001", "99999999999", "18446744073709551617", strings.Repeat("1", 400), "\x31\x00", "１", "1\n", "\t1", "1\r", "²", "ff",
	}
}

// wrongBytes are words that are no bytes.
func wrongBytes() []string {
	return []string{"", "0", "000", "00000", "0A", "FF", "aB", "fG", "gg", "0g", "g0", "-1", "+1", "0x00", "0x", "zz", "0_", "1_00", "00\n", "\x00\x00", "é", "ａ", "0.", "00,00", "00g0", "000g", "@0", "/0", ":0", "`0", "{0"}
}

func TestSessionWrongNumbers(t *testing.T) {
	for _, n := range wrongNumbers() {
		lines := []string{
			"close " + n, "work " + n, "drain " + n, "read " + n, "set " + n + " 7", "set 1 " + n, "set 5 " + n, "come " + n + " 00", "table row " + n + " 1", "table row 1 " + n, "table hash " + n + " 1", "table hash 1 " + n, "table row 9 " + n,
		}
		wantTalk(t, "no host", all(lines, "what")...)
		wantTalk(t, "a host", slices.Concat(hosted(keeping, 1), []string{"come 1 0161 => ok"}, all(lines, "what"), []string{"work 1 => 0", "read 1 => 61"})...)
		wantTalk(t, "all tables", slices.Concat(all(times("table row 1 1", 3), "ok"), all(lines, "what"))...)
	}
}

func TestSessionWrongBytes(t *testing.T) {
	for _, s := range wrongBytes() {
		lines := []string{"come 1 " + s, "come 2 " + s}
		if s != "" {
			lines = append(lines, "come 1 00"+s, "come 1 "+s+"00")
		}
		wantTalk(t, "bytes", slices.Concat(hosted(keeping, 1), all(lines, "what"), []string{"work 1 => 2"})...)
	}
	wantTalk(t, "no bytes", append(hosted(keeping, 1), "come 1 => what", "come 1  => what", "come => what", "come 1 0161 => ok", "work 1 => 0")...)
	wantTalk(t, "an odd number, more than can be", append(hosted(keeping, 1), "come 1 "+strings.Repeat("0", 241)+" => what", "come 1 "+strings.Repeat("0", 242)+" => no", "come 1 "+strings.Repeat("g", 242)+" => what", "come 1 "+strings.Repeat("0", 240)+" => ok")...)
}

// misspelt is lines that have a word too many or too few, a blank too many, or another word.
func misspelt(line string) []string {
	out := []string{
		line + " ", " " + line, line + " 1", line + " r0", "1 " + line, line + "\n", "\n" + line, line + "\t", line + "\x00", strings.ToUpper(line), strings.ToUpper(line[:1]) + line[1:], line + line, "x" + line, line + "x", line[1:],
	}
	if at := strings.LastIndex(line, " "); at >= 0 {
		out = append(out, line[:at], line[:at]+" ", strings.ReplaceAll(line, " ", "  "), line[:at]+"  "+line[at+1:], strings.ReplaceAll(line, " ", ""), strings.ReplaceAll(line, " ", "\t"), line[:at]+" \t"+line[at+1:])
	}
	return out
}

func TestSessionMisspelt(t *testing.T) {
	for _, line := range append(hostLines(), "form", "proof", "host", "table row 1 1", "table hash 1 1") {
		lines := misspelt(line)
		wantTalk(t, line+", no host", all(lines, "what")...)
		wantTalk(t, line+", a host", slices.Concat(hosted(keeping, 1), []string{"come 1 0161 => ok"}, all(lines, "what"), []string{"work 1 => 0", "read 1 => 61", "open => 1001", "dropped => 0", "host => no"})...)
	}
	wantTalk(t, "other words", all([]string{"what", "ok", "no", "table", "table row", "table row 1", "table 1 1 1", "table 1 1", "table rows 1 1", "table Row 1 1", "table hash hash 1", "row 1 1", "hash 1 1", "set 1", "set", "shut 1", "quit", "\x00", "\xff\xfe", "é", "=>", "#"}, "what")...)
}

func TestP48LinesBehindSessionMax(t *testing.T) {
	talk := append(hosted(keeping, 1), "come 1 0161 => ok")
	lines := append(times("form", impl.SessionMax-len(talk)-1), "work 1")
	for _, s := range talk {
		line, _, _ := strings.Cut(s, " => ")
		lines = slices.Insert(lines, len(lines)-1, line)
	}
	if len(lines) != impl.SessionMax {
		t.Fatal("there are", len(lines))
	}
	whole := impl.Session(lines)
	if strings.Count(whole, "\n") != 80 || !strings.HasSuffix(whole, "\n1\nok\n0\n") {
		t.Errorf("80 lines: %q", whole)
	}
	for _, more := range [][]string{{"read 1"}, {""}, {"what", "exit"}, times("open", 100), lines} {
		if got := impl.Session(slices.Concat(lines, more)); got != whole {
			t.Errorf("with %d more: %q", len(more), got)
		}
	}
	if got := impl.Session(lines[:79]); got+"0\n" != whole {
		t.Errorf("79 lines: %q", got)
	}
	// Lines that are answered what count, too.
	if got := impl.Session(append(times("", 80), "form")); got != strings.Repeat("what\n", 80) {
		t.Errorf("lines of nothing: %q", got)
	}
}

func TestP49WhoAsksChangesNothing(t *testing.T) {
	ask := []string{"proof => code 0 at 0 most 2", "form => 0", "dropped => 1", "proof => code 0 at 0 most 2"}
	wantTalk(t, "a host", slices.Concat(hosted("load1 r0 r1 0; exit", 1), []string{"come 1 010001010101 => ok", "drain 1 => 3"}, ask, ask, []string{"read 1 => 01"}, ask)...)
	wantTalk(t, "no host", "proof => code 1 at 0 most 0", "form => 4", "dropped => what", "proof => code 1 at 0 most 0", "mov r0 1 => ok", "proof => code 1 at 0 most 0", "form => 4", "dropped => what", "exit => ok", "proof => code 0 at 0 most 2", "form => 0", "proof => code 0 at 0 most 2")
}

func TestSessionKeepsNothing(t *testing.T) {
	lines := append(strings.Split("table hash 1 1; "+keeping, "; "), "host", "open", "come 1 0161", "work 1", "dropped")
	room := append(slices.Clone(lines), "seventy", "one")
	given := room[:len(lines)]
	first := impl.Session(given)
	if again := impl.Session(given); again != first {
		t.Errorf("first it is %q, then %q", first, again)
	}
	if !slices.Equal(room, append(slices.Clone(lines), "seventy", "one")) {
		t.Errorf("what was given is now %q", room)
	}
	if got := impl.Session([]string{"dropped", "form"}); got != "what\n4\n" {
		t.Errorf("a new one is answered %q", got)
	}
}
