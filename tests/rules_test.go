package tests

import (
	"reflect"
	"slices"
	"strconv"
	"strings"
	"testing"

	"loop.example/steerage/impl"
)

// rules are written one behind the other, `; ` between them.
func rules(t *testing.T, text string) []impl.Rule {
	t.Helper()
	list, ok := impl.RulesGet(ruleLines(text))
	if !ok {
		t.Fatalf("%q are no rules", text)
	}
	return list
}

func ruleLines(text string) string {
	if text == "" {
		return ""
	}
	return strings.ReplaceAll(text, "; ", "\n") + "\n"
}

// sixRules have each op, each verdict, and each part at its edges.
func sixRules() []impl.Rule {
	return []impl.Rule{
		{At: 0, Op: impl.OpSame, Num: 0, Verdict: impl.VerdictDrop},
		{At: 11, Op: impl.OpOther, Num: 255, Verdict: impl.VerdictSend, Key: most32},
		{At: 3, Op: impl.OpLess, Num: 10, Verdict: impl.VerdictSend},
		{At: 5, Op: impl.OpMore, Num: 254, Verdict: impl.VerdictKeep},
		{At: 1, Op: impl.OpLess, Num: 128, Verdict: impl.VerdictSend, Key: 1},
		{At: 11, Op: impl.OpMore, Num: 1, Verdict: impl.VerdictDrop},
	}
}

const sixLines = "byte 0 same 0 drop\nbyte 11 other 255 send 4294967295\nbyte 3 less 10 send 0\nbyte 5 more 254 keep\nbyte 1 less 128 send 1\nbyte 11 more 1 drop\n"

// wrongRules are rules that are not ok, each for one reason.
func wrongRules() map[string][]impl.Rule {
	out := map[string][]impl.Rule{"seven": append(sixRules(), sixRules()[0]), "a great many": slices.Repeat(sixRules(), 20)}
	change := func(name string, do func(r *impl.Rule)) {
		for at := range sixRules() {
			list := sixRules()
			do(&list[at])
			out["rule "+strconv.Itoa(at)+": "+name] = list
		}
		one := impl.Rule{At: 2, Op: impl.OpSame, Num: 3, Verdict: impl.VerdictKeep}
		do(&one)
		out["alone: "+name] = []impl.Rule{one}
	}
	for _, n := range []int{-1 << 63, -1, 12, 13, 256, 1<<63 - 1} {
		change("At "+strconv.Itoa(n), func(r *impl.Rule) { r.At = n })
	}
	for _, n := range []int{-1 << 63, -1, 0, impl.OpMov, impl.OpMod, impl.OpGo, impl.OpLoad, impl.OpExit, 21, 12 + 256, 1<<63 - 1} {
		change("Op "+strconv.Itoa(n), func(r *impl.Rule) { r.Op = n })
	}
	for _, n := range []int{-1 << 63, -1, 256, 257, most32, 1<<63 - 1} {
		change("Num "+strconv.Itoa(n), func(r *impl.Rule) { r.Num = n })
	}
	for _, n := range []int{-1 << 63, -1, 3, 256, 1<<63 - 1} {
		change("Verdict "+strconv.Itoa(n), func(r *impl.Rule) { r.Verdict = n })
	}
	for _, n := range []int{-1 << 63, -1, most32 + 1, 1<<63 - 1} {
		change("Key "+strconv.Itoa(n), func(r *impl.Rule) { r.Verdict, r.Key = impl.VerdictSend, n })
	}
	for _, n := range []int{-1, 1, 7, most32} {
		change("dropped, with key "+strconv.Itoa(n), func(r *impl.Rule) { r.Verdict, r.Key = impl.VerdictDrop, n })
		change("kept, with key "+strconv.Itoa(n), func(r *impl.Rule) { r.Verdict, r.Key = impl.VerdictKeep, n })
	}
	return out
}

func TestRuleLimit(t *testing.T) {
	if impl.RulesMax != 6 {
		t.Error("there are at most", impl.RulesMax)
	}
}

func TestRulesThatAreNotOk(t *testing.T) {
	for name, list := range wrongRules() {
		verdict, key := impl.RulesOf(list, strings.Repeat("\x00", 12))
		if impl.RulesOk(list) || impl.RulesPut(list) != "" || verdict != -1 || key != 0 {
			t.Error(name, impl.RulesOk(list), impl.RulesPut(list), verdict, key)
		}
		if prog, tidy := impl.RulesProg(list), impl.RulesTidy(list); len(prog) > 0 || len(tidy) > 0 {
			t.Error(name, prog, tidy)
		}
	}
}

func TestRulesThatAreOk(t *testing.T) {
	for n := range len(sixRules()) + 1 {
		if list := sixRules()[:n]; !impl.RulesOk(list) {
			t.Error(list, "are not ok")
		}
	}
	if !impl.RulesOk(nil) || !impl.RulesOk([]impl.Rule{}) {
		t.Error("no rules are not ok")
	}
	for at := range 12 {
		for op := impl.OpSame; op <= impl.OpMore; op++ {
			for _, num := range []int{0, 1, 127, 128, 254, 255} {
				for _, key := range []int{0, 1, most32} {
					r := impl.Rule{At: at, Op: op, Num: num, Verdict: impl.VerdictSend, Key: key}
					if !impl.RulesOk([]impl.Rule{r}) {
						t.Error(r, "is not ok")
					}
				}
				for _, verdict := range []int{impl.VerdictDrop, impl.VerdictKeep} {
					if r := (impl.Rule{At: at, Op: op, Num: num, Verdict: verdict}); !impl.RulesOk([]impl.Rule{r}) {
						t.Error(r, "is not ok")
					}
				}
			}
		}
	}
}

func TestRulesPut(t *testing.T) {
	if got := impl.RulesPut(sixRules()); got != sixLines {
		t.Errorf("%q", got)
	}
	if got := impl.RulesPut(sixRules()[2:4]); got != "byte 3 less 10 send 0\nbyte 5 more 254 keep\n" {
		t.Errorf("%q", got)
	}
	if got := impl.RulesPut(nil); got != "" {
		t.Errorf("no rules are %q", got)
	}
}

func TestRulesGet(t *testing.T) {
	if list, ok := impl.RulesGet(sixLines); !ok || !slices.Equal(list, sixRules()) {
		t.Error(list, ok)
	}
	if list, ok := impl.RulesGet(""); !ok || len(list) != 0 {
		t.Error("the empty text:", list, ok)
	}
	want := []impl.Rule{{At: 10, Op: impl.OpMore, Num: 99, Verdict: impl.VerdictSend, Key: 100}}
	if list, ok := impl.RulesGet("byte 10 more 99 send 100\n"); !ok || !slices.Equal(list, want) {
		t.Error(list, ok)
	}
}

// wrongRuleTexts are texts that are no rules.
func wrongRuleTexts() []string {
	out := []string{
		"\n", " ", "\x00", "byte", "byte\n", "byte 0\n", "byte 0 same\n", "byte 0 same 1\n", "byte 0 same 1 \n", "byte 0 same 1 drop", "byte 0 same 1 drop\n\n", "\nbyte 0 same 1 drop\n", "byte 0 same 1 drop\r\n",
		"byte 0 same 1 drop 0\n", "byte 0 same 1 keep 0\n", "byte 0 same 1 keep 7\n", "byte 0 same 1 send\n", "byte 0 same 1 send \n", "byte 0 same 1 send 1 1\n", "byte 0 same 1 send r1\n", "byte 0 same 1 send keep\n",
		"byte 12 same 0 drop\n", "byte -1 same 0 drop\n", "byte 0 same 256 drop\n", "byte 0 same -1 drop\n", "byte 0 same 1 send -1\n", "byte 0 same 1 send 4294967296\n", "byte 0 same 1 send 18446744073709551616\n",
		"byte 0 add 1 keep\n", "byte 0 mov 1 keep\n", "byte 0 go 1 keep\n", "byte 0 load1 1 keep\n", "byte 0 exit 1 keep\n", "byte 0  1 keep\n", "byte 0 what 1 keep\n", "byte 0 12 1 keep\n",
		"byte 0 same 1 1\n", "byte 0 same 1 what\n", "byte 0 same 1 Drop\n", "byte r0 same 1 drop\n", "byte 0 same r1 drop\n", "word 0 same 1 drop\n", " 0 same 1 drop\n", "0 same 1 drop\n", "byte byte 0 same 1 drop\n",
		sixLines + "byte 0 same 1 drop\n", sixLines + sixLines, sixLines + "\n", sixLines + "byte", sixLines[:len(sixLines)-1], strings.ReplaceAll(sixLines, "\n", "; "), strings.ReplaceAll(sixLines, "\n", "\r\n"), strings.ReplaceAll(sixLines, "\n", "\n\n"),
	}
	for _, line := range []string{"byte 1 same 1 drop", "byte 1 less 1 send 1"} {
		for _, s := range misspelt(line) {
			out = append(out, s+"\n", "byte 0 same 1 drop\n"+s+"\n", s+"\nbyte 0 same 1 drop\n")
		}
	}
	for _, n := range wrongNumbers() {
		out = append(out, "byte "+n+" same 1 drop\n", "byte 0 same "+n+" drop\n", "byte 0 same 1 send "+n+"\n")
	}
	return out
}

func TestRulesGetWrongTexts(t *testing.T) {
	for _, s := range wrongRuleTexts() {
		if list, ok := impl.RulesGet(s); ok || len(list) > 0 {
			t.Errorf("%q is %v, %v", s, list, ok)
		}
	}
	for _, s := range []string{strings.Repeat("byte 0 same 1 drop\n", 100000), strings.Repeat("byte ", 100000) + "\n", strings.Repeat("\n", 100000), "byte " + strings.Repeat("9", 100000) + " same 1 drop\n"} {
		if list, ok := impl.RulesGet(s); ok || len(list) > 0 {
			t.Errorf("a text of %d bytes is %v, %v", len(s), list, ok)
		}
	}
}

func frameOf(at int, n int) string {
	came := []byte("abcdefghijkl")
	came[at] = byte(n)
	return string(came)
}

func TestRulesOfEachOp(t *testing.T) {
	for _, c := range []struct {
		rule  string
		holds []int
		not   []int
	}{
		{"byte 4 same 7 drop", []int{7}, []int{0, 6, 8, 255}},
		{"byte 4 same 0 drop", []int{0}, []int{1, 128, 255}},
		{"byte 4 same 255 drop", []int{255}, []int{0, 127, 254}},
		{"byte 4 other 7 drop", []int{0, 6, 8, 255}, []int{7}},
		{"byte 4 less 7 drop", []int{0, 6}, []int{7, 8, 255}},
		{"byte 4 less 0 drop", nil, []int{0, 1, 255}},
		{"byte 4 less 200 drop", []int{0, 127, 128, 199}, []int{200, 255}},
		{"byte 4 more 7 drop", []int{8, 128, 255}, []int{0, 6, 7}},
		{"byte 4 more 255 drop", nil, []int{0, 254, 255}},
	} {
		list := rules(t, c.rule)
		for _, n := range c.holds {
			if verdict, key := impl.RulesOf(list, frameOf(4, n)); verdict != impl.VerdictDrop || key != 0 {
				t.Errorf("%s: of %d it is %d, %d", c.rule, n, verdict, key)
			}
		}
		for _, n := range c.not {
			if verdict, key := impl.RulesOf(list, frameOf(4, n)); verdict != impl.VerdictKeep || key != 0 {
				t.Errorf("%s: of %d it is %d, %d", c.rule, n, verdict, key)
			}
		}
	}
}

func TestRulesOfTheFirstThatHolds(t *testing.T) {
	list := rules(t, "byte 0 same 1 keep; byte 0 less 3 drop; byte 11 more 200 send 9; byte 0 less 10 send 0; byte 0 other 12 send 4294967295")
	for _, c := range []struct{ first, last, verdict, key int }{
		{1, 255, impl.VerdictKeep, 0}, {0, 255, impl.VerdictDrop, 0}, {2, 0, impl.VerdictDrop, 0}, {3, 201, impl.VerdictSend, 9}, {3, 200, impl.VerdictSend, 0},
		{9, 0, impl.VerdictSend, 0}, {10, 0, impl.VerdictSend, most32}, {255, 201, impl.VerdictSend, 9}, {12, 200, impl.VerdictKeep, 0}, {12, 255, impl.VerdictSend, 9},
	} {
		came := string([]byte{byte(c.first)}) + strings.Repeat("\x05", 10) + string([]byte{byte(c.last)})
		if verdict, key := impl.RulesOf(list, came); verdict != c.verdict || key != c.key {
			t.Errorf("of %q it is %d, %d, not %d, %d", came, verdict, key, c.verdict, c.key)
		}
	}
	if verdict, key := impl.RulesOf(nil, letters(12)); verdict != impl.VerdictKeep || key != 0 {
		t.Error("of no rules it is", verdict, key)
	}
}

func TestRulesOfWrongBytes(t *testing.T) {
	for _, list := range [][]impl.Rule{nil, rules(t, "byte 0 same 97 send 5"), rules(t, "byte 11 other 0 drop"), sixRules()} {
		for _, size := range []int{0, 1, 11, 13, 24, 1000} {
			if verdict, key := impl.RulesOf(list, strings.Repeat("a", size)); verdict != -1 || key != 0 {
				t.Errorf("%v of %d bytes: %d, %d", list, size, verdict, key)
			}
		}
	}
}

func TestRulesProg(t *testing.T) {
	for _, c := range []struct{ rules, lines string }{
		{"", "mov r6 r1; mov r0 1; exit"},
		{"byte 0 same 0 drop", "mov r6 r1; load1 r2 r6 0; same r2 0 1; go 2; mov r0 0; exit; mov r0 1; exit"},
		{"byte 11 other 255 keep", "mov r6 r1; load1 r2 r6 11; other r2 255 1; go 2; mov r0 1; exit; mov r0 1; exit"},
		{"byte 3 less 10 send 0", "mov r6 r1; load1 r2 r6 3; less r2 10 1; go 4; mov r1 0; call send; mov r0 2; exit; mov r0 1; exit"},
		{"byte 5 more 254 send 4294967295", "mov r6 r1; load1 r2 r6 5; more r2 254 1; go 4; mov r1 4294967295; call send; mov r0 2; exit; mov r0 1; exit"},
		{
			"byte 1 more 9 drop; byte 1 same 3 send 8; byte 2 less 1 keep",
			"mov r6 r1; load1 r2 r6 1; more r2 9 1; go 2; mov r0 0; exit; load1 r2 r6 1; same r2 3 1; go 4; mov r1 8; call send; mov r0 2; exit; load1 r2 r6 2; less r2 1 1; go 2; mov r0 1; exit; mov r0 1; exit",
		},
	} {
		prog := impl.RulesProg(rules(t, c.rules))
		if got := linesOf(prog); got != c.lines {
			t.Errorf("%s: %s, not %s", c.rules, got, c.lines)
		}
		if !slices.Equal(prog, program(t, strings.Split(c.lines, "; ")...)) {
			t.Errorf("%s: %+v", c.rules, prog)
		}
	}
}

// The longest program of rules is still one that can be.
func TestRulesProgOfAsManyAsCanBe(t *testing.T) {
	list := slices.Repeat(rules(t, "byte 11 other 0 send 4294967295"), impl.RulesMax)
	prog := impl.RulesProg(list)
	if len(prog) != 45 || impl.ProgForm(prog) != impl.FormFine || impl.ProofOf(prog, nil) != (impl.Proof{Most: 22}) {
		t.Error(len(prog), impl.ProofOf(prog, nil))
	}
	if got := impl.RulesProg(append(list, list[0])); len(got) > 0 {
		t.Error("of one more it is", linesOf(got))
	}
}

func TestRulesTidy(t *testing.T) {
	for _, c := range []struct{ rules, tidy string }{
		{"", ""},
		{"byte 0 same 1 drop", "byte 0 same 1 drop"},
		{"byte 0 same 1 keep", "byte 0 same 1 keep"},
		// No byte is below 0, or above 255.
		{"byte 0 less 0 drop", ""},
		{"byte 0 more 255 drop", ""},
		{"byte 0 less 1 drop; byte 0 more 254 drop", "byte 0 less 1 drop; byte 0 more 254 drop"},
		{"byte 0 less 0 drop; byte 0 less 1 keep; byte 0 more 255 drop; byte 0 less 2 keep", "byte 0 less 1 keep; byte 0 less 2 keep"},
		// One that cannot hold behind another one goes.
		{"byte 0 less 20 drop; byte 0 less 15 keep", "byte 0 less 20 drop"},
		{"byte 0 less 20 drop; byte 0 less 20 keep", "byte 0 less 20 drop"},
		{"byte 0 less 20 drop; byte 0 less 21 keep", "byte 0 less 20 drop; byte 0 less 21 keep"},
		{"byte 0 less 20 drop; byte 0 same 19 keep; byte 0 same 20 keep", "byte 0 less 20 drop; byte 0 same 20 keep"},
		{"byte 0 more 20 drop; byte 0 more 30 keep; byte 0 same 21 send 1; byte 0 same 20 send 2", "byte 0 more 20 drop; byte 0 same 20 send 2"},
		{"byte 0 more 127 drop; byte 0 same 128 keep; byte 0 same 127 keep", "byte 0 more 127 drop; byte 0 same 127 keep"},
		{"byte 0 same 0 drop; byte 0 same 0 keep", "byte 0 same 0 drop"},
		{"byte 0 same 255 drop; byte 0 more 254 keep", "byte 0 same 255 drop"},
		{"byte 0 same 0 drop; byte 0 same 1 drop; byte 0 same 2 keep; byte 0 less 3 drop", "byte 0 same 0 drop; byte 0 same 1 drop; byte 0 same 2 keep"},
		{"byte 0 same 255 drop; byte 0 same 254 drop; byte 0 more 253 keep; byte 0 more 252 keep", "byte 0 same 255 drop; byte 0 same 254 drop; byte 0 more 252 keep"},
		// A range cannot tell that a number in its midst is not there.
		{"byte 0 same 7 drop; byte 0 same 7 keep", "byte 0 same 7 drop; byte 0 same 7 keep"},
		// One that cannot but hold is the last.
		{"byte 0 less 10 drop; byte 0 more 9 keep; byte 1 same 1 drop", "byte 0 less 10 drop; byte 0 more 9 keep"},
		{"byte 0 less 10 drop; byte 0 more 10 keep; byte 1 same 1 drop", "byte 0 less 10 drop; byte 0 more 10 keep; byte 1 same 1 drop"},
		{"byte 0 more 9 send 1; byte 0 less 10 send 2; byte 0 same 3 drop", "byte 0 more 9 send 1; byte 0 less 10 send 2"},
		{"byte 0 other 7 drop; byte 0 same 7 keep; byte 1 same 0 drop", "byte 0 other 7 drop; byte 0 same 7 keep"},
		{"byte 0 other 7 drop; byte 0 less 8 keep; byte 1 same 0 drop", "byte 0 other 7 drop; byte 0 less 8 keep"},
		{"byte 0 other 7 drop; byte 0 other 7 keep; byte 1 same 0 drop", "byte 0 other 7 drop; byte 1 same 0 drop"},
		{"byte 0 other 7 drop; byte 0 more 7 keep; byte 0 other 8 send 3; byte 1 same 0 drop", "byte 0 other 7 drop; byte 0 other 8 send 3"},
		{"byte 0 same 0 drop; byte 0 other 0 keep; byte 0 same 9 drop", "byte 0 same 0 drop; byte 0 other 0 keep"},
		{"byte 0 more 0 drop; byte 0 same 0 keep; byte 5 same 9 drop", "byte 0 more 0 drop; byte 0 same 0 keep"},
		// What is known of one byte is nothing to another one.
		{"byte 0 less 20 drop; byte 1 less 15 keep; byte 11 less 15 send 7", "byte 0 less 20 drop; byte 1 less 15 keep; byte 11 less 15 send 7"},
		{"byte 11 other 7 drop; byte 10 same 7 keep; byte 11 same 7 keep; byte 10 same 0 keep", "byte 11 other 7 drop; byte 10 same 7 keep; byte 11 same 7 keep"},
		{"byte 0 other 7 drop; byte 1 less 20 drop; byte 0 other 7 drop; byte 1 less 20 keep; byte 1 more 18 drop; byte 0 same 7 drop", "byte 0 other 7 drop; byte 1 less 20 drop; byte 1 more 18 drop"},
		// What goes tells nothing of those behind it.
		{"byte 0 less 20 drop; byte 0 less 5 keep; byte 0 same 20 drop; byte 0 less 22 drop; byte 0 more 20 keep; byte 0 same 21 drop", "byte 0 less 20 drop; byte 0 same 20 drop; byte 0 less 22 drop; byte 0 more 20 keep"},
	} {
		if got := impl.RulesPut(impl.RulesTidy(rules(t, c.rules))); got != ruleLines(c.tidy) {
			t.Errorf("%s: %q, not %s", c.rules, got, c.tidy)
		}
	}
}

func TestRulesAreNewMemory(t *testing.T) {
	given := append(sixRules(), impl.Rule{At: 71}, impl.Rule{At: 72})
	kept := slices.Clone(given)
	list := given[:6]
	tidy, prog := impl.RulesTidy(list), impl.RulesProg(list)
	read, _ := impl.RulesGet(sixLines)
	wantTidy, wantProg := slices.Clone(tidy), slices.Clone(prog)
	clear(tidy[:cap(tidy)])
	clear(prog[:cap(prog)])
	clear(read[:cap(read)])
	impl.RulesOk(list)
	impl.RulesPut(list)
	impl.RulesOf(list, letters(12))
	again, _ := impl.RulesGet(sixLines)
	if !slices.Equal(given, kept) || !slices.Equal(again, sixRules()) {
		t.Error("what was given was written into:", given)
	}
	if !reflect.DeepEqual(impl.RulesTidy(list), wantTidy) || !reflect.DeepEqual(impl.RulesProg(list), wantProg) || len(wantTidy) != 6 {
		t.Error("answers share memory")
	}
}
