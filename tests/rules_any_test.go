package tests

import (
	"math/rand"
	"regexp"
	"slices"
	"strconv"
	"strings"
	"testing"

	"loop.example/steerage/impl"
)

// rule is any rule that is ok, most often of one of few bytes, and of a number near what others ask for.
func (d drawer) rule() impl.Rule {
	r := impl.Rule{At: d.draw.Intn(2), Op: impl.OpSame + d.draw.Intn(4), Num: d.draw.Intn(4), Verdict: d.draw.Intn(3)}
	if d.draw.Intn(6) == 0 {
		r.At = d.draw.Intn(12)
	}
	switch d.draw.Intn(4) {
	case 0:
		r.Num = 252 + d.draw.Intn(4)
	case 1:
		r.Num = 126 + d.draw.Intn(4)
	case 2:
		r.Num = d.draw.Intn(256)
	}
	if r.Verdict == impl.VerdictSend {
		r.Key = d.number()
	}
	return r
}

func (d drawer) rules() []impl.Rule {
	var out []impl.Rule
	for range d.draw.Intn(7) {
		out = append(out, d.rule())
	}
	return out
}

// cameNear is bytes at the edges of what rules ask, most often.
func (d drawer) cameNear(list []impl.Rule) string {
	came := []byte(d.bytes(12))
	for _, r := range list {
		if d.draw.Intn(2) == 0 {
			came[r.At] = byte(r.Num + d.draw.Intn(3) - 1)
		}
	}
	return string(came)
}

// ruleHolds is what a rule asks, written down a second time.
func ruleHolds(r impl.Rule, came string) bool {
	n := int(came[r.At])
	return map[int]bool{impl.OpSame: n == r.Num, impl.OpOther: n != r.Num, impl.OpLess: n < r.Num, impl.OpMore: n > r.Num}[r.Op]
}

func TestP50RulesAreReadBack(t *testing.T) {
	d := drawer{rand.New(rand.NewSource(40))}
	for range 5000 {
		list := d.rules()
		text := impl.RulesPut(list)
		got, ok := impl.RulesGet(text)
		if !ok || !sameList(got, list) || !impl.RulesOk(list) || strings.Count(text, "\n") != len(list) {
			t.Fatalf("%v are %q, and %v", list, text, got)
		}
	}
}

var ruleText = regexp.MustCompile(`^(byte (0|[1-9]|10|11) (same|other|less|more) (0|[1-9][0-9]?|1[0-9][0-9]|2[0-4][0-9]|25[0-5]) (drop|keep|send (0|[1-9][0-9]{0,9}))\n){0,6}$`)
var greatKey = regexp.MustCompile(`send ([0-9]{10})\n`)

// isRules is what can be read as rules, written down a second time.
func isRules(s string) bool {
	for _, m := range greatKey.FindAllStringSubmatch(s, -1) {
		if n, _ := strconv.Atoi(m[1]); n > most32 {
			return false
		}
	}
	return ruleText.MatchString(s)
}

// wornRules is a text of rules, of which something may be another.
func (d drawer) wornRules() string {
	list := d.rules()
	for d.draw.Intn(8) == 0 {
		list = append(list, d.rule())
	}
	text := ""
	for _, r := range list {
		text += impl.RulesPut([]impl.Rule{r})
	}
	words := []string{"byte", "same", "send 4294967295", "send 4294967296", "send 1", "drop", "keep", "\n", " ", "0", "1", "11", "12", "255", "256", "-1", "add", "x", "", "byte 1 less 2 drop\n"}
	for range d.draw.Intn(3) {
		was, is := d.one(words), d.one(words)
		if d.draw.Intn(3) > 0 {
			text = strings.Replace(text, was, is, 1)
			continue
		}
		at := d.draw.Intn(len(text) + 1)
		text = text[:at] + is + text[at:]
	}
	return text
}

func TestP51WhatIsReadAsRulesIsWrittenJustSo(t *testing.T) {
	d := drawer{rand.New(rand.NewSource(41))}
	read := 0
	for range 20000 {
		text := d.wornRules()
		list, ok := impl.RulesGet(text)
		if ok != isRules(text) || !ok && len(list) > 0 {
			t.Fatalf("%q: %v, %v", text, list, ok)
		}
		if ok && (impl.RulesPut(list) != text || !impl.RulesOk(list)) {
			t.Fatalf("%q is %v, that is %q", text, list, impl.RulesPut(list))
		}
		if ok {
			read++
		}
	}
	if !within(read, 5000, 15000) {
		t.Error("so many could be read:", read)
	}
}

func TestP52TheProgramOfRulesDoesWhatTheySay(t *testing.T) {
	d := drawer{rand.New(rand.NewSource(42))}
	var verdicts [3]int
	for range 3000 {
		list := d.rules()
		prog := impl.RulesProg(list)
		if impl.ProofOf(prog, nil).Code != impl.ProofFine || impl.ProofOf(prog, threeTables()).Code != impl.ProofFine {
			t.Fatalf("%v: %s is not let in", list, linesOf(prog))
		}
		for range 5 {
			s := d.start(prog)
			s.Came = d.cameNear(list)
			verdict, key := impl.RulesOf(list, s.Came)
			want := impl.Answer{Ret: verdict, Tables: s.Tables}
			if verdict == impl.VerdictSend {
				want.Sent = []int{key}
			}
			a := impl.RunAll(s)
			want.Steps = a.Steps
			if !sameAnswer(a, want) {
				t.Fatalf("%v of %q are %d, %d, but the program is %+v", list, s.Came, verdict, key, a)
			}
			verdicts[verdict]++
		}
	}
	for verdict, count := range verdicts {
		if count < 1000 {
			t.Error("verdict", verdict, "came", count, "times")
		}
	}
}

func TestP53TheFirstRuleThatHolds(t *testing.T) {
	d := drawer{rand.New(rand.NewSource(43))}
	none := 0
	for range 20000 {
		list := d.rules()
		came := d.cameNear(list)
		verdict, key := impl.RulesOf(list, came)
		first := slices.IndexFunc(list, func(r impl.Rule) bool { return ruleHolds(r, came) })
		if first == -1 {
			none++
			if verdict != impl.VerdictKeep || key != 0 {
				t.Fatalf("%v of %q: none holds, but it is %d, %d", list, came, verdict, key)
			}
			continue
		}
		if verdict != list[first].Verdict || key != list[first].Key {
			t.Fatalf("%v of %q: it is %d, %d", list, came, verdict, key)
		}
		if ahead, none := impl.RulesOf(list[:first], came); ahead != impl.VerdictKeep || none != 0 {
			t.Fatalf("%v of %q: those ahead are %d, %d", list, came, ahead, none)
		}
	}
	if !within(none, 4000, 16000) {
		t.Error("none held", none, "times")
	}
}

// tidied is chapter 9's RulesTidy, written down a second time: each byte's numbers are counted out, as far as a range can tell them.
func tidied(list []impl.Rule) []impl.Rule {
	ends := map[int][2]int{}
	var out []impl.Rule
	for _, r := range list {
		e, known := ends[r.At]
		if !known {
			e = [2]int{0, 255}
		}
		var can, others []int
		for n := e[0]; n <= e[1]; n++ {
			if ruleHolds(impl.Rule{Op: r.Op, Num: r.Num}, string([]byte{byte(n)})) {
				can = append(can, n)
			} else {
				others = append(others, n)
			}
		}
		if len(can) == 0 {
			continue
		}
		out = append(out, r)
		if len(others) == 0 {
			break
		}
		ends[r.At] = [2]int{others[0], others[len(others)-1]}
	}
	return out
}

func TestP54TidiedRulesSayTheSame(t *testing.T) {
	d := drawer{rand.New(rand.NewSource(44))}
	fewer := 0
	for range 6000 {
		list := d.rules()
		tidy := impl.RulesTidy(list)
		if want := tidied(list); !sameList(tidy, want) {
			t.Fatalf("%v are tidied %v, not %v", list, tidy, want)
		}
		if len(tidy) > len(list) || !impl.RulesOk(tidy) || !sameList(impl.RulesTidy(tidy), tidy) {
			t.Fatalf("%v are tidied %v, and once more %v", list, tidy, impl.RulesTidy(tidy))
		}
		if len(tidy) < len(list) {
			fewer++
		}
		for range 20 {
			came := d.cameNear(list)
			verdict, key := impl.RulesOf(list, came)
			if v, k := impl.RulesOf(tidy, came); v != verdict || k != key {
				t.Fatalf("%v of %q are %d, %d, tidied %d, %d", list, came, verdict, key, v, k)
			}
		}
	}
	if !within(fewer, 1500, 4500) {
		t.Error("there were fewer rules", fewer, "times")
	}
}

// Rules of one byte say the same of all that it can be.
func TestP54AllThatAByteCanBe(t *testing.T) {
	d := drawer{rand.New(rand.NewSource(45))}
	for range 300 {
		list := d.rules()
		for i := range list {
			list[i].At = 6
		}
		tidy := impl.RulesTidy(list)
		for n := range 256 {
			verdict, key := impl.RulesOf(list, frameOf(6, n))
			if v, k := impl.RulesOf(tidy, frameOf(6, n)); v != verdict || k != key {
				t.Fatalf("%v of %d are %d, %d, tidied %d, %d", list, n, verdict, key, v, k)
			}
		}
	}
}

func TestP55TidiedRulesMakeNoLongerAProgram(t *testing.T) {
	d := drawer{rand.New(rand.NewSource(46))}
	for range 3000 {
		list := d.rules()
		prog, tidy := impl.RulesProg(list), impl.RulesProg(impl.RulesTidy(list))
		cost, less := impl.SlimCost(prog, nil), impl.SlimCost(tidy, nil)
		if len(tidy) > len(prog) || less > cost || !within(less, 3, 22) || len(prog) > impl.ProgMax {
			t.Fatalf("%v: %d ops that cost %d, tidied %d ops that cost %d", list, len(prog), cost, len(tidy), less)
		}
	}
}
