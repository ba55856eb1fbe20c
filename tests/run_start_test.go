package tests

import (
	"math/rand"
	"slices"
	"strconv"
	"strings"
	"testing"

	"loop.example/steerage/impl"
)

// wrongStarts are starts that are not ok, each for one reason.
func wrongStarts(t *testing.T) map[string]impl.Start {
	out := map[string]impl.Start{"nothing": {}}
	change := func(name string, do func(s *impl.Start)) {
		s := ready(t, "mov r0 1; exit")
		do(&s)
		out[name] = s
	}
	change("no program", func(s *impl.Start) { s.Prog = nil })
	change("an op that is not ok", func(s *impl.Start) { s.Prog[0].Imm = -1 })
	change("a jump to nowhere", func(s *impl.Start) { s.Prog = program(t, "same r1 0 1", "exit") })
	change("a program that is too long", func(s *impl.Start) { s.Prog = filled(impl.ProgMax) })
	change("a program that does not end", func(s *impl.Start) { s.Prog = s.Prog[:1] })
	change("nothing came", func(s *impl.Start) { s.Came = "" })
	change("a byte too few came", func(s *impl.Start) { s.Came = s.Came[1:] })
	change("a byte too many came", func(s *impl.Start) { s.Came += "\x00" })
	change("too many tables", func(s *impl.Start) { s.Tables = append(s.Tables, impl.TableNew(impl.TableRow, 1, 1)) })
	change("no numbers are drawn", func(s *impl.Start) { s.Rands = nil })
	change("too many numbers are drawn", func(s *impl.Start) { s.Rands = []int{1, 2, 3, 4, 5} })
	change("a number below 0 is drawn", func(s *impl.Start) { s.Rands[0] = -1 })
	change("a number above all is drawn", func(s *impl.Start) { s.Rands[2] = most32 + 1 })
	change("too many keys of sockets", func(s *impl.Start) { s.Socks = []int{1, 2, 3, 4, 5} })
	change("a key of a socket below 0", func(s *impl.Start) { s.Socks[2] = -1 })
	change("a key of a socket above all", func(s *impl.Start) { s.Socks[0] = most32 + 1 })
	for name, m := range wrongTables() {
		for i := range impl.TablesMax {
			change("table "+strconv.Itoa(i)+": "+name, func(s *impl.Start) { s.Tables[i] = m })
		}
	}
	return out
}

func TestStartsThatAreNotOk(t *testing.T) {
	for name, s := range wrongStarts(t) {
		if impl.StartOk(s) {
			t.Error(name, "is ok")
		}
		if a := impl.RunAll(s); !sameAnswer(a, impl.Answer{Trap: impl.TrapForm}) {
			t.Error(name, "RunAll", a)
		}
		if trace := impl.RunTrace(s); len(trace) > 0 {
			t.Error(name, "RunTrace", trace)
		}
	}
}

func TestStartsThatAreOk(t *testing.T) {
	for name, do := range map[string]func(s *impl.Start){
		"as it is":                     func(s *impl.Start) {},
		"the longest program":          func(s *impl.Start) { s.Prog = filled(impl.ProgMax - 1) },
		"no tables":                    func(s *impl.Start) { s.Tables = nil },
		"one number":                   func(s *impl.Start) { s.Rands = s.Rands[:1] },
		"four numbers at both ends":    func(s *impl.Start) { s.Rands = []int{0, most32, most32, 0} },
		"no keys of sockets":           func(s *impl.Start) { s.Socks = nil },
		"four keys, one of them twice": func(s *impl.Start) { s.Socks = []int{most32, 0, 0, 5} },
	} {
		s := ready(t, "mov r0 1; exit")
		do(&s)
		if !impl.StartOk(s) {
			t.Error(name, "is not ok")
		}
		if a := impl.RunAll(s); a.Trap != impl.TrapNone || !sameTables(a.Tables, s.Tables) || len(a.Sent) > 0 {
			t.Error(name, "RunAll", a)
		}
		if trace := impl.RunTrace(s); len(trace) != len(s.Prog) {
			t.Error(name, "RunTrace", trace)
		}
	}
}

// runners are programs of ops that have a chance to go on, so that runs are long and go wrong late and in all ways.
func runners(t *testing.T, count int) []impl.Start {
	draw := rand.New(rand.NewSource(4))
	lines := strings.Split("mov r0 0; mov r0 1; mov r1 0; mov r1 1; mov r1 7; mov r2 1; mov r2 2; mov r3 300; mov r6 r0; mov r1 r6; "+
		"add r0 1; mul r0 3; mov r7 r10; sub r7 4; store4 r10 -4 9; load1 r0 r10 -3; load2 r0 r10 -16; store1 r7 0 r0; load4 r8 r1 2; "+
		"call look; call put; call find; call drop; call rand; call send; same r0 0 J; other r0 0 J; less r0 9 J; more r0 r6 J; "+
		"load1 r0 r0 0; store1 r0 0 5; go J; exit", "; ")
	var out []impl.Start
	for range count {
		var list []string
		for range draw.Intn(14) {
			line := lines[draw.Intn(len(lines))]
			list = append(list, strings.ReplaceAll(line, "J", strconv.Itoa(draw.Intn(6)-3)))
		}
		list = append(list, "exit")
		if s := ready(t, strings.Join(list, "; ")); impl.StartOk(s) {
			out = append(out, s)
		}
	}
	return out
}

func TestP27Traces(t *testing.T) {
	var traps [9]int
	for _, s := range runners(t, 60000) {
		a, trace := impl.RunAll(s), impl.RunTrace(s)
		traps[a.Trap]++
		if len(trace) != a.Steps || !within(a.Steps, 1, impl.StepMax) || trace[0] != 0 {
			t.Fatal(s.Prog, a, trace)
		}
		for i, at := range trace[1:] {
			ahead := trace[i]
			x := s.Prog[ahead]
			behind, leads := at == ahead+1, within(x.Op, impl.OpSame, impl.OpGo) && at == ahead+1+x.Off
			if x.Op == impl.OpExit || !leads && (!behind || x.Op == impl.OpGo) {
				t.Fatal(s.Prog, trace)
			}
		}
		last := s.Prog[trace[len(trace)-1]]
		if a.Trap == impl.TrapNone && last.Op != impl.OpExit || a.Trap == impl.TrapStep && len(trace) != impl.StepMax {
			t.Fatal(s.Prog, a, trace)
		}
		if a.Trap != impl.TrapNone && a.Ret != 0 {
			t.Fatal(s.Prog, a)
		}
		for _, m := range a.Tables {
			if !impl.TableOk(m) {
				t.Fatal(s.Prog, m)
			}
		}
		if !sameAnswer(a, impl.RunAll(s)) {
			t.Fatal(s.Prog, "runs otherwise when it is run again")
		}
	}
	for code, count := range traps {
		if code != impl.TrapForm && count == 0 {
			t.Error("no program came to trap", code)
		}
	}
}

func withRoom(list []int) []int {
	return append(slices.Clone(list), 71, 72, 73)[:len(list)]
}

func spoilNumbers(list []int) {
	for i := range list[:cap(list)] {
		list[:cap(list)][i] = -9
	}
}

func TestRunsAreNewMemory(t *testing.T) {
	for _, lines := range []string{
		"mov r0 1; exit",
		"mov r0 r2; exit",
		"mov r1 5; call send; mov r1 1; mov r2 3; mov r3 4; call put; exit",
		"mov r1 0; mov r2 1; call look; store1 r0 0 9; mov r0 0; exit",
		"mov r1 2; mov r2 1; mov r3 4; call put; go -5",
	} {
		given, kept := ready(t, lines), ready(t, lines)
		for i := range given.Tables {
			given.Tables[i], kept.Tables[i] = roomy(given.Tables[i]), roomy(kept.Tables[i])
		}
		given.Rands, given.Socks = withRoom(given.Rands), withRoom(given.Socks)
		a := impl.RunAll(given)
		trace := impl.RunTrace(given)
		b := impl.RunAll(given)
		spoilNumbers(a.Sent)
		spoilNumbers(trace)
		for i := range a.Tables {
			spoil(a.Tables[i])
			if n := i + 1; n < len(a.Tables) && !sameTable(a.Tables[n], b.Tables[n]) {
				t.Errorf("%s: two tables of one answer share memory", lines)
			}
		}
		if spare := a.Tables[:cap(a.Tables)]; len(spare) > 0 {
			clear(spare)
		}
		if !slices.Equal(given.Rands[:6], []int{5, most32, 7, 71, 72, 73}) || !slices.Equal(given.Socks[:6], []int{7, 0, most32, 71, 72, 73}) {
			t.Errorf("%s: %v %v", lines, given.Rands[:6], given.Socks[:6])
		}
		if !sameList(given.Prog, kept.Prog) || !sameTables(given.Tables, kept.Tables) {
			t.Errorf("%s: the start was written into", lines)
		}
		for i, m := range given.Tables {
			n := len(m.Keys) + 3
			if !slices.Equal(m.Keys[:n], kept.Tables[i].Keys[:n]) || !slices.Equal(m.Vals[:n], kept.Tables[i].Vals[:n]) {
				t.Errorf("%s: table %d was written into behind its end", lines, i)
			}
		}
		if !sameAnswer(b, impl.RunAll(given)) {
			t.Errorf("%s: answers share memory", lines)
		}
	}
}
