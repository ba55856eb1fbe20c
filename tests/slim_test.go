package tests

import (
	"math/rand"
	"slices"
	"strings"
	"testing"

	"loop.example/steerage/impl"
)

type slimCase struct {
	lines string
	live  []int
	slim  string
	cost  int
}

func wantSlim(t *testing.T, cases []slimCase) {
	t.Helper()
	for _, c := range cases {
		list := program(t, strings.Split(c.lines, "; ")...)
		if live := impl.SlimLive(list, threeTables()); !sameList(live, c.live) {
			t.Errorf("%s: ways come to %v, not %v", c.lines, live, c.live)
		}
		if few := linesOf(impl.SlimOf(list, threeTables())); few != c.slim {
			t.Errorf("%s: slim it is %s, not %s", c.lines, few, c.slim)
		}
		if cost := impl.SlimCost(list, threeTables()); cost != c.cost {
			t.Errorf("%s: it costs %d, not %d", c.lines, cost, c.cost)
		}
	}
}

func TestSlimWhatStays(t *testing.T) {
	wantSlim(t, []slimCase{
		{"mov r0 1; exit", []int{0, 1}, "mov r0 1; exit", 2},
		{"mov r0 1; exit; exit", []int{0, 1}, "mov r0 1; exit", 2},
		{"mov r0 1; exit; mov r0 2; load1 r0 r2 0; exit", []int{0, 1}, "mov r0 1; exit", 2},
		{"go 0; mov r0 1; exit", []int{0, 1, 2}, "go 0; mov r0 1; exit", 3},
		{"go 1; exit; mov r0 1; exit", []int{0, 2, 3}, "go 0; mov r0 1; exit", 3},
		{"mov r0 1; go 3; exit; mov r0 2; exit; mov r0 3; exit", []int{0, 1, 5, 6}, "mov r0 1; go 0; mov r0 3; exit", 4},
		{"go 2; mov r0 1; exit; go -3", []int{0, 1, 2, 3}, "go 2; mov r0 1; exit; go -3", 4},
		{"go 3; mov r0 1; exit; exit; mov r6 1; go -5", []int{0, 1, 2, 4, 5}, "go 2; mov r0 1; exit; mov r6 1; go -4", 5},
		{"load1 r0 r1 0; less r0 5 2; exit; exit; mov r0 9; exit", []int{0, 1, 2, 4, 5}, "load1 r0 r1 0; less r0 5 1; exit; mov r0 9; exit", 4},
		{"mov r0 0; go 1; mov r0 9; add r0 1; less r0 5 -2; exit", []int{0, 1, 3, 4, 5}, "mov r0 0; go 0; add r0 1; less r0 5 -2; exit", 13},
		{"mov r0 0; add r0 1; go 1; mov r0 9; less r0 5 -4; exit", []int{0, 1, 2, 4, 5}, "mov r0 0; add r0 1; go 0; less r0 5 -3; exit", 17},
	})
}

// A jump of which one side is not followed stays, and leads to the next op that does.
func TestSlimASideToWhichNoWayLeads(t *testing.T) {
	wantSlim(t, []slimCase{
		{"mov r0 1; more r0 5 1; go 1; mov r0 9; exit; go -2", []int{0, 1, 2, 4}, "mov r0 1; more r0 5 1; go 0; exit", 4},
		{"mov r0 1; more r0 5 2; go 2; mov r0 9; mov r0 8; exit", []int{0, 1, 2, 5}, "mov r0 1; more r0 5 1; go 0; exit", 4},
		{"mov r0 1; less r0 5 1; mov r0 r2; exit", []int{0, 1, 3}, "mov r0 1; less r0 5 0; exit", 3},
		{"mov r0 1; other r1 0 2; mov r0 r2; exit; mov r0 3; exit", []int{0, 1, 4, 5}, "mov r0 1; other r1 0 0; mov r0 3; exit", 4},
		{"mov r0 1; go 2; mov r0 2; exit; more r0 5 -3; exit", []int{0, 1, 4, 5}, "mov r0 1; go 0; more r0 5 -1; exit", 4},
		{"mov r0 1; go 1; mov r0 2; more r0 5 -3; exit", []int{0, 1, 3, 4}, "mov r0 1; go 0; more r0 5 -2; exit", 4},
	})
}

// Where no op stays behind, or the last one that stays may go on, there is no slim program: it is as it was.
func TestSlimAsItWas(t *testing.T) {
	for _, c := range []slimCase{
		{"mov r0 1; more r0 5 1; exit; load1 r0 r0 0; exit", []int{0, 1, 2}, "", 3},
		{"mov r0 1; same r1 0 2; exit; exit; exit", []int{0, 1, 2}, "", 3},
		{"go 2; mov r0 0; exit; other r10 0 -3; exit", []int{0, 1, 2, 3}, "", 4},
	} {
		c.slim = c.lines
		wantSlim(t, []slimCase{c})
	}
}

func TestSlimWhatIsNotLetIn(t *testing.T) {
	check := func(name string, list []impl.Ins, tables []impl.Table) {
		if live := impl.SlimLive(list, tables); len(live) > 0 {
			t.Error(name, "SlimLive", live)
		}
		if few := impl.SlimOf(list, tables); len(few) > 0 {
			t.Error(name, "SlimOf", few)
		}
		if cost := impl.SlimCost(list, tables); cost != -1 {
			t.Error(name, "SlimCost", cost)
		}
	}
	for name, s := range wrongProofs(t) {
		check(name, s.Prog, s.Tables)
	}
	for _, lines := range []string{
		"exit", "mov r0 r10; exit", "load1 r0 r1 12; exit", "load1 r0 r10 -1; exit", "mov r1 9; mov r2 0; call look; exit",
		find + "mov r0 0; exit", "go -1", "mov r0 1; less r0 5 2; exit; exit; go -4", "load1 r0 r1 0; less r0 5 1; exit; mov r0 r2; exit",
	} {
		check(lines, program(t, strings.Split(lines, "; ")...), threeTables())
	}
	list := program(t, "mov r0 1", "exit")
	if cost := impl.SlimCost(list, append(threeTables(), threeTables()[0])); cost != -1 {
		t.Error("with four tables it costs", cost)
	}
	wantSlim(t, []slimCase{
		{long(1, 148), []int{0, 1, 2, 3, 4, 5}, long(1, 148), 300},
		{long(2, 148), nil, "", -1},
	})
}

func TestP31ARunComesOnlyToWhereAWayLeads(t *testing.T) {
	d := drawer{rand.New(rand.NewSource(10))}
	for _, p := range letIn(t) {
		live := impl.SlimLive(p.list, threeTables())
		for range 2 {
			for _, at := range impl.RunTrace(d.start(p.list)) {
				if !slices.Contains(live, at) {
					t.Fatalf("%s: a run comes to op %d, a way to %v alone", linesOf(p.list), at, live)
				}
			}
		}
	}
}

func TestP32SomethingIsKnownWhereAWayLeads(t *testing.T) {
	dead := 0
	for _, p := range drawnAndProved(t) {
		live := impl.SlimLive(p.list, threeTables())
		if p.proof.Code != impl.ProofFine {
			if len(live) > 0 {
				t.Fatalf("%s: ways of what is not let in come to %v", linesOf(p.list), live)
			}
			continue
		}
		var want []int
		for at := range p.list {
			if len(impl.ProofKnow(p.list, threeTables(), at)) > 0 {
				want = append(want, at)
			}
		}
		if !sameList(live, want) || live[0] != 0 {
			t.Fatalf("%s: ways come to %v, something is known of %v", linesOf(p.list), live, want)
		}
		dead += len(p.list) - len(live)
	}
	if dead < 1000 {
		t.Error("there are too few ops to which no way leads:", dead)
	}
}

func TestP33ASlimProgramIsLetIn(t *testing.T) {
	slimmer, whole := 0, 0
	for _, p := range letIn(t) {
		few := impl.SlimOf(p.list, threeTables())
		cost := impl.SlimCost(few, threeTables())
		if len(few) > len(p.list) || impl.ProofOf(few, threeTables()) != p.proof || cost != p.proof.Most {
			t.Fatalf("%s: slim it is %s, and costs %d", linesOf(p.list), linesOf(few), cost)
		}
		if again := impl.SlimOf(few, threeTables()); !sameList(again, few) {
			t.Fatalf("%s: slim it is %s, and once more %s", linesOf(p.list), linesOf(few), linesOf(again))
		}
		live := impl.SlimLive(p.list, threeTables())
		if len(few) == len(live) && len(few) < len(p.list) {
			slimmer++
		}
		if len(few) > len(live) {
			whole++
		}
		if len(few) != len(live) && !sameList(few, p.list) {
			t.Fatalf("%s: slim it is %s, but ways come to %v", linesOf(p.list), linesOf(few), live)
		}
	}
	if slimmer < 500 {
		t.Error("there are too few slim programs:", slimmer, whole)
	}
}

func TestP34ASlimProgramDoesTheSame(t *testing.T) {
	d := drawer{rand.New(rand.NewSource(11))}
	for _, p := range letIn(t) {
		few := impl.SlimOf(p.list, threeTables())
		for range 2 {
			s := d.start(p.list)
			a := impl.RunAll(s)
			s.Prog = few
			if b := impl.RunAll(s); !sameAnswer(a, b) {
				t.Fatalf("%s: %+v, and slim, %s: %+v", linesOf(p.list), a, linesOf(few), b)
			}
		}
	}
}

func TestP35WhatAProgramCosts(t *testing.T) {
	ahead := program(t, "mov r5 0")
	for _, p := range drawnAndProved(t) {
		cost := impl.SlimCost(p.list, threeTables())
		more := impl.SlimCost(slices.Concat(ahead, p.list), threeTables())
		if p.proof.Code != impl.ProofFine {
			if cost != -1 {
				t.Fatalf("%s: it costs %d, but is not let in", linesOf(p.list), cost)
			}
			continue
		}
		if cost != p.proof.Most || more != cost+1 && more != -1 {
			t.Fatalf("%s: it costs %d, and with an op ahead %d; the proof is %+v", linesOf(p.list), cost, more, p.proof)
		}
		if more == -1 && len(p.list) < impl.ProgMax && cost < impl.StepMax && comings(t, p.list) < impl.WorkMax {
			t.Fatalf("%s: with an op ahead it is not let in", linesOf(p.list))
		}
	}
	longest := program(t, strings.Split(long(1, 148), "; ")...)
	if more := impl.SlimCost(slices.Concat(ahead, longest), nil); more != -1 {
		t.Error("with an op ahead of the longest way it costs", more)
	}
	if more := impl.SlimCost(slices.Concat(ahead, filled(impl.ProgMax-1)), nil); more != -1 {
		t.Error("with an op ahead of the longest program it costs", more)
	}
}

func comings(t *testing.T, list []impl.Ins) int {
	t.Helper()
	count := 0
	for at := range list {
		count += len(impl.ProofKnow(list, threeTables(), at)) / impl.RegMax
	}
	return count
}

func TestSlimProgramsAreNewMemory(t *testing.T) {
	spoilOps := func(list []impl.Ins) {
		clear(list[:cap(list)])
	}
	programs := letIn(t)[:300]
	for _, lines := range []string{"mov r0 1; more r0 5 1; exit; load1 r0 r0 0; exit", "mov r0 1; exit"} {
		programs = append(programs, proved{list: program(t, strings.Split(lines, "; ")...)})
	}
	for _, p := range programs {
		g, kept := newGiven(p.list), newGiven(p.list)
		live, few := impl.SlimLive(g.list, g.tables), impl.SlimOf(g.list, g.tables)
		impl.SlimCost(g.list, g.tables)
		wantLive, wantFew := slices.Clone(live), slices.Clone(few)
		spoilNumbers(live)
		spoilOps(few)
		if !g.same(kept) {
			t.Fatalf("%s: what was given was written into", linesOf(p.list))
		}
		if !sameList(impl.SlimLive(g.list, g.tables), wantLive) || !sameList(impl.SlimOf(g.list, g.tables), wantFew) {
			t.Fatalf("%s: answers share memory", linesOf(p.list))
		}
	}
}
