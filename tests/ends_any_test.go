package tests

import (
	"math/rand"
	"slices"
	"testing"

	"loop.example/steerage/impl"
)

// endsOf is chapter 10's EndsRange, EndsWays and EndsStack, written down a second time, by what ProofKnow tells.
func endsOf(list []impl.Ins, tables []impl.Table) (impl.Range, []int, int) {
	var ends []impl.Range
	var ways []int
	stack := 0
	for at, x := range list {
		know := slices.Collect(slices.Chunk(impl.ProofKnow(list, tables, at), impl.RegMax))
		ways = append(ways, len(know))
		for _, k := range know {
			switch {
			case x.Op == impl.OpExit:
				ends = append(ends, k[0].Range)
			case x.Op == impl.OpLoad && k[x.Src].Kind == impl.KnowStack:
				stack = max(stack, 16-k[x.Src].Low-x.Off)
			case x.Op == impl.OpStore && k[x.Dst].Kind == impl.KnowStack:
				stack = max(stack, 16-k[x.Dst].Low-x.Off)
			}
		}
	}
	for len(ends) > 1 {
		ends = append([]impl.Range{impl.RangeJoin(ends[0], ends[1])}, ends[2:]...)
	}
	return ends[0], ways, stack
}

func TestEndsAreWhatIsKnown(t *testing.T) {
	wide, deep := 0, 0
	for _, p := range letIn(t) {
		wantRange, wantWays, wantStack := endsOf(p.list, threeTables())
		if got := impl.EndsRange(p.list, threeTables()); got != wantRange {
			t.Fatalf("%s: it ends in %+v, not %+v", linesOf(p.list), got, wantRange)
		}
		if got := impl.EndsWays(p.list, threeTables()); !slices.Equal(got, wantWays) {
			t.Fatalf("%s: ways come %v, not %v", linesOf(p.list), got, wantWays)
		}
		if got := impl.EndsStack(p.list, threeTables()); got != wantStack {
			t.Fatalf("%s: the stack is %d deep, not %d", linesOf(p.list), got, wantStack)
		}
		if wantRange.Min < wantRange.Max {
			wide++
		}
		if wantStack > 0 {
			deep++
		}
	}
	if wide < 500 || deep < 500 {
		t.Error("there are too few that end in more than one number, or have a stack:", wide, deep)
	}
}

func TestP56WhatIsGivenBackIsOfWhatMayBe(t *testing.T) {
	d := drawer{rand.New(rand.NewSource(50))}
	others := 0
	for _, p := range letIn(t) {
		ends := impl.EndsRange(p.list, threeTables())
		for range 4 {
			a := impl.RunAll(d.start(p.list))
			if a.Trap != impl.TrapNone || !impl.RangeHas(ends, a.Ret) {
				t.Fatalf("%s: %+v, that is not of %+v", linesOf(p.list), a, ends)
			}
			if ends.Min != ends.Max {
				others++
			}
		}
	}
	if others < 2000 {
		t.Error("too few could have been others:", others)
	}
}

func TestP57WhatMayBeGivenBackIsKnown(t *testing.T) {
	for _, p := range drawnAndProved(t) {
		ends := impl.EndsRange(p.list, threeTables())
		if impl.RangeSome(ends) != (p.proof.Code == impl.ProofFine) {
			t.Fatalf("%s: the proof is %+v, it ends in %+v", linesOf(p.list), p.proof, ends)
		}
		if p.proof.Code != impl.ProofFine && ends != (impl.Range{Min: 1}) {
			t.Fatalf("%s: it is not let in, but ends in %+v", linesOf(p.list), ends)
		}
		if few := impl.EndsRange(impl.SlimOf(p.list, threeTables()), threeTables()); few != ends {
			t.Fatalf("%s: it ends in %+v, slim in %+v", linesOf(p.list), ends, few)
		}
	}
}

func TestP58WaysAreToldOfEachOp(t *testing.T) {
	for _, p := range drawnAndProved(t) {
		ways := impl.EndsWays(p.list, threeTables())
		if p.proof.Code != impl.ProofFine {
			if len(ways) > 0 {
				t.Fatalf("%s: it is not let in, but ways come %v", linesOf(p.list), ways)
			}
			continue
		}
		count, total := 0, 0
		for at, n := range ways {
			if know := impl.ProofKnow(p.list, threeTables(), at); n*impl.RegMax != len(know) {
				t.Fatalf("%s: to op %d ways come %d times, %d are known", linesOf(p.list), at, n, len(know))
			}
			total += n
			if n != 0 {
				count++
			}
		}
		if len(ways) != len(p.list) || ways[0] < 1 || count != len(impl.SlimLive(p.list, threeTables())) || !within(total, p.proof.Most, impl.WorkMax) {
			t.Fatalf("%s: ways come %v", linesOf(p.list), ways)
		}
	}
}

func TestP59TheStackIsNoDeeperThanItIs(t *testing.T) {
	for _, p := range drawnAndProved(t) {
		stack := impl.EndsStack(p.list, threeTables())
		if p.proof.Code != impl.ProofFine && stack != -1 || p.proof.Code == impl.ProofFine && !within(stack, 0, impl.StackMax) {
			t.Fatalf("%s: the proof is %+v, the stack %d deep", linesOf(p.list), p.proof, stack)
		}
		if few := impl.EndsStack(impl.SlimOf(p.list, threeTables()), threeTables()); few != stack {
			t.Fatalf("%s: the stack is %d deep, slim %d", linesOf(p.list), stack, few)
		}
	}
}

// What is known of the ends of rules is of verdicts alone.
func TestEndsOfRules(t *testing.T) {
	d := drawer{rand.New(rand.NewSource(51))}
	for range 1000 {
		prog := impl.RulesProg(d.rules())
		ends, ways := impl.EndsRange(prog, nil), impl.EndsWays(prog, nil)
		if !within(ends.Min, impl.VerdictDrop, impl.VerdictKeep) || !within(ends.Max, impl.VerdictKeep, impl.VerdictSend) || impl.EndsStack(prog, nil) != 0 || slices.Max(ways) != 1 {
			t.Fatalf("%s: %+v, %v", linesOf(prog), ends, ways)
		}
	}
}

func TestEndsAreNewMemory(t *testing.T) {
	for _, p := range letIn(t)[:300] {
		g, kept := newGiven(p.list), newGiven(p.list)
		ways := impl.EndsWays(g.list, g.tables)
		want := slices.Clone(ways)
		spoilNumbers(ways)
		impl.EndsRange(g.list, g.tables)
		impl.EndsStack(g.list, g.tables)
		if !g.same(kept) {
			t.Fatalf("%s: what was given was written into", linesOf(p.list))
		}
		if !slices.Equal(impl.EndsWays(g.list, g.tables), want) {
			t.Fatalf("%s: answers share memory", linesOf(p.list))
		}
	}
}
