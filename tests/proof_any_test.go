package tests

import (
	"math/rand"
	"slices"
	"strconv"
	"strings"
	"sync"
	"testing"

	"loop.example/steerage/impl"
)

// pieces have a chance to be let in, one behind the other: r9 has what came, r6 and r7 numbers.
// N is any small number, D one below 0, B one at an edge, T a table, W one of the ops that reckon, S a size, J where a jump goes on.
func pieces() []string {
	return []string{
		"loadS r6 r9 N", "loadS r7 r9 N", "W r6 r7", "W r7 r6", "W r6 B", "W r7 N", "W r6 r6", "mov r6 B", "mov r8 r6; W r8 B; mov r7 r8",
		"less r6 N J", "more r6 r7 J", "less r7 B J", "more r6 B J", "same r6 N J", "other r6 r7 J", "same r7 r7 J", "less r6 r6 J", "other r6 0 J", "go J",
		"and r6 7; mov r8 r9; add r8 r6; loadS r7 r8 N", "and r7 15; more r7 N 3; mov r8 r9; add r8 r7; loadS r6 r8 1",
		"mod r6 5; mov r8 r9; add r8 9; sub r8 r6; loadS r6 r8 D", "less r7 9 1; mov r7 2; mov r8 r9; add r8 r7; load2 r6 r8 2",
		"storeS r10 D r6", "loadS r6 r10 D", "mov r8 r10; sub r8 N; storeS r8 0 B", "mov r8 r10; and r6 3; sub r8 r6; storeS r8 D r7",
		"store4 r10 -4 B; store4 r10 -8 r6; mov r8 r10; shr r7 30; sub r8 r7; load1 r7 r8 D",
		"mov r1 T; mov r2 r6; call look; same r0 0 1; loadS r6 r0 N", "mov r1 T; mov r2 N; call look; mov r8 r0; other r8 0 1; go 1; storeS r0 0 r7",
		"mov r1 T; mov r2 N; call look; mov r8 r0; same r8 0 3; and r6 3; add r0 r6; storeS r0 0 r7",
		"mov r1 T; mov r2 r6; mov r3 r7; call put; mov r6 r0", "mov r1 r6; and r1 1; mov r2 0; call look",
		"mov r1 N; call find; same r0 0 2; mov r1 r0; call drop", "mov r1 B; call find; mov r8 r0; other r8 0 1; go 2; mov r1 r0; call drop", "mov r1 r6; call find; mov r8 r0; same r0 0 2; mov r1 r8; call drop",
		"call rand; mov r6 r0", "call rand; and r0 B; mov r7 r0", "mov r1 r6; call send", "mov r8 r9; same r8 0 1; mov r6 N", "mov r0 r6; exit", "mov r0 N; exit",
		"mov r7 0; add r7 N; less r7 20 -2", "mov r6 r8", "add r9 N", "mov r0 r0", "mov r1 N; call find; mov r6 5",
	}
}

type drawer struct {
	draw *rand.Rand
}

func (d drawer) one(list []string) string {
	return list[d.draw.Intn(len(list))]
}

func (d drawer) filledIn(line string) string {
	words := []string{"add", "sub", "mul", "and", "or", "xor", "shl", "shr", "div", "mod"}
	edges := []string{"0", "1", "2", "3", "7", "8", "15", "31", "255", "256", "65535", "2147483647", "2147483648", "4294967280", "4294967294", "4294967295"}
	sizes := []string{"1", "1", "2", "4"}
	return strings.NewReplacer(
		"N", strconv.Itoa(d.draw.Intn(9)), "D", strconv.Itoa(-1-d.draw.Intn(8)), "B", d.one(edges), "T", strconv.Itoa(d.draw.Intn(3)),
		"W", d.one(words), "S", d.one(sizes), "J", strconv.Itoa(d.draw.Intn(9)-2),
	).Replace(line)
}

// drawn is a program that can be, most often.
func (d drawer) drawn(t *testing.T) []impl.Ins {
	all := []string{"mov r9 r1", "loadS r6 r9 N", "mov r7 B", "mov r0 N"}
	for range 1 + d.draw.Intn(7) {
		all = append(all, d.one(pieces()))
	}
	all = append(all, "mov r0 r6", "exit")
	var lines []string
	for _, piece := range all {
		lines = append(lines, strings.Split(d.filledIn(piece), "; ")...)
	}
	return program(t, lines...)
}

func (d drawer) number() int {
	edges := []int{0, 0, 1, 2, 7, 8, 255, 1<<31 - 1, 1 << 31, most32 - 1, most32}
	if d.draw.Intn(2) == 0 {
		return edges[d.draw.Intn(len(edges))]
	}
	return d.draw.Intn(most32 + 1)
}

func (d drawer) numbers(least int) []int {
	var out []int
	for range least + d.draw.Intn(4) {
		out = append(out, d.number())
	}
	return out
}

func (d drawer) bytes(size int) string {
	out := make([]byte, size)
	for i := range out {
		out[i] = byte(d.number())
	}
	return string(out)
}

// start is any start of a program, its tables being of three kinds, whatever stands in them.
func (d drawer) start(list []impl.Ins) impl.Start {
	s := impl.Start{Prog: list, Came: d.bytes(12), Rands: d.numbers(1), Socks: append(d.numbers(0), d.draw.Intn(9))}
	for _, m := range threeTables() {
		for range d.draw.Intn(9) {
			key := d.number()
			if d.draw.Intn(2) == 0 {
				key = d.draw.Intn(9)
			}
			m, _ = impl.TablePut(m, key, d.bytes(m.Size))
		}
		s.Tables = append(s.Tables, m)
	}
	return s
}

type proved struct {
	list  []impl.Ins
	proof impl.Proof
}

var drawnOnce sync.Once
var drawnPrograms []proved

// drawnAndProved are programs that can be, about half of them let in, with tables of the three kinds.
func drawnAndProved(t *testing.T) []proved {
	drawnOnce.Do(func() {
		d := drawer{rand.New(rand.NewSource(5))}
		for range 12000 {
			if list := d.drawn(t); impl.ProgForm(list) == impl.FormFine {
				drawnPrograms = append(drawnPrograms, proved{list, impl.ProofOf(list, threeTables())})
			}
		}
	})
	return drawnPrograms
}

func letIn(t *testing.T) []proved {
	return slices.DeleteFunc(slices.Clone(drawnAndProved(t)), func(p proved) bool { return p.proof.Code != impl.ProofFine })
}

func linesOf(list []impl.Ins) string {
	var lines []string
	for _, x := range list {
		lines = append(lines, impl.LinePut(x))
	}
	return strings.Join(lines, "; ")
}

func TestP26WhoIsLetInNeverGoesWrong(t *testing.T) {
	d := drawer{rand.New(rand.NewSource(6))}
	programs := letIn(t)
	if len(programs) < 3000 {
		t.Fatal("there are too few programs that are let in:", len(programs))
	}
	met := 0
	for _, p := range programs {
		for range 3 {
			s := d.start(p.list)
			a := impl.RunAll(s)
			if a.Trap != impl.TrapNone || !within(a.Steps, 1, p.proof.Most) || !impl.StartOk(s) {
				t.Fatalf("%s: %+v, but the proof is %+v; %+v", linesOf(p.list), a, p.proof, s)
			}
			if a.Steps == p.proof.Most {
				met++
			}
			for _, m := range a.Tables {
				if !impl.TableOk(m) {
					t.Fatalf("%s: %+v", linesOf(p.list), m)
				}
			}
		}
	}
	if met < len(programs) {
		t.Error("programs seldom do as many ops as they may:", met)
	}
}

// What a run gives back is of what is known of register 0 ahead of the exit that it came to, on one of the ways.
func TestP26WhatIsKnownIsSo(t *testing.T) {
	d := drawer{rand.New(rand.NewSource(7))}
	for _, p := range letIn(t) {
		s := d.start(p.list)
		ret, trace := impl.RunAll(s).Ret, impl.RunTrace(s)
		know := impl.ProofKnow(p.list, s.Tables, trace[len(trace)-1])
		if !slices.ContainsFunc(slices.Collect(slices.Chunk(know, impl.RegMax)), func(k []impl.Know) bool {
			return k[0].Kind == impl.KnowNum && impl.RangeHas(k[0].Range, ret)
		}) {
			t.Fatalf("%s: %d is not of %+v", linesOf(p.list), ret, know)
		}
	}
}

// Programs that go wrong, whatever comes, are not let in.
func TestP26WhatGoesWrongIsNotLetIn(t *testing.T) {
	for _, s := range runners(t, 20000) {
		a, p := impl.RunAll(s), impl.ProofOf(s.Prog, s.Tables)
		if p.Code == impl.ProofFine && (a.Trap != impl.TrapNone || a.Steps > p.Most) {
			t.Fatalf("%s: %+v, but the proof is %+v", linesOf(s.Prog), a, p)
		}
	}
}

func TestP28WhoIsLetInCanBe(t *testing.T) {
	check := func(list []impl.Ins, tables []impl.Table) int {
		p := impl.ProofOf(list, tables)
		fine := p.At == 0 && within(p.Most, 1, impl.StepMax) && impl.ProgForm(list) == impl.FormFine
		form := p.At == 0 && p.Most == 0 && impl.ProgForm(list) != impl.FormFine
		wrong := within(p.At, 0, len(list)-1) && p.Most == 0 && impl.ProgForm(list) == impl.FormFine
		if p.Code == impl.ProofFine && !fine || p.Code == impl.ProofForm && !form || p.Code > impl.ProofForm && !wrong || !within(p.Code, 0, 8) {
			t.Fatalf("%s: %+v", linesOf(list), p)
		}
		return p.Code
	}
	var codes [9]int
	for _, p := range drawnAndProved(t) {
		codes[check(p.list, threeTables())]++
	}
	for _, list := range somePrograms(20000) {
		codes[check(list, nil)]++
	}
	for code, count := range codes {
		if count == 0 {
			t.Error("no program came to code", code)
		}
	}
}

// wrongProofs are programs that cannot be, and tables that are not ok.
func wrongProofs(t *testing.T) map[string]impl.Start {
	out := wrongStarts(t)
	for name, s := range out {
		// What comes, is drawn, or has a key is nothing to a proof.
		if impl.ProgForm(s.Prog) == impl.FormFine && len(s.Tables) <= impl.TablesMax && !slices.ContainsFunc(s.Tables, func(m impl.Table) bool { return !impl.TableOk(m) }) {
			delete(out, name)
		}
	}
	return out
}

func TestP28WrongInputs(t *testing.T) {
	wrong := wrongProofs(t)
	if len(wrong) < 20 {
		t.Fatal("there are too few wrong inputs:", len(wrong))
	}
	for name, s := range wrong {
		if p := impl.ProofOf(s.Prog, s.Tables); p != (impl.Proof{Code: impl.ProofForm}) {
			t.Errorf("%s: %+v", name, p)
		}
		for _, at := range []int{-1, 0, 1} {
			if know := impl.ProofKnow(s.Prog, s.Tables, at); len(know) > 0 {
				t.Errorf("%s: %+v", name, know)
			}
		}
	}
	list := program(t, "mov r0 1", "exit")
	four := append(threeTables(), impl.TableNew(impl.TableRow, 1, 1))
	if p := impl.ProofOf(list, four); p.Code != impl.ProofForm {
		t.Error("with four tables:", p)
	}
	if p := impl.ProofOf(list, four[:3]); p != (impl.Proof{Most: 2}) {
		t.Error("with three tables:", p)
	}
	if p := impl.ProofOf(filled(impl.ProgMax-1), nil); p != (impl.Proof{Most: impl.ProgMax}) {
		t.Error("the longest program:", p)
	}
	if p := impl.ProofOf(filled(impl.ProgMax), nil); p != (impl.Proof{Code: impl.ProofForm}) {
		t.Error("one op more:", p)
	}
}

func TestP29WhatStandsInTablesDoesNotMatter(t *testing.T) {
	d := drawer{rand.New(rand.NewSource(8))}
	for _, p := range drawnAndProved(t) {
		tables := d.start(p.list).Tables
		var empty []impl.Table
		for _, m := range tables {
			empty = append(empty, impl.TableNew(m.Kind, m.Size, m.Room))
		}
		if a, b := impl.ProofOf(p.list, tables), impl.ProofOf(p.list, empty); a != p.proof || b != p.proof {
			t.Fatalf("%s: %+v, %+v, not %+v", linesOf(p.list), a, b, p.proof)
		}
		at := d.draw.Intn(len(p.list))
		if a, b := impl.ProofKnow(p.list, tables, at), impl.ProofKnow(p.list, empty, at); !sameList(a, b) {
			t.Fatalf("%s: at %d %+v, %+v", linesOf(p.list), at, a, b)
		}
	}
}

func knowOk(k impl.Know) bool {
	ok := k.Id == 0 && impl.RangeOk(k.Range) && k.Low <= k.High && within(k.Low, -impl.FarMax, impl.FarMax) && within(k.High, -impl.FarMax, impl.FarMax)
	if k.Kind == impl.KnowNum {
		ok = ok && impl.RangeSome(k.Range)
		k.Range = impl.Range{}
	}
	if k.Kind == impl.KnowStack || k.Kind == impl.KnowCame || k.Kind == impl.KnowTable {
		k.Low, k.High = 0, 0
	}
	if k.Kind == impl.KnowTable || k.Kind == impl.KnowMaybe {
		ok = ok && within(k.Table, 0, 2)
		k.Table = 0
	}
	// All that a kind does not have is nothing.
	return ok && within(k.Kind, 0, 7) && k == impl.Know{Kind: k.Kind}
}

func TestP30WhatIsKnownIsOfAllRegisters(t *testing.T) {
	var kinds [8]int
	for _, p := range letIn(t) {
		comes := 0
		for at := range p.list {
			know := impl.ProofKnow(p.list, threeTables(), at)
			if len(know)%impl.RegMax != 0 {
				t.Fatalf("%s: at %d there are %d", linesOf(p.list), at, len(know))
			}
			for i, k := range know {
				kinds[k.Kind]++
				if !knowOk(k) || i%impl.RegMax == 10 && k != place(impl.KnowStack, 16, 16, 0) {
					t.Fatalf("%s: at %d register %d is %+v", linesOf(p.list), at, i%impl.RegMax, k)
				}
			}
			comes += len(know) / impl.RegMax
		}
		first := impl.ProofKnow(p.list, threeTables(), 0)
		if len(first) == 0 || first[1] != place(impl.KnowCame, 0, 0, 0) || first[0] != (impl.Know{}) {
			t.Fatalf("%s: at first %+v", linesOf(p.list), first)
		}
		if !within(comes, p.proof.Most, impl.WorkMax) {
			t.Fatalf("%s: ways come %d times, and one of them has %d ops", linesOf(p.list), comes, p.proof.Most)
		}
	}
	for kind, count := range kinds {
		if count == 0 {
			t.Error("no program came to kind", kind)
		}
	}
}

// given is a program and tables with room behind their ends, so that what is written there is seen.
type given struct {
	list   []impl.Ins
	tables []impl.Table
}

func newGiven(list []impl.Ins) given {
	g := given{list: append(slices.Clone(list), impl.Ins{Op: 71}, impl.Ins{Op: 72})[:len(list)]}
	for _, m := range threeTables() {
		g.tables = append(g.tables, roomy(m))
	}
	return g
}

func (g given) same(other given) bool {
	all := func(list []impl.Ins) []impl.Ins { return list[:len(list)+2] }
	for i, m := range g.tables {
		n, was := len(m.Keys)+3, other.tables[i]
		if !sameTable(m, was) || !slices.Equal(m.Keys[:n], was.Keys[:n]) || !slices.Equal(m.Vals[:n], was.Vals[:n]) {
			return false
		}
	}
	return slices.Equal(all(g.list), all(other.list))
}

func TestProofsAreNewMemory(t *testing.T) {
	for _, p := range drawnAndProved(t)[:300] {
		g, kept := newGiven(p.list), newGiven(p.list)
		for at := range p.list {
			know := impl.ProofKnow(g.list, g.tables, at)
			again := impl.ProofKnow(g.list, g.tables, at)
			spare := know[:cap(know)]
			for i := range spare {
				spare[i] = impl.Know{Kind: 77}
			}
			if !sameList(again, impl.ProofKnow(g.list, g.tables, at)) {
				t.Fatalf("%s: answers share memory", linesOf(p.list))
			}
		}
		if impl.ProofOf(g.list, g.tables) != p.proof || !g.same(kept) {
			t.Fatalf("%s: what was given was written into", linesOf(p.list))
		}
	}
}
