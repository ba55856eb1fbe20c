package tests

import (
	"slices"
	"strconv"
	"strings"
	"testing"

	"loop.example/steerage/impl"
)

func sameTables(a []impl.Table, b []impl.Table) bool {
	return slices.EqualFunc(a, b, sameTable)
}

func sameAnswer(a impl.Answer, b impl.Answer) bool {
	return a.Trap == b.Trap && a.Ret == b.Ret && a.Steps == b.Steps && sameList(a.Sent, b.Sent) && sameTables(a.Tables, b.Tables)
}

// wantTables holds what a run leaves in its tables against the values that are told, by table, all else being as it was.
func wantTables(t *testing.T, lines string, want map[int]impl.Table) {
	t.Helper()
	s := ready(t, lines)
	tables := ready(t, lines).Tables
	for i, m := range want {
		m.Kind, m.Size, m.Room = tables[i].Kind, tables[i].Size, tables[i].Room
		tables[i] = m
	}
	if a := impl.RunAll(s); !sameTables(a.Tables, tables) {
		t.Errorf("%s: tables are %+v, not %+v", lines, a.Tables, tables)
	}
	if !sameTables(s.Tables, ready(t, lines).Tables) {
		t.Errorf("%s: the start's tables are %+v now", lines, s.Tables)
	}
}

// calls are each call with all that it asks for, and what it gives.
func calls() []runCase {
	return []runCase{
		{"mov r1 1; mov r2 9; call look", impl.TrapNone, 0, 3},
		{"mov r1 1; mov r2 9; mov r3 5; call put", impl.TrapNone, 0, 4},
		{"mov r1 8; call find", impl.TrapNone, 0, 2},
		{"mov r1 7; call find; mov r1 r0; call drop", impl.TrapNone, 0, 4},
		{"call rand", impl.TrapNone, 5, 1},
		{"mov r1 6; call send", impl.TrapNone, 0, 2},
	}
}

func TestRunRegistersBehindACall(t *testing.T) {
	var fill []string
	for n := 0; n <= 9; n++ {
		fill = append(fill, "mov r"+strconv.Itoa(n)+" "+strconv.Itoa(40+n))
	}
	begin := strings.Join(fill, "; ") + "; "
	for _, c := range calls() {
		wantRuns(t, []runCase{{begin + c.lines + "; exit", impl.TrapNone, c.ret, c.steps + 11}})
		for n := 1; n <= 5; n++ {
			wantRuns(t, []runCase{{begin + c.lines + "; mov r0 r" + strconv.Itoa(n) + "; exit", impl.TrapRead, 0, c.steps + 11}})
		}
		for n := 6; n <= 9; n++ {
			wantRuns(t, []runCase{{begin + c.lines + "; mov r0 r" + strconv.Itoa(n) + "; exit", impl.TrapNone, 40 + n, c.steps + 12}})
		}
		wantRuns(t, []runCase{{begin + c.lines + "; store1 r10 -1 6; load1 r0 r10 -1; exit", impl.TrapNone, 6, c.steps + 13}})
	}
}

// A register that has nothing goes wrong ahead of one that has what it must not, whichever comes first; both go ahead of the table.
func TestRunCallsGoWrong(t *testing.T) {
	wantRuns(t, []runCase{
		{"call rand; mov r2 1; call look; exit", impl.TrapRead, 0, 3},
		{"mov r1 0; call look; exit", impl.TrapRead, 0, 2},
		{"call look; exit", impl.TrapRead, 0, 1},
		{"mov r1 9; call look; exit", impl.TrapRead, 0, 2},
		{"mov r2 1; call look; exit", impl.TrapKind, 0, 2},
		{"mov r1 0; mov r2 r10; call look; exit", impl.TrapKind, 0, 3},
		{"mov r1 3; mov r2 r10; call look; exit", impl.TrapKind, 0, 3},
		{"mov r1 3; mov r2 0; call look; exit", impl.TrapTable, 0, 3},
		{"mov r1 4294967295; mov r2 0; call look; exit", impl.TrapTable, 0, 3},
		{"call rand; mov r2 1; mov r3 1; call put; exit", impl.TrapRead, 0, 4},
		{"mov r1 0; mov r3 1; call put; exit", impl.TrapRead, 0, 3},
		{"mov r1 0; mov r2 1; call put; exit", impl.TrapRead, 0, 3},
		{"mov r1 3; mov r2 r10; call put; exit", impl.TrapRead, 0, 3},
		{"mov r2 1; mov r3 1; call put; exit", impl.TrapKind, 0, 3},
		{"mov r1 0; mov r2 r10; mov r3 1; call put; exit", impl.TrapKind, 0, 4},
		{"mov r1 0; mov r2 1; mov r3 r10; call put; exit", impl.TrapKind, 0, 4},
		{"mov r1 3; mov r2 1; mov r3 r10; call put; exit", impl.TrapKind, 0, 4},
		{"mov r1 3; mov r2 1; mov r3 1; call put; exit", impl.TrapTable, 0, 4},
		{"mov r1 4294967295; mov r2 1; mov r3 1; call put; exit", impl.TrapTable, 0, 4},
		{"call rand; call find; exit", impl.TrapRead, 0, 2},
		{"call find; exit", impl.TrapKind, 0, 1},
		{"mov r1 7; call find; mov r1 r0; call find; exit", impl.TrapKind, 0, 4},
		{"call rand; call drop; exit", impl.TrapRead, 0, 2},
		{"call drop; exit", impl.TrapKind, 0, 1},
		{"mov r1 0; call drop; exit", impl.TrapKind, 0, 2},
		{"mov r1 7; call drop; exit", impl.TrapKind, 0, 2},
		{"call rand; call send; exit", impl.TrapRead, 0, 2},
		{"call send; exit", impl.TrapKind, 0, 1},
		{"mov r1 7; call find; mov r1 r0; call send; exit", impl.TrapKind, 0, 4},
	})
}

func TestRunTheTableMustBeThere(t *testing.T) {
	for count := 0; count <= impl.TablesMax; count++ {
		for n := 0; n <= impl.TablesMax; n++ {
			s := ready(t, "mov r1 "+strconv.Itoa(n)+"; mov r2 7; call look; exit")
			s.Tables = s.Tables[:count]
			trap := impl.TrapNone
			if n >= count {
				trap = impl.TrapTable
			}
			if a := impl.RunAll(s); a.Trap != trap {
				t.Errorf("table %d of %d: trap %d, not %d", n, count, a.Trap, trap)
			}
		}
	}
}

func TestRunLook(t *testing.T) {
	wantRuns(t, []runCase{
		{"mov r1 0; mov r2 1; call look; load4 r0 r0 0; exit", impl.TrapNone, 0x14131211, 5},
		{"mov r1 0; mov r2 2; call look; load2 r0 r0 2; exit", impl.TrapNone, 0xa423, 5},
		{"mov r1 0; mov r2 3; call look; exit", impl.TrapNone, 0, 4},
		{"mov r1 1; mov r2 0; call look; exit", impl.TrapNone, 0, 4},
		{"mov r1 2; mov r2 4294967295; call look; load1 r0 r0 0; exit", impl.TrapNone, 254, 5},
		{"mov r1 2; mov r2 4294967294; call look; exit", impl.TrapNone, 0, 4},
		{"mov r1 0; mov r2 0; call look; exit", impl.TrapKind, 0, 4},
		{"mov r1 0; mov r2 1; call look; other r0 0 1; exit; load1 r0 r0 3; exit", impl.TrapNone, 20, 6},
	})
}

func TestRunStoresIntoTables(t *testing.T) {
	begin := "mov r1 0; mov r2 1; call look; "
	wantTables(t, begin+"store1 r0 3 511; mov r0 0; exit", map[int]impl.Table{
		0: {Keys: []int{0, 1, 2}, Vals: []string{"\x00\x00\x00\x00", "\x11\x12\x13\xff", "\x21\x22\x23\xa4"}},
	})
	wantTables(t, begin+"add r0 1; store2 r0 0 258; mov r0 0; exit", map[int]impl.Table{
		0: {Keys: []int{0, 1, 2}, Vals: []string{"\x00\x00\x00\x00", "\x11\x02\x01\x14", "\x21\x22\x23\xa4"}},
	})
	wantTables(t, begin+"store4 r0 0 4294967295; mov r0 0; exit", map[int]impl.Table{
		0: {Keys: []int{0, 1, 2}, Vals: []string{"\x00\x00\x00\x00", "\xff\xff\xff\xff", "\x21\x22\x23\xa4"}},
	})
	wantTables(t, begin+"store4 r0 1 0; exit", nil)
	wantTables(t, "mov r1 2; mov r2 4294967295; call look; store1 r0 0 3; mov r0 r9; exit", map[int]impl.Table{
		2: {Keys: []int{most32}, Vals: []string{"\x03"}},
	})
	wantRuns(t, []runCase{
		{begin + "store2 r0 1 258; load4 r0 r0 0; exit", impl.TrapNone, 0x14010211, 6},
		{begin + "mov r6 r0; store1 r6 0 7; mov r1 0; mov r2 1; call look; load1 r0 r0 0; exit", impl.TrapNone, 7, 10},
		{begin + "mov r6 r0; store1 r6 0 7; mov r1 0; mov r2 2; call look; load1 r0 r0 0; exit", impl.TrapNone, 0x21, 10},
	})
}

func TestRunPut(t *testing.T) {
	wantTables(t, "mov r1 0; mov r2 2; mov r3 4294967294; call put; exit", map[int]impl.Table{
		0: {Keys: []int{0, 1, 2}, Vals: []string{"\x00\x00\x00\x00", "\x11\x12\x13\x14", "\xfe\xff\xff\xff"}},
	})
	wantTables(t, "mov r1 1; mov r2 9; mov r3 305419896; call put; exit", map[int]impl.Table{
		1: {Keys: []int{9}, Vals: []string{"\x78\x56\x34\x12\x00\x00\x00\x00"}},
	})
	wantTables(t, "mov r1 2; mov r2 0; mov r3 305419896; call put; exit", map[int]impl.Table{
		2: {Keys: []int{most32, 0}, Vals: []string{"\xfe", "\x78"}},
	})
	wantTables(t, "mov r1 2; mov r2 4294967295; mov r3 256; call put; exit", map[int]impl.Table{
		2: {Keys: []int{most32}, Vals: []string{"\x00"}},
	})
	wantTables(t, "mov r1 0; mov r2 3; mov r3 1; call put; exit", nil)
	full := "mov r1 2; mov r2 1; mov r3 6; call put; mov r6 r0; mov r1 2; mov r2 2; mov r3 7; call put; shl r0 4; or r0 r6; exit"
	wantTables(t, full, map[int]impl.Table{2: {Keys: []int{most32, 1}, Vals: []string{"\xfe", "\x06"}}})
	wantRuns(t, []runCase{
		{"mov r1 0; mov r2 2; mov r3 1; call put; exit", impl.TrapNone, impl.PutFine, 5},
		{"mov r1 0; mov r2 3; mov r3 1; call put; exit", impl.TrapNone, impl.PutNone, 5},
		{full, impl.TrapNone, impl.PutFull * 16, 12},
		{"mov r1 0; mov r2 1; call look; mov r6 r0; mov r1 0; mov r2 1; mov r3 77; call put; load4 r0 r6 0; exit", impl.TrapNone, 77, 10},
	})
}

func TestRunFindAndDrop(t *testing.T) {
	find := func(key string) string { return "mov r1 " + key + "; call find; " }
	wantRuns(t, []runCase{
		{find("8") + "exit", impl.TrapNone, 0, 3},
		{find("7") + "exit", impl.TrapKind, 0, 3},
		{find("0") + "mov r0 1; exit", impl.TrapHeld, 0, 4},
		{find("4294967295") + "mov r0 1; exit", impl.TrapHeld, 0, 4},
		{find("7") + "mov r0 r9; exit", impl.TrapRead, 0, 3},
		{find("7") + "mov r0 r1; exit", impl.TrapRead, 0, 3},
		{find("7") + "mov r1 r0; call drop; exit", impl.TrapNone, 0, 5},
		{find("7") + "mov r6 r0; mov r1 r0; call drop; mov r0 r6; exit", impl.TrapRead, 0, 6},
		{find("7") + "mov r9 r0; mov r1 r0; call drop; mov r1 r9; exit", impl.TrapRead, 0, 6},
		{find("7") + "mov r6 r0; mov r7 r0; mov r1 r7; call drop; mov r1 r6; exit", impl.TrapRead, 0, 7},
	})
}

// What is found twice is held twice: each must be dropped, and the one is there when the other is gone.
func TestRunFindTwice(t *testing.T) {
	for _, second := range []string{"7", "0"} {
		begin := "mov r1 7; call find; mov r6 r0; mov r1 " + second + "; call find; mov r7 r0; "
		wantRuns(t, []runCase{
			{begin + "mov r1 r6; call drop; mov r1 r7; call drop; exit", impl.TrapNone, 0, 11},
			{begin + "mov r1 r7; call drop; mov r1 r6; call drop; exit", impl.TrapNone, 0, 11},
			{begin + "mov r1 r6; call drop; exit", impl.TrapHeld, 0, 9},
			{begin + "mov r1 r6; call drop; mov r1 r6; exit", impl.TrapRead, 0, 9},
			{begin + "mov r8 1; mov r1 r6; call drop; mov r0 r8; mov r1 r7; exit", impl.TrapHeld, 0, 12},
		})
	}
}

func TestRunRand(t *testing.T) {
	want := []int{5, most32, 7, 5, most32, 7, 5}
	lines := ""
	for i, n := range want {
		lines += "call rand; "
		wantRuns(t, []runCase{{lines + "exit", impl.TrapNone, n, i + 2}})
	}
	s := ready(t, "call rand; mov r6 r0; call rand; add r0 r6; exit")
	s.Rands = []int{9}
	if a := impl.RunAll(s); a.Ret != 18 {
		t.Error("one number, drawn twice, makes", a.Ret)
	}
	s.Rands = []int{1, 2, 3, 4}
	s.Prog = program(t, strings.Split("call rand; call rand; call rand; call rand; mov r6 r0; call rand; shl r0 4; or r0 r6; exit", "; ")...)
	if a := impl.RunAll(s); a.Ret != 20 {
		t.Error("the last and the first of four numbers make", a.Ret)
	}
}

func TestRunSend(t *testing.T) {
	for lines, want := range map[string][]int{
		"mov r0 0; exit":                                           nil,
		"mov r1 4294967295; call send; exit":                       {most32},
		"mov r1 5; call send; mov r1 4; call send; exit":           {5, 4},
		"mov r1 5; call send; mov r1 5; call send; exit":           {5, 5},
		"mov r1 5; call send; mov r1 r10; call send; exit":         {5},
		"mov r1 8; call send; mov r1 7; call find; mov r0 1; exit": {8},
	} {
		if a := impl.RunAll(ready(t, lines)); !sameList(a.Sent, want) {
			t.Errorf("%s: sent %v, not %v", lines, a.Sent, want)
		}
	}
}

func TestRunExit(t *testing.T) {
	wantRuns(t, []runCase{
		{"exit", impl.TrapRead, 0, 1},
		{"mov r0 r1; exit", impl.TrapKind, 0, 2},
		{"mov r0 r10; exit", impl.TrapKind, 0, 2},
		{"mov r0 0; exit", impl.TrapNone, 0, 2},
		{"mov r0 1; exit; mov r0 2; exit", impl.TrapNone, 1, 2},
		{"mov r1 7; call find; exit", impl.TrapKind, 0, 3},
		{"mov r1 7; call find; mov r6 r0; mov r1 3; call send; mov r0 6; exit", impl.TrapHeld, 0, 7},
	})
}

// long is a program that ends behind so many ops, if it may: 3, twice the rounds, and one for each that is ahead.
func long(ahead int, rounds int) string {
	return strings.Repeat("mov r7 0; ", ahead) + "mov r6 0; add r6 1; less r6 " + strconv.Itoa(rounds) + " -2; mov r0 6; exit"
}

func TestRunStepMax(t *testing.T) {
	wantRuns(t, []runCase{
		{long(0, 148), impl.TrapNone, 6, 299},
		{long(1, 148), impl.TrapNone, 6, 300},
		{long(2, 148), impl.TrapStep, 0, 300},
		{long(0, 149), impl.TrapStep, 0, 300},
		{"go -1", impl.TrapStep, 0, 300},
		{"mov r6 0; add r6 1; less r6 149 -2; mov r0 r9; exit", impl.TrapRead, 0, 300},
	})
	s := ready(t, "mov r1 3; call send; go -3")
	a := impl.RunAll(s)
	if a.Trap != impl.TrapStep || a.Steps != 300 || len(a.Sent) != 100 || !sameTables(a.Tables, s.Tables) {
		t.Error("what is sent until StepMax:", a.Trap, a.Steps, len(a.Sent))
	}
}

func TestRunWhereItWentWrong(t *testing.T) {
	lines := "mov r1 6; call send; mov r1 1; mov r2 3; mov r3 4; call put; load1 r0 r10 -1; exit"
	a := impl.RunAll(ready(t, lines))
	if a.Trap != impl.TrapUnset || a.Ret != 0 || a.Steps != 7 || !sameList(a.Sent, []int{6}) {
		t.Error(a)
	}
	wantTables(t, lines, map[int]impl.Table{1: {Keys: []int{3}, Vals: []string{"\x04\x00\x00\x00\x00\x00\x00\x00"}}})
	if trace := impl.RunTrace(ready(t, lines)); !sameList(trace, []int{0, 1, 2, 3, 4, 5, 6}) {
		t.Error(trace)
	}
}
