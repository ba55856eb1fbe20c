package tests

import (
	"reflect"
	"strconv"
	"strings"
	"testing"

	"loop.example/steerage/impl"
)

// ready is a start whose parts are all told from each other: no two bytes that come, and no two numbers that are drawn, are alike.
func ready(t *testing.T, lines string) impl.Start {
	t.Helper()
	return impl.Start{
		Prog:   program(t, strings.Split(lines, "; ")...),
		Came:   "\x01\x02\x03\x04\x80\xff\x07\x08\x09\x0a\x0b\x0c",
		Tables: threeTables(),
		Rands:  []int{5, most32, 7},
		Socks:  []int{7, 0, most32},
	}
}

func threeTables() []impl.Table {
	return []impl.Table{
		{Kind: impl.TableRow, Size: 4, Room: 3, Keys: []int{0, 1, 2}, Vals: []string{"\x00\x00\x00\x00", "\x11\x12\x13\x14", "\x21\x22\x23\xa4"}},
		{Kind: impl.TableHash, Size: 8, Room: 2},
		{Kind: impl.TableHash, Size: 1, Room: 2, Keys: []int{most32}, Vals: []string{"\xfe"}},
	}
}

type runCase struct {
	lines string
	trap  int
	ret   int
	steps int
}

// wantRuns holds runs against what they must come to; no trap is told with a Ret.
func wantRuns(t *testing.T, cases []runCase) {
	t.Helper()
	for _, c := range cases {
		a := impl.RunAll(ready(t, c.lines))
		if a.Trap != c.trap || a.Ret != c.ret || a.Steps != c.steps {
			t.Errorf("%s: trap %d, ret %d, steps %d, not %d, %d, %d", c.lines, a.Trap, a.Ret, a.Steps, c.trap, c.ret, c.steps)
		}
	}
}

func TestRunLimitsAndCodes(t *testing.T) {
	got := [][]int{
		{impl.StackMax, impl.CameMax, impl.TablesMax, impl.RandMax, impl.SocksMax, impl.FarMax, impl.StepMax},
		{impl.TrapNone, impl.TrapForm, impl.TrapRead, impl.TrapKind, impl.TrapBound, impl.TrapUnset, impl.TrapTable, impl.TrapHeld, impl.TrapStep},
	}
	if want := [][]int{{16, 12, 3, 4, 4, 1000000, 300}, {0, 1, 2, 3, 4, 5, 6, 7, 8}}; !reflect.DeepEqual(got, want) {
		t.Errorf("limits and codes are %v, not %v", got, want)
	}
}

func TestRunAtFirst(t *testing.T) {
	for n := 0; n < impl.RegMax; n++ {
		r := "r" + strconv.Itoa(n)
		want := runCase{"mov r6 " + r + "; mov r0 1; exit", impl.TrapRead, 0, 1}
		if n == 1 || n == 10 {
			want.trap, want.ret, want.steps = impl.TrapNone, 1, 3
		}
		wantRuns(t, []runCase{want})
	}
	wantRuns(t, []runCase{
		{"load1 r0 r1 0; exit", impl.TrapNone, 1, 2},
		{"load1 r0 r1 -1; exit", impl.TrapBound, 0, 1},
		{"store1 r10 -1 9; load1 r0 r10 -1; exit", impl.TrapNone, 9, 3},
		{"store1 r10 0 9; exit", impl.TrapBound, 0, 1},
	})
	for n := 1; n <= impl.StackMax; n++ {
		wantRuns(t, []runCase{{"load1 r0 r10 -" + strconv.Itoa(n) + "; exit", impl.TrapUnset, 0, 1}})
	}
}

func TestRunMov(t *testing.T) {
	wantRuns(t, []runCase{
		{"mov r0 4294967295; exit", impl.TrapNone, most32, 2},
		{"mov r9 8; mov r0 r9; exit", impl.TrapNone, 8, 3},
		{"mov r6 9; mov r6 r1; load1 r0 r6 1; exit", impl.TrapNone, 2, 4},
		{"mov r6 r10; store1 r6 -2 3; load1 r0 r10 -2; exit", impl.TrapNone, 3, 4},
		{"mov r1 7; call find; mov r6 r0; mov r1 r6; call drop; exit", impl.TrapNone, 0, 6},
		{"mov r0 0; mov r0 r2; exit", impl.TrapRead, 0, 2},
		{"mov r10 1; exit", impl.TrapKind, 0, 1},
		{"mov r10 r10; exit", impl.TrapKind, 0, 1},
		{"mov r10 r2; exit", impl.TrapRead, 0, 1},
	})
}

func TestRunReckons(t *testing.T) {
	numbers := []int{0, 1, 2, 31, 32, 255, 1 << 31, most32 - 1, most32}
	for op := impl.OpMov; op <= impl.OpMod; op++ {
		for _, a := range numbers {
			for _, b := range numbers {
				first, second := strconv.Itoa(a), strconv.Itoa(b)
				word := specs[op].word
				want := impl.RangeDo(op, a, b)
				wantRuns(t, []runCase{
					{"mov r0 " + first + "; " + word + " r0 " + second + "; exit", impl.TrapNone, want, 3},
					{"mov r0 " + first + "; mov r7 " + second + "; " + word + " r0 r7; exit", impl.TrapNone, want, 4},
				})
			}
		}
	}
}

func TestRunReckonsNoNumbers(t *testing.T) {
	table := "mov r1 0; mov r2 1; call look; "
	socket := "mov r1 7; call find; "
	for op := impl.OpAdd; op <= impl.OpMod; op++ {
		word := specs[op].word
		cases := []runCase{
			{word + " r0 1; exit", impl.TrapRead, 0, 1},
			{word + " r2 r1; exit", impl.TrapRead, 0, 1},
			{word + " r1 r2; exit", impl.TrapRead, 0, 1},
			{word + " r10 r2; exit", impl.TrapRead, 0, 1},
			{"mov r0 1; " + word + " r0 r2; exit", impl.TrapRead, 0, 2},
			{"mov r0 1; " + word + " r0 r1; exit", impl.TrapKind, 0, 2},
			{word + " r1 r1; exit", impl.TrapKind, 0, 1},
			{word + " r1 r10; exit", impl.TrapKind, 0, 1},
			{word + " r10 0; exit", impl.TrapKind, 0, 1},
			{word + " r10 2000000; exit", impl.TrapKind, 0, 1},
			{socket + word + " r0 0; exit", impl.TrapKind, 0, 3},
			{socket + "mov r6 r10; " + word + " r6 r0; exit", impl.TrapKind, 0, 4},
			{socket + "mov r6 1; " + word + " r6 r0; exit", impl.TrapKind, 0, 4},
			{table + "mov r6 1; " + word + " r6 r0; exit", impl.TrapKind, 0, 5},
		}
		if op > impl.OpSub {
			cases = append(cases,
				runCase{word + " r1 1; exit", impl.TrapKind, 0, 1},
				runCase{"mov r6 r10; " + word + " r6 1; exit", impl.TrapKind, 0, 2},
				runCase{table + word + " r0 1; exit", impl.TrapKind, 0, 4})
		}
		wantRuns(t, cases)
	}
}

func TestRunMovesPlaces(t *testing.T) {
	wantRuns(t, []runCase{
		{"add r1 3; load1 r0 r1 0; exit", impl.TrapNone, 4, 3},
		{"mov r6 5; add r1 r6; load1 r0 r1 0; exit", impl.TrapNone, 255, 4},
		{"add r1 9; sub r1 2; load1 r0 r1 0; exit", impl.TrapNone, 8, 4},
		{"add r1 9; mov r6 3; sub r1 r6; load1 r0 r1 0; exit", impl.TrapNone, 7, 5},
		{"add r1 9; add r1 4294967295; load1 r0 r1 0; exit", impl.TrapNone, 9, 4},
		{"sub r1 4294967294; load1 r0 r1 0; exit", impl.TrapNone, 3, 3},
		{"mov r6 r1; add r6 3; load1 r0 r1 0; exit", impl.TrapNone, 1, 4},
		{"mov r6 r10; sub r6 16; store1 r6 0 9; load1 r0 r10 -16; exit", impl.TrapNone, 9, 5},
		{"mov r6 r10; add r6 4294967280; store1 r6 0 8; load1 r0 r10 -16; exit", impl.TrapNone, 8, 5},
		{"mov r1 0; mov r2 2; call look; add r0 3; load1 r0 r0 0; exit", impl.TrapNone, 164, 6},
		{"mov r1 0; mov r2 2; call look; add r0 3; sub r0 1; load1 r0 r0 -1; exit", impl.TrapNone, 34, 7},
	})
}

func TestRunFarPlaces(t *testing.T) {
	table := "mov r1 0; mov r2 1; call look; mov r6 r0; "
	for _, p := range []struct {
		begin string
		at    int
		steps int
		byte0 int
	}{
		{"mov r6 r1; ", 0, 1, 1},
		{"mov r6 r10; store1 r10 -16 1; ", 16, 2, 1},
		{table, 0, 4, 17},
	} {
		far := func(op string, n int) runCase {
			return runCase{p.begin + op + " r6 " + strconv.Itoa(n) + "; mov r0 3; exit", impl.TrapNone, 3, p.steps + 3}
		}
		wrong := func(op string, n int) runCase {
			return runCase{far(op, n).lines, impl.TrapBound, 0, p.steps + 1}
		}
		on, back := impl.FarMax-p.at, impl.FarMax+p.at
		wantRuns(t, []runCase{
			far("add", on), wrong("add", on+1),
			far("sub", back), wrong("sub", back+1),
			far("add", most32+1-back), wrong("add", most32-back),
			far("sub", most32+1-on), wrong("sub", most32-on),
			wrong("add", 1<<31-1), wrong("add", 1<<31), wrong("sub", 1<<31-1), wrong("sub", 1<<31),
		})
		there := p.begin + "add r6 " + strconv.Itoa(on) + "; sub r6 " + strconv.Itoa(impl.FarMax) + "; load1 r0 r6 0; exit"
		wantRuns(t, []runCase{{there, impl.TrapNone, p.byte0, p.steps + 4}})
	}
}

func TestRunJumpsOfNumbers(t *testing.T) {
	numbers := []int{0, 1, 7, 1 << 31, most32}
	for op := impl.OpSame; op <= impl.OpMore; op++ {
		for _, a := range numbers {
			for _, b := range numbers {
				first, second := strconv.Itoa(a), strconv.Itoa(b)
				word := specs[op].word
				ret, steps := 6, 5
				if impl.RangeHolds(op, a, b) {
					ret, steps = 5, 4
				}
				wantRuns(t, []runCase{
					{"mov r0 5; mov r6 " + first + "; " + word + " r6 " + second + " 1; mov r0 6; exit", impl.TrapNone, ret, steps},
					{"mov r0 5; mov r6 " + first + "; mov r7 " + second + "; " + word + " r6 r7 1; mov r0 6; exit", impl.TrapNone, ret, steps + 1},
				})
			}
		}
	}
}

func TestRunJumpsOfOthers(t *testing.T) {
	for _, p := range []runCase{
		{"mov r6 r1; ", 0, 0, 1},
		{"mov r6 r10; ", 0, 0, 1},
		{"mov r6 r10; sub r6 16; ", 0, 0, 2},
		{"mov r1 0; mov r2 1; call look; mov r6 r0; ", 0, 0, 4},
	} {
		wantRuns(t, []runCase{
			{p.lines + "mov r0 1; same r6 0 1; mov r0 2; exit", impl.TrapNone, 2, p.steps + 4},
			{p.lines + "mov r0 1; other r6 0 1; mov r0 2; exit", impl.TrapNone, 1, p.steps + 3},
			{p.lines + "less r6 0 0; exit", impl.TrapKind, 0, p.steps + 1},
			{p.lines + "more r6 0 0; exit", impl.TrapKind, 0, p.steps + 1},
		})
	}
	wantRuns(t, []runCase{
		{"mov r1 7; call find; mov r1 r0; other r0 0 1; exit; call drop; exit", impl.TrapNone, 0, 6},
		{"mov r1 7; call find; mov r1 r0; same r0 0 2; call drop; exit; mov r0 5; exit", impl.TrapNone, 0, 6},
	})
	for op := impl.OpSame; op <= impl.OpMore; op++ {
		word := specs[op].word
		wantRuns(t, []runCase{
			{word + " r1 1 0; exit", impl.TrapKind, 0, 1},
			{word + " r10 4294967295 0; exit", impl.TrapKind, 0, 1},
			{"mov r6 0; " + word + " r1 r6 0; exit", impl.TrapKind, 0, 2},
			{"mov r6 0; " + word + " r6 r1 0; exit", impl.TrapKind, 0, 2},
			{word + " r1 r1 0; exit", impl.TrapKind, 0, 1},
			{word + " r1 r10 0; exit", impl.TrapKind, 0, 1},
			{"mov r1 7; call find; " + word + " r0 5 0; exit", impl.TrapKind, 0, 3},
			{"mov r1 7; call find; " + word + " r0 r0 0; exit", impl.TrapKind, 0, 3},
			{word + " r2 0 0; exit", impl.TrapRead, 0, 1},
			{word + " r2 r1 0; exit", impl.TrapRead, 0, 1},
			{word + " r1 r2 0; exit", impl.TrapRead, 0, 1},
		})
	}
}

func TestRunGo(t *testing.T) {
	wantRuns(t, []runCase{
		{"go 1; exit; mov r0 4; exit", impl.TrapNone, 4, 3},
		{"mov r0 3; go 0; exit", impl.TrapNone, 3, 3},
		{"go 2; mov r0 8; exit; go -3", impl.TrapNone, 8, 4},
	})
}

func TestRunLoadsWhatCame(t *testing.T) {
	came := ready(t, "exit").Came
	for _, size := range []int{1, 2, 4} {
		for at := -3; at <= 13; at++ {
			want := runCase{"", impl.TrapBound, 0, 1}
			if at >= 0 && at+size <= 12 {
				want = runCase{"", impl.TrapNone, 0, 2}
				for i := size - 1; i >= 0; i-- {
					want.ret = want.ret*256 + int(came[at+i])
				}
			}
			want.lines = "load" + strconv.Itoa(size) + " r0 r1 " + strconv.Itoa(at) + "; exit"
			wantRuns(t, []runCase{want})
			want.lines = "add r1 5; load" + strconv.Itoa(size) + " r0 r1 " + strconv.Itoa(at-5) + "; exit"
			want.steps++
			wantRuns(t, []runCase{want})
		}
	}
}

func TestRunLoadGoesWrong(t *testing.T) {
	wantRuns(t, []runCase{
		{"load1 r0 r2 0; exit", impl.TrapRead, 0, 1},
		{"load1 r1 r2 0; exit", impl.TrapRead, 0, 1},
		{"load1 r10 r2 0; exit", impl.TrapRead, 0, 1},
		{"mov r6 0; load1 r0 r6 0; exit", impl.TrapKind, 0, 2},
		{"mov r1 7; call find; load1 r0 r0 0; exit", impl.TrapKind, 0, 3},
		{"load1 r10 r1 0; exit", impl.TrapKind, 0, 1},
		{"load1 r10 r1 12; exit", impl.TrapKind, 0, 1},
		{"load1 r10 r10 -1; exit", impl.TrapKind, 0, 1},
		{"load2 r0 r10 -1; exit", impl.TrapBound, 0, 1},
		{"load2 r0 r10 -17; exit", impl.TrapBound, 0, 1},
		{"store4 r10 -4 1; load4 r0 r10 -3; exit", impl.TrapBound, 0, 2},
		{"mov r1 0; mov r2 1; call look; load4 r0 r0 1; exit", impl.TrapBound, 0, 4},
		{"mov r1 0; mov r2 1; call look; load1 r0 r0 4; exit", impl.TrapBound, 0, 4},
		{"mov r1 0; mov r2 1; call look; load1 r0 r0 -1; exit", impl.TrapBound, 0, 4},
		{"mov r1 2; mov r2 4294967295; call look; load2 r0 r0 0; exit", impl.TrapBound, 0, 4},
	})
}

func TestRunStack(t *testing.T) {
	wantRuns(t, []runCase{
		{"store4 r10 -4 305419896; load4 r0 r10 -4; exit", impl.TrapNone, 305419896, 3},
		{"store4 r10 -4 305419896; load1 r0 r10 -4; exit", impl.TrapNone, 0x78, 3},
		{"store4 r10 -4 305419896; load2 r0 r10 -3; exit", impl.TrapNone, 0x3456, 3},
		{"store4 r10 -16 4294967295; load4 r0 r10 -16; exit", impl.TrapNone, most32, 3},
		{"store4 r10 -8 4294967295; store2 r10 -7 4660; load4 r0 r10 -8; exit", impl.TrapNone, 0xff1234ff, 4},
		{"store4 r10 -8 4294967295; store1 r10 -7 4660; load4 r0 r10 -8; exit", impl.TrapNone, 0xffff34ff, 4},
		{"mov r6 77; store2 r10 -9 r6; load2 r0 r10 -9; exit", impl.TrapNone, 77, 4},
		{"store1 r10 -2 0; load1 r0 r10 -2; exit", impl.TrapNone, 0, 3},
		{"store1 r10 -2 1; load2 r0 r10 -2; exit", impl.TrapUnset, 0, 2},
		{"store1 r10 -2 1; load2 r0 r10 -3; exit", impl.TrapUnset, 0, 2},
		{"store1 r10 -2 1; store1 r10 -1 2; load2 r0 r10 -2; exit", impl.TrapNone, 513, 4},
		{"store2 r10 -4 1; store1 r10 -1 2; load4 r0 r10 -4; exit", impl.TrapUnset, 0, 3},
		{"store2 r10 -4 1; load1 r0 r10 -5; exit", impl.TrapUnset, 0, 2},
		{"store2 r10 -4 1; load1 r0 r10 -2; exit", impl.TrapUnset, 0, 2},
		{"store2 r10 -4 770; load1 r0 r10 -3; exit", impl.TrapNone, 3, 3},
	})
	for _, size := range []int{1, 2, 4} {
		for at := -20; at <= 3; at++ {
			want := runCase{"store" + strconv.Itoa(size) + " r10 " + strconv.Itoa(at) + " 1; mov r0 2; exit", impl.TrapBound, 0, 1}
			if at >= -16 && at+size <= 0 {
				want.trap, want.ret, want.steps = impl.TrapNone, 2, 3
			}
			wantRuns(t, []runCase{want})
		}
	}
}

func TestRunStoreGoesWrong(t *testing.T) {
	wantRuns(t, []runCase{
		{"store1 r2 0 1; exit", impl.TrapRead, 0, 1},
		{"store1 r10 -1 r2; exit", impl.TrapRead, 0, 1},
		{"store1 r1 0 r2; exit", impl.TrapRead, 0, 1},
		{"store1 r2 0 r1; exit", impl.TrapRead, 0, 1},
		{"mov r6 0; store1 r6 0 r2; exit", impl.TrapRead, 0, 2},
		{"mov r6 0; store1 r6 0 1; exit", impl.TrapKind, 0, 2},
		{"mov r1 7; call find; store1 r0 0 1; exit", impl.TrapKind, 0, 3},
		{"mov r1 7; call find; store1 r10 -1 r0; exit", impl.TrapKind, 0, 3},
		{"store1 r1 0 1; exit", impl.TrapKind, 0, 1},
		{"store1 r1 12 1; exit", impl.TrapKind, 0, 1},
		{"store1 r1 -1 r1; exit", impl.TrapKind, 0, 1},
		{"store4 r10 -4 r1; exit", impl.TrapKind, 0, 1},
		{"store4 r10 0 r1; exit", impl.TrapKind, 0, 1},
		{"store4 r10 -4 r10; exit", impl.TrapKind, 0, 1},
		{"mov r1 0; mov r2 1; call look; store4 r0 1 5; exit", impl.TrapBound, 0, 4},
		{"mov r1 0; mov r2 1; call look; store1 r0 -1 5; exit", impl.TrapBound, 0, 4},
		{"mov r1 2; mov r2 4294967295; call look; store1 r0 1 5; exit", impl.TrapBound, 0, 4},
	})
}
