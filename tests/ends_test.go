package tests

import (
	"slices"
	"strings"
	"testing"

	"loop.example/steerage/impl"
)

type endsCase struct {
	lines string
	ends  impl.Range
	ways  []int
}

func wantEnds(t *testing.T, cases []endsCase) {
	t.Helper()
	for _, c := range cases {
		list := program(t, strings.Split(c.lines, "; ")...)
		if p := impl.ProofOf(list, threeTables()); p.Code != impl.ProofFine {
			t.Errorf("%s: the proof is %+v", c.lines, p)
		}
		if ends := impl.EndsRange(list, threeTables()); ends != c.ends {
			t.Errorf("%s: it ends in %+v, not %+v", c.lines, ends, c.ends)
		}
		if ways := impl.EndsWays(list, threeTables()); !slices.Equal(ways, c.ways) {
			t.Errorf("%s: ways come %v, not %v", c.lines, ways, c.ways)
		}
	}
}

func bounds(low int, high int, bits int, open int) impl.Range {
	return impl.Range{Min: low, Max: high, Bits: bits, Open: open}
}

func TestEndsOfOneWay(t *testing.T) {
	wantEnds(t, []endsCase{
		{"mov r0 7; exit", impl.RangeOne(7), []int{1, 1}},
		{"mov r0 0; exit", impl.Range{}, []int{1, 1}},
		{"mov r0 4294967295; exit", impl.RangeOne(most32), []int{1, 1}},
		{"load2 r0 r1 0; exit", bounds(0, 65535, 0, 65535), []int{1, 1}},
		{"call rand; exit", bounds(0, most32, 0, most32), []int{1, 1}},
		{"load1 r0 r1 0; and r0 4; or r0 3; exit", bounds(3, 7, 3, 4), []int{1, 1, 1, 1}},
		{"mov r0 1; go 1; exit; exit; exit", impl.RangeOne(1), []int{1, 1, 0, 1, 0}},
		{"mov r0 1; mov r6 200; exit; mov r0 9; exit", impl.RangeOne(1), []int{1, 1, 1, 0, 0}},
		{"mov r0 3; more r0 5 1; exit; mov r0 9; exit", impl.RangeOne(3), []int{1, 1, 1, 0, 0}},
		{"mov r0 0; add r0 1; less r0 5 -2; exit", impl.RangeOne(5), []int{1, 5, 5, 1}},
		// What is not given back does not matter.
		{"load4 r6 r1 0; mov r1 r6; mov r0 2; exit", impl.RangeOne(2), []int{1, 1, 1, 1}},
	})
}

func TestEndsOfMoreWays(t *testing.T) {
	wantEnds(t, []endsCase{
		{"load1 r2 r1 0; less r2 5 1; mov r2 5; mov r0 r2; exit", bounds(0, 5, 0, 7), []int{1, 1, 1, 2, 2}},
		{"load1 r6 r1 0; mov r0 8; same r6 1 1; exit; mov r0 12; exit", bounds(8, 12, 8, 4), []int{1, 1, 1, 1, 1, 1}},
		{"load1 r6 r1 0; mov r0 8; same r6 1 1; mov r0 12; exit", bounds(8, 12, 8, 4), []int{1, 1, 1, 1, 2}},
		{"load1 r0 r1 0; more r0 99 2; mov r0 20; exit; exit", bounds(20, 255, 0, 255), []int{1, 1, 1, 1, 1}},
		{"load1 r6 r1 0; mov r0 1; same r6 1 1; mov r0 2; same r6 2 1; mov r0 4; exit", bounds(2, 4, 0, 6), []int{1, 1, 1, 1, 2, 2, 3}},
		{"load1 r0 r1 0; less r0 10 2; mov r0 3; exit; more r0 4 1; mov r0 4; exit", bounds(3, 9, 0, 15), []int{1, 1, 1, 1, 1, 1, 2}},
		{"load1 r6 r1 0; mov r0 0; add r0 1; same r6 9 1; less r0 3 -3; exit", bounds(1, 3, 0, 3), []int{1, 1, 3, 3, 3, 4}},
		{"mov r1 0; mov r2 1; call look; other r0 0 2; mov r0 300; exit; load1 r0 r0 0; exit", bounds(0, 300, 0, 511), []int{1, 1, 1, 1, 1, 1, 1, 1}},
		{"mov r1 5; call find; mov r1 r0; same r0 0 2; call drop; mov r0 7; exit", bounds(0, 7, 0, 7), []int{1, 1, 1, 1, 1, 1, 2}},
	})
}

// What is joined first may tell so little that those behind it are told less of, too: ends are joined by place,
// those of one place in the order of ways. Here one way has 4 as a range that is not tidied as far as can be.
func TestEndsAreJoinedInOrder(t *testing.T) {
	const loads = "load1 r6 r1 0; load1 r7 r1 1; "
	const four = "and r6 20; more r6 3 1; go 3; more r6 8 2; mov r0 r6; "
	told, untold := bounds(4, 31, 4, 27), bounds(4, 31, 0, 31)
	wantEnds(t, []endsCase{
		{loads + "less r7 5 1; go 8; " + four + "exit; mov r0 4; exit; and r6 31; or r6 4; mov r0 r6; exit", told, []int{1, 1, 1, 1, 1, 1, 1, 1, 1, 1, 2, 2, 1, 1, 1, 1}},
		{loads + "less r7 5 1; go 8; " + four + "go 1; mov r0 4; exit; and r6 31; or r6 4; mov r0 r6; go -5", untold, []int{1, 1, 1, 1, 1, 1, 1, 1, 1, 1, 2, 4, 1, 1, 1, 1}},
		{loads + "more r7 4 8; " + four + "go 1; mov r0 4; exit; and r6 31; or r6 4; mov r0 r6; go -5", told, []int{1, 1, 1, 1, 1, 1, 1, 1, 1, 2, 4, 1, 1, 1, 1}},
	})
}

func TestEndsStack(t *testing.T) {
	for _, c := range []struct {
		lines string
		stack int
	}{
		{"mov r0 1; exit", 0},
		{"store1 r10 -1 7; mov r0 0; exit", 1},
		{"store4 r10 -4 7; mov r0 0; exit", 4},
		{"store1 r10 -16 7; mov r0 0; exit", 16},
		{"store4 r10 -16 7; mov r0 0; exit", 16},
		{"store1 r10 -4 7; load1 r0 r10 -4; exit", 4},
		{"store4 r10 -8 1; load2 r0 r10 -7; exit", 8},
		{"store2 r10 -2 1; store2 r10 -9 1; store4 r10 -5 1; mov r0 0; exit", 9},
		{"mov r0 3; store1 r10 -6 r0; exit", 6},
		{"mov r8 r10; sub r8 6; store2 r8 1 5; mov r0 0; exit", 5},
		{"mov r8 r10; sub r8 16; store1 r8 3 1; mov r0 0; exit", 13},
		{"mov r8 r10; add r8 100; store1 r8 -101 1; mov r0 0; exit", 1},
		// Of a place from where to where the lowest counts.
		{"mov r8 r10; load1 r6 r1 0; and r6 3; sub r8 r6; store1 r8 -4 1; mov r0 0; exit", 7},
		{"store4 r10 -4 1; mov r8 r10; load1 r6 r1 0; and r6 3; sub r8 r6; load1 r0 r8 -1; exit", 4},
		// What came and tables are no stack, nor is what a register had ahead of a load.
		{"load1 r0 r1 3; exit", 0},
		{"mov r1 0; mov r2 1; call look; same r0 0 2; store1 r0 0 9; load1 r0 r0 1; mov r0 0; exit", 0},
		{"store1 r10 -1 0; mov r8 r10; sub r8 9; load1 r8 r1 0; mov r0 0; exit", 1},
		{"mov r8 r10; sub r8 9; same r8 0 0; mov r6 r8; add r8 2; mov r0 1; exit", 0},
		// Each time a way comes, and just then.
		{"mov r0 1; exit; store1 r10 -9 1; exit", 0},
		{"mov r0 1; less r0 1 2; store1 r10 -3 1; exit; store1 r10 -9 1; exit", 3},
		{"mov r8 r10; mov r0 0; sub r8 1; add r0 1; store1 r8 0 1; less r0 6 -4; exit", 6},
		{"mov r8 r10; sub r8 16; mov r0 0; store1 r8 0 1; add r8 1; add r0 1; less r0 6 -4; exit", 16},
		{"load1 r6 r1 0; mov r0 1; less r6 5 2; store2 r10 -12 0; exit; store1 r10 -2 0; exit", 12},
		{"load1 r6 r1 0; mov r0 1; less r6 5 2; store1 r10 -2 0; exit; store2 r10 -12 0; exit", 12},
	} {
		list := program(t, strings.Split(c.lines, "; ")...)
		if got := impl.EndsStack(list, threeTables()); got != c.stack {
			t.Errorf("%s: the stack is %d deep, not %d", c.lines, got, c.stack)
		}
	}
}

func TestEndsOfWhatIsNotLetIn(t *testing.T) {
	check := func(name string, list []impl.Ins, tables []impl.Table) {
		ends, ways, stack := impl.EndsRange(list, tables), impl.EndsWays(list, tables), impl.EndsStack(list, tables)
		if ends != (impl.Range{Min: 1}) || len(ways) > 0 || stack != -1 {
			t.Errorf("%s: %+v, %v, %d", name, ends, ways, stack)
		}
	}
	for name, s := range wrongProofs(t) {
		check(name, s.Prog, s.Tables)
	}
	for _, lines := range []string{
		"exit", "mov r0 r10; exit", "load1 r0 r1 12; exit", "load1 r0 r10 -1; exit", "mov r1 9; mov r2 0; call look; exit",
		find + "mov r0 0; exit", "go -1", "mov r0 1; less r0 5 2; exit; exit; go -4", "load1 r0 r1 0; less r0 5 1; exit; mov r0 r2; exit", "store1 r10 -17 1; mov r0 0; exit",
	} {
		check(lines, program(t, strings.Split(lines, "; ")...), threeTables())
	}
	list := program(t, "mov r0 1", "exit")
	check("four tables", list, append(threeTables(), threeTables()[0]))
	check("one op more than can be", filled(impl.ProgMax), nil)
	check("one op more than a way has", program(t, strings.Split(long(2, 148), "; ")...), nil)
}

func TestEndsOfAsMuchAsCanBe(t *testing.T) {
	list := filled(impl.ProgMax - 1)
	if ends, ways := impl.EndsRange(list, nil), impl.EndsWays(list, nil); ends != impl.RangeOne(46) || !slices.Equal(ways, slices.Repeat([]int{1}, 48)) {
		t.Error(ends, ways)
	}
	list = program(t, strings.Split(long(1, 148), "; ")...)
	total := 0
	for _, n := range impl.EndsWays(list, nil) {
		total += n
	}
	if total != impl.StepMax {
		t.Error("of the longest way there are", total)
	}
}
