package tests

import (
	"slices"
	"strconv"
	"strings"
	"testing"

	"loop.example/steerage/impl"
)

func knowEach(t *testing.T, lines string, at int) [][]impl.Know {
	t.Helper()
	know := impl.ProofKnow(program(t, strings.Split(lines, "; ")...), threeTables(), at)
	return slices.Collect(slices.Chunk(know, impl.RegMax))
}

// wantKnow holds what is known of a register ahead of an op, each time a way comes there, against what must be.
func wantKnow(t *testing.T, lines string, at int, register int, want ...impl.Know) {
	t.Helper()
	var got []impl.Know
	for _, know := range knowEach(t, lines, at) {
		got = append(got, know[register])
	}
	if !sameList(got, want) {
		t.Errorf("%s: ahead of op %d r%d is %+v, not %+v", lines, at, register, got, want)
	}
}

func num(r impl.Range) impl.Know {
	return impl.Know{Kind: impl.KnowNum, Range: r}
}

func upTo(most int) impl.Know {
	return num(impl.Range{Max: most, Open: most})
}

func place(kind int, low int, high int, table int) impl.Know {
	return impl.Know{Kind: kind, Low: low, High: high, Table: table}
}

func TestKnowAtFirst(t *testing.T) {
	var want []impl.Know
	for n := range impl.RegMax {
		switch n {
		case 1:
			want = append(want, place(impl.KnowCame, 0, 0, 0))
		case 10:
			want = append(want, place(impl.KnowStack, 16, 16, 0))
		default:
			want = append(want, impl.Know{})
		}
	}
	if got := impl.ProofKnow(program(t, "mov r0 1", "exit"), nil, 0); !sameList(got, want) {
		t.Errorf("%+v, not %+v", got, want)
	}
	// A way that comes back to the first op knows something else there.
	lines := "mov r6 r1; mov r1 0; same r6 0 1; go -4; mov r0 0; exit"
	wantKnow(t, lines, 0, 1, place(impl.KnowCame, 0, 0, 0), num(impl.Range{}))
	wantKnow(t, lines, 0, 6, impl.Know{}, place(impl.KnowCame, 0, 0, 0))
	wantKnow(t, lines, 4, 6, num(impl.Range{}))
	wantProofs(t, []proofCase{{lines, impl.ProofFine, 0, 9}})
}

func TestKnowMov(t *testing.T) {
	for _, c := range []struct {
		lines string
		at    int
		want  impl.Know
	}{
		{"mov r6 4294967295; mov r0 0; exit", 1, num(impl.RangeOne(most32))},
		{"mov r6 0; mov r0 0; exit", 1, num(impl.Range{})},
		{"mov r6 r1; mov r0 0; exit", 1, place(impl.KnowCame, 0, 0, 0)},
		{"mov r6 r10; mov r0 0; exit", 1, place(impl.KnowStack, 16, 16, 0)},
		{"load1 r7 r1 0; mov r6 r7; mov r0 0; exit", 2, upTo(255)},
		{"mov r6 r1; mov r6 3; mov r0 0; exit", 2, num(impl.RangeOne(3))},
		{look + "mov r6 r0; mov r0 0; exit", 5, place(impl.KnowMaybe, 0, 0, 0)},
		{found + "mov r6 r0; mov r0 0; exit", 7, place(impl.KnowTable, 0, 0, 0)},
		// What is moved is known as it was: it is not tidied once more.
		{"load1 r7 r1 0; and r7 23; more r7 3 2; mov r0 0; exit; less r7 9 2; mov r0 0; exit; mov r6 r7; mov r0 0; exit", 9, num(impl.Range{Min: 4, Max: 7, Open: 7})},
	} {
		wantKnow(t, c.lines, c.at, 6, c.want)
	}
}

func TestKnowNumbers(t *testing.T) {
	wantKnow(t, "load1 r0 r1 0; exit", 1, 0, upTo(255))
	wantKnow(t, "load2 r0 r1 0; exit", 1, 0, upTo(65535))
	wantKnow(t, "load4 r0 r1 0; exit", 1, 0, upTo(most32))
	wantKnow(t, "store4 r10 -4 9; load4 r0 r10 -4; exit", 2, 0, upTo(most32))
	wantKnow(t, found+"load2 r0 r0 0; exit", 7, 0, upTo(65535))
	wantKnow(t, "call rand; exit", 1, 0, upTo(most32))
	wantKnow(t, "mov r1 0; mov r2 0; mov r3 0; call put; exit", 4, 0, upTo(3))
	wantKnow(t, "mov r1 0; call send; exit", 2, 0, num(impl.Range{}))
	wantKnow(t, socked+"mov r1 r0; call drop; exit", 7, 0, num(impl.Range{}))
	others := []impl.Range{impl.RangeOne(0), impl.RangeOne(1), impl.RangeOne(31), impl.RangeOne(1000), impl.RangeOne(most32)}
	for op := impl.OpAdd; op <= impl.OpMod; op++ {
		word := specs[op].word
		for _, r := range others {
			n := strconv.Itoa(r.Min)
			bytes := upTo(255).Range
			wantKnow(t, "load1 r0 r1 0; "+word+" r0 "+n+"; exit", 2, 0, num(impl.RangeOf(op, bytes, r)))
			wantKnow(t, "mov r0 "+n+"; load1 r6 r1 0; "+word+" r0 r6; exit", 3, 0, num(impl.RangeOf(op, r, bytes)))
			wantKnow(t, "mov r0 "+n+"; load1 r6 r1 0; "+word+" r0 r6; exit", 3, 6, upTo(255))
			wantKnow(t, "mov r0 77; "+word+" r0 "+n+"; exit", 2, 0, num(impl.RangeOne(impl.RangeDo(op, 77, r.Min))))
		}
		wantKnow(t, "load1 r0 r1 0; "+word+" r0 r0; exit", 2, 0, num(impl.RangeOf(op, upTo(255).Range, upTo(255).Range)))
	}
}

func TestKnowPlaces(t *testing.T) {
	end := "mov r0 0; exit"
	low := "load1 r7 r1 0; and r7 7; "
	below := "load1 r7 r1 0; or r7 4294967040; "
	wantKnow(t, "mov r6 r1; add r6 5; "+end, 2, 6, place(impl.KnowCame, 5, 5, 0))
	wantKnow(t, "mov r6 r1; sub r6 5; "+end, 2, 6, place(impl.KnowCame, -5, -5, 0))
	wantKnow(t, "mov r6 r10; add r6 4294967293; "+end, 2, 6, place(impl.KnowStack, 13, 13, 0))
	wantKnow(t, "mov r6 r10; sub r6 4294967293; "+end, 2, 6, place(impl.KnowStack, 19, 19, 0))
	wantKnow(t, low+"mov r6 r1; add r6 r7; "+end, 4, 6, place(impl.KnowCame, 0, 7, 0))
	wantKnow(t, low+"mov r6 r10; sub r6 r7; "+end, 4, 6, place(impl.KnowStack, 9, 16, 0))
	wantKnow(t, below+"mov r6 r1; add r6 r7; "+end, 4, 6, place(impl.KnowCame, -256, -1, 0))
	wantKnow(t, below+"mov r6 r10; sub r6 r7; "+end, 4, 6, place(impl.KnowStack, 17, 272, 0))
	wantKnow(t, low+"mov r6 r1; add r6 r7; sub r6 r7; add r6 1; "+end, 6, 6, place(impl.KnowCame, -6, 8, 0))
	wantKnow(t, low+"mov r6 r1; add r6 r7; "+end, 4, 1, place(impl.KnowCame, 0, 0, 0))
	for i := range impl.TablesMax {
		n := strconv.Itoa(i)
		lines := low + "mov r1 " + n + "; mov r2 0; call look; same r0 0 2; mov r6 r0; add r6 r7; " + end
		wantKnow(t, lines, 5, 0, place(impl.KnowMaybe, 0, 0, i))
		wantKnow(t, lines, 6, 0, place(impl.KnowTable, 0, 0, i))
		wantKnow(t, lines, 8, 6, place(impl.KnowTable, 0, 7, i), impl.Know{})
		wantKnow(t, lines, 8, 0, place(impl.KnowTable, 0, 0, i), num(impl.Range{}))
	}
}

func TestKnowBothSidesOfNumbers(t *testing.T) {
	a, b := upTo(255).Range, impl.RangeOf(impl.OpAdd, upTo(255).Range, impl.RangeOne(100))
	for op := impl.OpSame; op <= impl.OpMore; op++ {
		word := specs[op].word
		// The other side has an op more, so that the sides are told from each other.
		lines := "load1 r6 r1 0; load1 r7 r1 1; add r7 100; " + word + " r6 r7 2; mov r0 0; exit; mov r0 1; exit"
		for _, holds := range []bool{false, true} {
			at := 4
			if holds {
				at = 6
			}
			x, y, _ := impl.RangeBranch(op, a, b, holds)
			wantKnow(t, lines, at, 6, num(x))
			wantKnow(t, lines, at, 7, num(y))
			x, y, _ = impl.RangeBranch(op, b, a, holds)
			turned := strings.ReplaceAll(lines, word+" r6 r7", word+" r7 r6")
			wantKnow(t, turned, at, 7, num(x))
			wantKnow(t, turned, at, 6, num(y))
			x, _, _ = impl.RangeBranch(op, a, impl.RangeOne(50), holds)
			known := strings.ReplaceAll(lines, word+" r6 r7", word+" r6 50")
			wantKnow(t, known, at, 6, num(x))
			wantKnow(t, known, at, 7, num(b))
		}
		wantKnow(t, lines, 1, 6, upTo(255))
		wantKnow(t, lines, 3, 6, upTo(255))
	}
}

// Of a jump that leads to the op behind it both sides come there, that where it does not hold first.
func TestKnowInOrder(t *testing.T) {
	var want []impl.Know
	for _, r := range []impl.Range{{Min: 5, Max: 9}, {Min: 10, Max: 255}, {Min: 0, Max: 2}, {Min: 3, Max: 4}} {
		r.Open = 255
		want = append(want, num(impl.RangeTidy(r)))
	}
	wantKnow(t, "load1 r0 r1 0; less r0 5 1; less r0 10 1; less r0 10 0; exit", 4, 0,
		num(impl.RangeTidy(impl.Range{Min: 10, Max: 255, Open: 255})), want[0], num(impl.RangeTidy(impl.Range{Min: 0, Max: 4, Open: 255})))
	lines := "load1 r0 r1 0; less r0 5 3; less r0 10 1; go 2; go 1; more r0 2 0; exit"
	wantKnow(t, lines, 6, 0, want[1], want[0], want[2], want[3])
	wantKnow(t, lines, 3, 0, want[1])
	wantKnow(t, lines, 4, 0, want[0])
	var rounds []impl.Know
	for n := range 5 {
		rounds = append(rounds, num(impl.RangeOne(n)))
	}
	wantKnow(t, "mov r0 0; add r0 1; less r0 5 -2; exit", 1, 0, rounds...)
	wantKnow(t, "mov r0 0; add r0 1; less r0 5 -2; exit", 3, 0, num(impl.RangeOne(5)))
}

// All copies are told at once, wherever they are; what another call gave is told apart, though it is of the same table.
func TestKnowCopiesOfWhatMayBeNothing(t *testing.T) {
	nothing := "mov r0 0; exit"
	for _, c := range []struct {
		call  string
		there string
		maybe impl.Know
		is    impl.Know
	}{
		{"look", "mov r0 0; exit", place(impl.KnowMaybe, 0, 0, 1), place(impl.KnowTable, 0, 0, 1)},
		{"find", "mov r1 r6; call drop; exit", impl.Know{Kind: impl.KnowMaybeSock}, impl.Know{Kind: impl.KnowSock}},
	} {
		begin := "mov r1 1; mov r2 3; call look; mov r8 r0; mov r1 1; mov r2 3; call " + c.call + "; mov r6 r0; mov r1 r6; mov r9 r1; "
		for _, asked := range []string{"r0", "r6", "r1", "r9"} {
			ops := len(strings.Split(c.there, "; "))
			same := begin + "same " + asked + " 0 " + strconv.Itoa(ops) + "; " + c.there + "; " + nothing
			other := begin + "other " + asked + " 0 2; " + nothing + "; " + c.there
			for _, register := range []int{0, 6, 1, 9} {
				wantKnow(t, same, 10, register, c.maybe)
				wantKnow(t, other, 10, register, c.maybe)
				wantKnow(t, same, 11, register, c.is)
				wantKnow(t, same, 11+ops, register, num(impl.Range{}))
				wantKnow(t, other, 11, register, num(impl.Range{}))
				wantKnow(t, other, 13, register, c.is)
			}
			for _, at := range []int{11, 11 + ops} {
				wantKnow(t, same, at, 8, place(impl.KnowMaybe, 0, 0, 1))
			}
		}
	}
	lines := socked + "mov r6 r0; mov r8 r0; mov r7 5; mov r1 r8; call drop; exit"
	for register, want := range []impl.Know{num(impl.Range{}), {}, {}, {}, {}, {}, {}, num(impl.RangeOne(5)), {}, place(impl.KnowCame, 0, 0, 0), place(impl.KnowStack, 16, 16, 0)} {
		wantKnow(t, lines, 10, register, want)
	}
}

// What is found in a round is not what was found in the round ahead of it.
func TestKnowRoundByRound(t *testing.T) {
	maybe, table, zero := place(impl.KnowMaybe, 0, 0, 0), place(impl.KnowTable, 0, 0, 0), num(impl.Range{})
	lines := "mov r8 0; mov r7 0; mov r1 0; mov r2 0; call look; same r7 0 0; mov r7 r0; add r8 1; less r8 2 -7; mov r0 0; exit"
	wantKnow(t, lines, 9, 7, maybe, maybe)
	wantKnow(t, lines, 9, 0, maybe, maybe)
	wantKnow(t, lines, 6, 7, zero, table, zero)
	wantKnow(t, lines, 6, 0, maybe, maybe, maybe)
	lines = "mov r1 0; mov r2 0; call look; mov r6 r0; mov r1 7; call find; same r0 0 2; mov r1 r0; call drop; " +
		"mov r1 0; mov r2 0; call look; same r0 0 0; mov r0 0; exit"
	wantKnow(t, lines, 13, 0, table, zero, table, zero)
	wantKnow(t, lines, 13, 6, maybe, maybe, maybe, maybe)
	drops := "mov r8 0; mov r1 5; call find; same r0 0 2; mov r1 r0; call drop; add r8 1; less r8 3 -7; mov r0 r8; exit"
	wantKnow(t, drops, 9, 0, slices.Repeat([]impl.Know{num(impl.RangeOne(3))}, 8)...)
	wantProofs(t, []proofCase{
		{drops, impl.ProofFine, 0, 24},
		{"mov r8 0; mov r1 5; call find; add r8 1; less r8 3 -4; same r0 0 2; mov r1 r0; call drop; mov r0 0; exit", impl.ProofHeld, 9, 0},
		{"mov r8 0; mov r1 5; call find; add r8 1; less r8 1 -4; same r0 0 2; mov r1 r0; call drop; mov r0 0; exit", impl.ProofFine, 0, 10},
	})
}

// A side to which no way leads has nothing known, nor has a place that is none, nor a program that is not let in.
func TestKnowNothing(t *testing.T) {
	lines := "mov r0 1; more r0 5 1; exit; mov r0 2; exit"
	for at, times := range []int{1, 1, 1, 0, 0} {
		if know := knowEach(t, lines, at); len(know) != times {
			t.Errorf("ways come to op %d %d times, not %d", at, len(know), times)
		}
	}
	for _, at := range []int{-1 << 63, -1, 5, 6, 47, 48, 1<<63 - 1} {
		if know := knowEach(t, lines, at); len(know) > 0 {
			t.Errorf("ahead of op %d something is known: %v", at, know)
		}
	}
	for _, lines := range []string{"mov r0 r2; exit", "mov r0 1; mov r0 r2; exit", "load1 r6 r1 0; mov r0 0; less r6 5 1; exit; mov r0 r10; exit"} {
		for at := range strings.Count(lines, ";") + 1 {
			if know := knowEach(t, lines, at); len(know) > 0 {
				t.Errorf("%s: ahead of op %d something is known: %v", lines, at, know)
			}
		}
	}
}
