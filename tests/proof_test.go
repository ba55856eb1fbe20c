package tests

import (
	"reflect"
	"strconv"
	"strings"
	"testing"

	"loop.example/steerage/impl"
)

type proofCase struct {
	lines string
	code  int
	at    int
	most  int
}

func wantProofs(t *testing.T, cases []proofCase) {
	t.Helper()
	for _, c := range cases {
		want := impl.Proof{Code: c.code, At: c.at, Most: c.most}
		if p := impl.ProofOf(program(t, strings.Split(c.lines, "; ")...), threeTables()); p != want {
			t.Errorf("%s: %+v, not %+v", c.lines, p, want)
		}
	}
}

const (
	// look gives, in r0, what may be a place of table 0, find what may be a socket; both leave r9 as what came.
	look = "mov r9 r1; mov r1 0; mov r2 1; call look; "
	find = "mov r9 r1; mov r1 7; call find; "
	// found goes on with a place of table 0, socked with a socket; where there is none both end at once.
	found  = look + "other r0 0 1; exit; "
	socked = find + "other r0 0 1; exit; "
)

func TestProofLimitsAndCodes(t *testing.T) {
	got := [][]int{
		{impl.WorkMax},
		{impl.KnowNone, impl.KnowNum, impl.KnowStack, impl.KnowCame, impl.KnowTable, impl.KnowMaybe, impl.KnowSock, impl.KnowMaybeSock},
		{impl.ProofFine, impl.ProofForm, impl.ProofRead, impl.ProofKind, impl.ProofBound, impl.ProofUnset, impl.ProofTable, impl.ProofHeld, impl.ProofLong},
	}
	if want := [][]int{{1200}, {0, 1, 2, 3, 4, 5, 6, 7}, {0, 1, 2, 3, 4, 5, 6, 7, 8}}; !reflect.DeepEqual(got, want) {
		t.Errorf("limits and codes are %v, not %v", got, want)
	}
}

func TestProofRead(t *testing.T) {
	for n := 0; n < impl.RegMax; n++ {
		want := proofCase{"mov r6 r" + strconv.Itoa(n) + "; mov r0 1; exit", impl.ProofRead, 0, 0}
		if n == 1 || n == 10 {
			want.code, want.most = impl.ProofFine, 3
		}
		wantProofs(t, []proofCase{want})
	}
	for op := impl.OpAdd; op <= impl.OpMore; op++ {
		off := ""
		if op >= impl.OpSame {
			off = " 0"
		}
		for _, registers := range []string{"r0 1", "r0 0", "r2 r1", "r1 r2", "r10 r2", "r2 r10", "r2 r2"} {
			wantProofs(t, []proofCase{{specs[op].word + " " + registers + off + "; exit", impl.ProofRead, 0, 0}})
		}
		wantProofs(t, []proofCase{{"mov r6 1; " + specs[op].word + " r6 r2" + off + "; exit", impl.ProofRead, 1, 0}})
	}
	wantProofs(t, []proofCase{
		{"mov r10 r2; exit", impl.ProofRead, 0, 0},
		{"load1 r0 r2 0; exit", impl.ProofRead, 0, 0},
		{"load1 r10 r2 0; exit", impl.ProofRead, 0, 0},
		{"store1 r2 0 1; exit", impl.ProofRead, 0, 0},
		{"store1 r2 0 r1; exit", impl.ProofRead, 0, 0},
		{"store1 r10 0 r2; exit", impl.ProofRead, 0, 0},
		{"store1 r1 0 r2; exit", impl.ProofRead, 0, 0},
		{"mov r6 1; store1 r6 0 r2; exit", impl.ProofRead, 1, 0},
		{"call look; exit", impl.ProofRead, 0, 0},
		{"call rand; mov r2 1; call look; exit", impl.ProofRead, 2, 0},
		{"mov r1 9; call look; exit", impl.ProofRead, 1, 0},
		{"mov r2 1; call put; exit", impl.ProofRead, 1, 0},
		{"call rand; mov r2 1; mov r3 1; call put; exit", impl.ProofRead, 3, 0},
		{"call rand; call find; exit", impl.ProofRead, 1, 0},
		{"call rand; call drop; exit", impl.ProofRead, 1, 0},
		{"call rand; call send; exit", impl.ProofRead, 1, 0},
		{"exit", impl.ProofRead, 0, 0},
		{find + "exit; exit", impl.ProofKind, 3, 0},
		{"go 0; exit", impl.ProofRead, 1, 0},
		{"load1 r6 r1 0; less r6 5 1; mov r0 1; exit", impl.ProofRead, 3, 0},
		{"load1 r6 r1 0; less r6 5 1; go 1; mov r0 1; exit", impl.ProofRead, 4, 0},
	})
}

func TestProofRegistersBehindACall(t *testing.T) {
	var fill []string
	for n := 0; n <= 9; n++ {
		fill = append(fill, "mov r"+strconv.Itoa(n)+" "+strconv.Itoa(40+n))
	}
	begin := strings.Join(fill, "; ") + "; "
	for _, call := range []string{
		"mov r1 1; call look; ", "mov r1 1; call put; ", "call rand; ", "call send; ",
		"call find; mov r6 r0; other r0 0 2; mov r0 0; exit; mov r1 r0; mov r2 2; call drop; ",
	} {
		at := len(strings.Split(begin+call, "; ")) - 1
		for n := 1; n <= 5; n++ {
			wantProofs(t, []proofCase{{begin + call + "mov r0 r" + strconv.Itoa(n) + "; exit", impl.ProofRead, at, 0}})
		}
		most := at + 2
		if strings.Contains(call, "drop") {
			most -= 2
		}
		for n := 7; n <= 9; n++ {
			wantProofs(t, []proofCase{{begin + call + "mov r0 r" + strconv.Itoa(n) + "; exit", impl.ProofFine, 0, most}})
		}
	}
}

func TestProofKindOfWhatReckons(t *testing.T) {
	for op := impl.OpAdd; op <= impl.OpMod; op++ {
		word := specs[op].word
		wantProofs(t, []proofCase{
			{"mov r6 1; " + word + " r6 r1; exit", impl.ProofKind, 1, 0},
			{word + " r1 r1; exit", impl.ProofKind, 0, 0},
			{word + " r1 r10; exit", impl.ProofKind, 0, 0},
			{word + " r10 0; exit", impl.ProofKind, 0, 0},
			{word + " r10 r1; exit", impl.ProofKind, 0, 0},
			{word + " r10 2000000; exit", impl.ProofKind, 0, 0},
			{look + word + " r0 0; exit", impl.ProofKind, 4, 0},
			{look + "mov r6 1; " + word + " r6 r0; exit", impl.ProofKind, 5, 0},
			{look + word + " r9 r0; exit", impl.ProofKind, 4, 0},
			{find + word + " r0 0; exit", impl.ProofKind, 3, 0},
			{find + "mov r6 1; " + word + " r6 r0; exit", impl.ProofKind, 4, 0},
			{socked + word + " r0 0; exit", impl.ProofKind, 5, 0},
			{socked + "mov r6 1; " + word + " r6 r0; exit", impl.ProofKind, 6, 0},
		})
		if op > impl.OpSub {
			wantProofs(t, []proofCase{
				{word + " r1 1; exit", impl.ProofKind, 0, 0},
				{"mov r6 r10; " + word + " r6 1; exit", impl.ProofKind, 1, 0},
				{found + word + " r0 1; exit", impl.ProofKind, 6, 0},
			})
		}
	}
	wantProofs(t, []proofCase{
		{"mov r10 1; exit", impl.ProofKind, 0, 0},
		{"mov r10 r10; exit", impl.ProofKind, 0, 0},
		{"mov r0 r10; exit", impl.ProofKind, 1, 0},
	})
}

func TestProofKindOfJumps(t *testing.T) {
	for op := impl.OpSame; op <= impl.OpMore; op++ {
		word := specs[op].word
		wantProofs(t, []proofCase{
			{word + " r1 1 0; exit", impl.ProofKind, 0, 0},
			{word + " r10 4294967295 0; exit", impl.ProofKind, 0, 0},
			{"mov r6 0; " + word + " r1 r6 0; exit", impl.ProofKind, 1, 0},
			{"mov r6 0; " + word + " r6 r1 0; exit", impl.ProofKind, 1, 0},
			{word + " r1 r1 0; exit", impl.ProofKind, 0, 0},
			{look + word + " r0 1 0; exit", impl.ProofKind, 4, 0},
			{look + word + " r0 r0 0; exit", impl.ProofKind, 4, 0},
			{look + "mov r6 0; " + word + " r0 r6 0; exit", impl.ProofKind, 5, 0},
			{look + "mov r6 0; " + word + " r6 r0 0; exit", impl.ProofKind, 5, 0},
			{find + word + " r0 1 0; exit", impl.ProofKind, 3, 0},
			{find + word + " r0 r0 0; exit", impl.ProofKind, 3, 0},
			{socked + word + " r0 1 0; exit", impl.ProofKind, 5, 0},
		})
		if op > impl.OpOther {
			wantProofs(t, []proofCase{
				{word + " r1 0 0; exit", impl.ProofKind, 0, 0},
				{look + word + " r0 0 0; exit", impl.ProofKind, 4, 0},
				{find + word + " r0 0 0; exit", impl.ProofKind, 3, 0},
			})
		}
	}
}

func TestProofKindOfLoadsAndStores(t *testing.T) {
	wantProofs(t, []proofCase{
		{"mov r6 0; load1 r0 r6 0; exit", impl.ProofKind, 1, 0},
		{look + "load1 r0 r0 0; exit", impl.ProofKind, 4, 0},
		{find + "load1 r0 r0 0; exit", impl.ProofKind, 3, 0},
		{socked + "load1 r0 r0 0; exit", impl.ProofKind, 5, 0},
		{"load1 r10 r1 0; exit", impl.ProofKind, 0, 0},
		{"load1 r10 r1 12; exit", impl.ProofKind, 0, 0},
		{"load1 r10 r10 -1; exit", impl.ProofKind, 0, 0},
		{"mov r6 0; store1 r6 0 1; exit", impl.ProofKind, 1, 0},
		{look + "store1 r0 0 1; exit", impl.ProofKind, 4, 0},
		{find + "store1 r0 0 1; exit", impl.ProofKind, 3, 0},
		{look + "store1 r10 -1 r0; exit", impl.ProofKind, 4, 0},
		{find + "store1 r10 -1 r0; exit", impl.ProofKind, 3, 0},
		{socked + "store1 r10 -1 r0; exit", impl.ProofKind, 5, 0},
		{"store1 r1 0 1; exit", impl.ProofKind, 0, 0},
		{"store1 r1 12 1; exit", impl.ProofKind, 0, 0},
		{"store4 r10 -4 r1; exit", impl.ProofKind, 0, 0},
		{"store4 r10 0 r1; exit", impl.ProofKind, 0, 0},
	})
}

func TestProofKindOfCallsAndExits(t *testing.T) {
	wantProofs(t, []proofCase{
		{"mov r2 1; call look; exit", impl.ProofKind, 1, 0},
		{"mov r1 9; mov r2 r10; call look; exit", impl.ProofKind, 2, 0},
		{look + "mov r1 r0; mov r2 1; call look; exit", impl.ProofKind, 6, 0},
		{look + "mov r1 9; mov r2 r0; call look; exit", impl.ProofKind, 6, 0},
		{"mov r2 1; mov r3 1; call put; exit", impl.ProofKind, 2, 0},
		{"mov r1 9; mov r2 1; mov r3 r10; call put; exit", impl.ProofKind, 3, 0},
		{"mov r1 9; mov r2 r10; mov r3 1; call put; exit", impl.ProofKind, 3, 0},
		{"call find; exit", impl.ProofKind, 0, 0},
		{look + "mov r1 r0; call find; exit", impl.ProofKind, 5, 0},
		{"call send; exit", impl.ProofKind, 0, 0},
		{find + "mov r1 r0; call send; exit", impl.ProofKind, 4, 0},
		{socked + "mov r1 r0; call send; exit", impl.ProofKind, 6, 0},
		{"call drop; exit", impl.ProofKind, 0, 0},
		{"mov r1 0; call drop; exit", impl.ProofKind, 1, 0},
		{find + "mov r1 r0; call drop; exit", impl.ProofKind, 4, 0},
		{look + "mov r1 r0; call drop; exit", impl.ProofKind, 5, 0},
		{find + "mov r1 r0; same r0 0 0; call drop; exit", impl.ProofKind, 5, 0},
		{"mov r0 r1; exit", impl.ProofKind, 1, 0},
		{look + "exit", impl.ProofKind, 4, 0},
		{find + "exit", impl.ProofKind, 3, 0},
		{found + "exit", impl.ProofKind, 6, 0},
		{socked + "exit", impl.ProofKind, 5, 0},
	})
}

func TestProofBoundOfKnownPlaces(t *testing.T) {
	for _, place := range []struct {
		begin, register string
		low, high       int
	}{
		{"", "r1", 0, 12},
		{"store4 r10 -16 1; store4 r10 -12 1; store4 r10 -8 1; store4 r10 -4 1; ", "r10", -16, 0},
		{found, "r0", 0, 4},
		{found + "add r0 3; ", "r0", -3, 1},
		{"mov r6 r1; sub r6 5; ", "r6", 5, 17},
	} {
		at := len(strings.Split(place.begin, "; ")) - 1
		most := at + 2
		if strings.HasPrefix(place.begin, found) {
			most--
		}
		for _, size := range []int{1, 2, 4} {
			for off := place.low - 2; off <= place.high+1; off++ {
				want := proofCase{code: impl.ProofBound, at: at}
				if off >= place.low && off+size <= place.high {
					want = proofCase{code: impl.ProofFine, most: most}
				}
				tail := strconv.Itoa(size) + " r0 " + place.register + " " + strconv.Itoa(off) + "; exit"
				want.lines = place.begin + "load" + tail
				wantProofs(t, []proofCase{want})
			}
		}
	}
	for _, c := range []proofCase{
		{"store4 r10 -16 1; ", 0, 0, 3}, {"store4 r10 -17 1; ", impl.ProofBound, 0, 0},
		{"store2 r10 -2 1; ", 0, 0, 3}, {"store2 r10 -1 1; ", impl.ProofBound, 0, 0},
		{found + "store4 r0 0 1; ", 0, 0, 8}, {found + "store4 r0 1 1; ", impl.ProofBound, 6, 0},
		{found + "store1 r0 3 1; ", 0, 0, 8}, {found + "store1 r0 -1 1; ", impl.ProofBound, 6, 0},
	} {
		c.lines += "mov r0 1; exit"
		wantProofs(t, []proofCase{c})
	}
}

// A place that is moved by what is not known is held against its room from the least to the most.
func TestProofBoundOfPlacesFromTo(t *testing.T) {
	upTo := func(n int) string { return "load1 r6 r1 0; and r6 " + strconv.Itoa(n) + "; " }
	wantProofs(t, []proofCase{
		{upTo(7) + "add r1 r6; load1 r0 r1 4; exit", impl.ProofFine, 0, 5},
		{upTo(7) + "add r1 r6; load1 r0 r1 5; exit", impl.ProofBound, 3, 0},
		{upTo(7) + "add r1 r6; load1 r0 r1 -1; exit", impl.ProofBound, 3, 0},
		{upTo(7) + "add r1 r6; load4 r0 r1 1; exit", impl.ProofFine, 0, 5},
		{upTo(7) + "add r1 r6; load4 r0 r1 2; exit", impl.ProofBound, 3, 0},
		{upTo(7) + "sub r1 r6; load1 r0 r1 7; exit", impl.ProofFine, 0, 5},
		{upTo(7) + "sub r1 r6; load1 r0 r1 6; exit", impl.ProofBound, 3, 0},
		{upTo(7) + "sub r1 r6; load1 r0 r1 11; exit", impl.ProofFine, 0, 5},
		{upTo(7) + "sub r1 r6; load1 r0 r1 12; exit", impl.ProofBound, 3, 0},
		{upTo(7) + "add r1 r6; sub r1 r6; load1 r0 r1 4; exit", impl.ProofBound, 4, 0},
		{upTo(3) + "add r1 r6; sub r1 r6; load1 r0 r1 3; exit", impl.ProofFine, 0, 6},
		{upTo(3) + "or r6 4294967292; add r1 r6; load1 r0 r1 4; exit", impl.ProofFine, 0, 6},
		{upTo(3) + "or r6 4294967292; add r1 r6; load1 r0 r1 3; exit", impl.ProofBound, 4, 0},
		{upTo(3) + "or r6 4294967292; sub r1 r6; load1 r0 r1 -1; exit", impl.ProofFine, 0, 6},
		{upTo(3) + "or r6 4294967292; sub r1 r6; load1 r0 r1 -2; exit", impl.ProofBound, 4, 0},
		{upTo(3) + "or r6 4294967292; sub r1 r6; load1 r0 r1 7; exit", impl.ProofFine, 0, 6},
		{upTo(3) + "or r6 4294967292; sub r1 r6; load1 r0 r1 8; exit", impl.ProofBound, 4, 0},
		{upTo(3) + "mov r7 r10; sub r7 r6; store1 r7 -1 1; mov r0 1; exit", impl.ProofFine, 0, 7},
		{upTo(3) + "mov r7 r10; sub r7 r6; store1 r7 0 1; mov r0 1; exit", impl.ProofBound, 4, 0},
		{upTo(3) + "mov r7 r10; sub r7 r6; store1 r7 -13 1; mov r0 1; exit", impl.ProofFine, 0, 7},
		{upTo(3) + "mov r7 r10; sub r7 r6; store1 r7 -14 1; mov r0 1; exit", impl.ProofBound, 4, 0},
		{upTo(3) + found + "add r0 r6; store1 r0 0 9; load1 r0 r0 0; exit", impl.ProofFine, 0, 11},
		{upTo(3) + found + "add r0 r6; store2 r0 0 9; load1 r0 r0 0; exit", impl.ProofBound, 9, 0},
		{upTo(3) + found + "add r0 r6; load2 r0 r0 0; exit", impl.ProofBound, 9, 0},
	})
}

func TestProofBoundOfFarPlaces(t *testing.T) {
	far := strconv.Itoa
	for _, p := range []struct {
		begin string
		place int
		at    int
		most  int
	}{
		{"mov r6 r1; ", 0, 1, 4},
		{"mov r6 r10; ", 16, 1, 4},
		{found + "mov r6 r0; ", 0, 7, 9},
	} {
		fine := func(op string, n int) proofCase {
			return proofCase{p.begin + op + " r6 " + far(n) + "; mov r0 3; exit", impl.ProofFine, 0, p.most}
		}
		wrong := func(op string, n int) proofCase {
			return proofCase{fine(op, n).lines, impl.ProofBound, p.at, 0}
		}
		on, back := impl.FarMax-p.place, impl.FarMax+p.place
		wantProofs(t, []proofCase{
			fine("add", on), wrong("add", on+1), fine("sub", back), wrong("sub", back+1),
			fine("add", most32+1-back), wrong("add", most32-back), fine("sub", most32+1-on), wrong("sub", most32-on),
			wrong("add", 1<<31-1), wrong("add", 1<<31), wrong("sub", 1<<31-1), wrong("sub", 1<<31),
		})
	}
	end := "mov r0 3; exit"
	wantProofs(t, []proofCase{
		{"load1 r6 r1 0; add r1 999745; add r1 r6; " + end, impl.ProofFine, 0, 5},
		{"load1 r6 r1 0; add r1 999746; add r1 r6; " + end, impl.ProofBound, 2, 0},
		{"load1 r6 r1 0; sub r1 999745; sub r1 r6; " + end, impl.ProofFine, 0, 5},
		{"load1 r6 r1 0; sub r1 999746; sub r1 r6; " + end, impl.ProofBound, 2, 0},
		{"load1 r6 r1 0; sub r1 1000000; add r1 r6; sub r1 1; " + end, impl.ProofBound, 3, 0},
		{"load1 r6 r1 0; add r1 1000000; sub r1 r6; add r1 1; " + end, impl.ProofBound, 3, 0},
		{"load1 r6 r1 0; sub r1 1000000; add r1 r6; add r1 1999745; " + end, impl.ProofFine, 0, 6},
		{"load1 r6 r1 0; sub r1 1000000; add r1 r6; add r1 1999746; " + end, impl.ProofBound, 3, 0},
	})
}

// A number that is not known may be one below 0 and one above 0 at once: its ends are then not in order.
func TestProofBoundOfNumbersOutOfOrder(t *testing.T) {
	end := "mov r0 3; exit"
	wantProofs(t, []proofCase{
		{"load4 r6 r1 0; add r1 r6; " + end, impl.ProofBound, 1, 0},
		{"load4 r6 r1 0; sub r1 r6; " + end, impl.ProofBound, 1, 0},
		{"load4 r6 r1 0; more r6 4 2; " + end + "; add r1 r6; " + end, impl.ProofBound, 4, 0},
		{"load4 r6 r1 0; less r6 5 2; " + end + "; add r1 r6; " + end, impl.ProofFine, 0, 5},
		{"load4 r6 r1 0; more r6 4294967290 2; " + end + "; add r1 r6; " + end, impl.ProofFine, 0, 5},
		{"load4 r6 r1 0; more r6 4293967295 2; " + end + "; add r1 r6; " + end, impl.ProofFine, 0, 5},
		{"load4 r6 r1 0; more r6 4293967294 2; " + end + "; add r1 r6; " + end, impl.ProofBound, 4, 0},
		{"load4 r6 r1 0; more r6 4293967295 2; " + end + "; sub r1 r6; " + end, impl.ProofFine, 0, 5},
		{"load4 r6 r1 0; more r6 4293967294 2; " + end + "; sub r1 r6; " + end, impl.ProofBound, 4, 0},
		{"load1 r6 r1 0; add r6 2147483640; add r1 r6; " + end, impl.ProofBound, 2, 0},
	})
}

func TestProofUnset(t *testing.T) {
	for n := 1; n <= impl.StackMax; n++ {
		off := strconv.Itoa(-n)
		wantProofs(t, []proofCase{
			{"load1 r0 r10 " + off + "; exit", impl.ProofUnset, 0, 0},
			{"store1 r10 " + off + " 1; load1 r0 r10 " + off + "; exit", impl.ProofFine, 0, 3},
		})
	}
	wantProofs(t, []proofCase{
		{"store2 r10 -4 1; load2 r0 r10 -4; exit", impl.ProofFine, 0, 3},
		{"store2 r10 -4 1; load1 r0 r10 -3; exit", impl.ProofFine, 0, 3},
		{"store2 r10 -4 1; load1 r0 r10 -2; exit", impl.ProofUnset, 1, 0},
		{"store2 r10 -4 1; load1 r0 r10 -5; exit", impl.ProofUnset, 1, 0},
		{"store2 r10 -4 1; load2 r0 r10 -5; exit", impl.ProofUnset, 1, 0},
		{"store2 r10 -4 1; load4 r0 r10 -4; exit", impl.ProofUnset, 1, 0},
		{"store2 r10 -4 1; store2 r10 -2 1; load4 r0 r10 -4; exit", impl.ProofFine, 0, 4},
		{"store2 r10 -4 1; store1 r10 -1 1; load4 r0 r10 -4; exit", impl.ProofUnset, 2, 0},
		{"mov r6 r10; sub r6 4; store4 r6 0 1; load4 r0 r10 -4; exit", impl.ProofFine, 0, 5},
		{"load2 r0 r10 -1; exit", impl.ProofBound, 0, 0},
		{"load1 r6 r1 0; same r6 5 1; store1 r10 -1 0; load1 r0 r10 -1; exit", impl.ProofUnset, 3, 0},
		{"load1 r6 r1 0; other r6 5 1; store1 r10 -1 0; load1 r0 r10 -1; exit", impl.ProofUnset, 3, 0},
		{"load1 r6 r1 0; same r6 5 2; store1 r10 -1 0; go 1; store1 r10 -1 0; load1 r0 r10 -1; exit", impl.ProofFine, 0, 6},
		{"call rand; store1 r10 -1 r0; call rand; load1 r0 r10 -1; exit", impl.ProofFine, 0, 5},
	})
}

func TestProofUnsetOfPlacesFromTo(t *testing.T) {
	begin := "load1 r6 r1 0; and r6 1; mov r7 r10; sub r7 r6; "
	wantProofs(t, []proofCase{
		{begin + "store1 r7 -1 1; load1 r0 r10 -1; exit", impl.ProofUnset, 5, 0},
		{begin + "store1 r7 -1 1; load1 r0 r10 -2; exit", impl.ProofUnset, 5, 0},
		{begin + "store1 r7 -1 1; load1 r0 r7 -1; exit", impl.ProofUnset, 5, 0},
		{begin + "store2 r7 -2 1; load1 r0 r10 -2; exit", impl.ProofUnset, 5, 0},
		{begin + "store1 r10 -1 1; load1 r0 r7 -1; exit", impl.ProofUnset, 5, 0},
		{begin + "store1 r10 -2 1; load1 r0 r7 -1; exit", impl.ProofUnset, 5, 0},
		{begin + "store2 r10 -2 1; load1 r0 r7 -1; exit", impl.ProofFine, 0, 7},
		{begin + "store2 r10 -2 1; load2 r0 r7 -2; exit", impl.ProofUnset, 5, 0},
		{begin + "store4 r10 -4 1; load2 r0 r7 -2; exit", impl.ProofFine, 0, 7},
		{begin + "store4 r10 -4 1; store1 r7 -1 1; load4 r0 r10 -4; exit", impl.ProofFine, 0, 8},
		{begin + "mov r8 r10; add r8 r6; sub r8 r6; store4 r10 -4 1; load1 r0 r8 -2; exit", impl.ProofFine, 0, 10},
	})
}

func TestProofTable(t *testing.T) {
	for _, call := range []string{"look", "put"} {
		ends := "mov r2 0; mov r3 0; call " + call + "; mov r0 0; exit"
		wantProofs(t, []proofCase{
			{"mov r1 0; " + ends, impl.ProofFine, 0, 6},
			{"mov r1 2; " + ends, impl.ProofFine, 0, 6},
			{"mov r1 3; " + ends, impl.ProofTable, 3, 0},
			{"mov r1 4294967295; " + ends, impl.ProofTable, 3, 0},
			{"load1 r1 r1 0; " + ends, impl.ProofTable, 3, 0},
			{"load1 r1 r1 0; and r1 1; " + ends, impl.ProofTable, 4, 0},
			{"load1 r1 r1 0; and r1 0; " + ends, impl.ProofFine, 0, 7},
			{"load1 r1 r1 0; less r1 1 2; mov r0 0; exit; " + ends, impl.ProofFine, 0, 7},
			{"load1 r1 r1 0; same r1 2 2; mov r0 0; exit; " + ends, impl.ProofFine, 0, 7},
			{"load1 r1 r1 0; same r1 3 2; mov r0 0; exit; " + ends, impl.ProofTable, 6, 0},
		})
		list := program(t, strings.Split("mov r1 1; "+ends, "; ")...)
		for count := range impl.TablesMax + 1 {
			want := impl.Proof{Code: impl.ProofTable, At: 3}
			if count > 1 {
				want = impl.Proof{Most: 6}
			}
			if p := impl.ProofOf(list, threeTables()[:count]); p != want {
				t.Errorf("%s with %d tables: %+v, not %+v", call, count, p, want)
			}
		}
	}
	// Each table has its own Size.
	for i, size := range []int{4, 8, 1} {
		begin := "mov r1 " + strconv.Itoa(i) + "; mov r2 0; call look; same r0 0 1; load1 r0 r0 "
		wantProofs(t, []proofCase{
			{begin + strconv.Itoa(size-1) + "; exit", impl.ProofFine, 0, 6},
			{begin + strconv.Itoa(size) + "; exit", impl.ProofBound, 4, 0},
		})
	}
}

func TestProofHeld(t *testing.T) {
	drop := "mov r1 r0; call drop; "
	wantProofs(t, []proofCase{
		{find + "mov r0 0; exit", impl.ProofHeld, 4, 0},
		{find + "same r0 0 1; mov r0 1; exit", impl.ProofHeld, 5, 0},
		{find + "same r0 0 2; mov r0 1; exit; mov r0 2; exit", impl.ProofHeld, 5, 0},
		{find + "other r0 0 2; mov r0 1; exit; mov r0 2; exit", impl.ProofHeld, 7, 0},
		{find + "other r0 0 1; exit; " + drop + "exit", impl.ProofFine, 0, 7},
		{find + "same r0 0 2; " + drop + "exit", impl.ProofFine, 0, 7},
		{find + "mov r6 r0; mov r0 1; same r6 0 2; mov r1 r6; call drop; exit", impl.ProofFine, 0, 9},
		{find + "mov r6 r0; same r0 0 2; mov r1 r6; call drop; exit", impl.ProofFine, 0, 8},
		{find + "mov r6 r0; same r6 0 2; " + drop + "exit", impl.ProofFine, 0, 8},
		{find + "mov r6 r0; same r0 0 2; " + drop + "mov r0 r6; exit", impl.ProofRead, 7, 0},
		{find + "mov r6 r0; same r0 0 2; " + drop + "mov r1 r6; call drop; exit", impl.ProofRead, 7, 0},
		// What was found twice is to be dropped twice, whether the key is the same or not.
		{find + "mov r6 r0; mov r1 7; call find; same r0 0 2; " + drop + "mov r0 1; exit", impl.ProofHeld, 10, 0},
		{find + "mov r6 r0; mov r1 7; call find; same r0 0 2; " + drop + "same r6 0 2; mov r1 r6; call drop; mov r0 1; exit", impl.ProofFine, 0, 14},
		{find + "mov r6 r0; mov r1 7; call find; same r6 0 2; mov r1 r6; call drop; mov r0 1; exit", impl.ProofHeld, 10, 0},
		{find + "mov r6 r0; mov r1 7; call find; mov r7 r0; same r6 0 2; mov r1 r6; call drop; mov r0 1; exit", impl.ProofHeld, 11, 0},
		// A socket that no register has any more is held for good.
		{find + "mov r1 7; call find; same r0 0 2; " + drop + "mov r0 1; exit", impl.ProofHeld, 9, 0},
		// A look is held by nobody.
		{look + "same r0 0 1; mov r0 1; exit", impl.ProofFine, 0, 7},
		{look + "mov r0 1; exit", impl.ProofFine, 0, 6},
		{find + "mov r6 r0; mov r1 0; mov r2 1; call look; same r0 0 1; mov r0 1; exit", impl.ProofHeld, 9, 0},
	})
}

func TestProofOneSideAlone(t *testing.T) {
	for _, p := range []proofCase{
		{"mov r6 r1; ", 0, 1, 0},
		{"mov r6 r10; ", 0, 1, 0},
		{"mov r6 r10; add r6 4294967295; ", 0, 2, 0},
		{found + "mov r6 r0; ", 0, 7, -1},
	} {
		wantProofs(t, []proofCase{
			{p.lines + "mov r0 1; same r6 0 1; exit; mov r0 r2; exit", impl.ProofFine, 0, p.at + 3 + p.most},
			{p.lines + "mov r0 1; other r6 0 2; mov r0 r2; exit; mov r0 3; exit", impl.ProofFine, 0, p.at + 4 + p.most},
			{p.lines + "mov r0 1; same r6 0 1; mov r0 r2; exit", impl.ProofRead, p.at + 2, 0},
			{p.lines + "mov r0 1; other r6 0 1; exit; mov r0 r2; exit", impl.ProofRead, p.at + 3, 0},
		})
	}
	wantProofs(t, []proofCase{
		{socked + "same r0 0 3; mov r1 r0; call drop; exit; mov r0 r2; exit", impl.ProofFine, 0, 8},
		{socked + "other r0 0 2; mov r0 r2; exit; mov r1 r0; call drop; exit", impl.ProofFine, 0, 8},
		{"mov r0 1; more r0 5 1; exit; load1 r0 r0 0; exit", impl.ProofFine, 0, 3},
		{"mov r0 6; more r0 5 1; mov r0 r2; exit", impl.ProofFine, 0, 3},
		{"load1 r0 r1 0; more r0 255 1; exit; mov r0 r2; exit", impl.ProofFine, 0, 3},
		{"load1 r0 r1 0; more r0 254 1; exit; mov r0 r2; exit", impl.ProofRead, 3, 0},
		{"load1 r0 r1 0; less r0 256 1; mov r0 r2; exit", impl.ProofFine, 0, 3},
		{"load1 r0 r1 0; less r0 255 1; mov r0 r2; exit", impl.ProofRead, 2, 0},
		{"load1 r0 r1 0; or r0 1; same r0 2 1; exit; mov r0 r2; exit", impl.ProofFine, 0, 4},
		{"load1 r0 r1 0; or r0 1; same r0 3 1; exit; mov r0 r2; exit", impl.ProofRead, 4, 0},
		{"load1 r0 r1 0; mov r6 300; same r0 r6 1; exit; mov r0 r2; exit", impl.ProofFine, 0, 4},
		{"load1 r0 r1 0; mov r6 300; other r6 r0 1; mov r0 r2; exit", impl.ProofFine, 0, 4},
	})
}

// Of a register with itself a side that its range does not have is not followed, but no other number is known behind it.
func TestProofARegisterWithItself(t *testing.T) {
	wantProofs(t, []proofCase{
		{"mov r0 5; same r0 r0 1; mov r0 r2; exit", impl.ProofFine, 0, 3},
		{"mov r0 5; other r0 r0 1; exit; mov r0 r2; exit", impl.ProofFine, 0, 3},
		{"mov r0 5; less r0 r0 1; exit; mov r0 r2; exit", impl.ProofFine, 0, 3},
		{"mov r0 5; more r0 r0 1; exit; mov r0 r2; exit", impl.ProofFine, 0, 3},
		{"load1 r0 r1 0; same r0 r0 1; mov r0 r2; exit", impl.ProofRead, 2, 0},
		{"load1 r0 r1 0; less r0 r0 1; exit; mov r0 r2; exit", impl.ProofRead, 3, 0},
	})
	bytes := impl.Know{Kind: impl.KnowNum, Range: impl.Range{Max: 255, Open: 255}}
	for op := impl.OpSame; op <= impl.OpMore; op++ {
		wantKnow(t, "load1 r0 r1 0; "+specs[op].word+" r0 r0 0; exit", 2, 0, bytes, bytes)
	}
}

// The side where a jump does not hold is followed to its end ahead of the other one, though that has lower places.
func TestProofTheFirstOfWhatMayGoWrong(t *testing.T) {
	begin := "load1 r6 r1 0; less r6 5 1; go 2; "
	wantProofs(t, []proofCase{
		{begin + "mov r0 r10; exit; mov r0 r2; exit", impl.ProofRead, 5, 0},
		{begin + "mov r0 r10; exit; mov r0 2; exit", impl.ProofKind, 4, 0},
		{begin + "mov r0 1; exit; mov r0 2; exit", impl.ProofFine, 0, 5},
		{"mov r0 1; load1 r6 r1 0; less r6 5 4; less r6 9 1; exit; mov r0 r10; exit; load1 r0 r1 12; exit", impl.ProofKind, 6, 0},
		{"mov r0 1; load1 r6 r1 0; less r6 5 2; less r6 9 2; exit; load1 r0 r1 12; mov r0 r10; exit", impl.ProofKind, 7, 0},
	})
}

func TestProofLong(t *testing.T) {
	wantProofs(t, []proofCase{
		{long(0, 148), impl.ProofFine, 0, 299},
		{long(1, 148), impl.ProofFine, 0, 300},
		{long(2, 148), impl.ProofLong, 6, 0},
		{long(3, 148), impl.ProofLong, 6, 0},
		{"go -1", impl.ProofLong, 0, 0},
		{"go 0; go -2", impl.ProofLong, 0, 0},
		{"mov r6 1; go 0; go -2", impl.ProofLong, 2, 0},
		{"other r1 0 -1; mov r0 0; exit", impl.ProofLong, 0, 0},
		{"mov r6 0; same r6 r6 -1; exit", impl.ProofLong, 1, 0},
		{"mov r0 0; load1 r6 r1 0; same r6 9 -2; exit", impl.ProofLong, 2, 0},
		// What goes wrong ahead of it is told in its stead, what does so behind it is not.
		{"mov r6 0; add r6 1; less r6 149 -2; mov r0 r9; exit", impl.ProofRead, 3, 0},
		{"mov r7 0; mov r6 0; add r6 1; less r6 149 -2; mov r0 r9; exit", impl.ProofLong, 4, 0},
	})
}

// wide is a program of ways that part n times, with as many ops as there are rounds, twice, and ahead, in front.
func wide(ahead int, rounds int, n int, tail int) string {
	return strings.Repeat("load1 r6 r1 0; ", ahead) + "mov r8 0; add r8 1; less r8 " + strconv.Itoa(rounds) + " -2; load1 r7 r1 0; " +
		strings.Repeat("same r7 r7 0; ", n) + strings.Repeat("mov r0 1; ", tail) + "exit"
}

// Ops ahead of where ways part are followed once: 2 to the power of 8 ways have 255 jumps, and each its own tail.
func TestProofLongInAll(t *testing.T) {
	ops := func(ahead int, rounds int, n int, tail int) int {
		return ahead + 1 + 2*rounds + 1 + 1<<n - 1 + 1<<n*(tail+1)
	}
	for ahead := range 3 {
		all := ops(ahead, 86, 8, 2)
		if all != impl.WorkMax-3+ahead {
			t.Fatal("there are", all, "ops to follow")
		}
	}
	for ahead := range 6 {
		lines := wide(ahead, 86, 8, 2)
		count := len(strings.Split(lines, "; "))
		want := proofCase{lines, impl.ProofFine, 0, ahead + 1 + 2*86 + 1 + 8 + 3}
		if ops(ahead, 86, 8, 2) > impl.WorkMax {
			// The last op of the last way is what is left; the more there is ahead, the more is left.
			want = proofCase{lines, impl.ProofLong, count - (ops(ahead, 86, 8, 2) - impl.WorkMax), 0}
		}
		wantProofs(t, []proofCase{want})
	}
	// As many ops on one way alone are too many already.
	wantProofs(t, []proofCase{{wide(0, 150, 0, 1), impl.ProofLong, 2, 0}})
}
