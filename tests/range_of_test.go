package tests

import (
	"testing"

	"loop.example/steerage/impl"
)

func TestP15WhatAnOpMakesIsOfItsRange(t *testing.T) {
	eachDrawnPair(90, func(a drawn, b drawn) {
		for op := impl.OpMov; op <= impl.OpMod; op++ {
			r := impl.RangeOf(op, a.Range, b.Range)
			if len(a.numbers) == 0 || len(b.numbers) == 0 {
				if r != noRange {
					t.Fatalf("op %d of %v, %v: %v", op, a.Range, b.Range, r)
				}
				continue
			}
			for _, n := range a.numbers {
				for _, m := range b.numbers {
					if x := impl.RangeDo(op, n, m); !impl.RangeHas(r, x) {
						t.Fatalf("op %d of %v, %v: %v has not %d, of %d, %d", op, a.Range, b.Range, r, x, n, m)
					}
				}
			}
		}
	})
}

func TestP15WideRanges(t *testing.T) {
	for _, low := range edgeNumbers {
		for _, high := range edgeNumbers {
			for _, n := range edgeNumbers {
				for op := impl.OpMov; op <= impl.OpMod && low <= high; op++ {
					r, turned := impl.RangeOf(op, rough(low, high), one(n)), impl.RangeOf(op, one(n), rough(low, high))
					for _, x := range []int{low, high, low + (high-low)/2} {
						if !impl.RangeHas(r, impl.RangeDo(op, x, n)) || !impl.RangeHas(turned, impl.RangeDo(op, n, x)) {
							t.Fatalf("op %d of %d..%d, and %d: %v, turned round %v, %d", op, low, high, n, r, turned, x)
						}
					}
				}
			}
		}
	}
}

// ofCase is what the document's words make of two ranges, reckoned by hand.
type ofCase struct {
	op   int
	a, b impl.Range
	want impl.Range
}

func checkOf(t *testing.T, list []ofCase) {
	t.Helper()
	for _, c := range list {
		if got := impl.RangeOf(c.op, c.a, c.b); got != c.want {
			t.Errorf("op %d of %v, %v: %v, not %v", c.op, c.a, c.b, got, c.want)
		}
	}
}

func TestP15SumsAndProducts(t *testing.T) {
	checkOf(t, []ofCase{
		{impl.OpMov, rough(0, 5), rough(16, 23), impl.Range{Min: 16, Max: 23, Bits: 16, Open: 7}},
		{impl.OpMov, one(3), rough(16, 23), impl.Range{Min: 16, Max: 23, Bits: 16, Open: 7}},
		{impl.OpMov, rough(16, 23), one(3), one(3)},
		{impl.OpAdd, rough(16, 23), rough(1, 2), impl.Range{Min: 17, Max: 25, Bits: 16, Open: 15}},
		{impl.OpAdd, rough(0, 1), one(most32 - 1), impl.Range{Min: most32 - 1, Max: most32, Bits: most32 - 1, Open: 1}},
		{impl.OpAdd, rough(0, 1), one(most32), allRange},
		{impl.OpAdd, rough(2, 3), one(most32 - 1), impl.Range{Min: 0, Max: 1, Open: 1}},
		{impl.OpAdd, rough(1, 3), rough(5, most32-3), impl.Range{Min: 6, Max: most32, Open: most32}},
		{impl.OpAdd, rough(1, 4), rough(5, most32-3), allRange},
		{impl.OpAdd, allRange, allRange, allRange},
		{impl.OpAdd, impl.Range{Max: 8, Open: 8}, one(1), impl.Range{Min: 1, Max: 9, Bits: 1, Open: 8}},
		{impl.OpAdd, impl.Range{Max: 1, Open: 1}, impl.Range{Max: 1, Open: 1}, impl.Range{Max: 2, Open: 3}},
		{impl.OpSub, rough(10, 20), rough(3, 5), impl.Range{Min: 5, Max: 17, Open: 31}},
		{impl.OpSub, rough(5, 6), rough(3, 5), impl.Range{Max: 3, Open: 3}},
		{impl.OpSub, rough(4, 6), rough(3, 5), allRange},
		{impl.OpSub, rough(0, most32), one(0), impl.Range{Max: most32, Open: most32}},
		{impl.OpMul, rough(3, 5), rough(2, 4), impl.Range{Min: 6, Max: 20, Open: 31}},
		{impl.OpMul, rough(1, 65535), one(65537), impl.Range{Min: 65537, Max: most32, Open: most32}},
		{impl.OpMul, rough(65535, 65536), one(65536), allRange},
		{impl.OpMul, rough(1, most32), one(most32), allRange},
		{impl.OpMul, allRange, one(0), one(0)},
	})
}

func TestP15BitByBit(t *testing.T) {
	checkOf(t, []ofCase{
		{impl.OpAnd, rough(16, 23), rough(4, 6), impl.Range{Max: 6, Open: 7}},
		{impl.OpAnd, rough(20, 23), rough(4, 7), impl.Range{Min: 4, Max: 7, Bits: 4, Open: 3}},
		{impl.OpAnd, allRange, one(12), impl.Range{Max: 12, Open: 12}},
		{impl.OpAnd, one(12), allRange, impl.Range{Max: 12, Open: 12}},
		{impl.OpAnd, rough(0, 9), one(7), impl.Range{Max: 7, Open: 7}},
		{impl.OpAnd, rough(0, 5), one(15), impl.Range{Max: 5, Open: 7}},
		{impl.OpOr, rough(16, 23), rough(4, 6), impl.Range{Min: 20, Max: 23, Bits: 20, Open: 3}},
		{impl.OpOr, rough(17, 18), rough(0, 1), impl.Range{Min: 17, Max: 19, Bits: 16, Open: 3}},
		{impl.OpOr, rough(0, 1), rough(17, 18), impl.Range{Min: 17, Max: 19, Bits: 16, Open: 3}},
		{impl.OpOr, allRange, one(1 << 31), impl.Range{Min: 1 << 31, Max: most32, Bits: 1 << 31, Open: most32 >> 1}},
		{impl.OpXor, rough(16, 23), rough(4, 7), impl.Range{Min: 16, Max: 23, Bits: 16, Open: 7}},
		{impl.OpXor, rough(8, 9), one(24), impl.Range{Min: 16, Max: 17, Bits: 16, Open: 1}},
		{impl.OpXor, rough(most32-1, most32), one(most32), impl.Range{Max: 1, Open: 1}},
		{impl.OpXor, allRange, one(5), allRange},
	})
}

func TestP15Shifts(t *testing.T) {
	checkOf(t, []ofCase{
		{impl.OpShl, rough(3, 5), one(1), impl.Range{Min: 6, Max: 10, Open: 14}},
		{impl.OpShl, rough(3, 5), one(33), impl.Range{Min: 6, Max: 10, Open: 14}},
		{impl.OpShl, rough(3, 5), one(32), impl.Range{Min: 3, Max: 5, Open: 7}},
		{impl.OpShl, rough(1<<30, 1<<31-1), one(1), impl.Range{Min: 1 << 31, Max: most32 - 1, Bits: 1 << 31, Open: most32>>1 - 1}},
		{impl.OpShl, rough(1<<30, 1<<31), one(1), impl.Range{Max: most32 - 1, Open: most32 - 1}},
		{impl.OpShl, rough(most32-1, most32), one(31), impl.Range{Max: 1 << 31, Open: 1 << 31}},
		{impl.OpShl, rough(6, 7), one(30), impl.Range{Min: 1 << 31, Max: 3 << 30, Bits: 1 << 31, Open: 1 << 30}},
		{impl.OpShl, rough(5, most32), one(32), impl.Range{Min: 5, Max: most32, Open: most32}},
		{impl.OpShl, one(1), rough(0, 1), allRange},
		{impl.OpShl, rough(3, 5), rough(1, 2), allRange},
		{impl.OpShr, rough(16, 23), one(2), impl.Range{Min: 4, Max: 5, Bits: 4, Open: 1}},
		{impl.OpShr, rough(16, 23), one(34), impl.Range{Min: 4, Max: 5, Bits: 4, Open: 1}},
		{impl.OpShr, rough(16, 23), one(32), impl.Range{Min: 16, Max: 23, Bits: 16, Open: 7}},
		{impl.OpShr, rough(16, 23), one(5), one(0)},
		{impl.OpShr, allRange, one(31), impl.Range{Max: 1, Open: 1}},
		{impl.OpShr, impl.Range{Min: 5, Max: 10, Bits: 8, Open: 7}, one(1), impl.Range{Min: 4, Max: 5, Bits: 4, Open: 1}},
		{impl.OpShr, rough(16, 23), rough(0, 1), impl.Range{Max: 23, Open: 31}},
		{impl.OpShr, one(16), rough(0, 1), impl.Range{Max: 16, Open: 31}},
	})
}

func TestP15PartsAndRests(t *testing.T) {
	checkOf(t, []ofCase{
		{impl.OpDiv, rough(10, 20), rough(3, 5), impl.Range{Min: 2, Max: 6, Open: 7}},
		{impl.OpDiv, rough(10, 20), one(3), impl.Range{Min: 3, Max: 6, Open: 7}},
		{impl.OpDiv, rough(10, 20), rough(1, 5), impl.Range{Min: 2, Max: 20, Open: 31}},
		{impl.OpDiv, rough(10, 20), rough(0, 5), impl.Range{Max: 20, Open: 31}},
		{impl.OpDiv, rough(10, 20), one(0), impl.Range{Max: 20, Open: 31}},
		{impl.OpDiv, allRange, one(most32), impl.Range{Max: 1, Open: 1}},
		{impl.OpMod, rough(3, 4), rough(5, 9), impl.Range{Min: 3, Max: 4, Open: 7}},
		{impl.OpMod, rough(3, 5), rough(5, 9), impl.Range{Max: 5, Open: 7}},
		{impl.OpMod, rough(0, 1000), rough(1, 8), impl.Range{Max: 7, Open: 7}},
		{impl.OpMod, rough(3, 8), rough(5, 8), impl.Range{Max: 7, Open: 7}},
		{impl.OpMod, rough(3, 7), rough(5, 8), impl.Range{Max: 7, Open: 7}},
		{impl.OpMod, rough(0, 1000), rough(0, 8), impl.Range{Max: 1000, Open: 1023}},
		{impl.OpMod, rough(2, 1000), one(0), impl.Range{Max: 1000, Open: 1023}},
		{impl.OpMod, rough(2, 1000), one(1), one(0)},
	})
}

func TestP15BothAreTidiedFirst(t *testing.T) {
	six := impl.Range{Min: 5, Max: 6, Bits: 6, Open: 1}
	five := impl.Range{Min: 5, Max: 6, Bits: 4, Open: 1}
	checkOf(t, []ofCase{
		{impl.OpMov, rough(0, 1), six, impl.Range{Min: 6, Max: 6, Bits: 6, Open: 1}},
		{impl.OpMov, one(1), six, one(6)},
		{impl.OpAdd, five, six, one(11)},
		{impl.OpShl, rough(0, 1), five, impl.Range{Max: 32, Open: 32}},
		{impl.OpSub, six, impl.Range{Max: most32, Open: 4}, impl.Range{Min: 2, Max: 6, Open: 7}},
		{impl.OpMod, impl.Range{Max: most32, Open: 3}, rough(4, 5), impl.Range{Max: 3, Open: 3}},
	})
}

func TestP15WrongInputs(t *testing.T) {
	ops := append([]int{impl.OpSame, impl.OpOther, impl.OpLess, impl.OpMore}, otherOps...)
	for _, op := range ops {
		if r := impl.RangeOf(op, one(1), one(2)); r != noRange {
			t.Errorf("op %d: %v", op, r)
		}
		if r := impl.RangeOf(op, rough(1, 5), rough(1, 5)); r != noRange {
			t.Errorf("op %d: %v", op, r)
		}
	}
	for _, wrong := range append(wrongRanges(), emptyRanges...) {
		for op := impl.OpMov; op <= impl.OpMod; op++ {
			for _, other := range []impl.Range{one(1), allRange, wrong} {
				if a, b := impl.RangeOf(op, wrong, other), impl.RangeOf(op, other, wrong); a != noRange || b != noRange {
					t.Errorf("op %d of %v, %v: %v, turned round %v", op, wrong, other, a, b)
				}
			}
		}
	}
}

func TestP16OfTwoKnownNumbersWhatIsMadeIsKnown(t *testing.T) {
	for _, a := range edgeNumbers {
		for _, b := range edgeNumbers {
			for op := impl.OpMov; op <= impl.OpMod; op++ {
				want := one(int(reckoned(op, uint32(a), uint32(b))))
				if got := impl.RangeOf(op, one(a), one(b)); got != want {
					t.Errorf("op %d of %d, %d: %v, not %v", op, a, b, got, want)
				}
			}
		}
	}
}

func TestP17WhatIsOfBothIsOfBoth(t *testing.T) {
	eachDrawnPair(300, func(a drawn, b drawn) {
		r, ok := impl.RangeMeet(a.Range, b.Range)
		turned, again := impl.RangeMeet(b.Range, a.Range)
		if r != turned || ok != again {
			t.Fatalf("%v, %v: %v %v, turned round %v %v", a.Range, b.Range, r, ok, turned, again)
		}
		some := false
		for _, n := range append(a.numbers, b.numbers...) {
			both := has(a.numbers, n) && has(b.numbers, n)
			some = some || both
			if impl.RangeHas(r, n) != both {
				t.Fatalf("%v, %v: %v has %d: not %v", a.Range, b.Range, r, n, both)
			}
		}
		want := noRange
		if some {
			want = wantTidy(impl.Range{Min: max(a.Min, b.Min), Max: min(a.Max, b.Max), Bits: a.Bits | b.Bits, Open: a.Open & b.Open})
		}
		if ok != some || r != want {
			t.Fatalf("%v, %v: %v, %v, not %v, %v", a.Range, b.Range, r, ok, want, some)
		}
	})
}

func TestP17Edges(t *testing.T) {
	six := impl.Range{Min: 5, Max: 6, Bits: 6, Open: 1}
	even, odd := impl.Range{Max: most32 - 1, Open: most32 - 1}, impl.Range{Min: 1, Max: most32, Bits: 1, Open: most32 - 1}
	for _, c := range []struct {
		a, b, want impl.Range
		ok         bool
	}{
		{rough(0, 20), rough(15, 40), impl.Range{Min: 15, Max: 20, Open: 31}, true},
		{rough(0, 20), rough(20, 40), one(20), true},
		{rough(0, 19), rough(20, 40), noRange, false},
		{even, odd, noRange, false},
		{even, rough(7, 9), impl.Range{Min: 7, Max: 9, Open: 14}, true},
		{even, rough(7, 7), noRange, false},
		{allRange, allRange, allRange, true},
		{one(most32), allRange, one(most32), true},
		{one(0), one(0), one(0), true},
		{one(0), one(1), noRange, false},
		// Not tidied ahead of it: so the answer is tidied once.
		{six, six, impl.Range{Min: 6, Max: 6, Bits: 6, Open: 1}, true},
	} {
		if got, ok := impl.RangeMeet(c.a, c.b); got != c.want || ok != c.ok {
			t.Errorf("%v, %v: %v, %v", c.a, c.b, got, ok)
		}
	}
	for _, wrong := range append(wrongRanges(), emptyRanges...) {
		for _, other := range []impl.Range{allRange, one(1), wrong} {
			a, ok := impl.RangeMeet(wrong, other)
			b, again := impl.RangeMeet(other, wrong)
			if a != noRange || b != noRange || ok || again {
				t.Errorf("%v, %v: %v %v, turned round %v %v", wrong, other, a, ok, b, again)
			}
		}
	}
}

func TestP18WhatIsOfOneIsOfBothTogether(t *testing.T) {
	eachDrawnPair(300, func(a drawn, b drawn) {
		r := impl.RangeJoin(a.Range, b.Range)
		if turned := impl.RangeJoin(b.Range, a.Range); r != turned {
			t.Fatalf("%v, %v: %v, turned round %v", a.Range, b.Range, r, turned)
		}
		want := noRange
		if len(a.numbers) > 0 && len(b.numbers) > 0 {
			want = wantTidy(impl.Range{Min: min(a.Min, b.Min), Max: max(a.Max, b.Max), Bits: a.Bits & b.Bits, Open: a.Open | b.Open | a.Bits&^b.Bits | b.Bits&^a.Bits})
			for _, n := range append(a.numbers, b.numbers...) {
				if !impl.RangeHas(r, n) {
					t.Fatalf("%v, %v: %v has not %d", a.Range, b.Range, r, n)
				}
			}
		}
		if r != want {
			t.Fatalf("%v, %v: %v, not %v", a.Range, b.Range, r, want)
		}
	})
}

func TestP18Edges(t *testing.T) {
	six := impl.Range{Min: 5, Max: 6, Bits: 6, Open: 1}
	for _, c := range []struct{ a, b, want impl.Range }{
		{one(4), one(12), impl.Range{Min: 4, Max: 12, Bits: 4, Open: 8}},
		{one(0), one(most32), allRange},
		{one(7), one(7), one(7)},
		{rough(16, 17), rough(22, 23), impl.Range{Min: 16, Max: 23, Bits: 16, Open: 7}},
		{six, six, impl.Range{Min: 6, Max: 6, Bits: 6, Open: 1}},
	} {
		if got := impl.RangeJoin(c.a, c.b); got != c.want {
			t.Errorf("%v, %v: %v, not %v", c.a, c.b, got, c.want)
		}
	}
	for _, wrong := range append(wrongRanges(), emptyRanges...) {
		for _, other := range []impl.Range{allRange, one(1), wrong} {
			if a, b := impl.RangeJoin(wrong, other), impl.RangeJoin(other, wrong); a != noRange || b != noRange {
				t.Errorf("%v, %v: %v, turned round %v", wrong, other, a, b)
			}
		}
	}
}

func TestP19WhatTellsNoLessHasNoOtherNumbers(t *testing.T) {
	count := 0
	eachDrawnPair(300, func(a drawn, b drawn) {
		in := impl.RangeIn(a.Range, b.Range)
		want := len(a.numbers) > 0 && len(b.numbers) > 0 && b.Min <= a.Min && a.Max <= b.Max &&
			a.Open|b.Open == b.Open && a.Bits|b.Open == b.Bits|b.Open
		if in != want {
			t.Fatalf("%v in %v: not %v", a.Range, b.Range, want)
		}
		for _, n := range a.numbers {
			if in && !has(b.numbers, n) {
				t.Fatalf("%v in %v, that has not %d", a.Range, b.Range, n)
			}
		}
		if in {
			count++
		}
	})
	if count < 300 {
		t.Errorf("only %d were in another one", count)
	}
}

func TestP19Edges(t *testing.T) {
	for _, r := range []impl.Range{one(0), one(most32), allRange, rough(3, 9), {Min: 5, Max: 6, Bits: 6, Open: 1}} {
		if !impl.RangeIn(r, r) {
			t.Errorf("%v is in itself", r)
		}
	}
	for _, c := range []struct {
		a, b impl.Range
		want bool
	}{
		{one(4), impl.Range{Min: 4, Max: 12, Bits: 4, Open: 8}, true},
		{one(12), impl.Range{Min: 4, Max: 12, Bits: 4, Open: 8}, true},
		{one(8), impl.Range{Min: 4, Max: 12, Bits: 4, Open: 8}, false},
		{rough(3, 9), rough(3, 9), true},
		{rough(3, 9), rough(4, 9), false},
		{rough(3, 9), rough(3, 8), false},
		{rough(3, 9), impl.Range{Min: 3, Max: 9, Open: 15}, false},
		{impl.Range{Min: 3, Max: 9, Open: 15}, rough(3, 9), true},
		// Not tidied ahead of it: 7 is beyond, though no number of the first is.
		{impl.Range{Max: 7, Open: 3}, impl.Range{Max: 3, Open: 3}, false},
	} {
		if got := impl.RangeIn(c.a, c.b); got != c.want {
			t.Errorf("%v in %v: %v", c.a, c.b, got)
		}
	}
	for _, wrong := range append(wrongRanges(), emptyRanges...) {
		if impl.RangeIn(wrong, allRange) || impl.RangeIn(one(1), wrong) || impl.RangeIn(wrong, wrong) {
			t.Errorf("%v is in another one, or has one", wrong)
		}
	}
}

func TestP20WhereSomethingHolds(t *testing.T) {
	eachDrawnPair(110, func(a drawn, b drawn) {
		for op := impl.OpSame; op <= impl.OpMore; op++ {
			for _, holds := range []bool{false, true} {
				checkBranch(t, op, a, b, holds)
			}
		}
	})
}

func checkBranch(t *testing.T, op int, a drawn, b drawn, holds bool) {
	t.Helper()
	x, y, ok := impl.RangeBranch(op, a.Range, b.Range, holds)
	for _, n := range a.numbers {
		for _, m := range b.numbers {
			if impl.RangeHolds(op, n, m) == holds && (!ok || !impl.RangeHas(x, n) || !impl.RangeHas(y, m)) {
				t.Fatalf("op %d of %v, %v, %v: %v, %v, %v; it is so of %d, %d", op, a.Range, b.Range, holds, x, y, ok, n, m)
			}
		}
	}
	if !ok {
		if x != noRange || y != noRange {
			t.Fatalf("op %d of %v, %v, %v: %v, %v", op, a.Range, b.Range, holds, x, y)
		}
		return
	}
	if !impl.RangeSome(x) || !impl.RangeSome(y) || x.Min < a.Min || x.Max > a.Max || y.Min < b.Min || y.Max > b.Max {
		t.Fatalf("op %d of %v, %v, %v: %v, %v", op, a.Range, b.Range, holds, x, y)
	}
	for _, n := range append(a.lift.numbersOf(x), b.lift.numbersOf(y)...) {
		if !has(a.numbers, n) && !has(b.numbers, n) {
			t.Fatalf("op %d of %v, %v, %v: %v, %v; %d is new", op, a.Range, b.Range, holds, x, y, n)
		}
	}
}

// branchCase is what the document's words make of two ranges, reckoned by hand.
type branchCase struct {
	op    int
	a, b  impl.Range
	holds bool
	x, y  impl.Range
}

func checkBranches(t *testing.T, list []branchCase) {
	t.Helper()
	for _, c := range list {
		x, y, ok := impl.RangeBranch(c.op, c.a, c.b, c.holds)
		if x != c.x || y != c.y || ok != (c.x != noRange) {
			t.Errorf("op %d of %v, %v, %v: %v, %v, %v, not %v, %v", c.op, c.a, c.b, c.holds, x, y, ok, c.x, c.y)
		}
	}
}

func TestP20Same(t *testing.T) {
	met := impl.Range{Min: 15, Max: 20, Open: 31}
	tidy39 := impl.Range{Min: 3, Max: 9, Open: 15}
	even := impl.Range{Min: 6, Max: 10, Open: 14}
	four := impl.Range{Min: 1, Max: 4, Open: 4}
	six := impl.Range{Min: 5, Max: 6, Bits: 6, Open: 1}
	for _, same := range []struct {
		op     int
		is, no bool
	}{{impl.OpSame, true, false}, {impl.OpOther, false, true}} {
		op, is, no := same.op, same.is, same.no
		checkBranches(t, []branchCase{
			{op, rough(0, 20), rough(15, 40), is, met, met},
			{op, rough(0, 20), rough(20, 40), is, one(20), one(20)},
			{op, rough(0, 20), rough(21, 40), is, noRange, noRange},
			{op, even, one(7), is, noRange, noRange},
			{op, rough(3, 9), one(3), no, impl.Range{Min: 4, Max: 9, Open: 15}, one(3)},
			{op, rough(3, 9), one(9), no, impl.Range{Min: 3, Max: 8, Open: 15}, one(9)},
			{op, one(3), rough(3, 9), no, one(3), impl.Range{Min: 4, Max: 9, Open: 15}},
			{op, one(9), rough(3, 9), no, one(9), impl.Range{Min: 3, Max: 8, Open: 15}},
			{op, rough(3, 9), one(5), no, tidy39, one(5)},
			{op, rough(3, 9), rough(3, 9), no, tidy39, tidy39},
			{op, rough(3, 4), one(3), no, one(4), one(3)},
			{op, even, one(6), no, impl.Range{Min: 7, Max: 10, Open: 14}, one(6)},
			{op, one(3), one(4), no, one(3), one(4)},
			{op, one(3), one(3), no, noRange, noRange},
			{op, one(0), one(0), no, noRange, noRange},
			{op, one(most32), one(most32), no, noRange, noRange},
			{op, four, one(4), no, noRange, noRange},
			{op, one(4), four, no, noRange, noRange},
			{op, allRange, one(0), no, impl.Range{Min: 1, Max: most32, Open: most32}, one(0)},
			{op, allRange, one(most32), no, impl.Range{Max: most32 - 1, Open: most32}, one(most32)},
			{op, impl.Range{Min: 5, Max: 10, Bits: 8, Open: 7}, one(3), no, impl.Range{Min: 8, Max: 10, Bits: 8, Open: 3}, one(3)},
			// What does not stand against one number is as it was tidied.
			{op, six, rough(0, 3), no, impl.Range{Min: 6, Max: 6, Bits: 6, Open: 1}, impl.Range{Max: 3, Open: 3}},
			{op, rough(6, 9), six, no, impl.Range{Min: 7, Max: 9, Open: 15}, impl.Range{Min: 6, Max: 6, Bits: 6, Open: 1}},
			{op, six, six, is, one(6), one(6)},
		})
	}
}

func TestP20LessAndMore(t *testing.T) {
	list := []branchCase{
		{0, rough(0, 100), one(10), true, impl.Range{Max: 9, Open: 15}, one(10)},
		{0, rough(0, 100), one(10), false, impl.Range{Min: 10, Max: 100, Open: 127}, one(10)},
		{0, rough(5, 9), rough(0, 6), true, one(5), one(6)},
		{0, rough(5, 9), rough(0, 5), true, noRange, noRange},
		{0, rough(0, 9), rough(5, 20), true, impl.Range{Max: 9, Open: 15}, impl.Range{Min: 5, Max: 20, Open: 31}},
		{0, rough(5, 20), rough(0, 9), true, impl.Range{Min: 5, Max: 8, Open: 15}, impl.Range{Min: 6, Max: 9, Open: 15}},
		{0, rough(0, 9), rough(5, 20), false, impl.Range{Min: 5, Max: 9, Open: 15}, impl.Range{Min: 5, Max: 9, Open: 15}},
		{0, rough(0, 5), rough(5, 20), false, one(5), one(5)},
		{0, rough(0, 4), rough(5, 20), false, noRange, noRange},
		{0, allRange, one(0), true, noRange, noRange},
		{0, one(most32), allRange, true, noRange, noRange},
		{0, allRange, one(1), true, one(0), one(1)},
		{0, one(most32 - 1), allRange, true, one(most32 - 1), one(most32)},
		{0, allRange, one(most32), false, one(most32), one(most32)},
		{0, one(0), allRange, false, one(0), one(0)},
		{0, one(7), one(7), true, noRange, noRange},
		{0, one(7), one(7), false, one(7), one(7)},
		// No number is left, though ends are.
		{0, impl.Range{Min: 1, Max: 4, Open: 4}, one(4), true, noRange, noRange},
		{0, one(4), impl.Range{Min: 4, Max: 9, Open: 4}, true, noRange, noRange},
		// Both are tidied first, and again.
		{0, impl.Range{Min: 5, Max: 6, Bits: 6, Open: 1}, rough(0, 7), true, one(6), one(7)},
		{0, impl.Range{Max: most32, Open: 3}, impl.Range{Max: most32, Open: 3}, true, impl.Range{Max: 2, Open: 3}, impl.Range{Min: 1, Max: 3, Open: 3}},
	}
	for i := range list {
		c := &list[i]
		c.op = impl.OpLess
		checkBranches(t, []branchCase{*c, {impl.OpMore, c.b, c.a, c.holds, c.y, c.x}})
	}
}

func TestP20WrongInputs(t *testing.T) {
	ops := otherOps
	for op := impl.OpMov; op <= impl.OpMod; op++ {
		ops = append(ops, op)
	}
	for _, holds := range []bool{false, true} {
		for _, op := range ops {
			checkBranches(t, []branchCase{{op, rough(3, 9), rough(4, 20), holds, noRange, noRange}, {op, one(4), one(4), holds, noRange, noRange}})
		}
		for _, wrong := range append(wrongRanges(), emptyRanges...) {
			for op := impl.OpSame; op <= impl.OpMore; op++ {
				for _, other := range []impl.Range{allRange, one(1), wrong} {
					checkBranches(t, []branchCase{{op, wrong, other, holds, noRange, noRange}, {op, other, wrong, holds, noRange, noRange}})
				}
			}
		}
	}
}
