package tests

import (
	"math/rand"
	"testing"

	"loop.example/steerage/impl"
)

// edgeNumbers stand where sums, products and shifts come to their limits.
var edgeNumbers = []int{
	0, 1, 2, 3, 7, 8, 31, 32, 33, 63, 64, 255, 256, 65535, 65536, 65537,
	1<<31 - 1, 1 << 31, 1<<31 + 1, most32 - 31, most32 - 1, most32,
}

var noNumbers = []int{-1 << 63, -1 << 32, -2, -1, most32 + 1, most32 + 2, 1 << 33, 1<<63 - 1}

// otherOps are none of those that reckon, nor of those that ask.
var otherOps = []int{-1 << 63, -1, 0, impl.OpGo, impl.OpLoad, impl.OpStore, impl.OpCall, impl.OpExit, 21, 256 + impl.OpAdd, 1<<63 - 1}

var noRange = impl.Range{Min: 1}

var allRange = impl.Range{Max: most32, Open: most32}

func one(n int) impl.Range {
	return impl.Range{Min: n, Max: n, Bits: n}
}

// rough is from low to high, not yet tidied.
func rough(low int, high int) impl.Range {
	return impl.Range{Min: low, Max: high, Open: most32}
}

// wrongRanges are not ok, each for one reason.
func wrongRanges() []impl.Range {
	out := []impl.Range{
		noRange,
		{Min: 5, Max: 4, Open: 15},
		{Min: 0, Max: 7, Bits: 4, Open: 7},
		{Min: 0, Max: most32, Bits: 1 << 31, Open: 1 << 31},
	}
	for _, n := range noNumbers {
		out = append(out, impl.Range{Min: n, Max: most32, Open: most32}, impl.Range{Min: 0, Max: n, Open: most32},
			impl.Range{Min: 0, Max: most32, Bits: n}, impl.Range{Min: 0, Max: most32, Open: n})
	}
	return append(out, rough(most32+1, most32+1), rough(-1, -1), impl.Range{Min: most32, Max: most32 + 1, Open: most32})
}

// emptyRanges are ok, but no number is of them.
var emptyRanges = []impl.Range{
	{Min: 5, Max: 7, Bits: 8, Open: 3},
	{Min: 1, Max: 1},
	{Min: 5, Max: 6, Open: 3},
	{Min: 1, Max: 3, Open: 4},
	{Min: most32, Max: most32, Open: most32 - 1},
	{Min: 0, Max: 0, Bits: 1 << 31, Open: 1},
}

// lift lays a range of four bits elsewhere: to the lowest bits, to the highest, or to the lowest, all others being 1.
type lift struct {
	shift int
	set   int
}

var lifts = []lift{{0, 0}, {28, 0}, {0, most32 - 15}, {14, 1 << 31}}

func (l lift) number(n int) int {
	return n<<l.shift | l.set
}

func (l lift) whole(r impl.Range) impl.Range {
	return impl.Range{Min: l.number(r.Min), Max: l.number(r.Max), Bits: l.number(r.Bits), Open: r.Open << l.shift}
}

// numbersOf goes through all there can be: four bits have 16 numbers, wherever they were laid.
func (l lift) numbersOf(r impl.Range) []int {
	var out []int
	for n := 0; n < 16; n++ {
		if m := l.number(n); r.Min <= m && m <= r.Max && m&^r.Open == r.Bits {
			out = append(out, m)
		}
	}
	return out
}

// smallRanges are all ranges of four bits that are ok.
func smallRanges() []impl.Range {
	var out []impl.Range
	for low := 0; low < 16; low++ {
		for high := low; high < 16; high++ {
			for set := 0; set < 16; set++ {
				for open := 0; open < 16; open++ {
					if set&open == 0 {
						out = append(out, impl.Range{Min: low, Max: high, Bits: set, Open: open})
					}
				}
			}
		}
	}
	return out
}

// eachSmall goes through all ranges of four bits, wherever they can be laid.
func eachSmall(do func(l lift, r impl.Range)) {
	for _, r := range smallRanges() {
		for _, l := range lifts {
			do(l, l.whole(r))
		}
	}
}

// drawn is a range, where it was laid, and the numbers of it.
type drawn struct {
	lift
	impl.Range
	numbers []int
}

func drawRanges(seed int64, count int) []drawn {
	draw := rand.New(rand.NewSource(seed))
	small := smallRanges()
	var out []drawn
	for len(out) < count {
		l := lifts[draw.Intn(len(lifts))]
		r := l.whole(small[draw.Intn(len(small))])
		numbers := l.numbersOf(r)
		// Those without numbers are most of all: a few are enough.
		if len(numbers) > 0 || draw.Intn(20) == 0 {
			out = append(out, drawn{l, r, numbers})
		}
	}
	return out
}

func eachDrawnPair(count int, do func(a drawn, b drawn)) {
	list := drawRanges(11, count)
	for _, a := range list {
		for _, b := range list {
			do(a, b)
		}
	}
}

func has(list []int, n int) bool {
	for _, x := range list {
		if x == n {
			return true
		}
	}
	return false
}

// wantTidy tidies bit by bit, from the highest on.
func wantTidy(r impl.Range) impl.Range {
	same := true
	for bit := 1 << 31; bit > 0; bit >>= 1 {
		same = same && r.Min&bit == r.Max&bit
		if same {
			r.Open &^= bit
			r.Bits |= r.Min & bit
		}
	}
	r.Min = max(r.Min, r.Bits)
	r.Max = min(r.Max, r.Bits+r.Open)
	return r
}

func reckoned(op int, a uint32, b uint32) uint32 {
	switch op {
	case impl.OpAdd:
		return a + b
	case impl.OpSub:
		return a - b
	case impl.OpMul:
		return a * b
	case impl.OpAnd:
		return a & b
	case impl.OpOr:
		return a | b
	case impl.OpXor:
		return a ^ b
	case impl.OpShl:
		return a << (b & 31)
	case impl.OpShr:
		return a >> (b & 31)
	case impl.OpDiv:
		if b == 0 {
			return 0
		}
		return a / b
	case impl.OpMod:
		if b == 0 {
			return a
		}
		return a % b
	}
	return b
}

func TestP8WhatAnOpMakesIsANumber(t *testing.T) {
	do := impl.RangeDo
	for _, a := range edgeNumbers {
		for _, b := range edgeNumbers {
			for op := impl.OpMov; op <= impl.OpMod; op++ {
				if got, want := do(op, a, b), int(reckoned(op, uint32(a), uint32(b))); got != want {
					t.Errorf("op %d of %d, %d: %d, not %d", op, a, b, got, want)
				}
			}
			if do(impl.OpSub, do(impl.OpAdd, a, b), b) != a || do(impl.OpXor, do(impl.OpXor, a, b), b) != a {
				t.Errorf("%d does not come back by %d", a, b)
			}
			if do(impl.OpAdd, do(impl.OpMul, do(impl.OpDiv, a, b), b), do(impl.OpMod, a, b)) != a || do(impl.OpMov, a, b) != b {
				t.Errorf("%d is not made of what %d leaves of it", a, b)
			}
		}
	}
}

func TestP8NamedEdges(t *testing.T) {
	for _, c := range [][4]int{
		{impl.OpAdd, most32, 1, 0},
		{impl.OpAdd, most32, most32, most32 - 1},
		{impl.OpSub, 0, 1, most32},
		{impl.OpSub, 0, most32, 1},
		{impl.OpMul, 65536, 65536, 0},
		{impl.OpMul, 65535, 65537, most32},
		{impl.OpMul, most32, most32, 1},
		{impl.OpShl, 5, 32, 5},
		{impl.OpShl, 1, 31, 1 << 31},
		{impl.OpShl, 3, 31, 1 << 31},
		{impl.OpShl, 1, most32, 1 << 31},
		{impl.OpShr, 5, 32, 5},
		{impl.OpShr, most32, 31, 1},
		{impl.OpShr, most32, 33, most32 >> 1},
		{impl.OpDiv, most32, 0, 0},
		{impl.OpDiv, 0, 0, 0},
		{impl.OpMod, most32, 0, most32},
		{impl.OpMod, 0, 0, 0},
	} {
		if got := impl.RangeDo(c[0], c[1], c[2]); got != c[3] {
			t.Errorf("op %d of %d, %d: %d, not %d", c[0], c[1], c[2], got, c[3])
		}
	}
}

func TestP8WrongInputs(t *testing.T) {
	for _, op := range append([]int{impl.OpSame, impl.OpOther, impl.OpLess, impl.OpMore}, otherOps...) {
		if got := impl.RangeDo(op, 1, 1); got != -1 {
			t.Errorf("op %d makes %d", op, got)
		}
	}
	for _, n := range noNumbers {
		for op := impl.OpMov; op <= impl.OpMod; op++ {
			if a, b, c := impl.RangeDo(op, n, 1), impl.RangeDo(op, 1, n), impl.RangeDo(op, n, n); a != -1 || b != -1 || c != -1 {
				t.Errorf("op %d of %d: %d, %d, %d", op, n, a, b, c)
			}
		}
	}
}

func TestP9OneOfLessSameAndMoreHolds(t *testing.T) {
	for i, a := range edgeNumbers {
		for j, b := range edgeNumbers {
			// The numbers stand ascending: their places tell.
			want := map[int]bool{impl.OpSame: i == j, impl.OpOther: i != j, impl.OpLess: i < j, impl.OpMore: i > j}
			for op, holds := range want {
				if impl.RangeHolds(op, a, b) != holds {
					t.Errorf("op %d of %d, %d is not %v", op, a, b, holds)
				}
			}
			if impl.RangeHolds(impl.OpMore, a, b) != impl.RangeHolds(impl.OpLess, b, a) {
				t.Errorf("%d and %d turned round", a, b)
			}
		}
	}
}

func TestP9WrongInputs(t *testing.T) {
	ops := otherOps
	for op := impl.OpMov; op <= impl.OpMod; op++ {
		ops = append(ops, op)
	}
	for _, op := range ops {
		if impl.RangeHolds(op, 1, 1) || impl.RangeHolds(op, 1, 2) || impl.RangeHolds(op, 2, 1) {
			t.Errorf("op %d holds", op)
		}
	}
	for _, n := range noNumbers {
		for op := impl.OpSame; op <= impl.OpMore; op++ {
			if impl.RangeHolds(op, n, 1) || impl.RangeHolds(op, 1, n) || impl.RangeHolds(op, n, n) {
				t.Errorf("op %d holds of %d", op, n)
			}
		}
	}
}

func TestP10ARangeOfOneNumberHasItAlone(t *testing.T) {
	for _, n := range edgeNumbers {
		r := impl.RangeOne(n)
		if r != one(n) || !impl.RangeOk(r) || impl.RangeLeast(r) != n || impl.RangeTidy(r) != r || !impl.RangeSome(r) {
			t.Errorf("%d: %v", n, r)
		}
		for _, m := range append([]int{n - 1, n + 1, n ^ 1<<31}, edgeNumbers...) {
			if impl.RangeHas(r, m) != (m == n) {
				t.Errorf("%d of the range of %d alone", m, n)
			}
		}
	}
	for _, n := range noNumbers {
		if r := impl.RangeOne(n); r != noRange {
			t.Errorf("%d: %v", n, r)
		}
	}
}

func TestRangeOk(t *testing.T) {
	for _, r := range []impl.Range{{}, allRange, one(most32), rough(most32, most32), {Max: most32, Bits: most32}, {Bits: 1 << 31, Open: most32 >> 1}} {
		if !impl.RangeOk(r) {
			t.Errorf("%v is ok", r)
		}
	}
	for _, r := range wrongRanges() {
		if impl.RangeOk(r) {
			t.Errorf("%v is not ok", r)
		}
	}
}

func TestP11NumbersOfARange(t *testing.T) {
	eachSmall(func(l lift, r impl.Range) {
		if !impl.RangeOk(r) {
			t.Fatalf("%v is ok", r)
		}
		numbers := l.numbersOf(r)
		least, tidy := impl.RangeLeast(r), impl.RangeTidy(r)
		for n := 0; n < 16; n++ {
			m := l.number(n)
			if impl.RangeHas(r, m) != has(numbers, m) || impl.RangeHas(r, m^1<<27) {
				t.Fatalf("%v has %d: not %v", r, m, has(numbers, m))
			}
			if has(numbers, m) && (!impl.RangeSome(r) || least > m || !impl.RangeHas(tidy, m)) {
				t.Fatalf("%v has %d: least %d, tidy %v", r, m, least, tidy)
			}
		}
		for _, m := range noNumbers {
			if impl.RangeHas(r, m) {
				t.Fatalf("%v has %d", r, m)
			}
		}
	})
}

func TestP11WrongInputs(t *testing.T) {
	for _, r := range wrongRanges() {
		for _, n := range append(noNumbers, edgeNumbers...) {
			if impl.RangeHas(r, n) {
				t.Errorf("%v has %d", r, n)
			}
		}
		if impl.RangeSome(r) || impl.RangeLeast(r) != -1 || impl.RangeTidy(r) != noRange {
			t.Errorf("%v: least %d, tidy %v", r, impl.RangeLeast(r), impl.RangeTidy(r))
		}
	}
}

func TestP12ATidyRangeHasTheSameNumbers(t *testing.T) {
	eachSmall(func(l lift, r impl.Range) {
		numbers := l.numbersOf(r)
		tidy := impl.RangeTidy(r)
		if len(numbers) == 0 {
			if tidy != noRange {
				t.Fatalf("%v has no number, tidy: %v", r, tidy)
			}
			return
		}
		if tidy != wantTidy(r) || !sameList(l.numbersOf(tidy), numbers) || impl.RangeLeast(tidy) != numbers[0] {
			t.Fatalf("%v: tidy %v, least %d", r, tidy, impl.RangeLeast(tidy))
		}
		if tidy.Min < r.Min || tidy.Max > r.Max || tidy.Open&^r.Open != 0 {
			t.Fatalf("%v: tidy is more: %v", r, tidy)
		}
	})
}

func TestP12Tidy(t *testing.T) {
	for _, c := range [][2]impl.Range{
		{rough(16, 23), {Min: 16, Max: 23, Bits: 16, Open: 7}},
		{rough(0, most32), allRange},
		{rough(0, 0), one(0)},
		{rough(most32, most32), one(most32)},
		{rough(1<<31-1, 1<<31), {Min: 1<<31 - 1, Max: 1 << 31, Open: most32}},
		{rough(1<<31, most32), {Min: 1 << 31, Max: most32, Bits: 1 << 31, Open: most32 >> 1}},
		{{Min: 0, Max: most32, Bits: 5, Open: 8}, {Min: 5, Max: 13, Bits: 5, Open: 8}},
		// Once, not again and again: what the new ends would tell of bits is not told.
		{{Min: 5, Max: 6, Bits: 6, Open: 1}, {Min: 6, Max: 6, Bits: 6, Open: 1}},
		{{Min: 5, Max: 6, Bits: 4, Open: 1}, {Min: 5, Max: 5, Bits: 4, Open: 1}},
		// Min that is not a number of it stays.
		{{Min: 1, Max: 4, Open: 4}, {Min: 1, Max: 4, Open: 4}},
	} {
		if got := impl.RangeTidy(c[0]); got != c[1] {
			t.Errorf("%v: tidy %v, not %v", c[0], got, c[1])
		}
	}
	for _, r := range emptyRanges {
		if got := impl.RangeTidy(r); got != noRange {
			t.Errorf("%v: tidy %v", r, got)
		}
	}
}

func TestP13ThereIsANumberJustIfThereIsALeast(t *testing.T) {
	eachSmall(func(l lift, r impl.Range) {
		numbers := l.numbersOf(r)
		least := impl.RangeLeast(r)
		if impl.RangeSome(r) != (len(numbers) > 0) || impl.RangeSome(r) != (least != -1) || impl.RangeHas(r, least) != (least != -1) {
			t.Fatalf("%v: %v, least %d", r, numbers, least)
		}
	})
	for _, r := range emptyRanges {
		if !impl.RangeOk(r) || impl.RangeSome(r) || impl.RangeLeast(r) != -1 {
			t.Errorf("%v: least %d", r, impl.RangeLeast(r))
		}
	}
}

func TestP14NoNumberIsLessThanTheLeast(t *testing.T) {
	eachSmall(func(l lift, r impl.Range) {
		// All others, one after the other, by leaving out the least.
		for _, n := range l.numbersOf(r) {
			if least := impl.RangeLeast(r); least != n {
				t.Fatalf("%v: least %d, not %d", r, least, n)
			}
			r.Min = n + 1
		}
		if least := impl.RangeLeast(r); least != -1 {
			t.Fatalf("%v: least %d", r, least)
		}
	})
}

func TestP14Least(t *testing.T) {
	for _, c := range []struct {
		r    impl.Range
		want int
	}{
		{allRange, 0},
		{rough(most32, most32), most32},
		{impl.Range{Min: 1, Max: most32, Open: 1 << 31}, 1 << 31},
		{impl.Range{Min: 1<<31 + 1, Max: most32, Bits: 1, Open: most32 - 1}, 1<<31 + 1},
		{impl.Range{Min: 1<<31 + 2, Max: most32, Bits: 1, Open: most32 - 1}, 1<<31 + 3},
		{impl.Range{Min: 1<<31 - 1, Max: most32, Open: most32 - 1}, 1 << 31},
		{impl.Range{Min: most32, Max: most32, Bits: 1 << 31, Open: most32 >> 1}, most32},
		{impl.Range{Min: most32, Max: most32, Open: most32 >> 1}, -1},
		{impl.Range{Min: 6, Max: 15, Bits: 1, Open: 14}, 7},
		{impl.Range{Min: 12, Max: 12, Bits: 8, Open: 3}, -1},
		{impl.Range{Min: 12, Max: 40, Bits: 8, Open: 35}, 40},
		{impl.Range{Min: 12, Max: 39, Bits: 8, Open: 35}, -1},
	} {
		if got := impl.RangeLeast(c.r); got != c.want {
			t.Errorf("%v: least %d, not %d", c.r, got, c.want)
		}
	}
}
