package tests

import (
	"math/rand"
	"reflect"
	"testing"

	"loop.example/steerage/impl"
)

const most32 = 4294967295

// spec is chapter 1's table, written down a second time: which parts an op has.
type spec struct {
	word               string
	dst, x, off, sized bool
}

var specs = []spec{
	{},
	{"mov", true, true, false, false},
	{"add", true, true, false, false},
	{"sub", true, true, false, false},
	{"mul", true, true, false, false},
	{"and", true, true, false, false},
	{"or", true, true, false, false},
	{"xor", true, true, false, false},
	{"shl", true, true, false, false},
	{"shr", true, true, false, false},
	{"div", true, true, false, false},
	{"mod", true, true, false, false},
	{"same", true, true, true, false},
	{"other", true, true, true, false},
	{"less", true, true, true, false},
	{"more", true, true, true, false},
	{"go", false, false, true, false},
	{"load", true, true, true, true},
	{"store", true, true, true, true},
	{"call", false, false, false, false},
	{"exit", false, false, false, false},
}

func within(n int, low int, high int) bool {
	return low <= n && n <= high
}

func wantOk(x impl.Ins) bool {
	if !within(x.Op, 1, 20) {
		return false
	}
	s := specs[x.Op]
	ok := within(x.Dst, 0, 10) && (s.dst || x.Dst == 0)
	ok = ok && within(x.Off, -128, 127) && (s.off || x.Off == 0)
	if s.sized {
		ok = ok && (x.Size == 1 || x.Size == 2 || x.Size == 4)
	} else {
		ok = ok && x.Size == 0
	}
	switch {
	case x.Op == impl.OpCall:
		return ok && x.Src == -1 && within(x.Imm, 1, 6)
	case !s.x:
		return ok && x.Src == -1 && x.Imm == 0
	case x.Src == -1:
		return ok && x.Op != impl.OpLoad && within(x.Imm, 0, most32)
	}
	return ok && within(x.Src, 0, 10) && x.Imm == 0
}

// eachIns goes through ops that stand on both sides of every limit.
func eachIns(do func(impl.Ins)) {
	ops := []int{-1 << 63, -1, 0, 21, 257, 1<<63 - 1}
	for op := 1; op <= 20; op++ {
		ops = append(ops, op)
	}
	for _, op := range ops {
		for _, dst := range []int{-1, 0, 7, 10, 11, 16} {
			for _, src := range []int{-2, -1, 0, 3, 10, 11, 15} {
				for _, off := range []int{-1 << 63, -129, -128, -1, 0, 1, 127, 128, 256} {
					for _, imm := range []int{-1, 0, 1, 6, 7, 258, most32, most32 + 1, 1<<63 - 1} {
						for _, size := range []int{-1, 0, 1, 2, 3, 4, 5, 8, 257} {
							do(impl.Ins{Op: op, Dst: dst, Src: src, Off: off, Imm: imm, Size: size})
						}
					}
				}
			}
		}
	}
}

func okIns() []impl.Ins {
	var out []impl.Ins
	eachIns(func(x impl.Ins) {
		if wantOk(x) {
			out = append(out, x)
		}
	})
	return out
}

func program(t *testing.T, lines ...string) []impl.Ins {
	t.Helper()
	var out []impl.Ins
	for _, s := range lines {
		x, ok := impl.LineGet(s)
		if !ok {
			t.Fatalf("%q is no line", s)
		}
		out = append(out, x)
	}
	return out
}

// filled is n ops that can stand anywhere, and an exit: n+1 ops in all.
func filled(n int) []impl.Ins {
	var out []impl.Ins
	for i := 0; i < n; i++ {
		out = append(out, impl.Ins{Op: impl.OpMov, Src: -1, Imm: i})
	}
	return append(out, impl.Ins{Op: impl.OpExit, Src: -1})
}

// somePrograms are programs of any ops, each of which is ok, many of them not programs that can be.
func somePrograms(count int) [][]impl.Ins {
	draw := rand.New(rand.NewSource(1))
	ops := okIns()
	var out [][]impl.Ins
	for i := 0; i < count; i++ {
		var list []impl.Ins
		for n := draw.Intn(6); n >= 0; n-- {
			x := ops[draw.Intn(len(ops))]
			if within(x.Op, impl.OpSame, impl.OpGo) {
				x.Off = draw.Intn(7) - 3
			}
			list = append(list, x)
		}
		if draw.Intn(3) > 0 {
			list = append(list, impl.Ins{Op: impl.OpExit, Src: -1})
		}
		out = append(out, list)
	}
	return out
}

func sameList[T any](a []T, b []T) bool {
	return len(a) == 0 && len(b) == 0 || reflect.DeepEqual(a, b)
}

func sameTable(a impl.Table, b impl.Table) bool {
	return a.Kind == b.Kind && a.Size == b.Size && a.Room == b.Room && sameList(a.Keys, b.Keys) && sameList(a.Vals, b.Vals)
}

func TestLimits(t *testing.T) {
	got := []int{impl.RegMax, impl.ProgMax, impl.SizeMax, impl.RoomMax}
	if want := []int{11, 48, 8, 8}; !reflect.DeepEqual(got, want) {
		t.Errorf("limits are %v, not %v", got, want)
	}
}

func TestCodes(t *testing.T) {
	got := [][]int{
		{impl.FormFine, impl.FormOp, impl.FormJump, impl.FormLong, impl.FormEnd},
		{impl.PutFine, impl.PutForm, impl.PutNone, impl.PutFull},
		{impl.TableRow, impl.TableHash},
	}
	if want := [][]int{{0, 1, 2, 3, 4}, {0, 1, 2, 3}, {1, 2}}; !reflect.DeepEqual(got, want) {
		t.Errorf("codes are %v, not %v", got, want)
	}
}
