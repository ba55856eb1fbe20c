package tests

import (
	"slices"
	"strings"
	"testing"

	"loop.example/steerage/impl"
)

// golden is ops in all three of their shapes, by hand from the document.
var golden = []struct {
	x     impl.Ins
	line  string
	bytes string
}{
	{impl.Ins{Op: impl.OpMov, Src: -1, Imm: most32}, "mov r0 4294967295", "\x01\x00\x00\x00\xff\xff\xff\xff"},
	{impl.Ins{Op: impl.OpMov, Dst: 10, Src: 10}, "mov r10 r10", "\x01\xab\x00\x00\x00\x00\x00\x00"},
	{impl.Ins{Op: impl.OpAdd, Dst: 1, Src: -1, Imm: 0x04030201}, "add r1 67305985", "\x02\x10\x00\x00\x01\x02\x03\x04"},
	{impl.Ins{Op: impl.OpSub, Dst: 2, Src: 0}, "sub r2 r0", "\x03\x21\x00\x00\x00\x00\x00\x00"},
	{impl.Ins{Op: impl.OpMul, Dst: 3, Src: 4}, "mul r3 r4", "\x04\x35\x00\x00\x00\x00\x00\x00"},
	{impl.Ins{Op: impl.OpAnd, Dst: 4, Src: -1, Imm: 255}, "and r4 255", "\x05\x40\x00\x00\xff\x00\x00\x00"},
	{impl.Ins{Op: impl.OpOr, Dst: 5, Src: -1, Imm: 256}, "or r5 256", "\x06\x50\x00\x00\x00\x01\x00\x00"},
	{impl.Ins{Op: impl.OpXor, Dst: 6, Src: 9}, "xor r6 r9", "\x07\x6a\x00\x00\x00\x00\x00\x00"},
	{impl.Ins{Op: impl.OpShl, Dst: 7, Src: -1, Imm: 0}, "shl r7 0", "\x08\x70\x00\x00\x00\x00\x00\x00"},
	{impl.Ins{Op: impl.OpShr, Dst: 8, Src: -1, Imm: 31}, "shr r8 31", "\x09\x80\x00\x00\x1f\x00\x00\x00"},
	{impl.Ins{Op: impl.OpDiv, Dst: 9, Src: 1}, "div r9 r1", "\x0a\x92\x00\x00\x00\x00\x00\x00"},
	{impl.Ins{Op: impl.OpMod, Dst: 10, Src: -1, Imm: 1}, "mod r10 1", "\x0b\xa0\x00\x00\x01\x00\x00\x00"},
	{impl.Ins{Op: impl.OpSame, Dst: 0, Src: -1, Off: -128}, "same r0 0 -128", "\x0c\x00\x80\x00\x00\x00\x00\x00"},
	{impl.Ins{Op: impl.OpOther, Dst: 3, Src: 4, Off: 127}, "other r3 r4 127", "\x0d\x35\x7f\x00\x00\x00\x00\x00"},
	{impl.Ins{Op: impl.OpLess, Dst: 3, Src: -1, Off: -2, Imm: 7}, "less r3 7 -2", "\x0e\x30\xfe\x00\x07\x00\x00\x00"},
	{impl.Ins{Op: impl.OpMore, Dst: 1, Src: 2, Off: -1}, "more r1 r2 -1", "\x0f\x13\xff\x00\x00\x00\x00\x00"},
	{impl.Ins{Op: impl.OpGo, Src: -1, Off: -128}, "go -128", "\x10\x00\x80\x00\x00\x00\x00\x00"},
	{impl.Ins{Op: impl.OpGo, Src: -1}, "go 0", "\x10\x00\x00\x00\x00\x00\x00\x00"},
	{impl.Ins{Op: impl.OpLoad, Dst: 2, Src: 10, Off: -4, Size: 4}, "load4 r2 r10 -4", "\x11\x2b\xfc\x04\x00\x00\x00\x00"},
	{impl.Ins{Op: impl.OpLoad, Dst: 0, Src: 0, Off: 127, Size: 2}, "load2 r0 r0 127", "\x11\x01\x7f\x02\x00\x00\x00\x00"},
	{impl.Ins{Op: impl.OpStore, Dst: 1, Src: -1, Imm: 255, Size: 1}, "store1 r1 0 255", "\x12\x10\x00\x01\xff\x00\x00\x00"},
	{impl.Ins{Op: impl.OpStore, Dst: 10, Src: 2, Off: -128, Size: 2}, "store2 r10 -128 r2", "\x12\xa3\x80\x02\x00\x00\x00\x00"},
	{impl.Ins{Op: impl.OpCall, Src: -1, Imm: impl.CallLook}, "call look", "\x13\x00\x00\x00\x01\x00\x00\x00"},
	{impl.Ins{Op: impl.OpCall, Src: -1, Imm: impl.CallPut}, "call put", "\x13\x00\x00\x00\x02\x00\x00\x00"},
	{impl.Ins{Op: impl.OpCall, Src: -1, Imm: impl.CallFind}, "call find", "\x13\x00\x00\x00\x03\x00\x00\x00"},
	{impl.Ins{Op: impl.OpCall, Src: -1, Imm: impl.CallDrop}, "call drop", "\x13\x00\x00\x00\x04\x00\x00\x00"},
	{impl.Ins{Op: impl.OpCall, Src: -1, Imm: impl.CallRand}, "call rand", "\x13\x00\x00\x00\x05\x00\x00\x00"},
	{impl.Ins{Op: impl.OpCall, Src: -1, Imm: impl.CallSend}, "call send", "\x13\x00\x00\x00\x06\x00\x00\x00"},
	{impl.Ins{Op: impl.OpExit, Src: -1}, "exit", "\x14\x00\x00\x00\x00\x00\x00\x00"},
}

func TestGolden(t *testing.T) {
	for _, g := range golden {
		if !impl.InsOk(g.x) {
			t.Errorf("%q is not ok", g.line)
		}
		if s := impl.InsPut(g.x); s != g.bytes {
			t.Errorf("InsPut of %q: %x", g.line, s)
		}
		if x, ok := impl.InsGet(g.bytes); !ok || x != g.x {
			t.Errorf("InsGet of %q: %v %v", g.line, x, ok)
		}
		if s := impl.LinePut(g.x); s != g.line {
			t.Errorf("LinePut of %q: %q", g.line, s)
		}
		if x, ok := impl.LineGet(g.line); !ok || x != g.x {
			t.Errorf("LineGet of %q: %v %v", g.line, x, ok)
		}
	}
}

func TestP1AnOpIsReadBackFromItsBytes(t *testing.T) {
	eachIns(func(x impl.Ins) {
		ok := wantOk(x)
		if impl.InsOk(x) != ok {
			t.Fatalf("InsOk of %+v is %v", x, !ok)
		}
		s := impl.InsPut(x)
		if !ok {
			if s != "" {
				t.Fatalf("InsPut of %+v is %x", x, s)
			}
			return
		}
		if y, fine := impl.InsGet(s); len(s) != 8 || !fine || y != x {
			t.Fatalf("%+v is written %x, and read %+v %v", x, s, y, fine)
		}
	})
}

func TestP1OffsetsBelowZero(t *testing.T) {
	for off := -130; off <= 130; off++ {
		for _, x := range []impl.Ins{
			{Op: impl.OpGo, Src: -1, Off: off},
			{Op: impl.OpLess, Dst: 1, Src: 2, Off: off},
			{Op: impl.OpLoad, Dst: 1, Src: 10, Off: off, Size: 1},
			{Op: impl.OpStore, Dst: 10, Src: -1, Off: off, Imm: 5, Size: 4},
		} {
			s := impl.InsPut(x)
			if !within(off, -128, 127) {
				if s != "" || impl.LinePut(x) != "" {
					t.Errorf("%+v is written", x)
				}
				continue
			}
			if len(s) != 8 || int(s[2]) != (off+256)%256 {
				t.Errorf("%+v is written %x", x, s)
			}
			if y, ok := impl.InsGet(s); !ok || y != x {
				t.Errorf("%+v is read %+v", x, y)
			}
			if y, ok := impl.LineGet(impl.LinePut(x)); !ok || y != x {
				t.Errorf("%+v is read from its line as %+v", x, y)
			}
		}
	}
}

func checkBytes(t *testing.T, s string) {
	t.Helper()
	x, ok := impl.InsGet(s)
	if !ok {
		if x != (impl.Ins{}) {
			t.Fatalf("InsGet of %x is false, and %+v", s, x)
		}
		return
	}
	if !impl.InsOk(x) || impl.InsPut(x) != s {
		t.Fatalf("%x is read %+v, and written %x", s, x, impl.InsPut(x))
	}
	for _, other := range []string{s + "\x00", "\x00" + s, s[:7], s + s} {
		if y, fine := impl.InsGet(other); fine || y != (impl.Ins{}) {
			t.Fatalf("InsGet of %x is %+v %v", other, y, fine)
		}
	}
}

func TestP2BytesAreWrittenJustSo(t *testing.T) {
	ends := []string{"\x00\x00\x00\x00", "\x01\x00\x00\x00", "\x06\x00\x00\x00", "\x07\x00\x00\x00", "\x00\x00\x00\x01", "\xff\xff\xff\xff"}
	for op := 0; op <= 22; op++ {
		for regs := 0; regs < 256; regs++ {
			for _, off := range []byte{0, 1, 127, 128, 255} {
				for _, size := range []byte{0, 1, 2, 3, 4, 5, 255} {
					for _, end := range ends {
						checkBytes(t, string([]byte{byte(op), byte(regs), off, size})+end)
					}
				}
			}
		}
	}
	for _, s := range []string{"", "\x14", strings.Repeat("\x00", 8), strings.Repeat("\xff", 8), "mov r0 1"} {
		if x, ok := impl.InsGet(s); ok || x != (impl.Ins{}) {
			t.Errorf("InsGet of %q is %+v %v", s, x, ok)
		}
	}
}

func TestP3AProgramIsReadBackFromItsBytes(t *testing.T) {
	lists := somePrograms(4000)
	lists = append(lists, nil, filled(0), filled(impl.ProgMax-1), filled(impl.ProgMax), []impl.Ins{{}})
	fine := 0
	for _, list := range lists {
		kept := slices.Clone(list)
		s := impl.ProgPut(list)
		if (s != "") != (impl.ProgForm(list) == impl.FormFine) {
			t.Fatalf("%+v is written %x", list, s)
		}
		if !slices.Equal(list, kept) {
			t.Fatalf("%+v was changed to %+v", kept, list)
		}
		if s == "" {
			continue
		}
		fine++
		each := ""
		for _, x := range list {
			each += impl.InsPut(x)
		}
		if got, ok := impl.ProgGet(s); s != each || !ok || !slices.Equal(got, list) {
			t.Fatalf("%+v is written %x, and read %+v %v", list, s, got, ok)
		}
	}
	if fine < 500 {
		t.Error("too few programs that can be:", fine)
	}
}

func TestP4BytesOfAProgramAreWrittenJustSo(t *testing.T) {
	check := func(s string) {
		list, ok := impl.ProgGet(s)
		if !ok {
			if len(list) != 0 {
				t.Fatalf("ProgGet of %x is false, and %+v", s, list)
			}
			return
		}
		if impl.ProgForm(list) != impl.FormFine || impl.ProgPut(list) != s {
			t.Fatalf("%x is read %+v", s, list)
		}
	}
	s := impl.ProgPut(program(t, "mov r0 1", "less r0 7 0", "go -3", "load1 r2 r1 3", "store4 r10 -4 r2", "exit"))
	for i := 0; i < len(s); i++ {
		for b := 0; b < 256; b++ {
			check(s[:i] + string([]byte{byte(b)}) + s[i+1:])
		}
		check(s[i:])
		if _, ok := impl.ProgGet(s[:i]); ok != (i == 24) {
			t.Errorf("the first %d bytes: %v", i, ok)
		}
	}
	exit := impl.InsPut(impl.Ins{Op: impl.OpExit, Src: -1})
	for n, want := range map[int]bool{0: false, 1: true, impl.ProgMax: true, impl.ProgMax + 1: false, 1000: false} {
		if list, ok := impl.ProgGet(strings.Repeat(exit, n)); ok != want || want && len(list) != n || !want && len(list) != 0 {
			t.Errorf("%d times exit: %v, %d ops", n, ok, len(list))
		}
	}
	for _, bad := range []string{exit + "\x00", "\x00" + exit, exit[:7], exit + strings.Repeat("\x00", 8), "exit"} {
		if list, ok := impl.ProgGet(bad); ok || len(list) != 0 {
			t.Errorf("ProgGet of %x is %+v %v", bad, list, ok)
		}
	}
}

func TestProgGetAnswersNewMemory(t *testing.T) {
	s := impl.ProgPut(filled(3))
	a, _ := impl.ProgGet(s)
	b, _ := impl.ProgGet(s)
	a[0].Imm = 99
	a = append(a[:1], impl.Ins{Op: 77})
	if !slices.Equal(b, filled(3)) {
		t.Error("two answers share memory:", a, b)
	}
}

func TestP5FormsInTheirOrder(t *testing.T) {
	bad := impl.Ins{Op: impl.OpMov, Dst: impl.RegMax, Src: -1}
	wild := impl.Ins{Op: impl.OpGo, Src: -1, Off: 100}
	long := filled(impl.ProgMax)
	for _, c := range []struct {
		name string
		list []impl.Ins
		want int
	}{
		{"an exit", program(t, "exit"), impl.FormFine},
		{"a go to itself", program(t, "go -1"), impl.FormFine},
		{"a go to the first", program(t, "mov r0 1", "go -2"), impl.FormFine},
		{"a go ahead of the first", program(t, "mov r0 1", "go -3"), impl.FormJump},
		{"a go to the last", program(t, "go 1", "mov r0 1", "exit"), impl.FormFine},
		{"a go behind the last", program(t, "go 2", "mov r0 1", "exit"), impl.FormJump},
		{"a go behind the end", program(t, "go 0"), impl.FormJump},
		{"same behind the last", program(t, "same r0 1 1", "exit"), impl.FormJump},
		{"other behind the last", program(t, "other r0 1 1", "exit"), impl.FormJump},
		{"less ahead of the first", program(t, "less r0 1 -2", "exit"), impl.FormJump},
		{"more ahead of the first", program(t, "more r0 r1 -2", "exit"), impl.FormJump},
		{"same to itself", program(t, "same r0 1 -1", "exit"), impl.FormFine},
		{"an offset that is no jump", program(t, "load1 r0 r1 100", "store1 r1 -100 r0", "exit"), impl.FormFine},
		{"nothing", nil, impl.FormEnd},
		{"empty", []impl.Ins{}, impl.FormEnd},
		{"no end", program(t, "exit", "mov r0 1"), impl.FormEnd},
		{"a jump as its end", program(t, "mov r0 1", "same r0 1 -2"), impl.FormEnd},
		{"a call as its end", program(t, "call rand"), impl.FormEnd},
		{"as long as can be", filled(impl.ProgMax - 1), impl.FormFine},
		{"one longer", long, impl.FormLong},
		{"one longer, no end", append(filled(impl.ProgMax), impl.Ins{Op: impl.OpMov}), impl.FormLong},
		{"one longer, and no op", append([]impl.Ins{bad}, long...), impl.FormOp},
		{"one longer, and the last no op", append(filled(impl.ProgMax), bad), impl.FormOp},
		{"one longer, and a jump that is wild", append([]impl.Ins{wild}, long...), impl.FormJump},
		{"wild, then no op", []impl.Ins{wild, bad}, impl.FormJump},
		{"no op, then wild", []impl.Ins{bad, wild}, impl.FormOp},
		{"a jump that is no op", []impl.Ins{{Op: impl.OpGo, Src: -1, Off: 128}}, impl.FormOp},
		{"the zero op", []impl.Ins{{}}, impl.FormOp},
	} {
		if n := impl.ProgForm(c.list); n != c.want {
			t.Errorf("%s: %d, not %d", c.name, n, c.want)
		}
	}
}

func TestP5JumpsReachAsFarAsOffsetsDo(t *testing.T) {
	go127 := append([]impl.Ins{{Op: impl.OpGo, Src: -1, Off: 127}}, filled(127)...)
	if n := impl.ProgForm(go127); n != impl.FormLong {
		t.Error("to place 128 of 129:", n)
	}
	short := append([]impl.Ins{{Op: impl.OpGo, Src: -1, Off: 127}}, filled(126)...)
	if n := impl.ProgForm(short); n != impl.FormJump {
		t.Error("to place 128 of 128:", n)
	}
	back := append(filled(126), impl.Ins{Op: impl.OpGo, Src: -1, Off: -128})
	if n := impl.ProgForm(back); n != impl.FormLong {
		t.Error("from place 127 to 0:", n)
	}
	if n := impl.ProgForm(back[1:]); n != impl.FormJump {
		t.Error("from place 126 to -1:", n)
	}
}

func TestP5AProgramThatCanBeLeadsNowhereBeyond(t *testing.T) {
	lists := append(somePrograms(4000), filled(impl.ProgMax-2), filled(impl.ProgMax-1))
	for _, list := range lists {
		if impl.ProgForm(list) != impl.FormFine {
			continue
		}
		for i, x := range list {
			at := i + 1 + x.Off
			if !impl.InsOk(x) || within(x.Op, impl.OpSame, impl.OpGo) && !within(at, 0, len(list)-1) {
				t.Fatalf("%+v: op %d", list, i)
			}
		}
		ahead := append([]impl.Ins{{Op: impl.OpMov, Src: -1}}, list...)
		if fine := impl.ProgForm(ahead) == impl.FormFine; fine != (len(ahead) <= impl.ProgMax) {
			t.Fatalf("one op ahead of %d: %v", len(list), fine)
		}
	}
}

func TestP6AnOpIsReadBackFromItsLine(t *testing.T) {
	eachIns(func(x impl.Ins) {
		s := impl.LinePut(x)
		if !wantOk(x) {
			if s != "" {
				t.Fatalf("LinePut of %+v is %q", x, s)
			}
			return
		}
		if y, ok := impl.LineGet(s); !ok || y != x {
			t.Fatalf("%+v is written %q, and read %+v %v", x, s, y, ok)
		}
	})
}

// checkLine holds a text that may be a line against what LineGet says of it.
func checkLine(t *testing.T, s string) {
	t.Helper()
	x, ok := impl.LineGet(s)
	if !ok && x != (impl.Ins{}) {
		t.Fatalf("LineGet of %q is false, and %+v", s, x)
	}
	if ok && (!wantOk(x) || impl.LinePut(x) != s) {
		t.Fatalf("%q is read %+v, and written %q", s, x, impl.LinePut(x))
	}
}

func TestP7ALineIsWrittenJustSo(t *testing.T) {
	marks := []string{" ", "-", "+", "0", "1", "9", "r", "x", "_", "\t", "\n", "\x00", "\xff", "é", ""}
	for _, g := range golden {
		s := g.line
		for _, bad := range []string{s + " ", " " + s, s + "\n", s + " 0", strings.ToUpper(s), strings.Replace(s, " ", "  ", 1) + "  "} {
			if x, ok := impl.LineGet(bad); ok || x != (impl.Ins{}) {
				t.Errorf("LineGet of %q is %+v %v", bad, x, ok)
			}
		}
		for i := 0; i <= len(s); i++ {
			for _, m := range marks {
				checkLine(t, s[:i]+m+s[i:])
				if i < len(s) {
					checkLine(t, s[:i]+m+s[i+1:])
				}
			}
		}
	}
}

func TestP7TextsThatAreNoLines(t *testing.T) {
	for _, s := range []string{
		"", " ", "r0", "nop", "mov", "mov ", "mov r0", "mov r0 ", "mov r0 r11", "mov r11 1", "mov r-1 1", "mov r0 r-1", "mov 0 1", "mov r 1", "mov r0 r",
		"mov r0 4294967296", "mov r0 18446744073709551616", "mov r0 -1", "mov r0 -0", "mov r0 +1", "mov r0 01", "mov r00 1", "mov r0 0x1", "mov r0 1_0",
		"mov r0 1 0", "mov1 r0 1", "Mov r0 1", "same r0 1", "same r0 1 128", "same r0 1 -129", "same r0 1 -0", "same r0 1 +1", "same r0 1 0 0", "same r0 1 r0",
		"go", "go r1", "go 128", "go -129", "go 00", "go --1", "go 1 1", "load r0 r1 0", "load0 r0 r1 0", "load3 r0 r1 0", "load8 r0 r1 0", "load01 r0 r1 0",
		"load1 r0 5 0", "load1 r0 r1", "load1 r0 0 r1", "store r1 0 5", "store3 r1 0 5", "store1 r1 5", "store1 r1 r2 5", "store1 r1 0 4294967296", "store1 5 0 r1",
		"call", "call ", "call jump", "call 1", "call look look", "call LOOK", "exit 1", "exit ", "exi", "exits", "call6", "go0",
	} {
		if x, ok := impl.LineGet(s); ok || x != (impl.Ins{}) {
			t.Errorf("LineGet of %q is %+v %v", s, x, ok)
		}
	}
}
