package impl

import (
	"strconv"
	"strings"
)

// Ops, calls, why a program cannot be, and limits.
const (
	OpMov    = 1
	OpAdd    = 2
	OpSub    = 3
	OpMul    = 4
	OpAnd    = 5
	OpOr     = 6
	OpXor    = 7
	OpShl    = 8
	OpShr    = 9
	OpDiv    = 10
	OpMod    = 11
	OpSame   = 12
	OpOther  = 13
	OpLess   = 14
	OpMore   = 15
	OpGo     = 16
	OpLoad   = 17
	OpStore  = 18
	OpCall   = 19
	OpExit   = 20
	CallLook = 1
	CallPut  = 2
	CallFind = 3
	CallDrop = 4
	CallRand = 5
	CallSend = 6
	FormFine = 0
	FormOp   = 1
	FormJump = 2
	FormLong = 3
	FormEnd  = 4
	RegMax   = 11
	ProgMax  = 48
)

// Ins is an op: what it is of, a register or a number (Src -1), an offset, and how many bytes are loaded or stored.
type Ins struct {
	Op   int
	Dst  int
	Src  int
	Off  int
	Imm  int
	Size int
}

const (
	numberMax = 4294967295
	offsetMin = -128
	offsetMax = 127
	insBytes  = 8
	noSource  = -1
)

var opWords = [...]string{
	"",
	"mov", "add", "sub", "mul", "and", "or", "xor", "shl", "shr", "div", "mod",
	"same", "other", "less", "more",
	"go", "load", "store", "call", "exit",
}

var callWords = [...]string{"", "look", "put", "find", "drop", "rand", "send"}

// opKind is what an op does: all that hangs on it alone stands here, so that bytes, lines and programs cannot differ in it.
type opKind int

func (k opKind) known() bool {
	return k >= OpMov && k <= OpExit
}

func (k opKind) reckons() bool {
	return k >= OpMov && k <= OpMod
}

func (k opKind) asks() bool {
	return k >= OpSame && k <= OpMore
}

func (k opKind) jumps() bool {
	return k.asks() || k == OpGo
}

func (k opKind) reaches() bool {
	return k == OpLoad || k == OpStore
}

func (k opKind) closes() bool {
	return k == OpExit || k == OpGo
}

func (k opKind) dstFits(dst int) bool {
	if k.reckons() || k.asks() || k.reaches() {
		return isRegister(dst)
	}
	return dst == 0
}

func (k opKind) srcFits(src int, imm int) bool {
	if k == OpGo || k == OpExit {
		return src == noSource && imm == 0
	}
	if k == OpCall {
		return src == noSource && imm >= CallLook && imm <= CallSend
	}
	if isRegister(src) {
		return imm == 0
	}
	return src == noSource && k != OpLoad && isNumber(imm)
}

func (k opKind) offFits(off int) bool {
	if k.jumps() || k.reaches() {
		return off >= offsetMin && off <= offsetMax
	}
	return off == 0
}

func (k opKind) sizeFits(size int) bool {
	if k.reaches() {
		return size == 1 || size == 2 || size == 4
	}
	return size == 0
}

// parts are what stands in a line behind its first word, a byte each, so that one order serves writing and reading:
// d is Dst, x is Src or Imm, o is Off, c is the word of a call.
func (k opKind) parts() string {
	switch {
	case k.reckons():
		return "dx"
	case k.asks() || k == OpLoad:
		return "dxo"
	case k == OpStore:
		return "dox"
	case k == OpGo:
		return "o"
	case k == OpCall:
		return "c"
	}
	return ""
}

func (k opKind) firstWord(size int) string {
	if k.reaches() {
		return opWords[k] + strconv.Itoa(size)
	}
	return opWords[k]
}

func isRegister(n int) bool {
	return n >= 0 && n < RegMax
}

func isNumber(n int) bool {
	return n >= 0 && n <= numberMax
}

// InsOk says whether an op is ok.
func InsOk(x Ins) bool {
	k := opKind(x.Op)
	return k.known() && k.dstFits(x.Dst) && k.srcFits(x.Src, x.Imm) && k.offFits(x.Off) && k.sizeFits(x.Size)
}

// InsPut writes an op in bytes.
func InsPut(x Ins) string {
	if !InsOk(x) {
		return ""
	}
	return string([]byte{
		byte(x.Op), byte(x.Dst*16 + x.Src + 1), byte(x.Off), byte(x.Size),
		byte(x.Imm), byte(x.Imm >> 8), byte(x.Imm >> 16), byte(x.Imm >> 24),
	})
}

// InsGet reads an op from bytes.
func InsGet(s string) (Ins, bool) {
	if len(s) != insBytes {
		return Ins{}, false
	}
	x := Ins{
		Op:   int(s[0]),
		Dst:  int(s[1] >> 4),
		Src:  int(s[1]&15) - 1,
		Off:  int(int8(s[2])),
		Imm:  int(s[4]) | int(s[5])<<8 | int(s[6])<<16 | int(s[7])<<24,
		Size: int(s[3]),
	}
	if !InsOk(x) {
		return Ins{}, false
	}
	return x, true
}

// ProgForm is why a program cannot be.
func ProgForm(list []Ins) int {
	for i, x := range list {
		if !InsOk(x) {
			return FormOp
		}
		if opKind(x.Op).jumps() && !isPlace(i+1+x.Off, len(list)) {
			return FormJump
		}
	}
	if len(list) > ProgMax {
		return FormLong
	}
	if len(list) == 0 || !opKind(list[len(list)-1].Op).closes() {
		return FormEnd
	}
	return FormFine
}

func isPlace(at int, size int) bool {
	return at >= 0 && at < size
}

// ProgPut writes a program in bytes.
func ProgPut(list []Ins) string {
	if ProgForm(list) != FormFine {
		return ""
	}
	out := ""
	for _, x := range list {
		out += InsPut(x)
	}
	return out
}

// ProgGet reads a program from bytes.
func ProgGet(s string) ([]Ins, bool) {
	if len(s)%insBytes != 0 {
		return nil, false
	}
	var list []Ins
	for i := 0; i < len(s); i += insBytes {
		x, ok := InsGet(s[i : i+insBytes])
		if !ok {
			return nil, false
		}
		list = append(list, x)
	}
	if ProgForm(list) != FormFine {
		return nil, false
	}
	return list, true
}

// LinePut writes an op as a line.
func LinePut(x Ins) string {
	if !InsOk(x) {
		return ""
	}
	k := opKind(x.Op)
	line := k.firstWord(x.Size)
	parts := k.parts()
	for i := 0; i < len(parts); i++ {
		line += " " + partPut(x, parts[i])
	}
	return line
}

func partPut(x Ins, part byte) string {
	switch part {
	case 'd':
		return registerPut(x.Dst)
	case 'o':
		return strconv.Itoa(x.Off)
	case 'c':
		return callWords[x.Imm]
	}
	if x.Src == noSource {
		return strconv.Itoa(x.Imm)
	}
	return registerPut(x.Src)
}

func registerPut(n int) string {
	return "r" + strconv.Itoa(n)
}

// LineGet reads an op from a line.
func LineGet(s string) (Ins, bool) {
	words := strings.Split(s, " ")
	x := firstWordGet(words[0])
	parts := opKind(x.Op).parts()
	if x.Op == 0 || len(words) != len(parts)+1 {
		return Ins{}, false
	}
	for i := 0; i < len(parts); i++ {
		y, ok := partGet(x, parts[i], words[i+1])
		if !ok {
			return Ins{}, false
		}
		x = y
	}
	// Words are read with leave (+1, 007): that the line comes back to the letter is what refuses those, and ops that are not ok.
	if LinePut(x) != s {
		return Ins{}, false
	}
	return x, true
}

func firstWordGet(word string) Ins {
	for k := opKind(OpMov); k <= OpExit; k++ {
		for size := 0; size <= 4; size++ {
			if k.sizeFits(size) && k.firstWord(size) == word {
				return Ins{Op: int(k), Src: noSource, Size: size}
			}
		}
	}
	return Ins{}
}

func partGet(x Ins, part byte, word string) (Ins, bool) {
	var ok bool
	switch part {
	case 'd':
		x.Dst, ok = registerGet(word)
	case 'o':
		x.Off, ok = numberGet(word)
	case 'c':
		x.Imm, ok = callGet(word)
	default:
		x.Src, ok = registerGet(word)
		if !ok {
			x.Src = noSource
			x.Imm, ok = numberGet(word)
		}
	}
	return x, ok
}

func registerGet(word string) (int, bool) {
	digits, ok := strings.CutPrefix(word, "r")
	if !ok {
		return 0, false
	}
	return numberGet(digits)
}

func numberGet(word string) (int, bool) {
	n, err := strconv.Atoi(word)
	return n, err == nil
}

func callGet(word string) (int, bool) {
	for n := CallLook; n <= CallSend; n++ {
		if callWords[n] == word {
			return n, true
		}
	}
	return 0, false
}
