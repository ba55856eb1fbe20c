package tests

import (
	"reflect"
	"slices"
	"strconv"
	"strings"
	"testing"

	"loop.example/steerage/impl"
)

// steered gives back the first byte of a frame as what becomes of it, and sends the second one.
const steered = "mov r9 r1; load1 r1 r9 1; call send; load1 r0 r9 0; exit"

func newHost(t *testing.T, lines string) impl.Host {
	t.Helper()
	h, ok := impl.HostNew(program(t, strings.Split(lines, "; ")...), threeTables())
	if !ok {
		t.Fatalf("%s is not let in", lines)
	}
	return h
}

// busyHost has sockets 1, 1002 and 3001 open, bytes and frames in each, and five ways.
func busyHost(t *testing.T) impl.Host {
	h := newHost(t, steered)
	h.Slots = []impl.Slot{
		{Open: true, Gen: 1, Buf: "\x02\x01a\x03\x02\x07b", In: []string{"one", "two"}},
		{Open: true, Gen: 2, Buf: "\x05", In: []string{"three"}},
		{Gen: 3},
		{Open: true, Gen: 1, In: []string{"x", "y", "z"}},
	}
	h.Ways = []impl.Way{{Key: 0, Id: 1}, {Key: 5, Id: 3001}, {Key: 7, Id: 1002}, {Key: 9, Id: 1}, {Key: most32, Id: 3001}}
	h.Rand, h.Dropped = 77, 4
	return h
}

func sameSlot(a impl.Slot, b impl.Slot) bool {
	return a.Open == b.Open && a.Gen == b.Gen && a.Buf == b.Buf && sameList(a.In, b.In)
}

func sameHost(a impl.Host, b impl.Host) bool {
	return sameList(a.Prog, b.Prog) && sameTables(a.Tables, b.Tables) && slices.EqualFunc(a.Slots, b.Slots, sameSlot) &&
		sameList(a.Ways, b.Ways) && a.Rand == b.Rand && a.Dropped == b.Dropped
}

func wantHost(t *testing.T, what string, got impl.Host, want impl.Host) {
	t.Helper()
	if !sameHost(got, want) {
		t.Errorf("%s: it is %+v, not %+v", what, got, want)
	}
	if !impl.HostOk(got) {
		t.Errorf("%s: it is not ok: %+v", what, got)
	}
}

func TestHostLimitsAndCodes(t *testing.T) {
	got := [][]int{
		{impl.BufMax, impl.QueueMax, impl.SlotMax, impl.GenMax, impl.WaysMax},
		{impl.VerdictDrop, impl.VerdictKeep, impl.VerdictSend},
		{impl.WorkFine, impl.WorkForm, impl.WorkNone, impl.WorkBad, impl.WorkBusy, impl.WorkDrop},
	}
	if want := [][]int{{120, 3, 4, 3, 6}, {0, 1, 2}, {0, 1, 2, 3, 4, 5}}; !reflect.DeepEqual(got, want) {
		t.Errorf("limits and codes are %v, not %v", got, want)
	}
}

// wrongHosts are hosts that are not ok, each for one reason.
func wrongHosts(t *testing.T) map[string]impl.Host {
	out := map[string]impl.Host{"nothing": {}}
	change := func(name string, do func(h *impl.Host)) {
		h := busyHost(t)
		do(&h)
		out[name] = h
	}
	change("no slots", func(h *impl.Host) { h.Slots, h.Ways = nil, nil })
	change("a slot too few", func(h *impl.Host) { h.Slots, h.Ways = h.Slots[:3], h.Ways[:1] })
	change("a slot too many", func(h *impl.Host) { h.Slots = append(h.Slots, impl.Slot{}) })
	change("an open slot too many", func(h *impl.Host) { h.Slots = append(h.Slots, h.Slots[0]) })
	for at := range impl.SlotMax {
		slot := func(name string, s impl.Slot) {
			change("slot "+strconv.Itoa(at)+": "+name, func(h *impl.Host) { h.Slots[at], h.Ways = s, nil })
		}
		slot("shut, below 0", impl.Slot{Gen: -1})
		slot("shut, above all", impl.Slot{Gen: 4})
		slot("shut, as another one", impl.Slot{Gen: 1001})
		slot("open, never one", impl.Slot{Open: true})
		slot("open, below 0", impl.Slot{Open: true, Gen: -1})
		slot("open, above all", impl.Slot{Open: true, Gen: 4})
		slot("open, as another one", impl.Slot{Open: true, Gen: 1001})
		slot("shut, with a byte", impl.Slot{Gen: 1, Buf: "\x01"})
		slot("shut, with a frame", impl.Slot{Gen: 1, In: []string{"a"}})
		slot("a byte too many", impl.Slot{Open: true, Gen: 1, Buf: strings.Repeat("\x01", 121)})
		slot("a frame too many", impl.Slot{Open: true, Gen: 1, In: []string{"a", "b", "c", "d"}})
		slot("an empty frame", impl.Slot{Open: true, Gen: 1, In: []string{"a", ""}})
		slot("a frame that is too long", impl.Slot{Open: true, Gen: 1, In: []string{letters(13), "a"}})
	}
	change("a way to a shut slot", func(h *impl.Host) { h.Ways[0].Id = 2003 })
	change("a way to a socket that was", func(h *impl.Host) { h.Ways[1].Id = 1001 })
	change("a way to a socket to come", func(h *impl.Host) { h.Ways[2].Id = 2 })
	change("a way to slot 0, never one", func(h *impl.Host) { h.Slots[0], h.Ways = impl.Slot{}, []impl.Way{{Key: 1}} })
	change("a way to no slot", func(h *impl.Host) { h.Ways[3].Id = 4001 })
	change("a way below 0", func(h *impl.Host) { h.Ways[4].Id = -1 })
	change("a key twice", func(h *impl.Host) { h.Ways[1].Key = 7 })
	change("a way twice", func(h *impl.Host) { h.Ways[1] = h.Ways[0] })
	change("keys out of order", func(h *impl.Host) { h.Ways[1].Key = 8 })
	change("keys going down", func(h *impl.Host) { slices.Reverse(h.Ways) })
	change("a key below 0", func(h *impl.Host) { h.Ways[0].Key = -1 })
	change("a key above all", func(h *impl.Host) { h.Ways[4].Key = most32 + 1 })
	change("a way too many", func(h *impl.Host) {
		h.Ways = append([]impl.Way{{Key: 0, Id: 1}, {Key: 1, Id: 1}, {Key: 2, Id: 1}}, h.Ways[1:]...)
	})
	change("Rand below 0", func(h *impl.Host) { h.Rand = -1 })
	change("Rand above all", func(h *impl.Host) { h.Rand = most32 + 1 })
	change("no program", func(h *impl.Host) { h.Prog = nil })
	change("a program that reads nothing", func(h *impl.Host) { h.Prog = program(t, "exit") })
	change("a program without its table", func(h *impl.Host) {
		h.Prog = program(t, "mov r1 2", "mov r2 0", "call look", "mov r0 1", "exit")
		h.Tables = h.Tables[:2]
	})
	change("a table too many", func(h *impl.Host) { h.Tables = append(h.Tables, impl.TableNew(impl.TableRow, 1, 1)) })
	for name, m := range wrongTables() {
		change("table: "+name, func(h *impl.Host) { h.Tables[1] = m })
	}
	return out
}

func TestHostsThatAreNotOk(t *testing.T) {
	for name, h := range wrongHosts(t) {
		if impl.HostOk(h) {
			t.Error(name, "is ok")
		}
		x, id := impl.HostOpen(h)
		checkNothing(t, name+": HostOpen", x, id == -1)
		for _, id := range []int{1, 0, 1002, 3001, -1} {
			x, ok := impl.HostClose(h, id)
			checkNothing(t, name+": HostClose", x, !ok)
			x, ok = impl.HostSet(h, 3, id)
			checkNothing(t, name+": HostSet", x, !ok)
			x, ok = impl.HostCome(h, id, "")
			checkNothing(t, name+": HostCome", x, !ok)
			x, code := impl.HostWork(h, id)
			checkNothing(t, name+": HostWork", x, code == impl.WorkForm)
			x, frame := impl.HostRead(h, id)
			checkNothing(t, name+": HostRead", x, frame == "")
			x, count := impl.HostDrain(h, id)
			checkNothing(t, name+": HostDrain", x, count == 0)
		}
	}
}

func checkNothing(t *testing.T, what string, h impl.Host, fixed bool) {
	t.Helper()
	if !sameHost(h, impl.Host{}) || !fixed {
		t.Errorf("%s: %v, %+v", what, fixed, h)
	}
}

func TestHostsThatAreOk(t *testing.T) {
	for name, do := range map[string]func(h *impl.Host){
		"as it is":              func(h *impl.Host) {},
		"as many bytes as may":  func(h *impl.Host) { h.Slots[1].Buf = strings.Repeat("\x00", 120) },
		"as many frames as may": func(h *impl.Host) { h.Slots[0].In = []string{letters(12), "a", letters(12)} },
		"the same frame thrice": func(h *impl.Host) { h.Slots[0].In = []string{"a", "a", "a"} },
		"all shut": func(h *impl.Host) {
			h.Slots, h.Ways = []impl.Slot{{}, {Gen: 1}, {Gen: 2}, {Gen: 3}}, nil
		},
		"all open": func(h *impl.Host) {
			h.Slots = []impl.Slot{{Open: true, Gen: 1}, {Open: true, Gen: 2}, {Open: true, Gen: 3}, {Open: true, Gen: 1}}
		},
		"as many ways as may":  func(h *impl.Host) { h.Ways = slices.Insert(h.Ways, 1, impl.Way{Key: 1, Id: 1}) },
		"all ways to one":      func(h *impl.Host) { h.Ways = []impl.Way{{Key: 3, Id: 1002}, {Key: 4, Id: 1002}} },
		"no ways":              func(h *impl.Host) { h.Ways = nil },
		"Rand 0":               func(h *impl.Host) { h.Rand = 0 },
		"Rand the last number": func(h *impl.Host) { h.Rand = most32 },
		"no tables":            func(h *impl.Host) { h.Tables = nil },
		"the longest program":  func(h *impl.Host) { h.Prog = filled(impl.ProgMax - 1) },
		"nothing was dropped":  func(h *impl.Host) { h.Dropped = 0 },
		"much was dropped":     func(h *impl.Host) { h.Dropped = 1 << 40 },
	} {
		h := busyHost(t)
		do(&h)
		if !impl.HostOk(h) {
			t.Error(name, "is not ok")
		}
	}
}

func TestP38AHostIsMadeJustForAProgramThatIsLetIn(t *testing.T) {
	out := 0
	for _, p := range drawnAndProved(t)[:4000] {
		h, ok := impl.HostNew(p.list, threeTables())
		if ok != (p.proof.Code == impl.ProofFine) {
			t.Fatalf("%s: %v, but the proof is %+v", linesOf(p.list), ok, p.proof)
		}
		if !ok {
			out++
			checkNothing(t, linesOf(p.list), h, true)
			continue
		}
		wantHost(t, linesOf(p.list), h, impl.Host{Prog: p.list, Tables: threeTables(), Slots: make([]impl.Slot, 4)})
	}
	if !within(out, 400, 3600) {
		t.Error(out, "programs are not let in")
	}
	for name, s := range wrongProofs(t) {
		h, ok := impl.HostNew(s.Prog, s.Tables)
		checkNothing(t, name, h, !ok)
	}
	if h, ok := impl.HostNew(program(t, "mov r0 0", "exit"), nil); !ok || !sameHost(h, impl.Host{Prog: program(t, "mov r0 0", "exit"), Slots: make([]impl.Slot, 4)}) {
		t.Error("without tables:", h, ok)
	}
}

func TestP39SocketsAreGivenOutInOrder(t *testing.T) {
	h := newHost(t, steered)
	for at, want := range []int{1, 1001, 2001, 3001} {
		x, id := impl.HostOpen(h)
		if id != want {
			t.Fatalf("slot %d: the socket is %d, not %d", at, id, want)
		}
		h.Slots[at] = impl.Slot{Open: true, Gen: 1}
		wantHost(t, "opened", x, h)
	}
	x, id := impl.HostOpen(h)
	if id != -1 {
		t.Error("there is no slot, but socket", id)
	}
	wantHost(t, "no slot is left", x, h)
}

// A slot is GenMax sockets, one behind the other, and then none.
func TestP39ANumberNeverComesAgain(t *testing.T) {
	h := newHost(t, steered)
	var all []int
	for range 20 {
		x, id := impl.HostOpen(h)
		if id == -1 {
			wantHost(t, "all sockets were given out", x, h)
			break
		}
		all = append(all, id)
		h, _ = impl.HostCome(x, id, "\x01")
		h, _ = impl.HostClose(h, id)
	}
	if want := []int{1, 2, 3, 1001, 1002, 1003, 2001, 2002, 2003, 3001, 3002, 3003}; !sameList(all, want) {
		t.Errorf("sockets are %v, not %v", all, want)
	}
	h = busyHost(t)
	if x, id := impl.HostOpen(h); id != -1 {
		t.Error("the one slot that is shut was three sockets, but there is", id, x.Slots)
	}
	h.Slots[2].Gen = 2
	x, id := impl.HostOpen(h)
	h.Slots[2] = impl.Slot{Open: true, Gen: 3}
	wantHost(t, "the last socket of a slot", x, h)
	if id != 2003 {
		t.Error("the last socket of a slot is", id)
	}
}

// notOpen are numbers that are no open socket of busyHost.
var notOpen = []int{-1 << 63, -3001, -1002, -999, -1, 0, 2, 3, 4, 999, 1000, 1001, 1003, 2000, 2001, 2003, 2004, 3000, 3002, 3003, 4000, 4001, 5001, 1 << 32, 1<<32 + 1, 1<<63 - 1}

func TestWhatIsNotOpen(t *testing.T) {
	for _, id := range notOpen {
		h := busyHost(t)
		name := strconv.Itoa(id)
		checkAsItIs := func(what string, x impl.Host, fixed bool) {
			wantHost(t, name+": "+what, x, h)
			if !fixed {
				t.Error(name, what, "answers something else")
			}
		}
		x, ok := impl.HostClose(h, id)
		checkAsItIs("HostClose", x, !ok)
		for _, key := range []int{-1, 0, 3, 7} {
			x, ok = impl.HostSet(h, key, id)
			checkAsItIs("HostSet", x, !ok)
		}
		for _, s := range []string{"", "a", letters(121)} {
			x, ok = impl.HostCome(h, id, s)
			checkAsItIs("HostCome", x, !ok)
		}
		x, code := impl.HostWork(h, id)
		checkAsItIs("HostWork", x, code == impl.WorkForm)
		x, frame := impl.HostRead(h, id)
		checkAsItIs("HostRead", x, frame == "")
		x, count := impl.HostDrain(h, id)
		checkAsItIs("HostDrain", x, count == 0)
	}
}

func TestP40NothingLeadsToASocketThatIsClosed(t *testing.T) {
	for id, left := range map[int][]impl.Way{
		1:    {{Key: 5, Id: 3001}, {Key: 7, Id: 1002}, {Key: most32, Id: 3001}},
		1002: {{Key: 0, Id: 1}, {Key: 5, Id: 3001}, {Key: 9, Id: 1}, {Key: most32, Id: 3001}},
		3001: {{Key: 0, Id: 1}, {Key: 7, Id: 1002}, {Key: 9, Id: 1}},
	} {
		x, ok := impl.HostClose(busyHost(t), id)
		want := busyHost(t)
		want.Slots[id/1000] = impl.Slot{Gen: id % 1000}
		want.Ways = left
		wantHost(t, "closed "+strconv.Itoa(id), x, want)
		if !ok {
			t.Error(id, "was not closed")
		}
		again, ok := impl.HostClose(x, id)
		wantHost(t, "closed again", again, want)
		came, came2 := impl.HostCome(x, id, "")
		wantHost(t, "come behind it", came, want)
		set, set2 := impl.HostSet(x, 5, id)
		wantHost(t, "set behind it", set, want)
		if ok || came2 || set2 {
			t.Error(id, "is still open:", ok, came2, set2)
		}
	}
}

func TestP41AKeyLeadsWhereItWasSetLast(t *testing.T) {
	h := newHost(t, steered)
	h, _ = impl.HostOpen(h)
	h, _ = impl.HostOpen(h)
	set := func(key int, id int, want ...impl.Way) {
		t.Helper()
		x, ok := impl.HostSet(h, key, id)
		if !ok {
			t.Errorf("%d was not set to %d", key, id)
		}
		h.Ways = want
		wantHost(t, "set "+strconv.Itoa(key), x, h)
		h = x
	}
	set(7, 1001, impl.Way{Key: 7, Id: 1001})
	set(7, 1, impl.Way{Key: 7, Id: 1})
	set(7, 1, impl.Way{Key: 7, Id: 1})
	set(most32, 1, impl.Way{Key: 7, Id: 1}, impl.Way{Key: most32, Id: 1})
	set(0, 1001, impl.Way{Key: 0, Id: 1001}, impl.Way{Key: 7, Id: 1}, impl.Way{Key: most32, Id: 1})
	set(8, 1, impl.Way{Key: 0, Id: 1001}, impl.Way{Key: 7, Id: 1}, impl.Way{Key: 8, Id: 1}, impl.Way{Key: most32, Id: 1})
	set(most32, 1001, impl.Way{Key: 0, Id: 1001}, impl.Way{Key: 7, Id: 1}, impl.Way{Key: 8, Id: 1}, impl.Way{Key: most32, Id: 1001})
}

func TestP41NoMoreWaysThanMayBe(t *testing.T) {
	h := busyHost(t)
	h, ok := impl.HostSet(h, 6, 1)
	if !ok || len(h.Ways) != impl.WaysMax {
		t.Fatal("the last way is not there:", ok, h.Ways)
	}
	for _, key := range []int{1, 8, 10, most32 - 1} {
		x, ok := impl.HostSet(h, key, 1)
		wantHost(t, "one more", x, h)
		if ok {
			t.Error("a way too many was set:", key)
		}
	}
	for i, w := range h.Ways {
		x, ok := impl.HostSet(h, w.Key, 1002)
		want := busyHost(t)
		want.Ways = slices.Clone(h.Ways)
		want.Ways[i].Id = 1002
		wantHost(t, "one that is there", x, want)
		if !ok {
			t.Error("a way that is there was not set:", w.Key)
		}
	}
}

func TestP41KeysThatAreNoNumbers(t *testing.T) {
	for _, key := range noNumbers {
		x, ok := impl.HostSet(busyHost(t), key, 1)
		wantHost(t, strconv.Itoa(key), x, busyHost(t))
		if ok {
			t.Error("set:", key)
		}
	}
}

func TestP42BytesComeAsTheyCome(t *testing.T) {
	for id, at := range map[int]int{1: 0, 1002: 1, 3001: 3} {
		room := impl.BufMax - len(busyHost(t).Slots[at].Buf)
		for _, size := range []int{0, 1, 13, room - 1, room} {
			want := busyHost(t)
			want.Slots[at].Buf += letters(size)
			x, ok := impl.HostCome(busyHost(t), id, letters(size))
			wantHost(t, "came", x, want)
			if !ok {
				t.Error(size, "bytes did not come to", id)
			}
			for _, cut := range []int{0, size / 2, size} {
				x, first := impl.HostCome(busyHost(t), id, letters(size)[:cut])
				x, second := impl.HostCome(x, id, letters(size)[cut:])
				wantHost(t, "came in two", x, want)
				if !first || !second {
					t.Error(size, "bytes did not come in two to", id)
				}
			}
		}
		for _, size := range []int{room + 1, room + 2, 121, 1000} {
			x, ok := impl.HostCome(busyHost(t), id, letters(size))
			wantHost(t, "came, too many", x, busyHost(t))
			if ok {
				t.Error(size, "bytes came to", id)
			}
		}
	}
	// Bytes come behind a length that cannot be, too: that is found where it is worked on.
	h := busyHost(t)
	h.Slots[1].Buf = "\x00"
	x, ok := impl.HostCome(h, 1002, "\x00a")
	h.Slots[1].Buf = "\x00\x00a"
	wantHost(t, "behind what cannot be", x, h)
	if !ok {
		t.Error("no bytes come behind what cannot be")
	}
}

func TestP44FramesAreReadInOrder(t *testing.T) {
	for id, in := range map[int][]string{1: {"one", "two"}, 1002: {"three"}, 3001: {"x", "y", "z"}} {
		h, want := busyHost(t), busyHost(t)
		for i, frame := range in {
			x, got := impl.HostRead(h, id)
			want.Slots[id/1000].In = in[i+1:]
			wantHost(t, "read "+frame, x, want)
			if got != frame {
				t.Errorf("%d: %q was read, not %q", id, got, frame)
			}
			h = x
		}
		x, got := impl.HostRead(h, id)
		wantHost(t, "nothing is left", x, want)
		if got != "" {
			t.Errorf("%d: nothing is left, but %q was read", id, got)
		}
	}
}

func TestP46WhatComesToOneDoesNotChangeAnother(t *testing.T) {
	for _, to := range []int{1, 1002, 3001} {
		for _, from := range []int{1, 1002, 3001, 2001} {
			for _, s := range []string{"", "\x01a", "\x00", letters(120), letters(121)} {
				a, okA := impl.HostCome(busyHost(t), to, s)
				a, frameA := impl.HostRead(a, from)
				b, frameB := impl.HostRead(busyHost(t), from)
				b, okB := impl.HostCome(b, to, s)
				wantHost(t, "in either order", a, b)
				if okA != okB || frameA != frameB {
					t.Errorf("%d, %d: %v and %v, %q and %q", to, from, okA, okB, frameA, frameB)
				}
			}
		}
	}
}
