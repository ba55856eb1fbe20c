package tests

import (
	"math/rand"
	"slices"
	"strconv"
	"strings"
	"testing"

	"loop.example/steerage/impl"
)

// hostPrograms are programs that keep, drop, send, count and find, and as many that were drawn.
func hostPrograms(t *testing.T, drawn int) [][]impl.Ins {
	var out [][]impl.Ins
	for _, lines := range []string{
		steered, counted, steered, counted,
		"mov r0 1; exit",
		"mov r9 r1; load1 r1 r9 1; call find; mov r6 1; same r0 0 3; mov r1 r0; call drop; mov r6 2; load1 r1 r9 1; call send; mov r0 r6; exit",
		"mov r9 r1; mov r1 1; load1 r2 r9 0; load4 r3 r9 1; call put; mov r6 r0; load1 r1 r9 1; call send; mov r0 r6; exit",
	} {
		out = append(out, program(t, strings.Split(lines, "; ")...))
	}
	for _, p := range letIn(t)[:drawn] {
		out = append(out, p.list)
	}
	return out
}

// player does things to a host, and notes how often each came to something.
type player struct {
	drawer
	t    *testing.T
	host impl.Host
	seen map[string]int
	// rest is what is still to come to a socket of frames of which a part came.
	rest map[int]string
}

// id is an open socket, most often.
func (p *player) id() int {
	var open []int
	for at, s := range p.host.Slots {
		if s.Open {
			open = append(open, at*1000+s.Gen)
		}
	}
	if len(open) == 0 || p.draw.Intn(12) == 0 {
		return p.draw.Intn(5)*1000 + p.draw.Intn(5)
	}
	return open[p.draw.Intn(len(open))]
}

// pieceTo is the next piece of frames, or, seldom, of anything.
func (p *player) pieceTo(id int) string {
	if p.draw.Intn(20) == 0 {
		return p.stream(40)
	}
	s := p.rest[id]
	for range p.draw.Intn(6) {
		s += impl.FramePut(p.frame())
	}
	cut := p.draw.Intn(len(s) + 1)
	p.rest[id] = s[cut:]
	return s[:cut]
}

// slot is the place of an open socket, written down a second time.
func slot(h impl.Host, id int) int {
	for _, gen := range []int{1, 2, 3} {
		at := (id - gen) / 1000
		if id > 0 && (id-gen)%1000 == 0 && at < len(h.Slots) && h.Slots[at].Open && h.Slots[at].Gen == gen {
			return at
		}
	}
	return -1
}

func (p *player) check(what string, x impl.Host, fine bool) {
	p.t.Helper()
	if !impl.HostOk(x) {
		p.t.Fatalf("%s: %+v became %+v, that is not ok", what, p.host, x)
	}
	if !fine {
		p.t.Fatalf("%s: %+v became %+v", what, p.host, x)
	}
	p.seen[what]++
	p.host = x
}

// changed is the host, with one slot as another one.
func (p *player) changed(at int, s impl.Slot) impl.Host {
	h := p.host
	h.Slots = slices.Clone(h.Slots)
	h.Slots[at] = s
	return h
}

func (p *player) open() {
	x, id := impl.HostOpen(p.host)
	if id == -1 {
		free := slices.ContainsFunc(p.host.Slots, func(s impl.Slot) bool { return !s.Open && s.Gen < 3 })
		p.check("no slot", x, !free && sameHost(x, p.host))
		return
	}
	at := slot(x, id)
	p.check("open", x, slot(p.host, id) == -1 && !p.host.Slots[at].Open && sameHost(x, p.changed(at, impl.Slot{Open: true, Gen: p.host.Slots[at].Gen + 1})))
}

func (p *player) close() {
	id := p.id()
	x, ok := impl.HostClose(p.host, id)
	at := slot(p.host, id)
	if !ok {
		p.check("no close", x, at == -1 && sameHost(x, p.host))
		return
	}
	want := p.changed(at, impl.Slot{Gen: p.host.Slots[at].Gen})
	want.Ways = slices.DeleteFunc(slices.Clone(want.Ways), func(w impl.Way) bool { return w.Id == id })
	again, twice := impl.HostClose(x, id)
	came, comes := impl.HostCome(x, id, "")
	p.check("close", x, at >= 0 && sameHost(x, want) && !twice && !comes && sameHost(again, x) && sameHost(came, x))
}

func goals(list []impl.Way) map[int]int {
	out := map[int]int{}
	for _, w := range list {
		out[w.Key] = w.Id
	}
	return out
}

func (p *player) set() {
	id, key := p.id(), p.draw.Intn(9)-1
	x, ok := impl.HostSet(p.host, key, id)
	was := goals(p.host.Ways)
	if !ok {
		_, there := was[key]
		p.check("no set", x, sameHost(x, p.host) && (slot(p.host, id) == -1 || key < 0 || !there && len(was) == 6))
		return
	}
	is := goals(x.Ways)
	fine := is[key] == id && slot(p.host, id) >= 0
	was[key] = id
	for k, to := range was {
		fine = fine && is[k] == to
	}
	want := p.host
	want.Ways = x.Ways
	p.check("set", x, fine && len(is) == len(was) && sameHost(x, want))
}

func (p *player) come() {
	id := p.id()
	s := p.pieceTo(id)
	x, ok := impl.HostCome(p.host, id, s)
	at := slot(p.host, id)
	if !ok {
		p.check("no come", x, sameHost(x, p.host) && (at == -1 || len(p.host.Slots[at].Buf)+len(s) > 120))
		return
	}
	want := p.host.Slots[at]
	want.Buf += s
	cut := p.draw.Intn(len(s) + 1)
	two, first := impl.HostCome(p.host, id, s[:cut])
	two, second := impl.HostCome(two, id, s[cut:])
	p.check("come", x, sameHost(x, p.changed(at, want)) && first && second && sameHost(two, x))
}

func (p *player) read() {
	id := p.id()
	x, frame := impl.HostRead(p.host, id)
	at := slot(p.host, id)
	if frame == "" {
		p.check("no read", x, sameHost(x, p.host) && (at == -1 || len(p.host.Slots[at].In) == 0))
		return
	}
	want := p.host.Slots[at]
	fine := frame == want.In[0]
	want.In = want.In[1:]
	p.either(id)
	p.check("read", x, fine && sameHost(x, p.changed(at, want)))
}

// either lets bytes come to another socket ahead of a read, and behind it.
func (p *player) either(id int) {
	to, s := p.id(), p.stream(20)
	a, okA := impl.HostCome(p.host, to, s)
	a, frameA := impl.HostRead(a, id)
	b, frameB := impl.HostRead(p.host, id)
	b, okB := impl.HostCome(b, to, s)
	if !sameHost(a, b) || okA != okB || frameA != frameB {
		p.t.Fatalf("%+v: in either order %+v, %+v", p.host, a, b)
	}
}

func (p *player) work() {
	id := p.id()
	x, code := impl.HostWork(p.host, id)
	want, wantCode := p.worked(id)
	p.check([]string{"fine", "form", "none", "bad", "busy", "drop"}[code], x, code == wantCode && sameHost(x, want))
}

// worked is chapter 6's HostWork, written down a second time.
func (p *player) worked(id int) (impl.Host, int) {
	h := p.host
	at := slot(h, id)
	if at == -1 {
		return h, impl.WorkForm
	}
	buf := h.Slots[at].Buf
	frames, _, ok := impl.FrameCut(buf)
	if len(frames) == 0 && ok {
		return h, impl.WorkNone
	}
	if len(frames) == 0 {
		h, _ = impl.HostClose(h, id)
		return h, impl.WorkBad
	}
	answer := impl.RunAll(p.start(frames[0]))
	to := map[int]int{impl.VerdictKeep: id}
	if len(answer.Sent) > 0 {
		to[impl.VerdictSend] = goals(h.Ways)[answer.Sent[len(answer.Sent)-1]]
	}
	goal := slot(h, to[answer.Ret])
	if goal >= 0 && len(h.Slots[goal].In) >= 3 {
		return h, impl.WorkBusy
	}
	h.Tables = answer.Tables
	h.Slots = slices.Clone(h.Slots)
	h.Slots[at].Buf = buf[1+len(frames[0]):]
	if goal == -1 {
		h.Dropped++
		return h, impl.WorkDrop
	}
	h.Slots[goal].In = append(slices.Clone(h.Slots[goal].In), frames[0])
	return h, impl.WorkFine
}

func (p *player) start(frame string) impl.Start {
	var keys []int
	for _, w := range p.host.Ways {
		keys = append(keys, w.Key)
	}
	return impl.Start{Prog: p.host.Prog, Came: (frame + strings.Repeat("\x00", 12))[:12], Tables: p.host.Tables, Rands: []int{p.host.Rand}, Socks: keys[:min(len(keys), 4)]}
}

func (p *player) drain() {
	id := p.id()
	x, count := impl.HostDrain(p.host, id)
	h := p.host
	for range count {
		code := 0
		if h, code = impl.HostWork(h, id); code != impl.WorkFine && code != impl.WorkDrop {
			p.t.Fatalf("%+v: to drain it is %d times, but the code is %d", p.host, count, code)
		}
	}
	last, code := impl.HostWork(h, id)
	p.check("drain", x, sameHost(x, last) && code != impl.WorkFine && code != impl.WorkDrop)
}

// neverWrong runs each frame that waits.
func (p *player) neverWrong() {
	for _, s := range p.host.Slots {
		frames, _, _ := impl.FrameCut(s.Buf)
		for _, frame := range frames {
			if a := impl.RunAll(p.start(frame)); a.Trap != impl.TrapNone {
				p.t.Fatalf("%+v: of %q the trap is %d", p.host, frame, a.Trap)
			}
		}
	}
}

func (p *player) step() {
	switch p.draw.Intn(24) {
	case 0, 1:
		p.open()
	case 2:
		p.close()
	case 3, 4, 5:
		p.set()
	case 6, 7, 8, 9, 10:
		p.come()
	case 11, 12, 13:
		p.read()
	case 14:
		p.drain()
	default:
		p.work()
	}
	p.neverWrong()
}

func TestP39ToP47WhateverIsDone(t *testing.T) {
	p := &player{drawer: drawer{rand.New(rand.NewSource(22))}, t: t, seen: map[string]int{}}
	for i, list := range hostPrograms(t, 200) {
		for range 1 + 120/(i+1) {
			h, ok := impl.HostNew(list, threeTables())
			if !ok {
				t.Fatalf("%s is not let in", linesOf(list))
			}
			h.Rand = p.number()
			p.host, p.rest = h, map[int]string{}
			for range 80 {
				p.step()
			}
		}
	}
	for _, what := range []string{"open", "no slot", "close", "no close", "set", "no set", "come", "no come", "read", "no read", "drain", "fine", "form", "none", "bad", "busy", "drop"} {
		if p.seen[what] < 50 {
			t.Errorf("%s was seen %d times", what, p.seen[what])
		}
	}
}

// Frames of any bytes come to a host of any program that is let in, and what its tables then have is what the next ones find.
func TestP47AHostsProgramNeverGoesWrong(t *testing.T) {
	p := &player{drawer: drawer{rand.New(rand.NewSource(24))}, t: t}
	for _, list := range hostPrograms(t, 1500) {
		h, _ := impl.HostNew(list, threeTables())
		h.Rand = p.number()
		h, id := impl.HostOpen(h)
		for range p.draw.Intn(7) {
			h, _ = impl.HostSet(h, p.draw.Intn(12), id)
		}
		var frames []string
		for range 9 {
			frames = append(frames, p.frame())
		}
		h, came := impl.HostCome(h, id, putAll(frames)+"\x02a")
		for came && h.Slots[0].Buf != "\x02a" {
			p.host = h
			p.neverWrong()
			x, count := impl.HostDrain(h, id)
			x, frame := impl.HostRead(x, id)
			if count == 0 && frame == "" || !impl.HostOk(x) {
				t.Fatalf("%s: it does not go on: %+v", linesOf(list), x)
			}
			h = x
		}
	}
}

// What comes in pieces to a socket that keeps all is read frame by frame, each whole, once, in order.
func TestP44WholeOnceInOrder(t *testing.T) {
	d := drawer{rand.New(rand.NewSource(25))}
	for range 200 {
		h := sockets(t, "mov r0 1; exit", 2)
		var frames, read []string
		for range 20 {
			frames = append(frames, d.frame())
		}
		s := putAll(frames)
		for rounds := 0; rounds < 2000 && len(read) < len(frames); rounds++ {
			cut := d.draw.Intn(min(len(s), 30) + 1)
			if x, ok := impl.HostCome(h, 1001, s[:cut]); ok {
				h, s = x, s[cut:]
			}
			h, _ = impl.HostDrain(h, 1001)
			x, frame := impl.HostRead(h, 1001)
			if h = x; frame != "" {
				read = append(read, frame)
			}
		}
		if !slices.Equal(read, frames) || h.Slots[1].Buf != "" || len(h.Slots[1].In) > 0 {
			t.Fatalf("%q came, %q was read, %+v is left", frames, read, h.Slots)
		}
	}
}

// All numbers that are given out are others, however a host is played with.
func TestP39NumbersAreAllOthers(t *testing.T) {
	draw := rand.New(rand.NewSource(23))
	for range 300 {
		h := newHost(t, steered)
		var all []int
		for range 40 {
			x, id := impl.HostOpen(h)
			if id != -1 && slices.Contains(all, id) {
				t.Fatalf("%d was among %v", id, all)
			}
			if id != -1 {
				all = append(all, id)
			}
			h, _ = impl.HostClose(x, all[draw.Intn(len(all))])
		}
		if len(all) > 12 {
			t.Fatalf("there are more than can be: %v", all)
		}
	}
}

// roomyHost is a host all of whose lists have room behind their ends, so that what is written there is seen.
func roomyHost(h impl.Host) impl.Host {
	h.Prog = append(slices.Clone(h.Prog), impl.Ins{Op: 71}, impl.Ins{Op: 72})[:len(h.Prog)]
	tables := slices.Clone(h.Tables)
	for i, m := range tables {
		tables[i] = roomy(m)
	}
	h.Tables = append(tables, impl.Table{Kind: 73}, impl.Table{Kind: 74})[:len(tables)]
	slots := slices.Clone(h.Slots)
	for i, s := range slots {
		slots[i].In = append(slices.Clone(s.In), "seventy", "one")[:len(s.In)]
	}
	h.Slots = append(slots, impl.Slot{Gen: 75}, impl.Slot{Gen: 76})[:len(slots)]
	h.Ways = append(slices.Clone(h.Ways), impl.Way{Key: 77}, impl.Way{Key: 78})[:len(h.Ways)]
	return h
}

// roomSame holds a host and what is behind its ends against another one.
func roomSame(a impl.Host, b impl.Host) bool {
	same := sameHost(a, b) && slices.Equal(a.Prog[:len(a.Prog)+2], b.Prog[:len(b.Prog)+2]) && slices.Equal(a.Ways[:len(a.Ways)+2], b.Ways[:len(b.Ways)+2])
	for i, m := range a.Tables {
		n, was := len(m.Keys)+3, b.Tables[i]
		same = same && slices.Equal(m.Keys[:n], was.Keys[:n]) && slices.Equal(m.Vals[:n], was.Vals[:n])
	}
	for i, s := range a.Slots {
		n, was := len(s.In)+2, b.Slots[i]
		same = same && slices.Equal(s.In[:n], was.In[:n])
	}
	return same && slices.EqualFunc(a.Slots[:len(a.Slots)+2], b.Slots[:len(b.Slots)+2], sameSlot) && sameTables(a.Tables[:len(a.Tables)+2], b.Tables[:len(b.Tables)+2])
}

// spoilHost writes into all that a host has, room behind its ends included, list by list, so that each finds its own as it was left.
func spoilHost(t *testing.T, what string, h impl.Host) {
	for i := range h.Tables {
		spoil(h.Tables[i])
	}
	for i := range h.Slots {
		in := h.Slots[i].In[:cap(h.Slots[i].In)]
		for k := range in {
			if in[k] == "spoilt" {
				t.Error(what, "two lists of one answer share memory")
			}
			in[k] = "spoilt"
		}
	}
	prog, ways, slots := h.Prog[:cap(h.Prog)], h.Ways[:cap(h.Ways)], h.Slots[:cap(h.Slots)]
	for i := range prog {
		prog[i] = impl.Ins{Op: 79}
	}
	for i := range ways {
		ways[i] = impl.Way{Key: -79}
	}
	for i := range slots {
		slots[i] = impl.Slot{Gen: 79}
	}
	tables := h.Tables[:cap(h.Tables)]
	for i := range tables {
		tables[i] = impl.Table{Kind: 79}
	}
}

// doings are all that can be done to a host, each with what comes to something, and what does not.
func doings() map[string]func(h impl.Host) impl.Host {
	return map[string]func(h impl.Host) impl.Host{
		"HostOpen":     func(h impl.Host) impl.Host { h, _ = impl.HostOpen(h); return h },
		"HostClose":    func(h impl.Host) impl.Host { h, _ = impl.HostClose(h, 1); return h },
		"no HostClose": func(h impl.Host) impl.Host { h, _ = impl.HostClose(h, 2); return h },
		"HostSet":      func(h impl.Host) impl.Host { h, _ = impl.HostSet(h, 1, 1002); return h },
		"HostSet over": func(h impl.Host) impl.Host { h, _ = impl.HostSet(h, 0, 1002); return h },
		"no HostSet":   func(h impl.Host) impl.Host { h, _ = impl.HostSet(h, -1, 1); return h },
		"HostCome":     func(h impl.Host) impl.Host { h, _ = impl.HostCome(h, 1, "a"); return h },
		"no HostCome":  func(h impl.Host) impl.Host { h, _ = impl.HostCome(h, 2, "a"); return h },
		"HostWork":     func(h impl.Host) impl.Host { h, _ = impl.HostWork(h, 1); return h },
		"HostWork bad": func(h impl.Host) impl.Host { h, _ = impl.HostWork(h, 1002); return h },
		"no HostWork":  func(h impl.Host) impl.Host { h, _ = impl.HostWork(h, 3001); return h },
		"busy":         func(h impl.Host) impl.Host { h, _ = impl.HostWork(h, 2001); return h },
		"HostRead":     func(h impl.Host) impl.Host { h, _ = impl.HostRead(h, 1); return h },
		"no HostRead":  func(h impl.Host) impl.Host { h, _ = impl.HostRead(h, 2); return h },
		"HostDrain":    func(h impl.Host) impl.Host { h, _ = impl.HostDrain(h, 1); return h },
		"no HostDrain": func(h impl.Host) impl.Host { h, _ = impl.HostDrain(h, 2); return h },
		"HostNew":      func(h impl.Host) impl.Host { h, _ = impl.HostNew(h.Prog, h.Tables); return h },
	}
}

// allDoings are doings, and plays of each kind of event.
func allDoings() map[string]func(h impl.Host) impl.Host {
	out := doings()
	out["PlayAll"] = func(h impl.Host) impl.Host { h, _ = impl.PlayAll(h, eachEvent(1)); return h }
	out["PlayAll of none"] = func(h impl.Host) impl.Host { h, _ = impl.PlayAll(h, nil); return h }
	for _, id := range []int{1, 2, 1002, 3001} {
		for _, e := range append(eachEvent(id), impl.Event{}, impl.Event{Kind: 7, Id: id}) {
			out["PlayStep "+strconv.Itoa(e.Kind)+" of "+strconv.Itoa(id)] = func(h impl.Host) impl.Host { h, _ = impl.PlayStep(h, e); return h }
		}
	}
	return out
}

func TestHostsAreNewMemory(t *testing.T) {
	for _, lines := range []string{steered, counted} {
		h := busyHost(t)
		h.Prog = program(t, strings.Split(lines, "; ")...)
		h.Slots[1].Buf = "\x00"
		h.Slots[2] = impl.Slot{Open: true, Gen: 1, Buf: "\x02\x02\x05"}
		for name, do := range allDoings() {
			given, kept := roomyHost(h), roomyHost(h)
			answer, again := do(given), do(given)
			if !impl.HostOk(answer) || !sameHost(answer, again) {
				t.Error(name, "answers", answer, "and", again)
			}
			want := roomyHost(again)
			spoilHost(t, name, answer)
			if !roomSame(given, kept) {
				t.Error(name, "shares memory with what was given, or wrote there")
			}
			if !sameHost(again, want) {
				t.Error(name, "shares memory with another answer")
			}
		}
	}
}

// Lists that share memory when they are given share none when they come back.
func TestHostsOfSharedLists(t *testing.T) {
	m := impl.TableNew(impl.TableHash, 1, 2)
	m, _ = impl.TablePut(m, 3, "x")
	in := []string{"a", "b"}
	h := newHost(t, steered)
	h.Tables = []impl.Table{m, m, m}
	h.Slots = []impl.Slot{{Open: true, Gen: 1, In: in}, {Open: true, Gen: 1, In: in}, {Open: true, Gen: 1, In: in[:1]}, {}}
	x, _ := impl.HostRead(h, 1001)
	want := [][]string{{"a", "b"}, {"b"}, {"a"}, nil}
	for at, s := range x.Slots {
		if !sameList(s.In, want[at]) {
			t.Errorf("slot %d has %q", at, s.In)
		}
	}
	for name, do := range allDoings() {
		x := do(h)
		spoilHost(t, name, x)
		y := do(h)
		if len(y.Tables) != 3 {
			t.Fatal(name, y)
		}
		y.Tables[0].Keys[0] = 9
		y.Tables[1].Vals[0] = "y"
		if y.Tables[1].Keys[0] != 3 || y.Tables[2].Keys[0] != 3 || y.Tables[0].Vals[0] != "x" || y.Tables[2].Vals[0] != "x" {
			t.Error(name, "tables share memory:", y.Tables)
		}
	}
}
