package tests

import (
	"math/rand"
	"slices"
	"testing"

	"loop.example/steerage/impl"
)

// actor draws events: what comes to a socket are frames, cut in pieces, most often.
type actor struct {
	drawer
	rest map[int]string
}

func newActor(seed int64) *actor {
	return &actor{drawer: drawer{rand.New(rand.NewSource(seed))}, rest: map[int]string{}}
}

func (a *actor) id() int {
	if a.draw.Intn(12) == 0 {
		return a.draw.Intn(5)*1000 + a.draw.Intn(5) - 1
	}
	return []int{1, 1, 1, 1, 1001, 1001, 1001, 2}[a.draw.Intn(8)]
}

func (a *actor) piece(id int) string {
	if a.draw.Intn(40) == 0 {
		return a.stream(40)
	}
	s := a.rest[id]
	for range 2 + a.draw.Intn(3) {
		s += impl.FramePut(a.frame())
	}
	cut := a.draw.Intn(len(s) + 1)
	a.rest[id] = s[cut:]
	return s[:cut]
}

func (a *actor) event() impl.Event {
	e := impl.Event{Id: a.id(), Key: a.draw.Intn(10) - 1}
	switch a.draw.Intn(28) {
	case 0:
		e.Kind = impl.EventOpen
	case 1:
		e.Kind = []int{impl.EventClose, impl.EventClose, -1, 0, 7, 1 << 40}[a.draw.Intn(6)]
	case 2, 3, 4:
		e.Kind = impl.EventSet
	case 5, 6, 7, 8, 9:
		e.Kind, e.Text = impl.EventCome, a.piece(e.Id)
	case 10, 11, 12, 13, 14, 15, 16, 17:
		e.Kind = impl.EventRead
	default:
		e.Kind = impl.EventWork
	}
	return e
}

func (a *actor) events(count int) []impl.Event {
	clear(a.rest)
	list := []impl.Event{opened(), opened()}
	for len(list) < count {
		list = append(list, a.event())
	}
	return list[:count]
}

// hosts are such as keep, drop, send, count, and go by rules, new ones and one at which things were done already.
func (a *actor) hosts(t *testing.T) []impl.Host {
	out := []impl.Host{busyHost(t)}
	for _, list := range hostPrograms(t, 10) {
		h, _ := impl.HostNew(list, threeTables())
		h.Rand = a.number()
		out = append(out, h)
	}
	for range 10 {
		h, ok := impl.HostNew(impl.RulesProg(a.rules()), threeTables()[:a.draw.Intn(4)])
		if !ok {
			t.Fatal("rules are not let in")
		}
		out = append(out, h)
	}
	return out
}

func TestP60WhateverIsDoneItIsOk(t *testing.T) {
	a := newActor(60)
	seen := map[int]map[string]int{}
	for range 8 {
		for _, h := range a.hosts(t) {
			for _, e := range a.events(60) {
				x, answer := impl.PlayStep(h, e)
				want, wantAnswer := played(h, e)
				if !impl.HostOk(x) || answer != wantAnswer || !sameHost(x, want) {
					t.Fatalf("%+v of %+v is answered %q, not %q, and is %+v, not %+v", e, h, answer, wantAnswer, x, want)
				}
				if answer == "no" && e.Kind != impl.EventRead && !sameHost(x, h) {
					t.Fatalf("%+v of %+v is answered no, but is %+v", e, h, x)
				}
				if seen[e.Kind] == nil {
					seen[e.Kind] = map[string]int{}
				}
				if e.Kind == impl.EventRead && answer != "" {
					answer = "a frame"
				}
				seen[e.Kind][answer]++
				h = x
			}
		}
	}
	for kind, answers := range map[int][]string{
		1: {"1", "1001", "2001", "no"}, 2: {"ok", "no"}, 3: {"ok", "no"}, 4: {"ok", "no"}, 5: {"0", "1", "2", "3", "4", "5"}, 6: {"", "a frame"}, 0: {"no"}, 7: {"no"}, -1: {"no"}, 1 << 40: {"no"},
	} {
		for _, answer := range answers {
			if seen[kind][answer] < 10 {
				t.Errorf("kind %d was answered %q %d times", kind, answer, seen[kind][answer])
			}
		}
	}
}

func TestP61EventsArePlayedOneByOne(t *testing.T) {
	a := newActor(61)
	for range 4 {
		for _, h := range a.hosts(t) {
			list := a.events(35 + a.draw.Intn(10))
			whole, answers := impl.PlayAll(h, list)
			list = list[:min(len(list), 40)]
			step, want := h, []string(nil)
			for _, e := range list {
				x, answer := impl.PlayStep(step, e)
				step, want = x, append(want, answer)
			}
			if !sameHost(whole, step) || !slices.Equal(answers, want) || !impl.HostOk(whole) {
				t.Fatalf("%+v of %+v: %q, not %q", list, h, answers, want)
			}
			cut := a.draw.Intn(len(list) + 1)
			x, first := impl.PlayAll(h, list[:cut])
			y, second := impl.PlayAll(x, list[cut:])
			if !sameHost(y, whole) || !sameList(slices.Concat(first, second), answers) || !impl.HostOk(x) || len(first) != cut {
				t.Fatalf("%+v of %+v, cut at %d: %q and %q, not %q", list, h, cut, first, second, answers)
			}
		}
	}
}

// streams are all bytes that were of a socket, and came to it while it was played.
func streams(h impl.Host, list []impl.Event) map[int]string {
	out := map[int]string{}
	for at, s := range h.Slots {
		out[at*1000+s.Gen] = s.Buf
	}
	for _, e := range list[:min(len(list), 40)] {
		x, answer := impl.PlayStep(h, e)
		if h = x; e.Kind == impl.EventCome && answer == "ok" {
			out[e.Id] += e.Text
		}
	}
	return out
}

// framesOf cuts bytes up, however many there are, as far as that can be.
func framesOf(s string) []string {
	var out []string
	for s != "" && within(int(s[0]), 1, 12) && len(s) > int(s[0]) {
		out = append(out, s[1:1+int(s[0])])
		s = s[1+int(s[0]):]
	}
	return out
}

// readIds are all sockets that are asked for frames, and one that is not.
func readIds(list []impl.Event) []int {
	out := []int{5}
	for _, e := range list {
		if e.Kind == impl.EventRead && !slices.Contains(out, e.Id) {
			out = append(out, e.Id)
		}
	}
	return out
}

func TestP62WhatIsReadIsWhatCame(t *testing.T) {
	a := newActor(62)
	reads := 0
	for range 40 {
		for _, h := range a.hosts(t) {
			list := a.events(30 + a.draw.Intn(15))
			left := map[string]int{}
			for _, s := range h.Slots {
				for _, frame := range s.In {
					left[frame]++
				}
			}
			for _, s := range streams(h, list) {
				for _, frame := range framesOf(s) {
					left[frame]++
				}
			}
			_, answers := impl.PlayAll(h, list)
			for _, id := range readIds(list) {
				var want []string
				for i, answer := range answers {
					if list[i].Kind == 6 && list[i].Id == id && answer != "" {
						want = append(want, answer)
					}
				}
				frames := impl.PlayRead(h, list, id)
				if !sameList(frames, want) {
					t.Fatalf("%+v of %+v: of %d there are %q, not %q", list, h, id, frames, want)
				}
				for _, frame := range frames {
					if left[frame]--; left[frame] < 0 || frame == "" {
						t.Fatalf("%+v of %+v: %q of %d did not come, or not so often", list, h, frame, id)
					}
					reads++
				}
			}
		}
	}
	if reads < 500 {
		t.Error("there were too few frames:", reads)
	}
}

func TestP63FramesAreReadInTheOrderInWhichTheyCame(t *testing.T) {
	a := newActor(63)
	some, most := 0, 0
	for range 600 {
		for _, h := range []impl.Host{newHost(t, keeping), newHost(t, "mov r1 7; call send; mov r0 1; exit")} {
			list := a.events(40)
			frames := impl.PlayRead(h, list, 1)
			came := framesOf(streams(h, list)[1])
			if len(frames) > len(came) || !sameList(frames, came[:len(frames)]) {
				t.Fatalf("%+v: %q came, %q was read", list, came, frames)
			}
			if len(frames) > 0 {
				some++
			}
			most = max(most, len(frames))
		}
	}
	if some < 300 || most < 4 {
		t.Error("there were too few frames:", some, most)
	}
}

// Of a host of no rules all frames are kept, whatever they are.
func TestP63OfNoRules(t *testing.T) {
	a := newActor(64)
	h, ok := impl.HostNew(impl.RulesProg(nil), nil)
	if !ok {
		t.Fatal("no rules are not let in")
	}
	for range 200 {
		frames := []string{a.frame(), a.frame(), a.frame(), a.frame(), a.frame()}
		s := putAll(frames)
		list := []impl.Event{opened()}
		for len(list) < 30 {
			cut := a.draw.Intn(min(len(s), 12) + 1)
			list = append(list, come(1, s[:cut]), work(1), read(1))
			s = s[cut:]
		}
		list = append(list, come(1, s), work(1), read(1), work(1), read(1), work(1), read(1))
		got := impl.PlayRead(h, list, 1)
		if len(got) > len(frames) || !slices.Equal(got, frames[:len(got)]) || len(got) < 3 {
			t.Fatalf("%q came, %q was read of %+v", frames, got, list)
		}
	}
}
