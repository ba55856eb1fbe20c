package tests

import (
	"reflect"
	"slices"
	"strconv"
	"strings"
	"testing"

	"loop.example/steerage/impl"
)

func opened() impl.Event {
	return impl.Event{Kind: impl.EventOpen}
}

func closed(id int) impl.Event {
	return impl.Event{Kind: impl.EventClose, Id: id}
}

func set(key int, id int) impl.Event {
	return impl.Event{Kind: impl.EventSet, Key: key, Id: id}
}

func come(id int, s string) impl.Event {
	return impl.Event{Kind: impl.EventCome, Id: id, Text: s}
}

func work(id int) impl.Event {
	return impl.Event{Kind: impl.EventWork, Id: id}
}

func read(id int) impl.Event {
	return impl.Event{Kind: impl.EventRead, Id: id}
}

// eachEvent is one of each kind that there is, closing last.
func eachEvent(id int) []impl.Event {
	return []impl.Event{opened(), set(1, id), come(id, "a"), work(id), read(id), closed(id)}
}

// played is an event, as one of the host's own functions does it.
func played(h impl.Host, e impl.Event) (impl.Host, string) {
	switch e.Kind {
	case 1:
		x, id := impl.HostOpen(h)
		if id == -1 {
			return x, "no"
		}
		return x, strconv.Itoa(id)
	case 2:
		x, ok := impl.HostClose(h, e.Id)
		return x, okIf(ok)
	case 3:
		x, ok := impl.HostSet(h, e.Key, e.Id)
		return x, okIf(ok)
	case 4:
		x, ok := impl.HostCome(h, e.Id, e.Text)
		return x, okIf(ok)
	case 5:
		x, code := impl.HostWork(h, e.Id)
		return x, strconv.Itoa(code)
	case 6:
		return impl.HostRead(h, e.Id)
	}
	return h, "no"
}

func TestEventKindsAndLimit(t *testing.T) {
	got := []int{impl.EventOpen, impl.EventClose, impl.EventSet, impl.EventCome, impl.EventWork, impl.EventRead, impl.PlayMax}
	if want := []int{1, 2, 3, 4, 5, 6, 40}; !reflect.DeepEqual(got, want) {
		t.Errorf("kinds and the limit are %v, not %v", got, want)
	}
}

type playCase struct {
	event  impl.Event
	answer string
}

// wantPlay holds a play against what each of its events is answered.
func wantPlay(t *testing.T, what string, h impl.Host, cases ...playCase) impl.Host {
	t.Helper()
	var list []impl.Event
	var want []string
	step := h
	for _, c := range cases {
		x, answer := impl.PlayStep(step, c.event)
		if wantX, _ := played(step, c.event); answer != c.answer || !sameHost(x, wantX) || !impl.HostOk(x) {
			t.Errorf("%s: %+v of %+v is answered %q, not %q, and is %+v", what, c.event, step, answer, c.answer, x)
		}
		step = x
		list, want = append(list, c.event), append(want, c.answer)
	}
	all, answers := impl.PlayAll(h, list)
	if !sameList(answers, want) || !sameHost(all, step) {
		t.Errorf("%s: %q, not %q; %+v, not %+v", what, answers, want, all, step)
	}
	return step
}

func TestPlayEachKind(t *testing.T) {
	h := wantPlay(t, "sockets", newHost(t, steered),
		playCase{opened(), "1"}, playCase{opened(), "1001"}, playCase{opened(), "2001"}, playCase{opened(), "3001"}, playCase{opened(), "no"},
		playCase{closed(1001), "ok"}, playCase{closed(1001), "no"}, playCase{opened(), "1002"}, playCase{closed(-1), "no"}, playCase{closed(0), "no"},
	)
	h = wantPlay(t, "ways", h,
		playCase{set(7, 1), "ok"}, playCase{set(7, 1002), "ok"}, playCase{set(0, 2001), "ok"}, playCase{set(most32, 3001), "ok"}, playCase{set(most32+1, 1), "no"}, playCase{set(-1, 1), "no"},
		playCase{set(1, 7), "no"}, playCase{set(8, 1001), "no"}, playCase{set(1, 1), "ok"}, playCase{set(2, 1), "ok"}, playCase{set(3, 1), "ok"}, playCase{set(4, 1), "no"}, playCase{set(3, 1002), "ok"},
	)
	h = wantPlay(t, "frames", h,
		playCase{work(1), "2"}, playCase{come(1, "\x03\x02\x07a\x02\x01"), "ok"}, playCase{come(1001, "\x01"), "no"}, playCase{come(1, ""), "ok"}, playCase{work(1), "0"}, playCase{work(1), "2"}, playCase{work(2), "1"}, playCase{work(-5), "1"},
		playCase{come(1, "b\x01\x00"), "ok"}, playCase{work(1), "0"}, playCase{work(1), "5"}, playCase{read(1002), "\x02\x07a"}, playCase{read(1002), ""}, playCase{read(1), "\x01b"}, playCase{read(1), ""}, playCase{read(5), ""}, playCase{read(1001), ""},
	)
	wantPlay(t, "a length that cannot be", h, playCase{come(2001, "\x00a"), "ok"}, playCase{work(2001), "3"}, playCase{work(2001), "1"}, playCase{come(2001, "a"), "no"}, playCase{set(9, 2001), "no"})
	wantPlay(t, "as many as wait", h,
		playCase{come(1, strings.Repeat("\x01\x01", 60)), "ok"}, playCase{come(1, "a"), "no"}, playCase{come(1, ""), "ok"}, playCase{work(1), "0"}, playCase{come(1, "abc"), "no"}, playCase{come(1, "\x01\x01"), "ok"},
		playCase{work(1), "0"}, playCase{work(1), "0"}, playCase{work(1), "4"}, playCase{read(1), "\x01"}, playCase{work(1), "0"}, playCase{work(1), "4"},
	)
}

// A frame may say what an answer says.
func TestPlayAFrameThatSaysNo(t *testing.T) {
	h := newHost(t, keeping)
	h.Slots[0] = impl.Slot{Open: true, Gen: 1, In: []string{"no", "ok", "0"}}
	h = wantPlay(t, "frames", h, playCase{read(1), "no"}, playCase{read(1), "ok"}, playCase{read(1), "0"}, playCase{read(1), ""})
	if len(h.Slots[0].In) != 0 {
		t.Errorf("they are still there: %+v", h)
	}
}

// Parts that are not of an event's kind do not matter.
func TestPlayPartsOfOtherKinds(t *testing.T) {
	h := busyHost(t)
	for _, e := range eachEvent(1) {
		f := e
		switch e.Kind {
		case impl.EventOpen:
			f.Id, f.Key, f.Text = -1, -1, "a"
		case impl.EventSet:
			f.Text = "a"
		case impl.EventCome:
			f.Key = -1
		default:
			f.Key, f.Text = -1, letters(200)
		}
		x, a := impl.PlayStep(h, e)
		if y, b := impl.PlayStep(h, f); !sameHost(x, y) || a != b {
			t.Errorf("%+v is %q, %+v is %q", e, a, f, b)
		}
	}
}

func TestPlayKindsThatThereAreNot(t *testing.T) {
	for _, kind := range []int{-1 << 63, -6, -1, 0, 7, 8, 9, 257, 1 << 32, 1<<32 + 1, 1<<63 - 1} {
		for _, h := range []impl.Host{busyHost(t), newHost(t, keeping)} {
			e := impl.Event{Kind: kind, Id: 1, Key: 1, Text: "\x01a"}
			x, answer := impl.PlayStep(h, e)
			if answer != "no" || !sameHost(x, h) {
				t.Errorf("kind %d: %q, %+v", kind, answer, x)
			}
			x, answers := impl.PlayAll(h, []impl.Event{e, e})
			if !sameList(answers, []string{"no", "no"}) || !sameHost(x, h) {
				t.Errorf("kind %d: %q, %+v", kind, answers, x)
			}
			if frames := impl.PlayRead(h, []impl.Event{e}, 1); len(frames) > 0 {
				t.Errorf("kind %d: %q", kind, frames)
			}
		}
	}
}

func TestPlaysOfHostsThatAreNotOk(t *testing.T) {
	for name, h := range wrongHosts(t) {
		for _, id := range []int{1, 1002, 3001, -1} {
			list := append(eachEvent(id), impl.Event{}, impl.Event{Kind: 7, Id: id}, read(id), read(id))
			for _, e := range list {
				x, answer := impl.PlayStep(h, e)
				checkNothing(t, name+": PlayStep", x, answer == "")
			}
			x, answers := impl.PlayAll(h, list)
			checkNothing(t, name+": PlayAll", x, len(answers) == 0)
			if frames := impl.PlayRead(h, list, id); len(frames) > 0 {
				t.Errorf("%s: PlayRead %q", name, frames)
			}
		}
		x, answers := impl.PlayAll(h, nil)
		checkNothing(t, name+": PlayAll of none", x, len(answers) == 0)
	}
}

func TestPlayOfNoEvents(t *testing.T) {
	for _, list := range [][]impl.Event{nil, {}} {
		x, answers := impl.PlayAll(busyHost(t), list)
		wantHost(t, "no events", x, busyHost(t))
		if frames := impl.PlayRead(busyHost(t), list, 1); len(answers)+len(frames) > 0 {
			t.Error(answers, frames)
		}
	}
}

func TestPlayAsManyAsCanBe(t *testing.T) {
	list := []impl.Event{opened()}
	for range 19 {
		list = append(list, come(1, "\x01x"), work(1))
	}
	for _, behind := range [][]impl.Event{{read(1)}, {read(1), read(1)}, {read(1), closed(1), opened(), read(1)}, {read(1), {}, come(1, "\x00")}} {
		x, answers := impl.PlayAll(newHost(t, keeping), slices.Concat(list, behind))
		if len(answers) != impl.PlayMax || answers[39] != "x" || len(x.Slots[0].In) != 2 || x.Slots[0].Gen != 1 || !x.Slots[0].Open || len(x.Slots[0].Buf) != 2*16 {
			t.Errorf("%d behind: %q, %+v", len(behind), answers, x)
		}
		if frames := impl.PlayRead(newHost(t, keeping), slices.Concat(list, behind), 1); !sameList(frames, []string{"x"}) {
			t.Errorf("%d behind: %q", len(behind), frames)
		}
	}
	if _, answers := impl.PlayAll(newHost(t, keeping), slices.Repeat(list, 1000)); len(answers) != impl.PlayMax {
		t.Error("of many there are", len(answers))
	}
	if _, answers := impl.PlayAll(newHost(t, keeping), list); len(answers) != impl.PlayMax-1 {
		t.Error("of one less there are", len(answers))
	}
}

func wantRead(t *testing.T, what string, h impl.Host, id int, want []string, list ...impl.Event) {
	t.Helper()
	if got := impl.PlayRead(h, list, id); !sameList(got, want) {
		t.Errorf("%s: of socket %d there are %q, not %q", what, id, got, want)
	}
}

// Frames that were there ahead are read first.
func TestPlayReadWhatWasThereAhead(t *testing.T) {
	h := busyHost(t)
	wantRead(t, "ahead", h, 1, []string{"one"}, read(1))
	wantRead(t, "ahead", h, 1, []string{"one", "two"}, read(1), read(1), read(1))
	wantRead(t, "ahead", h, 1002, []string{"three"}, read(1), read(1002), read(1), read(1002))
	wantRead(t, "ahead", h, 3001, []string{"x", "y", "z"}, read(3001), read(3001), read(3001), read(3001))
	wantRead(t, "ahead of what comes", h, 1, []string{"one", "two", "\x01a"}, work(1), read(1), read(1), read(1), read(1))
	wantRead(t, "ahead of what is sent", h, 1002, []string{"three", "\x02\x07b"}, work(1), read(1002), work(1), read(1002), read(1002))
	wantRead(t, "what had come ahead", h, 1002, []string{"three", "\x01cdef"}, come(1002, "\x01cdef\x03"), read(1002), work(1002), read(1002), read(1002))
}

func TestPlayRead(t *testing.T) {
	h := newHost(t, steered)
	wantRead(t, "nothing came", h, 1, nil, opened(), read(1), read(1))
	wantRead(t, "never read", h, 1, nil, opened(), come(1, "\x01\x01"), work(1), work(1))
	wantRead(t, "read too soon", h, 1, nil, read(1), opened(), read(1), come(1, "\x01\x01"), read(1), work(1))
	wantRead(t, "in between nothing", h, 1, []string{"\x01a", "\x01b"}, opened(), read(1), come(1, "\x02\x01a\x02\x01b"), work(1), read(1), read(1), work(1), read(1), read(1))
	two := []impl.Event{opened(), opened(), set(7, 1001), come(1, "\x02\x01a\x03\x02\x07b\x02\x00c\x02\x01d"), work(1), work(1), work(1), work(1), read(1), read(1001), read(1), read(1001), read(1)}
	wantRead(t, "two sockets", h, 1, []string{"\x01a", "\x01d"}, two...)
	wantRead(t, "two sockets", h, 1001, []string{"\x02\x07b"}, two...)
	wantRead(t, "two sockets", h, 2001, nil, two...)
	wantRead(t, "two sockets", h, 0, nil, two...)
	again := []impl.Event{opened(), come(1, "\x01\x01"), work(1), read(1), closed(1), opened(), come(2, "\x02\x01b"), work(2), read(1), read(2), closed(2), opened(), read(3), read(2)}
	wantRead(t, "a socket that was", h, 1, []string{"\x01"}, again...)
	wantRead(t, "a socket behind it", h, 2, []string{"\x01b"}, again...)
	wantRead(t, "the last one", h, 3, nil, again...)
	wantRead(t, "closed ahead of its frames", h, 1, nil, opened(), come(1, "\x01\x01"), work(1), closed(1), read(1), opened(), read(2), read(1))
}

func TestPlaysAreNewMemory(t *testing.T) {
	h := busyHost(t)
	events := []impl.Event{read(1), read(1), set(1, 1), read(3001), read(1002)}
	given := append(slices.Clone(events), impl.Event{Kind: 71}, impl.Event{Kind: 72})[:len(events)]
	_, answers := impl.PlayAll(h, given)
	frames := impl.PlayRead(h, given, 1)
	_, answersAgain := impl.PlayAll(h, given)
	framesAgain := impl.PlayRead(h, given, 1)
	for i := range answers[:cap(answers)] {
		answers[:cap(answers)][i] = "spoilt"
	}
	for i := range frames[:cap(frames)] {
		frames[:cap(frames)][i] = "spoilt"
	}
	if !sameList(answersAgain, []string{"one", "two", "ok", "x", "three"}) || !sameList(framesAgain, []string{"one", "two"}) {
		t.Error("answers share memory:", answersAgain, framesAgain)
	}
	if !slices.Equal(given[:7], append(slices.Clone(events), impl.Event{Kind: 71}, impl.Event{Kind: 72})) || !sameHost(h, busyHost(t)) {
		t.Error("what was given was written into:", given[:7], h)
	}
}
