package tests

import (
	"strconv"
	"strings"
	"testing"

	"loop.example/steerage/impl"
)

// sockets is a host of a program with as many open sockets as that, 1, 1001 and so on.
func sockets(t *testing.T, lines string, count int) impl.Host {
	t.Helper()
	h := newHost(t, lines)
	for range count {
		h, _ = impl.HostOpen(h)
	}
	return h
}

// wantWork works on a socket, and holds what became of it against what it was, changed.
func wantWork(t *testing.T, what string, h impl.Host, id int, code int, change func(h *impl.Host)) impl.Host {
	t.Helper()
	want := impl.Host{Prog: h.Prog, Tables: h.Tables, Ways: h.Ways, Rand: h.Rand, Dropped: h.Dropped}
	want.Slots = append(want.Slots, h.Slots...)
	change(&want)
	x, got := impl.HostWork(h, id)
	if got != code {
		t.Errorf("%s: the code is %d, not %d", what, got, code)
	}
	wantHost(t, what, x, want)
	return x
}

func asItIs(h *impl.Host) {}

func TestP43AFrameOfWhichAPartCame(t *testing.T) {
	for _, buf := range []string{"", "\x01", "\x02", "\x02\x01", "\x0c", "\x0c" + letters(11), "\x03\x00\x0d"} {
		h := sockets(t, steered, 2)
		h.Slots[0].Buf = buf
		wantWork(t, "a part", h, 1, impl.WorkNone, asItIs)
		wantWork(t, "nothing at the other one", h, 1001, impl.WorkNone, asItIs)
	}
	// Byte by byte it is a frame just where its last byte came.
	h := sockets(t, steered, 1)
	whole := impl.FramePut("\x01" + letters(11))
	for i := range len(whole) {
		h = wantWork(t, "byte "+strconv.Itoa(i), h, 1, impl.WorkNone, asItIs)
		h, _ = impl.HostCome(h, 1, whole[i:i+1])
	}
	wantWork(t, "whole", h, 1, impl.WorkFine, func(h *impl.Host) { h.Slots[0].Buf, h.Slots[0].In = "", []string{"\x01" + letters(11)} })
}

func TestP43ALengthThatCannotBe(t *testing.T) {
	for size := range 256 {
		if within(size, 1, 12) {
			continue
		}
		for _, behind := range []string{"", "a", "\x01\x01", letters(119)} {
			h := busyHost(t)
			h.Slots[1].Buf = string([]byte{byte(size)}) + behind
			wantWork(t, "length "+strconv.Itoa(size), h, 1002, impl.WorkBad, func(h *impl.Host) {
				h.Slots[1] = impl.Slot{Gen: 2}
				h.Ways = []impl.Way{{Key: 0, Id: 1}, {Key: 5, Id: 3001}, {Key: 9, Id: 1}, {Key: most32, Id: 3001}}
			})
		}
	}
}

// Frames ahead of a length that cannot be are steered first.
func TestP43ALengthThatCannotBeBehindAFrame(t *testing.T) {
	h := sockets(t, steered, 1)
	h.Slots[0].Buf = "\x01\x01\x01\x00\x0d\x01\x01"
	h = wantWork(t, "first", h, 1, impl.WorkFine, func(h *impl.Host) { h.Slots[0].Buf, h.Slots[0].In = "\x01\x00\x0d\x01\x01", []string{"\x01"} })
	h = wantWork(t, "second", h, 1, impl.WorkDrop, func(h *impl.Host) { h.Slots[0].Buf, h.Dropped = "\x0d\x01\x01", 1 })
	h = wantWork(t, "third", h, 1, impl.WorkBad, func(h *impl.Host) { h.Slots[0] = impl.Slot{Gen: 1} })
	wantWork(t, "closed", h, 1, impl.WorkForm, asItIs)
}

func TestP43Verdicts(t *testing.T) {
	for verdict := range 256 {
		h := busyHost(t)
		frame := string([]byte{byte(verdict)}) + "\x07b"
		h.Slots[0].Buf = impl.FramePut(frame) + "\x02\x01"
		code, change := impl.WorkDrop, func(h *impl.Host) { h.Dropped++ }
		switch verdict {
		case impl.VerdictKeep:
			code, change = impl.WorkFine, func(h *impl.Host) { h.Slots[0].In = []string{"one", "two", frame} }
		case impl.VerdictSend:
			code, change = impl.WorkFine, func(h *impl.Host) { h.Slots[1].In = []string{"three", frame} }
		}
		wantWork(t, "verdict "+strconv.Itoa(verdict), h, 1, code, func(h *impl.Host) {
			h.Slots[0].Buf = "\x02\x01"
			change(h)
		})
	}
	for _, ret := range []string{"256", "257", "258", "65537", "4294967295", "4294967294"} {
		h := sockets(t, "mov r1 0; call send; mov r0 "+ret+"; exit", 1)
		h.Ways = []impl.Way{{Key: 0, Id: 1}}
		h.Slots[0].Buf = "\x01a"
		wantWork(t, "ret "+ret, h, 1, impl.WorkDrop, func(h *impl.Host) { h.Slots[0].Buf, h.Dropped = "", 1 })
	}
}

func TestP43KeysThatLeadNowhere(t *testing.T) {
	for key := range 20 {
		h := busyHost(t)
		h.Slots[3].In = nil
		frame := "\x02" + string([]byte{byte(key)})
		h.Slots[1].Buf = impl.FramePut(frame)
		goal, there := map[int]int{0: 0, 5: 3, 7: 1, 9: 0}[key]
		code := impl.WorkDrop
		if there {
			code = impl.WorkFine
		}
		wantWork(t, "key "+strconv.Itoa(key), h, 1002, code, func(h *impl.Host) {
			h.Slots[1].Buf = ""
			if !there {
				h.Dropped++
				return
			}
			in := h.Slots[goal].In
			h.Slots[goal].In = append(in[:len(in):len(in)], frame)
		})
	}
	h := busyHost(t)
	h.Ways = nil
	h.Slots[0].Buf = "\x02\x02\x00"
	wantWork(t, "no ways", h, 1, impl.WorkDrop, func(h *impl.Host) { h.Slots[0].Buf, h.Dropped = "", 5 })
}

func TestP43TheLastOfWhatWasSent(t *testing.T) {
	both := "mov r1 5; call send; mov r1 7; call send; mov r0 "
	for lines, goal := range map[string]int{
		both + "2; exit":                      1,
		both + "1; exit":                      0,
		both + "0; exit":                      -1,
		"mov r0 2; exit":                      -1,
		"mov r1 7; call send; mov r0 2; exit": 1,
		"mov r1 8; call send; mov r0 2; exit": -1,
		"mov r1 7; call send; mov r1 8; call send; mov r0 2; exit":          -1,
		"mov r1 8; call send; mov r1 4294967295; call send; mov r0 2; exit": 2,
	} {
		h := sockets(t, lines, 3)
		h.Ways = []impl.Way{{Key: 5, Id: 2001}, {Key: 7, Id: 1001}, {Key: most32, Id: 2001}}
		h.Slots[0].Buf = "\x03abc\x01d"
		code := impl.WorkDrop
		if goal >= 0 {
			code = impl.WorkFine
		}
		wantWork(t, lines, h, 1, code, func(h *impl.Host) {
			h.Slots[0].Buf = "\x01d"
			if goal < 0 {
				h.Dropped = 1
				return
			}
			h.Slots[goal].In = []string{"abc"}
		})
	}
}

// A socket may send to itself by a key, and then its queue is the one that must have room.
func TestP43ASocketThatSendsToItself(t *testing.T) {
	h := sockets(t, steered, 1)
	h.Ways = []impl.Way{{Key: 7, Id: 1}}
	h.Slots[0].Buf = strings.Repeat("\x02\x02\x07", 4)
	for n := range impl.QueueMax {
		h = wantWork(t, "to itself", h, 1, impl.WorkFine, func(h *impl.Host) {
			h.Slots[0].Buf = strings.Repeat("\x02\x02\x07", 3-n)
			h.Slots[0].In = append(h.Slots[0].In[:n:n], "\x02\x07")
		})
	}
	wantWork(t, "to itself, full", h, 1, impl.WorkBusy, asItIs)
}

func TestP43NoRoomWhereItIsToGo(t *testing.T) {
	h := busyHost(t)
	for _, frame := range []string{"\x02\x05", "\x02\x05abc"} {
		h.Slots[0].Buf = impl.FramePut(frame) + "\x01\x01"
		wantWork(t, "full elsewhere", h, 1, impl.WorkBusy, asItIs)
	}
	h.Slots[3].Buf = "\x01\x01"
	wantWork(t, "full here", h, 3001, impl.WorkBusy, asItIs)
	// Who is full himself may send elsewhere, and drop.
	h.Slots[3].Buf = "\x02\x02\x07"
	wantWork(t, "full here, sent elsewhere", h, 3001, impl.WorkFine, func(h *impl.Host) {
		h.Slots[3].Buf, h.Slots[1].In = "", []string{"three", "\x02\x07"}
	})
	h.Slots[3].Buf = "\x01\x00\x01\x01"
	x := wantWork(t, "full here, dropped", h, 3001, impl.WorkDrop, func(h *impl.Host) { h.Slots[3].Buf, h.Dropped = "\x01\x01", 5 })
	x = wantWork(t, "and kept, full", x, 3001, impl.WorkBusy, asItIs)
	x, _ = impl.HostRead(x, 3001)
	wantWork(t, "once there is room", x, 3001, impl.WorkFine, func(h *impl.Host) { h.Slots[3].Buf, h.Slots[3].In = "", []string{"y", "z", "\x01"} })
}

// counted counts frames in a row, ahead of what becomes of them.
const counted = "mov r9 r1; mov r1 0; mov r2 1; call look; same r0 0 3; load4 r6 r0 0; add r6 1; store4 r0 0 r6; load1 r1 r9 1; call send; load1 r0 r9 0; exit"

func TestP43Tables(t *testing.T) {
	with := func(h *impl.Host, first string) {
		h.Tables = threeTables()
		h.Tables[0].Vals[1] = first + "\x12\x13\x14"
	}
	h := sockets(t, counted, 1)
	h.Slots[0].Buf = "\x01\x01\x01\x00\x02\x02\x09\x01\x01\x01\x01\x01\x01"
	h = wantWork(t, "kept", h, 1, impl.WorkFine, func(h *impl.Host) {
		h.Slots[0].Buf, h.Slots[0].In = h.Slots[0].Buf[2:], []string{"\x01"}
		with(h, "\x12")
	})
	h = wantWork(t, "dropped", h, 1, impl.WorkDrop, func(h *impl.Host) { h.Slots[0].Buf, h.Dropped = h.Slots[0].Buf[2:], 1; with(h, "\x13") })
	h = wantWork(t, "sent to nobody", h, 1, impl.WorkDrop, func(h *impl.Host) { h.Slots[0].Buf, h.Dropped = h.Slots[0].Buf[3:], 2; with(h, "\x14") })
	h, count := impl.HostDrain(h, 1)
	if count != 2 || h.Tables[0].Vals[1] != "\x16\x12\x13\x14" {
		t.Errorf("%d frames were steered, and %q stands there", count, h.Tables[0].Vals)
	}
	// Where there is no room nothing was done: it is not counted.
	wantWork(t, "full", h, 1, impl.WorkBusy, asItIs)
	h, _ = impl.HostRead(h, 1)
	h = wantWork(t, "once there is room", h, 1, impl.WorkFine, func(h *impl.Host) {
		h.Slots[0].Buf, h.Slots[0].In = "", []string{"\x01", "\x01", "\x01"}
		with(h, "\x17")
	})
	// And so it is where no whole frame came, or a length cannot be.
	wantWork(t, "nothing came", h, 1, impl.WorkNone, asItIs)
	h, _ = impl.HostCome(h, 1, "\x00")
	wantWork(t, "what cannot be", h, 1, impl.WorkBad, func(h *impl.Host) { h.Slots[0] = impl.Slot{Gen: 1} })
}

// Behind a frame there are bytes 0, not what comes behind it.
func TestP43BytesZeroBehindAFrame(t *testing.T) {
	for at := range impl.CameMax {
		h := sockets(t, "load1 r6 r1 "+strconv.Itoa(at)+"; mov r0 1; same r6 0 1; mov r0 0; exit", 1)
		for size := 1; size <= impl.CameMax; size++ {
			h.Slots[0].Buf = impl.FramePut(letters(size)) + "\x05abcde\x05fghij\x02"
			_, code := impl.HostWork(h, 1)
			want := impl.WorkFine
			if at < size {
				want = impl.WorkDrop
			}
			if code != want {
				t.Errorf("byte %d of a frame of %d: the code is %d, not %d", at, size, code, want)
			}
		}
	}
}

// A program finds just the first SocksMax keys, but may send by all.
func TestP43TheFirstKeysAreFound(t *testing.T) {
	const lines = "mov r9 r1; load1 r1 r9 0; call find; mov r6 0; same r0 0 3; mov r1 r0; call drop; mov r6 2; load1 r1 r9 1; call send; mov r0 r6; exit"
	h := sockets(t, lines, 2)
	for i, key := range []int{2, 3, 5, 8, 9, 11} {
		h.Ways = append(h.Ways, impl.Way{Key: key, Id: i%2*1000 + 1})
	}
	for count := range impl.WaysMax + 1 {
		x := h
		x.Ways = h.Ways[:count]
		for key := range 14 {
			for _, by := range []int{2, 11} {
				x.Slots[0].Buf = impl.FramePut(string([]byte{byte(key), byte(by)}))
				out, code := impl.HostWork(x, 1)
				found, leads := false, false
				for i, w := range x.Ways {
					found = found || w.Key == key && i < 4
					leads = leads || w.Key == by
				}
				if fine := found && leads; fine && code != impl.WorkFine || !fine && code != impl.WorkDrop || !impl.HostOk(out) {
					t.Errorf("%d ways, key %d, by %d: the code is %d", count, key, by, code)
				}
			}
		}
	}
}

func TestP43TheNumberThatIsDrawn(t *testing.T) {
	for n, code := range map[int]int{0: impl.WorkDrop, 1: impl.WorkFine, 2: impl.WorkFine, 3: impl.WorkDrop, most32: impl.WorkDrop} {
		for _, lines := range []string{"call rand; exit", "call rand; call rand; exit", "call rand; call rand; call rand; exit"} {
			h := sockets(t, "mov r1 7; call send; "+lines, 2)
			h.Ways = []impl.Way{{Key: 7, Id: 1001}}
			h.Rand = n
			h.Slots[0].Buf = "\x01a\x01b"
			for i, frame := range []string{"a", "b"} {
				h = wantWork(t, "drawn "+strconv.Itoa(n), h, 1, code, func(h *impl.Host) {
					h.Slots[0].Buf = h.Slots[0].Buf[2:]
					if code == impl.WorkDrop {
						h.Dropped = i + 1
						return
					}
					h.Slots[n-1].In = append(h.Slots[n-1].In[:i:i], frame)
				})
			}
		}
	}
}

func wantDrain(t *testing.T, what string, h impl.Host, id int, count int) impl.Host {
	t.Helper()
	x, n := impl.HostDrain(h, id)
	if n != count {
		t.Errorf("%s: %d were steered, not %d", what, n, count)
	}
	for range count {
		code := 0
		if h, code = impl.HostWork(h, id); code != impl.WorkFine && code != impl.WorkDrop {
			t.Errorf("%s: one by one the code is %d", what, code)
		}
	}
	last, code := impl.HostWork(h, id)
	if code == impl.WorkFine || code == impl.WorkDrop {
		t.Errorf("%s: one more can be steered, %d", what, code)
	}
	wantHost(t, what, x, last)
	return x
}

func TestP45ToDrainIsToWork(t *testing.T) {
	h := sockets(t, counted, 2)
	h.Ways = []impl.Way{{Key: 7, Id: 1001}}
	for buf, want := range map[string]int{
		"":                                0,
		"\x01":                            0,
		"\x00":                            0,
		"\x0d\x01\x01":                    0,
		"\x01\x01":                        1,
		"\x01\x01\x00":                    1,
		"\x01\x01\x02\x01":                1,
		"\x01\x00\x01\x03\x02\x02\x07":    3,
		strings.Repeat("\x01\x00", 60):    60,
		strings.Repeat("\x01\x01", 60):    3,
		strings.Repeat("\x02\x02\x07", 3): 3,
		strings.Repeat("\x02\x02\x07", 4): 3,
		strings.Repeat("\x02\x02\x07", 3) + "\x01\x01": 4,
		strings.Repeat("\x02\x02\x07", 4) + "\x01\x01": 3,
		strings.Repeat("\x02\x02\x08", 40):             40,
	} {
		h.Slots[0].Buf = buf
		wantDrain(t, strconv.Quote(buf), h, 1, want)
	}
	h.Slots[0].Buf = "\x01\x01\x01\x00\x0d"
	x := wantDrain(t, "what cannot be", h, 1, 2)
	if x.Slots[0].Open || x.Dropped != 1 {
		t.Error("what it did last does not count:", x)
	}
	wantDrain(t, "closed", x, 1, 0)
}

// A key that led to a socket that was closed leads nowhere, not to the next one of that slot.
func TestAClosedSocketIsNotTheNextOne(t *testing.T) {
	h := sockets(t, steered, 2)
	h, _ = impl.HostSet(h, 7, 1001)
	h, _ = impl.HostCome(h, 1, strings.Repeat("\x02\x02\x07", 2))
	h, _ = impl.HostCome(h, 1001, "\x01\x01\x05part")
	h, _ = impl.HostDrain(h, 1001)
	h, _ = impl.HostClose(h, 1001)
	h, id := impl.HostOpen(h)
	if id != 1002 || !sameSlot(h.Slots[1], impl.Slot{Open: true, Gen: 2}) {
		t.Fatal(id, h.Slots)
	}
	h = wantWork(t, "to one that is closed", h, 1, impl.WorkDrop, func(h *impl.Host) { h.Slots[0].Buf, h.Dropped = "\x02\x02\x07", 1 })
	h, _ = impl.HostSet(h, 7, 1002)
	wantWork(t, "set anew", h, 1, impl.WorkFine, func(h *impl.Host) { h.Slots[0].Buf, h.Slots[1].In = "", []string{"\x02\x07"} })
}
