package tests

import (
	"math/rand"
	"strings"
	"testing"

	"loop.example/steerage/impl"
)

// letters is a text of which no two bytes that stand near each other are alike.
func letters(size int) string {
	return strings.Repeat("abcdefghijklmnopqrstuvwxyz", size/26+1)[:size]
}

func TestFramePut(t *testing.T) {
	for size := 0; size <= 300; size++ {
		want := ""
		if within(size, 1, 12) {
			want = string(rune(size)) + letters(size)
		}
		if got := impl.FramePut(letters(size)); got != want {
			t.Errorf("of %d bytes it is %q, not %q", size, got, want)
		}
	}
	for _, s := range []string{"\x00", "\xff", "\x00\x00\x00", "\n\r\xfe", "\xc3\xa9"} {
		if got := impl.FramePut(s); got != string(rune(len(s)))+s {
			t.Errorf("of %q it is %q", s, got)
		}
	}
}

type cutCase struct {
	bytes  string
	frames []string
	left   string
	ok     bool
}

func TestFrameCut(t *testing.T) {
	twelve := letters(12)
	for _, c := range []cutCase{
		{"", nil, "", true},
		{"\x01", nil, "\x01", true},
		{"\x01a", []string{"a"}, "", true},
		{"\x01\x00", []string{"\x00"}, "", true},
		{"\x01\x0d", []string{"\x0d"}, "", true},
		{"\x02a", nil, "\x02a", true},
		{"\x02ab", []string{"ab"}, "", true},
		{"\x02ab\x01", []string{"ab"}, "\x01", true},
		{"\x02ab\x01c\x03de", []string{"ab", "c"}, "\x03de", true},
		{"\x03\x02a\x01\x02\x01", []string{"\x02a\x01"}, "\x02\x01", true},
		{"\x01a\x01a\x01a", []string{"a", "a", "a"}, "", true},
		{"\x0c" + twelve, []string{twelve}, "", true},
		{"\x0c" + twelve[1:], nil, "\x0c" + twelve[1:], true},
		{"\x0c" + twelve + "\x0c", []string{twelve}, "\x0c", true},
		{"\x00", nil, "\x00", false},
		{"\x00\x01a", nil, "\x00\x01a", false},
		{"\x0d", nil, "\x0d", false},
		{"\x0d" + letters(13), nil, "\x0d" + letters(13), false},
		{"\x0d" + letters(14) + "\x01a", nil, "\x0d" + letters(14) + "\x01a", false},
		{"\x80a", nil, "\x80a", false},
		{"\xff", nil, "\xff", false},
		{"\x01a\x00", []string{"a"}, "\x00", false},
		{"\x01a\x0d\x01b", []string{"a"}, "\x0d\x01b", false},
		{"\x02ab\x01c\xffd", []string{"ab", "c"}, "\xffd", false},
	} {
		frames, left, ok := impl.FrameCut(c.bytes)
		if !sameList(frames, c.frames) || left != c.left || ok != c.ok {
			t.Errorf("%q: %q, %q, %v, not %q, %q, %v", c.bytes, frames, left, ok, c.frames, c.left, c.ok)
		}
	}
}

func TestFrameCutOfAllLengths(t *testing.T) {
	for size := range 256 {
		s := string([]byte{byte(size)}) + letters(119)
		frames, left, ok := impl.FrameCut(s)
		if !within(size, 1, 12) && (ok || len(frames) > 0 || left != s) || within(size, 1, 12) && (len(frames) == 0 || frames[0] != letters(size)) {
			t.Errorf("%d ahead: %q, %q, %v", size, frames, left, ok)
		}
	}
}

func TestFrameCutOfAsMuchAsCanBe(t *testing.T) {
	for _, s := range []string{strings.Repeat("\x01a", 60), strings.Repeat("\x00", 120), strings.Repeat("\x0b"+letters(11), 10), strings.Repeat("\x0c"+letters(12), 9) + "\x0cab"} {
		if len(s) != impl.BufMax {
			t.Fatal("that is", len(s))
		}
		frames, left, ok := impl.FrameCut(s)
		if strings.Join(frames, "")+left == "" || ok != (s[0] != 0) {
			t.Errorf("%q: %q, %q, %v", s, frames, left, ok)
		}
		for _, more := range []string{"\x01", "a", "\x00", "\x01a", letters(1000)} {
			frames, left, ok := impl.FrameCut(s + more)
			if len(frames) > 0 || left != "" || ok {
				t.Errorf("%q: %q, %q, %v", s+more, frames, left, ok)
			}
		}
	}
	if frames, _, _ := impl.FrameCut(strings.Repeat("\x01a", 60)); len(frames) != 60 {
		t.Error("there are", len(frames))
	}
}

func TestP36AFrameIsCutOutAsItWasPut(t *testing.T) {
	d := drawer{rand.New(rand.NewSource(20))}
	for range 300 {
		for size := 1; size <= impl.CameMax; size++ {
			s := d.bytes(size)
			put := impl.FramePut(s)
			part := put[:len(put)-1]
			frames, left, ok := impl.FrameCut(put + put + part)
			if !ok || !sameList(frames, []string{s, s}) || left != part {
				t.Fatalf("%q: %q, %q, %v", s, frames, left, ok)
			}
		}
	}
}

// stream is bytes of which most are frames, some cut short, some with a length that cannot be.
func (d drawer) stream(most int) string {
	s := ""
	for range d.draw.Intn(12) {
		switch d.draw.Intn(12) {
		case 0:
			s += d.bytes(d.draw.Intn(4))
		case 1:
			s += string([]byte{[]byte{0, 13, 14, 128, 255}[d.draw.Intn(5)]})
		default:
			s += impl.FramePut(d.frame())
		}
	}
	return s[:min(len(s), d.draw.Intn(most+1))]
}

// frame is a frame whose first byte is a verdict, and whose second one is a key, most often.
func (d drawer) frame() string {
	s := d.bytes(1 + d.draw.Intn(12))
	if d.draw.Intn(4) > 0 {
		s = string([]byte{byte(d.draw.Intn(4)), byte(d.draw.Intn(9))}) + s[1:]
	}
	return s[:min(len(s), 12)]
}

func putAll(frames []string) string {
	s := ""
	for _, x := range frames {
		s += impl.FramePut(x)
	}
	return s
}

func TestP37FramesAndWhatIsLeftAreAllBytes(t *testing.T) {
	d := drawer{rand.New(rand.NewSource(21))}
	bad := 0
	for range 3000 {
		s := d.stream(impl.BufMax)
		frames, left, ok := impl.FrameCut(s)
		if putAll(frames)+left != s {
			t.Fatalf("%q: %q, %q", s, frames, left)
		}
		for _, x := range frames {
			if !within(len(x), 1, 12) {
				t.Fatalf("%q: %q is no frame", s, x)
			}
		}
		if canBe := left == "" || within(int(left[0]), 1, 12); ok != canBe || canBe && left != "" && len(left) > int(left[0]) {
			t.Fatalf("%q: %q is left, %v", s, left, ok)
		}
		if !ok {
			bad++
		}
		for cut := range len(s) + 1 {
			first, ahead, _ := impl.FrameCut(s[:cut])
			second, behind, same := impl.FrameCut(ahead + s[cut:])
			if !sameList(append(first, second...), frames) || behind != left || same != ok {
				t.Fatalf("%q, cut at %d: %q, %q, %q, %v", s, cut, first, second, behind, same)
			}
		}
	}
	if !within(bad, 300, 2700) {
		t.Error("a length could not be", bad, "times")
	}
}

func TestFramesAreNewMemory(t *testing.T) {
	s := "\x01a\x02bc\x03de"
	a, _, _ := impl.FrameCut(s)
	b, _, _ := impl.FrameCut(s)
	for i := range a[:cap(a)] {
		a[:cap(a)][i] = "spoilt"
	}
	if !sameList(b, []string{"a", "bc"}) {
		t.Error("answers share memory:", b)
	}
}
