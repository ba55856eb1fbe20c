package tests

import (
	"math/rand"
	"slices"
	"strings"
	"testing"

	"loop.example/steerage/impl"
)

// someTables are tables in every state that puts and drops lead to, on the way all of them ok.
func someTables() []impl.Table {
	draw := rand.New(rand.NewSource(2))
	var out []impl.Table
	for kind := impl.TableRow; kind <= impl.TableHash; kind++ {
		for size := 1; size <= impl.SizeMax; size++ {
			for room := 1; room <= impl.RoomMax; room++ {
				m := impl.TableNew(kind, size, room)
				for i := 0; i < 12; i++ {
					out = append(out, m)
					m, _ = impl.TablePut(m, someKey(draw), someValue(draw, size))
					if draw.Intn(4) == 0 {
						m, _ = impl.TableDrop(m, someKey(draw))
					}
				}
			}
		}
	}
	return out
}

func someKey(draw *rand.Rand) int {
	keys := []int{most32, most32 - 1, 1 << 31, 1000}
	if n := draw.Intn(14); n < 10 {
		return n
	} else {
		return keys[n-10]
	}
}

func someValue(draw *rand.Rand, size int) string {
	out := make([]byte, size)
	for i := range out {
		out[i] = byte(draw.Intn(256))
	}
	return string(out)
}

// keysToTry stand on both sides of every limit, among them all keys that someKey draws.
var keysToTry = []int{-1 << 63, -2, -1, 0, 1, 2, 3, 4, 5, 6, 7, 8, 9, 1000, 1 << 31, most32 - 1, most32, most32 + 1, 1<<63 - 1}

// wrongTables are tables that are not ok, each for one reason.
func wrongTables() map[string]impl.Table {
	row := func() impl.Table { return impl.TableNew(impl.TableRow, 2, 3) }
	hash := func() impl.Table {
		return impl.Table{Kind: impl.TableHash, Size: 2, Room: 3, Keys: []int{5, 1}, Vals: []string{"ab", "cd"}}
	}
	out := map[string]impl.Table{"nothing": {}}
	change := func(name string, m impl.Table, do func(m *impl.Table)) {
		do(&m)
		out[name] = m
	}
	for name, kind := range map[string]int{"kind 0": 0, "kind 3": 3, "kind below 0": -1} {
		change(name, hash(), func(m *impl.Table) { m.Kind = kind })
	}
	change("size 0", hash(), func(m *impl.Table) { m.Size, m.Vals = 0, []string{"", ""} })
	change("size below 0", hash(), func(m *impl.Table) { m.Size, m.Keys, m.Vals = -1, nil, nil })
	change("size 9", hash(), func(m *impl.Table) { m.Size, m.Vals = 9, []string{"123456789", "123456789"} })
	change("room 0", hash(), func(m *impl.Table) { m.Room, m.Keys, m.Vals = 0, nil, nil })
	change("room 0 of a row", row(), func(m *impl.Table) { m.Room, m.Keys, m.Vals = 0, nil, nil })
	change("room below 0", hash(), func(m *impl.Table) { m.Room, m.Keys, m.Vals = -1, nil, nil })
	change("room 9", hash(), func(m *impl.Table) { m.Room = 9 })
	change("more keys than room", hash(), func(m *impl.Table) { m.Room = 1 })
	change("a key twice", hash(), func(m *impl.Table) { m.Keys[1] = 5 })
	change("a key below 0", hash(), func(m *impl.Table) { m.Keys[1] = -1 })
	change("a key above all", hash(), func(m *impl.Table) { m.Keys[0] = most32 + 1 })
	change("too few values", hash(), func(m *impl.Table) { m.Vals = m.Vals[:1] })
	change("too many values", hash(), func(m *impl.Table) { m.Vals = append(m.Vals, "ef") })
	change("values without keys", hash(), func(m *impl.Table) { m.Keys = nil })
	change("a short value", hash(), func(m *impl.Table) { m.Vals[1] = "c" })
	change("a long value", hash(), func(m *impl.Table) { m.Vals[0] = "abc" })
	change("a row with too few", row(), func(m *impl.Table) { m.Keys, m.Vals = m.Keys[:2], m.Vals[:2] })
	change("a row with none", row(), func(m *impl.Table) { m.Keys, m.Vals = nil, nil })
	change("a row with too many", row(), func(m *impl.Table) { m.Room = 2 })
	change("a row out of order", row(), func(m *impl.Table) { m.Keys[0], m.Keys[1] = 1, 0 })
	change("a row from 1 on", row(), func(m *impl.Table) { m.Keys = []int{1, 2, 3} })
	change("a row with a short value", row(), func(m *impl.Table) { m.Vals[2] = "a" })
	return out
}

func TestTablesThatAreOk(t *testing.T) {
	for name, m := range map[string]impl.Table{
		"the greatest and the least key": {Kind: impl.TableHash, Size: 1, Room: 2, Keys: []int{most32, 0}, Vals: []string{"a", "b"}},
		"keys out of order":              {Kind: impl.TableHash, Size: 1, Room: 8, Keys: []int{9, 2, 5}, Vals: []string{"a", "a", "a"}},
		"no keys":                        {Kind: impl.TableHash, Size: 8, Room: 8, Keys: []int{}, Vals: nil},
		"all room taken":                 {Kind: impl.TableHash, Size: 1, Room: 3, Keys: []int{1, 2, 3}, Vals: []string{"a", "b", "c"}},
		"a row":                          {Kind: impl.TableRow, Size: 3, Room: 2, Keys: []int{0, 1}, Vals: []string{"abc", "\x00\xff\x00"}},
	} {
		if !impl.TableOk(m) {
			t.Error(name, "is not ok")
		}
	}
}

func TestTablesThatAreNotOk(t *testing.T) {
	for name, m := range wrongTables() {
		if impl.TableOk(m) {
			t.Error(name, "is ok")
		}
		for _, key := range keysToTry {
			if val, ok := impl.TableLook(m, key); ok || val != "" {
				t.Error(name, "TableLook", key, val, ok)
			}
			for _, val := range []string{"", "ab", "abc"} {
				if out, code := impl.TablePut(m, key, val); code != impl.PutForm || !sameTable(out, impl.Table{}) {
					t.Error(name, "TablePut", key, out, code)
				}
			}
			if out, ok := impl.TableDrop(m, key); ok || !sameTable(out, impl.Table{}) {
				t.Error(name, "TableDrop", key, out, ok)
			}
			if next, ok := impl.TableNext(m, key); ok || next != -1 {
				t.Error(name, "TableNext", key, next, ok)
			}
		}
	}
}

func TestP21NewTables(t *testing.T) {
	edges := []int{-1 << 63, -1, 0, 1, 2, 3, 4, 5, 6, 7, 8, 9, 1<<63 - 1}
	for _, kind := range []int{-1, 0, 1, 2, 3, 1<<63 - 1} {
		for _, size := range edges {
			for _, room := range edges {
				m := impl.TableNew(kind, size, room)
				ok := within(kind, 1, 2) && within(size, 1, 8) && within(room, 1, 8)
				if impl.TableOk(m) != ok {
					t.Fatal(kind, size, room, m)
				}
				want := impl.Table{}
				if ok {
					want = impl.Table{Kind: kind, Size: size, Room: room}
				}
				for key := 0; ok && kind == impl.TableRow && key < room; key++ {
					want.Keys = append(want.Keys, key)
					want.Vals = append(want.Vals, strings.Repeat("\x00", size))
				}
				if !sameTable(m, want) {
					t.Fatal(kind, size, room, m)
				}
			}
		}
	}
}

func wantPut(m impl.Table, key int, val string) int {
	switch there := slices.Contains(m.Keys, key); {
	case !within(key, 0, most32) || len(val) != m.Size:
		return impl.PutForm
	case !there && m.Kind == impl.TableRow:
		return impl.PutNone
	case !there && len(m.Keys) >= m.Room:
		return impl.PutFull
	}
	return impl.PutFine
}

func TestP22WhatWasPutIsThere(t *testing.T) {
	count := map[int]int{}
	for _, m := range someTables() {
		for _, key := range keysToTry {
			for _, size := range []int{0, m.Size - 1, m.Size, m.Size + 1} {
				val := strings.Repeat("\x07", size)
				out, code := impl.TablePut(m, key, val)
				count[code]++
				if code != wantPut(m, key, val) || !impl.TableOk(out) {
					t.Fatal(m, key, size, out, code)
				}
				if code != impl.PutFine {
					if !sameTable(out, m) {
						t.Fatal("not as it was:", m, key, size, out, code)
					}
					continue
				}
				checkPut(t, m, out, key, val)
			}
		}
	}
	if len(count) != 4 {
		t.Error("not all codes came:", count)
	}
}

func checkPut(t *testing.T, m impl.Table, out impl.Table, key int, val string) {
	t.Helper()
	want := impl.Table{Kind: m.Kind, Size: m.Size, Room: m.Room, Keys: slices.Clone(m.Keys), Vals: slices.Clone(m.Vals)}
	if i := slices.Index(m.Keys, key); i >= 0 {
		want.Vals[i] = val
	} else {
		want.Keys, want.Vals = append(want.Keys, key), append(want.Vals, val)
	}
	if !sameTable(out, want) {
		t.Fatal("put", m, key, out)
	}
	if got, ok := impl.TableLook(out, key); !ok || got != val {
		t.Fatal("look", out, key, got, ok)
	}
	checkOthers(t, m, out, key)
}

// checkOthers asks for all keys but one, which the two tables must answer alike.
func checkOthers(t *testing.T, a impl.Table, b impl.Table, key int) {
	t.Helper()
	for _, other := range keysToTry {
		if other == key {
			continue
		}
		was, wasThere := impl.TableLook(a, other)
		is, isThere := impl.TableLook(b, other)
		if was != is || wasThere != isThere {
			t.Fatal("another key", a, b, key, other)
		}
	}
}

func TestP22RoomMetExactlyAndOneMore(t *testing.T) {
	for room := 1; room <= impl.RoomMax; room++ {
		m := impl.TableNew(impl.TableHash, 1, room)
		for i := 0; i < room; i++ {
			code := impl.PutFull
			m, code = impl.TablePut(m, most32-i, "v")
			if code != impl.PutFine {
				t.Fatal(room, i, code)
			}
		}
		if out, code := impl.TablePut(m, 0, "v"); code != impl.PutFull || !sameTable(out, m) {
			t.Error(room, out, code)
		}
		if out, code := impl.TablePut(m, most32, "w"); code != impl.PutFine || out.Vals[0] != "w" || len(out.Keys) != room {
			t.Error("a key that is there:", room, out, code)
		}
		row := impl.TableNew(impl.TableRow, 1, room)
		if _, code := impl.TablePut(row, room-1, "v"); code != impl.PutFine {
			t.Error("the last of a row:", room, code)
		}
		if out, code := impl.TablePut(row, room, "v"); code != impl.PutNone || !sameTable(out, row) {
			t.Error("behind a row:", room, out, code)
		}
	}
}

func TestP22WhyNotInOrder(t *testing.T) {
	row := impl.TableNew(impl.TableRow, 2, 2)
	full, _ := impl.TablePut(impl.TableNew(impl.TableHash, 2, 1), 4, "ab")
	for _, m := range []impl.Table{row, full} {
		for key, val := range map[int]string{-1: "ab", most32 + 1: "ab", 9: "a", 8: "abc", 0: ""} {
			if out, code := impl.TablePut(m, key, val); code != impl.PutForm || !sameTable(out, m) {
				t.Error(m, key, val, out, code)
			}
		}
	}
}

func TestP23WhatWasDroppedIsNotThere(t *testing.T) {
	for _, m := range someTables() {
		for _, key := range keysToTry {
			val, there := impl.TableLook(m, key)
			out, ok := impl.TableDrop(m, key)
			if ok != there || !impl.TableOk(out) {
				t.Fatal(m, key, out, ok)
			}
			if !ok {
				if !sameTable(out, m) {
					t.Fatal("not as it was:", m, key, out)
				}
				continue
			}
			checkDrop(t, m, out, key)
			back, code := impl.TablePut(out, key, val)
			if code != impl.PutFine || len(back.Keys) != len(m.Keys) {
				t.Fatal("not put back:", m, key, back, code)
			}
			if again, fine := impl.TableLook(back, key); !fine || again != val {
				t.Fatal("not brought back:", m, key, back)
			}
			checkOthers(t, m, back, key)
		}
	}
}

func checkDrop(t *testing.T, m impl.Table, out impl.Table, key int) {
	t.Helper()
	got, there := impl.TableLook(out, key)
	if m.Kind == impl.TableRow && (!there || got != strings.Repeat("\x00", m.Size)) {
		t.Fatal("a row's place must stay:", m, key, out)
	}
	if m.Kind == impl.TableHash && (there || got != "" || len(out.Keys) != len(m.Keys)-1) {
		t.Fatal("still there:", m, key, out)
	}
	checkOthers(t, m, out, key)
	i := slices.Index(m.Keys, key)
	want := impl.Table{Kind: m.Kind, Size: m.Size, Room: m.Room, Keys: slices.Clone(m.Keys), Vals: slices.Clone(m.Vals)}
	if m.Kind == impl.TableRow {
		want.Vals[i] = strings.Repeat("\x00", m.Size)
	} else {
		want.Keys, want.Vals = slices.Delete(want.Keys, i, i+1), slices.Delete(want.Vals, i, i+1)
	}
	if !sameTable(out, want) {
		t.Fatal("drop", m, key, out)
	}
}

func TestP24AllKeysComeAscending(t *testing.T) {
	for _, m := range someTables() {
		var came []int
		next, ok := impl.TableNext(m, -1)
		for ok && len(came) <= impl.RoomMax {
			came = append(came, next)
			next, ok = impl.TableNext(m, next)
		}
		want := slices.Sorted(slices.Values(m.Keys))
		if ok || next != -1 || !sameList(came, want) {
			t.Fatal(m, came, next, ok)
		}
	}
}

func TestP24TheLeastKeyAboveAnyNumber(t *testing.T) {
	m := impl.Table{Kind: impl.TableHash, Size: 1, Room: 4, Keys: []int{9, 0, most32, 4}, Vals: []string{"a", "b", "c", "d"}}
	for _, c := range []struct {
		key, want int
		ok        bool
	}{
		{-1 << 63, 0, true}, {-1, 0, true}, {0, 4, true}, {3, 4, true}, {4, 9, true}, {5, 9, true}, {9, most32, true},
		{most32 - 1, most32, true}, {most32, -1, false}, {most32 + 1, -1, false}, {1<<63 - 1, -1, false},
	} {
		if next, ok := impl.TableNext(m, c.key); next != c.want || ok != c.ok {
			t.Error(c.key, next, ok)
		}
	}
	if next, ok := impl.TableNext(impl.TableNew(impl.TableHash, 1, 1), -1); next != -1 || ok {
		t.Error("of no keys:", next, ok)
	}
}

func TestP25WhatIsToldIsWhatStandsThere(t *testing.T) {
	for _, m := range someTables() {
		for _, key := range keysToTry {
			want, i := "", slices.Index(m.Keys, key)
			if i >= 0 {
				want = m.Vals[i]
			}
			if val, ok := impl.TableLook(m, key); ok != (i >= 0) || val != want {
				t.Fatal(m, key, val, ok)
			}
		}
	}
}

// roomy is the same table in lists that have something behind their ends.
func roomy(m impl.Table) impl.Table {
	keys := append(slices.Clone(m.Keys), 71, 72, 73)
	vals := append(slices.Clone(m.Vals), "x", "y", "z")
	m.Keys, m.Vals = keys[:len(m.Keys)], vals[:len(m.Vals)]
	return m
}

func spoil(m impl.Table) {
	keys, vals := m.Keys[:cap(m.Keys)], m.Vals[:cap(m.Vals)]
	for i := range keys {
		keys[i] = -9
	}
	for i := range vals {
		vals[i] = "spoilt"
	}
}

func TestTablesAreNewMemory(t *testing.T) {
	calls := map[string]func(m impl.Table, key int) impl.Table{
		"put": func(m impl.Table, key int) impl.Table {
			out, _ := impl.TablePut(m, key, strings.Repeat("v", m.Size))
			return out
		},
		"put none": func(m impl.Table, key int) impl.Table { out, _ := impl.TablePut(m, key, ""); return out },
		"drop":     func(m impl.Table, key int) impl.Table { out, _ := impl.TableDrop(m, key); return out },
	}
	for _, m := range someTables() {
		for name, call := range calls {
			for _, key := range []int{-1, 0, 1, 8, most32} {
				given, kept := roomy(m), roomy(m)
				spoil(call(given, key))
				n := len(m.Keys) + 3
				if !slices.Equal(given.Keys[:n], kept.Keys[:n]) || !slices.Equal(given.Vals[:n], kept.Vals[:n]) {
					t.Fatal(name, "reaches into its argument:", m, key, given.Keys[:n], given.Vals[:n])
				}
			}
		}
	}
	a := impl.TableNew(impl.TableRow, 1, 3)
	b := impl.TableNew(impl.TableRow, 1, 3)
	spoil(a)
	if !impl.TableOk(b) {
		t.Error("two new tables share memory:", b)
	}
}
