package impl

import (
	"iter"
	"slices"
	"strings"
)

// Kinds of tables, why something cannot be put, and limits.
const (
	TableRow  = 1
	TableHash = 2
	PutFine   = 0
	PutForm   = 1
	PutNone   = 2
	PutFull   = 3
	SizeMax   = 8
	RoomMax   = 8
)

// Table is values by keys: a row of places, or keys as they come.
type Table struct {
	Kind int
	Size int
	Room int
	Keys []int
	Vals []string
}

type pair[K comparable, V any] struct {
	key K
	val V
}

// pairs keep the order in which keys came: what a table tells hangs on it, and a map has none.
type pairs[K comparable, V any] []pair[K, V]

func (p pairs[K, V]) all() iter.Seq2[K, V] {
	return func(yield func(K, V) bool) {
		for _, x := range p {
			if !yield(x.key, x.val) {
				return
			}
		}
	}
}

func (p pairs[K, V]) look(key K) (V, bool) {
	for k, v := range p.all() {
		if k == key {
			return v, true
		}
	}
	var none V
	return none, false
}

func (p pairs[K, V]) put(key K, val V) pairs[K, V] {
	var out pairs[K, V]
	there := false
	for k, v := range p.all() {
		if k == key {
			v = val
			there = true
		}
		out = append(out, pair[K, V]{k, v})
	}
	if !there {
		out = append(out, pair[K, V]{key, val})
	}
	return out
}

func (p pairs[K, V]) drop(key K) pairs[K, V] {
	var out pairs[K, V]
	for k, v := range p.all() {
		if k != key {
			out = append(out, pair[K, V]{k, v})
		}
	}
	return out
}

func pairsOf(m Table) pairs[int, string] {
	var out pairs[int, string]
	for i, key := range m.Keys {
		out = append(out, pair[int, string]{key, m.Vals[i]})
	}
	return out
}

// withPairs builds both lists anew, so that even a table that stays as it is shares nothing with the one that was given.
func withPairs(m Table, p pairs[int, string]) Table {
	out := Table{Kind: m.Kind, Size: m.Size, Room: m.Room}
	for key, val := range p.all() {
		out.Keys = append(out.Keys, key)
		out.Vals = append(out.Vals, val)
	}
	return out
}

func copiedTables(tables []Table) []Table {
	var out []Table
	for _, t := range tables {
		out = append(out, withPairs(t, pairsOf(t)))
	}
	return out
}

func shapeOk(kind int, size int, room int) bool {
	return (kind == TableRow || kind == TableHash) && size >= 1 && size <= SizeMax && room >= 1 && room <= RoomMax
}

func zeros(size int) string {
	return strings.Repeat("\x00", size)
}

// TableOk says whether a table is ok.
func TableOk(m Table) bool {
	if !shapeOk(m.Kind, m.Size, m.Room) || len(m.Keys) > m.Room || len(m.Vals) != len(m.Keys) {
		return false
	}
	for _, val := range m.Vals {
		if len(val) != m.Size {
			return false
		}
	}
	if m.Kind == TableRow {
		return len(m.Keys) == m.Room && countUp(m.Keys)
	}
	return numbersOnce(m.Keys)
}

func countUp(keys []int) bool {
	for i, key := range keys {
		if key != i {
			return false
		}
	}
	return true
}

func numbersOnce(keys []int) bool {
	for i, key := range keys {
		if !isNumber(key) || slices.Contains(keys[:i], key) {
			return false
		}
	}
	return true
}

// TableNew is a new table.
func TableNew(kind int, size int, room int) Table {
	if !shapeOk(kind, size, room) {
		return Table{}
	}
	var p pairs[int, string]
	if kind == TableRow {
		for key := 0; key < room; key++ {
			p = p.put(key, zeros(size))
		}
	}
	return withPairs(Table{Kind: kind, Size: size, Room: room}, p)
}

// TableLook is the value of a key.
func TableLook(m Table, key int) (string, bool) {
	if !TableOk(m) {
		return "", false
	}
	return pairsOf(m).look(key)
}

// TablePut puts a value.
func TablePut(m Table, key int, val string) (Table, int) {
	if !TableOk(m) {
		return Table{}, PutForm
	}
	p := pairsOf(m)
	code := putCode(m, key, val)
	if code == PutFine {
		p = p.put(key, val)
	}
	return withPairs(m, p), code
}

func putCode(m Table, key int, val string) int {
	if !isNumber(key) || len(val) != m.Size {
		return PutForm
	}
	if slices.Contains(m.Keys, key) {
		return PutFine
	}
	if m.Kind == TableRow {
		return PutNone
	}
	if len(m.Keys) == m.Room {
		return PutFull
	}
	return PutFine
}

// TableDrop drops a key.
func TableDrop(m Table, key int) (Table, bool) {
	if !TableOk(m) {
		return Table{}, false
	}
	p := pairsOf(m)
	_, there := p.look(key)
	if there && m.Kind == TableRow {
		p = p.put(key, zeros(m.Size))
	}
	if there && m.Kind == TableHash {
		p = p.drop(key)
	}
	return withPairs(m, p), there
}

// TableNext is the least key that is more than one.
func TableNext(m Table, key int) (int, bool) {
	least, found := -1, false
	if !TableOk(m) {
		return least, found
	}
	for k := range pairsOf(m).all() {
		if k > key && (!found || k < least) {
			least, found = k, true
		}
	}
	return least, found
}
