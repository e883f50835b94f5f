package tests

import (
	"math"
	"slices"
	"strings"
	"testing"

	"loop.example/g00267/impl"
)

func ref(col int64, row int64) impl.Ref { return impl.Ref{Col: col, Row: row} }

func area(fromCol int64, fromRow int64, toCol int64, toRow int64) impl.Area {
	return impl.Area{From: ref(fromCol, fromRow), To: ref(toCol, toRow)}
}

// eachText calls visit with every text of at most longest bytes of the alphabet.
func eachText(alphabet string, longest int, visit func(string)) {
	var grow func(string)
	grow = func(s string) {
		visit(s)
		if len(s) == longest {
			return
		}
		for i := range len(alphabet) {
			grow(s + alphabet[i:i+1])
		}
	}
	grow("")
}

func TestP1ColumnsAtTheirEdges(t *testing.T) {
	for _, c := range []struct {
		n int64
		s string
	}{
		{math.MinInt64, ""}, {-1, ""}, {0, ""}, {1, "A"}, {2, "B"}, {25, "Y"}, {26, "Z"}, {27, "AA"},
		{28, "AB"}, {51, "AY"}, {52, "AZ"}, {53, ""}, {702, ""}, {math.MaxInt64, ""},
	} {
		if got := impl.ColText(c.n); got != c.s {
			t.Errorf("ColText(%d) = %q, want %q", c.n, got, c.s)
		}
	}
}

func TestP1ColumnsComeBackFromTheirLetters(t *testing.T) {
	texts := map[string]int64{}
	for n := int64(1); n <= impl.MaxCols; n++ {
		texts[impl.ColText(n)] = n
	}
	if len(texts) != impl.MaxCols {
		t.Fatalf("%d texts of %d columns", len(texts), impl.MaxCols)
	}
	eachText("@ABYZ[a1$ \x00\xc1", 3, func(s string) {
		if got := impl.ReadCol(s); got != texts[s] {
			t.Errorf("ReadCol(%q) = %d, want %d", s, got, texts[s])
		}
	})
	for s, n := range texts {
		if got := impl.ReadCol(s); got != n {
			t.Errorf("ReadCol(%q) = %d, want %d", s, got, n)
		}
	}
	for _, s := range []string{"BA", "AAA", strings.Repeat("A", 100), strings.Repeat("Z", 10000)} {
		if got := impl.ReadCol(s); got != 0 {
			t.Errorf("ReadCol of %d letters = %d", len(s), got)
		}
	}
}

func TestP1RightRefs(t *testing.T) {
	cols := map[int64]bool{math.MinInt64: false, -1: false, 0: false, 1: true, 26: true, 27: true, 52: true, 53: false, math.MaxInt64: false}
	rows := map[int64]bool{math.MinInt64: false, -1: false, 0: false, 1: true, 50: true, 99: true, 100: false, math.MaxInt64: false}
	for col, colOk := range cols {
		for row, rowOk := range rows {
			if got := impl.RefOk(ref(col, row)); got != (colOk && rowOk) {
				t.Errorf("RefOk(%d, %d) = %v", col, row, got)
			}
		}
	}
}

func TestP1PlacesComeBackFromTheirTexts(t *testing.T) {
	seen := map[string]bool{}
	for col := int64(1); col <= impl.MaxCols; col++ {
		for row := int64(1); row <= impl.MaxRows; row++ {
			for fix := range 4 {
				p := impl.Place{At: ref(col, row), FixCol: fix&1 != 0, FixRow: fix&2 != 0}
				s := impl.PlaceText(p)
				seen[s] = true
				if got, ok := impl.ReadPlace(s); !ok || got != p {
					t.Fatalf("ReadPlace(%q) = %v %v, want %v", s, got, ok, p)
				}
			}
		}
	}
	if len(seen) != impl.MaxCols*impl.MaxRows*4 {
		t.Errorf("%d texts of places", len(seen))
	}
	eachText("$AZB019a ", 5, func(s string) {
		p, ok := impl.ReadPlace(s)
		if ok != seen[s] || ok && impl.PlaceText(p) != s || !ok && p != (impl.Place{}) {
			t.Errorf("ReadPlace(%q) = %v %v", s, p, ok)
		}
	})
}

func TestP1PlaceTexts(t *testing.T) {
	for _, c := range []struct {
		p impl.Place
		s string
	}{
		{impl.Place{At: ref(1, 1)}, "A1"},
		{impl.Place{At: ref(52, 99), FixCol: true}, "$AZ99"},
		{impl.Place{At: ref(2, 7), FixRow: true}, "B$7"},
		{impl.Place{At: ref(27, 10), FixCol: true, FixRow: true}, "$AA$10"},
		{impl.Place{}, ""},
		{impl.Place{At: ref(0, 1), FixCol: true}, ""},
		{impl.Place{At: ref(53, 1)}, ""},
		{impl.Place{At: ref(1, 0), FixRow: true}, ""},
		{impl.Place{At: ref(1, 100)}, ""},
		{impl.Place{At: ref(1, -1), FixCol: true, FixRow: true}, ""},
	} {
		if got := impl.PlaceText(c.p); got != c.s {
			t.Errorf("PlaceText(%v) = %q, want %q", c.p, got, c.s)
		}
	}
}

func TestP1WrongPlaceTexts(t *testing.T) {
	for _, s := range []string{
		"", "A", "1", "$", "$$", "A0", "A00", "A01", "A$01", "A099", "A100", "A999", "BA1", "AAA1", "a1", "1A", "A1A",
		"$A$", "$$A1", "A$$1", "A1$", "A1 ", " A1", "A 1", "$ A1", "A-1", "A+1", "A1_0", "A\x001", "A\xd9\xa1",
		"A99999999999999999999", "A" + strings.Repeat("0", 300) + "1", strings.Repeat("A", 300) + "1",
	} {
		if p, ok := impl.ReadPlace(s); ok || p != (impl.Place{}) {
			t.Errorf("ReadPlace(%q) = %v %v", s, p, ok)
		}
	}
}

func wrongAreas() []impl.Area {
	return []impl.Area{
		{}, area(0, 1, 1, 1), area(1, 0, 1, 1), area(1, 1, 53, 1), area(1, 1, 1, 100), area(-1, -1, 5, 5),
		area(2, 1, 1, 1), area(1, 2, 1, 1), area(2, 2, 1, 9), area(2, 2, 9, 1), area(53, 1, 53, 1), area(1, 100, 1, 100),
		area(math.MinInt64, 1, math.MaxInt64, 1), area(1, math.MinInt64, 1, math.MaxInt64),
	}
}

func rightAreas() []impl.Area {
	return []impl.Area{
		area(1, 1, 1, 1), area(52, 99, 52, 99), area(1, 1, 52, 99), area(26, 1, 27, 99), area(1, 1, 52, 1),
		area(1, 1, 1, 99), area(3, 5, 7, 6), area(7, 6, 9, 9), area(8, 6, 9, 9), area(7, 7, 9, 9), area(4, 1, 5, 99),
	}
}

func has(a impl.Area, r impl.Ref) bool {
	return r.Col >= a.From.Col && r.Col <= a.To.Col && r.Row >= a.From.Row && r.Row <= a.To.Row
}

// plainCells goes through the whole grid, row by row, so it has the document's order.
func plainCells(keep func(impl.Ref) bool) []impl.Ref {
	var cells []impl.Ref
	for row := int64(1); row <= impl.MaxRows; row++ {
		for col := int64(1); col <= impl.MaxCols; col++ {
			if keep(ref(col, row)) {
				cells = append(cells, ref(col, row))
			}
		}
	}
	return cells
}

func TestP1AreasHaveEachOfTheirCellsOnce(t *testing.T) {
	for _, a := range rightAreas() {
		if !impl.AreaOk(a) {
			t.Errorf("AreaOk(%v) is false", a)
		}
		want := plainCells(func(r impl.Ref) bool { return has(a, r) })
		if got := impl.CellsOf(a); !slices.Equal(got, want) {
			t.Errorf("CellsOf(%v) = %v", a, got)
		}
	}
	want := []impl.Ref{ref(2, 3), ref(3, 3), ref(2, 4), ref(3, 4)}
	if got := impl.CellsOf(area(2, 3, 3, 4)); !slices.Equal(got, want) {
		t.Errorf("cells %v, want %v", got, want)
	}
	for _, a := range wrongAreas() {
		if impl.AreaOk(a) || len(impl.CellsOf(a)) != 0 {
			t.Errorf("%v counts as right", a)
		}
	}
}

func TestP1CellsAreNewMemory(t *testing.T) {
	first := impl.CellsOf(area(1, 1, 2, 2))
	second := impl.CellsOf(area(1, 1, 2, 2))
	clear(first)
	if !slices.Equal(second, []impl.Ref{ref(1, 1), ref(2, 1), ref(1, 2), ref(2, 2)}) {
		t.Error(second)
	}
}

func TestP1WhatTwoHaveInCommonIsInBoth(t *testing.T) {
	for _, a := range rightAreas() {
		for _, b := range rightAreas() {
			want := plainCells(func(r impl.Ref) bool { return has(a, r) && has(b, r) })
			both, ok := impl.Common(a, b)
			if ok != (len(want) > 0) || !slices.Equal(impl.CellsOf(both), want) {
				t.Errorf("Common(%v, %v) = %v %v", a, b, both, ok)
			}
			if !ok && both != (impl.Area{}) {
				t.Errorf("Common(%v, %v) leaves %v with false", a, b, both)
			}
		}
	}
}

func TestP1NothingInCommonWithWrongAreas(t *testing.T) {
	for _, wrong := range wrongAreas() {
		for _, right := range append(rightAreas(), wrongAreas()...) {
			for _, pair := range [][2]impl.Area{{wrong, right}, {right, wrong}} {
				if both, ok := impl.Common(pair[0], pair[1]); ok || both != (impl.Area{}) {
					t.Errorf("Common(%v, %v) = %v %v", pair[0], pair[1], both, ok)
				}
			}
		}
	}
}
