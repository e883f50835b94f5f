package tests

import (
	"math"
	"slices"
	"strconv"
	"strings"
	"testing"

	"loop.example/g00267/impl"
)

// changesOf answers the changes of "A1 1>2; B1 >5" and the like.
func changesOf(t *testing.T, lines string) []impl.Change {
	t.Helper()
	var list []impl.Change
	for _, line := range strings.Split(lines, "; ") {
		if line == "" {
			continue
		}
		name, rest, _ := strings.Cut(line, " ")
		from, to, _ := strings.Cut(rest, ">")
		list = append(list, impl.Change{At: refNamed(t, name), From: from, To: to})
	}
	return list
}

func TestP9WhatTwoSheetsDifferIn(t *testing.T) {
	for _, c := range []struct{ a, b, want string }{
		{"", "", ""}, {"A1 1", "A1 1", ""}, {"A1 1", "A1 2", "A1 1>2"}, {"A1 1", "", "A1 1>"}, {"", "A1 1", "A1 >1"}, {"A1 1", "B1 1", "A1 1>; B1 >1"}, {"B1 1", "A1 1", "A1 >1; B1 1>"},
		{"A1 1; B1 2; C1 3", "A1 1; B1 5; C1 3", "B1 2>5"}, {"A1 1; B1 2; C1 3", "C1 3; D1 4", "A1 1>; B1 2>; D1 >4"}, {"A2 1; B1 2", "A2 3; B1 4", "B1 2>4; A2 1>3"}, {"AZ99 1; A1 2", "AZ98 1", "A1 2>; AZ98 >1; AZ99 1>"},
		// By the source, not by what it says.
		{"A1 2; B1 2", "A1 =1+1; B1 '2", "A1 2>=1+1; B1 2>'2"}, {"A1 =A1; B1 =$A$1", "A1 =A$1; B1 =$A$1", "A1 =A1>=A$1"}, {"A1 '", "", "A1 '>"}, {"A1 TRUE", "A1 'TRUE", "A1 TRUE>'TRUE"},
	} {
		if got := impl.DiffOf(sheetOf(t, c.a), sheetOf(t, c.b)); !slices.Equal(got, changesOf(t, c.want)) {
			t.Errorf("DiffOf %s and %s: %v, want %s", c.a, c.b, got, c.want)
		}
	}
}

// moved answers the sheet some columns further to the right.
func moved(s []impl.Cell, cols int64) []impl.Cell {
	n := slices.Clone(s)
	for i := range n {
		n[i].At.Col += cols
	}
	return n
}

func TestP9FullSheetsDiffer(t *testing.T) {
	a, b := full(t, impl.MaxCells), moved(gridCells(impl.MaxCells), 20)
	list := impl.DiffOf(a, b)
	if len(list) != 2*impl.MaxCells {
		t.Errorf("%d changes", len(list))
	}
	// On the way there are more than MaxCells: the new cells of a row come ahead of the old ones of the next.
	if n, ok := impl.Patched(a, list); !ok || !slices.Equal(n, b) {
		t.Errorf("%d cells, %v", len(n), ok)
	}
	if n, ok := impl.Patched(b, impl.Turned(list)); !ok || !slices.Equal(n, a) {
		t.Errorf("back: %d cells, %v", len(n), ok)
	}
	if list := impl.DiffOf(a, a); len(list) != 0 {
		t.Errorf("a sheet and itself: %v", list)
	}
}

func TestP9Patched(t *testing.T) {
	for _, c := range []struct{ sheet, list, want string }{
		{"", "", ""}, {"A1 1", "", "A1 1"}, {"A1 1", "A1 1>2", "A1 2"}, {"A1 1", "A1 1>", ""}, {"A1 1", "B1 >7", "A1 1; B1 7"}, {"B1 1", "A1 >7; A2 >8", "A1 7; B1 1; A2 8"}, {"A1 1", "A1 1>1", "A1 1"}, {"A1 =A1", "A1 =A1>=$A$1", "A1 =$A$1"},
		// The same place twice: what counts is what stands there then.
		{"A1 1", "A1 1>2; A1 2>3", "A1 3"}, {"A1 1", "A1 1>2; A1 2>1", "A1 1"}, {"A1 1", "A1 1>; A1 >3", "A1 3"}, {"", "A1 >1; A1 1>; A1 >'x", "A1 'x"}, {"", "A1 >1; A1 1>", ""}, {"A1 1", "A1 1>2; B1 >2; A1 2>; B1 2>5", "B1 5"},
		// Nothing becomes nothing.
		{"", "A1 >", ""}, {"B1 1", "A1 >; A1 >", "B1 1"}, {"A1 1", "A1 1>; A1 >", ""}, {"", "AZ99 >; AZ99 >5", "AZ99 5"},
		// In any order.
		{"A1 1; B1 2", "C3 >5; B1 2>4; A1 1>3", "A1 3; B1 4; C3 5"},
	} {
		s, list := sheetOf(t, c.sheet), changesOf(t, c.list)
		n, ok := impl.Patched(s, list)
		if !ok || cellsShown(n) != c.want {
			t.Errorf("Patched %s by %s: %s, %v, want %s", c.sheet, c.list, cellsShown(n), ok, c.want)
		}
		if back, fine := impl.Patched(n, impl.Turned(list)); !fine || !slices.Equal(back, s) {
			t.Errorf("Patched %s by %s and back: %s, %v", c.sheet, c.list, cellsShown(back), fine)
		}
	}
}

func patchesNot(t *testing.T, s []impl.Cell, list []impl.Change) {
	t.Helper()
	if n, ok := impl.Patched(s, list); ok || len(n) != 0 {
		t.Errorf("Patched %s by %v: %s", cellsShown(s), list, cellsShown(n))
	}
}

func TestP9ChangesThatDoNotFit(t *testing.T) {
	for _, c := range []struct{ sheet, list string }{
		{"", "A1 1>2"}, {"A1 1", "A1 >2"}, {"A1 1", "A1 2>3"}, {"A1 1", "A1 1>2; A1 1>3"}, {"A1 1", "A1 1>; A1 1>"}, {"", "A1 >1; A1 >2"}, {"A1 1", "B1 1>2"}, {"A1 2", "A1 '2>3"}, {"A1 =1+1", "A1 2>3"}, {"A1 1", "A1 01>2"}, {"A1 =B1", "A1 = B1>2"},
		{"A1 1", "A1 >"}, {"", "A1 1>"}, {"A1 1; B1 2", "A1 1>5; B1 1>5"}, {"A1 1", "A1 2>1"}, {"A1 1; B1 2", "A1 2>1; B1 1>2"},
	} {
		patchesNot(t, sheetOf(t, c.sheet), changesOf(t, c.list))
	}
	s := sheetOf(t, "A1 1")
	for _, to := range []string{"a", "007", "-0", " ", "= 1", "=(1)", "=", "=1+", "+1", "true", "\n", "'\x7f", "1000000000000001", "'" + strings.Repeat("x", impl.MaxText), "=\"" + strings.Repeat("x", 198) + "\""} {
		patchesNot(t, s, []impl.Change{{At: ref(1, 1), From: "1", To: to}})
		patchesNot(t, s, []impl.Change{{At: ref(2, 1), To: to}})
		patchesNot(t, s, []impl.Change{{At: ref(2, 1), To: to}, {At: ref(2, 1), From: to, To: ""}})
		patchesNot(t, s, []impl.Change{{At: ref(3, 1), To: "5"}, {At: ref(2, 1), To: to}})
	}
	for _, r := range []impl.Ref{{}, ref(0, 1), ref(1, 0), ref(53, 1), ref(1, 100), ref(-1, -1), ref(math.MaxInt64, math.MinInt64)} {
		for _, to := range []string{"", "5"} {
			patchesNot(t, s, []impl.Change{{At: r, To: to}})
			patchesNot(t, s, []impl.Change{{At: ref(1, 1), From: "1", To: "2"}, {At: r, To: to}, {At: r, From: to}})
		}
	}
}

func TestP9AsManyChangesAsMayBe(t *testing.T) {
	s := gridCells(impl.MaxCells)
	var list []impl.Change
	for i := range 3 * impl.MaxCells {
		c := impl.Change{At: s[i%impl.MaxCells].At, From: strconv.Itoa(i - impl.MaxCells), To: strconv.Itoa(i)}
		if i < impl.MaxCells {
			c.From = "7"
		}
		list = append(list, c)
	}
	n, ok := impl.Patched(s, list)
	if !ok || len(n) != impl.MaxCells || n[0].Source != "240" || n[impl.MaxCells-1].Source != "359" {
		t.Errorf("%s, %v", cellsShown(n), ok)
	}
	if back, ok := impl.Patched(n, impl.Turned(list)); !ok || !slices.Equal(back, s) {
		t.Errorf("back: %s, %v", cellsShown(back), ok)
	}
	patchesNot(t, s, append(list, impl.Change{At: s[0].At, From: "240", To: "1"}))
	patchesNot(t, s, append(list, impl.Change{At: ref(50, 50)}))
	for _, i := range []int{0, 180, len(list) - 1} {
		spoilt := slices.Clone(list)
		spoilt[i].From = "no"
		patchesNot(t, s, spoilt)
	}
	nothing := slices.Repeat([]impl.Change{{At: ref(50, 50)}}, 3*impl.MaxCells)
	if n, ok := impl.Patched(s, nothing); !ok || !slices.Equal(n, s) {
		t.Errorf("nothing: %s, %v", cellsShown(n), ok)
	}
	patchesNot(t, s, append(nothing, nothing[0]))
}

func TestP9MoreThanMaxCellsOnTheWayAndAtTheEnd(t *testing.T) {
	s := gridCells(impl.MaxCells)
	more := impl.Change{At: ref(20, 1), To: "5"}
	less := impl.Change{At: s[3].At, From: "7"}
	for _, list := range [][]impl.Change{{more, less}, {less, more}, {more, {At: more.At, From: "5"}}} {
		n, ok := impl.Patched(s, list)
		if !ok || len(n) != impl.MaxCells {
			t.Errorf("%v: %d cells, %v", list, len(n), ok)
		}
	}
	patchesNot(t, s, []impl.Change{more})
	patchesNot(t, s, []impl.Change{less, more, {At: less.At, To: "7"}})
	patchesNot(t, s, []impl.Change{more, {At: ref(21, 1), To: "5"}, less})
	if n, ok := impl.Patched(s[:impl.MaxCells-1], []impl.Change{more}); !ok || len(n) != impl.MaxCells {
		t.Errorf("the last cell: %d, %v", len(n), ok)
	}
	var all []impl.Change
	for _, c := range moved(s, 20) {
		all = append(all, impl.Change{At: c.At, To: c.Source})
	}
	patchesNot(t, s, all)
	for _, c := range s {
		all = append(all, impl.Change{At: c.At, From: c.Source})
	}
	if n, ok := impl.Patched(s, all); !ok || !slices.Equal(n, moved(s, 20)) {
		t.Errorf("all moved: %d cells, %v", len(n), ok)
	}
}

func TestP9Turned(t *testing.T) {
	for list, want := range map[string]string{
		"": "", "A1 1>2": "A1 2>1", "A1 >2; B1 3>": "B1 >3; A1 2>", "A1 1>2; A1 2>3; B1 >": "B1 >; A1 3>2; A1 2>1", "C3 a>b; A1 =>\n; C3 a>b": "C3 b>a; A1 \n>=; C3 b>a",
	} {
		if got := impl.Turned(changesOf(t, list)); !slices.Equal(got, changesOf(t, want)) {
			t.Errorf("Turned %s: %v, want %s", list, got, want)
		}
	}
	// Whatever the changes are, however many.
	var list []impl.Change
	for i := range 1000 {
		list = append(list, impl.Change{At: ref(int64(-i), math.MaxInt64), From: strconv.Itoa(i), To: "\x00" + strconv.Itoa(i)})
	}
	turned := impl.Turned(list)
	if len(turned) != 1000 || turned[0] != (impl.Change{At: ref(-999, math.MaxInt64), From: "\x00999", To: "999"}) || !slices.Equal(impl.Turned(turned), list) {
		t.Errorf("%d turned", len(turned))
	}
}

func TestP9Merged(t *testing.T) {
	for _, c := range []struct{ o, x, y, want, clash string }{
		{"", "", "", "", ""}, {"A1 1", "A1 1", "A1 1", "A1 1", ""}, {"A1 1", "A1 2", "A1 1", "A1 2", ""}, {"A1 1", "A1 1", "A1 2", "A1 2", ""}, {"A1 1", "", "A1 1", "", ""}, {"", "A1 1", "", "A1 1", ""},
		{"A1 1; B1 2", "A1 5; B1 2", "A1 1; B1 6", "A1 5; B1 6", ""}, {"B1 2", "A1 1; B1 2", "B1 2; C1 3; A2 4", "A1 1; B1 2; C1 3; A2 4", ""}, {"A1 1; B1 2", "B1 2", "A1 1", "", ""},
		// Both changed a place alike.
		{"A1 1", "A1 2", "A1 2", "A1 2", ""}, {"", "A1 2", "A1 2", "A1 2", ""}, {"A1 1", "", "", "", ""}, {"A1 1; B1 1", "A1 2; B1 5", "A1 2; B1 1", "A1 2; B1 5", ""}, {"A1 2", "A1 =1+1", "A1 =1+1", "A1 =1+1", ""},
		// Both changed it otherwise.
		{"A1 1", "A1 2", "A1 3", "", "A1"}, {"", "A1 2", "A1 3", "", "A1"}, {"A1 1; B1 1", "A1 2; B1 2", "A1 3; B1 1", "", "A1"}, {"", "A1 2", "A1 '2", "", "A1"}, {"", "A1 =A1", "A1 =$A1", "", "A1"},
		// One side took a cell away, the other one changed it.
		{"A1 1", "", "A1 2", "", "A1"}, {"A1 1; C3 9", "C3 9", "A1 2; C3 9", "", "A1"}, {"A1 1; B1 1", "A1 2", "B1 2", "", "A1 B1"},
		// All three differ at several places.
		{"A1 1; B1 1; C1 1; A2 1", "A1 2; B1 2; C1 1; A2 2", "A1 3; B1 3; C1 7; A2 3", "", "A1 B1 A2"}, {"A1 1", "A1 2; B1 2; AZ99 2", "A1 3; B1 3; AZ99 3", "", "A1 B1 AZ99"}, {"B2 1; A3 1", "B2 2; C1 1", "B2 3; A3 5; C1 2", "", "C1 B2 A3"},
	} {
		o, x, y := sheetOf(t, c.o), sheetOf(t, c.x), sheetOf(t, c.y)
		for _, side := range [][][]impl.Cell{{x, y}, {y, x}} {
			n, clash, ok := impl.Merged(o, side[0], side[1])
			if ok != (c.clash == "") || cellsShown(n) != c.want || namesOf(clash) != c.clash {
				t.Errorf("Merged %s: %s and %s: %s, %s, %v", c.o, cellsShown(side[0]), cellsShown(side[1]), cellsShown(n), namesOf(clash), ok)
			}
		}
	}
}

func TestP9MergesThatPassMaxCells(t *testing.T) {
	s := gridCells(impl.MaxCells - 1)
	enter := func(s []impl.Cell, name string, typed string) []impl.Cell {
		n, ok := impl.Enter(s, refNamed(t, name), typed)
		if !ok {
			t.Fatalf("Enter(%s)", name)
		}
		return n
	}
	merges := func(o, x, y []impl.Cell, many int, clash string) {
		t.Helper()
		for _, side := range [][][]impl.Cell{{x, y}, {y, x}} {
			n, places, ok := impl.Merged(o, side[0], side[1])
			if ok != (many >= 0) || len(n) != max(many, 0) || namesOf(places) != clash {
				t.Errorf("%d cells, %s, %v, want %d, %s", len(n), namesOf(places), ok, many, clash)
			}
		}
	}
	merges(s, enter(s, "K1", "1"), s, impl.MaxCells, "")
	merges(s, enter(s, "K1", "1"), enter(s, "K1", "1"), impl.MaxCells, "")
	merges(s, enter(s, "K1", "1"), enter(s, "L1", "1"), -1, "")
	merges(s, enter(s, "K1", "1"), enter(enter(s, "A1", ""), "L1", "1"), impl.MaxCells, "")
	merges(nil, gridCells(impl.MaxCells), moved(gridCells(impl.MaxCells), 20), -1, "")
	merges(nil, gridCells(60), moved(gridCells(60), 20), impl.MaxCells, "")
	merges(nil, gridCells(60), moved(gridCells(61), 20), -1, "")
	// Too many, and places told besides: the places are told.
	merges(s, enter(enter(s, "K1", "1"), "A1", "8"), enter(enter(s, "L1", "1"), "A1", "9"), -1, "A1")
	merges(nil, gridCells(impl.MaxCells), moved(gridCells(impl.MaxCells), 9), -1, "")
	clashing := moved(gridCells(impl.MaxCells), 9)
	for i := range clashing {
		clashing[i].Source = "8"
	}
	merges(nil, gridCells(impl.MaxCells), clashing, -1, "J1 J2 J3 J4 J5 J6 J7 J8 J9 J10 J11 J12")
	all := gridCells(impl.MaxCells)
	for i := range all {
		all[i].Source = "'x"
	}
	var places []impl.Ref
	for _, c := range all {
		places = append(places, c.At)
	}
	merges(nil, all, gridCells(impl.MaxCells), -1, namesOf(places))
	merges(all, gridCells(impl.MaxCells), nil, -1, namesOf(places))
	merges(all, all, nil, 0, "")
}

func TestP9NoSheet(t *testing.T) {
	s := sheetOf(t, "A1 1; B2 2")
	for _, wrong := range wrongSheets() {
		for _, pair := range [][][]impl.Cell{{wrong, s}, {s, wrong}, {wrong, wrong}, {wrong, nil}, {nil, wrong}} {
			if list := impl.DiffOf(pair[0], pair[1]); len(list) != 0 {
				t.Errorf("DiffOf(%v, %v) = %v", pair[0], pair[1], list)
			}
		}
		patchesNot(t, wrong, nil)
		patchesNot(t, wrong, changesOf(t, "AZ99 >5"))
		for _, three := range [][][]impl.Cell{{wrong, s, s}, {s, wrong, s}, {s, s, wrong}, {wrong, wrong, wrong}, {nil, nil, wrong}, {wrong, nil, nil}, {sheetOf(t, "C3 1"), sheetOf(t, "C3 2"), wrong}, {wrong, sheetOf(t, "C3 1"), sheetOf(t, "C3 2")}} {
			if n, clash, ok := impl.Merged(three[0], three[1], three[2]); ok || len(n) != 0 || len(clash) != 0 {
				t.Errorf("Merged(%v) = %v, %v", three, n, clash)
			}
		}
	}
}

func plainAt(s []impl.Cell, r impl.Ref) string {
	for _, c := range s {
		if c.At == r {
			return c.Source
		}
	}
	return ""
}

// plainMerged goes from place to place and asks each sheet.
func plainMerged(o []impl.Cell, x []impl.Cell, y []impl.Cell) ([]impl.Cell, []impl.Ref) {
	var n []impl.Cell
	var clash []impl.Ref
	var places []impl.Ref
	for _, c := range slices.Concat(o, x, y) {
		places = append(places, c.At)
	}
	slices.SortFunc(places, plainOrder)
	for _, r := range slices.Compact(places) {
		was, one, other := plainAt(o, r), plainAt(x, r), plainAt(y, r)
		source := one
		if one == was {
			source = other
		}
		if one != was && other != was && one != other {
			clash = append(clash, r)
		}
		if source != "" {
			n = append(n, impl.Cell{At: r, Source: source})
		}
	}
	if len(clash) > 0 {
		return nil, clash
	}
	return n, nil
}

func TestP9ThrownSheetsMergeAndDiffer(t *testing.T) {
	d := dice(9)
	changed := func(s []impl.Cell) []impl.Cell {
		for range d.below(5) {
			s, _ = d.entered(t, s)
		}
		return s
	}
	merged, clashed := 0, 0
	for range 3000 {
		o := d.sheet(t, d.below(22))
		x, y := changed(o), changed(o)
		n, clash, ok := impl.Merged(o, x, y)
		want, places := plainMerged(o, x, y)
		if ok != (len(places) == 0) || !slices.Equal(n, want) || !slices.Equal(clash, places) {
			t.Fatalf("Merged(%s, %s, %s) = %s, %v, want %s, %v", cellsShown(o), cellsShown(x), cellsShown(y), cellsShown(n), clash, cellsShown(want), places)
		}
		if m, other, fine := impl.Merged(o, y, x); fine != ok || !slices.Equal(m, n) || !slices.Equal(other, clash) {
			t.Fatalf("Merged(%s) of the sides the other way round: %s, %v", cellsShown(o), cellsShown(m), other)
		}
		if ok {
			merged++
		} else {
			clashed++
		}
		list := impl.DiffOf(x, y)
		for i, c := range list {
			if c.From == c.To || c.From != plainAt(x, c.At) || c.To != plainAt(y, c.At) || i > 0 && plainOrder(list[i-1].At, c.At) >= 0 {
				t.Fatalf("DiffOf(%s, %s) = %v", cellsShown(x), cellsShown(y), list)
			}
		}
		if n, ok := impl.Patched(x, list); !ok || !slices.Equal(n, y) {
			t.Fatalf("%s patched by %v: %s, want %s", cellsShown(x), list, cellsShown(n), cellsShown(y))
		}
		if n, ok := impl.Patched(y, impl.Turned(list)); !ok || !slices.Equal(n, x) {
			t.Fatalf("%s patched back by %v: %s, want %s", cellsShown(y), list, cellsShown(n), cellsShown(x))
		}
		if back := impl.DiffOf(y, x); len(back) != len(list) {
			t.Fatalf("DiffOf the other way round: %v, %v", list, back)
		}
	}
	if merged < 1000 || clashed < 300 {
		t.Errorf("%d merged, %d clashed", merged, clashed)
	}
}

func TestP9ArgumentsAreNotWrittenAndAnswersAreNew(t *testing.T) {
	o := append(sheetOf(t, "A1 1; B1 2"), at(9, 9, "spare"), at(9, 9, "spare"))
	x := append(sheetOf(t, "A1 3; B1 2"), at(9, 9, "spare"), at(9, 9, "spare"))
	y := append(sheetOf(t, "A1 1; B1 4"), at(9, 9, "spare"), at(9, 9, "spare"))
	list := append(changesOf(t, "A1 1>3; A1 3>5; C1 >7"), impl.Change{To: "spare"}, impl.Change{To: "spare"})
	cells, changes := slices.Concat(o, x, y), slices.Clone(list)
	for range 2 {
		n, _, ok := impl.Merged(o[:2], x[:2], y[:2])
		same, _, fine := impl.Merged(o[:2], o[:2], o[:2])
		_, clash, clean := impl.Merged(nil, x[:2], y[:2])
		p, right := impl.Patched(o[:2], list[:3])
		none, empty := impl.Patched(o[:2], nil)
		diff, turned := impl.DiffOf(o[:2], x[:2]), impl.Turned(list[:3])
		if !ok || !fine || clean || !right || !empty || cellsShown(n) != "A1 3; B1 4" || namesOf(clash) != "A1 B1" || cellsShown(p) != "A1 5; B1 2; C1 7" || len(diff) != 1 || len(turned) != 3 {
			t.Errorf("%v, %v, %v, %v, %v, %v", n, same, clash, p, diff, turned)
		}
		for _, s := range [][]impl.Cell{n, same, p, none} {
			for i := range s {
				s[i] = impl.Cell{}
			}
			_ = append(s, impl.Cell{})
		}
		for i := range clash {
			clash[i] = impl.Ref{}
		}
		for i := range turned {
			turned[i] = impl.Change{}
		}
		_ = append(turned, impl.Change{})
		if !slices.Equal(slices.Concat(o, x, y), cells) || !slices.Equal(list, changes) {
			t.Errorf("written: %v, %v, %v, %v", o, x, y, list)
		}
	}
}
