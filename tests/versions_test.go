package tests

import (
	"fmt"
	"math"
	"regexp"
	"slices"
	"strconv"
	"strings"
	"testing"

	"loop.example/g00267/impl"
)

// dagOf answers, right or not, the Dag of "4 | a 2, main 3 | 1 | 2 1: A1 5; B1 x | 3 1 2" and the like: Next, branches, versions.
func dagOf(t *testing.T, text string) impl.Dag {
	t.Helper()
	number := func(s string) int64 {
		n, err := strconv.ParseInt(s, 10, 64)
		if err != nil {
			t.Fatalf("%q in %q", s, text)
		}
		return n
	}
	parts := strings.Split(text, " | ")
	d := impl.Dag{Next: number(parts[0])}
	for _, b := range strings.Split(parts[1], ", ") {
		if i := strings.LastIndex(b, " "); i >= 0 {
			d.Branches = append(d.Branches, impl.Branch{Name: b[:i], Head: number(b[i+1:])})
		}
	}
	for _, part := range parts[2:] {
		ids, typed, _ := strings.Cut(part, ": ")
		v := impl.Version{Sheet: sheetOf(t, typed)}
		for i, id := range strings.Fields(ids) {
			if i == 0 {
				v.Id = number(id)
			} else {
				v.Ups = append(v.Ups, number(id))
			}
		}
		d.Versions = append(d.Versions, v)
	}
	return d
}

// dagShown answers the text that dagOf takes; where it is the same, the Dags are.
func dagShown(d impl.Dag) string {
	var branches, parts []string
	for _, b := range d.Branches {
		branches = append(branches, fmt.Sprintf("%s %d", b.Name, b.Head))
	}
	for _, v := range d.Versions {
		part := strings.Trim(fmt.Sprint(append([]int64{v.Id}, v.Ups...)), "[]")
		if len(v.Sheet) > 0 {
			part += ": " + cellsShown(v.Sheet)
		}
		parts = append(parts, part)
	}
	return fmt.Sprintf("%d | %s | %s", d.Next, strings.Join(branches, ", "), strings.Join(parts, " | "))
}

// dagCopy shares nothing with d.
func dagCopy(d impl.Dag) impl.Dag {
	n := impl.Dag{Next: d.Next, Branches: append([]impl.Branch{}, d.Branches...)}
	for _, v := range d.Versions {
		n.Versions = append(n.Versions, impl.Version{Id: v.Id, Ups: append([]int64{}, v.Ups...), Sheet: append([]impl.Cell{}, v.Sheet...)})
	}
	return n
}

func isNoDag(d impl.Dag) bool { return d.Next == 0 && len(d.Versions) == 0 && len(d.Branches) == 0 }

// row answers that many versions, each from the one ahead of it, with main on the last one.
func row(many int) impl.Dag {
	d := impl.Dag{Next: int64(many) + 1, Branches: []impl.Branch{{Name: "main", Head: int64(many)}}}
	for i := range many {
		v := impl.Version{Id: int64(i) + 1, Sheet: []impl.Cell{at(1, 1, strconv.Itoa(i))}}
		if i > 0 {
			v.Ups = []int64{int64(i)}
		}
		d.Versions = append(d.Versions, v)
	}
	return d
}

// withBranches answers d with that many branches on its first version.
func withBranches(d impl.Dag, many int) impl.Dag {
	d.Branches = nil
	for i := range many {
		d.Branches = append(d.Branches, impl.Branch{Name: string(rune('b' + i)), Head: d.Versions[0].Id})
	}
	return d
}

const twoSides = "5 | a 4, main 3 | 1 | 2 1: A1 1 | 3 2: A1 1; B1 2 | 4 2: A1 9"

func rightDags(t *testing.T) []impl.Dag {
	t.Helper()
	list := []impl.Dag{impl.DagNew(), row(impl.MaxVersions - 1), row(impl.MaxVersions), withBranches(row(3), impl.MaxBranches-1), withBranches(row(3), impl.MaxBranches)}
	for _, text := range []string{
		twoSides, "2 | main 1 | 1", "2 | main 1 | 1: A1 1", "3 | main 1 | 1", "9 | main 1 | 1", "1000000000 | main 1 | 1", "1000000000 | main 999999999 | 999999999", "1000000000 | main 999999998 | 999999998 | 999999999 999999998",
		"9 | main 8 | 8", "9 | main 7 | 7 | 8", "9 | main 8 | 2 | 5 | 8 2 5", "4 | main 3 | 1 | 2 | 3", "4 | main 3 | 1 | 2 1 | 3 1 2", "5 | main 4 | 1 | 2 1 | 3 1 2 | 4 1 3", "5 | a 1, b 1, c 4 | 1 | 2 1 | 3 1 | 4 2 3",
		"2 | z 1 | 1", "2 | abcdefghijkl 1 | 1", "2 | a 1, aa 1, ab 1, b 1, zzzzzzzzzzzz 1 | 1", "2 | dag 1, main 1, version 1 | 1",
		"5 | main 4 | 1 | 4 1: A1 'a b; B1 =\"x\"\"y\"; C1 #REF!; A2 '#; AZ99 ' ",
	} {
		list = append(list, dagOf(t, text))
	}
	for _, s := range rightSheets() {
		d := dagOf(t, twoSides)
		d.Versions[1].Sheet = s
		list = append(list, d)
	}
	return list
}

func wrongDags(t *testing.T) []impl.Dag {
	t.Helper()
	list := []impl.Dag{{}, row(impl.MaxVersions + 1), row(100), withBranches(row(3), impl.MaxBranches+1), withBranches(row(3), 20)}
	for _, text := range []string{
		// Next
		"1 | main 1 | 1", "0 | main 1 | 1", "-1 | main 1 | 1", "1000000001 | main 1 | 1", "1000000001 | main 1000000000 | 1000000000", "9223372036854775807 | main 1 | 1", "-9223372036854775808 | main 1 | 1",
		// no version, Ids
		"2 | main 1", "2 | main 0 | 0", "2 | main 1 | 0 | 1", "2 | main 1 | -1 | 1", "3 | main 3 | 3", "3 | main 1 | 1 | 3", "3 | main 1 | 1 | 4", "3 | main 2 | 2 | 1", "4 | main 3 | 1 | 3 | 2", "3 | main 1 | 1 | 1", "3 | main 2 | 1 | 2 | 2", "2 | main 1 | 1 | 9223372036854775807", "2 | main 1 | -9223372036854775808 | 1",
		// Ups
		"5 | main 4 | 1 | 2 | 3 | 4 1 2 3", "5 | main 4 | 1 | 2 | 3 | 4 2 1", "5 | main 4 | 1 | 2 | 3 | 4 2 2", "5 | main 4 | 1 | 2 | 3 | 4 4", "5 | main 4 | 1 | 2 | 3 | 4 1 4", "5 | main 4 | 1 | 2 3 | 3 | 4", "5 | main 4 | 1 | 2 1 3 | 3 | 4", "5 | main 4 | 1 | 2 3 | 3 2 | 4", "5 | main 4 | 1 | 2 | 4 3", "5 | main 4 | 1 | 2 | 4 2 3", "5 | main 4 | 1 | 4 0", "5 | main 4 | 1 | 4 0 1", "5 | main 4 | 1 | 4 -1", "5 | main 4 | 1 | 4 5", "5 | main 4 | 1 | 4 1 9", "2 | main 1 | 1 1", "2 | main 1 | 1 0", "5 | main 4 | 1 | 2 2 | 4 1",
		// branches
		"2 |  | 1", "4 | b 1, a 1 | 1", "4 | a 1, a 1 | 1", "4 | a 1, a 2 | 1 | 2", "4 | a 1, c 1, b 1 | 1", "4 | aa 1, a 1 | 1", "2 | abcdefghijklm 1 | 1", "2 |  1 | 1",
		"2 | Main 1 | 1", "2 | mai1 1 | 1", "2 | ma in 1 | 1", "2 | main  1 | 1", "2 | ma-in 1 | 1", "2 | ` 1 | 1", "2 | { 1 | 1", "2 | a\n 1 | 1", "2 | \x00 1 | 1", "2 | \xe4 1 | 1", "2 | ä 1 | 1", "2 | a,b 1 | 1", "2 | abc\xff 1 | 1",
		"2 | main 0 | 1", "2 | main 2 | 1", "2 | main -1 | 1", "9 | main 3 | 1 | 2 | 4", "9 | a 1, main 5 | 1 | 2", "9 | a 5, main 1 | 1 | 2",
	} {
		list = append(list, dagOf(t, text))
	}
	for i, s := range wrongSheets() {
		d := dagOf(t, twoSides)
		d.Versions[i%4].Sheet = s
		list = append(list, d)
	}
	return list
}

func TestP10RightVersions(t *testing.T) {
	for _, d := range rightDags(t) {
		if !impl.DagOk(d) {
			t.Errorf("counts as not right: %s", dagShown(d))
		}
	}
	if d := impl.DagNew(); dagShown(d) != "2 | main 1 | 1" {
		t.Errorf("new: %s", dagShown(d))
	}
}

func TestP10VersionsThatAreNotRight(t *testing.T) {
	for _, d := range wrongDags(t) {
		what := dagShown(d)
		if impl.DagOk(d) {
			t.Errorf("counts as right: %s", what)
		}
		names := []string{"main", "a", "", "zz"}
		ids := []int64{1, 2, 0, -1, 9}
		for _, b := range d.Branches {
			names, ids = append(names, b.Name), append(ids, b.Head)
		}
		for _, id := range ids {
			if s, ok := impl.SheetAt(d, id); ok || len(s) != 0 {
				t.Errorf("SheetAt(%s, %d) = %v", what, id, s)
			}
			if l, n := impl.Above(d, id), impl.Lca(d, id, id); len(l) != 0 || n != 0 {
				t.Errorf("Above and Lca of %s, %d: %v, %d", what, id, l, n)
			}
		}
		for i, name := range names {
			if head := impl.HeadOf(d, name); head != 0 {
				t.Errorf("HeadOf(%s, %q) = %d", what, name, head)
			}
			for _, s := range [][]impl.Cell{nil, gridCells(2), {{}}} {
				if n, id, code := impl.Committed(d, name, s); !isNoDag(n) || id != 0 || code != impl.DgWrong {
					t.Errorf("Committed(%s, %q) = %s, %d, %d", what, name, dagShown(n), id, code)
				}
			}
			for _, id := range ids {
				if n, code := impl.Branched(d, name, id); !isNoDag(n) || code != impl.DgWrong {
					t.Errorf("Branched(%s, %q, %d) = %s, %d", what, name, id, dagShown(n), code)
				}
			}
			if n, places, code := impl.MergedIn(d, name, names[len(names)-1-i]); !isNoDag(n) || len(places) != 0 || code != impl.DgWrong {
				t.Errorf("MergedIn(%s, %q) = %s, %v, %d", what, name, dagShown(n), places, code)
			}
		}
		if n, ok := impl.Swept(d); ok || !isNoDag(n) {
			t.Errorf("Swept(%s) = %s", what, dagShown(n))
		}
		if text := impl.DagText(d); text != "" {
			t.Errorf("DagText(%s) = %q", what, text)
		}
		if n, ok := impl.ReadDag(plainText(d)); ok || !isNoDag(n) {
			t.Errorf("ReadDag takes the text of %s: %s", what, dagShown(n))
		}
	}
}

func TestP10SheetsAndHeads(t *testing.T) {
	d := dagOf(t, "99 | a 7, b 3, main 98 | 3: A1 5 | 7: B2 x; C3 =B2 | 98 3 7")
	for id, want := range map[int64]string{3: "A1 5", 7: "B2 'x; C3 =B2", 98: ""} {
		if s, ok := impl.SheetAt(d, id); !ok || cellsShown(s) != want {
			t.Errorf("SheetAt(%d) = %s, %v", id, cellsShown(s), ok)
		}
	}
	for _, id := range []int64{0, 1, 2, 4, 6, 8, 97, 99, 100, -3, impl.MaxId, math.MaxInt64, math.MinInt64} {
		if s, ok := impl.SheetAt(d, id); ok || len(s) != 0 {
			t.Errorf("SheetAt(%d) = %v", id, s)
		}
		if l := impl.Above(d, id); len(l) != 0 {
			t.Errorf("Above(%d) = %v", id, l)
		}
		for _, other := range []int64{3, 98, id} {
			if x, y := impl.Lca(d, id, other), impl.Lca(d, other, id); x != 0 || y != 0 {
				t.Errorf("Lca of %d and %d: %d, %d", id, other, x, y)
			}
		}
	}
	for name, want := range map[string]int64{"a": 7, "b": 3, "main": 98, "": 0, "c": 0, "A": 0, "mai": 0, "maina": 0, "main ": 0, " main": 0, "ab": 0, "abcdefghijklmnop": 0, "\x00": 0} {
		if got := impl.HeadOf(d, name); got != want {
			t.Errorf("HeadOf(%q) = %d, want %d", name, got, want)
		}
	}
}

func TestP10AboveAndWhatTwoComeFrom(t *testing.T) {
	// 1 and 2 come from nothing, 3 and 4 from both crosswise, 9 from nothing besides.
	const d = "12 | main 11 | 1 | 2 | 3 1 2 | 4 1 2 | 5 3 | 6 4 | 7 3 4 | 8 5 6 | 9 | 10 9 | 11 7 10"
	for id, want := range map[int64]string{1: "1", 2: "2", 3: "1 2 3", 4: "1 2 4", 5: "1 2 3 5", 7: "1 2 3 4 7", 8: "1 2 3 4 5 6 8", 9: "9", 10: "9 10", 11: "1 2 3 4 7 9 10 11"} {
		if got := strings.Trim(fmt.Sprint(impl.Above(dagOf(t, d), id)), "[]"); got != want {
			t.Errorf("Above(%d) = %s, want %s", id, got, want)
		}
	}
	for _, c := range [][3]int64{
		// A version and itself, one above the other, several in common, none in common.
		{1, 1, 1}, {9, 9, 9}, {11, 11, 11}, {1, 3, 1}, {2, 3, 2}, {3, 5, 3}, {1, 8, 1}, {7, 11, 7}, {9, 11, 9}, {3, 4, 2}, {5, 6, 2}, {5, 7, 3}, {6, 7, 4}, {7, 8, 4}, {8, 11, 4}, {1, 2, 0}, {1, 9, 0}, {8, 10, 0}, {7, 9, 0}, {2, 10, 0}, {10, 11, 10},
	} {
		x, y := impl.Lca(dagOf(t, d), c[0], c[1]), impl.Lca(dagOf(t, d), c[1], c[0])
		if x != c[2] || y != c[2] {
			t.Errorf("Lca of %d and %d: %d, %d, want %d", c[0], c[1], x, y, c[2])
		}
	}
	full := row(impl.MaxVersions)
	if l := impl.Above(full, impl.MaxVersions); len(l) != impl.MaxVersions || l[0] != 1 || !slices.IsSorted(l) {
		t.Errorf("a full row: %v", l)
	}
	if n := impl.Lca(full, impl.MaxVersions, 17); n != 17 {
		t.Errorf("Lca in a full row: %d", n)
	}
}

// A web has two Ups nearly everywhere: ways up there are more than could be gone one by one.
func TestP10Webs(t *testing.T) {
	d := row(impl.MaxVersions)
	for i := 2; i < len(d.Versions); i++ {
		d.Versions[i].Ups = []int64{int64(i) - 1, int64(i)}
	}
	if l := impl.Above(d, impl.MaxVersions); len(l) != impl.MaxVersions {
		t.Errorf("%d above", len(l))
	}
	if n, ok := impl.Swept(d); !ok || dagShown(n) != dagShown(d) {
		t.Errorf("swept: %s", dagShown(n))
	}
}

// commits asks that all stays as it is but for the new version and the head.
func commits(t *testing.T, d impl.Dag, name string, s []impl.Cell) impl.Dag {
	t.Helper()
	n, id, code := impl.Committed(d, name, s)
	want, wantId, wantCode := plainCommitted(d, name, s)
	if code != impl.DgDone || code != wantCode || id != wantId || dagShown(n) != dagShown(want) || !impl.DagOk(n) {
		t.Fatalf("Committed(%s, %s) = %s, %d, %d", dagShown(d), name, dagShown(n), id, code)
	}
	return n
}

func commitsNot(t *testing.T, d impl.Dag, name string, s []impl.Cell, want int64) {
	t.Helper()
	n, id, code := impl.Committed(d, name, s)
	if code != want || id != 0 || dagShown(n) != dagShown(d) {
		t.Errorf("Committed(%s, %q, %v) = %s, %d, %d, want %d", dagShown(d), name, s, dagShown(n), id, code, want)
	}
}

func plainCommitted(d impl.Dag, name string, s []impl.Cell) (impl.Dag, int64, int64) {
	n := dagCopy(d)
	i := slices.IndexFunc(d.Branches, func(b impl.Branch) bool { return b.Name == name })
	if i < 0 {
		return n, 0, impl.DgBranch
	}
	if !impl.SheetOk(s) {
		return n, 0, impl.DgSheet
	}
	if len(d.Versions) == impl.MaxVersions || d.Next == impl.MaxId {
		return n, 0, impl.DgFull
	}
	n.Versions = append(n.Versions, impl.Version{Id: d.Next, Ups: []int64{d.Branches[i].Head}, Sheet: s})
	n.Branches[i].Head = d.Next
	n.Next++
	return n, d.Next, impl.DgDone
}

func TestP10WhatIsCommittedIsTheHeadAndAllOthersStay(t *testing.T) {
	for _, d := range rightDags(t) {
		for _, b := range d.Branches {
			for _, s := range rightSheets() {
				if len(d.Versions) == impl.MaxVersions || d.Next == impl.MaxId {
					commitsNot(t, d, b.Name, s, impl.DgFull)
					continue
				}
				n := commits(t, d, b.Name, s)
				head := impl.HeadOf(n, b.Name)
				if got, ok := impl.SheetAt(n, head); head != d.Next || !ok || !slices.Equal(got, s) {
					t.Fatalf("%s committed to %s: %d, %v", dagShown(d), b.Name, head, got)
				}
				if l := impl.Above(n, head); !slices.Equal(l, append(impl.Above(d, b.Head), head)) {
					t.Fatalf("above what was committed to %s: %v", dagShown(d), l)
				}
			}
		}
	}
	d := commits(t, dagOf(t, "9 | a 2, main 2 | 2: A1 5"), "a", sheetOf(t, "A1 7"))
	if dagShown(d) != "10 | a 9, main 2 | 2: A1 5 | 9 2: A1 7" {
		t.Errorf("committed: %s", dagShown(d))
	}
}

func TestP10CommitsThatAreRefused(t *testing.T) {
	full, last := row(impl.MaxVersions), dagOf(t, "1000000000 | main 4 | 4")
	both := row(impl.MaxVersions)
	both.Next = impl.MaxId
	none := []string{"", "a", "mai", "maina", "Main", "main ", "ab cd", "abcdefghijklm"}
	for _, d := range []impl.Dag{dagOf(t, twoSides), full, last, both} {
		for _, wrong := range wrongSheets() {
			for _, name := range none[2:] {
				commitsNot(t, d, name, wrong, impl.DgBranch)
			}
			commitsNot(t, d, "main", wrong, impl.DgSheet)
		}
		commitsNot(t, d, "", nil, impl.DgBranch)
		commitsNot(t, d, "zz", gridCells(impl.MaxCells), impl.DgBranch)
	}
	for _, d := range []impl.Dag{full, last, both} {
		commitsNot(t, d, "main", nil, impl.DgFull)
		commitsNot(t, d, "main", gridCells(impl.MaxCells), impl.DgFull)
	}
	// The last one that there is room for.
	n := commits(t, row(impl.MaxVersions-1), "main", nil)
	commitsNot(t, n, "main", nil, impl.DgFull)
	n = commits(t, dagOf(t, "999999999 | main 4 | 4"), "main", nil)
	if dagShown(n) != "1000000000 | main 999999999 | 4 | 999999999 4" {
		t.Errorf("the last Id: %s", dagShown(n))
	}
	commitsNot(t, n, "main", nil, impl.DgFull)
}

func TestP10Branched(t *testing.T) {
	for _, c := range []struct {
		dag, name string
		from      int64
		want      string
	}{
		{"2 | main 1 | 1", "a", 1, "2 | a 1, main 1 | 1"}, {"2 | main 1 | 1", "z", 1, "2 | main 1, z 1 | 1"}, {"2 | main 1 | 1", "mai", 1, "2 | mai 1, main 1 | 1"}, {"2 | main 1 | 1", "maina", 1, "2 | main 1, maina 1 | 1"}, {"2 | a 1, main 1 | 1", "b", 1, "2 | a 1, b 1, main 1 | 1"}, {"2 | main 1 | 1", "abcdefghijkl", 1, "2 | abcdefghijkl 1, main 1 | 1"},
		{"9 | main 7 | 2: A1 1 | 3 2 | 7 2 3: B1 2", "a", 3, "9 | a 3, main 7 | 2: A1 1 | 3 2 | 7 2 3: B1 2"}, {"9 | main 2 | 2 | 3 | 8", "z", 8, "9 | main 2, z 8 | 2 | 3 | 8"}, {"1000000000 | main 4 | 4", "a", 4, "1000000000 | a 4, main 4 | 4"},
		{"2 | a 1, b 1, c 1, d 1, e 1, f 1, h 1 | 1", "g", 1, "2 | a 1, b 1, c 1, d 1, e 1, f 1, g 1, h 1 | 1"},
	} {
		n, code := impl.Branched(dagOf(t, c.dag), c.name, c.from)
		if code != impl.DgDone || dagShown(n) != c.want || !impl.DagOk(n) || impl.HeadOf(n, c.name) != c.from {
			t.Errorf("Branched(%s, %q, %d) = %s, %d", c.dag, c.name, c.from, dagShown(n), code)
		}
	}
	if n, code := impl.Branched(row(impl.MaxVersions), "a", 40); code != impl.DgDone || impl.HeadOf(n, "a") != 40 || len(n.Versions) != impl.MaxVersions {
		t.Errorf("of a full row: %d", code)
	}
}

func TestP10BranchesThatAreRefused(t *testing.T) {
	full := withBranches(row(3), impl.MaxBranches)
	for _, d := range []impl.Dag{dagOf(t, "9 | b 2, c 5, main 2 | 2 | 5 | 8"), full, withBranches(row(3), impl.MaxBranches-1)} {
		branches := func(name string, from int64, want int64) {
			t.Helper()
			if n, code := impl.Branched(d, name, from); code != want || dagShown(n) != dagShown(d) {
				t.Errorf("Branched(%s, %q, %d) = %s, %d, want %d", dagShown(d), name, from, dagShown(n), code, want)
			}
		}
		for _, from := range []int64{2, 9, 0} {
			for _, name := range []string{"", "b", "c", "abcdefghijklm", "A", "B", "a1", "a b", " a", "a ", "a\n", "`", "{", "ä", "\xff", "\x00", strings.Repeat("a", 1000)} {
				branches(name, from, impl.DgName)
			}
		}
		for _, from := range []int64{0, -2, 4, 6, 9, 10, impl.MaxId, math.MaxInt64, math.MinInt64} {
			branches("zz", from, impl.DgVersion)
		}
		if len(d.Branches) == impl.MaxBranches {
			branches("zz", 2, impl.DgFull)
		}
	}
}

// mergesIn asks for the Dag behind the merge, the places and the code.
func mergesIn(t *testing.T, d impl.Dag, into string, from string, want impl.Dag, clash string, wantCode int64) {
	t.Helper()
	n, places, code := impl.MergedIn(d, into, from)
	if code != wantCode || namesOf(places) != clash || dagShown(n) != dagShown(want) {
		t.Errorf("MergedIn(%s, %q, %q) = %s, %s, %d, want %s, %s, %d", dagShown(d), into, from, dagShown(n), namesOf(places), code, dagShown(want), clash, wantCode)
	}
}

func TestP10MergesThatMakeNoVersion(t *testing.T) {
	for _, c := range []struct{ dag, want string }{
		// The Head of from (a) is Above that of into (main): nothing is done.
		{"3 | a 1, main 2 | 1 | 2 1: A1 1", ""}, {"9 | a 1, main 7 | 1: A1 1 | 3 1 | 7 3: A1 2", ""}, {"5 | a 2, main 4 | 1 | 2 1: A1 1 | 3 1 | 4 2 3", ""}, {"5 | a 3, main 4 | 1 | 2 | 3 | 4 2 3: A1 9", ""},
		// Both at once: the same Head.
		{"2 | a 1, main 1 | 1", ""}, {"3 | a 2, main 2 | 1 | 2 1: A1 1", ""},
		// The Head of into is Above that of from: it goes there.
		{"3 | a 2, main 1 | 1 | 2 1: A1 1", "3 | a 2, main 2 | 1 | 2 1: A1 1"}, {"9 | a 7, b 3, main 1 | 1 | 3 1 | 7 3: A1 2", "9 | a 7, b 3, main 7 | 1 | 3 1 | 7 3: A1 2"}, {"5 | a 4, main 3 | 1 | 2 1 | 3 | 4 2 3: B1 7", "5 | a 4, main 4 | 1 | 2 1 | 3 | 4 2 3: B1 7"}, {"5 | a 4, main 2 | 1 | 2 1 | 3 | 4 2 3", "5 | a 4, main 4 | 1 | 2 1 | 3 | 4 2 3"},
	} {
		d, want := dagOf(t, c.dag), dagOf(t, c.dag)
		if c.want != "" {
			want = dagOf(t, c.want)
		}
		mergesIn(t, d, "main", "a", want, "", impl.DgDone)
		d.Next, want.Next = impl.MaxId, impl.MaxId
		mergesIn(t, d, "main", "a", want, "", impl.DgDone)
		for _, b := range d.Branches {
			mergesIn(t, d, b.Name, b.Name, d, "", impl.DgDone)
		}
	}
	full := row(impl.MaxVersions)
	full.Branches = []impl.Branch{{Name: "a", Head: 3}, {Name: "main", Head: 40}}
	mergesIn(t, full, "main", "a", full, "", impl.DgDone)
	mergesIn(t, full, "a", "a", full, "", impl.DgDone)
	ahead := dagCopy(full)
	ahead.Branches[0].Head = 40
	mergesIn(t, full, "a", "main", ahead, "", impl.DgDone)
	ahead.Next, full.Next = impl.MaxId, impl.MaxId
	mergesIn(t, full, "a", "main", ahead, "", impl.DgDone)
}

func TestP10MergesThatMakeAVersion(t *testing.T) {
	for _, c := range []struct{ into, from, dag, want string }{
		{"main", "a", twoSides, "6 | a 4, main 5 | 1 | 2 1: A1 1 | 3 2: A1 1; B1 2 | 4 2: A1 9 | 5 3 4: A1 9; B1 2"}, {"a", "main", twoSides, "6 | a 5, main 3 | 1 | 2 1: A1 1 | 3 2: A1 1; B1 2 | 4 2: A1 9 | 5 3 4: A1 9; B1 2"},
		{"main", "a", "9 | a 2, main 3 | 1: A1 1 | 2 1 | 3 1: A1 1; B1 2", "10 | a 2, main 9 | 1: A1 1 | 2 1 | 3 1: A1 1; B1 2 | 9 2 3: B1 2"}, {"main", "a", "4 | a 3, b 2, main 2 | 1 | 2 1 | 3 1", "5 | a 3, b 2, main 4 | 1 | 2 1 | 3 1 | 4 2 3"},
		// Both changed a place alike.
		{"main", "a", "4 | a 3, main 2 | 1: A1 1 | 2 1: A1 5 | 3 1: A1 5; C1 3", "5 | a 3, main 4 | 1: A1 1 | 2 1: A1 5 | 3 1: A1 5; C1 3 | 4 2 3: A1 5; C1 3"},
		// Nothing in common: what they come from is empty.
		{"main", "a", "3 | a 2, main 1 | 1: A1 1 | 2: A1 1; B1 2", "4 | a 2, main 3 | 1: A1 1 | 2: A1 1; B1 2 | 3 1 2: A1 1; B1 2"}, {"main", "a", "3 | a 1, main 2 | 1: A1 1 | 2", "4 | a 1, main 3 | 1: A1 1 | 2 | 3 1 2: A1 1"}, {"main", "a", "3 | a 1, main 2 | 1 | 2", "4 | a 1, main 3 | 1 | 2 | 3 1 2"},
		// Of several in common the greatest counts: 2 has A1 1, 1 has it not.
		{"main", "a", "6 | a 5, main 4 | 1 | 2: A1 1 | 3 1 2: A1 1 | 4 1 2 | 5 3: A1 1; B1 1", "7 | a 5, main 6 | 1 | 2: A1 1 | 3 1 2: A1 1 | 4 1 2 | 5 3: A1 1; B1 1 | 6 4 5: B1 1"},
		// The last Id.
		{"main", "a", "999999999 | a 3, main 2 | 1 | 2 1 | 3 1", "1000000000 | a 3, main 999999999 | 1 | 2 1 | 3 1 | 999999999 2 3"},
	} {
		d := dagOf(t, c.dag)
		mergesIn(t, d, c.into, c.from, dagOf(t, c.want), "", impl.DgDone)
		n, _, _ := impl.MergedIn(d, c.into, c.from)
		if !impl.DagOk(n) {
			t.Errorf("not right: %s", dagShown(n))
		}
		hasBoth(t, d, n, c.into, c.from)
		// A second time there is nothing to do, and the other branch only goes there.
		mergesIn(t, n, c.into, c.from, n, "", impl.DgDone)
		there := dagCopy(n)
		for i, b := range n.Branches {
			if b.Name == c.from {
				there.Branches[i].Head = d.Next
			}
		}
		mergesIn(t, n, c.from, c.into, there, "", impl.DgDone)
	}
}

// hasBoth asks that into has above it then all that both had, and what is new.
func hasBoth(t *testing.T, d impl.Dag, n impl.Dag, into string, from string) {
	t.Helper()
	want := slices.Concat(plainAbove(d, impl.HeadOf(d, into)), plainAbove(d, impl.HeadOf(d, from)))
	if n.Next > d.Next {
		want = append(want, d.Next)
	}
	slices.Sort(want)
	if got := impl.Above(n, impl.HeadOf(n, into)); !slices.Equal(got, slices.Compact(want)) {
		t.Errorf("above %s in %s: %v, want %v", into, dagShown(n), got, want)
	}
	for _, b := range d.Branches {
		if b.Name != into && impl.HeadOf(n, b.Name) != b.Head {
			t.Errorf("%s has gone on in %s", b.Name, dagShown(n))
		}
	}
	if dagShown(impl.Dag{Versions: n.Versions[:len(d.Versions)]}) != dagShown(impl.Dag{Versions: d.Versions}) {
		t.Errorf("versions of %s did not stay: %s", dagShown(d), dagShown(n))
	}
}

// filledUp answers d with versions behind the others until there are MaxVersions.
func filledUp(d impl.Dag, less int) impl.Dag {
	n := dagCopy(d)
	for len(n.Versions) < impl.MaxVersions-less {
		n.Versions = append(n.Versions, impl.Version{Id: n.Next})
		n.Next++
	}
	return n
}

func TestP10MergesThatAreRefused(t *testing.T) {
	clashing := dagOf(t, "4 | a 3, main 2 | 1: A1 1 | 2 1: A1 5; C2 1; B1 1 | 3 1: C2 2; D1 1")
	apart := dagOf(t, "3 | a 2, main 1 | 1: A1 1; B1 1 | 2: A1 2; B1 1; AZ99 1")
	tooMany := dagOf(t, "4 | a 3, main 2 | 1 | 2 1 | 3 1")
	tooMany.Versions[1].Sheet, tooMany.Versions[2].Sheet = gridCells(impl.MaxCells), sheetOf(t, "K1 1")
	bothWrong := dagCopy(tooMany)
	bothWrong.Versions[2].Sheet = sheetOf(t, "A1 8; K1 1")
	merging := dagOf(t, "4 | a 3, main 2 | 1 | 2 1: A1 1 | 3 1: B1 1")
	ends := func(d impl.Dag) []impl.Dag {
		last, both := dagCopy(d), filledUp(d, 0)
		last.Next, both.Next = impl.MaxId, impl.MaxId
		return []impl.Dag{filledUp(d, 0), last, both}
	}
	for _, c := range []struct {
		d     impl.Dag
		clash string
		code  int64
	}{{clashing, "A1 C2", impl.DgClash}, {apart, "A1", impl.DgClash}, {tooMany, "", impl.DgSheet}, {bothWrong, "A1", impl.DgClash}} {
		for _, d := range append(ends(c.d), c.d) {
			mergesIn(t, d, "main", "a", d, c.clash, c.code)
			mergesIn(t, d, "a", "main", d, c.clash, c.code)
		}
	}
	for _, d := range ends(merging) {
		mergesIn(t, d, "main", "a", d, "", impl.DgFull)
		mergesIn(t, d, "a", "main", d, "", impl.DgFull)
	}
	room := filledUp(merging, 1)
	if n, _, code := impl.MergedIn(room, "main", "a"); code != impl.DgDone || len(n.Versions) != impl.MaxVersions || !impl.DagOk(n) {
		t.Errorf("the last version: %d", code)
	}
	fits := dagCopy(tooMany)
	fits.Versions[1].Sheet = gridCells(impl.MaxCells - 1)
	if n, _, code := impl.MergedIn(fits, "main", "a"); code != impl.DgDone || len(n.Versions[3].Sheet) != impl.MaxCells {
		t.Errorf("MaxCells: %d", code)
	}
	for _, d := range append(ends(clashing), clashing, merging) {
		for _, names := range [][2]string{{"main", "b"}, {"b", "main"}, {"b", "b"}, {"b", "c"}, {"", "a"}, {"a", ""}, {"", ""}, {"Main", "a"}, {"main", "aa"}, {"main ", "a"}} {
			mergesIn(t, d, names[0], names[1], d, "", impl.DgBranch)
		}
	}
}

func TestP10Swept(t *testing.T) {
	for dag, want := range map[string]string{
		// Where nothing goes.
		"2 | main 1 | 1": "", twoSides: "", "9 | main 5 | 1 | 2: A1 1 | 5 1 2": "", "4 | a 1, b 2, main 3 | 1 | 2 | 3": "",
		// Where all but one goes; Next stays.
		"9 | main 1 | 1: A1 1 | 2 1: A1 2 | 8 2": "9 | main 1 | 1: A1 1", "9 | a 8, main 8 | 1 | 2 1 | 8": "9 | a 8, main 8 | 8", "9 | main 4 | 1 | 2 | 4: B1 x | 8 4": "9 | main 4 | 4: B1 'x",
		// An Up of what stays stays too, however far; what comes from it goes.
		"9 | main 8 | 1 | 2 1 | 3 1 | 4 2 3 | 5 4 | 8 3": "9 | main 8 | 1 | 3 1 | 8 3", "9 | a 4, main 5 | 1 | 2 | 3 | 4 1 | 5 2 | 6 4 5 | 7 3": "9 | a 4, main 5 | 1 | 2 | 4 1 | 5 2", "7 | main 6 | 1 | 2 | 3 1 2 | 4 1 2 | 6 1 4": "7 | main 6 | 1 | 2 | 4 1 2 | 6 1 4",
	} {
		if want == "" {
			want = dag
		}
		n, ok := impl.Swept(dagOf(t, dag))
		if !ok || dagShown(n) != want || !impl.DagOk(n) {
			t.Errorf("Swept(%s) = %s, %v, want %s", dag, dagShown(n), ok, want)
		}
		if again, ok := impl.Swept(n); !ok || dagShown(again) != want {
			t.Errorf("swept again: %s", dagShown(again))
		}
	}
	// Behind a merge all that both had stays.
	n, _, _ := impl.MergedIn(dagOf(t, twoSides), "main", "a")
	n.Branches = n.Branches[1:]
	if s, ok := impl.Swept(n); !ok || dagShown(s) != dagShown(n) {
		t.Errorf("behind a merge: %s", dagShown(s))
	}
	// What is swept makes room.
	d := row(impl.MaxVersions)
	d.Branches[0].Head = 5
	commitsNot(t, d, "main", nil, impl.DgFull)
	s, _ := impl.Swept(d)
	s = commits(t, s, "main", nil)
	if len(s.Versions) != 6 || impl.HeadOf(s, "main") != 41 {
		t.Errorf("swept and committed: %s", dagShown(s))
	}
}

// plainText writes d, right or not.
func plainText(d impl.Dag) string {
	var text strings.Builder
	fmt.Fprintf(&text, "dag %d\n", d.Next)
	for _, b := range d.Branches {
		fmt.Fprintf(&text, "branch %s %d\n", b.Name, b.Head)
	}
	for _, v := range d.Versions {
		fmt.Fprintf(&text, "version %d", v.Id)
		for _, up := range v.Ups {
			fmt.Fprintf(&text, " %d", up)
		}
		text.WriteString("\n")
		for _, c := range v.Sheet {
			fmt.Fprintf(&text, "%s%d %s\n", impl.ColText(c.At.Col), c.At.Row, c.Source)
		}
	}
	return text.String()
}

func TestP10RightVersionsComeBackFromTheirTexts(t *testing.T) {
	greatest := row(impl.MaxVersions)
	for i := range greatest.Versions {
		s := gridCells(impl.MaxCells)
		for j := range s {
			s[j].At.Col, s[j].At.Row = s[j].At.Col+42, s[j].At.Row+87
			s[j].Source = "'" + strings.Repeat("x y", 66) + "#"
		}
		greatest.Versions[i].Sheet = s
	}
	for _, d := range append(rightDags(t), greatest) {
		text := impl.DagText(d)
		if text != plainText(d) {
			t.Errorf("DagText(%s) = %q", dagShown(d), text)
		}
		if n, ok := impl.ReadDag(text); !ok || dagShown(n) != dagShown(d) {
			t.Errorf("%q comes back as %s, %v", text, dagShown(n), ok)
		}
	}
	d := dagOf(t, "9 | a 2, main 8 | 1 | 2 1: A1 a  b ; B1 ' ; C1 '\"; D1 #DIV!; A2 =\" \"\"#\"&A1; AZ99 '#x | 8 1 2")
	want := "dag 9\nbranch a 2\nbranch main 8\nversion 1\nversion 2 1\nA1 'a  b \nB1 ' \nC1 '\"\nD1 #DIV!\nA2 =\" \"\"#\"&A1\nAZ99 '#x\nversion 8 1 2\n"
	if text := impl.DagText(d); text != want {
		t.Errorf("%q, want %q", text, want)
	}
	if n, ok := impl.ReadDag(want); !ok || dagShown(n) != dagShown(d) {
		t.Errorf("%s, %v", dagShown(n), ok)
	}
}

var (
	dagForm  = regexp.MustCompile(`^dag (0|[1-9][0-9]{0,9})\n(branch [a-z]{1,12} [1-9][0-9]{0,9}\n)+(version [1-9][0-9]{0,9}( [1-9][0-9]{0,9})*\n([A-Z]{1,2}[1-9][0-9]? [ -~]+\n)*)+$`)
	cellForm = regexp.MustCompile(`^([A-Z]+)([0-9]+) (.*)$`)
)

// plainRead asks for the form of the whole first, and then only parts it.
func plainRead(text string) (impl.Dag, bool) {
	var d impl.Dag
	if !dagForm.MatchString(text) {
		return d, false
	}
	for _, line := range strings.Split(strings.TrimSuffix(text, "\n"), "\n") {
		var name string
		var a, b, c int64
		if many, _ := fmt.Sscanf(line, "version %d %d %d", &a, &b, &c); many > 0 {
			d.Versions = append(d.Versions, impl.Version{Id: a, Ups: []int64{b, c}[:many-1]})
			if strings.Count(line, " ") != many {
				return d, false
			}
		} else if many, _ := fmt.Sscanf(line, "branch %s %d", &name, &a); many > 0 {
			d.Branches = append(d.Branches, impl.Branch{Name: name, Head: a})
		} else if many, _ := fmt.Sscanf(line, "dag %d", &a); many > 0 {
			d.Next = a
		} else {
			m, v := cellForm.FindStringSubmatch(line), &d.Versions[len(d.Versions)-1]
			row, _ := strconv.ParseInt(m[2], 10, 64)
			v.Sheet = append(v.Sheet, at(impl.ReadCol(m[1]), row, m[3]))
		}
	}
	return d, impl.DagOk(d)
}

// readsAsPlain answers whether there is a Dag of that text.
func readsAsPlain(t *testing.T, text string) bool {
	t.Helper()
	want, right := plainRead(text)
	n, ok := impl.ReadDag(text)
	if ok != right || ok && (dagShown(n) != dagShown(want) || impl.DagText(n) != text) || !ok && !isNoDag(n) {
		t.Fatalf("ReadDag(%q) = %s, %v, want %v", text, dagShown(n), ok, right)
	}
	return ok
}

func TestP10TextsThatAreNone(t *testing.T) {
	for _, text := range []string{
		"", "\n", " ", "dag", "dag\n", "dag 2", "dag 2\n", "dag 2\nbranch main 1\n", "dag 2\nversion 1\n", "branch main 1\nversion 1\n", "\ndag 2\nbranch main 1\nversion 1\n",
		// a last line that is not ended, a line too many
		"dag 2\nbranch main 1\nversion 1", "dag 2\nbranch main 1\nversion 1\n\n", "dag 2\nbranch main 1\nversion 1\nversion 1\n", "dag 2\ndag 2\nbranch main 1\nversion 1\n", "dag 2\nbranch main 1\nversion 1\ndag 2\n", "dag 2\nbranch main 1\nbranch main 1\nversion 1\n", "dag 2\nbranch main 1\nversion 1\nA1\n", "dag 2\nbranch main 1\nversion 1\nA1 \n", "dag 2\nbranch main 1\nversion 1\n A1 1\n", "dag 2\n\nbranch main 1\nversion 1\n", "dag 2\nbranch main 1\nversion 1\n\nA1 1\n", "dag 2\nbranch main 1\nversion 1\nx\n",
		// lines in another order
		"branch main 1\ndag 2\nversion 1\n", "dag 2\nversion 1\nbranch main 1\n", "version 1\nbranch main 1\ndag 2\n", "dag 2\nbranch b 1\nbranch a 1\nversion 1\n", "dag 3\nbranch main 1\nversion 2\nversion 1\n", "dag 2\nbranch main 1\nA1 1\nversion 1\n", "dag 2\nA1 1\nbranch main 1\nversion 1\n", "A1 1\ndag 2\nbranch main 1\nversion 1\n", "dag 2\nbranch main 1\nversion 1\nB1 1\nA1 1\n", "dag 2\nbranch main 1\nversion 1\nA1 1\nA1 1\n", "dag 3\nbranch a 1\nversion 1\nbranch main 2\nversion 2\n",
		// blanks too many, and other bytes
		"dag  2\nbranch main 1\nversion 1\n", " dag 2\nbranch main 1\nversion 1\n", "dag 2 \nbranch main 1\nversion 1\n", "dag 2\nbranch  main 1\nversion 1\n", "dag 2\nbranch main  1\nversion 1\n", "dag 2\nbranch main 1 \nversion 1\n", "dag 2\nbranch main 1\nversion  1\n", "dag 2\nbranch main 1\nversion 1 \n", "dag 2\nbranch main 1\nversion 1\nA1  1\n", "dag 2\nbranch main 1\nversion 1\nA1 1 \n", "dag\t2\nbranch main 1\nversion 1\n", "dag 2\r\nbranch main 1\r\nversion 1\r\n", "dag 2\nbranch main 1\nversion 1\x00\n", "Dag 2\nbranch main 1\nversion 1\n", "dag 2\nbranch main 1\nVersion 1\n",
		// numbers
		"dag 02\nbranch main 1\nversion 1\n", "dag +2\nbranch main 1\nversion 1\n", "dag -2\nbranch main 1\nversion 1\n", "dag 2\nbranch main 01\nversion 1\n", "dag 2\nbranch main 1\nversion 01\n", "dag 3\nbranch main 1\nversion 1\nversion 2 01\n", "dag 2.0\nbranch main 1\nversion 1\n", "dag 2_0\nbranch main 1\nversion 1\n", "dag 0x2\nbranch main 1\nversion 1\n", "dag 9999999999999999999\nbranch main 1\nversion 1\n", "dag 1000000001\nbranch main 1\nversion 1\n", "dag two\nbranch main 1\nversion 1\n", "dag 2\nbranch main\nversion 1\n", "dag 2\nbranch main 1\nversion\n", "dag 2\nbranch main 1\nversion \n", "dag 2\nbranch 1\nversion 1\n", "dag 2\nbranch  1\nversion 1\n", "dag 2\nbranch main 1 1\nversion 1\n", "dag 2 2\nbranch main 1\nversion 1\n", "dag 5\nbranch main 4\nversion 1\nversion 2\nversion 3\nversion 4 1 2 3\n",
		// places and sources
		"dag 2\nbranch main 1\nversion 1\n$A1 1\n", "dag 2\nbranch main 1\nversion 1\nA$1 1\n", "dag 2\nbranch main 1\nversion 1\n$A$1 1\n", "dag 2\nbranch main 1\nversion 1\nA01 1\n", "dag 2\nbranch main 1\nversion 1\nA0 1\n", "dag 2\nbranch main 1\nversion 1\nA100 1\n", "dag 2\nbranch main 1\nversion 1\nBA1 1\n", "dag 2\nbranch main 1\nversion 1\na1 1\n", "dag 2\nbranch main 1\nversion 1\nA1 x\n", "dag 2\nbranch main 1\nversion 1\nA1 007\n", "dag 2\nbranch main 1\nversion 1\nA1 = 1\n", "dag 2\nbranch main 1\nversion 1\nA1 '\x7f\n", "dag 2\nbranch main 1\nversion 1\nA1 'x\ny\n",
	} {
		if readsAsPlain(t, text) {
			t.Errorf("taken: %q", text)
		}
	}
}

func TestP10TextsThatAreSpoilt(t *testing.T) {
	taken, not := 0, 0
	try := func(text string) {
		if readsAsPlain(t, text) {
			taken++
		} else {
			not++
		}
	}
	for _, dag := range []string{"2 | main 1 | 1", twoSides, "12 | ab 11, b 3 | 3: A1 a b; AA10 -5 | 11 3: B2 =\"x\"&A1"} {
		text := impl.DagText(dagOf(t, dag))
		for i := range len(text) {
			try(text[:i])
			try(text[i:])
			try(text[:i] + text[i+1:])
			for _, b := range "\n 0129aAB$'=-v" {
				try(text[:i] + string(b) + text[i:])
				try(text[:i] + string(b) + text[i+1:])
			}
		}
		lines := strings.SplitAfter(text, "\n")
		for i := range lines {
			for j := range lines {
				swapped := slices.Clone(lines)
				swapped[i], swapped[j] = swapped[j], swapped[i]
				try(strings.Join(swapped, ""))
				try(strings.Join(slices.Insert(slices.Clone(lines), j, lines[i]), ""))
			}
			try(strings.Join(slices.Delete(slices.Clone(lines), i, i+1), ""))
		}
	}
	if taken < 200 || not < 5000 {
		t.Errorf("%d taken, %d not", taken, not)
	}
	// Behind a cut at the end of a line a right text may be left.
	text := impl.DagText(dagOf(t, twoSides))
	for i := range len(text) {
		left := strings.HasSuffix(text[:i], "\nversion 4 2\n")
		if n, ok := impl.ReadDag(text[:i]); ok != left {
			t.Errorf("cut at %d: %s", i, dagShown(n))
		}
	}
}

func TestP10TextsOfTooManyLinesOrBytes(t *testing.T) {
	text := impl.DagText(impl.DagNew())
	head := strings.Count(text, "\n")
	for _, lines := range []int{4849, 9999, 10000, 10001, 20000} {
		for _, line := range []string{"\n", "A1 1\n", "version 1\n", "branch z 1\n", "dag 2\n"} {
			if n, ok := impl.ReadDag(text + strings.Repeat(line, lines-head)); ok || !isNoDag(n) {
				t.Errorf("%d lines of %q", lines, line)
			}
		}
	}
	for _, bytes := range []int{1999999, 2000000, 2000001, 4000000} {
		for _, ends := range [][2]string{{text + "A1 '", "\n"}, {text + "A1 '", ""}, {text[:len(text)-1] + " ", "\n"}, {"dag ", "\n"}, {"", ""}} {
			for _, b := range []string{"x", "1", " ", "\n"} {
				if n, ok := impl.ReadDag(ends[0] + strings.Repeat(b, bytes-len(ends[0])-len(ends[1])) + ends[1]); ok || !isNoDag(n) {
					t.Errorf("%d bytes of %q", bytes, b)
				}
			}
		}
	}
}

// plainAbove goes once from the last version to the first: what a version comes from stands ahead of it.
func plainAbove(d impl.Dag, id int64) []int64 {
	wanted := []int64{id}
	var found []int64
	for _, v := range slices.Backward(d.Versions) {
		if slices.Contains(wanted, v.Id) {
			found = append(found, v.Id)
			wanted = append(wanted, v.Ups...)
		}
	}
	slices.Reverse(found)
	return found
}

func plainLca(d impl.Dag, a int64, b int64) int64 {
	for _, id := range slices.Backward(plainAbove(d, a)) {
		if slices.Contains(plainAbove(d, b), id) {
			return id
		}
	}
	return 0
}

func plainSheet(d impl.Dag, id int64) []impl.Cell {
	for _, v := range d.Versions {
		if v.Id == id {
			return v.Sheet
		}
	}
	return nil
}

// plainMergedIn does what is asked of two branches that are there.
func plainMergedIn(d impl.Dag, into int, from int) (impl.Dag, []impl.Ref, int64) {
	n := dagCopy(d)
	head, other := d.Branches[into].Head, d.Branches[from].Head
	common := plainLca(d, head, other)
	if common == other {
		return n, nil, impl.DgDone
	}
	if common == head {
		n.Branches[into].Head = other
		return n, nil, impl.DgDone
	}
	s, clash := plainMerged(plainSheet(d, common), plainSheet(d, head), plainSheet(d, other))
	if len(clash) > 0 {
		return n, clash, impl.DgClash
	}
	if len(s) > impl.MaxCells {
		return n, nil, impl.DgSheet
	}
	n, _, code := plainCommitted(d, d.Branches[into].Name, s)
	if code == impl.DgDone {
		n.Versions[len(n.Versions)-1].Ups = []int64{min(head, other), max(head, other)}
	}
	return n, nil, code
}

func plainSwept(d impl.Dag) impl.Dag {
	n := dagCopy(d)
	n.Versions = slices.DeleteFunc(n.Versions, func(v impl.Version) bool {
		return !slices.ContainsFunc(d.Branches, func(b impl.Branch) bool { return slices.Contains(plainAbove(d, b.Head), v.Id) })
	})
	return n
}

// asksAll asks of each version what it comes from, and that the whole comes back from its text.
func asksAll(t *testing.T, d impl.Dag) {
	t.Helper()
	if n, ok := impl.ReadDag(impl.DagText(d)); !ok || dagShown(n) != dagShown(d) || impl.DagText(d) != plainText(d) {
		t.Fatalf("%s comes back as %s, %v", dagShown(d), dagShown(n), ok)
	}
	for _, v := range d.Versions {
		if got := impl.Above(d, v.Id); !slices.Equal(got, plainAbove(d, v.Id)) {
			t.Fatalf("Above(%s, %d) = %v", dagShown(d), v.Id, got)
		}
		if s, ok := impl.SheetAt(d, v.Id); !ok || !slices.Equal(s, v.Sheet) {
			t.Fatalf("SheetAt(%s, %d) = %s", dagShown(d), v.Id, cellsShown(s))
		}
		other := d.Versions[(int(v.Id)*7)%len(d.Versions)].Id
		if x, y := impl.Lca(d, v.Id, other), impl.Lca(d, other, v.Id); x != y || x != plainLca(d, v.Id, other) {
			t.Fatalf("Lca of %d and %d in %s: %d, %d", v.Id, other, dagShown(d), x, y)
		}
	}
}

// change answers the sheet with little changed, so that a merge may come off or not.
func (d *dice) change(t *testing.T, s []impl.Cell) []impl.Cell {
	t.Helper()
	for range d.below(3) {
		s, _ = d.entered(t, s)
	}
	return s
}

// A history is a Dag on which steps are thrown, and how they ended.
type history struct {
	dag   impl.Dag
	codes map[int64]int
	still int
	swept int
}

func (h *history) commit(t *testing.T, name string, s []impl.Cell) {
	t.Helper()
	want, wantId, wantCode := plainCommitted(h.dag, name, s)
	n, id, code := impl.Committed(h.dag, name, s)
	if dagShown(n) != dagShown(want) || id != wantId || code != wantCode {
		t.Fatalf("Committed(%s, %s) = %s, %d, %d", dagShown(h.dag), name, dagShown(n), id, code)
	}
	h.dag = n
	h.codes[code]++
}

func (h *history) branch(t *testing.T, name string, from int64) {
	t.Helper()
	want := dagCopy(h.dag)
	n, code := impl.Branched(h.dag, name, from)
	if code == impl.DgDone {
		i := slices.IndexFunc(want.Branches, func(b impl.Branch) bool { return b.Name > name })
		if i < 0 {
			i = len(want.Branches)
		}
		want.Branches = slices.Insert(want.Branches, i, impl.Branch{Name: name, Head: from})
	}
	if dagShown(n) != dagShown(want) {
		t.Fatalf("Branched(%s, %s, %d) = %s, %d", dagShown(h.dag), name, from, dagShown(n), code)
	}
	h.dag = n
	h.codes[code]++
}

func (h *history) merge(t *testing.T, into int, from int) {
	t.Helper()
	name, other := h.dag.Branches[into].Name, h.dag.Branches[from].Name
	want, places, wantCode := plainMergedIn(h.dag, into, from)
	n, clash, code := impl.MergedIn(h.dag, name, other)
	if dagShown(n) != dagShown(want) || !slices.Equal(clash, places) || code != wantCode {
		t.Fatalf("MergedIn(%s, %s, %s) = %s, %v, %d", dagShown(h.dag), name, other, dagShown(n), clash, code)
	}
	if code == impl.DgDone {
		hasBoth(t, h.dag, n, name, other)
		h.still += int(h.dag.Next + 1 - n.Next)
	}
	h.dag = n
	h.codes[code]++
}

// sweep lets a branch go first, as long as there are many.
func (h *history) sweep(t *testing.T, gone int) {
	t.Helper()
	if len(h.dag.Branches) > 3 {
		h.dag.Branches = slices.Delete(h.dag.Branches, gone, gone+1)
	}
	n, ok := impl.Swept(h.dag)
	if !ok || dagShown(n) != dagShown(plainSwept(h.dag)) {
		t.Fatalf("Swept(%s) = %s", dagShown(h.dag), dagShown(n))
	}
	h.swept += len(h.dag.Versions) - len(n.Versions)
	h.dag = n
}

func TestP10ThrownHistories(t *testing.T) {
	d := dice(10)
	h := history{codes: map[int64]int{}}
	for range 60 {
		h.dag = impl.DagNew()
		for range 100 {
			branches, versions := h.dag.Branches, h.dag.Versions
			one, other := d.below(len(branches)), d.below(len(branches))
			switch d.below(20) {
			case 0, 1, 2, 3, 4, 5, 6, 7:
				h.commit(t, branches[one].Name, d.change(t, plainSheet(h.dag, branches[one].Head)))
			case 8, 9:
				h.branch(t, string(rune('a'+d.below(20))), versions[d.below(len(versions))].Id)
			case 10:
				h.sweep(t, one)
			default:
				h.merge(t, one, other)
			}
			if !impl.DagOk(h.dag) {
				t.Fatalf("not right: %s", dagShown(h.dag))
			}
		}
		asksAll(t, h.dag)
	}
	if h.codes[impl.DgDone] < 1000 || h.codes[impl.DgClash] < 100 || h.codes[impl.DgName] < 50 || h.codes[impl.DgFull] < 100 || h.still < 200 || h.swept < 50 {
		t.Errorf("codes %v, %d merges without a version, %d swept", h.codes, h.still, h.swept)
	}
}

// roomy answers d with spare room behind each list.
func roomy(d impl.Dag) impl.Dag {
	n := dagCopy(d)
	for i := range n.Versions {
		v := &n.Versions[i]
		v.Ups = append(v.Ups, 77, 77)[:len(v.Ups)]
		v.Sheet = append(v.Sheet, at(77, 77, "spare"), at(77, 77, "spare"))[:len(v.Sheet)]
	}
	n.Versions = append(n.Versions, impl.Version{Id: 77}, impl.Version{Id: 77})[:len(n.Versions)]
	n.Branches = append(n.Branches, impl.Branch{Name: "spare"}, impl.Branch{Name: "spare"})[:len(n.Branches)]
	return n
}

// withRoom tells what stands in d and in the spare room behind it.
func withRoom(d impl.Dag) string {
	text := fmt.Sprint(d, d.Versions[:cap(d.Versions)], d.Branches[:cap(d.Branches)])
	for _, v := range d.Versions {
		text += fmt.Sprint(v.Ups[:cap(v.Ups)], v.Sheet[:cap(v.Sheet)])
	}
	return text
}

// overwrite asks that no two lists share memory, and writes into each, the room behind it too.
func overwrite(t *testing.T, d impl.Dag) {
	t.Helper()
	want := dagShown(d)
	for i := range d.Versions {
		_ = append(d.Versions[i].Ups, 66, 66, 66)
		_ = append(d.Versions[i].Sheet, at(66, 66, "over"), at(66, 66, "over"))
	}
	_ = append(d.Branches, impl.Branch{Name: "over"})
	_ = append(d.Versions, impl.Version{Id: 66})
	if dagShown(d) != want {
		t.Errorf("shared room: %s", want)
	}
	for i := range d.Versions {
		was := dagCopy(d)
		for j := range d.Versions[i].Ups {
			d.Versions[i].Ups[j] = 55
			was.Versions[i].Ups[j] = 55
		}
		for j := range d.Versions[i].Sheet {
			d.Versions[i].Sheet[j] = at(55, 55, "over")
			was.Versions[i].Sheet[j] = at(55, 55, "over")
		}
		if dagShown(d) != dagShown(was) {
			t.Errorf("shared lists: %s", want)
		}
	}
	for i := range d.Branches {
		d.Branches[i] = impl.Branch{}
	}
	for i := range d.Versions {
		d.Versions[i] = impl.Version{}
	}
}

func TestP10ArgumentsAreNotWrittenAndAnswersAreNew(t *testing.T) {
	d := roomy(dagOf(t, "9 | a 4, b 2, c 5, main 3 | 1 | 2 1: A1 1 | 3 1 2: A1 1; B1 2 | 4 1 2: A1 9 | 5 2: A1 7 | 6 5"))
	// Versions whose lists are one and the same.
	d.Versions[5].Sheet, d.Versions[5].Ups = d.Versions[1].Sheet, d.Versions[4].Ups
	s := append(sheetOf(t, "A1 5; B1 6"), at(77, 77, "spare"), at(77, 77, "spare"))
	cells, before := slices.Clone(s), withRoom(d)
	for range 2 {
		var answers []impl.Dag
		for _, name := range []string{"main", "none"} {
			n, _, _ := impl.Committed(d, name, s[:2])
			m, _ := impl.Branched(d, name+"x", 2)
			o, _ := impl.Branched(d, name, 2)
			answers = append(answers, n, m, o)
		}
		for _, names := range [][2]string{{"main", "a"}, {"main", "b"}, {"b", "main"}, {"a", "c"}, {"a", "none"}, {"a", "a"}} {
			n, clash, _ := impl.MergedIn(d, names[0], names[1])
			for i := range clash {
				clash[i] = impl.Ref{}
			}
			answers = append(answers, n)
		}
		n, _ := impl.Swept(d)
		m, _ := impl.ReadDag(impl.DagText(d))
		for _, answer := range append(answers, n, m, impl.DagNew()) {
			if !impl.DagOk(answer) {
				t.Errorf("not right: %s", dagShown(answer))
			}
			overwrite(t, answer)
		}
		for _, v := range d.Versions {
			got, _ := impl.SheetAt(d, v.Id)
			_ = append(got, impl.Cell{})
			for i := range got {
				got[i] = impl.Cell{}
			}
			above := impl.Above(d, v.Id)
			for i := range above {
				above[i] = 0
			}
		}
		if withRoom(d) != before || !slices.Equal(s, cells) {
			t.Fatalf("written: %s, %v", withRoom(d), s)
		}
	}
}
