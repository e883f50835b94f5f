package tests

import (
	"math"
	"slices"
	"strings"
	"testing"

	"loop.example/g00267/impl"
)

// plainAttempt takes right versions; it asks each cell of both sheets whether it is otherwise where the macro looked.
func plainAttempt(d impl.Dag, name string, base int64, m []impl.Stmt, fuel int64) (impl.Dag, int64, int64) {
	n := dagCopy(d)
	i := slices.IndexFunc(d.Branches, func(b impl.Branch) bool { return b.Name == name })
	if i < 0 {
		return n, 0, impl.TxBranch
	}
	if !slices.Contains(plainAbove(d, d.Branches[i].Head), base) {
		return n, 0, impl.TxBase
	}
	from, to := plainSheet(d, base), plainSheet(d, d.Branches[i].Head)
	if !impl.MacroOk(m) || fuel < 0 || fuel > impl.MaxFuel {
		return n, 0, impl.TxMacro
	}
	r := plainRan(from, m, fuel)
	if r.code != impl.McDone {
		return n, 0, impl.TxMacro
	}
	for _, c := range slices.Concat(from, to) {
		if plainAt(from, c.At) != plainAt(to, c.At) && slices.ContainsFunc(r.areas, func(a impl.Area) bool { return has(a, c.At) }) {
			return n, 0, impl.TxConflict
		}
	}
	s, many := to, len(to)
	for _, at := range r.places {
		many++
		s = plainEnter(s, at, plainAt(r.sheet, at))
	}
	if many > impl.MaxCells {
		return n, 0, impl.TxFull
	}
	n, id, code := plainCommitted(d, name, s)
	if code != impl.DgDone {
		return n, 0, impl.TxFull
	}
	return n, id, impl.TxDone
}

// attempts asks for all that the promise says of a transaction, and answers what came of it.
func attempts(t *testing.T, d impl.Dag, name string, base int64, m []impl.Stmt, fuel int64) (impl.Dag, int64) {
	t.Helper()
	n, id, code := impl.Attempt(d, name, base, m, fuel)
	want, wantId, wantCode := plainAttempt(d, name, base, m, fuel)
	if code != wantCode || id != wantId || dagShown(n) != dagShown(want) || !impl.DagOk(n) {
		t.Fatalf("Attempt(%s, %q, %d, %s, %d) = %s, %d, %d, want %s, %d, %d", dagShown(d), name, base, macroShown(m), fuel, dagShown(n), id, code, dagShown(want), wantId, wantCode)
	}
	if code != impl.TxDone {
		if id != 0 || dagShown(n) != dagShown(d) {
			t.Fatalf("refused with %d, and changed: %s", code, dagShown(n))
		}
		if code == impl.TxConflict && base == impl.HeadOf(d, name) {
			t.Fatalf("a conflict from the head: %s, %s", dagShown(d), macroShown(m))
		}
		return n, code
	}
	s, serial := impl.Serial(d, name, m, fuel)
	got, ok := impl.SheetAt(n, id)
	if serial != impl.McDone || !ok || !slices.Equal(got, s) || id != d.Next || impl.HeadOf(n, name) != id {
		t.Fatalf("Attempt(%s, %s, %d, %s) has done %s, on the head the macro does %s, %d", dagShown(d), name, base, macroShown(m), cellsShown(got), cellsShown(s), serial)
	}
	return n, code
}

// tries asks for the code, and for the sheet of the head then.
func tries(t *testing.T, d impl.Dag, name string, base int64, macro string, fuel int64, wantCode int64, want string) {
	t.Helper()
	n, code := attempts(t, d, name, base, macroOf(t, macro), fuel)
	if code != wantCode {
		t.Errorf("Attempt(%s, %q, %d, %s, %d): %d, want %d", dagShown(d), name, base, macro, fuel, code, wantCode)
		return
	}
	if s, _ := impl.SheetAt(n, impl.HeadOf(n, name)); code == impl.TxDone && cellsShown(s) != want {
		t.Errorf("Attempt(%s, %q, %d, %s): %s, want %s", dagShown(d), name, base, macro, cellsShown(s), want)
	}
}

// Version 5 is of main, 4 of a, both come from 3 and so on; 6 comes from nothing, 7 from main's head, 8 from a's.
const manySides = "12 | a 4, b 7, c 8, d 6, main 5 | 1 | 2 1: A1 5; B1 =A1 | 3 2: A1 5; B1 =A1; C1 7 | 4 3: A1 6; B1 =A1; C1 7 | 5 3: A1 5; B1 =A1; C1 8; D1 =C1 | 6: Z9 1 | 7 5: A1 1 | 8 4 6: A1 2"

func TestP12WhatIsDoneIsWhatTheMacroDoesOnTheHead(t *testing.T) {
	d := dagOf(t, manySides)
	for _, c := range []struct {
		name  string
		base  int64
		macro string
		want  string
	}{
		// The Head itself.
		{"main", 5, "", "A1 5; B1 =A1; C1 8; D1 =C1"}, {"main", 5, "put A1 9", "A1 9; B1 =A1; C1 8; D1 =C1"}, {"main", 5, "set E1 D1+B1", "A1 5; B1 =A1; C1 8; D1 =C1; E1 13"}, {"main", 5, "set A1 SUM(A1:AZ99)", "A1 26; B1 =A1; C1 8; D1 =C1"}, {"d", 6, "put Z9 ", ""},
		// One ahead of it, and far above; what differs was not looked at.
		{"main", 3, "", "A1 5; B1 =A1; C1 8; D1 =C1"}, {"main", 3, "set E1 B1", "A1 5; B1 =A1; C1 8; D1 =C1; E1 5"}, {"main", 3, "set A1 A1+1; set E1 B1", "A1 6; B1 =A1; C1 8; D1 =C1; E1 6"}, {"main", 2, "set E1 B1", "A1 5; B1 =A1; C1 8; D1 =C1; E1 5"}, {"main", 1, "put E1 5; set F1 E1", "A1 5; B1 =A1; C1 8; D1 =C1; E1 5; F1 5"}, {"main", 1, "set E1 SUM(E1:AZ99)", "A1 5; B1 =A1; C1 8; D1 =C1; E1 0"}, {"c", 6, "set Z9 Z8+1; abort Z8", "A1 2; Z9 1"}, {"c", 1, "put B1 1", "A1 2; B1 1"},
		// Places that differ and were set without a look: what the macro left there counts.
		{"main", 1, "put A1 1; put C1 ", "A1 1; B1 =A1; D1 =C1"}, {"main", 3, "put C1 1; put D1 =A1", "A1 5; B1 =A1; C1 1; D1 =A1"}, {"main", 1, "put D1 ", "A1 5; B1 =A1; C1 8"}, {"main", 3, "set C1 B1", "A1 5; B1 =A1; C1 5; D1 =C1"}, {"main", 1, "put E1 ; put A1 3; put A1 4", "A1 4; B1 =A1; C1 8; D1 =C1"}, {"a", 3, "put A1 5", "A1 5; B1 =A1; C1 7"},
		// A formula that was put is not looked at, whatever it leans on.
		{"main", 1, "put E1 =C1+D1", "A1 5; B1 =A1; C1 8; D1 =C1; E1 =C1+D1"}, {"a", 3, "put E1 =B1", "A1 6; B1 =A1; C1 7; E1 =B1"},
		// A part that was passed over is not looked at.
		{"main", 3, "unless 1 FALSE; set E1 C1; set F1 A1", "A1 5; B1 =A1; C1 8; D1 =C1; F1 5"},
	} {
		tries(t, d, c.name, c.base, c.macro, 9, impl.TxDone, c.want)
	}
	n, _ := attempts(t, d, "main", 2, macroOf(t, "set E1 B1+1"), 1)
	if want := strings.Replace(manySides, "12 | a 4, b 7, c 8, d 6, main 5", "13 | a 4, b 7, c 8, d 6, main 12", 1) + " | 12 5: A1 5; B1 =A1; C1 8; D1 =C1; E1 6"; dagShown(n) != want {
		t.Errorf("%s, want %s", dagShown(n), want)
	}
}

func TestP12Conflicts(t *testing.T) {
	d := dagOf(t, manySides)
	for _, c := range []struct {
		name  string
		base  int64
		macro string
	}{
		// Another source, one that is new, one that is gone; as a cell, in an area, behind formulas, in a condition.
		{"main", 3, "set E1 C1"}, {"main", 3, "set E1 D1"}, {"main", 3, "set E1 SUM(C1:C9)"}, {"main", 3, "set E1 COUNT(A1:AZ99)"}, {"main", 3, "abort C1=0"}, {"main", 3, "unless 1 C1=0; put E1 1"}, {"main", 3, "put E1 1; while 1 D1>0"}, {"main", 1, "set E1 A1"}, {"main", 1, "set E1 B1"}, {"main", 2, "set E1 SUM(B1:C1)"}, {"b", 5, "abort D1=0"}, {"b", 5, "abort E1+C1=0"}, {"c", 6, "set A1 A1"},
		// Behind a formula: B1 is the same on both, A1 is not.
		{"a", 3, "set E1 B1"}, {"a", 2, "abort B1=0"}, {"c", 3, "set E1 SUM(B1:B1)"},
		// Behind a formula that the macro itself has put.
		{"main", 3, "put E1 =C1; set F1 E1"}, {"main", 3, "put E1 =F1; put F1 =G1+D1; abort E1<0"},
		// The side that is not taken counts too, and one look among many.
		{"main", 3, "set E1 IF(TRUE,A1,C1)"}, {"main", 3, "set E1 A1; set E1 B1; abort Z1; set E1 C1; put E1 "},
		// What the macro had set there ahead does not help.
		{"main", 3, "put C1 1; set E1 C1"}, {"main", 1, "put A1 1; put B1 1; set E1 A1"},
	} {
		tries(t, d, c.name, c.base, c.macro, 9, impl.TxConflict, "")
	}
	// Not the values count but the sources.
	same := dagOf(t, "4 | main 3 | 1: A1 5; B1 =A1 | 2 1: A1 =5 | 3 2: A1 =5; B1 =A1")
	tries(t, same, "main", 1, "set C1 A1", 9, impl.TxConflict, "")
	tries(t, same, "main", 1, "set C1 B1", 9, impl.TxConflict, "")
	// What came back is as it was, whatever it was between.
	back := dagOf(t, "5 | main 4 | 1: A1 5; B1 =A1 | 2 1: A1 9 | 3 2 | 4 3: A1 5; B1 =A1; C1 1")
	tries(t, back, "main", 1, "set D1 B1", 9, impl.TxDone, "A1 5; B1 =A1; C1 1; D1 5")
	tries(t, back, "main", 2, "set D1 B1", 9, impl.TxConflict, "")
	tries(t, back, "main", 3, "put A1 1; put B1 2; put C1 3", 9, impl.TxDone, "A1 1; B1 2; C1 3")
	// At the edges of an area.
	edges := dagOf(t, "3 | main 2 | 1 | 2 1: B2 1")
	for span, code := range map[string]int64{"A1:C3": impl.TxConflict, "B2:B2": impl.TxConflict, "A1:B2": impl.TxConflict, "B2:C3": impl.TxConflict, "A2:AZ2": impl.TxConflict, "B1:B99": impl.TxConflict, "A1:A99": impl.TxDone, "C1:AZ99": impl.TxDone, "A1:AZ1": impl.TxDone, "A3:AZ99": impl.TxDone, "A1:C1": impl.TxDone, "C2:C2": impl.TxDone} {
		tries(t, edges, "main", 1, "set Z50 COUNT("+span+")", 9, code, "B2 1; Z50 0")
	}
}

func TestP12BranchesAndBases(t *testing.T) {
	d := dagOf(t, manySides)
	for _, name := range []string{"", "e", "mai", "maina", "Main", "main ", " main", "aa", "A", "abcdefghijklm", "a\n", "\x00", "ä", strings.Repeat("a", 1000)} {
		for _, base := range []int64{1, 5, 0, 99} {
			for _, m := range append(wrongMacros(t)[:9], nil, puts(3), macroOf(t, "abort 1")) {
				for _, fuel := range []int64{9, -1} {
					if _, code := attempts(t, d, name, base, m, fuel); code != impl.TxBranch {
						t.Errorf("%q: %d", name, code)
					}
				}
			}
			for _, fuel := range []int64{9, -1} {
				if s, code := impl.Serial(d, name, nil, fuel); code != -1 || len(s) != 0 {
					t.Errorf("Serial on %q: %v, %d", name, s, code)
				}
			}
		}
	}
	above := map[string][]int64{"main": {1, 2, 3, 5}, "a": {1, 2, 3, 4}, "b": {1, 2, 3, 5, 7}, "c": {1, 2, 3, 4, 6, 8}, "d": {6}}
	for name, ids := range above {
		for _, base := range []int64{1, 2, 3, 4, 5, 6, 7, 8, 9, 10, 11, 12, 13, 0, -1, -5, impl.MaxId, math.MaxInt64, math.MinInt64} {
			want := int64(impl.TxBase)
			if slices.Contains(ids, base) {
				want = impl.TxDone
			}
			for _, m := range [][]impl.Stmt{nil, puts(2)} {
				if _, code := attempts(t, d, name, base, m, 9); code != want {
					t.Errorf("%s from %d: %d, want %d", name, base, code, want)
				}
			}
			// A base that is none is told ahead of a macro that is not done.
			if want == impl.TxDone {
				want = impl.TxMacro
			}
			for _, m := range [][]impl.Stmt{macroOf(t, "abort 1"), wrongMacros(t)[0], wrongMacros(t)[7]} {
				if _, code := attempts(t, d, name, base, m, 9); code != want {
					t.Errorf("%s from %d: %d, want %d", name, base, code, want)
				}
			}
		}
	}
}

func TestP12MacrosThatAreNotDone(t *testing.T) {
	d := dagOf(t, manySides)
	for _, base := range []int64{5, 3, 1} {
		for _, m := range wrongMacros(t) {
			if _, code := attempts(t, d, "main", base, m, 9); code != impl.TxMacro {
				t.Errorf("%v: %d", m, code)
			}
		}
		for _, fuel := range []int64{-1, impl.MaxFuel + 1, math.MaxInt64, math.MinInt64} {
			tries(t, d, "main", base, "", fuel, impl.TxMacro, "")
			tries(t, d, "main", base, "put A1 1", fuel, impl.TxMacro, "")
		}
		tries(t, d, "main", base, "abort TRUE", 9, impl.TxMacro, "")
		tries(t, d, "main", base, "put A1 1; put B1 2", 1, impl.TxMacro, "")
		tries(t, d, "main", base, "put A1 1", 0, impl.TxMacro, "")
		tries(t, d, "main", base, "set A1 A1+1; while 1 TRUE", impl.MaxFuel, impl.TxMacro, "")
		tries(t, d, "main", base, "", 0, impl.TxDone, "A1 5; B1 =A1; C1 8; D1 =C1")
	}
	// It is the base that counts: what would abort or be done on the Head is not asked.
	tries(t, d, "main", 3, "abort C1=7", 9, impl.TxMacro, "")
	tries(t, d, "main", 3, "abort C1=8", 9, impl.TxConflict, "")
	tries(t, d, "main", 5, "abort C1=7", 9, impl.TxDone, "A1 5; B1 =A1; C1 8; D1 =C1")
	// Not done is told ahead of a conflict, and of no room.
	tries(t, d, "main", 3, "set E1 C1; abort 1", 9, impl.TxMacro, "")
	tries(t, d, "main", 3, "set E1 C1; set F1 D1", 1, impl.TxMacro, "")
	last := dagCopy(d)
	last.Next = impl.MaxId
	for _, full := range []impl.Dag{last, filledUp(d, 0)} {
		tries(t, full, "main", 3, "abort 1", 9, impl.TxMacro, "")
		tries(t, full, "main", 3, "set E1 C1", 9, impl.TxConflict, "")
		tries(t, full, "main", 9, "", 9, impl.TxBase, "")
		tries(t, full, "e", 3, "", 9, impl.TxBranch, "")
		tries(t, full, "main", 3, "", 9, impl.TxFull, "")
		tries(t, full, "main", 5, "set E1 C1", 9, impl.TxFull, "")
	}
}

// roomFor answers a base of few cells and a Head that has that many, all of the base among them.
func roomFor(t *testing.T, many int) impl.Dag {
	t.Helper()
	d := dagOf(t, "4 | main 3 | 1 | 2 1: A1 7; B1 7 | 3 2")
	d.Versions[2].Sheet = gridCells(many)
	return d
}

func TestP12Room(t *testing.T) {
	for _, c := range []struct {
		many  int
		base  int64
		macro string
		code  int64
		left  int
	}{
		{impl.MaxCells - 1, 2, "put K1 5", impl.TxDone, impl.MaxCells}, {impl.MaxCells - 1, 2, "put K1 5; put L1 5", impl.TxFull, 0}, {impl.MaxCells - 2, 2, "put K1 5; put L1 5", impl.TxDone, impl.MaxCells}, {impl.MaxCells, 2, "put K1 5", impl.TxFull, 0}, {impl.MaxCells, 2, "", impl.TxDone, impl.MaxCells},
		// Places that the Head has already count beside its cells, whatever is left there: just MaxCells together, and one more.
		{impl.MaxCells, 2, "put A1 5", impl.TxFull, 0}, {impl.MaxCells, 2, "put A1 ", impl.TxFull, 0}, {impl.MaxCells, 2, "put J12 7", impl.TxFull, 0}, {impl.MaxCells - 1, 2, "put A1 5", impl.TxDone, impl.MaxCells - 1}, {impl.MaxCells - 1, 2, "put A1 ", impl.TxDone, impl.MaxCells - 2}, {impl.MaxCells - 1, 2, "set A1 B1", impl.TxDone, impl.MaxCells - 1}, {impl.MaxCells - 1, 2, "put A1 5; put B1 5", impl.TxFull, 0}, {impl.MaxCells - 1, 2, "put A1 ; put B1 ", impl.TxFull, 0}, {impl.MaxCells - 1, 2, "put A1 5; put K1 5", impl.TxFull, 0}, {impl.MaxCells - 2, 2, "put A1 5; put B1 5", impl.TxDone, impl.MaxCells - 2}, {impl.MaxCells - 2, 2, "put A1 5; put K1 5", impl.TxDone, impl.MaxCells - 1}, {impl.MaxCells - 2, 2, "put A1 ; put K1 5", impl.TxDone, impl.MaxCells - 2}, {impl.MaxCells - 3, 2, "put C3 ; put J9 5; set B1 A1", impl.TxDone, impl.MaxCells - 4}, {impl.MaxCells - 2, 2, "put C3 ; put J9 5; set B1 A1", impl.TxFull, 0},
		// A place that is set again counts once.
		{impl.MaxCells - 1, 2, "put A1 5; put A1 6; put A1 ", impl.TxDone, impl.MaxCells - 2}, {impl.MaxCells - 1, 2, "put K1 5; put K1 6", impl.TxDone, impl.MaxCells}, {impl.MaxCells - 2, 2, "put A1 5; put B1 5; put A1 6", impl.TxDone, impl.MaxCells - 2},
		// Places set to "" count, those that the Head has not, too.
		{impl.MaxCells, 2, "put K1 ", impl.TxFull, 0}, {impl.MaxCells - 1, 2, "put K1 ", impl.TxDone, impl.MaxCells - 1}, {impl.MaxCells - 1, 2, "put K1 5; put K1 ", impl.TxDone, impl.MaxCells - 1}, {impl.MaxCells - 1, 2, "put K1 5; put K1 ; put L1 5", impl.TxFull, 0}, {impl.MaxCells - 1, 2, "put K1 ; put L1 ", impl.TxFull, 0}, {impl.MaxCells, 2, "put A1 ; put K1 5", impl.TxFull, 0}, {impl.MaxCells - 2, 2, "put K1 ; put L1 ", impl.TxDone, impl.MaxCells - 2},
		// From the Head, too: there the macro itself may be done, or have no room.
		{impl.MaxCells, 3, "put A1 ; put K1 5", impl.TxFull, 0}, {impl.MaxCells, 3, "put K1 5", impl.TxMacro, 0}, {impl.MaxCells, 3, "set A1 B1", impl.TxFull, 0}, {impl.MaxCells, 3, "abort A1=0", impl.TxDone, impl.MaxCells}, {impl.MaxCells - 1, 3, "set A1 B1", impl.TxDone, impl.MaxCells - 1}, {impl.MaxCells - 1, 3, "put K1 5", impl.TxDone, impl.MaxCells}, {impl.MaxCells - 1, 3, "put K1 5; put K1 ; put L1 5", impl.TxFull, 0},
		// A conflict is told ahead of no room.
		{impl.MaxCells, 2, "set K1 A1", impl.TxFull, 0}, {impl.MaxCells, 2, "set K1 C1", impl.TxConflict, 0},
	} {
		d := roomFor(t, c.many)
		n, code := attempts(t, d, "main", c.base, macroOf(t, c.macro), 9)
		if s, _ := impl.SheetAt(n, 4); code != c.code || len(s) != c.left {
			t.Errorf("%s on %d cells from %d: %d, %d cells, want %d", c.macro, c.many, c.base, code, len(s), c.code)
		}
	}
	// A base that has more than the Head: only the Head counts.
	d := dagOf(t, "4 | main 3 | 1 | 2 1 | 3 2: A1 1")
	d.Versions[1].Sheet = gridCells(impl.MaxCells)
	tries(t, d, "main", 2, "put A1 5", 9, impl.TxDone, "A1 5")
	tries(t, d, "main", 2, "put A1 5; put K1 5", 9, impl.TxMacro, "")
	tries(t, d, "main", 2, "put A1 5; put B1 ; put K1 5", 9, impl.TxDone, "A1 5; K1 5")
}

func TestP12NoRoomForAVersion(t *testing.T) {
	for _, less := range []int{0, 1} {
		full := filledUp(dagOf(t, manySides), less)
		code := int64(impl.TxFull)
		if less > 0 {
			code = impl.TxDone
		}
		tries(t, full, "main", 5, "", 9, code, "A1 5; B1 =A1; C1 8; D1 =C1")
		tries(t, full, "main", 3, "put A1 1", 9, code, "A1 1; B1 =A1; C1 8; D1 =C1")
	}
	d := dagOf(t, "999999999 | main 4 | 3 | 4 3: B1 1")
	n, id, code := impl.Attempt(d, "main", 3, macroOf(t, "put A1 1"), 9)
	if code != impl.TxDone || id != 999999999 || dagShown(n) != "1000000000 | main 999999999 | 3 | 4 3: B1 1 | 999999999 4: A1 1; B1 1" {
		t.Errorf("the last Id: %s, %d, %d", dagShown(n), id, code)
	}
	tries(t, n, "main", 999999999, "put A1 2", 9, impl.TxFull, "")
	tries(t, n, "main", 4, "set A1 A1", 9, impl.TxConflict, "")
}

func TestP12VersionsThatAreNotRight(t *testing.T) {
	for _, d := range wrongDags(t) {
		names := []string{"main", "a", ""}
		bases := []int64{1, 0, 9}
		for _, b := range d.Branches {
			names, bases = append(names, b.Name), append(bases, b.Head)
		}
		for _, name := range names {
			for i, m := range [][]impl.Stmt{nil, puts(2), macroOf(t, "abort 1"), {{}}} {
				for _, base := range bases {
					if n, id, code := impl.Attempt(d, name, base, m, int64(i*9-9)); !isNoDag(n) || id != 0 || code != impl.TxWrong {
						t.Errorf("Attempt(%s, %q, %d) = %s, %d, %d", dagShown(d), name, base, dagShown(n), id, code)
					}
				}
				if s, code := impl.Serial(d, name, m, int64(i*9-9)); len(s) != 0 || code != -1 {
					t.Errorf("Serial(%s, %q) = %v, %d", dagShown(d), name, s, code)
				}
			}
		}
	}
}

func TestP12SerialIsTheMacroOnTheHead(t *testing.T) {
	macros := append(rightMacros(t), wrongMacros(t)[:30]...)
	macros = append(macros, macroOf(t, "set A1 A1+1; while 1 1"), macroOf(t, "put A1 9; abort 1"), macroOf(t, "put AA1 1; put AA2 1; put AA3 1"))
	codes := map[int64]int{}
	for i, d := range rightDags(t) {
		for j, m := range macros {
			b := d.Branches[j%len(d.Branches)]
			for _, fuel := range []int64{impl.MaxFuel, int64(i % 3), -1, impl.MaxFuel + 1} {
				want, wantCode, _ := impl.RunMacro(plainSheet(d, b.Head), m, fuel)
				if s, code := impl.Serial(d, b.Name, m, fuel); code != wantCode || !slices.Equal(s, want) {
					t.Fatalf("Serial(%s, %s, %s, %d) = %s, %d", dagShown(d), b.Name, macroShown(m), fuel, cellsShown(s), code)
				}
				codes[wantCode]++
			}
		}
	}
	full := roomFor(t, impl.MaxCells)
	if s, code := impl.Serial(full, "main", macroOf(t, "put K1 1"), 9); code != impl.McFull || !slices.Equal(s, gridCells(impl.MaxCells)) {
		t.Errorf("on a full sheet: %s, %d", cellsShown(s), code)
	}
	for _, code := range []int64{impl.McDone, impl.McForm, impl.McFuel, impl.McAbort} {
		if codes[code] == 0 {
			t.Errorf("codes %v", codes)
		}
	}
}

func TestP12RightVersionsTakeTransactions(t *testing.T) {
	codes := map[int64]int{}
	for i, d := range rightDags(t) {
		for j, m := range append(rightMacros(t), wrongMacros(t)[:5]...) {
			b := d.Branches[(i+j)%len(d.Branches)]
			for _, base := range []int64{b.Head, d.Versions[j%len(d.Versions)].Id, 0} {
				_, code := attempts(t, d, b.Name, base, m, impl.MaxFuel)
				codes[code]++
			}
		}
	}
	for _, code := range []int64{impl.TxDone, impl.TxBase, impl.TxMacro, impl.TxConflict, impl.TxFull} {
		if codes[code] == 0 {
			t.Errorf("codes %v", codes)
		}
	}
}

func TestP12ThrownTransactionsAreHeldAgainstPlainOnes(t *testing.T) {
	d := dice(12)
	codes := map[int64]int{}
	elder := 0
	for range 40 {
		dag := impl.DagNew()
		for range 80 {
			branches, versions := dag.Branches, dag.Versions
			b := branches[d.below(len(branches))]
			switch d.below(12) {
			case 0:
				dag, _, _ = impl.Committed(dag, b.Name, d.change(t, plainSheet(dag, b.Head)))
			case 1:
				dag, _ = impl.Branched(dag, string(rune('a'+d.below(4))), versions[d.below(len(versions))].Id)
			case 2:
				dag, _, _ = impl.MergedIn(dag, b.Name, branches[d.below(len(branches))].Name)
			default:
				base := b.Head
				if above := plainAbove(dag, b.Head); d.below(4) > 0 {
					base = above[max(0, len(above)-1-d.below(5))]
				} else if d.below(6) == 0 {
					base = int64(d.below(int(dag.Next) + 1))
				}
				n, code := attempts(t, dag, b.Name, base, d.macro(t, 4), int64(d.below(30)))
				dag = n
				codes[code]++
				if code == impl.TxDone && base != b.Head {
					elder++
				}
			}
		}
	}
	if codes[impl.TxDone] < 300 || codes[impl.TxConflict] < 100 || codes[impl.TxMacro] < 100 || codes[impl.TxBase] < 5 || codes[impl.TxFull] < 50 || elder < 100 {
		t.Errorf("codes %v, %d from an elder version", codes, elder)
	}
}

// All of them begin from the same version; those that are done are as if one had come behind the other.
func TestP12TransactionsAreAsIfOneBehindTheOther(t *testing.T) {
	d := dice(122)
	done, refused := 0, 0
	for range 150 {
		dag, _, _ := impl.Committed(impl.DagNew(), "main", d.sheet(t, d.below(14)))
		base := impl.HeadOf(dag, "main")
		serial := plainSheet(dag, base)
		for range 8 {
			m := d.macro(t, 3)
			n, code := attempts(t, dag, "main", base, m, 20)
			if code == impl.TxDone {
				s, c, _ := impl.RunMacro(serial, m, 20)
				if c != impl.McDone {
					t.Fatalf("%s on %s: %d", macroShown(m), cellsShown(serial), c)
				}
				serial = s
				done++
			} else {
				refused++
			}
			dag = n
		}
		if s, _ := impl.SheetAt(dag, impl.HeadOf(dag, "main")); !slices.Equal(s, serial) {
			t.Fatalf("%s, want %s", cellsShown(s), cellsShown(serial))
		}
	}
	if done < 300 || refused < 200 {
		t.Errorf("%d done, %d refused", done, refused)
	}
}

func TestP12ArgumentsAreNotWrittenAndAnswersAreNew(t *testing.T) {
	d := roomy(dagOf(t, manySides))
	// Versions whose lists are one and the same.
	d.Versions[6].Sheet, d.Versions[6].Ups = d.Versions[4].Sheet, d.Versions[3].Ups
	before := withRoom(d)
	for _, c := range []struct {
		name  string
		base  int64
		lines string
		code  int64
	}{
		{"main", 5, "", impl.TxDone}, {"main", 3, "put A1 1; set E1 A2", impl.TxDone}, {"c", 6, "put Z9 ", impl.TxDone}, {"main", 3, "set E1 C1", impl.TxConflict}, {"main", 3, "abort 1", impl.TxMacro}, {"main", 9, "", impl.TxBase}, {"none", 3, "", impl.TxBranch},
	} {
		m := append(macroOf(t, c.lines), impl.Stmt{Text: "spare"}, impl.Stmt{Text: "spare"})
		stmts := slices.Clone(m)
		first := ""
		for range 2 {
			n, _, code := impl.Attempt(d, c.name, c.base, m[:len(m)-2], 9)
			if first == "" {
				first = dagShown(n)
			}
			if code != c.code || dagShown(n) != first {
				t.Fatalf("%s from %d: %d, %s, and then %s", c.name, c.base, code, first, dagShown(n))
			}
			overwrite(t, n)
			s, _ := impl.Serial(d, c.name, m[:len(m)-2], 9)
			_ = append(s, impl.Cell{})
			for i := range s {
				s[i] = impl.Cell{}
			}
			if withRoom(d) != before || !slices.Equal(m, stmts) {
				t.Fatalf("written: %s, %v", withRoom(d), m)
			}
		}
	}
}
