package tests

import (
	"math"
	"slices"
	"strconv"
	"strings"
	"testing"

	"loop.example/g00267/impl"
)

func cellsShown(s []impl.Cell) string {
	var list []string
	for _, c := range s {
		list = append(list, impl.PlaceText(impl.Place{At: c.At})+" "+c.Source)
	}
	return strings.Join(list, "; ")
}

func areaNamed(t *testing.T, name string) impl.Area {
	t.Helper()
	from, to, _ := strings.Cut(name, ":")
	return impl.Area{From: refNamed(t, from), To: refNamed(t, to)}
}

// editOf answers the edit of "set A1 5", "clear A1:B2", "open 2 1", "close 2 1" or "copy A1:B2 C3".
func editOf(t *testing.T, line string) impl.Edit {
	t.Helper()
	word, rest, _ := strings.Cut(line, " ")
	first, second, _ := strings.Cut(rest, " ")
	row, _ := strconv.ParseInt(first, 10, 64)
	many, _ := strconv.ParseInt(second, 10, 64)
	switch word {
	case "set":
		return impl.Edit{Kind: impl.EdSet, At: refNamed(t, first), Text: second}
	case "clear":
		return impl.Edit{Kind: impl.EdClear, Area: areaNamed(t, first)}
	case "open":
		return impl.Edit{Kind: impl.EdOpen, Row: row, Many: many}
	case "close":
		return impl.Edit{Kind: impl.EdClose, Row: row, Many: many}
	case "copy":
		return impl.Edit{Kind: impl.EdCopy, Area: areaNamed(t, first), At: refNamed(t, second)}
	}
	t.Fatalf("no edit: %q", line)
	return impl.Edit{}
}

func editsOf(t *testing.T, lines string) []impl.Edit {
	t.Helper()
	var list []impl.Edit
	for _, line := range strings.Split(lines, "; ") {
		if line != "" {
			list = append(list, editOf(t, line))
		}
	}
	return list
}

// makes asks that the edit makes want of the sheet, and that what undoes it makes the sheet again.
func makes(t *testing.T, s []impl.Cell, e impl.Edit, want string) {
	t.Helper()
	n, ok := impl.Applied(s, e)
	if !ok || cellsShown(n) != want {
		t.Errorf("%v of %s: %q, %v, want %q", e, cellsShown(s), cellsShown(n), ok, want)
	}
	all, fine := impl.AllApplied(s, []impl.Edit{e})
	if !fine || !slices.Equal(all, n) {
		t.Errorf("%v of %s, as a list: %v", e, cellsShown(s), all)
	}
	undoes(t, s, e)
}

func undoes(t *testing.T, s []impl.Cell, e impl.Edit) {
	t.Helper()
	n, _ := impl.Applied(s, e)
	list, ok := impl.Undo(s, e)
	if !ok || !slices.Equal(list, plainUndo(n, s)) {
		t.Errorf("Undo(%s, %v) = %v, %v", cellsShown(s), e, list, ok)
	}
	if back, fine := impl.AllApplied(n, list); !fine || !slices.Equal(back, s) {
		t.Errorf("%v undone: %s, want %s", e, cellsShown(back), cellsShown(s))
	}
}

// plainUndo tells first what must go, then what must stand there.
func plainUndo(n []impl.Cell, s []impl.Cell) []impl.Edit {
	var list []impl.Edit
	for _, c := range n {
		if !slices.ContainsFunc(s, func(o impl.Cell) bool { return o.At == c.At }) {
			list = append(list, impl.Edit{Kind: impl.EdSet, At: c.At})
		}
	}
	for _, c := range s {
		if !slices.Contains(n, c) {
			list = append(list, impl.Edit{Kind: impl.EdSet, At: c.At, Text: c.Source})
		}
	}
	return list
}

func makesNot(t *testing.T, s []impl.Cell, e impl.Edit) {
	t.Helper()
	if n, ok := impl.Applied(s, e); ok || len(n) != 0 {
		t.Errorf("%v makes %s of %s", e, cellsShown(n), cellsShown(s))
	}
	if list, ok := impl.Undo(s, e); ok || len(list) != 0 {
		t.Errorf("%v is undone by %v", e, list)
	}
	for _, list := range [][]impl.Edit{{e}, {{Kind: impl.EdClear, Area: area(50, 90, 50, 90)}, e}} {
		if n, ok := impl.AllApplied(s, list); ok || len(n) != 0 {
			t.Errorf("%v makes %s of %s", list, cellsShown(n), cellsShown(s))
		}
	}
}

func TestP8EachKindOfEdit(t *testing.T) {
	for _, c := range []struct{ sheet, edit, want string }{
		{"", "set A1 5", "A1 5"}, {"A1 5", "set A1 = B1 +1", "A1 =B1+1"}, {"A1 5; B1 =A1", "set A1 ", "B1 =A1"}, {"A1 5", "set B1 ", "A1 5"}, {"A1 5", "set A1 5", "A1 5"}, {"A1 5", "set A1 005", "A1 5"}, {"B1 5", "set A1 x", "A1 'x; B1 5"}, {"A1 5", "set AZ99 TRUE", "A1 5; AZ99 TRUE"},
		{"A1 5; B1 =A1; A2 x; B2 y", "clear A1:A1", "B1 =A1; A2 'x; B2 'y"}, {"A1 5; B1 =A1; A2 x; B2 y", "clear A1:B1", "A2 'x; B2 'y"}, {"A1 5; B1 =A1; A2 x; B2 y", "clear B1:B2", "A1 5; A2 'x"}, {"A1 5; B1 =A1", "clear A1:AZ99", ""}, {"A1 5; B1 =A1", "clear C1:AZ99", "A1 5; B1 =A1"}, {"", "clear A1:AZ99", ""}, {"AZ99 1; AY99 2; AZ98 3", "clear AZ99:AZ99", "AZ98 3; AY99 2"},
		{"A1 5; A2 6; A3 7", "open 2 1", "A1 5; A3 6; A4 7"}, {"A1 5; A2 6; A3 7", "open 1 2", "A3 5; A4 6; A5 7"}, {"A1 5; A2 6; A3 7", "open 4 9", "A1 5; A2 6; A3 7"}, {"A1 5; A2 =A1; A3 =A2", "open 2 1", "A1 5; A3 =A1; A4 =A3"}, {"A1 =A2; A2 =$A$3", "open 3 10", "A1 =A2; A2 =$A$13"}, {"A1 =SUM(A2:A4)", "open 3 1", "A1 =SUM(A2:A5)"}, {"A1 =SUM(A2:A4)", "open 5 1", "A1 =SUM(A2:A4)"}, {"A1 =SUM(A2:A4)", "open 2 1", "A1 =SUM(A3:A5)"}, {"B1 '=A2; A2 =\"A2\"", "open 1 1", "B2 '=A2; A3 =\"A2\""}, {"", "open 1 1", ""},
		{"A1 5; A2 6; A3 7", "close 2 1", "A1 5; A2 7"}, {"A1 5; A2 6; A3 7", "close 1 2", "A1 7"}, {"A1 5; A2 6; A3 7", "close 1 1", "A1 6; A2 7"}, {"A1 5; A2 6; A3 7", "close 4 1", "A1 5; A2 6; A3 7"}, {"A1 5; A2 6; A3 7", "close 1 99", ""}, {"A1 =A2; A2 =A3; A3 =A1", "close 2 1", "A1 =#REF!; A2 =A1"}, {"A1 =$B$5+B3", "close 4 1", "A1 =$B$4+B3"}, {"B1 '=A2; B2 =A1; B4 =\"A1\"", "close 1 1", "B1 =#REF!; B3 =\"A1\""}, {"", "close 99 99", ""},
		{"A1 5; B1 =A1", "copy A1:B1 A2", "A1 5; B1 =A1; A2 5; B2 =A2"}, {"A1 5; B1 =A1", "copy B1:B1 D5", "A1 5; B1 =A1; D5 =C5"}, {"B2 =$A$1+$A1+A$1+A1", "copy B2:B2 C3", "B2 =$A$1+$A1+A$1+A1; C3 =$A$1+$A2+B$1+B2"}, {"C3 =SUM(A1:B2)", "copy C3:C3 D4", "C3 =SUM(A1:B2); D4 =SUM(B2:C3)"}, {"A1 '=A1; B1 =\"A1\"; C1 TRUE", "copy A1:C1 A9", "A1 '=A1; B1 =\"A1\"; C1 TRUE; A9 '=A1; B9 =\"A1\"; C9 TRUE"}, {"", "copy A1:AZ99 A1", ""},
	} {
		makes(t, sheetOf(t, c.sheet), editOf(t, c.edit), c.want)
	}
}

func TestP8KindsThatAreNone(t *testing.T) {
	s := sheetOf(t, "A1 5; B2 =A1")
	for _, kind := range []int64{0, 6, 7, -1, -5, 10, 1 << 32, 1<<32 + 1, math.MinInt64, math.MaxInt64} {
		makesNot(t, s, impl.Edit{Kind: kind})
		makesNot(t, s, impl.Edit{Kind: kind, At: ref(1, 1), Text: "1", Area: area(1, 1, 2, 2), Row: 1, Many: 1})
	}
}

func TestP8WhatAKindDoesNotNameDoesNotCount(t *testing.T) {
	s := sheetOf(t, "A1 5; B2 =A1; C5 x")
	wrong := impl.Edit{At: ref(-1, 100), Text: "=\n", Area: area(9, 9, 1, 1), Row: -3, Many: 1000}
	for _, e := range editsOf(t, "set B2 7; clear A1:B2; open 2 3; close 2 2; copy A1:B2 B2") {
		full := wrong
		full.Kind = e.Kind
		switch e.Kind {
		case impl.EdSet:
			full.At, full.Text = e.At, e.Text
		case impl.EdClear:
			full.Area = e.Area
		case impl.EdOpen, impl.EdClose:
			full.Row, full.Many = e.Row, e.Many
		case impl.EdCopy:
			full.At, full.Area = e.At, e.Area
		}
		want, _ := impl.Applied(s, e)
		makes(t, s, full, cellsShown(want))
	}
}

func TestP8RowsAndHowMany(t *testing.T) {
	counts := map[int64]bool{math.MinInt64: false, -1: false, 0: false, 1: true, 2: true, 98: true, 99: true, 100: false, 198: false, math.MaxInt64: false}
	for row, rowOk := range counts {
		for many, manyOk := range counts {
			open, closes := impl.Edit{Kind: impl.EdOpen, Row: row, Many: many}, impl.Edit{Kind: impl.EdClose, Row: row, Many: many}
			if !rowOk || !manyOk {
				for _, s := range [][]impl.Cell{nil, sheetOf(t, "A1 5"), sheetOf(t, "A99 =A1")} {
					makesNot(t, s, open)
					makesNot(t, s, closes)
				}
				continue
			}
			// Where nothing stands from row on, all stays.
			makes(t, nil, open, "")
			makes(t, nil, closes, "")
			if row > 1 {
				makes(t, sheetOf(t, "A1 5; B1 =A1"), open, "A1 5; B1 =A1")
				makes(t, sheetOf(t, "A1 5; B1 =A1"), closes, "A1 5; B1 =A1")
			}
			if row <= 50 && row+many > 50 {
				makes(t, sheetOf(t, "A50 5"), closes, "")
			}
		}
	}
}

func TestP8ACellInTheLastRowAndOneBehindIt(t *testing.T) {
	for row := int64(1); row <= impl.MaxRows; row++ {
		s := []impl.Cell{at(1, row, "5")}
		for _, many := range []int64{1, 2, impl.MaxRows - row, impl.MaxRows - row + 1, impl.MaxRows} {
			for _, from := range []int64{1, row, row + 1} {
				e := impl.Edit{Kind: impl.EdOpen, Row: from, Many: many}
				switch {
				case many < 1 || from > impl.MaxRows || from <= row && row+many > impl.MaxRows:
					makesNot(t, s, e)
				case from <= row:
					makes(t, s, e, cellsShown([]impl.Cell{at(1, row+many, "5")}))
				default:
					makes(t, s, e, cellsShown(s))
				}
			}
		}
	}
	makes(t, sheetOf(t, "A1 1; AZ98 2"), editOf(t, "open 98 1"), "A1 1; AZ99 2")
	makesNot(t, sheetOf(t, "A1 1; AZ98 2"), editOf(t, "open 98 2"))
	makesNot(t, sheetOf(t, "A1 1; AZ99 2"), editOf(t, "open 99 1"))
	makesNot(t, sheetOf(t, "A1 1; AZ99 2"), editOf(t, "open 2 1"))
	makes(t, sheetOf(t, "A1 1; AZ99 2"), editOf(t, "close 2 97"), "A1 1; AZ2 2")
	makes(t, sheetOf(t, "A1 1; AZ99 2"), editOf(t, "close 99 1"), "A1 1")
	makes(t, sheetOf(t, "A1 1; AZ99 2"), editOf(t, "close 98 1"), "A1 1; AZ98 2")
	// A place may be lost where a cell may not.
	makes(t, sheetOf(t, "A1 =A99+A98; B1 =SUM(A1:A99)"), editOf(t, "open 2 1"), "A1 =#REF!+A99; B1 =SUM(#REF!)")
}

func TestP8RowsClosedAroundAnArea(t *testing.T) {
	s := sheetOf(t, "A1 =SUM(B10:C20); B1 =$B$10; C1 =B20; D1 =SUM(B$10:$C20)+B15")
	for edit, want := range map[string]string{
		"close 2 8":   "A1 =SUM(B2:C12); B1 =$B$2; C1 =B12; D1 =SUM(B$2:$C12)+B7",
		"close 2 9":   "A1 =SUM(B2:C11); B1 =#REF!; C1 =B11; D1 =SUM(B$2:$C11)+B6",
		"close 10 1":  "A1 =SUM(B10:C19); B1 =#REF!; C1 =B19; D1 =SUM(B$10:$C19)+B14",
		"close 9 3":   "A1 =SUM(B9:C17); B1 =#REF!; C1 =B17; D1 =SUM(B$9:$C17)+B12",
		"close 20 1":  "A1 =SUM(B10:C19); B1 =$B$10; C1 =#REF!; D1 =SUM(B$10:$C19)+B15",
		"close 19 5":  "A1 =SUM(B10:C18); B1 =$B$10; C1 =#REF!; D1 =SUM(B$10:$C18)+B15",
		"close 12 4":  "A1 =SUM(B10:C16); B1 =$B$10; C1 =B16; D1 =SUM(B$10:$C16)+#REF!",
		"close 11 9":  "A1 =SUM(B10:C11); B1 =$B$10; C1 =B11; D1 =SUM(B$10:$C11)+#REF!",
		"close 11 10": "A1 =SUM(B10:C10); B1 =$B$10; C1 =#REF!; D1 =SUM(B$10:$C10)+#REF!",
		"close 10 10": "A1 =SUM(B10:C10); B1 =#REF!; C1 =B10; D1 =SUM(B$10:$C10)+#REF!",
		"close 10 11": "A1 =SUM(#REF!); B1 =#REF!; C1 =#REF!; D1 =SUM(#REF!)+#REF!",
		"close 2 98":  "A1 =SUM(#REF!); B1 =#REF!; C1 =#REF!; D1 =SUM(#REF!)+#REF!",
		"close 20 99": "A1 =SUM(B10:C19); B1 =$B$10; C1 =#REF!; D1 =SUM(B$10:$C19)+B15",
		"close 21 1":  "A1 =SUM(B10:C20); B1 =$B$10; C1 =B20; D1 =SUM(B$10:$C20)+B15",
		"close 1 1":   "",
		"open 10 1":   "A1 =SUM(B11:C21); B1 =$B$11; C1 =B21; D1 =SUM(B$11:$C21)+B16",
		"open 11 1":   "A1 =SUM(B10:C21); B1 =$B$10; C1 =B21; D1 =SUM(B$10:$C21)+B16",
		"open 20 79":  "A1 =SUM(B10:C99); B1 =$B$10; C1 =B99; D1 =SUM(B$10:$C99)+B15",
		"open 20 80":  "A1 =SUM(#REF!); B1 =$B$10; C1 =#REF!; D1 =SUM(#REF!)+B15",
		"open 21 99":  "A1 =SUM(B10:C20); B1 =$B$10; C1 =B20; D1 =SUM(B$10:$C20)+B15",
	} {
		makes(t, s, editOf(t, edit), want)
	}
	makes(t, sheetOf(t, "A1 1; A2 2; A3 =SUM(A1:A2)+A3; A4 4; A5 =SUM(A1:A4)"), editOf(t, "close 2 1"), "A1 1; A2 =SUM(A1:A1)+A2; A3 4; A4 =SUM(A1:A3)")
}

func TestP8Copies(t *testing.T) {
	for _, c := range []struct{ sheet, edit, want string }{
		// Onto itself: all is as it was, as no place is lost.
		{"A1 5; B1 =A1; A2 =$Z$99; B2 =SUM(A1:AZ99)", "copy A1:B2 A1", "A1 5; B1 =A1; A2 =$Z$99; B2 =SUM(A1:AZ99)"}, {"A1 5; B1 =A1", "copy A1:AZ99 A1", "A1 5; B1 =A1"}, {"AZ99 =A1", "copy AZ99:AZ99 AZ99", "AZ99 =A1"},
		// Onto a part of itself: the cells are as they were ahead of the copy.
		{"A1 1; B1 2; C1 3", "copy A1:C1 B1", "A1 1; B1 1; C1 2; D1 3"}, {"B1 1; C1 2; D1 3", "copy B1:D1 A1", "A1 1; B1 2; C1 3; D1 3"}, {"A1 1; A2 2; A3 3", "copy A1:A3 A2", "A1 1; A2 1; A3 2; A4 3"}, {"A2 1; A3 2; A4 3", "copy A2:A4 A1", "A1 1; A2 2; A3 3; A4 3"},
		{"A1 1; B1 2; A2 3; B2 4", "copy A1:B2 B2", "A1 1; B1 2; A2 3; B2 1; C2 2; B3 3; C3 4"}, {"B2 1; C2 2; B3 3; C3 4", "copy B2:C3 A1", "A1 1; B1 2; A2 3; B2 4; C2 2; B3 3; C3 4"}, {"A1 1; C1 3", "copy A1:C1 B1", "A1 1; B1 1; D1 3"}, {"B1 1; C1 2", "copy A1:C1 B1", "C1 1; D1 2"}, {"A1 =B1; B1 =A1; C1 7", "copy A1:B1 B1", "A1 =B1; B1 =C1; C1 =B1"}, {"B1 1; B2 2", "copy A1:B2 B2", "B1 1; C2 1; C3 2"},
		// Onto cells that stand there: these go, where the copy has none, too.
		{"A1 1; C1 7; D1 8; C2 9", "copy A1:B1 C1", "A1 1; C1 1; C2 9"}, {"A1 1; C3 7; D3 8; C4 9; E3 6; D5 4", "copy A1:B2 C3", "A1 1; C3 1; E3 6; D5 4"}, {"A1 =C1; C1 =A1", "copy A1:A1 C1", "A1 =C1; C1 =E1"},
		// An area with no cell in it takes away.
		{"A1 1; B2 2; C3 3; D4 4", "copy Y1:Z2 B2", "A1 1; D4 4"}, {"A1 1", "copy B1:B1 A1", ""}, {"A1 1", "copy B1:B1 C1", "A1 1"}, {"A1 =B1", "copy B1:B1 B2", "A1 =B1"},
		// To the last column and row.
		{"A1 1; B2 2", "copy A1:B2 AY98", "A1 1; B2 2; AY98 1; AZ99 2"}, {"A1 =B2", "copy A1:A1 AZ99", "A1 =B2; AZ99 =#REF!"}, {"AZ99 =AY98", "copy AZ99:AZ99 B2", "B2 =A1; AZ99 =AY98"}, {"AZ99 =AY98", "copy AZ99:AZ99 A1", "A1 =#REF!; AZ99 =AY98"}, {"A1 =A1", "copy A1:A1 AZ99", "A1 =A1; AZ99 =AZ99"}, {"AZ99 =AZ99", "copy AZ99:AZ99 A1", "A1 =A1; AZ99 =AZ99"},
		// Places that the copy loses, and such that it keeps as they are fixed.
		{"B2 =A1", "copy B2:B2 B1", "B1 =#REF!; B2 =A1"}, {"B2 =A1", "copy B2:B2 A2", "A2 =#REF!; B2 =A1"}, {"B2 =A$1+$A1+$A$1", "copy B2:B2 B1", "B1 =A$1+#REF!+$A$1; B2 =A$1+$A1+$A$1"}, {"B2 =A$1+$A1+$A$1", "copy B2:B2 A2", "A2 =#REF!+$A1+$A$1; B2 =A$1+$A1+$A$1"}, {"B2 =SUM(A1:C3,A2:C3)", "copy B2:B2 B1", "B1 =SUM(#REF!,A1:C2); B2 =SUM(A1:C3,A2:C3)"}, {"B2 =SUM(A1:AZ3)", "copy B2:B2 C2", "B2 =SUM(A1:AZ3); C2 =SUM(#REF!)"}, {"A1 =SUM($B$2:B3)", "copy A1:A1 A5", "A1 =SUM($B$2:B3); A5 =SUM($B$2:B7)"}, {"A3 =SUM($B$2:B3)", "copy A3:A3 A1", "A1 =SUM(#REF!); A3 =SUM($B$2:B3)"},
		// A formula that is copied onto a cell that it names.
		{"A1 5; B1 =A1+1", "copy B1:B1 A1", "A1 =#REF!+1; B1 =A1+1"}, {"A1 5; B1 =$A$1+1", "copy B1:B1 A1", "A1 =$A$1+1; B1 =$A$1+1"}, {"A1 =B1+1; B1 5", "copy A1:A1 B1", "A1 =B1+1; B1 =C1+1"}, {"A1 =SUM(A2:A3); A2 5; A3 6", "copy A1:A2 A2", "A1 =SUM(A2:A3); A2 =SUM(A3:A4); A3 5"},
	} {
		makes(t, sheetOf(t, c.sheet), editOf(t, c.edit), c.want)
	}
}

func TestP8CopiesThatReachTooFar(t *testing.T) {
	for _, s := range [][]impl.Cell{nil, sheetOf(t, "A1 1; B2 2"), sheetOf(t, "AY98 1; AZ99 2")} {
		for _, line := range []string{"copy A1:B2 AZ98", "copy A1:B2 AY99", "copy A1:B2 AZ99", "copy A1:B1 AZ1", "copy A1:A2 A99", "copy A1:AZ99 B1", "copy A1:AZ99 A2", "copy AZ1:AZ2 B99", "copy B99:C99 AZ1"} {
			makesNot(t, s, editOf(t, line))
		}
		for _, a := range wrongAreas() {
			makesNot(t, s, impl.Edit{Kind: impl.EdClear, Area: a})
			makesNot(t, s, impl.Edit{Kind: impl.EdCopy, Area: a, At: ref(1, 1)})
			makesNot(t, s, impl.Edit{Kind: impl.EdCopy, Area: a, At: ref(-1, math.MaxInt64)})
		}
		for _, r := range []impl.Ref{{}, ref(0, 1), ref(1, 0), ref(53, 1), ref(1, 100), ref(-1, -1), ref(math.MaxInt64, 1), ref(1, math.MaxInt64), ref(math.MinInt64, math.MinInt64), ref(math.MinInt64+1, 5)} {
			makesNot(t, s, impl.Edit{Kind: impl.EdCopy, Area: area(1, 1, 1, 1), At: r})
			makesNot(t, s, impl.Edit{Kind: impl.EdCopy, Area: area(52, 99, 52, 99), At: r})
			makesNot(t, s, impl.Edit{Kind: impl.EdSet, At: r, Text: "5"})
			makesNot(t, s, impl.Edit{Kind: impl.EdSet, At: r})
		}
		for _, typed := range []string{"=", "=1+", "\n", "\x7f", strings.Repeat("x", impl.MaxText), "=A100", "=A1:B2"} {
			makesNot(t, s, impl.Edit{Kind: impl.EdSet, At: ref(1, 1), Text: typed})
		}
	}
}

// filled answers a formula that says head and a text, of as many bytes with its =.
func filled(t *testing.T, head string, bytes int) string {
	t.Helper()
	source := "=" + head + "&\"" + strings.Repeat("x", bytes-len(head)-4) + "\""
	if got, ok := impl.InputOf(source); !ok || got != source || len(source) != bytes {
		t.Fatalf("no source of %d bytes: %q", bytes, source)
	}
	return source
}

func TestP8LongFormulas(t *testing.T) {
	for _, c := range []struct {
		head, edit, after string
		in                impl.Ref
	}{
		{"A9", "open 9 1", "A10", ref(1, 1)}, {"A9", "open 2 1", "A10", ref(1, 1)}, {"SUM(A8:A9)", "open 9 1", "SUM(A8:A10)", ref(1, 1)}, {"A9", "open 1 1", "A10", ref(1, 9)},
		{"A9", "open 9 99", "#REF!", ref(1, 1)}, {"A9", "close 9 1", "#REF!", ref(1, 1)}, {"A9", "close 2 9", "#REF!", ref(1, 20)}, {"A1", "close 1 1", "#REF!", ref(1, 9)},
		{"A9", "copy C1:C1 C2", "A10", ref(3, 1)}, {"Z1", "copy C1:C1 D1", "AA1", ref(3, 1)}, {"B1", "copy C1:C1 A1", "#REF!", ref(3, 1)}, {"A9+A9", "copy A1:C3 B3", "B11+B11", ref(2, 2)},
	} {
		more := len(c.after) - len(c.head)
		e := editOf(t, c.edit)
		for bytes := impl.MaxText - more - 1; bytes <= impl.MaxText; bytes++ {
			s := []impl.Cell{{At: c.in, Source: filled(t, c.head, bytes)}}
			n, ok := impl.Applied(s, e)
			if ok != (bytes+more <= impl.MaxText) {
				t.Errorf("%s of %s with %d bytes: %v", c.edit, c.head, bytes, ok)
			}
			if !ok {
				makesNot(t, s, e)
				continue
			}
			want := filled(t, c.after, bytes+more)
			if len(n) == 0 || n[len(n)-1].Source != want && n[0].Source != want {
				t.Errorf("%s of %s with %d bytes: %s, want %s", c.edit, c.head, bytes, cellsShown(n), want)
			}
			undoes(t, s, e)
		}
	}
}

func TestP8LongFormulasThatGoDoNotCount(t *testing.T) {
	long := filled(t, "A1", impl.MaxText)
	makes(t, []impl.Cell{at(1, 5, long)}, editOf(t, "close 1 9"), "")
	makes(t, []impl.Cell{at(1, 1, long)}, editOf(t, "close 1 1"), "")
	makesNot(t, []impl.Cell{at(1, 5, long)}, editOf(t, "close 1 1"))
	// It stays where it is not copied, and goes where another one comes.
	makes(t, []impl.Cell{at(2, 2, long), at(3, 3, "1")}, editOf(t, "copy C3:C3 B2"), "B2 1; C3 1")
	makes(t, []impl.Cell{at(2, 2, long), at(3, 3, "1")}, editOf(t, "copy C3:C3 D4"), "B2 "+long+"; C3 1; D4 1")
	makes(t, []impl.Cell{at(2, 2, long)}, editOf(t, "clear B2:B2"), "")
	// Formulas that get shorter may have been as long as may be.
	makes(t, []impl.Cell{at(1, 1, filled(t, "A10", impl.MaxText))}, editOf(t, "close 9 1"), "A1 "+filled(t, "A9", impl.MaxText-1))
}

// full answers a sheet of that many cells, some of them formulas.
func full(t *testing.T, many int) []impl.Cell {
	t.Helper()
	s := gridCells(many)
	for i := 0; i < many; i += 7 {
		s[i].Source = "=SUM(A1:J5)+" + impl.PlaceText(impl.Place{At: s[(i*3)%many].At, FixRow: i%2 == 0})
	}
	if impl.SheetOk(s) != (many <= impl.MaxCells) {
		t.Fatalf("%d cells", many)
	}
	return s
}

func TestP8FullSheets(t *testing.T) {
	for _, c := range []struct {
		many int
		edit string
		left int
	}{
		{impl.MaxCells, "set K1 5", -1}, {impl.MaxCells, "set A1 5", impl.MaxCells}, {impl.MaxCells, "set A1 ", impl.MaxCells - 1}, {impl.MaxCells, "set K1 ", impl.MaxCells}, {impl.MaxCells - 1, "set K1 5", impl.MaxCells},
		{impl.MaxCells, "clear A1:J12", 0}, {impl.MaxCells, "clear B2:C3", impl.MaxCells - 4}, {impl.MaxCells, "clear K1:AZ99", impl.MaxCells},
		{impl.MaxCells, "open 1 1", impl.MaxCells}, {impl.MaxCells, "open 1 87", impl.MaxCells}, {impl.MaxCells, "open 5 87", impl.MaxCells}, {impl.MaxCells, "open 12 88", -1}, {impl.MaxCells, "open 13 99", impl.MaxCells},
		{impl.MaxCells, "close 1 1", impl.MaxCells - 10}, {impl.MaxCells, "close 5 99", 40}, {impl.MaxCells, "close 13 1", impl.MaxCells},
		{impl.MaxCells, "copy A1:J12 A1", impl.MaxCells}, {impl.MaxCells, "copy A1:A1 J12", impl.MaxCells}, {impl.MaxCells, "copy A1:B2 C3", impl.MaxCells}, {impl.MaxCells, "copy A1:A1 K1", -1}, {impl.MaxCells, "copy A1:J12 A2", -1}, {impl.MaxCells, "copy K1:K9 A1", impl.MaxCells - 9}, {impl.MaxCells, "copy J1:K9 I1", impl.MaxCells - 9},
		{impl.MaxCells - 1, "copy A1:A1 K1", impl.MaxCells}, {impl.MaxCells - 1, "copy A1:B1 K1", -1}, {impl.MaxCells - 2, "copy A1:B1 K1", impl.MaxCells}, {impl.MaxCells / 2, "copy A1:J6 K1", impl.MaxCells}, {impl.MaxCells/2 + 1, "copy A1:J7 K1", -1}, {61, "copy A1:J7 A1", 61}, {60, "copy A1:J7 A7", 120}, {61, "copy A1:J7 A7", -1}, {70, "copy A1:J7 A6", 120},
	} {
		s, e := full(t, c.many), editOf(t, c.edit)
		n, ok := impl.Applied(s, e)
		if c.left < 0 {
			makesNot(t, s, e)
			continue
		}
		if !ok || len(n) != c.left || !impl.SheetOk(n) {
			t.Errorf("%s with %d cells: %d, %v, want %d", c.edit, c.many, len(n), ok, c.left)
		}
		undoes(t, s, e)
	}
}

func TestP8WhatUndoesGoesFirstAndThenStands(t *testing.T) {
	s := sheetOf(t, "A1 1; B1 =A1; A2 2; A3 =SUM(A1:A2)")
	for edit, want := range map[string]string{
		"set A1 1": "", "set A1 2": "set A1 1", "set C1 2": "set C1 ", "set C1 ": "", "set B1 ": "set B1 =A1", "clear A1:A2": "set A1 1; set A2 2", "clear C1:C9": "",
		"open 2 1": "set A4 ; set A2 2; set A3 =SUM(A1:A2)", "open 1 1": "set B2 ; set A4 ; set A1 1; set B1 =A1; set A2 2; set A3 =SUM(A1:A2)", "open 4 9": "",
		"close 2 1": "set A2 2; set A3 =SUM(A1:A2)", "close 1 1": "set A1 1; set B1 =A1; set A2 2; set A3 =SUM(A1:A2)",
		"copy A1:B1 B1": "set C1 ; set B1 =A1", "copy A1:B1 A2": "set B2 ; set A2 2", "copy A1:B3 A1": "", "copy A1:B1 C5": "set C5 ; set D5 ",
	} {
		got, ok := impl.Undo(s, editOf(t, edit))
		if !ok || !slices.Equal(got, editsOf(t, want)) {
			t.Errorf("Undo %s: %v, %v, want %s", edit, got, ok, want)
		}
	}
}

func TestP8AsManyEditsAsMayBe(t *testing.T) {
	s := full(t, impl.MaxCells)
	var list []impl.Edit
	for i := range 3 * impl.MaxCells {
		list = append(list, impl.Edit{Kind: impl.EdSet, At: s[i%impl.MaxCells].At, Text: strconv.Itoa(i)})
	}
	n, ok := impl.AllApplied(s, list)
	if !ok || len(n) != impl.MaxCells || n[0].Source != "240" || n[impl.MaxCells-1].Source != "359" {
		t.Errorf("%s, %v", cellsShown(n), ok)
	}
	if n, ok := impl.AllApplied(s, append(list, list[0])); ok || len(n) != 0 {
		t.Errorf("one more edit: %d cells, %v", len(n), ok)
	}
	wrong := impl.Edit{Kind: impl.EdSet, At: ref(1, 1), Text: "="}
	for _, i := range []int{0, 1, 180, len(list) - 2, len(list) - 1} {
		spoilt := slices.Clone(list)
		spoilt[i] = wrong
		if n, ok := impl.AllApplied(s, spoilt); ok || len(n) != 0 {
			t.Errorf("wrong at %d: %d cells, %v", i, len(n), ok)
		}
	}
	for _, right := range rightSheets() {
		if n, ok := impl.AllApplied(right, nil); !ok || !slices.Equal(n, right) {
			t.Errorf("no edits: %v, %v", n, ok)
		}
	}
	none := slices.Repeat([]impl.Edit{{}}, 3*impl.MaxCells+1)
	if n, ok := impl.AllApplied(nil, none); ok || len(n) != 0 {
		t.Errorf("too many wrong ones: %v", n)
	}
}

func TestP8OneEditBehindTheOther(t *testing.T) {
	for _, c := range []struct{ sheet, edits, want string }{
		{"", "set A1 1; set B1 =A1; copy A1:B1 A2; open 2 1; set A1 ", "B1 =A1; A3 1; B3 =A3"},
		{"A1 1; A2 =A1", "open 1 1; close 1 1", "A1 1; A2 =A1"}, {"A1 1; A2 =A1; A99 2", "close 98 1; open 98 1", "A1 1; A2 =A1; A99 2"},
		{"A1 =A3; A3 5", "close 3 1; open 3 1", "A1 =#REF!"}, {"A1 1; B1 2", "copy A1:A1 C1; copy B1:B1 A1; copy C1:C1 B1; clear C1:C1", "A1 2; B1 1"},
		{"A98 1", "open 98 1; clear A99:A99; open 99 99", ""},
	} {
		n, ok := impl.AllApplied(sheetOf(t, c.sheet), editsOf(t, c.edits))
		if !ok || cellsShown(n) != c.want {
			t.Errorf("%s of %s: %s, %v, want %s", c.edits, c.sheet, cellsShown(n), ok, c.want)
		}
	}
	// One that fails is not made good by those behind it.
	s := gridCells(impl.MaxCells)
	for _, lines := range []string{"set K1 5; clear A1:A1", "open 1 99; clear A1:AZ99", "open 2 88; close 2 88"} {
		if n, ok := impl.AllApplied(s, editsOf(t, lines)); ok || len(n) != 0 {
			t.Errorf("%s: %d cells", lines, len(n))
		}
	}
}

func TestP8NoSheet(t *testing.T) {
	for _, s := range wrongSheets() {
		for _, e := range editsOf(t, "set A1 5; set A1 ; clear A1:A1; clear A1:AZ99; open 1 1; close 1 99; copy A1:A1 A1; copy AY1:AZ99 A1") {
			makesNot(t, s, e)
		}
		if n, ok := impl.AllApplied(s, nil); ok || len(n) != 0 {
			t.Errorf("no edit of no sheet: %v", n)
		}
	}
}

// plainApplied asks, for each place, where what stands there then comes from.
func plainApplied(s []impl.Cell, e impl.Edit) ([]impl.Cell, bool) {
	if e.Kind == impl.EdSet {
		source, ok := impl.InputOf(e.Text)
		n := plainEnter(s, e.At, source)
		return n, ok && impl.RefOk(e.At) && len(n) <= impl.MaxCells
	}
	far := ref(e.At.Col-e.Area.From.Col, e.At.Row-e.Area.From.Row)
	target := impl.Area{From: e.At, To: ref(e.Area.To.Col+far.Col, e.Area.To.Row+far.Row)}
	rowsOk := min(e.Row, e.Many) >= 1 && max(e.Row, e.Many) <= impl.MaxRows
	right := map[int64]bool{impl.EdClear: impl.AreaOk(e.Area), impl.EdOpen: rowsOk, impl.EdClose: rowsOk, impl.EdCopy: impl.AreaOk(e.Area) && impl.AreaOk(target)}
	if !right[e.Kind] {
		return nil, false
	}
	sources := map[impl.Ref]string{}
	for _, c := range s {
		sources[c.At] = c.Source
		if e.Kind == impl.EdOpen && c.At.Row >= e.Row && c.At.Row+e.Many > impl.MaxRows {
			return nil, false
		}
	}
	var n []impl.Cell
	for _, r := range plainCells(func(impl.Ref) bool { return true }) {
		if source := plainSourceThen(sources, e, target, far, r); source != "" {
			n = append(n, impl.Cell{At: r, Source: source})
		}
	}
	tooLong := slices.ContainsFunc(n, func(c impl.Cell) bool { return len(c.Source) > impl.MaxText || c.Source == "=" })
	return n, !tooLong && len(n) <= impl.MaxCells
}

func plainSourceThen(sources map[impl.Ref]string, e impl.Edit, target impl.Area, far impl.Ref, r impl.Ref) string {
	switch e.Kind {
	case impl.EdClear:
		if has(e.Area, r) {
			return ""
		}
	case impl.EdOpen:
		source := ""
		if r.Row < e.Row {
			source = sources[r]
		} else if r.Row >= e.Row+e.Many {
			source = sources[ref(r.Col, r.Row-e.Many)]
		}
		return plainRewritten(source, func(f []impl.FNode) ([]impl.FNode, bool) { return impl.Opened(f, e.Row, e.Many) })
	case impl.EdClose:
		if r.Row >= e.Row {
			r.Row += e.Many
		}
		return plainRewritten(sources[r], func(f []impl.FNode) ([]impl.FNode, bool) { return impl.Closed(f, e.Row, e.Many) })
	case impl.EdCopy:
		if has(target, r) {
			return plainRewritten(sources[ref(r.Col-far.Col, r.Row-far.Row)], func(f []impl.FNode) ([]impl.FNode, bool) { return impl.MovedBy(f, far.Col, far.Row) })
		}
	}
	return sources[r]
}

func plainRewritten(source string, rewrite func([]impl.FNode) ([]impl.FNode, bool)) string {
	if !strings.HasPrefix(source, "=") {
		return source
	}
	f, _ := impl.ReadFormula(source[1:])
	g, _ := rewrite(f)
	return "=" + impl.FormulaText(g)
}

// edit answers an edit near the first cells, or, now and then, one far away or of no kind.
func (d *dice) edit() impl.Edit {
	e := impl.Edit{Kind: int64(d.below(5) + 1), At: d.near(), Text: d.input(), Row: int64(d.below(6) + 1), Many: int64(d.below(3) + 1)}
	from, to := d.near(), d.near()
	e.Area = impl.Area{From: ref(min(from.Col, to.Col), min(from.Row, to.Row)), To: ref(max(from.Col, to.Col), max(from.Row, to.Row))}
	switch d.below(12) {
	case 0:
		e.At = d.place().At
	case 1:
		e.Row, e.Many = int64(d.below(101)), int64(d.below(101))
	case 2:
		e.Area.To = d.place().At
	case 3:
		e.Kind = int64(d.below(8))
	case 4:
		e.At.Col, e.Area.From.Row, e.Many = 0, 100, 0
	}
	return e
}

// wideSheet answers a sheet with cells far away, too, and formulas of all kinds.
func (d *dice) wideSheet(t *testing.T, typed int) []impl.Cell {
	t.Helper()
	s := d.sheet(t, typed)
	for range d.below(6) {
		if n, ok := impl.Enter(s, d.place().At, "="+impl.FormulaText(nodesOf(d.tree(d.below(5))))); ok {
			s = n
		}
		if n, ok := impl.Enter(s, d.near(), "="+impl.FormulaText(nodesOf(d.tree(d.below(4))))); ok {
			s = n
		}
	}
	return s
}

func TestP8ThrownEditsAreHeldAgainstPlainOnes(t *testing.T) {
	d := dice(8)
	done, not := map[int64]int{}, map[int64]int{}
	for range 2500 {
		s, e := d.wideSheet(t, d.below(22)), d.edit()
		want, right := plainApplied(s, e)
		n, ok := impl.Applied(s, e)
		if ok != right || ok && !slices.Equal(n, want) || !ok && len(n) != 0 {
			t.Fatalf("%v of %s: %s, %v, want %s, %v", e, cellsShown(s), cellsShown(n), ok, cellsShown(want), right)
		}
		if !ok {
			not[e.Kind]++
			makesNot(t, s, e)
			continue
		}
		done[e.Kind]++
		if !impl.SheetOk(n) {
			t.Fatalf("%v makes no sheet: %v", e, n)
		}
		undoes(t, s, e)
	}
	for kind := int64(1); kind <= 5; kind++ {
		if done[kind] < 100 || not[kind] < 20 {
			t.Errorf("kind %d: %d done, %d not", kind, done[kind], not[kind])
		}
	}
}

func TestP8EditsInTwoPiecesAreTheSameEdits(t *testing.T) {
	d := dice(88)
	done, not := 0, 0
	for range 400 {
		s := d.wideSheet(t, d.below(12))
		var list []impl.Edit
		for range d.below(10) {
			list = append(list, d.edit())
		}
		whole, ok := impl.AllApplied(s, list)
		for i := range len(list) + 1 {
			n, fine := impl.AllApplied(s, list[:i])
			if fine {
				n, fine = impl.AllApplied(n, list[i:])
			}
			if fine != ok || !slices.Equal(n, whole) {
				t.Fatalf("%v in two pieces at %d: %s, %v, in one %s, %v", list, i, cellsShown(n), fine, cellsShown(whole), ok)
			}
		}
		if !ok {
			not++
			continue
		}
		done++
		back := whole
		for i := len(list) - 1; i >= 0; i-- {
			ahead, _ := impl.AllApplied(s, list[:i])
			undo, _ := impl.Undo(ahead, list[i])
			back, _ = impl.AllApplied(back, undo)
		}
		if !slices.Equal(back, s) {
			t.Fatalf("%v undone one by one: %s, want %s", list, cellsShown(back), cellsShown(s))
		}
	}
	if done < 100 || not < 50 {
		t.Errorf("%d done, %d not", done, not)
	}
}

// noPlaceLost: each formula still names as many areas.
func noPlaceLost(s []impl.Cell, e impl.Edit) bool {
	for _, c := range s {
		f, _ := impl.ReadFormula(strings.TrimPrefix(c.Source, "="))
		g, _ := impl.Opened(f, e.Row, e.Many)
		if strings.HasPrefix(c.Source, "=") && len(impl.AreasOf(f)) != len(impl.AreasOf(g)) {
			return false
		}
	}
	return true
}

func TestP8RowsThatAreOpenedLeaveAllValues(t *testing.T) {
	d := dice(888)
	same, lost := 0, 0
	for range 3000 {
		s := d.sheet(t, d.below(22))
		e := impl.Edit{Kind: impl.EdOpen, Row: int64(d.below(7) + 1), Many: int64(d.below(4)*d.below(40) + 1)}
		n, ok := impl.Applied(s, e)
		if !ok {
			continue
		}
		if !noPlaceLost(s, e) {
			lost++
			continue
		}
		same++
		want := impl.ValuesOf(s)
		for i := range want {
			if want[i].At.Row >= e.Row {
				want[i].At.Row += e.Many
			}
		}
		if got := impl.ValuesOf(n); !slices.Equal(got, want) {
			t.Fatalf("%v of %s: %s, want %s", e, cellsShown(s), shown(got), shown(want))
		}
	}
	if same < 1000 || lost < 100 {
		t.Errorf("%d left all values, %d lost a place", same, lost)
	}
}

func TestP8ArgumentsAreNotWrittenAndAnswersAreNew(t *testing.T) {
	s := append(sheetOf(t, "A1 5; B1 =A1; A2 =SUM(A1:B1); C3 x"), at(9, 9, "spare"), at(9, 9, "spare"))
	list := append(editsOf(t, "set A1 6; open 2 1; copy A1:B1 B1; close 3 1; clear C1:C1"), impl.Edit{Kind: 9}, impl.Edit{Kind: 9})
	cells, edits := slices.Clone(s), slices.Clone(list)
	for range 2 {
		for _, e := range append(list[:5:5], editsOf(t, "open 90 1; clear Z1:Z1; set Z1 ; copy A1:C3 A1; close 90 1")...) {
			n, ok := impl.Applied(s[:4], e)
			undo, fine := impl.Undo(s[:4], e)
			if !ok || !fine {
				t.Errorf("%v: %v, %v", e, n, undo)
			}
			for i := range n {
				n[i] = impl.Cell{}
			}
			for i := range undo {
				undo[i] = impl.Edit{}
			}
		}
		for many := range 6 {
			n, ok := impl.AllApplied(s[:4], list[:many])
			if !ok {
				t.Errorf("%d edits", many)
			}
			for i := range n {
				n[i] = impl.Cell{}
			}
			_ = append(n, impl.Cell{})
		}
		if !slices.Equal(s, cells) || !slices.Equal(list, edits) {
			t.Errorf("written: %v, %v", s, list)
		}
	}
}
