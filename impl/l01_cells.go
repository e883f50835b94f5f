package impl

import (
	"cmp"
	"strconv"
	"strings"
)

const (
	MaxCols = 52
	MaxRows = 99
)

type Ref struct {
	Col int64
	Row int64
}

type Place struct {
	At     Ref
	FixCol bool
	FixRow bool
}

type Area struct {
	From Ref
	To   Ref
}

const letters = 26

func ColText(n int64) string {
	if n < 1 || n > MaxCols {
		return ""
	}
	text := ""
	for n > 0 {
		text = string(rune('A'+(n-1)%letters)) + text
		n = (n - 1) / letters
	}
	return text
}

func ReadCol(s string) int64 {
	n := int64(0)
	for i := range len(s) {
		if !isLetter(s[i]) {
			return 0
		}
		n = n*letters + int64(s[i]-'A') + 1
		// Asked at each letter, so that a long text cannot wrap the number.
		if n > MaxCols {
			return 0
		}
	}
	return n
}

func isLetter(b byte) bool { return b >= 'A' && b <= 'Z' }

func RefOk(r Ref) bool {
	return r.Col >= 1 && r.Col <= MaxCols && r.Row >= 1 && r.Row <= MaxRows
}

func compareRefs(a Ref, b Ref) int {
	return cmp.Or(cmp.Compare(a.Row, b.Row), cmp.Compare(a.Col, b.Col))
}

// placesRise asks for right places, in order, no two alike.
func placesRise[T any](l []T, placeOf func(T) Ref) bool {
	for i, c := range l {
		if !RefOk(placeOf(c)) || i > 0 && compareRefs(placeOf(l[i-1]), placeOf(c)) >= 0 {
			return false
		}
	}
	return true
}

func PlaceText(p Place) string {
	if !RefOk(p.At) {
		return ""
	}
	return fixText(p.FixCol) + ColText(p.At.Col) + fixText(p.FixRow) + strconv.FormatInt(p.At.Row, 10)
}

func fixText(fixed bool) string {
	if fixed {
		return "$"
	}
	return ""
}

func ReadPlace(s string) (Place, bool) {
	rest, fixCol := strings.CutPrefix(s, "$")
	end := lettersAhead(rest)
	col := ReadCol(rest[:end])
	rest, fixRow := strings.CutPrefix(rest[end:], "$")
	row, ok := readDecimal(rest)
	at := Ref{Col: col, Row: row}
	if !ok || !RefOk(at) {
		return Place{}, false
	}
	return Place{At: at, FixCol: fixCol, FixRow: fixRow}, true
}

func lettersAhead(s string) int {
	n := 0
	for n < len(s) && isLetter(s[n]) {
		n++
	}
	return n
}

// readDecimal takes only what FormatInt writes, which bars noughts ahead, -0 and a +.
func readDecimal(s string) (int64, bool) {
	n, err := strconv.ParseInt(s, 10, 64)
	if err != nil || strconv.FormatInt(n, 10) != s {
		return 0, false
	}
	return n, true
}

func AreaOk(a Area) bool {
	return RefOk(a.From) && RefOk(a.To) && a.From.Col <= a.To.Col && a.From.Row <= a.To.Row
}

func (a Area) has(r Ref) bool {
	return r.Col >= a.From.Col && r.Col <= a.To.Col && r.Row >= a.From.Row && r.Row <= a.To.Row
}

func CellsOf(a Area) []Ref {
	if !AreaOk(a) {
		return nil
	}
	var cells []Ref
	for row := a.From.Row; row <= a.To.Row; row++ {
		for col := a.From.Col; col <= a.To.Col; col++ {
			cells = append(cells, Ref{Col: col, Row: row})
		}
	}
	return cells
}

func Common(a Area, b Area) (Area, bool) {
	if !AreaOk(a) || !AreaOk(b) {
		return Area{}, false
	}
	both := Area{
		From: Ref{Col: max(a.From.Col, b.From.Col), Row: max(a.From.Row, b.From.Row)},
		To:   Ref{Col: min(a.To.Col, b.To.Col), Row: min(a.To.Row, b.To.Row)},
	}
	// Areas that have no cell in common leave ends that stand crosswise.
	if !AreaOk(both) {
		return Area{}, false
	}
	return both, true
}
