package tests

import (
	"math"
	"math/big"
	"slices"
	"strings"
	"testing"

	"loop.example/g00267/impl"
)

func takes(t *testing.T, typed string, source string) {
	t.Helper()
	if got, ok := impl.InputOf(typed); !ok || got != source {
		t.Errorf("InputOf(%q) = %q, %v, want %q", typed, got, ok, source)
	}
	if got, ok := impl.InputOf(source); !ok || got != source {
		t.Errorf("InputOf(%q) = %q, %v: not its own source", source, got, ok)
	}
}

func takesNot(t *testing.T, typed string) {
	t.Helper()
	if got, ok := impl.InputOf(typed); ok || got != "" {
		t.Errorf("InputOf(%q) = %q, %v", typed, got, ok)
	}
}

func noughts(many int) string { return strings.Repeat("0", many) }

func TestP5Inputs(t *testing.T) {
	for typed, source := range map[string]string{
		"": "", "0": "0", "5": "5", "-5": "-5", "TRUE": "TRUE", "FALSE": "FALSE", "#DIV!": "#DIV!", "#TYPE!": "#TYPE!", "#REF!": "#REF!", "#OVER!": "#OVER!", "#CYCLE!": "#CYCLE!",
		"'": "'", "''": "''", "'5": "'5", "'TRUE": "'TRUE", "'=1": "'=1", "' ": "' ", "'a": "'a",
		"a": "'a", "hello world": "'hello world", "true": "'true", "True": "'True", "TRUE ": "'TRUE ", "#div!": "'#div!", "#DIV": "'#DIV", "#": "'#", "A1": "'A1", "SUM(A1)": "'SUM(A1)", "\"a\"": "'\"a\"",
		" ": "' ", "  ": "'  ", " 5": "' 5", "5 ": "'5 ", " =1": "' =1", " '5": "' '5", " TRUE": "' TRUE", "- 5": "'- 5",
		"=1": "=1", "= 1": "=1", "=1 ": "=1", "=(1)": "=1", "=((A1))": "=A1", "=( 1 + 2 ) * 3": "=(1+2)*3", "=(1*2)+3": "=1*2+3", "=-1": "=-1", "=-(1)": "=-1", "=$A$1": "=$A$1",
		"=SUM( A1 : B2 , 3 )": "=SUM(A1:B2,3)", "=\"a \"\" b\"": "=\"a \"\" b\"", "=#REF!": "=#REF!", "=TRUE": "=TRUE", "=1=1": "=1=1", "=-0": "=-0",
	} {
		takes(t, typed, source)
	}
}

func TestP5NoughtsAheadAndAMinusAhead(t *testing.T) {
	for typed, source := range map[string]string{
		"00": "0", "000": "0", "-0": "0", "-00": "0", "007": "7", "-007": "-7", "0100": "100", "-0100": "-100", "100": "100",
		"1000000000000000": "1000000000000000", "-1000000000000000": "-1000000000000000", "0999999999999999": "999999999999999", "001000000000000000": "1000000000000000", "-001000000000000000": "-1000000000000000",
		"1000000000000001": "'1000000000000001", "-1000000000000001": "'-1000000000000001", "001000000000000001": "'001000000000000001", "-001000000000000001": "'-001000000000000001",
		"9223372036854775807": "'9223372036854775807", "9223372036854775808": "'9223372036854775808", "-9223372036854775809": "'-9223372036854775809", "18446744073709551617": "'18446744073709551617", "99999999999999999999999": "'99999999999999999999999",
		"-": "'-", "--1": "'--1", "+1": "'+1", "+0": "'+0", "1-": "'1-", "0-0": "'0-0", "1_000": "'1_000", "0x1": "'0x1", "1.0": "'1.0", "1e3": "'1e3", "0 0": "'0 0", "-+1": "'-+1", "'-0": "'-0",
	} {
		takes(t, typed, source)
	}
	takes(t, noughts(200), "0")
	takes(t, "-"+noughts(199), "0")
	takes(t, noughts(199)+"5", "5")
	takes(t, "-"+noughts(198)+"5", "-5")
	takes(t, noughts(184)+"1000000000000000", "1000000000000000")
	takesNot(t, noughts(201))
	takesNot(t, "-"+noughts(200))
	takesNot(t, noughts(200)+"5")
}

func TestP5LongInputs(t *testing.T) {
	x := strings.Repeat("x", 201)
	takes(t, x[:199], "'"+x[:199])
	takesNot(t, x[:200])
	takesNot(t, x[:201])
	takes(t, "'"+x[:198], "'"+x[:198])
	takes(t, "'"+x[:199], "'"+x[:199])
	takesNot(t, "'"+x[:200])
	takes(t, strings.Repeat(" ", 199), "'"+strings.Repeat(" ", 199))
	takesNot(t, strings.Repeat(" ", 200))
	takesNot(t, strings.Repeat("x", 100000))
	// Digits that are no right number are a text, and so one byte longer.
	takes(t, noughts(183)+"1000000000000001", "'"+noughts(183)+"1000000000000001")
	takesNot(t, noughts(184)+"1000000000000001")
	takes(t, strings.Repeat("9", 199), "'"+strings.Repeat("9", 199))
	takesNot(t, strings.Repeat("9", 200))
	// Formulas: as long as may be, shorter than what was typed, and too long to be typed.
	takes(t, "=\""+x[:197]+"\"", "=\""+x[:197]+"\"")
	takesNot(t, "=\""+x[:198]+"\"")
	takes(t, "="+strings.Repeat(" ", 198)+"1", "=1")
	takes(t, "=1"+strings.Repeat(" ", 198), "=1")
	takesNot(t, "=1"+strings.Repeat(" ", 199))
	takes(t, "="+strings.Repeat("(", 99)+"1"+strings.Repeat(")", 99), "=1")
	takes(t, "="+strings.Repeat("\"", 198), "="+strings.Repeat("\"", 198))
}

func TestP5FormulasThatAreNone(t *testing.T) {
	for _, s := range []string{
		"=", "= ", "==1", "=+1", "=1+", "=A", "=a1", "=A0", "=A100", "=BA1", "=01", "=00", "=1000000000000001", "=(1", "=1)", "=SUM()", "=SUM(B2:A1)", "=A1:B2", "=NOT(1,2)", "=\"a", "='a", "=#X!", "=1 2", "=hello",
		"=" + strings.Repeat("-", impl.MaxDeep) + "1", "=1" + strings.Repeat("+1", impl.MaxDeep), "=SUM(1,1,1,1,1,1,1,1,1,1,1)",
	} {
		takesNot(t, s)
	}
}

func TestP5BytesOfInputs(t *testing.T) {
	for b := range 256 {
		s := string([]byte{byte(b)})
		for _, typed := range []string{"a" + s, "'" + s, s + "x" + s} {
			if b < 32 || b > 126 {
				takesNot(t, typed)
			} else if typed[0] == '\'' {
				got, ok := impl.InputOf(typed)
				if !ok || got != typed {
					t.Errorf("InputOf(%q) = %q, %v", typed, got, ok)
				}
			} else if typed[0] != '=' {
				takes(t, typed, "'"+typed)
			}
		}
		if b < 32 || b > 126 {
			takesNot(t, s)
			takesNot(t, "=\""+s+"\"")
			takesNot(t, "=1"+s)
			takesNot(t, "1"+s)
		}
	}
	takes(t, "\x20\x7e", "'\x20\x7e")
	takesNot(t, "\x1f")
	takesNot(t, "\x7f")
}

// isDigits: digits, perhaps a - ahead.
func isDigits(s string) bool {
	s = strings.TrimPrefix(s, "-")
	return s != "" && strings.Trim(s, "0123456789") == ""
}

// plainSource says what the document says of a short text, piece by piece.
func plainSource(s string) (string, bool) {
	if s == "" {
		return "", true
	}
	if s[0] == '=' {
		f, ok := impl.ReadFormula(s[1:])
		if !ok {
			return "", false
		}
		return "=" + impl.FormulaText(f), true
	}
	if isDigits(s) {
		n, _ := new(big.Int).SetString(s, 10)
		return n.String(), true
	}
	if s[0] == '\'' {
		return s, true
	}
	return "'" + s, true
}

func TestP5EveryShortInput(t *testing.T) {
	eachText("=-+01'A \"(", 5, func(s string) {
		want, right := plainSource(s)
		got, ok := impl.InputOf(s)
		if got != want || ok != right {
			t.Fatalf("InputOf(%q) = %q, %v, want %q, %v", s, got, ok, want, right)
		}
		if again, fine := impl.InputOf(got); ok && (again != got || !fine) {
			t.Fatalf("the source of %q is %q, that of that %q", s, got, again)
		}
		if strings.HasPrefix(s, "=") && len(got) > len(s) {
			t.Fatalf("%q grew to %q", s, got)
		}
	})
}

func TestP5FormulasHaveTheirOwnSource(t *testing.T) {
	d := dice(5)
	taken, shorter := 0, 0
	for range 5000 {
		want := d.tree(d.below(6))
		f := nodesOf(want)
		for _, typed := range []string{"=" + loose(want), "=" + impl.FormulaText(f)} {
			if typed == "=" || len(typed) > impl.MaxText || !impl.FormulaOk(f) {
				takesNot(t, typed)
				continue
			}
			taken++
			takes(t, typed, "="+impl.FormulaText(f))
			if source, _ := impl.InputOf(typed); len(source) < len(typed) {
				shorter++
			}
		}
	}
	if taken < 2000 || shorter < 1000 {
		t.Errorf("%d taken, %d of them shorter", taken, shorter)
	}
}

func at(col int64, row int64, source string) impl.Cell {
	return impl.Cell{At: ref(col, row), Source: source}
}

// gridCells answers that many cells, in order, in rows of ten.
func gridCells(many int) []impl.Cell {
	var s []impl.Cell
	for i := range many {
		s = append(s, at(int64(i%10)+1, int64(i/10)+1, "7"))
	}
	return s
}

func wrongSheets() [][]impl.Cell {
	sheets := [][]impl.Cell{
		gridCells(impl.MaxCells + 1), gridCells(500),
		{at(2, 1, "1"), at(1, 1, "1")}, {at(1, 2, "1"), at(1, 1, "1")}, {at(1, 2, "1"), at(2, 1, "1")},
		{at(1, 1, "1"), at(1, 1, "1")}, {at(1, 1, "1"), at(1, 1, "2")}, {at(1, 1, "1"), at(2, 1, "1"), at(1, 1, "1")}, {at(1, 1, "1"), at(3, 1, "1"), at(2, 1, "1")},
		{{}}, {{Source: "1"}}, {at(0, 1, "1")}, {at(1, 0, "1")}, {at(53, 1, "1")}, {at(1, 100, "1")}, {at(-1, -1, "1")}, {at(math.MaxInt64, math.MinInt64, "1")}, {at(1, 1, "1"), at(1, 100, "1")},
	}
	for _, source := range []string{
		"", "a", "007", "-0", "00", " ", " 1", "= 1", "=(1)", "=1 ", "=", "=1+", "=01", "+1", "true", "1000000000000001", "'\x1f", "'\x7f", "a\n", "\x00",
		"'" + strings.Repeat("x", impl.MaxText), strings.Repeat("x", impl.MaxText), "=\"" + strings.Repeat("x", 198) + "\"",
	} {
		sheets = append(sheets, []impl.Cell{at(1, 1, source)}, []impl.Cell{at(1, 1, "1"), at(2, 2, source), at(3, 3, "1")})
	}
	return sheets
}

func rightSheets() [][]impl.Cell {
	return [][]impl.Cell{
		nil, {}, {at(1, 1, "1")}, {at(52, 99, "'")}, {at(1, 1, "-5"), at(2, 1, "TRUE"), at(52, 1, "#REF!"), at(1, 2, "'a b"), at(1, 99, "=A1+SUM($A$1:B2)")},
		{at(52, 1, "1"), at(1, 2, "1")}, {at(1, 1, "=A1")}, {at(1, 1, "'"+strings.Repeat("x", 199))}, {at(1, 1, "=\""+strings.Repeat("x", 197)+"\"")},
		gridCells(impl.MaxCells - 1), gridCells(impl.MaxCells),
	}
}

func TestP5Sheets(t *testing.T) {
	for _, s := range rightSheets() {
		if !impl.SheetOk(s) {
			t.Errorf("counts as no sheet: %v", s)
		}
		for _, c := range s {
			if got := impl.SourceAt(s, c.At); got != c.Source {
				t.Errorf("SourceAt(%v) = %q, want %q", c.At, got, c.Source)
			}
		}
		for _, r := range []impl.Ref{ref(30, 30), ref(52, 98), ref(0, 0), ref(53, 1), ref(1, 100), ref(-1, 1)} {
			if got := impl.SourceAt(s, r); got != "" {
				t.Errorf("SourceAt(%v) = %q", r, got)
			}
		}
	}
	for _, s := range wrongSheets() {
		if impl.SheetOk(s) {
			t.Errorf("counts as a sheet: %v", s)
		}
		for _, c := range append([]impl.Cell{at(1, 1, "")}, s...) {
			if got := impl.SourceAt(s, c.At); got != "" {
				t.Errorf("SourceAt(%v) = %q of no sheet", c.At, got)
			}
		}
		for _, r := range []impl.Ref{ref(1, 1), ref(9, 9)} {
			for _, typed := range []string{"1", ""} {
				if n, ok := impl.Enter(s, r, typed); ok || len(n) != 0 {
					t.Errorf("Enter into no sheet: %v", n)
				}
			}
		}
	}
}

// plainEnter leaves out what stands there and lays the new cell behind all that stand ahead of it.
func plainEnter(s []impl.Cell, r impl.Ref, source string) []impl.Cell {
	var ahead, behind []impl.Cell
	for _, c := range s {
		if c.At.Row < r.Row || c.At.Row == r.Row && c.At.Col < r.Col {
			ahead = append(ahead, c)
		} else if c.At != r {
			behind = append(behind, c)
		}
	}
	if source != "" {
		ahead = append(ahead, impl.Cell{At: r, Source: source})
	}
	return append(ahead, behind...)
}

func TestP5WhatIsEnteredStandsThereAndAllOthersStay(t *testing.T) {
	places := []impl.Ref{ref(1, 1), ref(2, 1), ref(52, 1), ref(1, 2), ref(3, 5), ref(10, 12), ref(11, 12), ref(1, 99), ref(52, 99)}
	for _, s := range rightSheets() {
		for _, r := range places {
			for _, typed := range []string{"", "5", "007", "-0", "abc", " ", "= 1 + A1", "'x", "TRUE", strings.Repeat("y", 199), "=", "a\n", "=1+", strings.Repeat("y", 200)} {
				source, right := impl.InputOf(typed)
				want := plainEnter(s, r, source)
				right = right && len(want) <= impl.MaxCells
				before := slices.Clone(s)
				n, ok := impl.Enter(s, r, typed)
				if ok != right || ok && !slices.Equal(n, want) || !ok && len(n) != 0 {
					t.Fatalf("Enter(%v, %q) into %v = %v, %v", r, typed, s, n, ok)
				}
				if ok && (!impl.SheetOk(n) || impl.SourceAt(n, r) != source) {
					t.Fatalf("Enter(%v, %q) leaves %q there", r, typed, impl.SourceAt(n, r))
				}
				for i := range n {
					n[i] = at(77, 77, "spoilt")
				}
				if !slices.Equal(s, before) {
					t.Fatalf("Enter(%v, %q) shares or writes its argument", r, typed)
				}
			}
		}
	}
}

func TestP5PlacesThatAreNotRight(t *testing.T) {
	for _, r := range []impl.Ref{{}, ref(0, 1), ref(1, 0), ref(53, 1), ref(1, 100), ref(-1, 1), ref(math.MaxInt64, 1), ref(1, math.MinInt64)} {
		for _, typed := range []string{"1", ""} {
			if n, ok := impl.Enter(gridCells(3), r, typed); ok || len(n) != 0 {
				t.Errorf("Enter at %v: %v", r, n)
			}
		}
	}
}

func TestP5FullSheets(t *testing.T) {
	full := gridCells(impl.MaxCells)
	for _, c := range []struct {
		r     impl.Ref
		typed string
		many  int
	}{
		{ref(3, 3), "new", impl.MaxCells}, {ref(3, 3), "", impl.MaxCells - 1}, {ref(11, 1), "", impl.MaxCells}, {ref(11, 1), "new", 0}, {ref(1, 99), "=", 0}, {ref(1, 99), "1", 0},
	} {
		n, ok := impl.Enter(full, c.r, c.typed)
		if ok != (c.many > 0) || len(n) != c.many {
			t.Errorf("Enter(%v, %q): %d cells, %v", c.r, c.typed, len(n), ok)
		}
	}
	n, ok := impl.Enter(gridCells(impl.MaxCells-1), ref(1, 99), "1")
	if !ok || len(n) != impl.MaxCells {
		t.Errorf("the last cell: %d, %v", len(n), ok)
	}
}

func TestP5SpareRoomIsNotWritten(t *testing.T) {
	room := append(gridCells(3), at(9, 9, "spare"), at(9, 9, "spare"))
	n, ok := impl.Enter(room[:3], ref(9, 8), "1")
	if !ok || len(n) != 4 || room[3] != at(9, 9, "spare") || room[4] != at(9, 9, "spare") {
		t.Errorf("%v, %v", room, n)
	}
}

func TestP5ManyEntered(t *testing.T) {
	d := dice(55)
	inputs := []string{"", "", "1", "02", "x", "=A1", "= B2 *2", "TRUE", "'", "=1+", "\x7f", "#REF!"}
	var s, want []impl.Cell
	for range 3000 {
		r := ref(int64(d.below(14)+1), int64(d.below(14)+1))
		typed := inputs[d.below(len(inputs))]
		source, right := impl.InputOf(typed)
		next := plainEnter(want, r, source)
		right = right && len(next) <= impl.MaxCells
		n, ok := impl.Enter(s, r, typed)
		if ok != right {
			t.Fatalf("Enter(%v, %q) with %d cells: %v", r, typed, len(s), ok)
		}
		if ok {
			s, want = n, next
		}
		if !slices.Equal(s, want) {
			t.Fatalf("Enter(%v, %q): %v, want %v", r, typed, s, want)
		}
	}
}
