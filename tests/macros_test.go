package tests

import (
	"fmt"
	"math"
	"regexp"
	"slices"
	"strconv"
	"strings"
	"testing"

	"loop.example/g00267/impl"
)

// stmtOf answers, right or not, the statement of "set A1 B1+1", "put A1 5", "unless 1 A1", "while 1 A1" or "abort A1".
func stmtOf(t *testing.T, line string) impl.Stmt {
	t.Helper()
	word, rest, _ := strings.Cut(line, " ")
	first, last, _ := strings.Cut(rest, " ")
	many, _ := strconv.ParseInt(first, 10, 64)
	switch word {
	case "set":
		return impl.Stmt{Kind: impl.MsSet, At: refNamed(t, first), Text: last}
	case "put":
		return impl.Stmt{Kind: impl.MsPut, At: refNamed(t, first), Text: last}
	case "unless":
		return impl.Stmt{Kind: impl.MsUnless, Many: many, Text: last}
	case "while":
		return impl.Stmt{Kind: impl.MsWhile, Many: many, Text: last}
	case "abort":
		return impl.Stmt{Kind: impl.MsAbort, Text: rest}
	}
	t.Fatalf("no statement: %q", line)
	return impl.Stmt{}
}

// macroOf answers the macro of "set A1 5; put B1 ; abort A1" and the like.
func macroOf(t *testing.T, lines string) []impl.Stmt {
	t.Helper()
	var m []impl.Stmt
	for _, line := range strings.Split(lines, "; ") {
		if line != "" {
			m = append(m, stmtOf(t, line))
		}
	}
	return m
}

func puts(many int) []impl.Stmt {
	var m []impl.Stmt
	for i := range many {
		m = append(m, impl.Stmt{Kind: impl.MsPut, At: ref(int64(i)+1, 1), Text: strconv.Itoa(i)})
	}
	return m
}

func rightMacros(t *testing.T) [][]impl.Stmt {
	t.Helper()
	list := [][]impl.Stmt{nil, {}, puts(1), puts(impl.MaxStmts - 1), puts(impl.MaxStmts)}
	for _, lines := range []string{
		"set A1 A1+1", "set AZ99 SUM($A$1:B2)", "set A1 -1", "set A1 \"a b\"", "set A1 \" \"\"\"", "set A1 #REF!", "set A1 TRUE", "set A1 \";\"\" ;\"",
		"put A1 ", "put A1 5", "put A1 -5", "put A1 '", "put A1 ' ", "put A1 'a  b ", "put A1 '\"", "put A1 =A1+1", "put A1 =\" \"\"\"", "put A1 TRUE", "put A1 #CYCLE!", "put A1 'set A1 1", "put AZ99 '=A1",
		"abort FALSE", "abort A1>\"x\"", "abort A1; abort 0",
		"unless 1 A1; put A1 5", "unless 1 A1; put A1 5; put A1 6", "unless 2 A1; put A1 5; put A1 6", "put A1 1; unless 1 A1; put A1 5",
		"put A1 5; while 1 A1", "put A1 5; put A1 6; while 1 A1", "put A1 5; put A1 6; while 2 A1", "put A1 5; while 1 A1; put A1 6", "abort 1; while 1 A1; while 2 A1; while 3 A1", "unless 3 1; unless 2 1; unless 1 1; abort 1",
		"set A1 A1+1; put B1 =A1*2; while 2 A1<3; unless 1 B1>5; put C1 ; abort FALSE",
	} {
		list = append(list, macroOf(t, lines))
	}
	long := filled(t, "A1", impl.MaxText)
	return append(list, []impl.Stmt{{Kind: impl.MsPut, At: ref(1, 1), Text: long}}, []impl.Stmt{{Kind: impl.MsSet, At: ref(1, 1), Text: long[1:]}}, []impl.Stmt{{Kind: impl.MsAbort, Text: long[1:]}}, macroOf(t, "unless 29 1; "+strings.Repeat("put A1 1; ", 28)+"while 29 0"))
}

// noFormulas answers what is no written formula.
func noFormulas(t *testing.T) []string {
	t.Helper()
	long := filled(t, "A1", impl.MaxText)
	return []string{
		"", " ", "=", "=A1", "= A1", "==A1", "A1+", "A1 + 1", " A1", "A1 ", "(A1)", "(A1+1)+2", "01", "-01", "+1", "a1", "x", "'x", "A0", "A100", "BA1", "A1:B2", "SUM(A1:B2", "SUM( A1)", "true", "1000000000000001", "\"", "\"a", "\"a\nb\"", "\n", "A1\n", "\x00", "\"\x7f\"", "\"\x1f\"", "\"é\"", "#REF", "#ref!", "A1;B1",
		long, long[1:] + "&1", strings.Repeat("1", 1000),
	}
}

func wrongMacros(t *testing.T) [][]impl.Stmt {
	t.Helper()
	list := [][]impl.Stmt{puts(impl.MaxStmts + 1), puts(100), make([]impl.Stmt, impl.MaxStmts+1)}
	alone := func(st impl.Stmt) {
		// Ahead of it and behind it there is one, so that no Many of 1 is too many.
		list = append(list, []impl.Stmt{st}, []impl.Stmt{{Kind: impl.MsAbort, Text: "1"}, st, {Kind: impl.MsAbort, Text: "1"}})
	}
	wrongRefs := []impl.Ref{{}, ref(0, 1), ref(1, 0), ref(53, 1), ref(1, 100), ref(-1, 5), ref(math.MaxInt64, math.MinInt64)}
	for _, kind := range []int64{0, 6, -1, 7, math.MaxInt64, math.MinInt64} {
		for _, st := range []impl.Stmt{{}, {At: ref(1, 1), Text: "1"}, {Text: "1"}, {Text: "1", Many: 1}, {At: ref(1, 1)}, {At: ref(1, 1), Text: "1", Many: 1}} {
			st.Kind = kind
			alone(st)
		}
	}
	for _, text := range noFormulas(t) {
		alone(impl.Stmt{Kind: impl.MsSet, At: ref(1, 1), Text: text})
		alone(impl.Stmt{Kind: impl.MsUnless, Text: text, Many: 1})
		alone(impl.Stmt{Kind: impl.MsWhile, Text: text, Many: 1})
		alone(impl.Stmt{Kind: impl.MsAbort, Text: text})
	}
	for _, source := range []string{" ", "x", "a b", "A1", "A1+1", "007", "-0", "= 1", "=1 ", "=(1)", "=", "=1+", "=01", "true", "1000000000000001", "'\x1f", "'\x7f", "'a\nb", "\n", "5\n", "\x00", "'é", "'" + strings.Repeat("x", impl.MaxText), filled(t, "A1", impl.MaxText) + "&1", "=\"" + strings.Repeat("x", 198) + "\""} {
		alone(impl.Stmt{Kind: impl.MsPut, At: ref(1, 1), Text: source})
	}
	for _, r := range wrongRefs {
		alone(impl.Stmt{Kind: impl.MsSet, At: r, Text: "1"})
		alone(impl.Stmt{Kind: impl.MsPut, At: r, Text: "1"})
		alone(impl.Stmt{Kind: impl.MsPut, At: r})
	}
	for _, r := range append(wrongRefs[1:], ref(1, 1), ref(52, 99)) {
		alone(impl.Stmt{Kind: impl.MsUnless, At: r, Text: "1", Many: 1})
		alone(impl.Stmt{Kind: impl.MsWhile, At: r, Text: "1", Many: 1})
		alone(impl.Stmt{Kind: impl.MsAbort, At: r, Text: "1"})
	}
	for _, many := range []int64{1, -1, 2, math.MaxInt64, math.MinInt64} {
		alone(impl.Stmt{Kind: impl.MsSet, At: ref(1, 1), Text: "1", Many: many})
		alone(impl.Stmt{Kind: impl.MsPut, At: ref(1, 1), Text: "1", Many: many})
		alone(impl.Stmt{Kind: impl.MsPut, At: ref(1, 1), Many: many})
		alone(impl.Stmt{Kind: impl.MsAbort, Text: "1", Many: many})
	}
	for _, many := range []int64{0, -1, 2, 3, math.MaxInt64, math.MinInt64} {
		alone(impl.Stmt{Kind: impl.MsUnless, Text: "1", Many: many})
		alone(impl.Stmt{Kind: impl.MsWhile, Text: "1", Many: many})
	}
	for _, lines := range []string{"unless 1 1", "while 1 1", "abort 1; unless 1 1", "while 1 1; abort 1", "unless 0 1; abort 1", "abort 1; while 0 1", "unless 2 1; abort 1", "abort 1; while 2 1"} {
		list = append(list, macroOf(t, lines))
	}
	return list
}

func TestP11RightMacros(t *testing.T) {
	for _, m := range rightMacros(t) {
		if !impl.MacroOk(m) {
			t.Errorf("counts as not right: %v", m)
		}
	}
	// As far as there are statements a jump may go, and no further, wherever it stands.
	for _, many := range []int{1, 2, 7, impl.MaxStmts} {
		for i := range many {
			for far := int64(-1); far <= int64(many)+1; far++ {
				m := puts(many)
				m[i] = impl.Stmt{Kind: impl.MsUnless, Text: "1", Many: far}
				if impl.MacroOk(m) != (far >= 1 && far <= int64(many-1-i)) {
					t.Errorf("unless %d as the statement %d of %d", far, i, many)
				}
				m[i].Kind = impl.MsWhile
				if impl.MacroOk(m) != (far >= 1 && far <= int64(i)) {
					t.Errorf("while %d as the statement %d of %d", far, i, many)
				}
			}
		}
	}
}

func TestP11MacrosThatAreNotRight(t *testing.T) {
	for _, m := range wrongMacros(t) {
		if impl.MacroOk(m) {
			t.Errorf("counts as right: %v", m)
		}
		if text := impl.MacroText(m); text != "" {
			t.Errorf("MacroText(%v) = %q", m, text)
		}
		if n, ok := impl.ReadMacro(plainMacroText(m)); ok || len(n) != 0 {
			t.Errorf("ReadMacro takes the text of %v: %v", m, n)
		}
		for _, s := range [][]impl.Cell{nil, gridCells(3)} {
			for _, fuel := range []int64{0, 9, impl.MaxFuel, -1, impl.MaxFuel + 1} {
				if n, code, steps := impl.RunMacro(s, m, fuel); code != impl.McForm || steps != 0 || len(n) != 0 {
					t.Errorf("RunMacro(%v) = %v, %d, %d", m, n, code, steps)
				}
				looksAtNothing(t, s, m, fuel)
			}
		}
	}
}

func looksAtNothing(t *testing.T, s []impl.Cell, m []impl.Stmt, fuel int64) {
	t.Helper()
	if areas, places := impl.Looked(s, m, fuel); len(areas) != 0 || len(places) != 0 {
		t.Errorf("Looked(%v, %d) = %v, %v", m, fuel, areas, places)
	}
}

// plainMacroText writes m, right or not.
func plainMacroText(m []impl.Stmt) string {
	text := ""
	for _, st := range m {
		switch st.Kind {
		case impl.MsSet, impl.MsPut:
			text += fmt.Sprintf("%s %s%d %s\n", []string{"set", "put"}[st.Kind-1], impl.ColText(st.At.Col), st.At.Row, st.Text)
		case impl.MsUnless, impl.MsWhile:
			text += fmt.Sprintf("%s %d %s\n", []string{"unless", "while"}[st.Kind-3], st.Many, st.Text)
		default:
			text += "abort " + st.Text + "\n"
		}
		// A field too many is in no text: it spoils this one, so that it counts.
		if st.Many != 0 && st.Kind != impl.MsUnless && st.Kind != impl.MsWhile || st.At != (impl.Ref{}) && st.Kind != impl.MsSet && st.Kind != impl.MsPut || st.Kind < 1 || st.Kind > 5 {
			text += "\n"
		}
	}
	return text
}

func TestP11RightMacrosComeBackFromTheirTexts(t *testing.T) {
	for _, m := range rightMacros(t) {
		text := impl.MacroText(m)
		if text != plainMacroText(m) {
			t.Errorf("MacroText(%v) = %q", m, text)
		}
		if n, ok := impl.ReadMacro(text); !ok || !slices.Equal(n, m) {
			t.Errorf("%q comes back as %v, %v", text, n, ok)
		}
	}
	const text = "put A1 \nput B1 '\nput C1 ' \nset AZ99 \" \"\" \"&A1\nunless 2 A1=\" ;\"\nwhile 4 -A1<>TRUE\nabort SUM($A1:B$2)\n"
	want := macroOf(t, "put A1 ; put B1 '; put C1 ' ; set AZ99 \" \"\" \"&A1; unless 2 A1=\" ;\"; while 4 -A1<>TRUE; abort SUM($A1:B$2)")
	if n, ok := impl.ReadMacro(text); !ok || !slices.Equal(n, want) || impl.MacroText(want) != text {
		t.Errorf("%v, %v, %q", n, ok, impl.MacroText(want))
	}
	if n, ok := impl.ReadMacro(""); !ok || len(n) != 0 || impl.MacroText(nil) != "" {
		t.Errorf("no statement: %v, %v", n, ok)
	}
}

var stmtForm = regexp.MustCompile(`^(?:(set|put) ([A-Z]{1,2})([1-9][0-9]?) (.*)|(unless|while) ([1-9][0-9]?) (.*)|(abort) (.*))$`)

// plainReadMacro asks for the form of each line, and then only parts it.
func plainReadMacro(text string) ([]impl.Stmt, bool) {
	var m []impl.Stmt
	if text == "" {
		return m, true
	}
	whole, ended := strings.CutSuffix(text, "\n")
	if !ended {
		return nil, false
	}
	for _, line := range strings.Split(whole, "\n") {
		p := stmtForm.FindStringSubmatch(line)
		if p == nil {
			return nil, false
		}
		kind := int64(1 + slices.Index([]string{"set", "put", "unless", "while", "abort"}, p[1]+p[5]+p[8]))
		row, _ := strconv.ParseInt(p[3], 10, 64)
		many, _ := strconv.ParseInt(p[6], 10, 64)
		m = append(m, impl.Stmt{Kind: kind, At: ref(impl.ReadCol(p[2]), row), Text: p[4] + p[7] + p[9], Many: many})
	}
	return m, impl.MacroOk(m)
}

func readsMacroAsPlain(t *testing.T, text string) bool {
	t.Helper()
	want, right := plainReadMacro(text)
	m, ok := impl.ReadMacro(text)
	if ok != right || ok && (!slices.Equal(m, want) || impl.MacroText(m) != text) || !ok && len(m) != 0 {
		t.Fatalf("ReadMacro(%q) = %v, %v, want %v", text, m, ok, right)
	}
	return ok
}

func TestP11TextsThatAreNoMacros(t *testing.T) {
	for _, text := range []string{
		"\n", " ", " \n", "fly\n", "fly A1 1\n", "set\n", "set \n", "set A1\n", "set A1 \n", "set  \n", "put\n", "put \n", "put A1\n", "unless\n", "while\n", "abort\n", "abort \n", "set 1\n", "1 A1\n", "A1 1\n",
		// a last line that is not ended, lines that are empty
		"set A1 1", "put A1 ", "put A1", "abort 1", "set A1 1\nabort 1", "set A1 1\n\n", "\nset A1 1\n", "set A1 1\n\nabort 1\n", "set A1 1\n ", "set A1 1\n \n", "set A1 1\r\n", "set A1 1\x00\n",
		// blanks, and other cases
		" set A1 1\n", "set  A1 1\n", "set A1  1\n", "set A1 1 \n", "set A1 1 +1\n", "set A1 1+ 1\n", "set\tA1 1\n", "put  A1 1\n", "put A1  1\n", "put A1 1 \n", "put A1  \n", "abort  1\n", "abort 1 \n", "Set A1 1\n", "SET A1 1\n", "sets A1 1\n", "put B1 x\n", "put B1 = 1\n", "put B1 007\n", "put B1 5 5\n",
		// places
		"set $A1 1\n", "set A$1 1\n", "set $A$1 1\n", "put $A1 1\n", "put A$1 \n", "set A0 1\n", "set A01 1\n", "set A100 1\n", "set BA1 1\n", "set a1 1\n", "set 1A 1\n", "set A 1\n", "put A01 1\n", "put A1:A1 1\n", "set A1:B2 1\n",
		// numbers
		"unless 01 1\nabort 1\n", "unless 1.0 1\nabort 1\n", "unless +1 1\nabort 1\n", "unless -1 1\nabort 1\n", "unless 0 1\nabort 1\n", "unless 2 1\nabort 1\n", "unless 1 1\n", "unless 1\nabort 1\n", "unless  1 1\nabort 1\n", "unless 1  1\nabort 1\n", "unless A1 1\nabort 1\n", "unless 18446744073709551617 1\nabort 1\n",
		"abort 1\nwhile 01 1\n", "abort 1\nwhile 001 1\n", "abort 1\nwhile 2 1\n", "abort 1\nwhile 0 1\n", "abort 1\nwhile -1 1\n", "while 1 1\n", "while 1 TRUE\nabort 1\n", "abort 1\nwhile 1 1 \n", "abort 1\nwhile 1\n", "abort 1\nwhile 1 \n", "abort 1\nwhile 99999999999999999999 1\n",
		// a byte 10 in a text, a formula with = ahead, one that is none
		"set A1 \"a\nb\"\n", "put A1 'a\nb\n", "abort \"\n\"\n", "set A1 =1\n", "abort =1\n", "set A1 1+\n", "abort A1:B2\n", "abort x\n",
	} {
		if readsMacroAsPlain(t, text) {
			t.Errorf("taken: %q", text)
		}
	}
	for _, many := range []int{impl.MaxStmts - 1, impl.MaxStmts, impl.MaxStmts + 1, 1000, 100000} {
		for _, line := range []string{"put A1 \n", "abort A1\n", "\n"} {
			right := many <= impl.MaxStmts && line != "\n"
			if m, ok := impl.ReadMacro(strings.Repeat(line, many)); ok != right || right && len(m) != many || !right && len(m) != 0 {
				t.Errorf("%d times %q: %d, %v", many, line, len(m), ok)
			}
		}
	}
	for _, text := range []string{strings.Repeat("x", 1000000), "set A1 " + strings.Repeat("1", 1000000) + "\n", strings.Repeat("\n", 1000000), "put A1 '" + strings.Repeat(" ", 1000000)} {
		if m, ok := impl.ReadMacro(text); ok || len(m) != 0 {
			t.Errorf("a long text: %v", m)
		}
	}
}

func TestP11MacroTextsThatAreSpoilt(t *testing.T) {
	taken, not := 0, 0
	try := func(text string) {
		if readsMacroAsPlain(t, text) {
			taken++
		} else {
			not++
		}
	}
	for _, lines := range []string{"put A1 ; set B12 A1+1", "abort \"a b\"; unless 1 A1; put AA1 'x y; while 3 1<2", "set A1 A1+1; put B1 =A1*2; while 2 A1<3; unless 1 B1>5; put C1 ; abort FALSE"} {
		text := impl.MacroText(macroOf(t, lines))
		for i := range len(text) {
			try(text[:i])
			try(text[i:])
			try(text[:i] + text[i+1:])
			for _, b := range "\n 0129aAB$'\"=-+;" {
				try(text[:i] + string(b) + text[i:])
				try(text[:i] + string(b) + text[i+1:])
			}
		}
		parts := strings.SplitAfter(text, "\n")
		for i := range parts {
			for j := range parts {
				swapped := slices.Clone(parts)
				swapped[i], swapped[j] = swapped[j], swapped[i]
				try(strings.Join(swapped, ""))
				try(strings.Join(slices.Insert(slices.Clone(parts), j, parts[i]), ""))
			}
		}
	}
	if taken < 300 || not < 3000 {
		t.Errorf("%d taken, %d not", taken, not)
	}
}

// A plainRun is what comes of a macro, and what it looked at and set.
type plainRun struct {
	sheet  []impl.Cell
	code   int64
	steps  int64
	areas  []impl.Area
	places []impl.Ref
}

// plainRan takes the values of the whole sheet at each step; macro, sheet and fuel are right.
func plainRan(s []impl.Cell, m []impl.Stmt, fuel int64) plainRun {
	r := plainRun{sheet: s}
	for next := 0; next < len(m); {
		if r.steps == fuel {
			r.code = impl.McFuel
			break
		}
		r.steps++
		st := m[next]
		next++
		var v impl.Value
		if st.Kind != impl.MsPut {
			f, _ := impl.ReadFormula(st.Text)
			v = impl.Eval(f, impl.ValuesOf(r.sheet))
			var passed []impl.Ref
			for _, a := range plainBehind(r.sheet, "="+st.Text, &passed) {
				if !slices.Contains(r.areas, a) {
					r.areas = append(r.areas, a)
				}
			}
		}
		holds := (v.Kind == impl.VlInt || v.Kind == impl.VlBool) && v.N != 0
		switch {
		case st.Kind == impl.MsSet || st.Kind == impl.MsPut:
			source := st.Text
			if st.Kind == impl.MsSet {
				source = impl.ValueText(v)
			}
			if len(source) > impl.MaxText {
				source = "#OVER!"
			}
			n := plainEnter(r.sheet, st.At, source)
			if len(n) > impl.MaxCells {
				r.code, r.sheet = impl.McFull, s
				return r
			}
			r.sheet = n
			if !slices.Contains(r.places, st.At) {
				r.places = append(r.places, st.At)
			}
		case st.Kind == impl.MsUnless && !holds:
			next += int(st.Many)
		case st.Kind == impl.MsWhile && holds:
			next -= int(st.Many) + 1
		case st.Kind == impl.MsAbort && holds:
			r.code, r.sheet = impl.McAbort, s
			return r
		}
	}
	if r.code != impl.McDone {
		r.sheet = s
	}
	return r
}

// plainBehind answers an area as often as it is found; each formula is gone through once.
func plainBehind(s []impl.Cell, source string, passed *[]impl.Ref) []impl.Area {
	own := plainAreas(source)
	list := slices.Clone(own)
	for _, a := range own {
		for _, c := range s {
			if has(a, c.At) && strings.HasPrefix(c.Source, "=") && !slices.Contains(*passed, c.At) {
				*passed = append(*passed, c.At)
				list = append(list, plainBehind(s, c.Source, passed)...)
			}
		}
	}
	return list
}

// behindByPaths goes through a formula as often as it is come to, but where it is just being gone through.
func behindByPaths(s []impl.Cell, source string, path []impl.Ref) []impl.Area {
	own := plainAreas(source)
	list := slices.Clone(own)
	for _, a := range own {
		for _, c := range s {
			if has(a, c.At) && !slices.Contains(path, c.At) {
				list = append(list, behindByPaths(s, c.Source, append(slices.Clone(path), c.At))...)
			}
		}
	}
	return list
}

func areasShown(areas []impl.Area) string {
	var list []string
	for _, a := range areas {
		name := namesOf([]impl.Ref{a.From})
		if a.From != a.To {
			name += ":" + namesOf([]impl.Ref{a.To})
		}
		list = append(list, name)
	}
	return strings.Join(list, " ")
}

func macroShown(m []impl.Stmt) string {
	return strings.ReplaceAll(strings.TrimSuffix(plainMacroText(m), "\n"), "\n", "; ")
}

// runsAsPlain asks for what comes of a macro and what it looked at, and answers it.
func runsAsPlain(t *testing.T, s []impl.Cell, m []impl.Stmt, fuel int64) plainRun {
	t.Helper()
	want := plainRan(s, m, fuel)
	n, code, steps := impl.RunMacro(s, m, fuel)
	if code != want.code || steps != want.steps || !slices.Equal(n, want.sheet) {
		t.Fatalf("RunMacro(%s | %s | %d) = %s, %d, %d, want %s, %d, %d", cellsShown(s), macroShown(m), fuel, cellsShown(n), code, steps, cellsShown(want.sheet), want.code, want.steps)
	}
	areas, places := impl.Looked(s, m, fuel)
	if !slices.Equal(areas, want.areas) || !slices.Equal(places, want.places) {
		t.Fatalf("Looked(%s | %s | %d) = %s | %s, want %s | %s", cellsShown(s), macroShown(m), fuel, areasShown(areas), namesOf(places), areasShown(want.areas), namesOf(want.places))
	}
	if !impl.SheetOk(n) || code != impl.McDone && !slices.Equal(n, s) {
		t.Fatalf("RunMacro(%s | %s | %d) leaves %s", cellsShown(s), macroShown(m), fuel, cellsShown(n))
	}
	return want
}

// ends asks for the code, the steps and, where it is done, the sheet.
func ends(t *testing.T, s []impl.Cell, m []impl.Stmt, fuel int64, code int64, steps int64, sheet string) {
	t.Helper()
	n, gotCode, gotSteps := impl.RunMacro(s, m, fuel)
	if code != impl.McDone {
		sheet = cellsShown(s)
	}
	if gotCode != code || gotSteps != steps || cellsShown(n) != sheet {
		t.Errorf("RunMacro(%s | %s | %d) = %s, %d, %d, want %s, %d, %d", cellsShown(s), macroShown(m), fuel, cellsShown(n), gotCode, gotSteps, sheet, code, steps)
	}
	runsAsPlain(t, s, m, fuel)
}

func TestP11Runs(t *testing.T) {
	for _, c := range []struct {
		sheet, macro string
		steps        int64
		want         string
	}{
		{"", "", 0, ""}, {"A1 5; B1 =A1", "", 0, "A1 5; B1 =A1"}, {"", "put A1 5", 1, "A1 5"}, {"A1 5", "put A1 ", 1, ""}, {"", "put A1 ", 1, ""}, {"A1 5; C1 6", "put B1 =A1+C1", 1, "A1 5; B1 =A1+C1; C1 6"}, {"A1 5", "put A1 'x; put A1 TRUE; put A1 #REF!", 3, "A1 #REF!"},
		{"A1 5", "set B1 A1*2; set A1 A1+B1; set B1 A1", 3, "A1 15; B1 15"}, {"A1 =B1+1; B1 4", "set C1 A1; put B1 9; set D1 A1", 3, "A1 =B1+1; B1 9; C1 5; D1 10"},
		// A formula leans on what was set, put, taken away; behind others too.
		{"B1 =A1; C1 =B1+1", "set A1 4; set D1 C1; put A1 =9; set E1 C1; put A1 ; set F1 C1", 6, "B1 =A1; C1 =B1+1; D1 5; E1 10; F1 1"},
		{"A1 =B1; B1 =A1", "set C1 A1; put B1 3; set D1 A1", 3, "A1 =B1; B1 3; C1 #CYCLE!; D1 3"}, {"A1 =B1; B1 =A1", "set A1 A1; set C1 B1", 2, "A1 #CYCLE!; B1 =A1; C1 #CYCLE!"}, {"A1 =B1; B1 2", "put B1 =C1; put C1 =A1; set D1 A1; set E1 C1+1; put C1 7; set F1 A1", 6, "A1 =B1; B1 =C1; C1 7; D1 #CYCLE!; E1 #CYCLE!; F1 7"}, {"A1 =A1", "set A1 IF(TRUE,1,A1)", 1, "A1 1"}, {"A1 =B1; B1 =A1", "set B1 5; set C1 A1", 2, "A1 =B1; B1 5; C1 5"},
		{"A1 1; A2 2", "set A3 SUM(A1:A9); set A4 SUM(A1:A9)", 2, "A1 1; A2 2; A3 3; A4 6"},
		// Jumps: over one, over all that is left, back by one and by more, to the first.
		{"", "unless 1 TRUE; put A1 1; put B1 1", 3, "A1 1; B1 1"}, {"", "unless 1 FALSE; put A1 1; put B1 1", 2, "B1 1"}, {"", "unless 2 FALSE; put A1 1; put B1 1", 1, ""}, {"", "put C1 1; unless 1 FALSE; put A1 1", 2, "C1 1"}, {"", "unless 3 0; put A1 1; put B1 1; put C1 1; put D1 1", 2, "D1 1"}, {"", "unless 1 0; put A1 1; unless 1 0; put B1 1", 2, ""},
		{"A1 3", "set A1 A1-1; while 1 A1>0", 6, "A1 0"}, {"", "set A1 A1+1; put B1 =A1*2; while 2 A1<3", 9, "A1 3; B1 =A1*2"}, {"", "put C1 0; set A1 A1+1; set C1 C1+A1; while 2 A1<4; set D1 C1", 14, "A1 4; C1 10; D1 10"}, {"", "put A1 1; while 1 FALSE", 2, "A1 1"},
		// A loop in a loop.
		{"", "set A1 A1+1; put B1 0; set B1 B1+1; set C1 C1+1; while 2 B1<3; while 5 A1<2", 24, "A1 2; B1 3; C1 6"},
		{"", "abort FALSE; abort A1; abort \"x\"; abort 1/0; put A1 1", 5, "A1 1"},
		{"C1 7", "set A1 A1+1; put B1 =A1*2; while 2 A1<3; unless 1 B1>5; put C1 ; abort FALSE", 12, "A1 3; B1 =A1*2"},
	} {
		for _, fuel := range []int64{c.steps, c.steps + 1, impl.MaxFuel} {
			ends(t, sheetOf(t, c.sheet), macroOf(t, c.macro), fuel, impl.McDone, c.steps, c.want)
		}
		for fuel := range c.steps {
			ends(t, sheetOf(t, c.sheet), macroOf(t, c.macro), fuel, impl.McFuel, fuel, "")
		}
	}
}

func TestP11FuelAndAborts(t *testing.T) {
	s := sheetOf(t, "A1 5; B1 =A1")
	for _, fuel := range []int64{-1, impl.MaxFuel + 1, math.MaxInt64, math.MinInt64, -impl.MaxFuel} {
		for _, m := range rightMacros(t) {
			if n, code, steps := impl.RunMacro(s, m, fuel); code != impl.McForm || steps != 0 || len(n) != 0 {
				t.Errorf("fuel %d: %v, %d, %d", fuel, n, code, steps)
			}
			looksAtNothing(t, s, m, fuel)
		}
	}
	for _, fuel := range []int64{0, 1, 2, 3, impl.MaxFuel - 1, impl.MaxFuel} {
		ends(t, s, nil, fuel, impl.McDone, 0, "A1 5; B1 =A1")
		// Loops that do not end.
		ends(t, s, macroOf(t, "set A1 A1+1; while 1 TRUE"), fuel, impl.McFuel, fuel, "")
		ends(t, s, macroOf(t, "put A1 1; put A1 ; while 2 1; put C1 1"), fuel, impl.McFuel, fuel, "")
	}
	// The last step of fuel is made, and no more.
	ends(t, s, macroOf(t, "set A1 A1+1; while 1 A1<205"), impl.MaxFuel, impl.McDone, 400, "A1 205; B1 =A1")
	ends(t, s, macroOf(t, "set A1 A1+1; while 1 A1<206"), impl.MaxFuel, impl.McFuel, 400, "")
	ends(t, s, macroOf(t, "set A1 A1+1; while 1 A1<205; put C1 1"), impl.MaxFuel, impl.McFuel, 400, "")
	ends(t, s, macroOf(t, "set A1 A1+1; while 1 A1<205"), impl.MaxFuel-1, impl.McFuel, 399, "")
	for _, c := range []struct {
		macro string
		steps int64
	}{
		{"abort TRUE", 1}, {"abort 1", 1}, {"abort -1", 1}, {"abort B1=5", 1}, {"put A1 9; put C1 1; abort B1=9; put D1 1", 3}, {"set A1 5; abort A1=5; set A1 6", 2}, {"abort FALSE; set A1 A1-1; while 2 A1; abort NOT(A1)", 16}, {"unless 1 FALSE; abort TRUE; abort 1", 2}, {"abort 7; unless 1 1; abort 1", 1},
	} {
		for _, fuel := range []int64{c.steps, c.steps + 1, impl.MaxFuel} {
			ends(t, s, macroOf(t, c.macro), fuel, impl.McAbort, c.steps, "")
		}
		for fuel := range c.steps {
			ends(t, s, macroOf(t, c.macro), fuel, impl.McFuel, fuel, "")
		}
	}
}

func TestP11Conditions(t *testing.T) {
	s := sheetOf(t, "A1 TRUE; B1 FALSE; C1 'TRUE; D1 '; E1 0; F1 -3; G1 =G1; H1 #REF!; I1 '1; J1 =K1; A2 =A1; B2 =\"x\"&A1")
	for formula, holds := range map[string]bool{
		"TRUE": true, "1": true, "7": true, "-1": true, "1=1": true, "A1": true, "F1": true, "A2": true, "1000000000000000": true, "NOT(B1)": true, "LEN(C1)": true, "OR(A1:B1)": true, "\"\"=Z9": true, "NOT(Z9)": true,
		"FALSE": false, "0": false, "1=2": false, "B1": false, "E1": false, "Z9": false, "J1": false, "AND(A1:B1)": false, "-0": false,
		// What is no truth value is not true.
		"\"TRUE\"": false, "\"1\"": false, "\"\"": false, "C1": false, "D1": false, "I1": false, "B2": false, "#REF!": false, "1/0": false, "G1": false, "H1": false, "A1+1": false, "NOT(C1)": false, "NOT(H1)": false, "OR(A1,C1)": false, "SUM(E1:H1)": false,
	} {
		code, steps := int64(impl.McDone), int64(2)
		if holds {
			code, steps = impl.McAbort, 1
		}
		left := cellsShown(s)
		ends(t, s, macroOf(t, "abort "+formula+"; put Z1 1"), 9, code, steps, strings.Replace(left, "J1 =K1", "J1 =K1; Z1 1", 1))
		want, many := left, int64(1)
		if holds {
			want, many = strings.Replace(left, "J1 =K1", "J1 =K1; Z1 1", 1), 2
		}
		ends(t, s, macroOf(t, "unless 1 "+formula+"; put Z1 1"), 9, impl.McDone, many, want)
		// Once around, as Y1 counts.
		want = strings.Replace(left, "J1 =K1", "J1 =K1; Y1 1", 1)
		many = 4
		if holds {
			want, many = strings.Replace(left, "J1 =K1", "J1 =K1; Y1 2", 1), 7
		}
		ends(t, s, macroOf(t, "set Y1 Y1+1; abort Y1>2; unless 1 Y1<2; while 3 "+formula), 9, impl.McDone, many, want)
	}
}

func TestP11WhatIsSetIsTheTextOfTheValue(t *testing.T) {
	most := strings.Repeat("x", impl.MaxText-1)
	s := sheetOf(t, "A1 '"+most+"; B1 =A1&\"y\"; C1 =C1; D1 'x'; E1 TRUE")
	for formula, source := range map[string]string{
		// A blank says 0.
		"Z9": "0", "IF(FALSE,1)": "FALSE", "0": "0", "-0": "0", "-5": "-5", "0-7": "-7", "1000000000000000": "1000000000000000", "-1000000000000000": "-1000000000000000", "1000000000000000+1": "#OVER!", "TRUE": "TRUE", "E1": "TRUE", "1>2": "FALSE", "1/0": "#DIV!", "\"a\"+1": "#TYPE!", "#REF!": "#REF!", "C1": "#CYCLE!", "#CYCLE!": "#CYCLE!",
		// Texts that look like something else.
		"\"5\"": "'5", "\"-5\"": "'-5", "\"007\"": "'007", "\"=A1\"": "'=A1", "\"TRUE\"": "'TRUE", "\"#REF!\"": "'#REF!", "\"\"": "'", "\" \"": "' ", "\"'\"": "''", "\"\"\"\"": "'\"", "D1": "'x'", "1&2": "'12", "TRUE&1": "'TRUE1", "\"a b\"": "'a b",
		// As long as may be, one more as it is written, and more.
		"A1": "'" + most, "B1": "#OVER!", "A1&\"x\"": "#OVER!", "A1&\"xx\"": "#OVER!", "LEN(B1)": "200", "LEN(A1&\"xx\")": "#OVER!",
	} {
		m := []impl.Stmt{{Kind: impl.MsSet, At: ref(3, 3), Text: formula}}
		ends(t, s, m, 1, impl.McDone, 1, cellsShown(s)+"; C3 "+source)
		ends(t, append(slices.Clone(s), at(3, 3, "=C1")), m, 1, impl.McDone, 1, cellsShown(s)+"; C3 "+source)
		n, _, _ := impl.RunMacro(s, m, 1)
		if got, ok := impl.InputOf(impl.SourceAt(n, ref(3, 3))); !ok || got != source {
			t.Errorf("set to %s: %q", formula, got)
		}
	}
	// What is put is no value: it stays a formula.
	ends(t, nil, macroOf(t, "put A1 =B1; set A2 A1; put B1 5; set A3 A1"), 9, impl.McDone, 4, "A1 =B1; B1 5; A2 0; A3 5")
}

func TestP11FullSheets(t *testing.T) {
	for _, c := range []struct {
		many        int
		macro       string
		code, steps int64
		left        int
	}{
		{impl.MaxCells, "put K1 5", impl.McFull, 1, 0}, {impl.MaxCells, "set K1 A1", impl.McFull, 1, 0}, {impl.MaxCells, "put A1 5", impl.McDone, 1, impl.MaxCells}, {impl.MaxCells, "set J12 1", impl.McDone, 1, impl.MaxCells}, {impl.MaxCells, "put A1 ", impl.McDone, 1, impl.MaxCells - 1}, {impl.MaxCells, "put K1 ", impl.McDone, 1, impl.MaxCells},
		{impl.MaxCells, "put A1 ; put K1 5", impl.McDone, 2, impl.MaxCells}, {impl.MaxCells, "put A1 ; put A1 5; put K1 5", impl.McFull, 3, 0}, {impl.MaxCells, "put A1 ; put K1 5; put K1 6; put L1 6", impl.McFull, 4, 0}, {impl.MaxCells, "put K1 5; put A1 ", impl.McFull, 1, 0}, {impl.MaxCells, "put K1 5; put K1 ", impl.McFull, 1, 0},
		{impl.MaxCells - 1, "put K1 5", impl.McDone, 1, impl.MaxCells}, {impl.MaxCells - 1, "set K1 1/0", impl.McDone, 1, impl.MaxCells}, {impl.MaxCells - 1, "put K1 5; put L1 5", impl.McFull, 2, 0}, {impl.MaxCells - 1, "put K1 5; put K1 ; put L1 5", impl.McDone, 3, impl.MaxCells}, {impl.MaxCells - 1, "abort FALSE; set K1 1; unless 1 K1; set L1 K1; put M1 1", impl.McFull, 4, 0},
		// Whichever comes first is told.
		{impl.MaxCells, "abort 1; put K1 5", impl.McAbort, 1, 0}, {impl.MaxCells, "put K1 5; abort 1", impl.McFull, 1, 0}, {impl.MaxCells, "unless 1 0; put K1 5", impl.McDone, 1, impl.MaxCells},
	} {
		s := full(t, c.many)
		m := macroOf(t, c.macro)
		for _, fuel := range []int64{c.steps, c.steps + 1, impl.MaxFuel} {
			n, code, steps := impl.RunMacro(s, m, fuel)
			if code != c.code || steps != c.steps || code == impl.McDone && len(n) != c.left {
				t.Errorf("%s of %d: %d cells, %d, %d", c.macro, c.many, len(n), code, steps)
			}
			runsAsPlain(t, s, m, fuel)
		}
		for fuel := range c.steps {
			ends(t, s, m, fuel, impl.McFuel, fuel, "")
		}
	}
	m := puts(impl.MaxStmts)
	ends(t, gridCells(impl.MaxCells)[10:], m[:10], impl.MaxFuel, impl.McDone, 10, cellsShown(append(puttings(m[:10]), gridCells(impl.MaxCells)[10:]...)))
	ends(t, gridCells(impl.MaxCells)[10:], m[:11], impl.MaxFuel, impl.McFull, 11, "")
}

// puttings answers the cells that a macro of puts alone makes of nothing.
func puttings(m []impl.Stmt) []impl.Cell {
	var s []impl.Cell
	for _, st := range m {
		s = append(s, impl.Cell{At: st.At, Source: st.Text})
	}
	return s
}

func TestP11WhichCodeIsTold(t *testing.T) {
	wrong := wrongMacros(t)
	for i, s := range wrongSheets() {
		for _, m := range [][]impl.Stmt{nil, puts(3), wrong[i%len(wrong)], wrong[(i*7)%len(wrong)], macroOf(t, "abort 1")} {
			for _, fuel := range []int64{-1, 0, 1, impl.MaxFuel, impl.MaxFuel + 1} {
				if n, code, steps := impl.RunMacro(s, m, fuel); code != impl.McSheet || steps != 0 || len(n) != 0 {
					t.Errorf("RunMacro(%v) = %v, %d, %d", s, n, code, steps)
				}
				looksAtNothing(t, s, m, fuel)
			}
		}
	}
	for _, s := range rightSheets() {
		for _, m := range rightMacros(t) {
			runsAsPlain(t, s, m, impl.MaxFuel)
		}
	}
}

// looks asks for the areas and the places.
func looks(t *testing.T, s []impl.Cell, macro string, fuel int64, areas string, places string) {
	t.Helper()
	m := macroOf(t, macro)
	gotAreas, gotPlaces := impl.Looked(s, m, fuel)
	if areasShown(gotAreas) != areas || namesOf(gotPlaces) != places {
		t.Errorf("Looked(%s | %s | %d) = %s | %s, want %s | %s", cellsShown(s), macro, fuel, areasShown(gotAreas), namesOf(gotPlaces), areas, places)
	}
	runsAsPlain(t, s, m, fuel)
}

func TestP11WhatWasLookedAt(t *testing.T) {
	for _, c := range []struct{ sheet, macro, areas, places string }{
		{"", "", "", ""}, {"A1 =B1", "", "", ""}, {"", "set A1 1+1", "", "A1"}, {"", "set A1 B1", "B1", "A1"}, {"", "set A1 A1", "A1", "A1"}, {"", "put A1 =B1", "", "A1"}, {"A1 5", "put A1 ", "", "A1"}, {"", "put A1 ", "", "A1"}, {"", "abort B1", "B1", ""}, {"", "unless 1 B1; abort C1", "B1", ""}, {"", "abort C1; while 1 B1", "C1 B1", ""},
		// An area once; a place that is fixed or not, and an area of one cell, are the same area.
		{"", "set A1 B1+B1", "B1", "A1"}, {"", "set A1 $B$1+B$1+SUM(B1:B1)", "B1", "A1"}, {"", "set A1 SUM(B1:B2)+B1+B2", "B1:B2 B1 B2", "A1"}, {"", "set A1 C1+B1; set A2 B1+D1+C1", "C1 B1 D1", "A1 A2"}, {"", "set A1 SUM(A1:AZ99)", "A1:AZ99", "A1"},
		// Formulas behind formulas: all of one formula, then what is behind its first area, then what is behind the next one.
		{"A1 =B1; B1 =SUM(C1:C2)", "set A2 A1; set A2 A2", "A1 B1 C1:C2 A2", "A2"}, {"A1 =B1; B1 =C1; C1 =D1; D1 =E1", "abort A1", "A1 B1 C1 D1 E1", ""},
		{"A1 =C1; B1 =D1; C1 =E1", "abort A1+B1", "A1 B1 C1 E1 D1", ""}, {"A1 =B1+C1; B1 =D1; C1 =E1", "abort A1+B1", "A1 B1 C1 D1 E1", ""}, {"A1 =C1+B1; B1 =D1; C1 =E1", "abort A1+B1", "A1 B1 C1 E1 D1", ""}, {"A1 =C1; B1 =C1+D1; C1 =E1; D1 =A1", "abort B1+A1", "B1 A1 C1 D1 E1", ""},
		{"A1 1; B1 =X1; A2 =Y1; B2 =Z1", "abort SUM(A1:B2)", "A1:B2 X1 Y1 Z1", ""}, {"B1 =X1; A2 =Y1; X1 =V1; Y1 =W1", "abort SUM(A2:A3)+SUM(A1:B2)", "A2:A3 A1:B2 Y1 W1 X1 V1", ""}, {"A1 =SUM(B1:C1); B1 =X1; C1 =Y1; X1 =Z1", "abort A1", "A1 B1:C1 X1 Z1 Y1", ""}, {"A1 =1+2; B1 =A1", "abort B1", "B1 A1", ""},
		// What is no formula has nothing behind it, what is not in an area neither.
		{"A1 '=B1; B1 =C1", "abort A1", "A1", ""}, {"A1 B1; B1 =C1", "abort A1", "A1", ""}, {"B1 =C1; A2 =C1", "abort A1", "A1", ""}, {"B2 =C1; D4 =C1", "abort SUM(B3:D3)+SUM(A1:A9)+COUNT(C1:AZ1)", "B3:D3 A1:A9 C1:AZ1", ""},
		// A side that is not taken counts, and what is behind it.
		{"B1 =X1; C1 =Y1", "set A1 IF(TRUE,B1,C1)", "B1 C1 X1 Y1", "A1"}, {"B1 =IF(1,2,X1)", "set A1 AND(FALSE,B1)", "B1 X1", "A1"},
		// Circles.
		{"A1 =A1", "abort A1", "A1", ""}, {"A1 =B1; B1 =A1", "set C1 A1", "A1 B1", "C1"}, {"A1 =A1+B1; B1 =C1", "set D1 A1", "A1 B1 C1", "D1"}, {"A1 =B1+X1; B1 =C1+Y1; C1 =A1+Z1; X1 =U1; Y1 =V1; Z1 =W1", "abort C1", "C1 A1 Z1 B1 X1 Y1 V1 U1 W1", ""}, {"A1 =SUM(A1:C3); B1 =D1; C3 =A1+E1", "abort A1", "A1 A1:C3 D1 E1", ""},
		// Formulas that the macro itself has put, or has taken away.
		{"", "put A1 =B1; set C1 A1", "A1 B1", "A1 C1"}, {"", "set C1 A1; put A1 =B1; set D1 A1; put B1 =E1; set D1 A1", "A1 B1 E1", "C1 A1 D1 B1"}, {"A1 =B1", "put A1 5; set C1 A1", "A1", "A1 C1"}, {"A1 =B1", "put A1 ; abort A1", "A1", "A1"}, {"A1 =B1; B1 =C1", "set B1 A1; set D1 A1", "A1 B1 C1", "B1 D1"}, {"", "put A1 =B1; put B1 =A1; abort B1", "B1 A1", "A1 B1"}, {"A1 =B1", "abort A1; put B1 =A1; abort B1", "A1 B1", "B1"}, {"", "put A1 =A1; set A1 A1; set B1 A1", "A1", "A1 B1"},
		// Only what is told: not what is passed over.
		{"X1 =Y1", "unless 1 FALSE; set A1 B1; set C1 D1", "D1", "C1"}, {"", "unless 2 B1; set A1 B2; put A2 =B3", "B1", ""}, {"", "unless 2 NOT(B1); set A1 B2; put A2 =B3", "B1 B2", "A1 A2"},
		// Places set twice, in the order in which they first were.
		{"", "put C1 1; put A1 1; put C1 2; put B1 3; put A1 ", "", "C1 A1 B1"}, {"", "set A1 A1+1; set C1 B1; while 2 A1<4; put B1 1", "A1 B1", "A1 C1 B1"},
	} {
		looks(t, sheetOf(t, c.sheet), c.macro, impl.MaxFuel, c.areas, c.places)
	}
}

func TestP11WhatWasLookedAtByAMacroThatIsNotDone(t *testing.T) {
	s := sheetOf(t, "B1 =X1; D1 =Y1; F1 =Z1")
	const macro = "set A1 B1; abort D1+1; put E1 5; set C1 F1"
	for fuel, want := range []string{" | ", "B1 X1 | A1", "B1 X1 D1 Y1 | A1"} {
		areas, places, _ := strings.Cut(want, " | ")
		looks(t, s, macro, int64(fuel), areas, places)
	}
	looks(t, s, macro, impl.MaxFuel, "B1 X1 D1 Y1", "A1")
	const on = "set A1 B1; abort D1; put E1 5; set C1 F1; while 4 1"
	for fuel, want := range []string{" | ", "B1 X1 | A1", "B1 X1 D1 Y1 | A1", "B1 X1 D1 Y1 | A1 E1", "B1 X1 D1 Y1 F1 Z1 | A1 E1 C1", "B1 X1 D1 Y1 F1 Z1 | A1 E1 C1", "B1 X1 D1 Y1 F1 Z1 | A1 E1 C1"} {
		areas, places, _ := strings.Cut(want, " | ")
		looks(t, s, on, int64(fuel), areas, places)
	}
	// What there was no room for was looked at, but not set.
	s = gridCells(impl.MaxCells)
	s[0].Source = "=Y1"
	looks(t, s, "set K1 A1", 9, "A1 Y1", "")
	looks(t, s, "put K1 =Z1", 9, "", "")
	looks(t, s, "set C1 B1; put B2 ; put K1 1; set L1 SUM(A1:A2); put D1 1", 9, "B1 A1:A2 Y1", "C1 B2 K1")
}

// condition answers a formula that is true now and then.
func (d *dice) condition() string {
	name := impl.PlaceText(impl.Place{At: d.near()})
	switch d.below(6) {
	case 0:
		return d.formula()
	case 1:
		return []string{"TRUE", "FALSE", "1", "0", "\"x\"", "1/0"}[d.below(6)]
	}
	return name + []string{"<", ">", "=", "<>"}[d.below(4)] + strconv.Itoa(d.below(6))
}

// formula answers a written formula.
func (d *dice) formula() string {
	for {
		if source, ok := impl.InputOf(d.input()); ok && strings.HasPrefix(source, "=") {
			return source[1:]
		}
	}
}

// macro answers a right macro, in which little aborts.
func (d *dice) macro(t *testing.T, most int) []impl.Stmt {
	t.Helper()
	var m []impl.Stmt
	many := d.below(most + 1)
	for i := range many {
		st := impl.Stmt{Kind: impl.MsSet, At: d.near(), Text: d.formula()}
		switch n := d.below(20); {
		case n < 7:
			st.Kind = impl.MsPut
			st.Text, _ = impl.InputOf(d.input())
		case n < 10 && i+1 < many:
			st = impl.Stmt{Kind: impl.MsUnless, Text: d.condition(), Many: int64(1 + d.below(many-1-i))}
		case n < 13 && i > 0:
			st = impl.Stmt{Kind: impl.MsWhile, Text: d.condition(), Many: int64(1 + d.below(i))}
		case n < 14:
			st = impl.Stmt{Kind: impl.MsAbort, Text: d.condition()}
		}
		m = append(m, st)
	}
	if !impl.MacroOk(m) {
		t.Fatalf("not right: %s", macroShown(m))
	}
	return m
}

func TestP11ThrownMacrosAreHeldAgainstPlainOnes(t *testing.T) {
	d := dice(11)
	codes := map[int64]int{}
	looked, set, steps := 0, 0, int64(0)
	for range 3000 {
		s, m := d.sheet(t, d.below(18)), d.macro(t, 9)
		if d.below(8) == 0 {
			s = d.wideSheet(t, d.below(18))
		}
		r := runsAsPlain(t, s, m, int64(d.below(80)))
		codes[r.code]++
		looked, set, steps = max(looked, len(r.areas)), max(set, len(r.places)), max(steps, r.steps)
		if n, ok := impl.ReadMacro(impl.MacroText(m)); !ok || !slices.Equal(n, m) {
			t.Fatalf("%s comes back as %s, %v", macroShown(m), macroShown(n), ok)
		}
	}
	if codes[impl.McDone] < 1000 || codes[impl.McFuel] < 100 || codes[impl.McAbort] < 100 || looked < 20 || set < 6 || steps < 70 {
		t.Errorf("codes %v, %d areas, %d places, %d steps", codes, looked, set, steps)
	}
}

func TestP11ThrownMacrosOnFullSheets(t *testing.T) {
	d := dice(112)
	codes := map[int64]int{}
	for range 250 {
		s := gridCells(impl.MaxCells)
		for range d.below(3) {
			s = plainEnter(s, d.near(), "")
		}
		for range d.below(3) {
			s, _ = impl.Enter(s, d.near(), d.input())
		}
		m := d.macro(t, 9)
		for i := range m {
			if m[i].At != (impl.Ref{}) && d.below(2) == 0 {
				m[i].At.Col += 10
			}
		}
		codes[runsAsPlain(t, s, m, 40).code]++
	}
	if codes[impl.McDone] < 20 || codes[impl.McFull] < 20 {
		t.Errorf("codes %v", codes)
	}
}

// In what order areas are found does not hang on how often a formula is gone through.
func TestP11AreasAreFoundInOrder(t *testing.T) {
	d := dice(113)
	long := 0
	for range 3000 {
		s := d.sheet(t, d.below(9))
		formula := d.formula()
		var want []impl.Area
		for _, a := range behindByPaths(s, "="+formula, nil) {
			if !slices.Contains(want, a) {
				want = append(want, a)
			}
		}
		got, _ := impl.Looked(s, []impl.Stmt{{Kind: impl.MsAbort, Text: formula}}, 1)
		if !slices.Equal(got, want) {
			t.Fatalf("Looked(%s | %s) = %s, want %s", cellsShown(s), formula, areasShown(got), areasShown(want))
		}
		if len(got) > 5 {
			long++
		}
	}
	if long < 50 {
		t.Errorf("%d with many areas", long)
	}
}

func TestP11AMacroThatIsDoneDoesTheSameWithMoreFuel(t *testing.T) {
	d := dice(114)
	done := 0
	for range 600 {
		s, m := d.sheet(t, d.below(12)), d.macro(t, 8)
		n, code, steps := impl.RunMacro(s, m, 60)
		areas, places := impl.Looked(s, m, 60)
		for _, fuel := range []int64{steps, steps + 1, 61, impl.MaxFuel} {
			if code == impl.McFuel {
				break
			}
			again, c, k := impl.RunMacro(s, m, fuel)
			a, p := impl.Looked(s, m, fuel)
			if c != code || k != steps || !slices.Equal(again, n) || !slices.Equal(a, areas) || !slices.Equal(p, places) {
				t.Fatalf("%s | %s: with fuel %d %d, %d, %s", cellsShown(s), macroShown(m), fuel, c, k, cellsShown(again))
			}
		}
		for fuel := range steps {
			less, c, k := impl.RunMacro(s, m, fuel)
			a, p := impl.Looked(s, m, fuel)
			if c != impl.McFuel || k != fuel || !slices.Equal(less, s) || !slices.Equal(a, areas[:len(a)]) || !slices.Equal(p, places[:len(p)]) {
				t.Fatalf("%s | %s: with fuel %d %d, %d, %s", cellsShown(s), macroShown(m), fuel, c, k, cellsShown(less))
			}
		}
		if code == impl.McDone && steps > 3 {
			done++
		}
	}
	if done < 150 {
		t.Errorf("%d done", done)
	}
}

func TestP11WhatItDoesHangsOnWhatItLookedAtAlone(t *testing.T) {
	d := dice(115)
	changed, done := 0, 0
	for range 2500 {
		s, m := d.sheet(t, d.below(16)), d.macro(t, 6)
		r := runsAsPlain(t, s, m, 50)
		other := s
		for range 8 {
			n, at := d.entered(t, other)
			if !slices.ContainsFunc(r.areas, func(a impl.Area) bool { return has(a, at) }) {
				other = n
			}
		}
		if slices.Equal(s, other) {
			continue
		}
		changed++
		n, code, steps := impl.RunMacro(other, m, 50)
		areas, places := impl.Looked(other, m, 50)
		if code != r.code || steps != r.steps || !slices.Equal(areas, r.areas) || !slices.Equal(places, r.places) {
			t.Fatalf("%s on %s and on %s: %d, %d and %d, %d", macroShown(m), cellsShown(s), cellsShown(other), r.code, r.steps, code, steps)
		}
		want := other
		for _, at := range places {
			if code == impl.McDone {
				want = plainEnter(want, at, plainAt(r.sheet, at))
			}
		}
		if !slices.Equal(n, want) {
			t.Fatalf("%s on %s and on %s: %s, want %s", macroShown(m), cellsShown(s), cellsShown(other), cellsShown(n), cellsShown(want))
		}
		if code == impl.McDone && len(r.areas) > 0 && len(places) > 0 {
			done++
		}
	}
	if changed < 1000 || done < 500 {
		t.Errorf("%d changed, %d done", changed, done)
	}
}

// Formulas that all lean on each other are gone through once, not by each way.
func TestP11WebsOfFormulas(t *testing.T) {
	s := gridCells(impl.MaxCells)
	for i := range s {
		s[i].Source = "=COUNT(A1:J12)"
	}
	looks(t, s, "abort SUM(A1:J12); set A1 B1; set B1 COUNT(A1:J12)", 9, "A1:J12 B1", "A1 B1")
	m := macroOf(t, "set A1 A1+1; while 1 TRUE")
	ends(t, chain(t, impl.MaxCells, "1"), m, impl.MaxFuel, impl.McFuel, impl.MaxFuel, "")
	areas, _ := impl.Looked(chain(t, impl.MaxCells, "1"), m, impl.MaxFuel)
	if len(areas) != impl.MaxCells || areas[0] != area(1, 1, 1, 1) || areas[impl.MaxCells-1] != area(10, 12, 10, 12) {
		t.Errorf("along a chain: %s", areasShown(areas))
	}
}

func TestP11ArgumentsAreNotWrittenAndAnswersAreNew(t *testing.T) {
	s := append(sheetOf(t, "A1 5; B1 =A1; C1 =B1"), at(77, 77, "spare"), at(77, 77, "spare"))
	for _, lines := range []string{"", "set A1 C1+1; put D1 1; while 2 A1<9", "abort C1; put A1 1", "put A1 1; abort C1", "set A1 A1+1; while 1 1"} {
		m := append(macroOf(t, lines), impl.Stmt{Text: "spare"}, impl.Stmt{Text: "spare"})
		cells, stmts := slices.Clone(s), slices.Clone(m)
		var first string
		for range 3 {
			n, code, steps := impl.RunMacro(s[:3], m[:len(m)-2], 30)
			areas, places := impl.Looked(s[:3], m[:len(m)-2], 30)
			text := impl.MacroText(m[:len(m)-2])
			back, ok := impl.ReadMacro(text)
			told := fmt.Sprint(n, code, steps, areas, places, text, back, ok)
			if first == "" {
				first = told
			}
			if told != first || !slices.Equal(s, cells) || !slices.Equal(m, stmts) {
				t.Fatalf("%s: %s, %v, %v", lines, told, s, m)
			}
			_ = append(n, impl.Cell{})
			_ = append(back, impl.Stmt{})
			for i := range n {
				n[i] = impl.Cell{}
			}
			for i := range areas {
				areas[i] = impl.Area{}
			}
			for i := range places {
				places[i] = impl.Ref{}
			}
			for i := range back {
				back[i] = impl.Stmt{}
			}
		}
	}
}
