package tests

import (
	"math"
	"slices"
	"strconv"
	"strings"
	"testing"

	"loop.example/g00267/impl"
)

func refNamed(t *testing.T, name string) impl.Ref {
	t.Helper()
	p, ok := impl.ReadPlace(name)
	if !ok {
		t.Fatalf("no place: %q", name)
	}
	return p.At
}

// sheetOf answers the sheet of "A1 5; B2 =A1+1" and the like.
func sheetOf(t *testing.T, typed string) []impl.Cell {
	t.Helper()
	var s []impl.Cell
	for _, line := range strings.Split(typed, "; ") {
		name, input, _ := strings.Cut(line, " ")
		if name == "" {
			continue
		}
		n, ok := impl.Enter(s, refNamed(t, name), input)
		if !ok {
			t.Fatalf("Enter(%q)", line)
		}
		s = n
	}
	return s
}

func refsNamed(t *testing.T, list string) []impl.Ref {
	t.Helper()
	var refs []impl.Ref
	for _, name := range strings.Fields(list) {
		refs = append(refs, refNamed(t, name))
	}
	return refs
}

func namesOf(refs []impl.Ref) string {
	var list []string
	for _, r := range refs {
		list = append(list, impl.PlaceText(impl.Place{At: r}))
	}
	return strings.Join(list, " ")
}

func shown(l []impl.CellValue) string {
	var list []string
	for _, c := range l {
		list = append(list, impl.PlaceText(impl.Place{At: c.At})+" "+impl.ValueText(c.Val))
	}
	return strings.Join(list, "; ")
}

// chain answers many cells, each of which says 1 more than the next one; the last one says what is typed.
func chain(t *testing.T, many int, last string) []impl.Cell {
	t.Helper()
	s := gridCells(many)
	for i := range s {
		source := last
		if i+1 < many {
			source = "=" + impl.PlaceText(impl.Place{At: s[i+1].At}) + "+1"
		}
		s[i].Source = source
	}
	if !impl.SheetOk(s) {
		t.Fatalf("no sheet: %v", s)
	}
	return s
}

func reversed(s []impl.Cell) []impl.Cell {
	places := map[impl.Ref]impl.Ref{}
	for i, c := range s {
		places[c.At] = s[len(s)-1-i].At
	}
	var n []impl.Cell
	for i := len(s) - 1; i >= 0; i-- {
		source := s[i].Source
		if from, ok := strings.CutPrefix(source, "="); ok {
			name, rest, _ := strings.Cut(from, "+")
			p, _ := impl.ReadPlace(name)
			source = "=" + impl.PlaceText(impl.Place{At: places[p.At]}) + "+" + rest
		}
		n = append(n, impl.Cell{At: places[s[i].At], Source: source})
	}
	return n
}

func TestP7LeansOn(t *testing.T) {
	s := sheetOf(t, "A1 5; B1 =A1*2; C1 =B1+SUM(A1:B1)+A1; D1 ; E1 'text; F1 TRUE; G1 #REF!; A2 =Z9; B2 =SUM(Z1:Z9); C2 =1+2; D2 =C3+$B$1+AA1+C1; E2 =SUM(A1:AZ99); F2 =IF(FALSE,F2,A1); G2 '=A1; C3 =SUM(B2:C2,A1:B2,D2,C1); AZ99 =\"A1\"&#REF!")
	for name, want := range map[string]string{
		"A1": "", "B1": "A1", "C1": "A1 B1", "D1": "", "E1": "", "F1": "", "G1": "", "A2": "", "B2": "", "C2": "", "D2": "B1 C1 C3", "F2": "A1 F2", "G2": "", "C3": "A1 B1 C1 A2 B2 C2 D2", "AZ99": "", "Z9": "",
		"E2": "A1 B1 C1 E1 F1 G1 A2 B2 C2 D2 E2 F2 G2 C3 AZ99",
	} {
		if got := namesOf(impl.LeansOn(s, refNamed(t, name))); got != want {
			t.Errorf("LeansOn %s: %q, want %q", name, got, want)
		}
	}
	for _, r := range []impl.Ref{{}, ref(0, 1), ref(1, 0), ref(53, 1), ref(1, 100), ref(-1, -1), ref(math.MaxInt64, math.MinInt64)} {
		if got := impl.LeansOn(s, r); len(got) != 0 {
			t.Errorf("LeansOn(%v) = %v", r, got)
		}
	}
	full := gridCells(impl.MaxCells)
	full[0].Source = "=SUM(A1:AZ99)"
	if got := impl.LeansOn(full, full[0].At); len(got) != impl.MaxCells || !slices.IsSortedFunc(got, plainOrder) {
		t.Errorf("LeansOn of all: %v", got)
	}
}

func plainOrder(a impl.Ref, b impl.Ref) int { return int((a.Row-b.Row)*1000 + a.Col - b.Col) }

func TestP7Circles(t *testing.T) {
	for typed, want := range map[string]string{
		"A1 =A1": "A1", "A1 =$A$1": "A1", "A1 =SUM(A1:A1)": "A1", "B2 =SUM(A1:C3)": "B2", "A1 =SUM(B1:C9)": "", "A1 =COUNT(A1:B9)": "A1",
		"A1 =B1; B1 =A1": "A1 B1", "A1 =B1; B1 =A1; C1 =A1": "A1 B1", "A1 =B1; B1 =A1+C1; C1 5": "A1 B1", "A1 =B1; B1 =SUM(A1:A9)": "A1 B1",
		"A1 =B1; B1 =C1; C1 =A1; D1 =C1; E1 =D1": "A1 B1 C1", "A1 =B1; B1 =C1; C1 =D1; D1 =B1": "B1 C1 D1",
		"A1 =B1+C1; B1 =A1; C1 =A1": "A1 B1 C1", "A1 =B1; B1 =A1+C1; C1 =D1; D1 =C1; E1 =A1+D1": "A1 B1 C1 D1",
		"A1 =B1; B1 =A1; A2 =B2; B2 =A2; C1 =A1+A2": "A1 A2 B1 B2",
		"A1 =B1+C1; B1 =D1; C1 =D1; D1 =E1":         "", "A1 =B1+C1+D1; B1 =C1+D1; C1 =D1; D1 5": "", "A1 =A2; A3 =A1": "", "A1 'A1": "", "A1 '=A1": "", "A1 #CYCLE!": "", "A1 =#CYCLE!": "", "A1 =\"A1\"": "", "A1 =1": "", "A1 7": "",
		"A1 =IF(TRUE,1,A1)": "A1", "A1 =IF(FALSE,A1,1)": "A1", "A1 =IF(B1,1,A1); B1 TRUE": "A1", "A1 =IF(TRUE,1,B1); B1 =A1": "A1 B1", "A1 =1/0+A1": "A1",
		"A1 =SUM(A2:A9); A9 =B9; B9 =A1; A5 3": "A1 A9 B9", "": "",
	} {
		s := sheetOf(t, typed)
		in := refsNamed(t, want)
		for _, name := range []string{"A1", "B1", "C1", "D1", "E1", "A2", "B2", "A3", "A5", "A9", "B9", "F1", "AZ99"} {
			r := refNamed(t, name)
			if got := impl.InCircle(s, r); got != slices.Contains(in, r) {
				t.Errorf("%s: InCircle %s is %v", typed, name, got)
			}
		}
		for _, c := range impl.ValuesOf(s) {
			if slices.Contains(in, c.At) && c.Val != errCycle {
				t.Errorf("%s: %v says %v", typed, c.At, c.Val)
			}
		}
		for _, r := range []impl.Ref{{}, ref(0, 1), ref(1, 0), ref(53, 1), ref(1, 100), ref(-1, -1), ref(math.MinInt64, math.MaxInt64)} {
			if impl.InCircle(s, r) {
				t.Errorf("%s: InCircle(%v)", typed, r)
			}
		}
	}
}

func TestP7Values(t *testing.T) {
	for typed, want := range map[string]string{
		"": "", "A1 5": "A1 5", "A1 -7; B1 'x; C1 '; D1 TRUE; E1 FALSE; F1 #OVER!; G1 #CYCLE!; H1 '=A1; I1 abc; J1 007": "A1 -7; B1 'x; C1 '; D1 TRUE; E1 FALSE; F1 #OVER!; G1 #CYCLE!; H1 '=A1; I1 'abc; J1 7",
		"A1 =B1; B1 =C1; C1 =D1; D1 9": "A1 9; B1 9; C1 9; D1 9", "A1 =Z9": "A1 0", "A1 =Z9&\"\"": "A1 '", "A1 =SUM(B1:Z9)": "A1 0", "A1 =AND(B1:B9)": "A1 TRUE", "A1 =1+2*3": "A1 7",
		"A1 =1/0; B1 =A1; C1 =COUNT(A1:B1); D1 =SUM(A1:B1)": "A1 #DIV!; B1 #DIV!; C1 0; D1 #DIV!", "A1 x; B1 =A1+1; C1 =LEN(A1)": "A1 'x; B1 #TYPE!; C1 1",
		"A1 =A1; B1 =A1+1; C1 =COUNT(A1:B1); D1 =IF(TRUE,3,A1); E1 =A1=A1": "A1 #CYCLE!; B1 #CYCLE!; C1 0; D1 3; E1 #CYCLE!",
		"A1 =B1; B1 =A1; C1 =IF(FALSE,A1,\"fine\"); D1 =C1":                "A1 #CYCLE!; B1 #CYCLE!; C1 'fine; D1 'fine",
		"A1 =IF(TRUE,1,A1); B1 =A1":                                        "A1 #CYCLE!; B1 #CYCLE!", "A1 =COUNT(A1:A9); A2 5": "A1 #CYCLE!; A2 5",
		"A1 =SUM(A2:A4); A2 =A3*2; A3 =A4*2; A4 1; B1 =A1&A2": "A1 7; B1 '74; A2 4; A3 2; A4 1", "A1 1000000000000000; B1 =A1+1; C1 =A1-1": "A1 1000000000000000; B1 #OVER!; C1 999999999999999",
		"A1 =B1; B1 =IF(1,Z9)": "A1 0; B1 0", "A1 =LEN(B1); B1 =Z9": "A1 1; B1 0", "A1 =1>2; B1 =NOT(A1)": "A1 FALSE; B1 TRUE",
	} {
		if got := shown(impl.ValuesOf(sheetOf(t, typed))); got != want {
			t.Errorf("%s: %q, want %q", typed, got, want)
		}
	}
}

func TestP7LongChains(t *testing.T) {
	for _, many := range []int{1, 2, 3, 60, impl.MaxCells - 1, impl.MaxCells} {
		for _, s := range [][]impl.Cell{chain(t, many, "100"), reversed(chain(t, many, "100"))} {
			root := slices.IndexFunc(s, func(c impl.Cell) bool { return c.Source == "100" })
			l := impl.ValuesOf(s)
			if len(l) != many {
				t.Fatalf("%d values of %d", len(l), many)
			}
			for i, c := range l {
				far := int64(max(i-root, root-i))
				if c.At != s[i].At || c.Val != num(100+far) || impl.InCircle(s, c.At) {
					t.Fatalf("%d cells: %v says %v", many, c.At, c.Val)
				}
			}
			if got := impl.Touched(s, []impl.Ref{s[root].At}); len(got) != many || !slices.IsSortedFunc(got, plainOrder) {
				t.Fatalf("%d cells: touched %v", many, got)
			}
			s[root].Source = "-100"
			anew := impl.Recalculated(s, l, []impl.Ref{s[root].At})
			if !slices.Equal(anew, impl.ValuesOf(s)) || anew[root].Val != num(-100) {
				t.Fatalf("%d cells anew: %v", many, anew)
			}
			// A middle one that changes leaves what it leans on.
			middle := s[many/2].At
			got := impl.Touched(s, []impl.Ref{middle})
			want := many/2 + 1
			if root == 0 {
				want = many - many/2
			}
			if len(got) != want {
				t.Fatalf("%d cells: %d touched by the middle one, want %d", many, len(got), want)
			}
		}
		circle := chain(t, many, "=A1+1")
		for _, c := range impl.ValuesOf(circle) {
			if c.Val != errCycle || !impl.InCircle(circle, c.At) {
				t.Fatalf("circle of %d: %v says %v", many, c.At, c.Val)
			}
			if got := impl.Touched(circle, []impl.Ref{c.At}); len(got) != many {
				t.Fatalf("circle of %d: %d touched", many, len(got))
			}
		}
	}
}

func TestP7EachLeansOnAllAheadOfIt(t *testing.T) {
	s := gridCells(100)
	for i := range s {
		row := s[i].At.Row
		s[i].Source = "=1"
		if row > 1 {
			s[i].Source += "+SUM(A1:J" + strconv.FormatInt(row-1, 10) + ")"
		}
		if s[i].At.Col > 1 {
			s[i].Source += "+COUNT(A" + strconv.FormatInt(row, 10) + ":" + impl.PlaceText(impl.Place{At: s[i-1].At}) + ")"
		}
	}
	l := impl.ValuesOf(s)
	if !slices.Equal(l, plainValuesOf(s)) || l[99].Val.Kind != impl.VlInt {
		t.Errorf("%s", shown(l))
	}
	whole := gridCells(impl.MaxCells)
	for i := range whole {
		whole[i].Source = "=SUM(A1:AZ99," + strings.Repeat("A1:AZ99,", 8) + "A1:AZ99)"
	}
	for _, c := range impl.ValuesOf(whole) {
		if c.Val != errCycle {
			t.Fatalf("%v says %v", c.At, c.Val)
		}
	}
}

func TestP7Touched(t *testing.T) {
	s := sheetOf(t, "A1 5; B1 =A1*2; C1 =B1+SUM(A1:B1); D1 7; A2 =B2; B2 =A2+1; C2 =A2; A3 =A3; B3 =Z9; C3 =SUM(Y1:Z9); D3 =C3; E3 =IF(FALSE,D1,1); F3 '=A1; G3 =SUM(A9:B9)")
	for refs, want := range map[string]string{
		"": "", "A1": "A1 B1 C1", "B1": "B1 C1", "C1": "C1", "D1": "D1 E3", "A2": "A2 B2 C2", "B2": "A2 B2 C2", "C2": "C2", "A3": "A3", "Z9": "B3 C3 D3", "Y1": "C3 D3", "Z1": "C3 D3", "X1": "", "Y10": "", "AA9": "",
		"A1 A1 A1": "A1 B1 C1", "C1 A2 A1": "A1 B1 C1 A2 B2 C2", "Z9 Y1 B3 A3 AZ99": "A3 B3 C3 D3", "E3": "E3", "F3": "F3", "A9 B9": "G3", "B9 A1": "A1 B1 C1 G3", "AZ99 AZ98 A99": "",
	} {
		if got := namesOf(impl.Touched(s, refsNamed(t, refs))); got != want {
			t.Errorf("Touched %s: %q, want %q", refs, got, want)
		}
	}
	wrong := []impl.Ref{{}, ref(0, 1), ref(1, 0), ref(53, 1), ref(1, 100), ref(-1, -1), ref(math.MaxInt64, math.MinInt64), ref(1, math.MaxInt64)}
	if got := impl.Touched(s, wrong); len(got) != 0 {
		t.Errorf("touched by none: %v", got)
	}
	if got := namesOf(impl.Touched(s, append(wrong, ref(3, 1), ref(0, 0)))); got != "C1" {
		t.Errorf("touched: %s", got)
	}
}

func TestP7AsManyRefsAsMayBe(t *testing.T) {
	s := sheetOf(t, "A1 5; B1 =A1; C1 =Z9; D1 9")
	l := impl.ValuesOf(s)
	old := []impl.CellValue{val(1, 1, num(1)), val(2, 1, num(1)), val(3, 1, num(1)), val(4, 1, num(1))}
	for _, fill := range []impl.Ref{ref(1, 1), ref(40, 40), {}, ref(-3, 200)} {
		refs := slices.Repeat([]impl.Ref{fill}, impl.MaxCells)
		refs[impl.MaxCells-1] = ref(1, 1)
		if got := namesOf(impl.Touched(s, refs)); got != "A1 B1" {
			t.Errorf("Touched by %v: %s", fill, got)
		}
		if got := shown(impl.Recalculated(s, old, refs)); got != "A1 5; B1 5; C1 1; D1 1" {
			t.Errorf("Recalculated by %v: %s", fill, got)
		}
		for _, more := range []impl.Ref{fill, ref(1, 1)} {
			tooMany := append(slices.Clone(refs), more)
			if got := impl.Touched(s, tooMany); len(got) != 0 {
				t.Errorf("Touched by too many: %v", got)
			}
			if got := impl.Recalculated(s, l, tooMany); len(got) != 0 {
				t.Errorf("Recalculated by too many: %v", got)
			}
		}
	}
	full := gridCells(impl.MaxCells)
	var all []impl.Ref
	for _, c := range full {
		all = append([]impl.Ref{c.At}, all...)
	}
	if got := impl.Touched(full, all); len(got) != impl.MaxCells || !slices.IsSortedFunc(got, plainOrder) {
		t.Errorf("all touched: %v", got)
	}
	if got := impl.Recalculated(full, nil, all); !slices.Equal(got, gridValues(impl.MaxCells)) {
		t.Errorf("all anew: %v", got)
	}
}

func TestP7Recalculated(t *testing.T) {
	for i, c := range []struct{ sheet, old, changed, want string }{
		{"", "", "A1", ""}, {"A1 5", "", "", "A1 "}, {"A1 5", "", "A1", "A1 5"}, {"A1 5", "", "B1", "A1 "}, {"A1 5", "A1 9", "", "A1 9"}, {"A1 5", "A1 9", "A1", "A1 5"},
		// What old says counts where nothing was touched, whatever the sheet says.
		{"A1 5; B1 =A1; C1 =B1+1", "A1 9; B1 8; C1 7", "", "A1 9; B1 8; C1 7"}, {"A1 5; B1 =A1; C1 =B1+1", "A1 9; B1 8; C1 7", "C1", "A1 9; B1 8; C1 9"}, {"A1 5; B1 =A1; C1 =B1+1", "A1 9; B1 8; C1 7", "B1", "A1 9; B1 9; C1 10"},
		{"A1 5; B1 =A1; C1 =B1+1", "A1 9; B1 8; C1 7", "A1", "A1 5; B1 5; C1 6"}, {"A1 5; B1 =A1", "A1 'x; B1 #REF!", "B1", "A1 'x; B1 'x"},
		// What old does not say is a blank, which counts in an area.
		{"A1 5; B1 =A1; C1 =A1&\"x\"", "", "B1 C1", "A1 ; B1 0; C1 'x"}, {"A1 5; B1 =AND(A1:A9); C1 =AND(A2:A9); D1 =COUNT(A1:A9)", "", "B1 C1 D1", "A1 ; B1 FALSE; C1 TRUE; D1 0"},
		{"A1 5; B1 =A1; C1 =A1", "B1 3", "C1", "A1 ; B1 3; C1 0"},
		// Cells that are gone: what old says of them counts no more, what names them is touched.
		{"B1 =A1+1; C1 =B1", "A1 5; B1 6; C1 6", "A1", "B1 1; C1 1"}, {"B1 =A1+1; C1 =B1", "A1 5; B1 6; C1 6", "", "B1 6; C1 6"}, {"B1 =A1+1; C1 =B1", "A1 5; B1 6; C1 6", "B1", "B1 1; C1 1"},
		{"B1 =SUM(A1:A9); A2 3", "A1 5; B1 8; A2 3", "A1", "B1 3; A2 3"}, {"B1 =AND(A1:A9)", "A1 FALSE; B1 FALSE", "A1", "B1 TRUE"}, {"C1 =A1+B1; B1 =A1", "A1 5; B1 5; C1 10", "A1", "B1 0; C1 0"},
		// Circles: told where they are touched, left where they are not.
		{"A1 =B1; B1 =A1; C1 =A1", "A1 1; B1 2; C1 3", "", "A1 1; B1 2; C1 3"}, {"A1 =B1; B1 =A1; C1 =A1", "A1 1; B1 2; C1 3", "C1", "A1 1; B1 2; C1 1"}, {"A1 =B1; B1 =A1; C1 =A1", "A1 1; B1 2; C1 3", "B1", "A1 #CYCLE!; B1 #CYCLE!; C1 #CYCLE!"},
		{"A1 =A1; B1 5", "A1 1; B1 2", "B1", "A1 1; B1 5"}, {"A1 =A1; B1 5", "A1 1; B1 2", "A1", "A1 #CYCLE!; B1 2"}, {"A1 =B1; B1 4", "A1 #CYCLE!; B1 #CYCLE!", "B1", "A1 4; B1 4"}, {"A1 =B1", "A1 #CYCLE!; B1 #CYCLE!", "B1", "A1 0"},
		{"A1 =IF(TRUE,1,B1); B1 =A1", "A1 1; B1 1", "B1", "A1 #CYCLE!; B1 #CYCLE!"}, {"A1 =IF(FALSE,C1,2); B1 =A1; C1 3", "A1 9; B1 9; C1 9", "C1", "A1 2; B1 2; C1 3"},
		{"A1 1; B1 2; C1 =A1+B1; D1 =A1", "A1 9; B1 9; C1 9; D1 9", "B1", "A1 9; B1 2; C1 11; D1 9"}, {"A1 1; B1 =1/A1; C1 =B1", "A1 0; B1 #DIV!; C1 #DIV!", "A1 Z9 A1", "A1 1; B1 1; C1 1"},
		{"C3 5; D3 =C3", "A1 1; B2 2; C3 4; D3 4; E5 5", "E5 A1", "C3 4; D3 4"},
	} {
		s, old := sheetOf(t, c.sheet), impl.ValuesOf(sheetOf(t, c.old))
		if got := shown(impl.Recalculated(s, old, refsNamed(t, c.changed))); got != c.want {
			t.Errorf("line %d: %q, want %q", i, got, c.want)
		}
	}
}

func TestP7AnyRightValueOfOldStays(t *testing.T) {
	s := sheetOf(t, "A1 5; B1 =A1; C1 =-A1")
	for _, v := range rightValues() {
		old := []impl.CellValue{val(1, 1, v), val(3, 1, v)}
		want := []impl.CellValue{val(1, 1, v), val(2, 1, impl.Eval(mustRead(t, "A1"), old)), val(3, 1, v)}
		if got := impl.Recalculated(s, old, []impl.Ref{ref(2, 1)}); !slices.Equal(got, want) {
			t.Errorf("Recalculated with %v: %v, want %v", v, got, want)
		}
	}
}

func TestP7WrongInputs(t *testing.T) {
	var some []impl.Ref
	for _, c := range gridCells(impl.MaxCells) {
		some = append(some, c.At)
	}
	for _, s := range wrongSheets() {
		for _, refs := range [][]impl.Ref{nil, {ref(1, 1)}, some} {
			if got := impl.Touched(s, refs); len(got) != 0 {
				t.Errorf("Touched of no sheet: %v", got)
			}
			if got := impl.Recalculated(s, nil, refs); len(got) != 0 {
				t.Errorf("Recalculated of no sheet: %v", got)
			}
		}
		if got := impl.ValuesOf(s); len(got) != 0 {
			t.Errorf("ValuesOf no sheet: %v", got)
		}
	}
	for _, l := range wrongLists() {
		for _, changed := range [][]impl.Ref{nil, {ref(1, 1)}, some} {
			if got := impl.Recalculated(sheetOf(t, "A1 5; B1 =A1"), l, changed); len(got) != 0 {
				t.Errorf("Recalculated with a wrong list: %v", got)
			}
		}
	}
	circle := sheetOf(t, "A1 =B1; B1 =A1; C1 =B1")
	for _, more := range []impl.Cell{at(1, 2, "=(1)"), at(1, 2, ""), at(1, 1, "1"), at(53, 2, "1"), at(1, 100, "1")} {
		s := append(slices.Clone(circle), more)
		for _, r := range []impl.Ref{ref(1, 1), ref(2, 1), ref(3, 1), ref(1, 2)} {
			if impl.InCircle(s, r) || len(impl.LeansOn(s, r)) != 0 {
				t.Errorf("%v of no sheet: %v, %v", r, impl.InCircle(s, r), impl.LeansOn(s, r))
			}
		}
	}
	tooMany := gridCells(impl.MaxCells + 1)
	tooMany[0].Source, tooMany[1].Source = "=B1", "=A1"
	if impl.InCircle(tooMany, ref(1, 1)) || len(impl.LeansOn(tooMany, ref(1, 1))) != 0 || len(impl.ValuesOf(tooMany)) != 0 {
		t.Errorf("a sheet of one cell too many")
	}
	if most := tooMany[:impl.MaxCells]; !impl.InCircle(most, ref(1, 1)) || len(impl.LeansOn(most, ref(1, 1))) != 1 || len(impl.ValuesOf(most)) != impl.MaxCells {
		t.Errorf("a sheet of as many cells as may be")
	}
}

// plainAreas answers none for a source that is no formula.
func plainAreas(source string) []impl.Area {
	if !strings.HasPrefix(source, "=") {
		return nil
	}
	f, _ := impl.ReadFormula(source[1:])
	return impl.AreasOf(f)
}

func plainLeansOn(s []impl.Cell, source string) []impl.Ref {
	var on []impl.Ref
	for _, c := range s {
		if slices.ContainsFunc(plainAreas(source), func(a impl.Area) bool { return has(a, c.At) }) {
			on = append(on, c.At)
		}
	}
	return on
}

// plainReach answers, cell by cell of the sheet, whether i comes to j in one step or more.
func plainReach(s []impl.Cell) [][]bool {
	reach := make([][]bool, len(s))
	for i, c := range s {
		reach[i] = make([]bool, len(s))
		on := plainLeansOn(s, c.Source)
		for j, d := range s {
			reach[i][j] = slices.Contains(on, d.At)
		}
	}
	for k := range s {
		for i := range s {
			for j := range s {
				reach[i][j] = reach[i][j] || reach[i][k] && reach[k][j]
			}
		}
	}
	return reach
}

// plainReckoned lets each cell that is not held say its value again and again, until all have come to rest.
func plainReckoned(s []impl.Cell, l []impl.CellValue, held func(impl.Ref) bool) []impl.CellValue {
	reach := plainReach(s)
	for range len(s) + 1 {
		for i, c := range s {
			if held(c.At) {
				continue
			}
			if !strings.HasPrefix(c.Source, "=") {
				l[i].Val, _ = impl.ReadValue(c.Source)
				continue
			}
			l[i].Val = errCycle
			if !reach[i][i] {
				f, _ := impl.ReadFormula(c.Source[1:])
				l[i].Val = impl.Eval(f, l)
			}
		}
	}
	return l
}

func blanksFor(s []impl.Cell) []impl.CellValue {
	var l []impl.CellValue
	for _, c := range s {
		l = append(l, impl.CellValue{At: c.At})
	}
	return l
}

func plainValuesOf(s []impl.Cell) []impl.CellValue {
	return plainReckoned(s, blanksFor(s), func(impl.Ref) bool { return false })
}

func plainTouched(s []impl.Cell, refs []impl.Ref) []impl.Ref {
	from := slices.Clone(refs)
	for range s {
		for _, c := range s {
			for _, a := range plainAreas(c.Source) {
				if !slices.Contains(from, c.At) && slices.ContainsFunc(from, func(r impl.Ref) bool { return has(a, r) }) {
					from = append(from, c.At)
				}
			}
		}
	}
	var touched []impl.Ref
	for _, c := range s {
		if slices.Contains(from, c.At) {
			touched = append(touched, c.At)
		}
	}
	return touched
}

func plainRecalculated(s []impl.Cell, old []impl.CellValue, changed []impl.Ref) []impl.CellValue {
	touched := plainTouched(s, changed)
	l := blanksFor(s)
	for i := range l {
		if !slices.Contains(touched, l[i].At) {
			l[i].Val = impl.Lookup(old, l[i].At)
		}
	}
	return plainReckoned(s, l, func(r impl.Ref) bool { return !slices.Contains(touched, r) })
}

func (d *dice) near() impl.Ref { return ref(int64(d.below(5)+1), int64(d.below(4)+1)) }

// input answers what may be typed: values, formulas of the first cells, and nothing.
func (d *dice) input() string {
	name := func() string { return impl.PlaceText(impl.Place{At: d.near(), FixCol: d.below(4) == 0}) }
	span := func() string {
		a, b := d.near(), d.near()
		return impl.PlaceText(impl.Place{At: ref(min(a.Col, b.Col), min(a.Row, b.Row))}) + ":" + impl.PlaceText(impl.Place{At: ref(max(a.Col, b.Col), a.Row/2+max(a.Row, b.Row)/2+1)})
	}
	switch d.below(12) {
	case 0, 1, 2:
		return strconv.Itoa(d.below(9) - 3)
	case 3:
		return []string{"text", "TRUE", "FALSE", "#REF!", "'", "#CYCLE!", "=1/0"}[d.below(7)]
	case 4:
		return ""
	case 5, 6:
		return "=" + name()
	case 7:
		return "=" + name() + []string{"+", "-", "*", "&", "<", "/"}[d.below(6)] + name()
	case 8:
		return "=IF(" + name() + "," + name() + "," + name() + ")"
	case 9:
		if a := span(); d.below(3) == 0 {
			return "=SUM(" + a + ")"
		}
	case 10:
		if a := span(); d.below(3) == 0 {
			return "=COUNT(" + a + ",AND(" + name() + ":AZ99))"
		}
	}
	return "=" + name() + "+1"
}

func (d *dice) sheet(t *testing.T, typed int) []impl.Cell {
	t.Helper()
	var s []impl.Cell
	for range typed {
		s, _ = d.entered(t, s)
	}
	return s
}

func (d *dice) entered(t *testing.T, s []impl.Cell) ([]impl.Cell, impl.Ref) {
	t.Helper()
	for {
		r := d.near()
		if n, ok := impl.Enter(s, r, d.input()); ok {
			return n, r
		}
	}
}

func TestP7ThrownSheetsAreHeldAgainstPlainOnes(t *testing.T) {
	d := dice(7)
	circles, fine := 0, 0
	for range 1500 {
		s := d.sheet(t, d.below(22))
		reach := plainReach(s)
		for i, c := range s {
			if got, want := impl.LeansOn(s, c.At), plainLeansOn(s, c.Source); !slices.Equal(got, want) {
				t.Fatalf("LeansOn(%v) of %v = %v, want %v", c.At, s, got, want)
			}
			if got := impl.InCircle(s, c.At); got != reach[i][i] {
				t.Fatalf("InCircle(%v) of %v = %v", c.At, s, got)
			}
			if reach[i][i] {
				circles++
			} else if strings.HasPrefix(c.Source, "=") {
				fine++
			}
		}
		l := impl.ValuesOf(s)
		if want := plainValuesOf(s); !slices.Equal(l, want) {
			t.Fatalf("ValuesOf(%v) = %v, want %v", s, l, want)
		}
		var refs []impl.Ref
		for range d.below(4) {
			refs = append(refs, d.near())
		}
		if got, want := impl.Touched(s, refs), plainTouched(s, refs); !slices.Equal(got, want) {
			t.Fatalf("Touched(%v, %v) = %v, want %v", s, refs, got, want)
		}
		old := d.list()
		if got, want := impl.Recalculated(s, old, refs), plainRecalculated(s, old, refs); !slices.Equal(got, want) {
			t.Fatalf("Recalculated(%v, %v, %v) = %v, want %v", s, old, refs, got, want)
		}
	}
	if circles < 1000 || fine < 2000 {
		t.Errorf("%d in circles, %d in none", circles, fine)
	}
}

func TestP7EachFormulaSaysWhatItSaysOfAllValues(t *testing.T) {
	d := dice(77)
	for range 3000 {
		s := d.sheet(t, d.below(22))
		l := impl.ValuesOf(s)
		if !impl.ValuesOk(l) || len(l) != len(s) {
			t.Fatalf("ValuesOf(%v) = %v", s, l)
		}
		for i, c := range s {
			want, _ := impl.ReadValue(c.Source)
			if formula, ok := strings.CutPrefix(c.Source, "="); ok {
				want = impl.Eval(mustRead(t, formula), l)
			}
			if impl.InCircle(s, c.At) {
				want = errCycle
			}
			if l[i] != (impl.CellValue{At: c.At, Val: want}) {
				t.Fatalf("%v of %v says %v, want %v", c.At, s, l[i], want)
			}
		}
	}
}

func TestP7WhatIsReckonedAnewIsWhatTheWholeSheetSays(t *testing.T) {
	d := dice(777)
	left, gone := 0, 0
	for range 300 {
		s := d.sheet(t, d.below(22))
		l := impl.ValuesOf(s)
		for range 10 {
			n := s
			var changed []impl.Ref
			for range d.below(4) {
				next, r := d.entered(t, n)
				if len(next) < len(n) {
					gone++
				}
				n, changed = next, append(changed, r)
			}
			anew := impl.Recalculated(n, l, changed)
			if want := impl.ValuesOf(n); !slices.Equal(anew, want) {
				t.Fatalf("%v changed to %v at %v says %v, want %v", s, n, changed, anew, want)
			}
			touched := impl.Touched(n, changed)
			for _, c := range anew {
				if !slices.Contains(touched, c.At) {
					left++
					if said := impl.Lookup(l, c.At); c.Val != said {
						t.Fatalf("%v was not touched, said %v and says %v", c.At, said, c.Val)
					}
				}
			}
			s, l = n, anew
		}
	}
	if left < 5000 || gone < 100 {
		t.Errorf("%d not touched, %d gone", left, gone)
	}
}

func TestP7ArgumentsAreNotWrittenAndAnswersAreNew(t *testing.T) {
	s := append(sheetOf(t, "A1 5; B1 =A1; C1 =SUM(A1:B1); D1 =D1"), at(9, 9, "spare"), at(9, 9, "spare"))
	old := append(impl.ValuesOf(s[:4]), val(9, 9, num(9)), val(9, 9, num(9)))
	refs := append(refsNamed(t, "B1 B1 A1"), ref(9, 9), ref(9, 9))
	cells, values, places := slices.Clone(s), slices.Clone(old), slices.Clone(refs)
	for range 2 {
		on := impl.LeansOn(s[:4], ref(3, 1))
		touched := impl.Touched(s[:4], refs[:3])
		said := impl.ValuesOf(s[:4])
		anew := impl.Recalculated(s[:4], old[:4], refs[:3])
		if namesOf(on) != "A1 B1" || namesOf(touched) != "A1 B1 C1" || shown(said) != "A1 5; B1 5; C1 10; D1 #CYCLE!" || shown(anew) != shown(said) || !impl.InCircle(s[:4], ref(4, 1)) {
			t.Errorf("%v, %v, %v, %v", on, touched, said, anew)
		}
		for i := range on {
			on[i] = impl.Ref{}
		}
		for i := range touched {
			touched[i] = impl.Ref{}
		}
		for i := range said {
			said[i], anew[i] = impl.CellValue{}, impl.CellValue{}
		}
		if !slices.Equal(s, cells) || !slices.Equal(old, values) || !slices.Equal(refs, places) {
			t.Errorf("written: %v, %v, %v", s, old, refs)
		}
	}
}
