package tests

import (
	"math"
	"math/big"
	"slices"
	"strings"
	"testing"

	"loop.example/g00267/impl"
)

func val(col int64, row int64, v impl.Value) impl.CellValue {
	return impl.CellValue{At: ref(col, row), Val: v}
}

// column answers the values as those of A1, A2 and so on.
func column(values ...impl.Value) []impl.CellValue {
	var l []impl.CellValue
	for i, v := range values {
		l = append(l, val(1, int64(i)+1, v))
	}
	return l
}

func gridValues(many int) []impl.CellValue {
	var l []impl.CellValue
	for _, c := range gridCells(many) {
		l = append(l, impl.CellValue{At: c.At, Val: num(7)})
	}
	return l
}

func says(t *testing.T, formula string, l []impl.CellValue, want impl.Value) {
	t.Helper()
	if got := impl.Eval(mustRead(t, formula), l); got != want {
		t.Errorf("Eval(%q) with %v = %v, want %v", formula, l, got, want)
	}
}

func wrongLists() [][]impl.CellValue {
	lists := [][]impl.CellValue{
		gridValues(impl.MaxCells + 1), gridValues(500), {{}}, {val(0, 1, num(1))}, {val(1, 0, num(1))}, {val(53, 1, num(1))}, {val(1, 100, num(1))}, {val(math.MinInt64, math.MaxInt64, num(1))},
		{val(2, 1, num(1)), val(1, 1, num(1))}, {val(1, 2, num(1)), val(2, 1, num(1))}, {val(1, 1, num(1)), val(1, 1, num(1))}, {val(1, 1, num(1)), val(1, 1, num(2))}, {val(1, 1, num(1)), val(3, 1, num(1)), val(2, 1, num(1))},
		{val(1, 1, num(1)), val(1, 100, num(1))},
	}
	for _, v := range wrongValues() {
		lists = append(lists, []impl.CellValue{val(1, 1, v)}, []impl.CellValue{val(1, 1, num(1)), val(2, 2, v), val(3, 3, num(1))})
	}
	return lists
}

func TestP6ListsOfValues(t *testing.T) {
	var all []impl.CellValue
	for i, v := range rightValues() {
		all = append(all, val(int64(i%5)+1, int64(i/5)+1, v))
	}
	for _, l := range [][]impl.CellValue{nil, {}, all, gridValues(1), gridValues(impl.MaxCells - 1), gridValues(impl.MaxCells), {val(52, 1, blankValue), val(1, 2, num(1)), val(52, 99, yes)}} {
		if !impl.ValuesOk(l) {
			t.Errorf("counts as wrong: %v", l)
		}
		for _, c := range l {
			if got := impl.Lookup(l, c.At); got != c.Val {
				t.Errorf("Lookup(%v) = %v, want %v", c.At, got, c.Val)
			}
		}
		for _, r := range []impl.Ref{ref(40, 40), ref(0, 0), ref(53, 1), ref(1, 100), ref(-1, math.MaxInt64)} {
			if got := impl.Lookup(l, r); got != blankValue {
				t.Errorf("Lookup(%v) = %v", r, got)
			}
		}
	}
	for _, l := range wrongLists() {
		if impl.ValuesOk(l) {
			t.Errorf("counts as right: %v", l)
		}
		for _, c := range l {
			if got := impl.Lookup(l, c.At); got != blankValue {
				t.Errorf("Lookup(%v) = %v of a wrong list", c.At, got)
			}
		}
	}
}

func TestP6WrongFormulasAndLists(t *testing.T) {
	right := column(num(1), errDiv)
	for _, f := range wrongFormulas() {
		for _, l := range append(wrongLists(), right, nil) {
			if got := impl.Eval(f, l); got != errRef {
				t.Fatalf("Eval(%v) = %v", f, got)
			}
		}
	}
	for _, s := range []string{"1", "A1", "#DIV!", "TRUE", "SUM(B9:C9)", "COUNT(1)"} {
		f := mustRead(t, s)
		for _, l := range wrongLists() {
			if got := impl.Eval(f, l); got != errRef {
				t.Errorf("Eval(%q) with %v = %v", s, l, got)
			}
		}
	}
}

func TestP6SingleThings(t *testing.T) {
	for _, v := range rightValues() {
		want := v
		if v == blankValue {
			want = num(0)
		}
		says(t, "A1", column(v), want)
		says(t, "$A$1", column(v), want)
		says(t, "(A1)", column(v), want)
		if f := nodesOf(con(v)); impl.FormulaOk(f) && impl.Eval(f, nil) != v {
			t.Errorf("constant %v says %v", v, impl.Eval(f, nil))
		}
		says(t, "-A1", column(v), impl.Negated(v))
		says(t, "--A1", column(v), impl.Negated(impl.Negated(v)))
	}
	for _, s := range []string{"A2", "B1", "AZ99", "IF(TRUE,B1)", "IF(FALSE,1,B1)", "IF(1,IF(1,B1))", "-B1", "ABS(B1)"} {
		says(t, s, column(num(5)), num(0))
		says(t, s, nil, num(0))
	}
}

func TestP6Operators(t *testing.T) {
	values := append(rightValues(), num(-3))
	for _, a := range values {
		for _, b := range values {
			l := column(a, b)
			for _, c := range []struct {
				s    string
				want impl.Value
			}{
				{"A1+A2", impl.Add(a, b)}, {"A1-A2", impl.Less(a, b)}, {"A1*A2", impl.Times(a, b)}, {"A1/A2", impl.Over(a, b)}, {"A1&A2", impl.Joined(a, b)},
				{"A1=A2", impl.Held(impl.OpEq, a, b)}, {"A1<>A2", impl.Held(impl.OpNe, a, b)}, {"A1<A2", impl.Held(impl.OpLt, a, b)},
				{"A1<=A2", impl.Held(impl.OpLe, a, b)}, {"A1>A2", impl.Held(impl.OpGt, a, b)}, {"A1>=A2", impl.Held(impl.OpGe, a, b)},
			} {
				says(t, c.s, l, c.want)
			}
		}
	}
	// A blank inside is no 0: beside a text it is "".
	says(t, "B1&B1", nil, text(""))
	says(t, "B1=\"\"", nil, yes)
	says(t, "IF(1,B1)&\"x\"", nil, text("x"))
	says(t, "LEN(B1)", nil, num(0))
	says(t, "-B1&\"x\"", nil, text("0x"))
	says(t, "(1/0)+\"x\"", nil, errDiv)
	says(t, "\"x\"+(1/0)", nil, errType)
	says(t, "0*(1/0)", nil, errDiv)
	says(t, "1+2*3-4", nil, num(3))
}

// valuesFor: one of each sort, and what stands at the edges.
func valuesFor() []impl.Value {
	return []impl.Value{blankValue, num(0), num(1), num(-4), num(impl.MaxInt), num(-impl.MaxInt), text(""), text("12"), no, yes, errDiv, errCycle}
}

func plainSum(values []impl.Value) impl.Value {
	sum := new(big.Int)
	for _, v := range values {
		if v.Kind == impl.VlError {
			return v
		}
		if v.Kind == impl.VlInt {
			sum.Add(sum, big.NewInt(v.N))
		}
		if sum.CmpAbs(big.NewInt(impl.MaxInt)) > 0 {
			return errOver
		}
	}
	return num(sum.Int64())
}

// plainEdge answers the number that no other one beats; sign is 1 for the greatest.
func plainEdge(values []impl.Value, sign int64) impl.Value {
	var found []int64
	for _, v := range values {
		if v.Kind == impl.VlError {
			return v
		}
		if v.Kind == impl.VlInt {
			found = append(found, v.N*sign)
		}
	}
	slices.Sort(found)
	if len(found) == 0 {
		return num(0)
	}
	return num(found[len(found)-1] * sign)
}

func plainCount(values []impl.Value) impl.Value {
	n := int64(0)
	for _, v := range values {
		if v.Kind == impl.VlInt {
			n++
		}
	}
	return num(n)
}

// plainTruth answers a truth value, or the error in its place.
func plainTruth(v impl.Value) impl.Value {
	if e := errorAs(v, impl.VlBlank, impl.VlInt, impl.VlBool); e != blankValue {
		return e
	}
	return truthOf(v.N != 0)
}

// plainTruths: what all of them say, unless one is other than that.
func plainTruths(values []impl.Value, all impl.Value) impl.Value {
	said := all
	for _, v := range values {
		b := plainTruth(v)
		if b.Kind == impl.VlError {
			return b
		}
		if b != all {
			said = b
		}
	}
	return said
}

func plainOfMany(fn int64, values []impl.Value) impl.Value {
	switch fn {
	case impl.FnSum:
		return plainSum(values)
	case impl.FnMin:
		return plainEdge(values, -1)
	case impl.FnMax:
		return plainEdge(values, 1)
	case impl.FnCount:
		return plainCount(values)
	case impl.FnAnd:
		return plainTruths(values, yes)
	}
	return plainTruths(values, no)
}

var ofMany = map[int64]string{impl.FnSum: "SUM", impl.FnMin: "MIN", impl.FnMax: "MAX", impl.FnCount: "COUNT", impl.FnAnd: "AND", impl.FnOr: "OR"}

func TestP6FunctionsOfMany(t *testing.T) {
	for fn, name := range ofMany {
		for _, a := range valuesFor() {
			says(t, name+"(A1)", column(a), plainOfMany(fn, []impl.Value{a}))
			for _, b := range valuesFor() {
				for _, c := range valuesFor() {
					l := column(a, b, c)
					want := plainOfMany(fn, []impl.Value{a, b, c})
					for _, kids := range []string{"(A1:A3)", "(A1,A2,A3)", "(A1:A2,A3)", "(A1,A2:A9)", "(A1:$A$1,A2:AZ3,A4:B5)"} {
						says(t, name+kids, l, want)
					}
				}
			}
		}
	}
}

func TestP6NoValueInTheAreas(t *testing.T) {
	for name, want := range map[string]impl.Value{"SUM": num(0), "MIN": num(0), "MAX": num(0), "COUNT": num(0), "AND": yes, "OR": no} {
		for _, l := range [][]impl.CellValue{nil, column(num(5)), column(errDiv, text("x"), no, yes)} {
			says(t, name+"(B1:C9)", l, want)
			says(t, name+"(B1:B1,C1:AZ99)", l, want)
		}
	}
	// A place that has no cell is a blank by itself, and nothing at all in an area.
	says(t, "AND(B1)", nil, no)
	says(t, "AND(B1:B1)", nil, yes)
	says(t, "AND(A1:A1)", column(blankValue), no)
	says(t, "OR(B1)", nil, no)
	says(t, "MIN(B1,5)", nil, num(5))
	says(t, "MAX(B1,-5)", nil, num(-5))
	says(t, "COUNT(B1,A1:A2)", column(blankValue, num(0)), num(1))
}

func TestP6FullLists(t *testing.T) {
	full := gridValues(impl.MaxCells)
	says(t, "SUM(A1:AZ99)", full, num(7*impl.MaxCells))
	says(t, "COUNT(B2:C3,A1)", full, num(5))
	says(t, "COUNT("+strings.Repeat("A1:AZ99,", 9)+"A1:AZ99)", full, num(10*impl.MaxCells))
	says(t, "J12", full, num(7))
	says(t, "J12", gridValues(impl.MaxCells+1), errRef)
}

func TestP6WhichErrorComesFirst(t *testing.T) {
	most := num(impl.MaxInt)
	for i, c := range []struct {
		s    string
		l    []impl.CellValue
		want impl.Value
	}{
		{"SUM(A1:A3)", column(most, num(1), num(-1)), errOver}, {"SUM(A1:A3)", column(most, num(-1), num(1)), most}, {"SUM(A1:A3)", column(num(-1), most, num(1)), most},
		{"SUM(A1:A3)", column(most, num(1), errDiv), errOver}, {"SUM(A1:A3)", column(most, errDiv, num(1)), errDiv}, {"SUM(A1:A3)", column(errDiv, most, most), errDiv},
		{"SUM(A1:A3)", column(num(-impl.MaxInt), num(-1), errRef), errOver}, {"SUM(A1:A3)", column(errRef, errDiv, errOver), errRef}, {"SUM(A2:A3,A1)", column(errRef, errDiv, errOver), errDiv},
		{"SUM(A1,1/0)", column(errRef), errRef}, {"SUM(1/0,A1)", column(errRef), errDiv}, {"SUM(1,\"x\",TRUE,2)", nil, num(3)}, {"SUM(1,\"x\"+1)", nil, errType},
		{"MIN(A1:A3)", column(num(3), errRef, errDiv), errRef}, {"MAX(A1:A3)", column(text("x"), num(1), errDiv), errDiv}, {"COUNT(A1:A3)", column(errRef, num(1), errDiv), num(1)}, {"COUNT(1/0,2)", nil, num(1)},
		{"AND(A1:A3)", column(no, text("x"), errDiv), errType}, {"AND(A1:A3)", column(no, errDiv, text("x")), errDiv}, {"OR(A1:A3)", column(yes, yes, text("")), errType}, {"OR(TRUE,1/0)", nil, errDiv}, {"AND(FALSE,#REF!)", nil, errRef},
		{"AND(\"TRUE\")", nil, errType}, {"OR(5,0)", nil, yes}, {"AND(5,-1)", nil, yes}, {"AND(5,0)", nil, no},
		// In order is row by row, whichever column comes first in the text.
		{"SUM(A1:B2)", []impl.CellValue{val(2, 1, errRef), val(1, 2, errDiv)}, errRef}, {"MIN(B1:B2,A1:A2)", []impl.CellValue{val(1, 1, errRef), val(2, 2, errDiv)}, errDiv},
	} {
		if got := impl.Eval(mustRead(t, c.s), c.l); got != c.want {
			t.Errorf("line %d: %s says %v, want %v", i, c.s, got, c.want)
		}
	}
}

func TestP6AChoiceSaysWhatItsSideSays(t *testing.T) {
	for _, c := range rightValues() {
		for _, a := range valuesFor() {
			for _, b := range valuesFor() {
				l := column(c, a, b)
				three, two := impl.Eval(mustRead(t, "A2"), l), impl.Eval(mustRead(t, "A2"), l)
				switch plainTruth(c) {
				case yes:
				case no:
					three, two = impl.Eval(mustRead(t, "A3"), l), no
				default:
					three, two = plainTruth(c), plainTruth(c)
				}
				says(t, "IF(A1,A2,A3)", l, three)
				says(t, "IF(A1,A2)", l, two)
			}
		}
	}
	for s, want := range map[string]impl.Value{
		"IF(TRUE,1,1/0)": num(1), "IF(FALSE,1/0,2)": num(2), "IF(FALSE,1/0)": no, "IF(TRUE,1/0,2)": errDiv, "IF(FALSE,1,1/0)": errDiv, "IF(1/0,1,2)": errDiv, "IF(\"x\",1,2)": errType,
		"IF(TRUE,A1:A2,2)": errType, "IF(FALSE,1,A1:A2)": errType, "IF(TRUE,1,A1:A2)": num(1), "IF(FALSE,A1:A2,2)": num(2), "IF(FALSE,A1:A2)": no, "IF(A1:A2,1,2)": errType, "IF(A1:A1,1,2)": errType, "IF(B1:B9,1)": errType,
		"IF(TRUE,A1:A1)": errType, "IF(IF(TRUE,FALSE,TRUE),1,2)": num(2), "IF(B1,1,2)": num(2), "IF(-1,\"a\",2)": text("a"), "IF(0,1,\"\")": text(""),
		"SUM(IF(TRUE,A1:A2))": errType, "COUNT(IF(TRUE,A1:A2))": num(0),
	} {
		says(t, s, column(yes, yes), want)
	}
}

func TestP6FunctionsOfOne(t *testing.T) {
	for _, v := range rightValues() {
		l := column(v)
		not := plainTruth(v)
		if not.Kind == impl.VlBool {
			not.N = 1 - not.N
		}
		says(t, "NOT(A1)", l, not)
		abs := errorAs(v, impl.VlBlank, impl.VlInt)
		if abs == blankValue {
			abs = num(max(v.N, -v.N))
		}
		says(t, "ABS(A1)", l, abs)
		length := v
		if v.Kind != impl.VlError {
			length = num(int64(len(strings.TrimPrefix(impl.ValueText(v), "'"))))
		}
		if v.Kind == impl.VlText {
			length = num(int64(len(v.S)))
		}
		says(t, "LEN(A1)", l, length)
	}
	for s, want := range map[string]impl.Value{
		"NOT(A1:A1)": errType, "ABS(A1:A1)": errType, "LEN(A1:A1)": errType, "NOT(A1:A2)": errType, "ABS(B1:C2)": errType, "LEN(B1:C2)": errType,
		"ABS(-3)": num(3), "ABS(3)": num(3), "ABS(-1000000000000000)": num(impl.MaxInt), "ABS(TRUE)": errType, "ABS(\"3\")": errType, "LEN(TRUE)": num(4), "LEN(FALSE)": num(5), "LEN(-12)": num(3), "LEN(\"'\")": num(1), "LEN(\"\")": num(0),
		"LEN(1/0)": errDiv, "NOT(0)": yes, "NOT(-2)": no, "NOT(B9)": yes, "NOT(\"\")": errType, "NOT(#CYCLE!)": errCycle,
	} {
		says(t, s, column(num(1), num(2)), want)
	}
}

// plainEval goes down the tree as the tests write it.
func plainEval(x tree, l []impl.CellValue) impl.Value {
	n := x.node
	switch n.Kind {
	case impl.FmConst:
		return n.Const
	case impl.FmCell:
		return impl.Lookup(l, n.A.At)
	case impl.FmArea:
		return errType
	case impl.FmNeg:
		return impl.Less(num(0), plainEval(x.kids[0], l))
	case impl.FmBin:
		return plainBin(n.Op, plainEval(x.kids[0], l), plainEval(x.kids[1], l))
	}
	if _, ok := ofMany[n.Op]; ok {
		var values []impl.Value
		for _, kid := range x.kids {
			values = append(values, plainValues(kid, l)...)
		}
		return plainOfMany(n.Op, values)
	}
	return plainOfFew(n.Op, x.kids, l)
}

func plainValues(kid tree, l []impl.CellValue) []impl.Value {
	if kid.node.Kind != impl.FmArea {
		return []impl.Value{plainEval(kid, l)}
	}
	var values []impl.Value
	for _, c := range l {
		if has(impl.Area{From: kid.node.A.At, To: kid.node.B.At}, c.At) {
			values = append(values, c.Val)
		}
	}
	return values
}

func plainBin(op int64, a impl.Value, b impl.Value) impl.Value {
	switch op {
	case impl.OpAdd:
		return impl.Add(a, b)
	case impl.OpSub:
		return impl.Less(a, b)
	case impl.OpMul:
		return impl.Times(a, b)
	case impl.OpDiv:
		return impl.Over(a, b)
	case impl.OpJoin:
		return impl.Joined(a, b)
	}
	return impl.Held(op, a, b)
}

func plainOfFew(fn int64, kids []tree, l []impl.CellValue) impl.Value {
	first := plainEval(kids[0], l)
	switch fn {
	case impl.FnNot:
		return map[impl.Value]impl.Value{yes: no, no: yes, errDiv: errDiv, errType: errType, errRef: errRef, errOver: errOver, errCycle: errCycle}[plainTruth(first)]
	case impl.FnAbs:
		if first.Kind == impl.VlInt && first.N >= 0 {
			return first
		}
		return impl.Negated(first)
	case impl.FnLen:
		if joined := impl.Joined(first, blankValue); joined.Kind == impl.VlText {
			return num(int64(len(joined.S)))
		}
		return impl.Joined(first, blankValue)
	}
	switch plainTruth(first) {
	case yes:
		return plainEval(kids[1], l)
	case no:
		if len(kids) == 3 {
			return plainEval(kids[2], l)
		}
		return no
	}
	return plainTruth(first)
}

// list answers values in the first 8 rows and columns, some of the cells left out.
func (d *dice) list() []impl.CellValue {
	values := append(valuesFor(), num(2), num(3), num(5), yes, text("b"))
	var l []impl.CellValue
	for row := int64(1); row <= 8; row++ {
		for col := int64(1); col <= 8; col++ {
			if d.below(3) > 0 {
				l = append(l, val(col, row, values[d.below(len(values))]))
			}
		}
	}
	return l
}

// nearer moves each place of a tree to the first 8 rows and columns, so that it meets cells.
func nearer(x tree) tree {
	near := func(p impl.Place) impl.Place {
		p.At.Col, p.At.Row = (p.At.Col-1)%8+1, (p.At.Row-1)%8+1
		return p
	}
	switch x.node.Kind {
	case impl.FmCell:
		x.node.A = near(x.node.A)
	case impl.FmArea:
		a, b := near(x.node.A), near(x.node.B)
		x.node.A.At = ref(min(a.At.Col, b.At.Col), min(a.At.Row, b.At.Row))
		x.node.B.At = ref(max(a.At.Col, b.At.Col), max(a.At.Row, b.At.Row))
	}
	kids := make([]tree, len(x.kids))
	for i, kid := range x.kids {
		kids[i] = nearer(kid)
	}
	x.kids = kids
	return x
}

func TestP6GreaterFormulas(t *testing.T) {
	d := dice(6)
	seen := map[int64]int{}
	for range 20000 {
		x := nearer(d.tree(d.below(6)))
		f, l := nodesOf(x), d.list()
		if !impl.FormulaOk(f) {
			continue
		}
		want := plainEval(x, l)
		if want == blankValue {
			want = num(0)
		}
		nodes, values := copied(f), slices.Clone(l)
		got := impl.Eval(f, l)
		if got != want {
			t.Fatalf("%s with %v says %v, want %v", impl.FormulaText(f), l, got, want)
		}
		if !impl.ValueOk(got) || !sameFormula(f, nodes) || !slices.Equal(l, values) {
			t.Fatalf("%s: %v is wrong, or an argument was written", impl.FormulaText(f), got)
		}
		seen[got.Kind]++
	}
	for kind := int64(impl.VlInt); kind <= impl.VlError; kind++ {
		if seen[kind] < 500 {
			t.Errorf("%d answers of the kind %d", seen[kind], kind)
		}
	}
}

func TestP6WhatAFormulaSaysHangsOnItsAreasAlone(t *testing.T) {
	d := dice(66)
	changed := 0
	for range 5000 {
		f := nodesOf(nearer(d.tree(1 + d.below(4))))
		if !impl.FormulaOk(f) {
			continue
		}
		l, other := d.list(), d.list()
		areas := impl.AreasOf(f)
		inside := func(r impl.Ref) bool {
			return slices.ContainsFunc(areas, func(a impl.Area) bool { return has(a, r) })
		}
		var kept, mixed []impl.CellValue
		for _, r := range impl.CellsOf(area(1, 1, 8, 8)) {
			from := other
			if inside(r) {
				from = l
			}
			i := slices.IndexFunc(from, func(c impl.CellValue) bool { return c.At == r })
			if i < 0 {
				continue
			}
			mixed = append(mixed, from[i])
			if inside(r) {
				kept = append(kept, from[i])
			}
		}
		want := impl.Eval(f, l)
		if a, b := impl.Eval(f, kept), impl.Eval(f, mixed); a != want || b != want {
			t.Fatalf("%s says %v, %v, %v", impl.FormulaText(f), want, a, b)
		}
		if impl.Eval(f, other) != want {
			changed++
		}
	}
	if changed < 500 {
		t.Errorf("only %d formulas looked at their cells", changed)
	}
}

func spanOf(a impl.Area) tree { return span(impl.Place{At: a.From}, impl.Place{At: a.To}) }

func TestP6ASumOverAnAreaIsThatOverItsHalves(t *testing.T) {
	d := dice(666)
	errors := 0
	for range 5000 {
		whole := area(int64(d.below(3)+1), int64(d.below(3)+1), int64(d.below(4)+4), int64(d.below(4)+4))
		upper, lower, left, right := whole, whole, whole, whole
		upper.To.Row = whole.From.Row + int64(d.below(int(whole.To.Row-whole.From.Row)))
		lower.From.Row = upper.To.Row + 1
		left.To.Col = whole.From.Col + int64(d.below(int(whole.To.Col-whole.From.Col)))
		right.From.Col = left.To.Col + 1
		l := d.list()
		sum := func(kids ...tree) impl.Value { return impl.Eval(nodesOf(call(impl.FnSum, kids...)), l) }
		want := sum(spanOf(whole))
		if want.Kind == impl.VlError {
			errors++
		}
		// Cells stand row by row, so these halves one behind the other are the whole, errors too.
		if got := sum(spanOf(upper), spanOf(lower)); got != want {
			t.Fatalf("%v in rows: %v, want %v", whole, got, want)
		}
		if got := sum(call(impl.FnSum, spanOf(upper)), spanOf(lower)); got != want {
			t.Fatalf("%v in rows: %v, want %v", whole, got, want)
		}
		for i, c := range l {
			if c.Val.Kind == impl.VlError || c.Val.N > 1000 || c.Val.N < -1000 {
				l[i].Val = num(int64(i))
			}
		}
		want = sum(spanOf(whole))
		for _, halves := range [][2]impl.Area{{upper, lower}, {lower, upper}, {left, right}, {right, left}} {
			a, b := spanOf(halves[0]), spanOf(halves[1])
			added := impl.Eval(nodesOf(bin(impl.OpAdd, call(impl.FnSum, a), call(impl.FnSum, b))), l)
			if sum(a, b) != want || added != want || want.Kind != impl.VlInt {
				t.Fatalf("%v in halves: %v, %v, want %v", whole, sum(a, b), added, want)
			}
		}
	}
	if errors < 500 {
		t.Errorf("only %d sums with errors", errors)
	}
}
