package tests

import (
	"math"
	"reflect"
	"strconv"
	"strings"
	"testing"

	"loop.example/g00267/impl"
)

// A tree is a formula as the tests write it; nodesOf lays it out.
type tree struct {
	node impl.FNode
	kids []tree
}

func con(v impl.Value) tree { return tree{node: impl.FNode{Kind: impl.FmConst, Const: v}} }
func one() tree             { return con(num(1)) }
func cell(p impl.Place) tree {
	return tree{node: impl.FNode{Kind: impl.FmCell, A: p}}
}
func span(from impl.Place, to impl.Place) tree {
	return tree{node: impl.FNode{Kind: impl.FmArea, A: from, B: to}}
}
func neg(kid tree) tree { return tree{node: impl.FNode{Kind: impl.FmNeg}, kids: []tree{kid}} }
func bin(op int64, left tree, right tree) tree {
	return tree{node: impl.FNode{Kind: impl.FmBin, Op: op}, kids: []tree{left, right}}
}
func call(fn int64, kids ...tree) tree {
	return tree{node: impl.FNode{Kind: impl.FmCall, Op: fn}, kids: kids}
}
func place(col int64, row int64) impl.Place { return impl.Place{At: ref(col, row)} }

func nodesOf(t tree) []impl.FNode {
	var nodes []impl.FNode
	var lay func(tree) int64
	lay = func(t tree) int64 {
		n := t.node
		for _, kid := range t.kids {
			n.Kids = append(n.Kids, lay(kid))
		}
		nodes = append(nodes, n)
		return int64(len(nodes) - 1)
	}
	lay(t)
	return nodes
}

func sameFormula(a []impl.FNode, b []impl.FNode) bool {
	if len(a) != len(b) {
		return false
	}
	for i := range a {
		x, y := a[i], b[i]
		if len(x.Kids) == 0 && len(y.Kids) == 0 {
			x.Kids, y.Kids = nil, nil
		}
		if !reflect.DeepEqual(x, y) {
			return false
		}
	}
	return true
}

func copied(f []impl.FNode) []impl.FNode {
	g := append([]impl.FNode(nil), f...)
	for i := range g {
		g[i].Kids = append([]int64(nil), g[i].Kids...)
	}
	return g
}

func mustRead(t *testing.T, s string) []impl.FNode {
	t.Helper()
	f, ok := impl.ReadFormula(s)
	if !ok {
		t.Fatalf("ReadFormula(%q) is false", s)
	}
	return f
}

func reads(t *testing.T, s string, want tree) {
	t.Helper()
	f, ok := impl.ReadFormula(s)
	if !ok || !sameFormula(f, nodesOf(want)) {
		t.Errorf("ReadFormula(%q) = %v, %v, want %v", s, f, ok, nodesOf(want))
	}
}

func refuses(t *testing.T, s string) {
	t.Helper()
	if f, ok := impl.ReadFormula(s); ok || len(f) != 0 {
		t.Errorf("ReadFormula(%q) = %v, %v", s, f, ok)
	}
}

func comesBack(t *testing.T, want tree, text string) {
	t.Helper()
	f := nodesOf(want)
	if !impl.FormulaOk(f) {
		t.Errorf("not right: %v, of %q", f, text)
	}
	if got := impl.FormulaText(f); got != text {
		t.Errorf("FormulaText = %q, want %q", got, text)
	}
	reads(t, text, want)
}

func isWrong(t *testing.T, what string, f []impl.FNode) {
	t.Helper()
	if impl.FormulaOk(f) {
		t.Errorf("right: %s: %v", what, f)
	}
	if got := impl.FormulaText(f); got != "" {
		t.Errorf("text %q: %s", got, what)
	}
}

// The operators as the document tells them: their signs, by how much they bind.
var signs = []struct {
	op    int64
	sign  string
	binds int
}{
	{impl.OpEq, "=", 1}, {impl.OpNe, "<>", 1}, {impl.OpLt, "<", 1}, {impl.OpLe, "<=", 1}, {impl.OpGt, ">", 1}, {impl.OpGe, ">=", 1},
	{impl.OpJoin, "&", 2}, {impl.OpAdd, "+", 3}, {impl.OpSub, "-", 3}, {impl.OpMul, "*", 4}, {impl.OpDiv, "/", 4},
}

var names = []struct {
	fn    int64
	name  string
	least int
	most  int
}{
	{impl.FnSum, "SUM", 1, 10}, {impl.FnMin, "MIN", 1, 10}, {impl.FnMax, "MAX", 1, 10}, {impl.FnCount, "COUNT", 1, 10}, {impl.FnIf, "IF", 2, 3},
	{impl.FnAnd, "AND", 1, 10}, {impl.FnOr, "OR", 1, 10}, {impl.FnNot, "NOT", 1, 1}, {impl.FnAbs, "ABS", 1, 1}, {impl.FnLen, "LEN", 1, 1},
}

func TestP3SingleThings(t *testing.T) {
	comesBack(t, con(num(0)), "0")
	comesBack(t, con(num(impl.MaxInt)), "1000000000000000")
	comesBack(t, con(no), "FALSE")
	comesBack(t, con(yes), "TRUE")
	for _, e := range []struct {
		v impl.Value
		s string
	}{{errDiv, "#DIV!"}, {errType, "#TYPE!"}, {errRef, "#REF!"}, {errOver, "#OVER!"}, {errCycle, "#CYCLE!"}} {
		comesBack(t, con(e.v), e.s)
	}
	comesBack(t, con(text("")), `""`)
	comesBack(t, con(text(`"`)), `""""`)
	comesBack(t, con(text(`a"b`)), `"a""b"`)
	comesBack(t, con(text(`""`)), `""""""`)
	comesBack(t, con(text(` ~#'A1+(,`)), `" ~#'A1+(,"`)
	comesBack(t, cell(place(1, 1)), "A1")
	comesBack(t, cell(impl.Place{At: ref(52, 99), FixCol: true}), "$AZ99")
	comesBack(t, cell(impl.Place{At: ref(52, 99), FixRow: true}), "AZ$99")
	comesBack(t, cell(impl.Place{At: ref(2, 10), FixCol: true, FixRow: true}), "$B$10")
	comesBack(t, neg(one()), "-1")
	comesBack(t, neg(neg(con(yes))), "--TRUE")
	comesBack(t, call(impl.FnSum, span(place(1, 1), place(1, 1))), "SUM(A1:A1)")
	comesBack(t, call(impl.FnSum, span(impl.Place{At: ref(1, 1), FixRow: true}, impl.Place{At: ref(2, 2), FixCol: true}), cell(place(3, 3))), "SUM(A$1:$B2,C3)")
}

func TestP3WhatBindsHow(t *testing.T) {
	a, b, c := cell(place(1, 1)), con(num(2)), con(text("x"))
	for _, x := range signs {
		comesBack(t, bin(x.op, a, b), "A1"+x.sign+"2")
		comesBack(t, bin(x.op, neg(a), b), "-A1"+x.sign+"2")
		comesBack(t, bin(x.op, b, neg(a)), "2"+x.sign+"-A1")
		comesBack(t, neg(bin(x.op, a, b)), "-(A1"+x.sign+"2)")
		comesBack(t, neg(neg(bin(x.op, a, b))), "--(A1"+x.sign+"2)")
		comesBack(t, call(impl.FnAbs, bin(x.op, a, b)), "ABS(A1"+x.sign+"2)")
		for _, y := range signs {
			left := bin(y.op, bin(x.op, a, b), c)
			right := bin(x.op, a, bin(y.op, b, c))
			plain := "A1" + x.sign + "2" + y.sign + `"x"`
			leftText, rightText := plain, plain
			if x.binds < y.binds {
				leftText = "(A1" + x.sign + "2)" + y.sign + `"x"`
			}
			if y.binds <= x.binds {
				rightText = "A1" + x.sign + "(2" + y.sign + `"x")`
			}
			comesBack(t, left, leftText)
			comesBack(t, right, rightText)
			reads(t, "((A1"+x.sign+"2))"+y.sign+`"x"`, left)
			reads(t, "(A1)"+x.sign+"((2)"+y.sign+`("x"))`, right)
		}
	}
}

// derived holds by length every text of a small alphabet that is a formula, with what it is.
type derived map[string]tree

func allFormulas(longest int) derived {
	levels := make([][]derived, 7) // by how much they bind: 1 .. 4, negated 5, single 6
	for i := range levels {
		levels[i] = make([]derived, longest+1)
		for n := range levels[i] {
			levels[i][n] = derived{}
		}
	}
	for n := 1; n <= longest; n++ {
		digits := strings.Repeat("1", n)
		whole, _ := strconv.ParseInt(digits, 10, 64)
		levels[6][n][digits] = con(num(whole))
		if n > 2 {
			for s, f := range levels[1][n-2] {
				levels[6][n]["("+s+")"] = f
			}
		}
		for s, f := range levels[6][n] {
			levels[5][n][s] = f
		}
		for s, f := range levels[5][n-1] {
			levels[5][n]["-"+s] = neg(f)
		}
		for binds := 4; binds >= 1; binds-- {
			here := levels[binds][n]
			for s, f := range levels[binds+1][n] {
				here[s] = f
			}
			for _, x := range signs {
				if x.binds != binds {
					continue
				}
				for k := 1; k+len(x.sign) < n; k++ {
					for s, f := range levels[binds][k] {
						for u, g := range levels[binds+1][n-k-len(x.sign)] {
							here[s+x.sign+u] = bin(x.op, f, g)
						}
					}
				}
			}
		}
	}
	all := derived{}
	for _, d := range levels[1] {
		for s, f := range d {
			all[s] = f
		}
	}
	return all
}

func TestP3EveryShortText(t *testing.T) {
	all := allFormulas(6)
	eachText("1-*<=>()", 6, func(s string) {
		f, ok := impl.ReadFormula(s)
		want, right := all[s]
		if ok != right || ok && !sameFormula(f, nodesOf(want)) {
			t.Fatalf("ReadFormula(%q) = %v, %v, want %v, %v", s, f, ok, want, right)
		}
	})
}

// shapes answers every tree of at most so many levels above its leaves, of a few operators.
func shapes(levels int) []tree {
	if levels == 0 {
		return []tree{one(), cell(place(2, 3))}
	}
	kids := shapes(levels - 1)
	l := append([]tree(nil), kids...)
	for _, kid := range kids {
		l = append(l, neg(kid), call(impl.FnNot, kid), call(impl.FnSum, kid, span(place(1, 1), place(2, 2))))
	}
	for _, op := range []int64{impl.OpGe, impl.OpJoin, impl.OpSub, impl.OpDiv} {
		for _, left := range kids {
			for _, right := range kids {
				l = append(l, bin(op, left, right))
			}
		}
	}
	return l
}

// withoutPair leaves out the parenthesis at i and the one that ends it.
func withoutPair(s string, i int) string {
	deep := 0
	for k := i; ; k++ {
		switch s[k] {
		case '(':
			deep++
		case ')':
			deep--
		}
		if deep == 0 {
			return s[:i] + s[i+1:k] + s[k+1:]
		}
	}
}

func TestP3EveryShapeComesBackWithNoParenthesisTooMany(t *testing.T) {
	for _, shape := range shapes(2) {
		f := nodesOf(shape)
		s := impl.FormulaText(f)
		reads(t, s, shape)
		for i := range len(s) {
			if s[i] != '(' || i > 0 && s[i-1] >= 'A' && s[i-1] <= 'Z' {
				continue
			}
			if g, ok := impl.ReadFormula(withoutPair(s, i)); ok && sameFormula(f, g) {
				t.Fatalf("%q has a parenthesis too many at %d", s, i)
			}
		}
	}
}

// A dice answers numbers that look thrown and are the same each time.
type dice uint64

func (d *dice) below(n int) int {
	*d = *d*6364136223846793005 + 1442695040888963407
	return int(uint64(*d) >> 33 % uint64(n))
}

func (d *dice) place() impl.Place {
	return impl.Place{At: ref(int64(d.below(impl.MaxCols)+1), int64(d.below(impl.MaxRows)+1)), FixCol: d.below(2) == 0, FixRow: d.below(2) == 0}
}

func (d *dice) span() tree {
	from, to := d.place(), d.place()
	to.At.Col = from.At.Col + int64(d.below(int(impl.MaxCols-from.At.Col+1)))
	to.At.Row = from.At.Row + int64(d.below(int(impl.MaxRows-from.At.Row+1)))
	return span(from, to)
}

func (d *dice) leaf() tree {
	consts := []impl.Value{num(0), num(7), num(impl.MaxInt), no, yes, errRef, errOver, text(""), text(`"`), text(" a ")}
	if d.below(2) == 0 {
		return con(consts[d.below(len(consts))])
	}
	return cell(d.place())
}

func (d *dice) tree(deep int) tree {
	if deep == 0 {
		return d.leaf()
	}
	switch d.below(4) {
	case 0:
		return neg(d.tree(deep - 1))
	case 1:
		n := names[d.below(len(names))]
		var kids []tree
		for range n.least + d.below(min(n.most-n.least, 2)+1) {
			if d.below(3) == 0 {
				kids = append(kids, d.span())
			} else {
				kids = append(kids, d.tree(d.below(deep)))
			}
		}
		return call(n.fn, kids...)
	}
	return bin(signs[d.below(len(signs))].op, d.tree(deep-1-d.below(2)*d.below(deep)), d.tree(d.below(deep)))
}

// loose writes a tree with parentheses around all that may have them and blanks around each piece.
func loose(t tree) string {
	texts := make([]string, len(t.kids))
	for i, kid := range t.kids {
		texts[i] = loose(kid)
	}
	n := t.node
	switch n.Kind {
	case impl.FmArea:
		return " " + impl.PlaceText(n.A) + " : " + impl.PlaceText(n.B) + " "
	case impl.FmNeg:
		return " ( - " + texts[0] + ") "
	case impl.FmBin:
		for _, x := range signs {
			if x.op == n.Op {
				return "( " + texts[0] + " " + x.sign + " " + texts[1] + " )"
			}
		}
	case impl.FmCall:
		for _, x := range names {
			if x.fn == n.Op {
				return x.name + " ( " + strings.Join(texts, " , ") + " )"
			}
		}
	}
	return " ( " + impl.FormulaText([]impl.FNode{n}) + " ) "
}

func TestP3GreaterFormulasComeBack(t *testing.T) {
	d := dice(1)
	read, long := 0, 0
	for range 20000 {
		want := d.tree(d.below(impl.MaxDeep))
		f := nodesOf(want)
		if len(f) > impl.MaxNodes {
			isWrong(t, "too many", f)
			continue
		}
		before := copied(f)
		s := impl.FormulaText(f)
		if !impl.FormulaOk(f) || !sameFormula(f, before) {
			t.Fatalf("%v", f)
		}
		if s == "" {
			long++
			continue
		}
		read++
		reads(t, s, want)
		if u := loose(want); len(u) <= impl.MaxText {
			reads(t, u, want)
		}
	}
	if read < 5000 || long < 100 {
		t.Errorf("%d read, %d too long", read, long)
	}
}

func ones(many int) []tree {
	l := make([]tree, many)
	for i := range l {
		l[i] = one()
	}
	return l
}

func TestP3ManyNodes(t *testing.T) {
	ten := call(impl.FnSum, ones(10)...)
	full := call(impl.FnSum, ten, ten, ten, ten, ten, one(), one(), one(), one())
	if n := len(nodesOf(full)); n != impl.MaxNodes {
		t.Fatal(n)
	}
	s := impl.FormulaText(nodesOf(full))
	comesBack(t, full, s)
	over := call(impl.FnSum, ten, ten, ten, ten, ten, one(), one(), one(), one(), one())
	isWrong(t, "MaxNodes + 1", nodesOf(over))
	refuses(t, s[:len(s)-1]+",1)")
	isWrong(t, "none", nil)
	isWrong(t, "none", []impl.FNode{})
}

func TestP3Deep(t *testing.T) {
	deep, left, right, inCall := one(), one(), one(), one()
	for above := 1; above <= impl.MaxDeep+2; above++ {
		deep, left, right, inCall = neg(deep), bin(impl.OpSub, left, one()), bin(impl.OpSub, one(), right), call(impl.FnAbs, inCall)
		texts := []string{
			strings.Repeat("-", above) + "1", "1" + strings.Repeat("-1", above),
			strings.Repeat("1-(", above-1) + "1-1" + strings.Repeat(")", above-1), strings.Repeat("ABS(", above) + "1" + strings.Repeat(")", above),
		}
		for i, want := range []tree{deep, left, right, inCall} {
			if above < impl.MaxDeep {
				comesBack(t, want, texts[i])
			} else {
				isWrong(t, texts[i], nodesOf(want))
				refuses(t, texts[i])
			}
		}
	}
	reads(t, strings.Repeat("(", 99)+"1"+strings.Repeat(")", 99), one())
	refuses(t, strings.Repeat("(", 200))
	refuses(t, strings.Repeat("-", 200))
}

func TestP3LongTexts(t *testing.T) {
	x := strings.Repeat("x", impl.MaxText)
	comesBack(t, con(text(x[:198])), `"`+x[:198]+`"`)
	comesBack(t, con(text(strings.Repeat(`"`, 99))), strings.Repeat(`"`, 200))
	for _, s := range []string{x[:199], x, strings.Repeat(`"`, 100)} {
		f := nodesOf(con(text(s)))
		if !impl.FormulaOk(f) || impl.FormulaText(f) != "" {
			t.Errorf("%d bytes: %q", len(s), impl.FormulaText(f))
		}
	}
	refuses(t, `"`+x[:199]+`"`)
	refuses(t, strings.Repeat(`"`, 202))
	join := bin(impl.OpJoin, con(text(x[:100])), con(text(x[:95])))
	comesBack(t, join, `"`+x[:100]+`"&"`+x[:95]+`"`)
	if s := impl.FormulaText(nodesOf(bin(impl.OpJoin, con(text(x[:100])), con(text(x[:96]))))); s != "" {
		t.Errorf("text of %d bytes", len(s))
	}
	reads(t, strings.Repeat(" ", 199)+"1", one())
	reads(t, "1"+strings.Repeat(" ", 199), one())
	refuses(t, strings.Repeat(" ", 200)+"1")
	refuses(t, "1"+strings.Repeat(" ", 200))
	refuses(t, strings.Repeat(" ", 200))
}

func TestP3Bytes(t *testing.T) {
	for b := range 256 {
		s := string([]byte{byte(b)})
		v := text("a" + s + "b")
		want := b >= 32 && b <= 126
		if got := impl.FormulaOk(nodesOf(con(v))); got != want {
			t.Errorf("byte %d in a text: right %v", b, got)
		}
		if want && b != '"' {
			comesBack(t, con(v), `"a`+s+`b"`)
		} else {
			refuses(t, `"a`+s+`b"`)
		}
		if b == ' ' {
			reads(t, "1"+s, one())
		} else if b < '0' || b > '9' {
			refuses(t, "1"+s)
		}
	}
	reads(t, `"`+"\x20\x7e"+`"`, con(text("\x20\x7e")))
	for _, s := range []string{"\x1f", "\x7f", "\t", "\n", "\x00", "\xa0", "\u00a0"} {
		refuses(t, s+"1")
		refuses(t, "1"+s+"+1")
		refuses(t, `"`+s+`"`)
	}
}

func TestP3HowManyKids(t *testing.T) {
	for _, n := range names {
		for many := 0; many <= 12; many++ {
			want := call(n.fn, ones(many)...)
			s := n.name + "(" + strings.TrimSuffix(strings.Repeat("1,", many), ",") + ")"
			if many >= n.least && many <= n.most {
				comesBack(t, want, s)
			} else {
				isWrong(t, s, nodesOf(want))
				refuses(t, s)
			}
		}
		refuses(t, n.name)
		refuses(t, n.name+"1")
		refuses(t, "("+n.name+")")
		refuses(t, n.name+"+1")
		refuses(t, strings.ToLower(n.name)+"(1,1)")
		refuses(t, n.name+"A(1,1)")
		refuses(t, "$"+n.name+"(1,1)")
	}
	for _, many := range []int{0, 1, 3} {
		isWrong(t, "operands", nodesOf(tree{node: bin(impl.OpAdd, one(), one()).node, kids: ones(many)}))
	}
	for _, many := range []int{0, 2} {
		isWrong(t, "kids of a -", nodesOf(tree{node: neg(one()).node, kids: ones(many)}))
	}
	for _, leaf := range []tree{one(), cell(place(1, 1))} {
		isWrong(t, "a kid of a leaf", nodesOf(tree{node: leaf.node, kids: ones(1)}))
	}
	for many := 0; many <= 3; many++ {
		isWrong(t, "a call of no Op", nodesOf(call(0, ones(many)...)))
		isWrong(t, "a call beyond FnLen", nodesOf(call(impl.FnLen+1, ones(many)...)))
	}
	isWrong(t, "a kid of an area", nodesOf(call(impl.FnSum, tree{node: span(place(1, 1), place(1, 1)).node, kids: ones(1)})))
}

func TestP3ConstantsThatAreNone(t *testing.T) {
	for _, v := range []impl.Value{blankValue, num(-1), num(-impl.MaxInt)} {
		isWrong(t, "constant", nodesOf(con(v)))
		isWrong(t, "constant below", nodesOf(neg(con(v))))
	}
	for _, v := range wrongValues() {
		isWrong(t, "constant", nodesOf(con(v)))
	}
	refuses(t, "1000000000000001")
	refuses(t, "-1000000000000001")
	refuses(t, "99999999999999999999")
	comesBack(t, neg(con(num(0))), "-0")
	for _, s := range []string{"00", "01", "1$", "$1", "1A", "A01", "A0", "A100", "BA1", "AAA1", "A", "$", "$A", "A$", "$$A1", "A1$", "TRUE1", "TRUE()", "true", "A1(1)", "1(1)", "TRUEFALSE", "'a", "1.5", "1e3", "+1"} {
		refuses(t, s)
	}
}

func TestP3AreasStandInCallsAlone(t *testing.T) {
	a := span(place(1, 1), place(2, 2))
	for _, n := range names {
		kids := append([]tree{a}, ones(n.least-1)...)
		f := call(n.fn, kids...)
		comesBack(t, f, n.name+"(A1:B2"+strings.Repeat(",1", n.least-1)+")")
	}
	comesBack(t, call(impl.FnSum, a, a, a, a, a, a, a, a, a, a), "SUM(A1:B2"+strings.Repeat(",A1:B2", 9)+")")
	for _, wrong := range []tree{a, neg(a), bin(impl.OpAdd, a, one()), bin(impl.OpAdd, one(), a), call(impl.FnSum, neg(a)), call(impl.FnSum, bin(impl.OpEq, one(), a))} {
		isWrong(t, "area", nodesOf(wrong))
	}
	for _, to := range []impl.Place{place(1, 3), place(2, 2), place(1, 2), place(53, 3), place(2, 100), place(0, 0)} {
		isWrong(t, "area", nodesOf(call(impl.FnSum, span(place(2, 3), to))))
	}
	for _, s := range []string{
		"A1:B2", "(A1:B2)", "SUM((A1:B2))", "SUM(-A1:B2)", "SUM(A1:-B2)", "SUM(A1:B2+1)", "SUM(1+A1:B2)", "SUM(A1:B2:C3)", "SUM(A1:(B2))", "SUM((A1):B2)",
		"SUM(B2:A1)", "SUM(A2:A1)", "SUM(B1:A1)", "SUM(B$1:$A1)", "SUM(A1:)", "SUM(:A1)", "SUM(:)", "SUM(A1::A2)", "SUM(1:2)", "SUM(A1:2)", "SUM(1:A2)", "SUM(TRUE:A1)", "SUM(A1:B2)+A1:B2", "SUM(A1:SUM(A1))", "A1:A1",
	} {
		refuses(t, s)
	}
}

func TestP3SignsThatBeginAlike(t *testing.T) {
	a, b := one(), con(num(2))
	for s, want := range map[string]tree{
		"1<>2": bin(impl.OpNe, a, b), "1<=2": bin(impl.OpLe, a, b), "1>=2": bin(impl.OpGe, a, b), "1<2": bin(impl.OpLt, a, b), "1>2": bin(impl.OpGt, a, b), "1=2": bin(impl.OpEq, a, b),
		"1<-2": bin(impl.OpLt, a, neg(b)), "1<>-2": bin(impl.OpNe, a, neg(b)), "1<=-2": bin(impl.OpLe, a, neg(b)), "1>=-2": bin(impl.OpGe, a, neg(b)), "1=-2": bin(impl.OpEq, a, neg(b)),
		"1--2": bin(impl.OpSub, a, neg(b)), "1---2": bin(impl.OpSub, a, neg(neg(b))), "1&-2": bin(impl.OpJoin, a, neg(b)),
		"1<2>1": bin(impl.OpGt, bin(impl.OpLt, a, b), a), "1<(2)": bin(impl.OpLt, a, b),
	} {
		reads(t, s, want)
	}
	for _, s := range []string{"1< >2", "1< =2", "1> =2", "1=>2", "1=<2", "1><2", "1<<2", "1>>2", "1==2", "1<>=2", "1<=>2", "1>==2", "1&&2", "1++2", "1+*2", "1**2", "1/ /2", "<1", "=1", "1<", "1<>", "1!=2"} {
		refuses(t, s)
	}
}

func TestP3BlanksInEveryPlace(t *testing.T) {
	for _, pieces := range [][]string{
		{"IF", "(", "A1", ">=", "2", ",", "TRUE", ",", "#REF!", ")"}, {"SUM", "(", "A1", ":", "$B$2", ",", "-", "3", ")"},
		{"(", "1", "<>", "2", ")", "*", "\"a b\"", "&", "FALSE"}, {"-", "-", "12", "<=", "AZ99"}, {"\"\"\"\"", "=", "#DIV!"},
	} {
		want := mustRead(t, strings.Join(pieces, ""))
		for i := 0; i <= len(pieces); i++ {
			for many := 1; many <= 3; many++ {
				s := strings.Join(pieces[:i], "") + strings.Repeat(" ", many) + strings.Join(pieces[i:], "")
				if f, ok := impl.ReadFormula(s); !ok || !sameFormula(f, want) {
					t.Errorf("%q: %v, %v", s, f, ok)
				}
			}
		}
		for i, piece := range pieces {
			for k := 1; k < len(piece); k++ {
				s := strings.Join(pieces[:i], "") + piece[:k] + " " + piece[k:] + strings.Join(pieces[i+1:], "")
				if f, ok := impl.ReadFormula(s); ok && (piece[0] != '"' || sameFormula(f, want)) {
					t.Errorf("%q: %v", s, f)
				}
			}
		}
	}
	for _, s := range []string{"1 2", "A1 B1", "A 1", "$ A1", "A$ 1", "TR UE", "# DIV!", "#DIV !", "SU M(1)", "\"a\" \"b\"", "( )", "SUM( )", "", " "} {
		refuses(t, s)
	}
	reads(t, `"a b"`, con(text("a b")))
	reads(t, `" a"`, con(text(" a")))
}

func TestP3TextsThatBreakOffOrGoOn(t *testing.T) {
	for _, s := range []string{"1+A1*(2-3)", "IF(A1>=2,TRUE,#REF!)", `"a""b"&SUM(A1:B2,3)`, "-(-$A$1)", "NOT(LEN(\"x\")<>1)"} {
		mustRead(t, s)
		for _, more := range []string{"1", " 1", "A", " A1", ")", "(", "(1)", ",1", ":", ":A1", "+", "-", "<", "=", "&", "\"", "#", "#DIV!", " #DIV!", "!", "'", "$", ";", "%", "^", "\x00"} {
			refuses(t, s+more)
		}
	}
	for _, s := range []string{
		"1+", "1+A1*", "1+A1*(", "1+A1*(2", "1+A1*(2-", "1+A1*(2-3", "I", "IF", "IF(", "IF(A1", "IF(A1>", "IF(A1>=", "IF(A1>=2", "IF(A1>=2,", "IF(A1>=2,T", "IF(A1>=2,TRUE", "IF(A1>=2,TRUE,", "IF(A1>=2,TRUE,#", "IF(A1>=2,TRUE,#REF", "IF(A1>=2,TRUE,#REF!",
		`"`, `"a`, `"a""`, `"a""b`, `"a"&`, `"a"&S`, "SUM(A1:", "SUM(A1:B", "SUM(A1:B2", "SUM(A1:B2,", "SUM(,1)", "SUM(1,,1)", "SUM(1,)", ")", "1)", "()", "-", "-(", "#", "#X!", "#DIV", "DIV!", "#div!", "#DIV!!", "##DIV!",
	} {
		refuses(t, s)
	}
}

// spoiled answers f with one node changed.
func spoiled(f []impl.FNode, i int, change func(*impl.FNode)) []impl.FNode {
	g := copied(f)
	change(&g[i])
	return g
}

func TestP3FieldsThatTheKindDoesNotName(t *testing.T) {
	// A1 B1:C2 SUM 2 - + (whole)
	f := nodesOf(bin(impl.OpAdd, call(impl.FnSum, cell(place(1, 1)), span(place(2, 1), place(3, 2))), neg(con(num(2)))))
	if !impl.FormulaOk(f) {
		t.Fatal(f)
	}
	names := map[int64]string{impl.FmConst: "Const", impl.FmCell: "A", impl.FmArea: "A B", impl.FmNeg: "Kids", impl.FmBin: "Op Kids", impl.FmCall: "Op Kids"}
	changes := map[string][]func(*impl.FNode){
		"Op":    {func(n *impl.FNode) { n.Op = 1 }, func(n *impl.FNode) { n.Op = -1 }},
		"Const": {func(n *impl.FNode) { n.Const = num(1) }, func(n *impl.FNode) { n.Const.N = 1 }, func(n *impl.FNode) { n.Const.S = "a" }, func(n *impl.FNode) { n.Const.Kind = 9 }},
		"A":     {func(n *impl.FNode) { n.A = place(1, 1) }, func(n *impl.FNode) { n.A.FixCol = true }, func(n *impl.FNode) { n.A.FixRow = true }, func(n *impl.FNode) { n.A.At.Col = 1 }},
		"B":     {func(n *impl.FNode) { n.B = place(1, 1) }, func(n *impl.FNode) { n.B.FixCol = true }, func(n *impl.FNode) { n.B.FixRow = true }, func(n *impl.FNode) { n.B.At.Row = 1 }},
		"Kids":  {func(n *impl.FNode) { n.Kids = []int64{0} }},
	}
	for i, n := range f {
		for field, l := range changes {
			if strings.Contains(names[n.Kind], field) {
				continue
			}
			for _, change := range l {
				isWrong(t, field, spoiled(f, i, change))
			}
		}
		for _, kind := range []int64{0, 7, -1, math.MaxInt64, math.MinInt64} {
			isWrong(t, "Kind", spoiled(f, i, func(n *impl.FNode) { n.Kind = kind }))
		}
		if n.Kind == impl.FmBin || n.Kind == impl.FmCall {
			for _, op := range []int64{0, -1, map[int64]int64{impl.FmBin: 12, impl.FmCall: 11}[n.Kind], math.MaxInt64, math.MinInt64} {
				isWrong(t, "Op", spoiled(f, i, func(n *impl.FNode) { n.Op = op }))
			}
		}
		if n.Kind == impl.FmCell || n.Kind == impl.FmArea {
			for _, at := range []impl.Ref{ref(0, 1), ref(1, 0), ref(53, 1), ref(1, 100), ref(-1, -1), ref(math.MaxInt64, math.MinInt64)} {
				isWrong(t, "A", spoiled(f, i, func(n *impl.FNode) { n.A.At = at }))
			}
			for _, change := range []func(*impl.FNode){func(n *impl.FNode) { n.A.FixCol = true }, func(n *impl.FNode) { n.A.FixRow = true }} {
				if !impl.FormulaOk(spoiled(f, i, change)) {
					t.Errorf("a fixed place is not right: %v", n)
				}
			}
		}
		if len(n.Kids) == 0 && !impl.FormulaOk(spoiled(f, i, func(n *impl.FNode) { n.Kids = []int64{} })) {
			t.Errorf("an empty list is not as nil: %v", n)
		}
	}
}

func TestP3KidsThatStandElsewhere(t *testing.T) {
	f := nodesOf(bin(impl.OpAdd, bin(impl.OpSub, one(), one()), bin(impl.OpMul, one(), one())))
	for _, kids := range [][]int64{{5, 2}, {2, 2}, {5, 5}, {1, 5}, {2, 4}, {0, 5}, {2, 6}, {6, 5}, {2, 7}, {-1, 5}, {2, -1}, {2, math.MaxInt64}, {math.MinInt64, 5}, {2}, {5}, {}, {0, 2, 5}, {2, 5, 5}} {
		isWrong(t, "kids of the whole", spoiled(f, 6, func(n *impl.FNode) { n.Kids = kids }))
	}
	for _, kids := range [][]int64{{0, 1}, {1, 3}, {3, 3}, {4, 3}, {2, 4}, {2, 3}, {3, 5}, {6, 4}} {
		isWrong(t, "kids inside", spoiled(f, 5, func(n *impl.FNode) { n.Kids = kids }))
	}
	isWrong(t, "a node ahead", append(nodesOf(one()), f...))
	loose := append(nodesOf(one()), nodesOf(neg(one()))...)
	loose[2].Kids = []int64{1}
	isWrong(t, "a node ahead of the whole", loose)
	isWrong(t, "two wholes", append(nodesOf(one()), nodesOf(one())...))
	for i := range f {
		isWrong(t, "a node less", append(copied(f[:i]), f[i+1:]...))
	}
	// Kids ahead of their own ones: the - stands behind 1, yet the sum takes them crosswise.
	cross := []impl.FNode{one().node, one().node, {Kind: impl.FmNeg, Kids: []int64{0}}, {Kind: impl.FmBin, Op: impl.OpAdd, Kids: []int64{1, 2}}}
	isWrong(t, "crosswise", cross)
	behind := []impl.FNode{{Kind: impl.FmNeg, Kids: []int64{1}}, one().node}
	isWrong(t, "a kid behind", behind)
	isWrong(t, "its own kid", []impl.FNode{{Kind: impl.FmNeg, Kids: []int64{0}}})
}
