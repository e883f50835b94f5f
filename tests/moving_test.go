package tests

import (
	"math"
	"slices"
	"testing"

	"loop.example/g00267/impl"
)

// wrongFormulas: each is wrong by one thing.
func wrongFormulas() [][]impl.FNode {
	return [][]impl.FNode{
		nil, {}, {{}}, {{Kind: impl.FmConst}}, {{Kind: impl.FmCell}}, {{Kind: impl.FmCell, A: place(53, 1)}}, {{Kind: impl.FmCell, A: place(1, 1), B: place(1, 1)}},
		{{Kind: impl.FmNeg, Kids: []int64{0}}}, {{Kind: impl.FmNeg, Kids: []int64{7}}}, nodesOf(con(num(-1))), nodesOf(span(place(1, 1), place(2, 2))), nodesOf(call(impl.FnSum, ones(11)...)),
		append(nodesOf(one()), nodesOf(one())...),
	}
}

// fixings answers the place fixed in each way.
func fixings(at impl.Ref) []impl.Place {
	return []impl.Place{{At: at}, {At: at, FixCol: true}, {At: at, FixRow: true}, {At: at, FixCol: true, FixRow: true}}
}

var (
	lost     = con(errRef)
	edgeCols = []int64{1, 2, 26, 51, 52}
	edgeRows = []int64{1, 2, 3, 50, 97, 98, 99}
)

// within answers the tree, or the constant of what is lost when its area is not right.
func within(t tree, a impl.Area) tree {
	if a.From.Col < 1 || a.From.Row < 1 || a.To.Col > 52 || a.To.Row > 99 || a.From.Col > a.To.Col || a.From.Row > a.To.Row {
		return lost
	}
	return t
}

func expects(t *testing.T, what string, f []impl.FNode, got []impl.FNode, ok bool, want tree) {
	t.Helper()
	if !ok || !sameFormula(got, nodesOf(want)) {
		t.Fatalf("%s of %s: %v, %v, want %v", what, impl.FormulaText(f), got, ok, nodesOf(want))
	}
	if !impl.FormulaOk(got) {
		t.Fatalf("%s of %s is not right: %v", what, impl.FormulaText(f), got)
	}
}

func TestP4AreasOf(t *testing.T) {
	f := mustRead(t, "A1+SUM($B2:C$3,AZ99,A1:A1)-IF(A1,-$D$4,2)")
	want := []impl.Area{area(1, 1, 1, 1), area(2, 2, 3, 3), area(52, 99, 52, 99), area(1, 1, 1, 1), area(1, 1, 1, 1), area(4, 4, 4, 4)}
	if got := impl.AreasOf(f); !slices.Equal(got, want) {
		t.Errorf("AreasOf = %v, want %v", got, want)
	}
	for _, s := range []string{"1", "-(1+2)", "SUM(1,\"A1\")", "#REF!"} {
		if got := impl.AreasOf(mustRead(t, s)); len(got) != 0 {
			t.Errorf("AreasOf(%q) = %v", s, got)
		}
	}
	for _, f := range wrongFormulas() {
		if got := impl.AreasOf(f); len(got) != 0 {
			t.Errorf("AreasOf(%v) = %v", f, got)
		}
	}
}

func shiftedPlace(p impl.Place, cols int64, rows int64) impl.Place {
	if !p.FixCol {
		p.At.Col += cols
	}
	if !p.FixRow {
		p.At.Row += rows
	}
	return p
}

func TestP4CellsAreMovedAndBack(t *testing.T) {
	moves := []int64{-99, -98, -52, -51, -2, -1, 0, 1, 2, 50, 51, 52, 98, 99}
	for _, col := range edgeCols {
		for _, row := range edgeRows {
			for _, p := range fixings(ref(col, row)) {
				f := nodesOf(cell(p))
				for _, cols := range moves {
					for _, rows := range moves {
						g, ok := impl.MovedBy(f, cols, rows)
						if cols < -52 || cols > 52 {
							if ok || len(g) != 0 {
								t.Fatalf("MovedBy %d, %d: %v", cols, rows, g)
							}
							continue
						}
						q := shiftedPlace(p, cols, rows)
						want := within(cell(q), impl.Area{From: q.At, To: q.At})
						expects(t, "MovedBy", f, g, ok, want)
						if want.node.Kind == impl.FmCell {
							back, ok := impl.MovedBy(g, -cols, -rows)
							expects(t, "MovedBy back", g, back, ok, cell(p))
						}
					}
				}
			}
		}
	}
}

func TestP4AreasAreMovedAndBack(t *testing.T) {
	for _, a := range []impl.Area{area(1, 1, 1, 1), area(1, 1, 52, 99), area(2, 3, 2, 4), area(2, 3, 4, 3), area(26, 50, 27, 51), area(52, 99, 52, 99), area(3, 3, 5, 5)} {
		for _, from := range fixings(a.From) {
			for _, to := range fixings(a.To) {
				whole := call(impl.FnMax, one(), span(from, to))
				f := nodesOf(whole)
				for _, m := range [][2]int64{{0, 0}, {1, 0}, {0, 1}, {-1, 0}, {0, -1}, {1, 1}, {-2, -2}, {2, 2}, {3, -3}, {52, 99}, {-52, -99}, {25, 49}} {
					g, ok := impl.MovedBy(f, m[0], m[1])
					p, q := shiftedPlace(from, m[0], m[1]), shiftedPlace(to, m[0], m[1])
					want := within(span(p, q), impl.Area{From: p.At, To: q.At})
					expects(t, "MovedBy", f, g, ok, call(impl.FnMax, one(), want))
					if want.node.Kind == impl.FmArea {
						back, ok := impl.MovedBy(g, -m[0], -m[1])
						expects(t, "MovedBy back", g, back, ok, whole)
					}
				}
			}
		}
	}
}

func TestP4HowFarIsMoved(t *testing.T) {
	f := mustRead(t, "$A$1")
	for _, m := range []struct {
		cols, rows int64
		ok         bool
	}{
		{52, 99, true}, {-52, -99, true}, {53, 0, false}, {-53, 0, false}, {0, 100, false}, {0, -100, false},
		{math.MaxInt64, 0, false}, {math.MinInt64, 0, false}, {0, math.MaxInt64, false}, {0, math.MinInt64, false}, {99, 0, false},
	} {
		if g, ok := impl.MovedBy(f, m.cols, m.rows); ok != m.ok || ok && !sameFormula(g, f) || !ok && len(g) != 0 {
			t.Errorf("MovedBy(%d, %d) = %v, %v", m.cols, m.rows, g, ok)
		}
	}
}

func TestP4RowsAreOpenedAndClosedAgain(t *testing.T) {
	for row := int64(1); row <= 99; row++ {
		for many := int64(1); many <= 99; many++ {
			for _, from := range edgeRows {
				for _, to := range edgeRows {
					if to < from {
						continue
					}
					later := func(r int64) int64 {
						if r >= row {
							return r + many
						}
						return r
					}
					a := impl.Area{From: ref(2, later(from)), To: ref(3, later(to))}
					alone := impl.Ref{Col: 5, Row: later(from)}
					whole := call(impl.FnSum, span(place(2, from), impl.Place{At: ref(3, to), FixRow: true}), cell(impl.Place{At: ref(5, from), FixCol: true, FixRow: true}))
					want := call(impl.FnSum, within(span(place(2, a.From.Row), impl.Place{At: a.To, FixRow: true}), a),
						within(cell(impl.Place{At: alone, FixCol: true, FixRow: true}), impl.Area{From: alone, To: alone}))
					f := nodesOf(whole)
					g, ok := impl.Opened(f, row, many)
					expects(t, "Opened", f, g, ok, want)
					if a.To.Row > 99 {
						continue
					}
					back, ok := impl.Closed(g, row, many)
					expects(t, "Closed behind Opened", g, back, ok, whole)
				}
			}
		}
	}
}

// left answers the first and the last row, as they are counted then, of those that do not go; 0 when none is left.
func left(from int64, to int64, row int64, many int64) (int64, int64) {
	var first, last int64
	for r := from; r <= to; r++ {
		n := r
		if r >= row && r < row+many {
			continue
		}
		if r >= row+many {
			n = r - many
		}
		if first == 0 {
			first = n
		}
		last = n
	}
	return first, last
}

func TestP4RowsAreClosed(t *testing.T) {
	rows := []int64{1, 2, 3, 4, 49, 50, 96, 97, 98, 99}
	for row := int64(1); row <= 99; row++ {
		for _, many := range []int64{1, 2, 3, 48, 50, 97, 98, 99} {
			for _, from := range rows {
				for _, to := range rows {
					if to < from {
						continue
					}
					p, q := impl.Place{At: ref(1, from), FixRow: true}, impl.Place{At: ref(52, to), FixCol: true}
					f := nodesOf(call(impl.FnCount, span(p, q), cell(q), one()))
					wantArea, wantCell := lost, lost
					if first, last := left(from, to, row, many); first > 0 {
						wantArea = span(impl.Place{At: ref(1, first), FixRow: true}, impl.Place{At: ref(52, last), FixCol: true})
					}
					if first, _ := left(to, to, row, many); first > 0 {
						wantCell = cell(impl.Place{At: ref(52, first), FixCol: true})
					}
					g, ok := impl.Closed(f, row, many)
					expects(t, "Closed", f, g, ok, call(impl.FnCount, wantArea, wantCell, one()))
				}
			}
		}
	}
}

func TestP4RowsThatAreNone(t *testing.T) {
	f := mustRead(t, "A1+SUM(A2:A3)")
	for _, c := range []struct {
		row, many int64
		ok        bool
	}{
		{1, 1, true}, {99, 1, true}, {1, 99, true}, {99, 99, true}, {0, 1, false}, {1, 0, false}, {100, 1, false}, {1, 100, false}, {-1, 1, false}, {1, -1, false},
		{math.MinInt64, 1, false}, {1, math.MinInt64, false}, {math.MaxInt64, 1, false}, {1, math.MaxInt64, false}, {math.MaxInt64, math.MaxInt64, false},
	} {
		if g, ok := impl.Opened(f, c.row, c.many); ok != c.ok || !ok && len(g) != 0 {
			t.Errorf("Opened(%d, %d) = %v, %v", c.row, c.many, g, ok)
		}
		if g, ok := impl.Closed(f, c.row, c.many); ok != c.ok || !ok && len(g) != 0 {
			t.Errorf("Closed(%d, %d) = %v, %v", c.row, c.many, g, ok)
		}
	}
	for _, f := range wrongFormulas() {
		if g, ok := impl.MovedBy(f, 1, 1); ok || len(g) != 0 {
			t.Errorf("MovedBy of %v = %v", f, g)
		}
		if g, ok := impl.Opened(f, 1, 1); ok || len(g) != 0 {
			t.Errorf("Opened of %v = %v", f, g)
		}
		if g, ok := impl.Closed(f, 1, 1); ok || len(g) != 0 {
			t.Errorf("Closed of %v = %v", f, g)
		}
	}
}

func TestP4GreaterFormulas(t *testing.T) {
	d := dice(4)
	for range 3000 {
		f := nodesOf(d.tree(d.below(6)))
		if !impl.FormulaOk(f) {
			continue
		}
		before := copied(f)
		cols, rows := int64(d.below(11)-5), int64(d.below(21)-10)
		row, many := int64(d.below(99)+1), int64(d.below(20)+1)
		moved, _ := impl.MovedBy(f, cols, rows)
		if back, ok := impl.MovedBy(moved, -cols, -rows); !ok || !sameBut(f, back, moved) {
			t.Fatalf("moved %d, %d: %v, %v", cols, rows, f, back)
		}
		opened, _ := impl.Opened(f, row, many)
		if back, ok := impl.Closed(opened, row, many); !ok || !sameBut(f, back, opened) {
			t.Fatalf("opened %d, %d: %v, %v", row, many, f, back)
		}
		closed, _ := impl.Closed(f, row, many)
		for _, g := range [][]impl.FNode{moved, opened, closed} {
			spoil(g)
		}
		if !sameFormula(f, before) {
			t.Fatalf("written into: %v, was %v", f, before)
		}
	}
}

// sameBut: the same, but where a node on the way was lost.
func sameBut(f []impl.FNode, back []impl.FNode, way []impl.FNode) bool {
	f, back = copied(f), copied(back)
	for i := range way {
		if way[i].Kind == impl.FmConst && way[i].Const == errRef {
			f[i], back[i] = way[i], way[i]
		}
	}
	return sameFormula(f, back)
}

// spoil writes over all that an answer has, to show that nothing of an argument is in it.
func spoil(f []impl.FNode) {
	for i := range f {
		for k := range f[i].Kids {
			f[i].Kids[k] = -7
		}
		kids := append(f[i].Kids[:cap(f[i].Kids)], 1)
		kids[0] = -8
		f[i] = impl.FNode{Kind: 77}
	}
}
