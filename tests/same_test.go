package tests

import (
	"fmt"
	"go/ast"
	"go/parser"
	"go/token"
	"math"
	"path/filepath"
	"reflect"
	"slices"
	"strings"
	"testing"

	"loop.example/g00267/impl"
)

// An asked is a function and the arguments with which it is called.
type asked struct {
	f    any
	args [][]any
}

func anys[T any](list ...T) []any {
	var all []any
	for _, x := range list {
		all = append(all, x)
	}
	return all
}

// some answers at most so many of them, from all along the list.
func some[T any](many int, list []T) []T {
	step := max(1, len(list)/many)
	var few []T
	for i := 0; i < len(list) && len(few) < many; i += step {
		few = append(few, list[i])
	}
	return few
}

// each answers all ways to take one of each list.
func each(lists ...[]any) [][]any {
	all := [][]any{nil}
	for _, list := range lists {
		var longer [][]any
		for _, args := range all {
			for _, x := range list {
				longer = append(longer, append(slices.Clone(args), x))
			}
		}
		all = longer
	}
	return all
}

// roomyCopy shares nothing with v and has spare room behind each list.
func roomyCopy(v reflect.Value) reflect.Value {
	switch v.Kind() {
	case reflect.Slice:
		n := reflect.MakeSlice(v.Type(), v.Len()+2, v.Len()+2)
		for i := range n.Len() {
			if i < v.Len() {
				n.Index(i).Set(roomyCopy(v.Index(i)))
			} else {
				overwriteValue(n.Index(i))
			}
		}
		return n.Slice(0, v.Len())
	case reflect.Struct:
		n := reflect.New(v.Type()).Elem()
		for i := range v.NumField() {
			n.Field(i).Set(roomyCopy(v.Field(i)))
		}
		return n
	}
	return v
}

// overwriteValue writes into each list of v, and into the room behind it, and then over v itself.
func overwriteValue(v reflect.Value) {
	switch v.Kind() {
	case reflect.Slice:
		all := v.Slice(0, v.Cap())
		for i := range all.Len() {
			overwriteValue(all.Index(i))
		}
	case reflect.Struct:
		for i := range v.NumField() {
			overwriteValue(v.Field(i))
		}
	case reflect.Int64:
		v.SetInt(77)
	case reflect.String:
		v.SetString("over")
	case reflect.Bool:
		v.SetBool(true)
	}
}

// valueShown tells nil and an empty list alike; with the room behind each list, if it is asked for.
func valueShown(v reflect.Value, room bool) string {
	var parts []string
	switch v.Kind() {
	case reflect.Slice:
		many := v.Len()
		if room {
			v = v.Slice(0, v.Cap())
		}
		for i := range v.Len() {
			parts = append(parts, valueShown(v.Index(i), room))
		}
		return fmt.Sprint(many, "[", strings.Join(parts, " "), "]")
	case reflect.Struct:
		for i := range v.NumField() {
			parts = append(parts, valueShown(v.Field(i), room))
		}
		return "{" + strings.Join(parts, " ") + "}"
	case reflect.String:
		return fmt.Sprintf("%q", v.String())
	}
	return fmt.Sprint(v.Interface())
}

func valuesShown(list []reflect.Value, room bool) string {
	var parts []string
	for _, v := range list {
		parts = append(parts, valueShown(v, room))
	}
	return strings.Join(parts, ", ")
}

// A stretch is the memory of a list, with the room behind it.
type stretch struct{ from, to uintptr }

func stretchesOf(v reflect.Value) []stretch {
	var list []stretch
	switch v.Kind() {
	case reflect.Slice:
		if v.Cap() > 0 {
			list = append(list, stretch{v.Pointer(), v.Pointer() + uintptr(v.Cap())*v.Type().Elem().Size()})
		}
		for i := range v.Len() {
			list = append(list, stretchesOf(v.Index(i))...)
		}
	case reflect.Struct:
		for i := range v.NumField() {
			list = append(list, stretchesOf(v.Field(i))...)
		}
	}
	return list
}

// shareNone asks that no list of the answers shares memory with an argument or with another list of the answers.
func shareNone(args []reflect.Value, answers []reflect.Value) bool {
	var kept, told []stretch
	for _, v := range args {
		kept = append(kept, stretchesOf(v)...)
	}
	for _, v := range answers {
		told = append(told, stretchesOf(v)...)
	}
	for i, s := range told {
		for _, other := range append(slices.Clone(kept), told[:i]...) {
			if s.from < other.to && other.from < s.to {
				return false
			}
		}
	}
	return true
}

// answersOf calls f, and asks for all that is promised of any call but that it says the same again.
func answersOf(t *testing.T, name string, f any, args []any) string {
	t.Helper()
	var given []reflect.Value
	for _, x := range args {
		given = append(given, roomyCopy(reflect.ValueOf(x)))
	}
	before := valuesShown(given, true)
	answers := reflect.ValueOf(f).Call(given)
	said := valuesShown(answers, false)
	if after := valuesShown(given, true); after != before {
		t.Fatalf("%s: written into %s: %s", name, before, after)
	}
	if !shareNone(given, answers) {
		t.Fatalf("%s(%s): memory is shared: %s", name, before, said)
	}
	for _, v := range answers {
		n := reflect.New(v.Type()).Elem()
		n.Set(v)
		overwriteValue(n)
	}
	if after := valuesShown(given, true); after != before {
		t.Fatalf("%s: what it answers leads into %s: %s", name, before, after)
	}
	if again := valuesShown(reflect.ValueOf(f).Call(given), false); again != said {
		t.Fatalf("%s(%s) = %s, and then %s", name, before, said, again)
	}
	return said
}

func exportedNames(t *testing.T) []string {
	t.Helper()
	files, err := filepath.Glob("../impl/*.go")
	if err != nil || len(files) == 0 {
		t.Fatal(files, err)
	}
	var names []string
	for _, file := range files {
		f, err := parser.ParseFile(token.NewFileSet(), file, nil, 0)
		if err != nil {
			t.Fatal(err)
		}
		for _, d := range f.Decls {
			if fn, ok := d.(*ast.FuncDecl); ok && fn.Recv == nil && fn.Name.IsExported() {
				names = append(names, fn.Name.Name)
			}
		}
	}
	slices.Sort(names)
	return names
}

// An askedBy has functions by their names.
type askedBy map[string]asked

func (all askedBy) cellsAndValues() {
	numbers := anys[int64](math.MinInt64, -1, 0, 1, 2, 26, 27, 52, 53, math.MaxInt64)
	texts := anys("", "A", "AZ", "BA", "a", "A1", "$AZ$99", "A01", "A0", "5", "-5", "05", "'x", "TRUE", "#DIV!", "#X!", "\xff")
	refs := anys(ref(1, 1), ref(52, 99), ref(0, 1), ref(53, 1), ref(1, 100))
	places := anys(place(1, 1), impl.Place{At: ref(27, 9), FixCol: true, FixRow: true}, place(0, 0))
	var areas, values []any
	for _, a := range append(some(6, rightAreas()), some(4, wrongAreas())...) {
		areas = append(areas, a)
	}
	for _, v := range append(some(14, rightValues()), some(8, wrongValues())...) {
		values = append(values, v)
	}
	all["ColText"] = asked{impl.ColText, each(numbers)}
	all["ReadCol"] = asked{impl.ReadCol, each(texts)}
	all["RefOk"] = asked{impl.RefOk, each(refs)}
	all["PlaceText"] = asked{impl.PlaceText, each(places)}
	all["ReadPlace"] = asked{impl.ReadPlace, each(texts)}
	all["AreaOk"] = asked{impl.AreaOk, each(areas)}
	all["CellsOf"] = asked{impl.CellsOf, each(areas)}
	all["Common"] = asked{impl.Common, each(areas, areas)}
	all["ValueOk"] = asked{impl.ValueOk, each(values)}
	all["ValueText"] = asked{impl.ValueText, each(values)}
	all["ReadValue"] = asked{impl.ReadValue, each(texts)}
	all["Order"] = asked{impl.Order, each(values, values)}
	all["Add"] = asked{impl.Add, each(values, values)}
	all["Less"] = asked{impl.Less, each(values, values)}
	all["Times"] = asked{impl.Times, each(values, values)}
	all["Over"] = asked{impl.Over, each(values, values)}
	all["Joined"] = asked{impl.Joined, each(values, values)}
	all["Negated"] = asked{impl.Negated, each(values)}
	all["Held"] = asked{impl.Held, each(anys[int64](impl.OpEq, impl.OpLt, impl.OpGe, 0, 12), values, values)}
}

func (all askedBy) formulas(t *testing.T) {
	t.Helper()
	texts := anys("", "1", "A1+1", "SUM(A1:B2,$C$3,4)", `IF(A1<2,"a""b"&A2,-A3)`, "( 1+2 )*3", "NOT(AND(A1:A9))", "A1+", "#REF!", "a1", "A1:B2", "\xff")
	var formulas []any
	for _, s := range texts {
		if f, ok := impl.ReadFormula(s.(string)); ok {
			formulas = append(formulas, f)
		}
	}
	for _, f := range some(5, wrongFormulas()) {
		formulas = append(formulas, f)
	}
	var lists []any
	for _, l := range append([][]impl.CellValue{nil, column(num(1), text("x"), yes), gridValues(20)}, some(3, wrongLists())...) {
		lists = append(lists, l)
	}
	far := anys[int64](-100, -1, 0, 1, 2, 99, 100)
	all["FormulaOk"] = asked{impl.FormulaOk, each(formulas)}
	all["ReadFormula"] = asked{impl.ReadFormula, each(texts)}
	all["FormulaText"] = asked{impl.FormulaText, each(formulas)}
	all["AreasOf"] = asked{impl.AreasOf, each(formulas)}
	all["MovedBy"] = asked{impl.MovedBy, each(formulas, far, far)}
	all["Opened"] = asked{impl.Opened, each(formulas, far, far)}
	all["Closed"] = asked{impl.Closed, each(formulas, far, far)}
	all["ValuesOk"] = asked{impl.ValuesOk, each(lists)}
	all["Lookup"] = asked{impl.Lookup, each(lists, anys(ref(1, 1), ref(1, 2), ref(0, 0)))}
	all["Eval"] = asked{impl.Eval, each(formulas, lists)}
}

func sheetsAsked(t *testing.T) []any {
	t.Helper()
	var sheets []any
	for _, s := range [][]impl.Cell{nil, sheetOf(t, "A1 1"), sheetOf(t, "A1 1; B1 =A1*2; C1 =SUM(A1:B9); A2 'x"), sheetOf(t, "A1 =B1; B1 =A1; C1 =C2; C2 7"), full(t, impl.MaxCells), chain(t, 30, "5")} {
		sheets = append(sheets, s)
	}
	for _, s := range some(3, wrongSheets()) {
		sheets = append(sheets, s)
	}
	return sheets
}

func (all askedBy) sheets(t *testing.T) {
	t.Helper()
	sheets := sheetsAsked(t)
	texts := anys("", "5", "05", "=A1+1", "= A1 + 1", "text", "'x", "=A1+", "\xff")
	refs := anys(ref(1, 1), ref(2, 1), ref(52, 99), ref(0, 1))
	refLists := anys(nil, refsNamed(t, "A1"), refsNamed(t, "C2 A1 A1 Z9"), []impl.Ref{ref(0, 0)}, make([]impl.Ref, impl.MaxCells+1))
	lists := anys[[]impl.CellValue](nil, impl.ValuesOf(sheets[2].([]impl.Cell)), column(num(9), num(8)), wrongLists()[0])
	var edits []any
	for _, line := range []string{"set A1 5", "set B2 =A1", "set A1 ", "set A1 =(", "clear A1:B2", "open 1 1", "open 99 99", "close 1 1", "close 2 99", "copy A1:B2 B1", "copy A1:B2 AZ99"} {
		edits = append(edits, editOf(t, line))
	}
	edits = append(edits, impl.Edit{}, impl.Edit{Kind: impl.EdOpen})
	editLists := anys(nil, editsOf(t, "set A1 5; open 1 2; copy A3:B4 C5; close 2 1"), editsOf(t, "set A1 5; set A1 =("), make([]impl.Edit, 3*impl.MaxCells+1))
	changes := anys(nil, changesOf(t, "A1 1>2; B1 =A1*2>; D9 >5"), changesOf(t, "A1 1>2; A1 2>3; A1 3>1"), changesOf(t, "A1 9>2"), []impl.Change{{}}, make([]impl.Change, 3*impl.MaxCells+1))
	all["InputOf"] = asked{impl.InputOf, each(texts)}
	all["SheetOk"] = asked{impl.SheetOk, each(sheets)}
	all["Enter"] = asked{impl.Enter, each(sheets, refs, texts)}
	all["SourceAt"] = asked{impl.SourceAt, each(sheets, refs)}
	all["LeansOn"] = asked{impl.LeansOn, each(sheets, refs)}
	all["InCircle"] = asked{impl.InCircle, each(sheets, refs)}
	all["Touched"] = asked{impl.Touched, each(sheets, refLists)}
	all["ValuesOf"] = asked{impl.ValuesOf, each(sheets)}
	all["Recalculated"] = asked{impl.Recalculated, each(sheets, lists, refLists)}
	all["Applied"] = asked{impl.Applied, each(sheets, edits)}
	all["Undo"] = asked{impl.Undo, each(sheets, edits)}
	all["AllApplied"] = asked{impl.AllApplied, each(sheets, editLists)}
	all["DiffOf"] = asked{impl.DiffOf, each(sheets, sheets)}
	all["Patched"] = asked{impl.Patched, each(sheets, changes)}
	all["Turned"] = asked{impl.Turned, each(changes)}
	all["Merged"] = asked{impl.Merged, each(sheets, sheets, sheets)}
}

func (all askedBy) versions(t *testing.T) {
	t.Helper()
	var dags, texts, macros []any
	for _, d := range append([]impl.Dag{impl.DagNew(), dagOf(t, twoSides), dagOf(t, manySides), row(impl.MaxVersions), withBranches(row(3), impl.MaxBranches)}, some(4, wrongDags(t))...) {
		dags = append(dags, d)
	}
	for _, d := range dags[:4] {
		texts = append(texts, impl.DagText(d.(impl.Dag)), impl.DagText(d.(impl.Dag))+"?")
	}
	for _, m := range append(append([][]impl.Stmt{nil}, some(6, rightMacros(t))...), some(4, wrongMacros(t))...) {
		macros = append(macros, m)
	}
	for _, lines := range []string{"set A1 A1+1; while 1 A1<30", "set C9 SUM(A1:B9); put A1 ; unless 1 C9; put B2 5", "abort TRUE"} {
		macros = append(macros, macroOf(t, lines))
	}
	names := anys("main", "a", "b", "zz", "", "Main")
	ids := anys[int64](-1, 0, 1, 2, 3, 4, 99)
	fuels := anys[int64](-1, 0, 3, impl.MaxFuel, impl.MaxFuel+1)
	sheets := sheetsAsked(t)
	all["DagOk"] = asked{impl.DagOk, each(dags)}
	all["DagNew"] = asked{impl.DagNew, each()}
	all["SheetAt"] = asked{impl.SheetAt, each(dags, ids)}
	all["HeadOf"] = asked{impl.HeadOf, each(dags, names)}
	all["Above"] = asked{impl.Above, each(dags, ids)}
	all["Lca"] = asked{impl.Lca, each(dags, ids, ids)}
	all["Committed"] = asked{impl.Committed, each(dags, names[:4], sheets)}
	all["Branched"] = asked{impl.Branched, each(dags, names, ids)}
	all["MergedIn"] = asked{impl.MergedIn, each(dags, names, names)}
	all["Swept"] = asked{impl.Swept, each(dags)}
	all["DagText"] = asked{impl.DagText, each(dags)}
	all["ReadDag"] = asked{impl.ReadDag, each(texts)}
	all["MacroOk"] = asked{impl.MacroOk, each(macros)}
	all["ReadMacro"] = asked{impl.ReadMacro, each(anys("", "put A1 5\n", "set A1 A1+1\nwhile 1 A1<3\nput B1 \n", "put A1 5", "\n", "fly\n"))}
	all["MacroText"] = asked{impl.MacroText, each(macros)}
	all["RunMacro"] = asked{impl.RunMacro, each(sheets, macros, fuels)}
	all["Looked"] = asked{impl.Looked, each(sheets, macros, fuels)}
	all["Attempt"] = asked{impl.Attempt, each(dags, names[:3], ids[2:], macros, fuels[3:4])}
	all["Serial"] = asked{impl.Serial, each(dags, names[:3], macros, fuels[1:4])}
}

func (all askedBy) disks(t *testing.T) {
	t.Helper()
	log := loggedAs(t, 1, "run main 1; put A1 5", "branch a 2", "run a 2; put B1 6", "run main 2; put C1 7", "merge a main")
	var disks, ops, cmds, acts, dags []any
	for _, d := range append([]impl.Disk{{}, storeOf("", log), storeOf("", log+"?", impl.File{Name: "base.new", Data: "left"}), storeOf(baseOf(2, dagOf(t, manySides)), ""), storeOf("?", log), opened(nil, []impl.DOp{{Kind: impl.DkAppend, Name: "log", Data: log}, {Kind: impl.DkAppend, Name: "log", Data: "?"}})}, append(some(6, rightDisks()), some(4, wrongDisks())...)...) {
		disks = append(disks, d)
	}
	for _, op := range append(opsOf("append a 1; append z 1; rename a b; rename log base; remove a; remove log; remove f001"), some(4, wrongOps())...) {
		ops = append(ops, op)
	}
	for _, lines := range []string{"run main 1; put A1 5; set B1 A1", "run a 2", "branch e 1", "branch a 9", "merge main a", "merge zz a", "sweep"} {
		cmds = append(cmds, cmdOf(t, lines))
	}
	for _, c := range some(4, wrongCmds(t)) {
		cmds = append(cmds, c)
	}
	keeps := anys[[]int64](nil, []int64{0}, []int64{0, 1}, []int64{1}, []int64{1, 0}, []int64{-1})
	for _, power := range []int64{-1, 0, 1, 3} {
		for _, c := range cmds[:8] {
			acts = append(acts, impl.Act{Kind: impl.AcLog, Cmd: c.(impl.Cmd), Sync: power == 1, Power: power})
		}
		for _, keep := range keeps {
			acts = append(acts, impl.Act{Kind: impl.AcCrash, Power: power, Keep: keep.([]int64), Torn: 9})
		}
		acts = append(acts, impl.Act{Kind: impl.AcSave, Power: power}, impl.Act{Kind: impl.AcOpen, Power: power}, impl.Act{Kind: 9, Power: power})
	}
	play := func(few []any) []impl.Act {
		var list []impl.Act
		for _, a := range few {
			list = append(list, a.(impl.Act))
		}
		return list
	}
	for _, d := range []impl.Dag{impl.DagNew(), dagOf(t, twoSides), dagOf(t, manySides), {}} {
		dags = append(dags, d)
	}
	names, datas := anys("a", "log", "base", "f000", "zz", ""), anys("", "x", log, log+"?", strings.Repeat("x", impl.MaxBytes))
	all["DiskOk"] = asked{impl.DiskOk, each(disks)}
	all["Do"] = asked{impl.Do, each(disks, ops)}
	all["Sync"] = asked{impl.Sync, each(disks)}
	all["Crash"] = asked{impl.Crash, each(disks, keeps, anys[int64](-1, 0, 3, 999))}
	all["ReadFile"] = asked{impl.ReadFile, each(disks, names)}
	all["Replace"] = asked{impl.Replace, each(disks, names, datas)}
	all["FrameOf"] = asked{impl.FrameOf, each(datas)}
	all["TakeFrames"] = asked{impl.TakeFrames, each(datas)}
	all["CmdText"] = asked{impl.CmdText, each(cmds)}
	all["ReadCmd"] = asked{impl.ReadCmd, each(anys("", "run main 1\nput A1 5\n", "branch a 1\n", "merge a b\n", "sweep\n", "sweep"))}
	all["Obeyed"] = asked{impl.Obeyed, each(dags, cmds)}
	all["StoreView"] = asked{impl.StoreView, each(disks)}
	all["StoreDo"] = asked{impl.StoreDo, each(disks, acts)}
	all["StorePlay"] = asked{impl.StorePlay, each(disks, anys(nil, play(acts[:9]), play(acts[20:40]), play(some(12, acts))))}
	scripts := anys("", "heads", "\n", strings.Repeat("\n", impl.MaxScript+1))
	for _, text := range talks() {
		scripts = append(scripts, text)
	}
	all["RunScript"] = asked{impl.RunScript, each(scripts)}
}

func TestP16TheSameArgumentsGiveTheSameAnswers(t *testing.T) {
	all := askedBy{}
	all.cellsAndValues()
	all.formulas(t)
	all.sheets(t)
	all.versions(t)
	all.disks(t)
	names := exportedNames(t)
	said := map[string][]string{}
	for _, name := range names {
		a, ok := all[name]
		if !ok {
			t.Fatalf("%s is not asked", name)
		}
		for _, args := range a.args {
			said[name] = append(said[name], answersOf(t, name, a.f, args))
		}
		if many := len(slices.Compact(slices.Sorted(slices.Values(said[name])))); many < 2 && name != "DagNew" {
			t.Errorf("%s has one answer for all: %s", name, said[name][0])
		}
	}
	if len(all) != len(names) {
		t.Errorf("%d functions are asked, %d are there", len(all), len(names))
	}
	// From the last one to the first, so that other calls stand ahead of each.
	slices.Reverse(names)
	for _, name := range names {
		var again []string
		for _, args := range slices.Backward(all[name].args) {
			again = append(again, answersOf(t, name, all[name].f, args))
		}
		if slices.Reverse(again); !slices.Equal(again, said[name]) {
			t.Errorf("%s says something else behind other calls", name)
		}
	}
}
