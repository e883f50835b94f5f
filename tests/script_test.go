package tests

import (
	"fmt"
	"regexp"
	"slices"
	"strconv"
	"strings"
	"testing"

	"loop.example/g00267/impl"
)

const smallForm = `(0|[1-9][0-9]{0,5})`

var (
	runForm   = regexp.MustCompile(`(?s)^(run|sync) ([^ ]+) (head|0|[1-9][0-9]{0,5})(?: (.*))?$`)
	powerForm = regexp.MustCompile(`^ *(save|open)(?: +` + smallForm + `)? *$`)
	crashForm = regexp.MustCompile(`^ *crash +` + smallForm + ` +` + smallForm + ` *$`)
	wholeForm = regexp.MustCompile(`^ *(files|heads) *$`)
	sheetForm = regexp.MustCompile(`(?s)^ *(show|cells) +([^ ]+) *$`)
)

// A plainScript asks for the form of each line, and goes through the whole disk anew at each.
type plainScript struct{ disk impl.Disk }

func plainRunScript(text string) string {
	if text == "" {
		return ""
	}
	lines := strings.Split(text, "\n")
	last := len(lines) - 1
	if lines[last] != "" || last > 40 || len(text) > 4000 {
		return "too long\n"
	}
	p, said := plainScript{}, ""
	for _, line := range lines[:last] {
		if strings.Trim(line, " ") != "" {
			said += p.says(line) + "\n"
		}
	}
	return said
}

func (p *plainScript) says(line string) string {
	if f := runForm.FindStringSubmatch(line); f != nil {
		return p.run(f[2], f[3], f[4], f[1] == "sync")
	}
	if c, ok := plainReadCmd(line + "\n"); ok && c.Kind != impl.CmRun && c.Base < 1000000 {
		return p.log(c, false)
	}
	if f := powerForm.FindStringSubmatch(line); f != nil {
		power, err := strconv.ParseInt(f[2], 10, 64)
		if err != nil {
			power = -1
		}
		return p.act(impl.Act{Kind: map[string]int64{"save": impl.AcSave, "open": impl.AcOpen}[f[1]], Power: power})
	}
	if f := crashForm.FindStringSubmatch(line); f != nil {
		many, _ := strconv.Atoi(f[1])
		torn, _ := strconv.ParseInt(f[2], 10, 64)
		keep := allOf(p.disk)
		return p.act(impl.Act{Kind: impl.AcCrash, Keep: keep[:min(many, len(keep))], Torn: torn, Power: -1})
	}
	if f := wholeForm.FindStringSubmatch(line); f != nil {
		return p.whole(f[1])
	}
	if f := sheetForm.FindStringSubmatch(line); f != nil {
		return p.sheet(f[1], f[2])
	}
	return "what"
}

func (p *plainScript) run(name string, from string, macro string, sync bool) string {
	base, _ := strconv.ParseInt(from, 10, 64)
	if from == "head" {
		dag := plainStored(p.disk).dag
		i := slices.IndexFunc(dag.Branches, func(b impl.Branch) bool { return b.Name == name })
		if i < 0 {
			return "what"
		}
		base = dag.Branches[i].Head
	}
	lines := ""
	if macro != "" {
		for _, stmt := range strings.Split(macro, ";") {
			lines += stmt + "\n"
		}
	}
	m, ok := plainReadMacro(lines)
	if !ok {
		return "what"
	}
	return p.log(impl.Cmd{Kind: impl.CmRun, Name: name, Base: base, Macro: m}, sync)
}

func (p *plainScript) log(c impl.Cmd, sync bool) string {
	dag := plainStored(p.disk).dag
	if said := p.act(impl.Act{Kind: impl.AcLog, Cmd: c, Sync: sync, Power: -1}); said != "ok" {
		return said
	}
	if _, code := plainObeyed(dag, c); code != 0 {
		return fmt.Sprint("not ", code)
	}
	return "ok"
}

func (p *plainScript) act(a impl.Act) string {
	n, code := plainStoreDo(p.disk, a)
	p.disk = n
	if code != impl.StOk {
		return fmt.Sprint("no ", code)
	}
	return "ok"
}

func (p *plainScript) whole(word string) string {
	if word == "files" {
		for _, f := range p.disk.Live {
			word += " " + f.Name
		}
		return word
	}
	st := plainStored(p.disk)
	word += fmt.Sprint(" ", st.number)
	for _, b := range st.dag.Branches {
		word += fmt.Sprintf(" %s=%d", b.Name, b.Head)
	}
	return word
}

func (p *plainScript) sheet(word string, name string) string {
	dag := plainStored(p.disk).dag
	i := slices.IndexFunc(dag.Branches, func(b impl.Branch) bool { return b.Name == name })
	if i < 0 {
		return "no branch"
	}
	s := plainSheet(dag, dag.Branches[i].Head)
	values := plainValuesOf(s)
	said := word
	for i, c := range s {
		told := c.Source
		if word == "show" {
			told = impl.ValueText(values[i].Val)
		}
		said += " " + impl.PlaceText(impl.Place{At: c.At}) + ":" + told
	}
	return said
}

// scripted asks for what a second one says, for the same again, and for one line of each line that has a word.
func scripted(t *testing.T, text string) []string {
	t.Helper()
	said := impl.RunScript(text)
	if want := plainRunScript(text); said != want {
		t.Fatalf("RunScript(%q) = %q, want %q", text, said, want)
	}
	if again := impl.RunScript(text); again != said {
		t.Fatalf("RunScript(%q) = %q, and then %q", text, said, again)
	}
	if said == "" {
		return nil
	}
	lines := strings.Split(strings.TrimSuffix(said, "\n"), "\n")
	if many := len(wordedLines(text)); said != "too long\n" && (many != len(lines) || !strings.HasSuffix(said, "\n")) {
		t.Fatalf("%d lines of %q say %q", many, text, said)
	}
	return lines
}

func wordedLines(text string) []string {
	return slices.DeleteFunc(strings.Split(text, "\n"), func(line string) bool { return strings.Trim(line, " ") == "" })
}

func scriptOf(lines ...string) string {
	if len(lines) == 0 {
		return ""
	}
	return strings.Join(lines, "\n") + "\n"
}

// converses is given lines and what each says, by turns.
func converses(t *testing.T, list ...string) {
	t.Helper()
	var lines, want []string
	for i := 0; i < len(list); i += 2 {
		lines, want = append(lines, list[i]), append(want, list[i+1])
	}
	if said := scripted(t, scriptOf(lines...)); !slices.Equal(said, want) {
		t.Errorf("%q say %q, want %q", lines, said, want)
	}
}

// lastSays answers what the last line says.
func lastSays(t *testing.T, lines ...string) string {
	t.Helper()
	said := scripted(t, scriptOf(lines...))
	if len(said) == 0 {
		return ""
	}
	return said[len(said)-1]
}

func TestP15EachKindOfLine(t *testing.T) {
	converses(t, "run main head put A1 5;put B1 =A1*2", "ok", "show main", "show A1:5 B1:10", "cells main", "cells A1:5 B1:=A1*2", "run main 1 put C1 'hello", "ok", "run main 1 set D1 A1", "not 5", "heads", "heads 3 main=3", "show main", "show A1:5 B1:10 C1:'hello")
	converses(t, "sync main head set A1 A1+1", "ok", "run main head set A1 A1+1", "ok", "crash 0 0", "ok", "show main", "show A1:1", "save", "ok", "files", "files base", "save 0", "no 5", "open", "ok")
	converses(t, "branch a 1", "ok", "run a head put A1 1", "ok", "run main head put B1 2", "ok", "merge main a", "ok", "show main", "show A1:1 B1:2", "merge main zz", "not 2", "sweep", "ok", "heads", "heads 6 a=2 main=4")
	converses(t, "run main head put A1 =A1", "ok", "show main", "show A1:#CYCLE!", "show zz", "no branch")
}

func TestP15NoByteAndTooLong(t *testing.T) {
	const long = "too long\n"
	for _, c := range [][2]string{
		{"", ""}, {"\n", ""}, {" \n", ""}, {"heads", long}, {"heads\nheads", long}, {" ", long}, {"\n ", long}, {"heads\n ", long}, {"x", long}, {"heads\r", long}, {"\x00", long},
		{strings.Repeat("\n", impl.MaxScript), ""}, {strings.Repeat("\n", impl.MaxScript+1), long}, {strings.Repeat("\n", impl.MaxScript) + "heads", long}, {strings.Repeat("\n", impl.MaxScript) + " ", long}, {strings.Repeat("\n", impl.MaxScript-1) + "heads", long},
		{strings.Repeat("files\n", impl.MaxScript), strings.Repeat("files\n", impl.MaxScript)}, {strings.Repeat("files\n", impl.MaxScript+1), long}, {strings.Repeat("\n", impl.MaxScript-1) + "files\n", "files\n"}, {strings.Repeat("\n", impl.MaxScript) + "files\n", long}, {"files\n" + strings.Repeat("\n", impl.MaxScript-1), "files\n"}, {"files\n" + strings.Repeat("  \n", impl.MaxScript), long},
		{strings.Repeat(" ", impl.MaxLines-1) + "\n", ""}, {strings.Repeat(" ", impl.MaxLines) + "\n", long}, {strings.Repeat(" ", impl.MaxLines), long}, {strings.Repeat(" ", impl.MaxLines-6) + "files\n", "files\n"}, {strings.Repeat(" ", impl.MaxLines-5) + "files\n", long}, {"files\n" + strings.Repeat("x", impl.MaxLines-7) + "\n", "files\nwhat\n"}, {"files\n" + strings.Repeat("x", impl.MaxLines-6) + "\n", long}, {strings.Repeat("x", impl.MaxLines-1) + "\n", "what\n"}, {strings.Repeat("x", impl.MaxLines-1), long},
		{strings.Repeat(strings.Repeat("x", 99)+"\n", impl.MaxScript), strings.Repeat("what\n", impl.MaxScript)}, {" " + strings.Repeat(strings.Repeat("x", 99)+"\n", impl.MaxScript), long}, {strings.Repeat("x", 100000), long}, {strings.Repeat("\n", 100000), long},
	} {
		if said := impl.RunScript(c[0]); said != c[1] {
			t.Errorf("%s: %q", short(c[0]), said)
		}
		scripted(t, c[0])
	}
}

func TestP15LinesOfBlanksSayNothing(t *testing.T) {
	for _, nothing := range []string{"", " ", "  ", strings.Repeat(" ", 50)} {
		if said := scripted(t, scriptOf(nothing, "run main head put A1 5", nothing, nothing, "show main", nothing)); !slices.Equal(said, []string{"ok", "show A1:5"}) {
			t.Errorf("%q: %q", nothing, said)
		}
		if said := scripted(t, scriptOf(nothing)); len(said) != 0 {
			t.Errorf("%q: %q", nothing, said)
		}
	}
	// Other bytes than blanks are a word.
	for _, word := range []string{"\t", "\r", "\v", "\f", "\x00", "\x1f", "!", "\x7f", "\x85", "\xa0", "\xff", "\u00a0", "\u2003", " \t", "\t ", " \r "} {
		converses(t, word, "what", "files", "files")
	}
}

// Each line begins itself, with just one blank between two words.
func TestP15BlanksInLinesThatAreLogged(t *testing.T) {
	ahead := []string{"branch b 1", "run main head put A1 5"}
	for _, line := range []string{"run main head put A1 5", "run main 2 put A1 5;put B1 6", "run main head", "run main 2", "sync main head set A1 A1+1", "sync main 2", "branch c 1", "merge main b", "sweep"} {
		if said := lastSays(t, append(ahead, line)...); said != "ok" {
			t.Errorf("%q: %q", line, said)
		}
		for i := range len(line) + 1 {
			// A blank at the end may stand behind the name of the version alone; MACRO is nothing then.
			want := "what"
			if i == len(line) && strings.Count(line, " ") == 2 && (line[0] == 'r' || line[0] == 's') {
				want = "ok"
			}
			if said := lastSays(t, append(ahead, line[:i]+" "+line[i:])...); said != want {
				t.Errorf("a blank more at %d of %q: %q", i, line, said)
			}
			if said := lastSays(t, append(ahead, line[:i]+"  "+line[i:])...); said != "what" {
				t.Errorf("two blanks more at %d of %q: %q", i, line, said)
			}
			if i < len(line) && line[i] == ' ' {
				for _, other := range []string{"", "\t", "\r", "\v", "\f", "\x00", "\u00a0", ",", ";", "_"} {
					if said := lastSays(t, append(ahead, line[:i]+other+line[i+1:])...); said != "what" {
						t.Errorf("%q at %d of %q: %q", other, i, line, said)
					}
				}
			}
		}
	}
	for _, line := range []string{"run  head put A1 5", "run  2 put A1 5", "run  2", "run main  put A1 5", "run main  head", "sync  2 put A1 5", "branch  1", "merge  b", "merge main  b", " sweep", "sweep  ", "  run main head", "run\tmain head", "sweep\t", "sweep\r", "run main head\t", "run main head\r"} {
		if said := lastSays(t, append(ahead, line)...); said != "what" {
			t.Errorf("%q: %q", line, said)
		}
	}
	// A branch whose name has another byte is none, and no name.
	for _, line := range []string{"run \tmain ", "run main\t ", "sync \rmain ", "run ma\tin "} {
		converses(t, line+"1 put A1 5", "no 3", line+"head put A1 5", "what")
	}
}

// In all other lines words are parted by blanks, at both ends too.
func TestP15BlanksInOtherLines(t *testing.T) {
	ahead := []string{"run main head put A1 5"}
	for _, c := range [][2]string{{"save", "ok"}, {"save 9", "ok"}, {"save 1", "no 5"}, {"open", "ok"}, {"open 0", "ok"}, {"crash 1 999", "ok"}, {"crash 0 0", "ok"}, {"files", "files log"}, {"heads", "heads 1 main=2"}, {"show main", "show A1:5"}, {"cells main", "cells A1:5"}, {"show zz", "no branch"}} {
		words := strings.Split(c[0], " ")
		for gap := range len(words) + 1 {
			for blanks := range 4 {
				line := ""
				for i, word := range append(words, "") {
					many := 1
					if i == 0 || i == len(words) {
						many = 0
					}
					if i == gap {
						many = blanks
					}
					line += strings.Repeat(" ", many) + word
				}
				want := c[1]
				if blanks == 0 && gap > 0 && gap < len(words) {
					want = "what"
				}
				if said := lastSays(t, append(ahead, line)...); said != want {
					t.Errorf("%q: %q, want %q", line, said, want)
				}
			}
		}
		if said := lastSays(t, append(ahead, "   "+strings.Join(words, "   ")+"   ")...); said != c[1] {
			t.Errorf("blanks about %q: %q", c[0], said)
		}
		for _, other := range []string{"\t", "\r", "\v", "\f", "\x00", "\u00a0", "\u0085", "\u2003", "\xa0"} {
			for _, line := range []string{other + c[0], c[0] + other, strings.ReplaceAll(c[0], " ", other)} {
				if said := lastSays(t, append(ahead, line)...); said != "what" && line != c[0] && !strings.HasPrefix(line, "show ") && !strings.HasPrefix(line, "cells ") {
					t.Errorf("%q: %q", line, said)
				}
			}
			// A word that has such a byte is another one.
			for _, line := range []string{"show main" + other, "cells " + other + "main", "show ma" + other + "in"} {
				if said := lastSays(t, append(ahead, line)...); said != "no branch" {
					t.Errorf("%q: %q", line, said)
				}
			}
		}
	}
}

func TestP15LinesThatAreNone(t *testing.T) {
	for _, line := range []string{
		"fly", "what", "ok", "no", "head", "main", "put A1 5", "5", ";", "-", "=A1", "'", "\xff", "\x00", "ä",
		// other letters, beginnings, more letters
		"Run main head", "RUN main head", "ru main head", "r main head", "runs main head", "run; main head", "Sync main head", "syn main head", "synch main head", "Branch a 1", "branc a 1", "branches a 1", "Merge main main", "merg main main", "merges main main", "Sweep", "SWEEP", "swee", "sweeps", "Save", "sav", "saves", "save9", "Open", "ope", "opens", "open0", "Crash 0 0", "cras 0 0", "crashes 0 0", "Files", "file", "filess", "Heads", "head", "headss", "Show main", "sho main", "shows main", "Cells main", "cell main", "cellss main",
		// words too few
		"run", "run ", "run main", "run main ", "run head", "run 1", "sync", "sync ", "sync main", "sync main ", "branch", "branch ", "branch a", "branch a ", "branch 1", "merge", "merge ", "merge main", "merge main ", "crash", "crash ", "crash 1", "crash 1 ", "show", "show ", "cells", "cells  ",
		// words too many
		"branch a 1 1", "branch a 1 b", "merge main main main", "merge main main 1", "sweep main", "sweep 1", "save 9 9", "save 9 x", "save 9 9 9", "open 0 0", "open 0 main", "crash 0 0 0", "crash 0 0 main", "files log", "files files", "files 1", "heads main", "heads heads", "heads 1", "show main main", "show main a", "show main 1", "cells main main", "cells main A1",
		// words of another kind
		"run main tail", "run main Head", "run main HEAD", "run main hea", "run main heads", "run main main", "run main head; put A1 5", "sync main tail", "branch a head", "branch a main", "branch 1 a", "branch a x", "save x", "save main", "save head", "save all", "open x", "open base", "crash x 0", "crash 0 x", "crash head 0", "crash all all", "crash 1,1",
	} {
		for _, ahead := range [][]string{nil, {"run main head put A1 5"}} {
			if said := lastSays(t, append(ahead, line)...); said != "what" {
				t.Errorf("%q: %q", line, said)
			}
			// It leaves nothing behind.
			lines := append(slices.Clone(ahead), line, "files", "heads", "show main")
			if said, plain := scripted(t, scriptOf(lines...)), scripted(t, scriptOf(append(ahead, "files", "heads", "show main")...)); !slices.Equal(said[len(ahead)+1:], plain[len(ahead):]) {
				t.Errorf("behind %q: %q", line, said)
			}
		}
	}
}

func TestP15RunsFromAVersionAndFromTheHead(t *testing.T) {
	for _, word := range []string{"run", "sync"} {
		converses(t, word+" main head put A1 5", "ok", word+" main head set B1 A1+1", "ok", word+" main 3 set C1 B1+1", "ok", word+" main 1 put D1 1", "ok", word+" main 1 set E1 C1", "not 5", word+" main 4 set E1 C1", "ok", "show main", "show A1:5 B1:6 C1:7 D1:1 E1:7", "heads", "heads 6 main=6")
		// A branch that is there, that is not, that is no name.
		converses(t, "branch a 1", "ok", word+" a head put A1 1", "ok", word+" a 1 put B1 1", "ok", word+" main 2 put A1 2", "not 3", word+" zz head put A1 1", "what", word+" zz 1 put A1 1", "not 2", word+" zz 99 put A1 1", "not 2", word+" aa head", "what", word+" aa 1", "not 2", "heads", "heads 7 a=3 main=1")
		for _, name := range []string{"Main", "MAIN", "1", "head1", "A1", "a1", "a-b", "main;", "abcdefghijklm", strings.Repeat("a", 100), "ä", "\x00", "\xff", "{", "`", "=", "mai\tn"} {
			converses(t, word+" "+name+" head put A1 1", "what", word+" "+name+" 1 put A1 1", "no 3", word+" "+name+" 1", "no 3", word+" "+name+" 1 put A1 x", "what", word+" "+name+" x put A1 1", "what", word+" "+name, "what", "files", "files", "heads", "heads 0 main=1")
		}
		converses(t, "branch abcdefghijkl 1", "ok", word+" abcdefghijkl head put A1 1", "ok", word+" head head put A1 1", "what", word+" head 1 put A1 1", "not 2", "branch head 1", "ok", word+" head head put A1 1", "ok", "branch run 1", "ok", word+" run head put A1 7", "ok", "show run", "show A1:7", "heads", "heads 7 abcdefghijkl=2 head=3 main=1 run=4")
	}
	// What is synced stays behind a loss of power, what is not does not.
	converses(t, "run main head put A1 1", "ok", "crash 0 0", "ok", "heads", "heads 0 main=1", "sync main head put A1 1", "ok", "crash 0 0", "ok", "heads", "heads 1 main=2", "run main head put A1 2", "ok", "sync main head put B1 2", "ok", "run main head put C1 3", "ok", "crash 0 0", "ok", "show main", "show A1:2 B1:2")
}

func TestP15Numbers(t *testing.T) {
	wrong := []string{"", "01", "00", "000001", "0000001", "1000000", "1234567", "9999999", "99999999999999999999", "-1", "-0", "+1", "+0", "-", "+", "-99999", "1.0", "1.", "1e3", "0x1", "1_0", "1,0", "1;", "x", "1x", "x1", "head1", "\xd9\xa1", "\uff11", "1\t", "'1", "=1", "--1"}
	for _, n := range wrong {
		for _, line := range []string{"run main " + n, "run main " + n + " put A1 5", "sync main " + n, "sync main " + n + " put A1 5", "branch a " + n, "save x" + n, "crash " + n + " 0", "crash 0 " + n, "crash " + n + " " + n} {
			if said := lastSays(t, line); said != "what" {
				t.Errorf("%q: %q", line, said)
			}
		}
		for _, line := range []string{"save " + n, "open " + n} {
			if said := lastSays(t, line); said != "what" && n != "" {
				t.Errorf("%q: %q", line, said)
			}
		}
	}
	for _, c := range [][2]string{
		{"run main 0", "no 3"}, {"run main 0 put A1 5", "no 3"}, {"sync main 0", "no 3"}, {"branch a 0", "what"}, {"save 0", "no 5"}, {"open 0", "ok"}, {"crash 0 0", "ok"},
		{"run main 1", "ok"}, {"sync main 1", "ok"}, {"branch a 1", "ok"}, {"save 1", "no 5"}, {"open 1", "ok"}, {"crash 1 1", "ok"},
		{"run main 2", "not 3"}, {"run main 10", "not 3"}, {"run main 100000", "not 3"}, {"run main 999999", "not 3"}, {"sync main 999999", "not 3"}, {"branch a 2", "not 3"}, {"branch a 999999", "not 3"}, {"save 999999", "ok"}, {"save 100000", "ok"}, {"open 999999", "ok"}, {"crash 999999 999999", "ok"}, {"crash 100000 0", "ok"}, {"crash 0 100000", "ok"},
	} {
		if said := lastSays(t, c[0]); said != c[1] {
			t.Errorf("%q: %q, want %q", c[0], said, c[1])
		}
	}
}

func TestP15Macros(t *testing.T) {
	stmts := func(many int, stmt string) string {
		return strings.Repeat(";"+stmt, many)[1:]
	}
	for _, c := range []struct{ macro, said, cells string }{
		// nothing, with and without the blank ahead of it
		{"", "ok", "cells"}, {" ", "ok", "cells"}, {"  ", "what", ""}, {"   ", "what", ""},
		// one statement, several
		{" put A1 5", "ok", "cells A1:5"}, {" set A1 5", "ok", "cells A1:5"}, {" put A1 5;put B1 6", "ok", "cells A1:5 B1:6"}, {" put A1 5;set B1 A1+1;set C1 B1+1", "ok", "cells A1:5 B1:6 C1:7"}, {" put A1 1;put B1 =A1;set A1 A1*2;while 1 A1<100", "ok", "cells A1:128 B1:=A1"}, {" unless 1 A1=0;put A1 1", "ok", "cells A1:1"}, {" unless 1 A1=1;put A1 1", "ok", "cells"}, {" put A1 5;put A1 6", "ok", "cells A1:6"}, {" abort FALSE", "ok", "cells"}, {" abort TRUE", "not 4", "cells"}, {" put A1 5;while 1 TRUE", "not 4", "cells"},
		// ; at its end or ahead of it, twice, alone
		{" put A1 5;", "what", ""}, {" ;put A1 5", "what", ""}, {" put A1 5;;put B1 6", "what", ""}, {" put A1 5;;", "what", ""}, {" ;", "what", ""}, {" ;;", "what", ""}, {";", "what", ""}, {";put A1 5", "what", ""}, {" put A1 5 ;put B1 6", "what", ""}, {" put A1 5; put B1 6", "what", ""}, {" put A1 5 ", "what", ""}, {"  put A1 5", "what", ""}, {" put  A1 5", "what", ""}, {" put A1  5", "what", ""}, {" put A1 5;put", "what", ""},
		// a put of nothing ends with its blank
		{" put A1 ", "ok", "cells"}, {" put A1", "what", ""}, {" put A1  ", "what", ""}, {" put A1 5;put A1 ", "ok", "cells"}, {" put A1 5;put A1 ;put B1 6", "ok", "cells B1:6"}, {" put A1 ;put B1 ", "ok", "cells"}, {" put A1 ;", "what", ""}, {" put A1;put B1 6", "what", ""},
		// statements that are none
		{" fly", "what", ""}, {" put", "what", ""}, {" put ", "what", ""}, {" Put A1 5", "what", ""}, {" put a1 5", "what", ""}, {" put A01 5", "what", ""}, {" put A0 5", "what", ""}, {" put A100 5", "what", ""}, {" put BA1 5", "what", ""}, {" put $A1 5", "what", ""}, {" put A1 05", "what", ""}, {" put A1 x", "what", ""}, {" put A1 = 5", "what", ""}, {" put A1 =(5)", "what", ""}, {" set A1 ", "what", ""}, {" set A1 =5", "what", ""}, {" set A1 1 +1", "what", ""}, {" set A1 (1)", "what", ""}, {" set A1 'x", "what", ""}, {" unless 1 TRUE", "what", ""}, {" while 1 TRUE", "what", ""}, {" unless 0 TRUE;put A1 5", "what", ""}, {" abort", "what", ""}, {" abort ", "what", ""}, {" run main head", "what", ""}, {" put A1 5;fly", "what", ""}, {" fly;put A1 5", "what", ""}, {" put A1 5,put B1 6", "what", ""}, {" put A1 5\tput B1 6", "what", ""}, {" put A1 5\r", "what", ""}, {" put A1 'a\x00", "what", ""}, {" put A1 'ä", "what", ""}, {" put A1 '\x7f", "what", ""},
		// a text that holds ; ends there
		{" put A1 'a;b", "what", ""}, {" put A1 ';", "what", ""}, {" put A1 ';put B1 6", "ok", "cells A1:' B1:6"}, {" put A1 'a;put B1 'b", "ok", "cells A1:'a B1:'b"}, {` set A1 "a;b"`, "what", ""}, {` put A1 ="a;b"`, "what", ""},
		// a text that holds blanks
		{" put A1 'a b", "ok", "cells A1:'a b"}, {" put A1 ' a  b ", "ok", "cells A1:' a  b "}, {" put A1 ' ", "ok", "cells A1:' "}, {" put A1 '", "ok", "cells A1:'"}, {` set A1 " a "&" b"`, "ok", "cells A1:' a  b"}, {` put A1 =" a "`, "ok", `cells A1:=" a "`}, {" put A1 'put B1 6", "ok", "cells A1:'put B1 6"}, {" put A1 ' ;put B1 ' ", "ok", "cells A1:'  B1:' "},
		// as many statements as a macro may have, and more
		{" " + stmts(impl.MaxStmts, "set A1 A1+1"), "ok", "cells A1:30"}, {" " + stmts(impl.MaxStmts+1, "set A1 A1+1"), "what", ""}, {" " + stmts(impl.MaxStmts-1, "set A1 A1+1"), "ok", "cells A1:29"}, {" " + stmts(100, "put A1 "), "what", ""}, {" " + stmts(impl.MaxStmts, "put A1 "), "ok", "cells"},
		// texts as long as may be, and longer
		{" put A1 '" + strings.Repeat("x", 199), "ok", "cells A1:'" + strings.Repeat("x", 199)}, {" put A1 '" + strings.Repeat("x", 200), "what", ""},
	} {
		for _, beginning := range []string{"run main head", "run main 1", "sync main head", "sync main 1"} {
			lines := []string{beginning + c.macro, "cells main", "files"}
			want := []string{c.said, c.cells, "files log"}
			if c.said == "what" {
				want = []string{"what", "cells", "files"}
			}
			if said := scripted(t, scriptOf(lines...)); !slices.Equal(said, want) {
				t.Errorf("%q say %q, want %q", lines, said, want)
			}
		}
	}
}

// gridPuts answers the macro that fills many places from one on, 30 a row.
func gridPuts(from int, many int, text string) string {
	var stmts []string
	for i := from; i < from+many; i++ {
		stmts = append(stmts, fmt.Sprintf("put %s%d %s", impl.ColText(int64(i%30+1)), i/30+1, text))
	}
	return strings.Join(stmts, ";")
}

func TestP15CommandsThatAreLoggedAndRefused(t *testing.T) {
	// run: no such branch, no version above its head, a macro that is not done, a conflict
	converses(t, "run zz 1", "not 2", "branch a 1", "ok", "run a head put A1 1", "ok", "run main 2", "not 3", "run main 3", "not 3", "run main head abort TRUE", "not 4", "run main head set A1 A1+1;while 1 TRUE", "not 4", "run main head put A1 1", "ok", "run main 1 set B1 A1", "not 5", "run main 1 set B1 C1", "ok", "sync main 1 set B1 A1", "not 5", "heads", "heads 11 a=2 main=4", "cells main", "cells A1:1 B1:0")
	// no room for the cells, by two ways
	four := []string{"run main head " + gridPuts(0, 30, "1"), "ok", "run main head " + gridPuts(30, 30, "1"), "ok", "run main head " + gridPuts(60, 30, "1"), "ok", "run main head " + gridPuts(90, 29, "1"), "ok"}
	converses(t, append(four, "run main head put A1 2;put B1 2", "not 6", "run main head put A1 2", "ok", "run main head put AA9 2", "ok", "run main head put A1 3", "not 6", "run main head put A1 ", "not 6", "run main head put AA8 2", "not 4", "run main 1 put AA8 2", "not 6", "run main head", "ok", "heads", "heads 12 main=8")...)
	// no room for a version
	lines := slices.Repeat([]string{"run main head", "ok"}, 39)
	converses(t, append(slices.Clone(lines), "run main head", "not 6")...)
	converses(t, append(slices.Clone(lines), "heads", "heads 39 main=40")...)
	// branch: there is such a branch, no such version, too many
	converses(t, "branch main 1", "not 7", "branch main 2", "not 7", "branch a 2", "not 3", "branch a 1", "ok", "branch a 1", "not 7", "branch b 1", "ok", "branch c 1", "ok", "branch d 1", "ok", "branch e 1", "ok", "branch f 1", "ok", "branch g 1", "ok", "branch h 1", "not 5", "branch h 2", "not 3", "branch a 1", "not 7", "heads", "heads 14 a=1 b=1 c=1 d=1 e=1 f=1 g=1 main=1")
	// merge: no such branch, both sides changed otherwise, no room for the cells
	converses(t, "merge main a", "not 2", "merge a main", "not 2", "merge a a", "not 2", "branch a 1", "ok", "merge main a", "ok", "run a head put A1 1", "ok", "run main head put A1 2", "ok", "merge main a", "not 6", "merge a main", "not 6", "run main head put A1 1", "ok", "merge main a", "ok", "merge a main", "ok", "merge main main", "ok", "heads", "heads 13 a=5 main=5")
	converses(t, "branch a 1", "ok", "run main head "+gridPuts(0, 30, "1"), "ok", "run main head "+gridPuts(30, 30, "1"), "ok", "run main head "+gridPuts(60, 1, "1"), "ok", "run a head "+gridPuts(61, 29, "1"), "ok", "run a head "+gridPuts(90, 30, "1"), "ok", "run a head put AA9 1", "ok", "merge a main", "not 4", "merge main a", "not 4", "run a head put AA9 ", "ok", "merge main a", "ok", "heads", "heads 11 a=8 main=9")
	// What is refused is a command all the same.
	converses(t, "run zz 1", "not 2", "files", "files log", "heads", "heads 1 main=1", "crash 1 999", "ok", "heads", "heads 1 main=1", "save", "ok", "heads", "heads 1 main=1", "sync zz 1", "not 2", "crash 0 0", "ok", "heads", "heads 2 main=1")
}

// heavy answers lines that make versions of more than MaxBytes in all; the last one of these is synced.
func heavy(bytes int, versions int) []string {
	lines := []string{"run main head put A1 '" + strings.Repeat("x", bytes)}
	for r := 1; r <= 4; r++ {
		var stmts []string
		for col := int64(1); col <= 29; col++ {
			stmts = append(stmts, fmt.Sprintf("set %s%d A1", impl.ColText(col+1), r))
		}
		lines = append(lines, "run main head "+strings.Join(stmts, ";"))
	}
	for range versions - 1 {
		lines = append(lines, "run main head")
	}
	return append(lines, "sync main head")
}

func TestP15CommandsThatAreNotLogged(t *testing.T) {
	// StForm: a name that is none, a Base of 0
	converses(t, "run Main 1", "no 3", "sync abcdefghijklm 1 put A1 5", "no 3", "run main 0", "no 3", "sync main 0 put A1 5", "no 3", "files", "files", "heads", "heads 0 main=1")
	// StTorn: a log that is torn, which open cannot mend, as there is no room for the versions (StFull)
	var torn []string
	for _, line := range append(heavy(199, 9), "run main head put B1 5") {
		torn = append(torn, line, "ok")
	}
	torn = append(torn, "crash 1 20", "no 4", "heads", "heads 14 main=15", "files", "files log")
	converses(t, append(slices.Clone(torn), "run main head", "no 6", "run main 1 put A1 5", "no 6", "sync main head", "no 6", "sync main head put A1 5", "no 6", "branch a 1", "no 6", "merge main main", "no 6", "merge a b", "no 6", "sweep", "no 6", "run zz 1", "no 6", "run ZZ 1", "no 3", "run main 0", "no 3", "run zz head", "what", "run main head fly", "what", "branch A 1", "what", "heads", "heads 14 main=15")...)
	converses(t, append(slices.Clone(torn), "save", "no 6", "save 0", "no 6", "open 0", "no 5", "open 1", "no 5", "open 2", "no 4", "open", "no 4", "crash 0 0", "no 4", "crash 9 9", "no 4", "files", "files log", "heads", "heads 14 main=15", "run main head", "no 6")...)
}

// StFull: base and log together are just MaxBytes, or nearly, as a save lost its power ahead of its last steps.
func TestP15CommandsForWhichThereIsNoRoom(t *testing.T) {
	for bytes := 199; bytes > 150; bytes-- {
		lines := append(heavy(bytes, 7), "save 4", "files")
		ahead := len(lines)
		long := "main head " + gridPuts(0, 5, "'"+strings.Repeat("y", 199))
		lines = append(lines, "run "+long, "sync "+long, "heads", "run main head", "heads", "branch a 1", "merge a main", "sweep", "save", "open", "files")
		if len(scriptOf(lines...)) > impl.MaxLines {
			t.Fatalf("%d bytes", len(scriptOf(lines...)))
		}
		said := strings.Split(impl.RunScript(scriptOf(lines...)), "\n")
		if said[ahead-2] != "no 5" || said[ahead] != "no 4" {
			continue
		}
		if said := scripted(t, scriptOf(lines...)); !slices.Equal(said[ahead-2:], []string{"no 5", "files base log", "no 4", "no 4", "heads 12 main=13", "ok", "heads 13 main=14", "ok", "ok", "ok", "no 4", "ok", "files base log"}) {
			t.Errorf("%q", said[ahead-2:])
		}
		return
	}
	t.Error("none has so many bytes")
}

func TestP15BranchesMergesAndSweeps(t *testing.T) {
	ahead := []string{"branch a 1", "branch abcdefghijkl 1", "run a head put A1 1"}
	for _, c := range [][2]string{
		{"branch b 1", "ok"}, {"branch b 2", "ok"}, {"branch abcdefghijk 1", "ok"}, {"branch bbbbbbbbbbbb 1", "ok"}, {"branch abcdefghijklm 1", "what"}, {"branch bbbbbbbbbbbbb 1", "what"}, {"branch B 1", "what"}, {"branch b1 1", "what"}, {"branch b- 1", "what"}, {"branch ä 1", "what"}, {"branch { 1", "what"}, {"branch ` 1", "what"},
		{"branch b 0", "what"}, {"branch b 00", "what"}, {"branch b 01", "what"}, {"branch b 001", "what"}, {"branch b -1", "what"}, {"branch b +1", "what"}, {"branch b 1.", "what"}, {"branch b 999999", "not 3"}, {"branch b 1000000", "what"}, {"branch b 1000000000", "what"}, {"branch b 1000000001", "what"}, {"branch b 99999999999999999999", "what"},
		{"branch  b 1", "what"}, {"branch b  1", "what"}, {"branch b 1 ", "what"}, {" branch b 1", "what"}, {"branch\tb 1", "what"}, {"branch b\t1", "what"}, {"branch b 1\t", "what"}, {"branch b 1;", "what"}, {"branch b 1 put A1 5", "what"},
		{"merge main a", "ok"}, {"merge a main", "ok"}, {"merge main main", "ok"}, {"merge abcdefghijkl a", "ok"}, {"merge a abcdefghijkl", "ok"}, {"merge abcdefghijklm a", "what"}, {"merge a abcdefghijklm", "what"}, {"merge a zzzzzzzzzzzz", "not 2"}, {"merge zzzzzzzzzzzz a", "not 2"}, {"merge a zzzzzzzzzzzzz", "what"}, {"merge A main", "what"}, {"merge main A", "what"}, {"merge main 1", "what"}, {"merge 1 2", "what"},
		{"merge  main a", "what"}, {"merge main  a", "what"}, {"merge main a ", "what"}, {" merge main a", "what"}, {"merge main\ta", "what"}, {"merge main,a", "what"}, {"merge main a a", "what"},
		{"sweep", "ok"}, {" sweep", "what"}, {"sweep ", "what"}, {"sweep  ", "what"}, {"sweep\t", "what"}, {"sweep main", "what"}, {"sweep 1", "what"}, {"sweep;", "what"},
	} {
		if said := lastSays(t, append(ahead, c[0])...); said != c[1] {
			t.Errorf("%q: %q, want %q", c[0], said, c[1])
		}
		want := "heads 3 a=2 abcdefghijkl=1 main=1"
		if said := lastSays(t, append(ahead, c[0], "heads")...); c[1] == "what" && said != want || c[1] != "what" && !strings.HasPrefix(said, "heads 4 ") {
			t.Errorf("behind %q: %q", c[0], said)
		}
	}
	converses(t, "branch a 1", "ok", "run a head put A1 1", "ok", "run main head put B1 1", "ok", "merge main a", "ok", "merge a main", "ok", "heads", "heads 5 a=4 main=4", "branch b 2", "ok", "run b head put A1 9", "ok", "run b 2 put C1 3", "ok", "heads", "heads 8 a=4 b=6 main=4", "sweep", "ok", "branch c 3", "ok", "heads", "heads 10 a=4 b=6 c=3 main=4", "show b", "show A1:9 C1:3")
	// A sweep takes what no branch comes from: nothing, as no branch ever goes.
	converses(t, "run main head put A1 1", "ok", "sweep", "ok", "run main 1 put B1 1", "ok", "branch a 2", "ok", "heads", "heads 4 a=2 main=3")
}

// stops asks for what a save tells with each power, and for the files behind it.
func stops(t *testing.T, ahead []string, line string, files ...string) {
	t.Helper()
	for power, names := range files {
		want := "no 5"
		if power == len(files)-1 {
			want = "ok"
		}
		lines := append(slices.Clone(ahead), fmt.Sprint(line, " ", power), "files", "heads")
		said := scripted(t, scriptOf(lines...))
		heads := lastSays(t, append(slices.Clone(ahead), "heads")...)
		if got := said[len(ahead):]; !slices.Equal(got, []string{want, names, heads}) {
			t.Errorf("%q say %q, want %q, %q, %q", lines, got, want, names, heads)
		}
	}
	for _, whole := range []string{line, fmt.Sprint(line, " ", len(files)), line + " 999999"} {
		if said := lastSays(t, append(slices.Clone(ahead), whole)...); said != "ok" {
			t.Errorf("%q: %q", whole, said)
		}
		if said := lastSays(t, append(slices.Clone(ahead), whole, "files")...); said != files[len(files)-1] {
			t.Errorf("%q: %q", whole, said)
		}
	}
}

func TestP15SavesAndOpensStepByStep(t *testing.T) {
	const none, log, base = "files", "files log", "files base"
	stops(t, nil, "save", none, none, "files base.new", base, base)
	stops(t, []string{"run main head put A1 5"}, "save", log, log, "files base.new log", "files base log", "files base log", base, base)
	stops(t, []string{"sync main head put A1 5", "save"}, "save", base, base, "files base base.new", base, base)
	stops(t, []string{"sync main head put A1 5", "save", "run main head put B1 6"}, "save", "files base log", "files base log", "files base base.new log", "files base log", "files base log", base, base)
	// A base.new that was left goes first.
	stops(t, []string{"run main head put A1 5", "save 2"}, "save", "files base.new log", "files base.new log", log, log, "files base.new log", "files base log", "files base log", base, base)
	// A log that is good: there is nothing to do.
	for _, ahead := range [][]string{nil, {"run main head put A1 5"}, {"run main head", "save"}, {"run main head", "save 2"}, {"run main head", "save 3"}, {"run main head", "crash 1 20"}} {
		stops(t, ahead, "open", lastSays(t, append(slices.Clone(ahead), "files")...))
	}
	// Numbers go on behind a save.
	converses(t, "run main head put A1 1", "ok", "save", "ok", "run main head put A1 2", "ok", "heads", "heads 2 main=3", "save", "ok", "heads", "heads 2 main=3", "branch a 2", "ok", "heads", "heads 3 a=2 main=3", "open", "ok", "files", "files base log", "show a", "show A1:1", "show main", "show A1:2")
}

func TestP15WhatFollowsALossOfPower(t *testing.T) {
	// The disk is as it was left; power is there again in the next line.
	converses(t, "run main head put A1 1", "ok", "save 2", "no 5", "files", "files base.new log", "heads", "heads 1 main=2", "run main head put A1 2", "ok", "crash 0 0", "ok", "files", "files log", "heads", "heads 1 main=2", "save", "ok", "files", "files base", "heads", "heads 1 main=2")
	converses(t, "run main head put A1 1", "ok", "save 0", "no 5", "crash 0 0", "ok", "heads", "heads 0 main=1")
	converses(t, "run main head put A1 1", "ok", "save 1", "no 5", "crash 0 0", "ok", "heads", "heads 1 main=2")
	for power := 1; power < 7; power++ {
		for keep := range 4 {
			for _, torn := range []int{0, 1, 9, 40, 999} {
				lines := []string{"run main head put A1 1", fmt.Sprint("save ", power), fmt.Sprint("crash ", keep, " ", torn), "heads", "show main", "run main head put A1 A1"}
				if said := scripted(t, scriptOf(lines...)); !slices.Equal(said[2:5], []string{"ok", "heads 1 main=2", "show A1:1"}) {
					t.Errorf("%q say %q", lines, said)
				}
			}
		}
	}
	converses(t, "run main head put A1 1", "ok", "save 3", "no 5", "run main head put A1 2", "ok", "files", "files base log", "crash 2 0", "ok", "files", "files base log", "heads", "heads 1 main=2", "run main head put A1 3", "ok", "save 5", "no 5", "files", "files base", "crash 0 0", "ok", "files", "files base log", "heads", "heads 2 main=3", "show main", "show A1:3")
}

func TestP15Crashes(t *testing.T) {
	ahead := []string{"sync main head put A1 1", "run main head put A1 2", "run main head put A1 3", "run main head put A1 4"}
	frame := int64(len(entry(4, "run main 4\nput A1 4\n")))
	for keep := range int64(6) {
		for _, torn := range []int64{0, 1, 7, 8, 9, frame - 1, frame, frame + 1, 999999} {
			kept := min(keep, 3)
			whole, files := kept, "files log"
			if kept > 0 && torn < frame {
				whole--
				if torn > 0 {
					// The log is torn, and is mended by a save.
					files = "files base"
				}
			}
			lines := append(slices.Clone(ahead), fmt.Sprint("crash ", keep, " ", torn), "files", "heads", "show main", "crash 9 9", "heads", "run main head set A1 A1+10", "show main")
			want := []string{"ok", "ok", "ok", "ok", "ok", files, fmt.Sprintf("heads %d main=%d", whole+1, whole+2), fmt.Sprint("show A1:", whole+1), "ok", fmt.Sprintf("heads %d main=%d", whole+1, whole+2), "ok", fmt.Sprint("show A1:", whole+11)}
			if said := scripted(t, scriptOf(lines...)); !slices.Equal(said, want) {
				t.Errorf("%q say %q, want %q", lines, said, want)
			}
		}
	}
	// Nothing to lose, all synced, and more kept than there is.
	converses(t, "crash 0 0", "ok", "crash 5 5", "ok", "files", "files", "heads", "heads 0 main=1", "sync main head put A1 1", "ok", "crash 0 0", "ok", "crash 999999 999999", "ok", "show main", "show A1:1")
	// A torn append of no byte leaves its file, empty.
	converses(t, "run main head put A1 1", "ok", "crash 1 0", "ok", "files", "files log", "heads", "heads 0 main=1", "run main head put A1 1", "ok", "heads", "heads 1 main=2")
	// What was synced ahead of a synced command is safe, too; commands of each kind.
	converses(t, "branch a 1", "ok", "run a head put A1 1", "ok", "sync main head put B1 2", "ok", "merge main a", "ok", "sweep", "ok", "branch b 4", "ok", "crash 2 999", "ok", "heads", "heads 5 a=2 main=4", "branch b 4", "ok", "crash 0 0", "ok", "heads", "heads 5 a=2 main=4")
}

func TestP15LinesThatAsk(t *testing.T) {
	converses(t, "files", "files", "heads", "heads 0 main=1", "show main", "show", "cells main", "cells", "show a", "no branch", "cells a", "no branch", "show", "what", "cells", "what", "show Main", "no branch", "cells MAIN", "no branch", "show 1", "no branch", "cells main;", "no branch", "show abcdefghijklm", "no branch", "show \xff", "no branch")
	// Behind each kind of line.
	asks := func(line string, said string, files string, heads string, show string, cells string, side string) {
		t.Helper()
		lines := []string{"run main head put A1 5;put B1 =A1*2"}
		got := scripted(t, scriptOf(append(lines, line, "files", "heads", "show main", "cells main", "show a", "cells a", "files")...))
		if want := []string{"ok", said, files, heads, show, cells, strings.Replace(side, "cells", "show", 1), side, files}; !slices.Equal(got, want) {
			t.Errorf("%q say %q, want %q", line, got, want)
		}
	}
	const heads, show, cells, none = "heads 1 main=2", "show A1:5 B1:10", "cells A1:5 B1:=A1*2", "no branch"
	asks("run main head put A1 6", "ok", "files log", "heads 2 main=3", "show A1:6 B1:12", "cells A1:6 B1:=A1*2", none)
	asks("run main head", "ok", "files log", "heads 2 main=3", show, cells, none)
	asks("run main head abort TRUE", "not 4", "files log", "heads 2 main=2", show, cells, none)
	asks("run main 9", "not 3", "files log", "heads 2 main=2", show, cells, none)
	asks("run a head", "what", "files log", heads, show, cells, none)
	asks("sync main head put A1 ", "ok", "files log", "heads 2 main=3", "show B1:0", "cells B1:=A1*2", none)
	asks("branch a 1", "ok", "files log", "heads 2 a=1 main=2", show, cells, "cells")
	asks("branch a 3", "not 3", "files log", "heads 2 main=2", show, cells, none)
	asks("merge main main", "ok", "files log", "heads 2 main=2", show, cells, none)
	asks("merge main a", "not 2", "files log", "heads 2 main=2", show, cells, none)
	asks("sweep", "ok", "files log", "heads 2 main=2", show, cells, none)
	asks("save", "ok", "files base", heads, show, cells, none)
	asks("save 2", "no 5", "files base.new log", heads, show, cells, none)
	asks("open", "ok", "files log", heads, show, cells, none)
	asks("crash 0 0", "ok", "files", "heads 0 main=1", "show", "cells", none)
	asks("crash 1 999", "ok", "files log", heads, show, cells, none)
	asks("crash 1 9", "ok", "files base", "heads 0 main=1", "show", "cells", none)
	asks("files", "files log", "files log", heads, show, cells, none)
	asks("heads", heads, "files log", heads, show, cells, none)
	asks("show main", show, "files log", heads, show, cells, none)
	asks("cells main", cells, "files log", heads, show, cells, none)
	asks("fly", "what", "files log", heads, show, cells, none)
	// Names in their order, heads of several digits.
	converses(t, "branch zz 1", "ok", "branch a 1", "ok", "branch mainz 1", "ok", "branch ma 1", "ok", "run main head", "ok", "heads", "heads 5 a=1 ma=1 main=2 mainz=1 zz=1")
	converses(t, append(slices.Repeat([]string{"run main head", "ok"}, 12), "branch a 11", "ok", "heads", "heads 13 a=11 main=13")...)
}

func TestP15ShowsValues(t *testing.T) {
	for _, c := range []struct{ macro, show, cells string }{
		{"put A1 0", "A1:0", "A1:0"}, {"put A1 -7", "A1:-7", "A1:-7"}, {"put A1 1000000000000000", "A1:1000000000000000", "A1:1000000000000000"}, {"put A1 =1+2*3", "A1:7", "A1:=1+2*3"},
		{"put A1 'hello", "A1:'hello", "A1:'hello"}, {"put A1 'a b", "A1:'a b", "A1:'a b"}, {"put A1 '5", "A1:'5", "A1:'5"}, {"put A1 '=B1", "A1:'=B1", "A1:'=B1"}, {`put A1 ="x"&1`, "A1:'x1", `A1:="x"&1`}, {"put A1 'A1:5 B1:6", "A1:'A1:5 B1:6", "A1:'A1:5 B1:6"},
		{"put A1 TRUE", "A1:TRUE", "A1:TRUE"}, {"put A1 FALSE", "A1:FALSE", "A1:FALSE"}, {"put A1 =1<2", "A1:TRUE", "A1:=1<2"}, {"put A1 =NOT(1)", "A1:FALSE", "A1:=NOT(1)"},
		{"put A1 =1/0", "A1:#DIV!", "A1:=1/0"}, {"put A1 =1+TRUE", "A1:#TYPE!", "A1:=1+TRUE"}, {"put A1 #REF!", "A1:#REF!", "A1:#REF!"}, {"put A1 =#REF!+1", "A1:#REF!", "A1:=#REF!+1"}, {"put A1 =1000000000000000+1", "A1:#OVER!", "A1:=1000000000000000+1"}, {"set A1 1/0", "A1:#DIV!", "A1:#DIV!"},
		// empty values
		{"put A1 '", "A1:'", "A1:'"}, {`put A1 =""`, "A1:'", `A1:=""`}, {"put A1 =B1", "A1:0", "A1:=B1"}, {"put A1 =B1&B1", "A1:'", "A1:=B1&B1"}, {"put A1 =LEN(B1)", "A1:0", "A1:=LEN(B1)"}, {"set A1 B1", "A1:0", "A1:0"}, {"put A1 ' ", "A1:' ", "A1:' "},
		// circles
		{"put A1 =A1", "A1:#CYCLE!", "A1:=A1"}, {"put A1 =B1;put B1 =A1", "A1:#CYCLE! B1:#CYCLE!", "A1:=B1 B1:=A1"}, {"put A1 =B1;put B1 =C1+1;put C1 =SUM(B1:B9);put D1 7", "A1:#CYCLE! B1:#CYCLE! C1:#CYCLE! D1:7", "A1:=B1 B1:=C1+1 C1:=SUM(B1:B9) D1:7"}, {"put A1 =A1;put B1 =COUNT(A1)", "A1:#CYCLE! B1:0", "A1:=A1 B1:=COUNT(A1)"}, {"put A1 #CYCLE!", "A1:#CYCLE!", "A1:#CYCLE!"},
		// cells in their order
		{"put AZ99 4;put B2 3;put A10 2;put AA1 1;put Z1 0", "Z1:0 AA1:1 B2:3 A10:2 AZ99:4", "Z1:0 AA1:1 B2:3 A10:2 AZ99:4"}, {"put A1 =$B$1+B$1;put B1 2", "A1:4 B1:2", "A1:=$B$1+B$1 B1:2"},
	} {
		converses(t, "run main head "+c.macro, "ok", "show main", "show "+c.show, "cells main", "cells "+c.cells, "branch a 2", "ok", "show a", "show "+c.show, "save", "ok", "show main", "show "+c.show, "cells a", "cells "+c.cells)
	}
}

// talks answers scripts in which much is done.
func talks() []string {
	return []string{
		scriptOf("run main head put A1 5;put B1 =A1*2", "show main", "", "cells main", "run main 1 put C1 'hello", "run main 1 set D1 A1", "heads", "fly"),
		scriptOf("sync main head set A1 A1+1", "run main head set A1 A1+1", "run main head set A1 A1+1", "crash 1 999", "show main", "save", "files", "save 0", "open", "run main head", "crash 1 9", "files"),
		scriptOf("branch a 1", "run a head put A1 1", "run main head put B1 2", "  ", "merge main a", "show main", "merge main zz", "sweep", "heads", "save 3", "crash 0 0", "merge a main", "heads", "run a 1 set C1 A1+B1", "run a head set C1 A1+B1", "show a"),
		scriptOf("save", "save 1", "run main head put A1 =B1;put B1 =A1", "save 2", "save 3", "crash 1 5", "save 7", "show main", "save 4", "files", "sync zz 1", "branch zz 1", "sync zz 1 put A1 7", "save 5", "crash 9 9", "show zz"),
		scriptOf(append(heavy(199, 9), "run main head put B1 5", "crash 1 20", "run main head", "save", "open 1", "crash 0 0", "heads")...),
	}
}

func TestP15WhatWasSaidStaysSaidWhenMoreLinesFollow(t *testing.T) {
	for _, text := range talks() {
		staysSaid(t, text)
	}
	for _, next := range []string{"crash 0 0", "save", "save 0", "open", "sweep", "fly", "run main head put A1 9", "heads", "", " "} {
		for _, text := range talks() {
			if said := impl.RunScript(text); !strings.HasPrefix(impl.RunScript(text+next+"\n"), said) {
				t.Errorf("%q behind %q: another %q", next, text, said)
			}
		}
	}
}

// staysSaid cuts behind each line.
func staysSaid(t *testing.T, text string) {
	t.Helper()
	said := impl.RunScript(text)
	ends := []int{0}
	for i := range text {
		if text[i] == '\n' {
			ends = append(ends, i+1)
		}
	}
	for _, end := range ends {
		first := impl.RunScript(text[:end])
		if !strings.HasPrefix(said, first) || strings.Count(first, "\n") != len(wordedLines(text[:end])) {
			t.Fatalf("cut at %d of %q: %q is no beginning of %q", end, text, first, said)
		}
	}
}

func TestP15LinesThatAskChangeNothing(t *testing.T) {
	for _, text := range talks() {
		changesNothing(t, text)
	}
}

// changesNothing puts lines that ask behind each line: the others say what they said.
func changesNothing(t *testing.T, text string) {
	t.Helper()
	lines := strings.Split(strings.TrimSuffix(text, "\n"), "\n")
	want := strings.Split(impl.RunScript(text), "\n")
	for _, ask := range []string{"files", "heads", "show main", "cells main", " show  zz ", "fly", "run main", "show", ""} {
		// As many as there is room for, from each line on.
		room := min(impl.MaxScript-len(lines), (impl.MaxLines-len(text))/(len(ask)+1))
		for from := 0; from < len(lines) && room > 0; from += room {
			var asked []string
			var passed []bool
			for i, line := range lines {
				if asked = append(asked, line); strings.Trim(line, " ") != "" {
					passed = append(passed, false)
				}
				if i >= from && i < from+room {
					if asked = append(asked, ask); ask != "" {
						passed = append(passed, true)
					}
				}
			}
			got := strings.Split(impl.RunScript(scriptOf(asked...)), "\n")
			var rest []string
			for i, said := range got {
				if i >= len(passed) || !passed[i] {
					rest = append(rest, said)
				}
			}
			if !slices.Equal(rest, want) {
				t.Fatalf("%q in %q: %q, want %q", ask, asked, rest, want)
			}
		}
	}
}

func (d *dice) one(words ...string) string { return words[d.below(len(words))] }

// line answers a line that is right, or was until one byte of it was spoilt.
func (d *dice) line(t *testing.T) string {
	t.Helper()
	branch := func() string { return d.one("main", "main", "main", "main", "a", "a", "a", "a", "b", "A") }
	line := ""
	switch n := d.below(24); {
	case n < 9:
		line = d.one("run", "run", "sync") + " " + branch() + " " + d.one("head", "head", "head", "1", "2", strconv.Itoa(d.below(9)))
		if m := d.macro(t, 4); d.below(3) == 0 {
			line += fmt.Sprint(d.one(" put A1 ", " set B1 A1+"), d.below(9))
		} else if len(m) > 0 {
			line += " " + strings.ReplaceAll(strings.TrimSuffix(impl.MacroText(m), "\n"), "\n", ";")
		}
	case n < 11:
		line = "branch " + d.one("a", "a", "b", "main") + " " + strconv.Itoa(1+d.below(4))
	case n < 13:
		line = "merge " + d.one("main a", "a main", "main a", branch()+" "+branch())
	case n < 14:
		line = d.one("sweep", "sweep", "", "  ")
	case n < 16:
		line = d.one("save", "open") + d.one("", "", fmt.Sprint(" ", d.below(9)), fmt.Sprint("  ", d.below(9), " "))
	case n < 18:
		line = fmt.Sprint(d.one("", " "), "crash ", d.below(9), " ", d.one("0", "999", strconv.Itoa(d.below(40))))
	case n < 20:
		line = d.one("files", "heads", " heads ")
	default:
		line = d.one("show ", "cells ", " show  ") + branch()
	}
	if d.below(7) > 0 {
		return line
	}
	i := d.below(len(line) + 1)
	return line[:i] + d.one(" ", ";", "\t", "0", "-", "A", "a", "\xff", "") + line[min(len(line), i+d.below(2)):]
}

func TestP15ThrownScriptsAreHeldAgainstASecondOne(t *testing.T) {
	d := dice(15)
	said := map[string]int{}
	for range 250 {
		lines := []string{d.one("branch a 1", "branch a 1", "sync main head put A1 3", "")}
		for range d.below(impl.MaxScript) {
			lines = append(lines, d.line(t))
		}
		for _, s := range scripted(t, scriptOf(lines...)) {
			word, rest, _ := strings.Cut(s, " ")
			if word == "no" || word == "not" {
				word += " " + rest
			}
			said[word]++
		}
		staysSaid(t, scriptOf(lines...))
		changesNothing(t, scriptOf(lines[:min(len(lines), 20)]...))
	}
	for _, want := range []string{"ok", "what", "files", "heads", "show", "cells", "no branch", "no 3", "no 5", "not 2", "not 3", "not 4", "not 5", "not 6", "not 7"} {
		if said[want] < 5 {
			t.Errorf("%q: %v", want, said)
		}
	}
}
