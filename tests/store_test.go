package tests

import (
	"encoding/binary"
	"fmt"
	"hash/crc32"
	"math"
	"regexp"
	"slices"
	"strconv"
	"strings"
	"testing"

	"loop.example/g00267/impl"
)

const maxFrame = 1000000

// plainFrame frames data however long it is.
func plainFrame(data string) string {
	head := binary.BigEndian.AppendUint32(nil, uint32(len(data)))
	return string(binary.BigEndian.AppendUint32(head, crc32.ChecksumIEEE([]byte(data)))) + data
}

// plainTake finds the frames by making each anew.
func plainTake(s string) ([]string, int64) {
	var list []string
	end := 0
	for len(s)-end >= 8 {
		size := int(binary.BigEndian.Uint32([]byte(s[end:])))
		if size > maxFrame || size > len(s)-end-8 || !strings.HasPrefix(s[end:], plainFrame(s[end+8:end+8+size])) {
			break
		}
		list = append(list, s[end+8:end+8+size])
		end += 8 + size
	}
	return list, int64(end)
}

func takesFramesAsPlain(t *testing.T, s string) ([]string, int64) {
	t.Helper()
	list, end := impl.TakeFrames(s)
	if want, wantEnd := plainTake(s); end != wantEnd || !slices.Equal(list, want) {
		t.Fatalf("TakeFrames(%s) = %d frames, %d, want %d, %d", short(s), len(list), end, len(want), wantEnd)
	}
	return list, end
}

func TestP14FramesComeBack(t *testing.T) {
	if f := impl.FrameOf("123456789"); f != "\x00\x00\x00\x09\xcb\xf4\x39\x26123456789" {
		t.Errorf("%q", f)
	}
	if f := impl.FrameOf(""); f != "\x00\x00\x00\x00\x00\x00\x00\x00" {
		t.Errorf("%q", f)
	}
	all, each := "", ""
	var want []string
	for i := range 256 {
		each += string([]byte{byte(i)})
		for _, data := range []string{string([]byte{byte(i)}), each, strings.Repeat("\x00", i), strings.Repeat("\xff", i), impl.FrameOf(each)} {
			f := impl.FrameOf(data)
			if f != plainFrame(data) {
				t.Fatalf("FrameOf(%q) = %q", data, f)
			}
			if list, end := takesFramesAsPlain(t, f); len(list) != 1 || list[0] != data || end != int64(len(f)) {
				t.Fatalf("%q comes back as %q, %d", data, list, end)
			}
			all += f
			want = append(want, data)
		}
	}
	if list, end := takesFramesAsPlain(t, all); !slices.Equal(list, want) || end != int64(len(all)) {
		t.Errorf("%d frames of %d", len(list), len(want))
	}
}

func TestP14LongFrames(t *testing.T) {
	for _, many := range []int{65535, 65536, 199992, maxFrame - 1, maxFrame} {
		data := strings.Repeat("ab", many/2) + strings.Repeat("c", many%2)
		f := impl.FrameOf(data)
		if f != plainFrame(data) {
			t.Fatalf("%d bytes: %s", many, short(f))
		}
		if list, end := takesFramesAsPlain(t, f+f); len(list) != 2 || list[1] != data || end != int64(2*len(f)) {
			t.Errorf("%d bytes come back as %d frames, %d", many, len(list), end)
		}
	}
	for _, many := range []int{maxFrame + 1, maxFrame + 2, 2 * maxFrame} {
		data := strings.Repeat("x", many)
		if f := impl.FrameOf(data); f != "" {
			t.Errorf("%d bytes: %s", many, short(f))
		}
		if list, end := takesFramesAsPlain(t, plainFrame(data)); len(list) != 0 || end != 0 {
			t.Errorf("%d bytes come back as %d frames, %d", many, len(list), end)
		}
	}
}

func TestP14BytesThatAreNoFrame(t *testing.T) {
	two := plainFrame("one") + plainFrame("two!")
	for cut := range len(two) + 1 {
		list, end := takesFramesAsPlain(t, two[:cut])
		if want := map[bool]int{true: 1}[cut >= 11] + map[bool]int{true: 1}[cut >= 23]; len(list) != want || end != []int64{0, 11, 23}[want] {
			t.Errorf("broken off at %d: %q, %d", cut, list, end)
		}
	}
	for i := range two {
		for _, flip := range []byte{1, 2, 16, 128, 255} {
			s := []byte(two)
			s[i] ^= flip
			if list, end := takesFramesAsPlain(t, string(s)); i < 11 && (len(list) != 0 || end != 0) || i >= 11 && (len(list) != 1 || end != 11) {
				t.Errorf("another byte at %d: %q, %d", i, list, end)
			}
		}
	}
	for _, s := range []string{"", "?", "\x00", "\xff\xff\xff\xff", "\xff\xff\xff\xff\x00\x00\x00\x00", "\xff\xff\xff\xff\xff\xff\xff\xffabc", "\xff\xff\xff\xf8\x00\x00\x00\x00abc", "\x80\x00\x00\x00\x00\x00\x00\x00abc", "\x7f\xff\xff\xff\x00\x00\x00\x00abc", "\x00\x00\x00\x01\x00\x00\x00\x00", "\x00\x00\x00\x00\x00\x00\x00\x01", "\x09\x00\x00\x00\xcb\xf4\x39\x26123456789", "\x00\x00\x00\x09\x26\x39\xf4\xcb123456789", strings.Repeat("\x00", 7), " " + two} {
		if list, end := takesFramesAsPlain(t, s); len(list) != 0 || end != 0 {
			t.Errorf("%q: %q, %d", s, list, end)
		}
		if list, end := takesFramesAsPlain(t, two+s); len(list) != 2 || end != 23 {
			t.Errorf("%q behind frames: %q, %d", s, list, end)
		}
	}
	// A frame behind what is none does not count; noughts are frames of nothing.
	if list, end := takesFramesAsPlain(t, two+"?"+two); len(list) != 2 || end != 23 {
		t.Errorf("%q, %d", list, end)
	}
	if list, end := takesFramesAsPlain(t, strings.Repeat("\x00", 8001)); len(list) != 1000 || end != 8000 {
		t.Errorf("%d, %d", len(list), end)
	}
}

// plainCmdText writes c, right or not.
func plainCmdText(c impl.Cmd) string {
	switch c.Kind {
	case impl.CmRun:
		return fmt.Sprintf("run %s %d\n%s", c.Name, c.Base, plainMacroText(c.Macro))
	case impl.CmBranch:
		return fmt.Sprintf("branch %s %d\n", c.Name, c.Base)
	case impl.CmMerge:
		return fmt.Sprintf("merge %s %s\n", c.Name, c.Other)
	}
	return "sweep\n"
}

var cmdForm = regexp.MustCompile(`\A(?:(run|branch) ([a-z]{1,12}) ([1-9][0-9]{0,9})\n|(merge) ([a-z]{1,12}) ([a-z]{1,12})\n|(sweep)\n)`)

// plainReadCmd asks for the form of the first line, and then only parts it.
func plainReadCmd(text string) (impl.Cmd, bool) {
	p := cmdForm.FindStringSubmatch(text)
	if p == nil {
		return impl.Cmd{}, false
	}
	rest := text[len(p[0]):]
	base, _ := strconv.ParseInt(p[3], 10, 64)
	c := impl.Cmd{Kind: int64(1 + slices.Index([]string{"run", "branch", "merge", "sweep"}, p[1]+p[4]+p[7])), Name: p[2] + p[5], Other: p[6], Base: base}
	if base > impl.MaxId || rest != "" && c.Kind != impl.CmRun {
		return impl.Cmd{}, false
	}
	m, ok := plainReadMacro(rest)
	if !ok {
		return impl.Cmd{}, false
	}
	c.Macro = m
	return c, true
}

func sameCmd(a impl.Cmd, b impl.Cmd) bool {
	return a.Kind == b.Kind && a.Name == b.Name && a.Other == b.Other && a.Base == b.Base && slices.Equal(a.Macro, b.Macro)
}

func isNoCmd(c impl.Cmd) bool { return sameCmd(c, impl.Cmd{}) }

func readsCmdAsPlain(t *testing.T, text string) bool {
	t.Helper()
	want, right := plainReadCmd(text)
	c, ok := impl.ReadCmd(text)
	if ok != right || ok && (!sameCmd(c, want) || impl.CmdText(c) != text) || !ok && !isNoCmd(c) {
		t.Fatalf("ReadCmd(%q) = %v, %v, want %v", text, c, ok, right)
	}
	return ok
}

// cmdOf answers the command of "run main 1; put A1 5; set B1 A1", "branch a 1", "merge a b", "sweep".
func cmdOf(t *testing.T, lines string) impl.Cmd {
	t.Helper()
	first, macro, _ := strings.Cut(lines, "; ")
	c, ok := plainReadCmd(first + "\n")
	if !ok {
		t.Fatalf("%q is no command", lines)
	}
	c.Macro = macroOf(t, macro)
	return c
}

func rightCmds(t *testing.T) []impl.Cmd {
	t.Helper()
	var list []impl.Cmd
	for _, lines := range []string{"run main 1", "run a 1", "run abcdefghijkl 1", "run main 1000000000", "run main 10; put A1 5", "run run 1; put A1 ; set B1 A1", "run sweep 7; put A1 ' ", "branch a 1", "branch branch 1000000000", "branch abcdefghijkl 12", "merge a b", "merge a a", "merge merge abcdefghijkl", "merge zzzzzzzzzzzz z", "sweep"} {
		list = append(list, cmdOf(t, lines))
	}
	for _, m := range rightMacros(t) {
		list = append(list, impl.Cmd{Kind: impl.CmRun, Name: "main", Base: 1, Macro: m})
	}
	return list
}

func wrongCmds(t *testing.T) []impl.Cmd {
	t.Helper()
	m := puts(1)
	list := []impl.Cmd{{}, {Kind: impl.CmRun}, {Kind: impl.CmBranch}, {Kind: impl.CmMerge}}
	for _, kind := range []int64{0, 5, -1, math.MaxInt64, math.MinInt64} {
		list = append(list, impl.Cmd{Kind: kind}, impl.Cmd{Kind: kind, Name: "main", Base: 1}, impl.Cmd{Kind: kind, Name: "a", Other: "b"}, impl.Cmd{Kind: kind, Name: "main", Base: 1, Macro: m})
	}
	for _, name := range []string{"", "abcdefghijklm", "Main", "ma in", "main ", " main", "main\n", "a1", "a-b", "`", "{", "ä", "\x00", "a\xff", strings.Repeat("a", 1000)} {
		list = append(list, impl.Cmd{Kind: impl.CmRun, Name: name, Base: 1}, impl.Cmd{Kind: impl.CmRun, Name: name, Base: 1, Macro: m}, impl.Cmd{Kind: impl.CmBranch, Name: name, Base: 1}, impl.Cmd{Kind: impl.CmMerge, Name: name, Other: "b"}, impl.Cmd{Kind: impl.CmMerge, Name: "a", Other: name})
		if name != "" {
			list = append(list, impl.Cmd{Kind: impl.CmSweep, Name: name})
		}
	}
	for _, base := range []int64{0, -1, impl.MaxId + 1, math.MaxInt64, math.MinInt64} {
		list = append(list, impl.Cmd{Kind: impl.CmRun, Name: "main", Base: base}, impl.Cmd{Kind: impl.CmBranch, Name: "main", Base: base})
	}
	for _, m := range wrongMacros(t) {
		list = append(list, impl.Cmd{Kind: impl.CmRun, Name: "main", Base: 1, Macro: m})
	}
	// Fields that a Kind does not name.
	return append(list,
		impl.Cmd{Kind: impl.CmRun, Name: "main", Other: "b", Base: 1}, impl.Cmd{Kind: impl.CmRun, Name: "main", Other: "b", Base: 1, Macro: m},
		impl.Cmd{Kind: impl.CmBranch, Name: "a", Other: "b", Base: 1}, impl.Cmd{Kind: impl.CmBranch, Name: "a", Base: 1, Macro: m}, impl.Cmd{Kind: impl.CmBranch, Name: "a", Base: 1, Macro: []impl.Stmt{{}}},
		impl.Cmd{Kind: impl.CmMerge, Name: "a", Other: "b", Base: 1}, impl.Cmd{Kind: impl.CmMerge, Name: "a", Other: "b", Base: -1}, impl.Cmd{Kind: impl.CmMerge, Name: "a", Other: "b", Macro: m},
		impl.Cmd{Kind: impl.CmSweep, Name: "a"}, impl.Cmd{Kind: impl.CmSweep, Other: "a"}, impl.Cmd{Kind: impl.CmSweep, Base: 1}, impl.Cmd{Kind: impl.CmSweep, Base: -1}, impl.Cmd{Kind: impl.CmSweep, Macro: m}, impl.Cmd{Kind: impl.CmSweep, Macro: []impl.Stmt{{}}})
}

func TestP14RightCommandsComeBackFromTheirTexts(t *testing.T) {
	for _, c := range rightCmds(t) {
		text := impl.CmdText(c)
		if text != plainCmdText(c) {
			t.Errorf("CmdText(%v) = %q", c, text)
		}
		if n, ok := impl.ReadCmd(text); !ok || !sameCmd(n, c) || !readsCmdAsPlain(t, text) {
			t.Errorf("%q comes back as %v, %v", text, n, ok)
		}
	}
	for text, c := range map[string]impl.Cmd{
		"run main 1\n": {Kind: 1, Name: "main", Base: 1}, "run main 12\nput A1 'x\nput B2 \n": {Kind: 1, Name: "main", Base: 12, Macro: macroOf(t, "put A1 'x; put B2 ")}, "branch a 3\n": {Kind: 2, Name: "a", Base: 3}, "merge a b\n": {Kind: 3, Name: "a", Other: "b"}, "sweep\n": {Kind: 4},
	} {
		if impl.CmdText(c) != text || !readsCmdAsPlain(t, text) {
			t.Errorf("CmdText(%v) = %q, want %q", c, impl.CmdText(c), text)
		}
	}
	// Nothing and nil are the same.
	if text := impl.CmdText(impl.Cmd{Kind: impl.CmSweep, Macro: []impl.Stmt{}}); text != "sweep\n" {
		t.Errorf("%q", text)
	}
}

func TestP14CommandsThatAreNotRight(t *testing.T) {
	for _, c := range wrongCmds(t) {
		if text := impl.CmdText(c); text != "" {
			t.Errorf("CmdText(%v) = %q", c, text)
		}
		for _, d := range rightDags(t)[:12] {
			if n, code := impl.Obeyed(d, c); code != -1 || dagShown(n) != dagShown(d) {
				t.Errorf("Obeyed(%s, %v) = %s, %d", dagShown(d), c, dagShown(n), code)
			}
		}
	}
}

func TestP14TextsThatAreNoCommand(t *testing.T) {
	for _, text := range []string{
		"", "\n", " ", "run", "run\n", "branch\n", "merge\n", "sweep", "fly\n", "Sweep\n", "SWEEP\n", "sweeps\n", "swee\n",
		// a last line that is not ended, lines too many
		"run main 1", "branch a 1", "merge a b", "run main 1\nput A1 5", "sweep\n\n", "\nsweep\n", "branch a 1\n\n", "merge a b\n\n", "run main 1\n\n", "sweep\nsweep\n", "branch a 1\nput A1 5\n", "merge a b\nput A1 5\n", "sweep\nput A1 5\n", "run main 1\n\nput A1 5\n", "run main 1\nput A1 5\n\n", "\nrun main 1\n",
		// noughts ahead, bases that are none
		"run main 01\n", "run main 00\n", "run main 0\n", "run main -1\n", "run main +1\n", "run main 1000000001\n", "run main 10000000000\n", "run main 9999999999999999999999\n", "run main x\n", "run main 1x\n", "run main 0x1\n", "run main 1.0\n", "run main 1_0\n", "run main \n", "branch a 01\n", "branch a 0\n", "branch a -1\n", "branch a 1000000001\n", "branch a x\n", "branch a \n",
		// names
		"run  1\n", "run 1\n", "run abcdefghijklm 1\n", "run Main 1\n", "run ma1n 1\n", "run mäin 1\n", "branch  1\n", "branch 1\n", "branch abcdefghijklm 1\n", "branch A 1\n", "merge a\n", "merge a \n", "merge  b\n", "merge a B\n", "merge abcdefghijklm b\n", "merge a abcdefghijklm\n", "merge a b1\n", "merge a\x00 b\n",
		// blanks too many, words too many
		" run main 1\n", "run  main 1\n", "run main  1\n", "run main 1 \n", "run main 1 1\n", "run\tmain 1\n", "run main 1\r\n", " branch a 1\n", "branch  a 1\n", "branch a  1\n", "branch a 1 \n", "branch a 1 b\n", " merge a b\n", "merge  a b\n", "merge a  b\n", "merge a b \n", "merge a b c\n", "merge a b 1\n", " sweep\n", "sweep \n", "sweep a\n", "sweep\r\n",
		// macros
		"run main 1\nput A1\n", "run main 1\nput A1 x\n", "run main 1\n put A1 5\n", "run main 1\nput A01 5\n", "run main 1\nfly\n", "run main 1\nunless 1 TRUE\n", "run main 1\nwhile 1 TRUE\n", "run main 1\nabort \n", "run main 1 put A1 5\n", "run main 1\n" + strings.Repeat("put A1 5\n", impl.MaxStmts+1),
	} {
		if readsCmdAsPlain(t, text) {
			t.Errorf("%q is a command", text)
		}
	}
	for _, text := range []string{"run main 1\n" + strings.Repeat("put A1 5\n", impl.MaxStmts), "run abcdefghijkl 1000000000\n", "branch abcdefghijkl 1000000000\n", "merge abcdefghijkl a\n", "merge a abcdefghijkl\n", "run main 1\nput A1 \n"} {
		if !readsCmdAsPlain(t, text) {
			t.Errorf("%q is no command", text)
		}
	}
}

func TestP14SpoiltTextsAreHeldAgainstASecondReader(t *testing.T) {
	read := 0
	for _, text := range []string{"run main 12\nput A1 5\nset B1 A1+1\nwhile 1 B1<3\n", "run a 1\n", "branch side 10\n", "merge a b\n", "sweep\n"} {
		for i := range len(text) + 1 {
			for _, piece := range []string{" ", "\n", "0", "1", "9", "a", "z", "A", "-", "\x00", "\xff", ""} {
				for _, s := range []string{text[:i] + piece + text[i:], text[:i] + piece + text[min(i+1, len(text)):], text[:i], text[i:]} {
					if readsCmdAsPlain(t, s) {
						read++
					}
				}
			}
		}
	}
	if read < 300 {
		t.Errorf("%d read", read)
	}
}

func plainBranched(d impl.Dag, name string, from int64) (impl.Dag, int64) {
	n := dagCopy(d)
	i, found := slices.BinarySearchFunc(d.Branches, name, func(b impl.Branch, name string) int { return strings.Compare(b.Name, name) })
	switch {
	case found:
		return n, impl.DgName
	case !slices.ContainsFunc(d.Versions, func(v impl.Version) bool { return v.Id == from }):
		return n, impl.DgVersion
	case len(d.Branches) == impl.MaxBranches:
		return n, impl.DgFull
	}
	n.Branches = slices.Insert(n.Branches, i, impl.Branch{Name: name, Head: from})
	return n, impl.DgDone
}

// plainObeyed takes right versions and a right command.
func plainObeyed(d impl.Dag, c impl.Cmd) (impl.Dag, int64) {
	branch := func(name string) int {
		return slices.IndexFunc(d.Branches, func(b impl.Branch) bool { return b.Name == name })
	}
	switch c.Kind {
	case impl.CmRun:
		n, _, code := plainAttempt(d, c.Name, c.Base, c.Macro, impl.MaxFuel)
		return n, code
	case impl.CmBranch:
		return plainBranched(d, c.Name, c.Base)
	case impl.CmMerge:
		if branch(c.Name) < 0 || branch(c.Other) < 0 {
			return dagCopy(d), impl.DgBranch
		}
		n, _, code := plainMergedIn(d, branch(c.Name), branch(c.Other))
		return n, code
	}
	return plainSwept(d), 0
}

// obeys asks for what a second one makes, and answers it.
func obeys(t *testing.T, d impl.Dag, c impl.Cmd) (impl.Dag, int64) {
	t.Helper()
	n, code := impl.Obeyed(d, c)
	if want, wantCode := plainObeyed(d, c); code != wantCode || dagShown(n) != dagShown(want) {
		t.Fatalf("Obeyed(%s, %q) = %s, %d, want %s, %d", dagShown(d), impl.CmdText(c), dagShown(n), code, dagShown(want), wantCode)
	}
	return n, code
}

func TestP14Obeys(t *testing.T) {
	d := dagOf(t, manySides)
	for lines, want := range map[string]int64{
		"run main 5; put A1 9": impl.TxDone, "run main 3; set E1 B1": impl.TxDone, "run main 1": impl.TxDone, "run none 1; put A1 9": impl.TxBranch, "run main 4; put A1 9": impl.TxBase, "run main 99": impl.TxBase, "run main 5; abort TRUE": impl.TxMacro, "run main 3; set E1 C1": impl.TxConflict,
		"branch e 3": impl.DgDone, "branch main 3": impl.DgName, "branch e 9": impl.DgVersion, "branch e 1000000000": impl.DgVersion,
		"merge main none": impl.DgBranch, "merge none main": impl.DgBranch, "merge main main": impl.DgDone, "merge b main": impl.DgDone, "merge main b": impl.DgDone, "merge main a": impl.DgDone, "merge c main": impl.DgClash,
		"sweep": 0,
	} {
		n, code := obeys(t, d, cmdOf(t, lines))
		if code != want || code != 0 && dagShown(n) != dagShown(d) {
			t.Errorf("%s: %s, %d, want %d", lines, dagShown(n), code, want)
		}
	}
	// All steps that a macro may make, and one more.
	count := "run main 5; set E1 E1+1; while 1 E1<"
	if _, code := obeys(t, d, cmdOf(t, count+"200")); code != impl.TxDone {
		t.Errorf("MaxFuel: %d", code)
	}
	if _, code := obeys(t, d, cmdOf(t, count+"201")); code != impl.TxMacro {
		t.Errorf("more than MaxFuel: %d", code)
	}
	n, _ := obeys(t, dagOf(t, "9 | main 3 | 1 | 2 1 | 3 1 | 8 2"), cmdOf(t, "sweep"))
	if dagShown(n) != "9 | main 3 | 1 | 3 1" {
		t.Errorf("swept: %s", dagShown(n))
	}
	for _, full := range []string{"run main 5; put A1 1", "merge main a"} {
		if _, code := obeys(t, filledUp(d, 0), cmdOf(t, full)); code != map[bool]int64{true: impl.TxFull, false: impl.DgFull}[full[0] == 'r'] {
			t.Errorf("%s of full versions: %d", full, code)
		}
	}
}

func TestP14ObeysNothingOfVersionsThatAreNotRight(t *testing.T) {
	for _, d := range wrongDags(t) {
		for _, c := range append(rightCmds(t)[:15], wrongCmds(t)[:9]...) {
			if n, code := impl.Obeyed(d, c); code != -1 || !isNoDag(n) {
				t.Errorf("Obeyed(%s, %v) = %s, %d", dagShown(d), c, dagShown(n), code)
			}
		}
	}
	for _, d := range rightDags(t) {
		for _, c := range rightCmds(t)[:15] {
			obeys(t, d, c)
		}
	}
}

// entry answers a frame of the log.
func entry(number int64, text string) string { return plainFrame(fmt.Sprintf("%d\n%s", number, text)) }

func baseOf(number int64, d impl.Dag) string { return entry(number, plainText(d)) }

// loggedAs answers the frames of the commands, from that number on.
func loggedAs(t *testing.T, from int64, cmds ...string) string {
	t.Helper()
	log := ""
	for i, lines := range cmds {
		log += entry(from+int64(i), plainCmdText(cmdOf(t, lines)))
	}
	return log
}

// storeOf answers the synced disk of these files; "" is none.
func storeOf(base string, log string, more ...impl.File) impl.Disk {
	files := plainFiles(more)
	for name, data := range map[string]string{"base": base, "log": log} {
		if data != "" {
			files[name] = data
		}
	}
	return synced(plainList(files))
}

// A plainStore is what lies on a disk.
type plainStore struct {
	dag    impl.Dag
	number int64
	good   bool
	broken bool
}

func plainNumber(data string) (int64, string, bool) {
	i := strings.Index(data, "\n")
	if i < 1 || i > 10 || strings.Trim(data[:i], "0123456789") != "" || data[0] == '0' && i > 1 {
		return 0, "", false
	}
	n, _ := strconv.ParseInt(data[:i], 10, 64)
	return n, data[i+1:], n <= impl.MaxId
}

// plainStored takes a right disk.
func plainStored(d impl.Disk) plainStore {
	files := plainFiles(d.Live)
	st := plainStore{dag: impl.DagNew(), good: true}
	if base, ok := files["base"]; ok {
		list, end := plainTake(base)
		if len(list) != 1 || end != int64(len(base)) {
			return plainStore{broken: true}
		}
		number, text, isNumber := plainNumber(list[0])
		dag, isDag := plainRead(text)
		if !isNumber || !isDag {
			return plainStore{broken: true}
		}
		st.number, st.dag = number, dag
	}
	list, end := plainTake(files["log"])
	for _, data := range list {
		number, text, isNumber := plainNumber(data)
		c, isCmd := plainReadCmd(text)
		if !isNumber || !isCmd || number > st.number+1 {
			st.good = false
			return st
		}
		if number == st.number+1 {
			st.dag, _ = plainObeyed(st.dag, c)
			st.number++
		}
	}
	st.good = end == int64(len(files["log"]))
	return st
}

// A plainWork makes steps one by one until it ends.
type plainWork struct {
	disk  impl.Disk
	power int64
	code  int64
}

func (w *plainWork) step(make func(impl.Disk) (impl.Disk, int64)) {
	if w.code != impl.StOk {
		return
	}
	if w.power == 0 {
		w.code = impl.StPower
		return
	}
	w.power--
	n, code := make(w.disk)
	if code != impl.DkOk {
		w.code = impl.StFull
		return
	}
	w.disk = n
}

func (w *plainWork) do(op impl.DOp) {
	w.step(func(d impl.Disk) (impl.Disk, int64) { return plainDo(d, op) })
}

func (w *plainWork) sync() {
	w.step(func(d impl.Disk) (impl.Disk, int64) { return synced(d.Live), impl.DkOk })
}

func (w *plainWork) gone(name string) {
	if _, ok := plainFiles(w.disk.Live)[name]; ok {
		w.do(impl.DOp{Kind: impl.DkRemove, Name: name})
		w.sync()
	}
}

func (w *plainWork) save(st plainStore) {
	w.sync()
	w.gone("base.new")
	w.do(impl.DOp{Kind: impl.DkAppend, Name: "base.new", Data: baseOf(st.number, st.dag)})
	w.do(impl.DOp{Kind: impl.DkRename, Name: "base.new", To: "base"})
	w.sync()
	w.gone("log")
}

// plainStoreDo takes a right disk.
func plainStoreDo(d impl.Disk, a impl.Act) (impl.Disk, int64) {
	if a.Kind < impl.AcLog || a.Kind > impl.AcCrash {
		return d, impl.StForm
	}
	if a.Kind == impl.AcCrash {
		left, ok := plainCrash(d, a.Keep, a.Torn)
		if !ok {
			return d, impl.StForm
		}
		return plainStoreDo(left, impl.Act{Kind: impl.AcOpen, Power: a.Power})
	}
	st := plainStored(d)
	w := plainWork{disk: d, power: a.Power}
	text := impl.CmdText(a.Cmd)
	switch {
	case st.broken:
		return d, impl.StBad
	case a.Kind == impl.AcLog && (text == "" || st.number == impl.MaxId):
		return d, impl.StForm
	case a.Kind != impl.AcOpen && !st.good:
		return d, impl.StTorn
	case a.Kind == impl.AcLog:
		w.do(impl.DOp{Kind: impl.DkAppend, Name: "log", Data: entry(st.number+1, plainCmdText(a.Cmd))})
		if a.Sync {
			w.sync()
		}
	case a.Kind == impl.AcSave || !st.good:
		w.save(st)
	}
	if w.code == impl.StFull {
		return d, w.code
	}
	return w.disk, w.code
}

func actShown(a impl.Act) string {
	return fmt.Sprintf("{%d %q sync %v power %d keep %v torn %d}", a.Kind, impl.CmdText(a.Cmd), a.Sync, a.Power, a.Keep, a.Torn)
}

// views asks for what a second one sees.
func views(t *testing.T, d impl.Disk) (impl.Dag, int64, int64) {
	t.Helper()
	dag, number, code := impl.StoreView(d)
	st := plainStored(d)
	if (code == impl.StBad) != st.broken || code != impl.StBad && code != impl.StOk || number != st.number || dagShown(dag) != dagShown(st.dag) {
		t.Fatalf("StoreView(%s) = %s, %d, %d, want %s, %d", diskShown(d), dagShown(dag), number, code, dagShown(st.dag), st.number)
	}
	return dag, number, code
}

// acts asks for all that the promise says of an act on a right disk, and answers what came of it.
func acts(t *testing.T, d impl.Disk, a impl.Act) (impl.Disk, int64) {
	t.Helper()
	n, code := impl.StoreDo(d, a)
	want, wantCode := plainStoreDo(d, a)
	if code != wantCode || !sameDisk(n, want) {
		t.Fatalf("StoreDo(%s, %s) = %s, %d, want %s, %d", diskShown(d), actShown(a), diskShown(n), code, diskShown(want), wantCode)
	}
	if !impl.DiskOk(n) {
		t.Fatalf("StoreDo(%s, %s) is not right: %s", diskShown(d), actShown(a), diskShown(n))
	}
	if code != impl.StOk && code != impl.StPower {
		was, ok := d, false
		if a.Kind == impl.AcCrash {
			if was, ok = impl.Crash(d, a.Keep, a.Torn); !ok {
				was = d
			}
		}
		if !sameDisk(n, was) {
			t.Fatalf("StoreDo(%s, %s) is refused with %d, and changed: %s", diskShown(d), actShown(a), code, diskShown(n))
		}
	}
	return n, code
}

func TestP14ViewsTheBase(t *testing.T) {
	two := dagOf(t, twoSides)
	for _, c := range []struct {
		base   string
		number int64
		dag    impl.Dag
	}{
		{"", 0, impl.DagNew()}, {baseOf(0, impl.DagNew()), 0, impl.DagNew()}, {baseOf(7, two), 7, two}, {baseOf(0, two), 0, two}, {baseOf(impl.MaxId, two), impl.MaxId, two}, {baseOf(10, row(impl.MaxVersions)), 10, row(impl.MaxVersions)},
	} {
		if dag, number, code := views(t, storeOf(c.base, "")); code != impl.StOk || number != c.number || dagShown(dag) != dagShown(c.dag) {
			t.Errorf("%s: %s, %d, %d", short(c.base), dagShown(dag), number, code)
		}
	}
	for _, d := range rightDags(t) {
		if dag, number, code := views(t, storeOf(baseOf(3, d), "")); code != impl.StOk || number != 3 || dagShown(dag) != dagShown(d) {
			t.Errorf("%s: %s, %d, %d", dagShown(d), dagShown(dag), number, code)
		}
	}
	// What is not synced is seen, too.
	d := opened(nil, []impl.DOp{{Kind: impl.DkAppend, Name: "base", Data: baseOf(7, two)}, {Kind: impl.DkAppend, Name: "log", Data: loggedAs(t, 8, "branch b 1")}})
	if dag, number, code := views(t, d); code != impl.StOk || number != 8 || impl.HeadOf(dag, "b") != 1 {
		t.Errorf("%s, %d, %d", dagShown(dag), number, code)
	}
}

// brokenBases answers data of which no base is.
func brokenBases(t *testing.T) []string {
	t.Helper()
	right, text := baseOf(7, impl.DagNew()), plainText(impl.DagNew())
	list := []string{
		// no frame, two frames, bytes ahead and behind, a frame that breaks off or is spoilt
		"?", "7\n" + text, right + right, right + "?", "?" + right, right + "\x00", right + plainFrame(""), plainFrame("") + right, right[:len(right)-1], right[:8], right[:5], right[:9] + "x" + right[10:], plainFrame(""), plainFrame(right),
		// numbers that are none
		plainFrame("07\n" + text), plainFrame("00\n" + text), plainFrame("-1\n" + text), plainFrame("-0\n" + text), plainFrame("+7\n" + text), plainFrame(" 7\n" + text), plainFrame("7 \n" + text), plainFrame("1000000001\n" + text), plainFrame("99999999999999999999\n" + text), plainFrame("\n" + text), plainFrame("x\n" + text), plainFrame(text),
		// no byte 10, and more of them
		plainFrame("7" + text), plainFrame("7 " + text), plainFrame("7"), plainFrame("7\n"), plainFrame("7\n\n" + text), plainFrame("7\r\n" + text), plainFrame("7\n" + text + "\n"), plainFrame("7\n" + text[:len(text)-1]), plainFrame("7\n" + text + text),
		// commands are no versions
		loggedAs(t, 7, "sweep"),
	}
	for _, d := range wrongDags(t) {
		list = append(list, baseOf(7, d))
	}
	return list
}

func TestP14BrokenDisks(t *testing.T) {
	logs := []string{"", loggedAs(t, 1, "branch a 1"), "?"}
	for i, base := range brokenBases(t) {
		if len(base) > impl.MaxBytes-2000 {
			continue
		}
		d := storeOf(base, logs[i%3])
		if _, _, code := views(t, d); code != impl.StBad {
			t.Errorf("%s is not broken: %d", short(base), code)
		}
		for _, power := range []int64{-1, 0, 9} {
			for _, a := range []impl.Act{{Kind: impl.AcLog, Cmd: cmdOf(t, "branch a 1")}, {Kind: impl.AcLog}, {Kind: impl.AcSave}, {Kind: impl.AcOpen}, {Kind: impl.AcCrash}} {
				a.Power = power
				if n, code := acts(t, d, a); code != impl.StBad || !sameDisk(n, d) {
					t.Errorf("%s on %s: %d", actShown(a), short(base), code)
				}
			}
			if _, code := acts(t, d, impl.Act{Kind: impl.AcCrash, Torn: -1, Power: power}); code != impl.StForm {
				t.Errorf("a crash that is none: %d", code)
			}
			if _, code := acts(t, d, impl.Act{Kind: 5, Power: power}); code != impl.StForm {
				t.Errorf("no act: %d", code)
			}
		}
	}
	// An empty file is there, and has no frame.
	if _, _, code := views(t, synced(filesOf("base="))); code != impl.StBad {
		t.Errorf("an empty base: %d", code)
	}
}

func TestP14GoesThroughTheLog(t *testing.T) {
	run := func(from int64, values ...string) string {
		var cmds []string
		for _, v := range values {
			cmds = append(cmds, "run main 1; put A1 "+v)
		}
		return loggedAs(t, from, cmds...)
	}
	sweep := "sweep\n"
	good := func(number int64, log string) string { return log + entry(number, sweep) }
	for _, c := range []struct {
		base   int64
		log    string
		number int64
		value  string
		good   bool
	}{
		{0, "", 0, "", true}, {0, run(1, "5"), 1, "5", true}, {0, run(1, "5", "6", "7"), 3, "7", true}, {4, run(5, "5", "6"), 6, "6", true},
		// Numbers that are not above are passed over, wherever they stand.
		{4, run(1, "1", "2", "3", "4", "5", "6"), 6, "6", true}, {4, run(4, "4"), 4, "", true}, {4, run(0, "4"), 4, "", true}, {4, run(5, "5") + run(1, "1") + run(5, "9") + run(6, "6"), 6, "6", true}, {0, run(0, "0") + run(1, "1") + run(1, "2"), 1, "1", true}, {0, run(0, "0"), 0, "", true}, {impl.MaxId, run(impl.MaxId, "1") + run(3, "3"), impl.MaxId, "", true}, {impl.MaxId - 1, run(impl.MaxId, "5"), impl.MaxId, "5", true},
		// A later number, and all behind it.
		{4, run(6, "6"), 4, "", false}, {4, run(5, "5") + run(7, "7"), 5, "5", false}, {4, run(6, "6") + run(5, "5"), 4, "", false}, {0, run(2, "2") + run(1, "1"), 0, "", false}, {4, run(impl.MaxId, "9"), 4, "", false}, {4, run(5, "5") + run(8, "8") + run(6, "6"), 5, "5", false},
		// Frames that are none of these, whatever number stands there.
		{0, run(1, "1") + entry(2, "") + run(2, "2"), 1, "1", false}, {0, run(1, "1") + entry(2, "fly\n") + run(2, "2"), 1, "1", false}, {0, run(1, "1") + entry(1, "fly\n") + run(2, "2"), 1, "1", false}, {0, run(1, "1") + entry(2, "sweep"), 1, "1", false}, {0, run(1, "1") + entry(2, "run main 01\n"), 1, "1", false}, {0, run(1, "1") + entry(2, "sweep\nsweep\n"), 1, "1", false}, {4, entry(3, "") + run(5, "5"), 4, "", false},
		{0, run(1, "1") + plainFrame("") + run(2, "2"), 1, "1", false}, {0, run(1, "1") + plainFrame("02\n"+sweep) + run(2, "2"), 1, "1", false}, {0, run(1, "1") + plainFrame("01\n"+sweep) + run(2, "2"), 1, "1", false}, {0, run(1, "1") + plainFrame("-1\n"+sweep) + run(2, "2"), 1, "1", false}, {0, run(1, "1") + plainFrame("+2\n"+sweep), 1, "1", false}, {0, run(1, "1") + plainFrame("2"+sweep), 1, "1", false}, {0, run(1, "1") + plainFrame("2 "+sweep), 1, "1", false}, {0, run(1, "1") + plainFrame("\n"+sweep), 1, "1", false}, {0, run(1, "1") + plainFrame("2\n\n"+sweep), 1, "1", false}, {0, run(1, "1") + plainFrame(sweep), 1, "1", false}, {impl.MaxId, entry(impl.MaxId+1, sweep), impl.MaxId, "", false}, {0, run(1, "1") + baseOf(2, impl.DagNew()), 1, "1", false},
		// Bytes that break off, and others.
		{0, run(1, "1") + run(2, "2")[:20], 1, "1", false}, {0, run(1, "1") + run(2, "2")[:8], 1, "1", false}, {0, run(1, "1") + run(2, "2")[:7], 1, "1", false}, {0, run(1, "1") + run(2, "2")[:1], 1, "1", false}, {0, "?", 0, "", false}, {0, run(1, "1") + "?", 1, "1", false}, {0, "?" + run(1, "1"), 0, "", false}, {0, run(1, "1") + "?" + run(2, "2"), 1, "1", false}, {0, run(1, "1") + strings.Repeat("\x00", 8), 1, "1", false}, {0, run(1, "1") + "\x00", 1, "1", false}, {0, run(1, "1")[:25], 0, "", false},
		// Commands that are refused count.
		{0, run(1, "1") + loggedAs(t, 2, "run main 99; put A1 2", "merge a b", "branch main 1", "run main 1; abort TRUE") + run(6, "6"), 6, "6", true}, {0, loggedAs(t, 1, "run none 1", "branch a 9"), 2, "", true}, {0, good(2, run(1, "1")), 2, "1", true},
	} {
		base := ""
		if c.base > 0 {
			base = baseOf(c.base, impl.DagNew())
		}
		d := storeOf(base, c.log)
		dag, number, code := views(t, d)
		s, _ := impl.SheetAt(dag, impl.HeadOf(dag, "main"))
		if code != impl.StOk || number != c.number || impl.SourceAt(s, ref(1, 1)) != c.value || plainStored(d).good != c.good {
			t.Errorf("base %d and %q: %s, %d, %d, want %d, %s", c.base, c.log, dagShown(dag), number, code, c.number, c.value)
		}
		// Whether the log is good is told by what the acts do.
		want := map[bool]int64{true: impl.StOk, false: impl.StTorn}[c.good]
		if _, code := acts(t, d, impl.Act{Kind: impl.AcSave, Power: -1}); code != want {
			t.Errorf("save with %q: %d", c.log, code)
		}
		if n, code := acts(t, d, impl.Act{Kind: impl.AcOpen, Power: -1}); code != impl.StOk || sameDisk(n, d) != c.good {
			t.Errorf("open with %q: %s, %d", c.log, diskShown(n), code)
		}
		if c.number == impl.MaxId {
			want = impl.StForm
		}
		if _, code := acts(t, d, impl.Act{Kind: impl.AcLog, Cmd: cmdOf(t, "sweep"), Power: -1}); code != want {
			t.Errorf("log with %q: %d", c.log, code)
		}
	}
}

func TestP14WrongDisksInEachFunction(t *testing.T) {
	for _, d := range wrongDisks() {
		if dag, number, code := impl.StoreView(d); code != impl.StDisk || number != 0 || !isNoDag(dag) {
			t.Errorf("StoreView(%s) = %s, %d, %d", diskShown(d), dagShown(dag), number, code)
		}
		for kind := range int64(6) {
			for _, power := range []int64{-1, 0} {
				a := impl.Act{Kind: kind, Cmd: cmdOf(t, "sweep"), Power: power}
				if n, code := impl.StoreDo(d, a); code != impl.StDisk || !isNoDisk(n) {
					t.Errorf("StoreDo(%s, %d) = %s, %d", diskShown(d), kind, diskShown(n), code)
				}
				if n, codes := impl.StorePlay(d, []impl.Act{a, a}); len(codes) != 0 || !isNoDisk(n) {
					t.Errorf("StorePlay(%s, %d) = %s, %v", diskShown(d), kind, diskShown(n), codes)
				}
			}
		}
		if n, codes := impl.StorePlay(d, nil); len(codes) != 0 || !isNoDisk(n) {
			t.Errorf("StorePlay(%s) = %s, %v", diskShown(d), diskShown(n), codes)
		}
	}
}

func TestP14ActsOfNoKind(t *testing.T) {
	for _, d := range []impl.Disk{{}, storeOf("", "?"), storeOf("?", ""), disk("a=1", "append a 2"), storeOf(baseOf(3, impl.DagNew()), loggedAs(t, 4, "sweep"))} {
		for _, kind := range []int64{0, 5, 9, -1, math.MaxInt64, math.MinInt64} {
			for _, power := range []int64{-1, 0, 3} {
				a := impl.Act{Kind: kind, Cmd: cmdOf(t, "sweep"), Sync: true, Power: power, Keep: []int64{9}, Torn: -1}
				if n, code := acts(t, d, a); code != impl.StForm || !sameDisk(n, d) {
					t.Errorf("%s: %s, %d", actShown(a), diskShown(n), code)
				}
			}
		}
	}
}

func TestP14Logs(t *testing.T) {
	first, next := loggedAs(t, 1, "branch a 1"), loggedAs(t, 2, "run main 1; put A1 5")
	a := impl.Act{Kind: impl.AcLog, Cmd: cmdOf(t, "run main 1; put A1 5"), Power: -1}
	op := impl.DOp{Kind: impl.DkAppend, Name: "log", Data: next}
	d := storeOf("", first)
	if n, code := acts(t, d, a); code != impl.StOk || !sameDisk(n, opened(d.Safe, []impl.DOp{op})) {
		t.Errorf("%s, %d", diskShown(n), code)
	}
	a.Sync = true
	if n, code := acts(t, d, a); code != impl.StOk || !sameDisk(n, storeOf("", first+next)) {
		t.Errorf("%s, %d", diskShown(n), code)
	}
	for power, want := range []struct {
		code int64
		disk impl.Disk
	}{{impl.StPower, d}, {impl.StPower, opened(d.Safe, []impl.DOp{op})}, {impl.StOk, storeOf("", first+next)}, {impl.StOk, storeOf("", first+next)}} {
		a.Power = int64(power)
		if n, code := acts(t, d, a); code != want.code || !sameDisk(n, want.disk) {
			t.Errorf("power %d: %s, %d", power, diskShown(n), code)
		}
	}
	a.Sync, a.Power = false, 1
	if _, code := acts(t, d, a); code != impl.StOk {
		t.Errorf("one step: %d", code)
	}
	a.Power = math.MinInt64
	if _, code := acts(t, d, a); code != impl.StOk {
		t.Errorf("all steps: %d", code)
	}
	// Where the base is, the number goes on from it; where there is no log, it comes.
	n, _ := acts(t, storeOf(baseOf(41, impl.DagNew()), ""), a)
	if data, _ := impl.ReadFile(n, "log"); data != loggedAs(t, 42, "run main 1; put A1 5") {
		t.Errorf("%q", data)
	}
	// A command that is refused is logged all the same.
	a.Cmd = cmdOf(t, "run none 77")
	if n, code := acts(t, d, a); code != impl.StOk || len(n.Ops) != 1 {
		t.Errorf("%s, %d", diskShown(n), code)
	}
}

func TestP14LogsThatAreRefused(t *testing.T) {
	right := impl.Act{Kind: impl.AcLog, Cmd: cmdOf(t, "sweep"), Power: -1}
	for _, d := range []impl.Disk{{}, storeOf("", "?"), storeOf(baseOf(impl.MaxId, impl.DagNew()), "?")} {
		for _, c := range wrongCmds(t) {
			for _, power := range []int64{-1, 0} {
				if n, code := acts(t, d, impl.Act{Kind: impl.AcLog, Cmd: c, Power: power, Sync: true}); code != impl.StForm || !sameDisk(n, d) {
					t.Errorf("%v: %d", c, code)
				}
			}
		}
	}
	for _, c := range []struct {
		base, log string
		code      int64
	}{
		{baseOf(impl.MaxId-1, impl.DagNew()), "", impl.StOk}, {baseOf(impl.MaxId, impl.DagNew()), "", impl.StForm}, {baseOf(impl.MaxId-1, impl.DagNew()), loggedAs(t, impl.MaxId, "sweep"), impl.StForm}, {baseOf(impl.MaxId-2, impl.DagNew()), loggedAs(t, impl.MaxId-1, "sweep"), impl.StOk}, {baseOf(impl.MaxId, impl.DagNew()), "?", impl.StForm}, {baseOf(impl.MaxId-1, impl.DagNew()), "?", impl.StTorn}, {"", "?", impl.StTorn}, {"", loggedAs(t, 2, "sweep"), impl.StTorn}, {"?", "?", impl.StBad},
	} {
		d := storeOf(c.base, c.log)
		n, code := acts(t, d, right)
		if code != c.code || code != impl.StOk && !sameDisk(n, d) {
			t.Errorf("base %s, log %q: %d, want %d", short(c.base), c.log, code, c.code)
		}
		if code == impl.StOk {
			if _, number, _ := views(t, n); number < impl.MaxId-1 {
				t.Errorf("number %d", number)
			}
		}
	}
}

// A stage is the disk behind so many steps of a save.
type stage struct {
	live string
	safe string
	ops  int
}

// namesShown tells a disk by its names and how many ops there are.
func namesShown(d impl.Disk) stage {
	names := func(list []impl.File) string {
		var parts []string
		for _, f := range list {
			parts = append(parts, f.Name)
		}
		return strings.Join(parts, " ")
	}
	return stage{live: names(d.Live), safe: names(d.Safe), ops: len(d.Ops)}
}

// savesAsTold asks for the disk behind each number of steps.
func savesAsTold(t *testing.T, d impl.Disk, a impl.Act, base string, stages []stage) {
	t.Helper()
	for power := range int64(len(stages) + 3) {
		a.Power = power
		n, code := acts(t, d, a)
		want, wantCode := stages[min(power, int64(len(stages)-1))], int64(impl.StPower)
		if power >= int64(len(stages)-1) {
			wantCode = impl.StOk
		}
		if code != wantCode || namesShown(n) != want {
			t.Errorf("%s on %s: %s, %d", actShown(a), diskShown(d), diskShown(n), code)
		}
		dag, number, view := views(t, n)
		if was, old, _ := views(t, d); view != impl.StOk || number != old || dagShown(dag) != dagShown(was) {
			t.Errorf("%s has changed the versions: %s, %d", actShown(a), dagShown(dag), number)
		}
		if data, _ := impl.ReadFile(n, "base"); code == impl.StOk && data != base {
			t.Errorf("%s leaves the base %q", actShown(a), data)
		}
	}
	for _, power := range []int64{-1, math.MinInt64, math.MaxInt64} {
		a.Power = power
		if n, code := acts(t, d, a); code != impl.StOk || namesShown(n) != stages[len(stages)-1] {
			t.Errorf("%s: %s, %d", actShown(a), diskShown(n), code)
		}
	}
}

func TestP14SavesStepByStep(t *testing.T) {
	log := loggedAs(t, 1, "run main 1; put A1 5", "branch a 2")
	dag := dagOf(t, "3 | a 2, main 2 | 1 | 2 1: A1 5")
	save := impl.Act{Kind: impl.AcSave}
	left := impl.File{Name: "base.new", Data: "left"}
	other := impl.File{Name: "other", Data: "1"}
	savesAsTold(t, impl.Disk{}, save, baseOf(0, impl.DagNew()), []stage{{"", "", 0}, {"", "", 0}, {"base.new", "", 1}, {"base", "", 2}, {"base", "base", 0}})
	savesAsTold(t, storeOf("", log), save, baseOf(2, dag), []stage{{"log", "log", 0}, {"log", "log", 0}, {"base.new log", "log", 1}, {"base log", "log", 2}, {"base log", "base log", 0}, {"base", "base log", 1}, {"base", "base", 0}})
	savesAsTold(t, storeOf("", log, left), save, baseOf(2, dag), []stage{{"base.new log", "base.new log", 0}, {"base.new log", "base.new log", 0}, {"log", "base.new log", 1}, {"log", "log", 0}, {"base.new log", "log", 1}, {"base log", "log", 2}, {"base log", "base log", 0}, {"base", "base log", 1}, {"base", "base", 0}})
	savesAsTold(t, storeOf(baseOf(2, dag), "", left, other), save, baseOf(2, dag), []stage{{"base base.new other", "base base.new other", 0}, {"base base.new other", "base base.new other", 0}, {"base other", "base base.new other", 1}, {"base other", "base other", 0}, {"base base.new other", "base other", 1}, {"base other", "base other", 2}, {"base other", "base other", 0}})
	// What was not synced is synced first.
	fresh := opened(nil, []impl.DOp{{Kind: impl.DkAppend, Name: "log", Data: log}})
	savesAsTold(t, fresh, save, baseOf(2, dag), []stage{{"log", "", 1}, {"log", "log", 0}, {"base.new log", "log", 1}, {"base log", "log", 2}, {"base log", "base log", 0}, {"base", "base log", 1}, {"base", "base", 0}})
	// A log of nothing is there, and goes.
	savesAsTold(t, disk("log=", ""), save, baseOf(0, impl.DagNew()), []stage{{"log", "log", 0}, {"log", "log", 0}, {"base.new log", "log", 1}, {"base log", "log", 2}, {"base log", "base log", 0}, {"base", "base log", 1}, {"base", "base", 0}})
	// Frames that were passed over make nothing anew.
	savesAsTold(t, storeOf(baseOf(2, dag), log), save, baseOf(2, dag), []stage{{"base log", "base log", 0}, {"base log", "base log", 0}, {"base base.new log", "base log", 1}, {"base log", "base log", 2}, {"base log", "base log", 0}, {"base", "base log", 1}, {"base", "base", 0}})
}

func TestP14OpensStepByStep(t *testing.T) {
	log := loggedAs(t, 1, "run main 1; put A1 5", "branch a 2")
	dag := dagOf(t, "3 | a 2, main 2 | 1 | 2 1: A1 5")
	open := impl.Act{Kind: impl.AcOpen}
	left := impl.File{Name: "base.new", Data: "left"}
	for _, torn := range []string{"?", plainFrame(""), loggedAs(t, 4, "sweep"), loggedAs(t, 3, "sweep")[:9]} {
		savesAsTold(t, storeOf("", log+torn), open, baseOf(2, dag), []stage{{"log", "log", 0}, {"log", "log", 0}, {"base.new log", "log", 1}, {"base log", "log", 2}, {"base log", "base log", 0}, {"base", "base log", 1}, {"base", "base", 0}})
		savesAsTold(t, storeOf("", log+torn, left), open, baseOf(2, dag), []stage{{"base.new log", "base.new log", 0}, {"base.new log", "base.new log", 0}, {"log", "base.new log", 1}, {"log", "log", 0}, {"base.new log", "log", 1}, {"base log", "log", 2}, {"base log", "base log", 0}, {"base", "base log", 1}, {"base", "base", 0}})
		savesAsTold(t, storeOf(baseOf(2, dag), torn), open, baseOf(2, dag), []stage{{"base log", "base log", 0}, {"base log", "base log", 0}, {"base base.new log", "base log", 1}, {"base log", "base log", 2}, {"base log", "base log", 0}, {"base", "base log", 1}, {"base", "base", 0}})
		for _, kind := range []int64{impl.AcSave, impl.AcLog} {
			d := storeOf("", log+torn, left)
			if n, code := acts(t, d, impl.Act{Kind: kind, Cmd: cmdOf(t, "sweep"), Power: 0}); code != impl.StTorn || !sameDisk(n, d) {
				t.Errorf("act %d: %d", kind, code)
			}
		}
	}
	// Where the log is good nothing is done, not even a step, whatever else lies there.
	for _, d := range []impl.Disk{{}, storeOf("", log), storeOf("", log, left), storeOf(baseOf(2, dag), log, left), storeOf(baseOf(2, dag), ""), disk("log=", ""), disk("base.new=left", "append base.new 1"), opened(nil, []impl.DOp{{Kind: impl.DkAppend, Name: "log", Data: log}})} {
		for _, power := range []int64{0, 1, -1} {
			if n, code := acts(t, d, impl.Act{Kind: impl.AcOpen, Power: power}); code != impl.StOk || !sameDisk(n, d) {
				t.Errorf("open of %s: %s, %d", diskShown(d), diskShown(n), code)
			}
		}
	}
}

func TestP14CrashesAndOpens(t *testing.T) {
	f := func(n int64) impl.DOp {
		return impl.DOp{Kind: impl.DkAppend, Name: "log", Data: loggedAs(t, n, "run main 1; put A1 "+strconv.FormatInt(n, 10))}
	}
	d := opened([]impl.File{{Name: "log", Data: f(1).Data}}, []impl.DOp{f(2), f(3), {Kind: impl.DkAppend, Name: "note", Data: "x"}})
	saved := func(n int64) impl.Dag {
		dag := impl.DagNew()
		for i := range n {
			dag, _ = plainObeyed(dag, cmdOf(t, "run main 1; put A1 "+strconv.FormatInt(i+1, 10)))
		}
		return dag
	}
	for _, c := range []struct {
		keep   []int64
		torn   int64
		power  int64
		code   int64
		number int64
		names  stage
	}{
		{nil, 0, -1, impl.StOk, 1, stage{"log", "log", 0}}, {nil, 0, 0, impl.StOk, 1, stage{"log", "log", 0}}, {[]int64{0}, 999, -1, impl.StOk, 2, stage{"log", "log", 0}}, {[]int64{0, 1, 2}, 999, 0, impl.StOk, 3, stage{"log note", "log note", 0}}, {[]int64{0, 1, 2}, 0, 0, impl.StOk, 3, stage{"log note", "log note", 0}}, {[]int64{0, 1}, 999, -1, impl.StOk, 3, stage{"log", "log", 0}},
		// A log that is not good goes.
		{[]int64{0}, 3, -1, impl.StOk, 1, stage{"base", "base", 0}}, {[]int64{0, 1}, 20, -1, impl.StOk, 2, stage{"base", "base", 0}}, {[]int64{1}, 999, -1, impl.StOk, 1, stage{"base", "base", 0}}, {[]int64{1, 2}, 999, -1, impl.StOk, 1, stage{"base note", "base note", 0}}, {[]int64{0}, 0, -1, impl.StOk, 1, stage{"log", "log", 0}},
		// Power is lost in the save behind it.
		{[]int64{1}, 999, 0, impl.StPower, 1, stage{"log", "log", 0}}, {[]int64{1}, 999, 1, impl.StPower, 1, stage{"log", "log", 0}}, {[]int64{1}, 999, 2, impl.StPower, 1, stage{"base.new log", "log", 1}}, {[]int64{1}, 999, 3, impl.StPower, 1, stage{"base log", "log", 2}}, {[]int64{1}, 999, 4, impl.StPower, 1, stage{"base log", "base log", 0}}, {[]int64{1}, 999, 5, impl.StPower, 1, stage{"base", "base log", 1}}, {[]int64{1}, 999, 6, impl.StOk, 1, stage{"base", "base", 0}},
	} {
		a := impl.Act{Kind: impl.AcCrash, Keep: c.keep, Torn: c.torn, Power: c.power}
		n, code := acts(t, d, a)
		dag, number, _ := views(t, n)
		if code != c.code || namesShown(n) != c.names || number != c.number || dagShown(dag) != dagShown(saved(c.number)) {
			t.Errorf("%s: %s, %d, number %d", actShown(a), diskShown(n), code, number)
		}
	}
	// What Crash refuses, whatever power there is; the disk stays, with its ops.
	for _, a := range []impl.Act{{Keep: []int64{3}}, {Keep: []int64{-1}}, {Keep: []int64{1, 0}}, {Keep: []int64{0, 0}}, {Torn: -1}, {Keep: []int64{0}, Torn: -1}, {Keep: []int64{0, 1, 2, 3}, Torn: 9}} {
		for _, power := range []int64{-1, 0, 9} {
			a.Kind, a.Power = impl.AcCrash, power
			if n, code := acts(t, d, a); code != impl.StForm || !sameDisk(n, d) {
				t.Errorf("%s: %s, %d", actShown(a), diskShown(n), code)
			}
		}
	}
	half := strings.Repeat("h", impl.MaxBytes*2/3)
	much := opened(nil, []impl.DOp{{Kind: impl.DkAppend, Name: "a", Data: half}, {Kind: impl.DkRemove, Name: "a"}, {Kind: impl.DkAppend, Name: "b", Data: half}})
	if n, code := acts(t, much, impl.Act{Kind: impl.AcCrash, Keep: []int64{0, 2}, Torn: impl.MaxBytes, Power: -1}); code != impl.StForm || !sameDisk(n, much) {
		t.Errorf("%s, %d", diskShown(n), code)
	}
}

func TestP14ADiskThatIsBrokenBehindItsCrash(t *testing.T) {
	right := baseOf(3, impl.DagNew())
	for _, power := range []int64{-1, 0, 9} {
		// It is not broken as long as what was done is seen.
		torn := opened(nil, []impl.DOp{{Kind: impl.DkAppend, Name: "base", Data: right[:20]}, {Kind: impl.DkAppend, Name: "base", Data: right[20:]}, {Kind: impl.DkAppend, Name: "log", Data: "?"}})
		if _, number, code := views(t, torn); code != impl.StOk || number != 3 {
			t.Errorf("%d, %d", number, code)
		}
		for _, keep := range [][]int64{{0}, {1}, {0, 2}} {
			n, code := acts(t, torn, impl.Act{Kind: impl.AcCrash, Keep: keep, Torn: 999, Power: power})
			if left, _ := impl.Crash(torn, keep, 999); code != impl.StBad || !sameDisk(n, left) {
				t.Errorf("%v: %s, %d", keep, diskShown(n), code)
			}
		}
		// It is broken, and is so no more behind its crash.
		whole := opened([]impl.File{{Name: "base", Data: right}}, opsOf("append base ?"))
		if n, code := acts(t, whole, impl.Act{Kind: impl.AcCrash, Power: power}); code != impl.StOk || !sameDisk(n, storeOf(right, "")) {
			t.Errorf("%s, %d", diskShown(n), code)
		}
		for _, kind := range []int64{impl.AcLog, impl.AcSave, impl.AcOpen} {
			if n, code := acts(t, whole, impl.Act{Kind: kind, Power: power}); code != impl.StBad || !sameDisk(n, whole) {
				t.Errorf("act %d: %s, %d", kind, diskShown(n), code)
			}
		}
	}
}

func TestP14StepsThatAreRefused(t *testing.T) {
	log := loggedAs(t, 1, "branch a 1")
	frame, next := baseOf(1, dagOf(t, "2 | a 1, main 1 | 1")), loggedAs(t, 2, "sweep")
	left := impl.File{Name: "base.new", Data: "left"}
	put := impl.Act{Kind: impl.AcLog, Cmd: cmdOf(t, "sweep"), Sync: true}
	save, open := impl.Act{Kind: impl.AcSave}, impl.Act{Kind: impl.AcOpen}
	room := impl.MaxBytes - len(log)
	for _, c := range []struct {
		what  string
		d     impl.Disk
		a     impl.Act
		full  bool
		power int64 // the steps ahead of the one that is refused
	}{
		{"MaxOps", opened([]impl.File{{Name: "log", Data: log}}, manyOps(impl.MaxOps)), put, true, 0}, {"MaxOps - 1", opened([]impl.File{{Name: "log", Data: log}}, manyOps(impl.MaxOps-1)), put, false, 0}, {"MaxFiles", storeOf("", "", manyFiles(impl.MaxFiles, 0)...), put, true, 0}, {"MaxFiles - 1", storeOf("", "", manyFiles(impl.MaxFiles-1, 0)...), put, false, 0}, {"MaxFiles with a log", storeOf("", log, manyFiles(impl.MaxFiles-1, 0)...), put, false, 0}, {"MaxBytes", storeOf("", log, manyFiles(1, room-len(next))...), put, false, 0}, {"more than MaxBytes", storeOf("", log, manyFiles(1, room-len(next)+1)...), put, true, 0},
		// A save begins with a Sync: Ops are none then.
		{"save at MaxOps", opened([]impl.File{{Name: "log", Data: log}}, manyOps(impl.MaxOps)), save, false, 0}, {"save at MaxFiles", storeOf("", log, manyFiles(impl.MaxFiles-1, 0)...), save, true, 1}, {"save at MaxFiles - 1", storeOf("", log, manyFiles(impl.MaxFiles-2, 0)...), save, false, 0}, {"save at MaxFiles with base.new", storeOf("", log, append(manyFiles(impl.MaxFiles-2, 0), left)...), save, false, 0}, {"save at MaxFiles with base", storeOf(frame, "", manyFiles(impl.MaxFiles-1, 0)...), save, true, 1},
		{"save at MaxBytes", storeOf("", log, manyFiles(1, room-len(frame))...), save, false, 0}, {"save at more than MaxBytes", storeOf("", log, manyFiles(1, room-len(frame)+1)...), save, true, 1}, {"save at MaxBytes with base.new", storeOf("", log, impl.File{Name: "base.new", Data: strings.Repeat("x", room)}), save, false, 0}, {"save at more than MaxBytes with base.new", storeOf("", log, append(manyFiles(1, room-len(frame)+1), left)...), save, true, 3},
		{"open at MaxFiles", storeOf("", log+"?", manyFiles(impl.MaxFiles-1, 0)...), open, true, 1}, {"open at more than MaxBytes", storeOf("", log+"?", manyFiles(1, room-len(frame))...), open, true, 1}, {"open at MaxBytes", storeOf("", log+"?", manyFiles(1, room-len(frame)-1)...), open, false, 0}, {"open of a log that is good", storeOf("", log, manyFiles(impl.MaxFiles-1, room)...), open, false, 0},
	} {
		for power := int64(-1); power < 12; power++ {
			c.a.Power = power
			n, code := acts(t, c.d, c.a)
			switch {
			case c.full && (power < 0 || power > c.power):
				if code != impl.StFull || !sameDisk(n, c.d) {
					t.Errorf("%s, power %d: %d", c.what, power, code)
				}
			case c.full:
				if code != impl.StPower {
					t.Errorf("%s, power %d: %d", c.what, power, code)
				}
			case power < 0 || power > 8:
				if code != impl.StOk {
					t.Errorf("%s, power %d: %d", c.what, power, code)
				}
			}
		}
		// Ops that stand there stay where it is refused.
		if fresh := opened(c.d.Safe, append(slices.Clone(c.d.Ops), impl.DOp{Kind: impl.DkRename, Name: c.d.Live[0].Name, To: c.d.Live[0].Name})); c.full && len(c.d.Ops) == 0 {
			c.a.Power = -1
			if n, code := acts(t, fresh, c.a); code != impl.StFull || len(n.Ops) != 1 {
				t.Errorf("%s: %s, %d", c.what, diskShown(n), code)
			}
		}
		// Behind a crash the disk stays as Crash left it.
		if c.a.Kind == impl.AcOpen && c.full {
			fresh := opened(c.d.Safe, append(opsOf("append f000 ; remove f000"), impl.DOp{Kind: impl.DkRename, Name: "log", To: "log"}))
			n, code := acts(t, fresh, impl.Act{Kind: impl.AcCrash, Keep: []int64{0}, Power: -1})
			if code != impl.StFull || !sameDisk(n, c.d) {
				t.Errorf("%s behind a crash: %s, %d", c.what, diskShown(n), code)
			}
		}
	}
}

func TestP14ActsInTwoPiecesAreTheSameActs(t *testing.T) {
	d := dice(142)
	for range 40 {
		start, _ := d.store(t)
		var list []impl.Act
		for range d.below(9) {
			list = append(list, d.act(t, start))
		}
		n, codes := impl.StorePlay(start, list)
		if len(codes) != len(list) || !impl.DiskOk(n) {
			t.Fatalf("%v of %d acts", codes, len(list))
		}
		for cut := range len(list) + 1 {
			half, first := impl.StorePlay(start, list[:cut])
			whole, rest := impl.StorePlay(half, list[cut:])
			if !sameDisk(whole, n) || !slices.Equal(append(first, rest...), codes) {
				t.Fatalf("cut at %d: %s, %v, %v", cut, diskShown(whole), first, rest)
			}
		}
		one, each := start, []int64(nil)
		for _, a := range list {
			next, code := acts(t, one, a)
			one, each = next, append(each, code)
		}
		if !sameDisk(one, n) || !slices.Equal(each, codes) {
			t.Fatalf("one by one: %s, %v, want %v", diskShown(one), each, codes)
		}
	}
	start := storeOf("", loggedAs(t, 1, "sweep"))
	if n, codes := impl.StorePlay(start, nil); len(codes) != 0 || !sameDisk(n, start) {
		t.Errorf("%s, %v", diskShown(n), codes)
	}
}

// store answers a right disk on which versions lie, or nearly, and whether it is broken.
func (d *dice) store(t *testing.T) (impl.Disk, bool) {
	t.Helper()
	now := impl.Disk{}
	for range d.below(6) {
		now, _ = impl.StoreDo(now, impl.Act{Kind: impl.AcLog, Cmd: d.cmd(t, now), Sync: d.below(2) == 0, Power: -1})
		if d.below(5) == 0 {
			now, _ = impl.StoreDo(now, impl.Act{Kind: impl.AcSave, Power: int64(d.below(9) - 1)})
		}
	}
	name := []string{"log", "log", "base.new", "other", "base"}[d.below(5)]
	switch d.below(6) {
	case 0:
		now, _ = impl.Do(now, impl.DOp{Kind: impl.DkAppend, Name: name, Data: []string{"?", "", "\x00\x00\x00\x00\x00\x00\x00\x00", loggedAs(t, int64(d.below(9)), "sweep")}[d.below(4)]})
	case 1:
		now, _ = impl.Do(now, impl.DOp{Kind: impl.DkRemove, Name: name})
	}
	_, _, code := impl.StoreView(now)
	return now, code == impl.StBad
}

// cmd answers a right command, of which many are done.
func (d *dice) cmd(t *testing.T, now impl.Disk) impl.Cmd {
	t.Helper()
	dag, _, code := impl.StoreView(now)
	if code != impl.StOk {
		return cmdOf(t, "sweep")
	}
	b, other := dag.Branches[d.below(len(dag.Branches))], dag.Branches[d.below(len(dag.Branches))]
	switch d.below(9) {
	case 0:
		return impl.Cmd{Kind: impl.CmBranch, Name: string(rune('a' + d.below(3))), Base: int64(1 + d.below(int(dag.Next)))}
	case 1, 2:
		return impl.Cmd{Kind: impl.CmMerge, Name: b.Name, Other: other.Name}
	case 3:
		return impl.Cmd{Kind: impl.CmSweep}
	}
	base := b.Head
	if d.below(4) == 0 {
		base = int64(1 + d.below(int(dag.Next)))
	}
	return impl.Cmd{Kind: impl.CmRun, Name: b.Name, Base: base, Macro: d.macro(t, 3)}
}

func (d *dice) act(t *testing.T, now impl.Disk) impl.Act {
	t.Helper()
	a := impl.Act{Kind: int64(1 + d.below(4)), Power: int64(d.below(11) - 2)}
	switch d.below(12) {
	case 0:
		a.Kind = int64(d.below(9) - 2)
	case 1, 2, 3:
		a.Kind = impl.AcLog
	}
	switch a.Kind {
	case impl.AcLog:
		a.Cmd, a.Sync = d.cmd(t, now), d.below(2) == 0
		if d.below(9) == 0 {
			a.Cmd = impl.Cmd{}
		}
	case impl.AcCrash:
		a.Keep = slices.DeleteFunc(allOf(now), func(int64) bool { return d.below(3) == 0 })
		a.Torn = int64(d.below(80))
		if d.below(9) == 0 {
			a.Torn -= 90
		}
	}
	return a
}

func TestP14ThrownActsAreHeldAgainstASecondStore(t *testing.T) {
	d := dice(14)
	codes := map[string]int{}
	for range 150 {
		now, _ := d.store(t)
		for range 25 {
			a := d.act(t, now)
			n, code := acts(t, now, a)
			codes[fmt.Sprintf("%d:%d", a.Kind, code)]++
			views(t, n)
			now = n
		}
	}
	for _, want := range []string{"1:0", "1:2", "1:3", "1:5", "1:6", "2:0", "2:2", "2:5", "2:6", "3:0", "3:2", "3:5", "4:0", "4:2", "4:3", "4:5", "5:3"} {
		if codes[want] < 3 {
			t.Errorf("%s: %v", want, codes)
		}
	}
}

// A walk goes through all that acts and losses of power may do to a disk that was empty.
type walk struct {
	t       *testing.T
	deepest map[string]int
	made    map[string]string
	crashes int
	lost    int
}

// A spot is a disk, the values of the commands that were logged on the way to it, how many of them were synced or saved, and how often power was lost.
type spot struct {
	disk   impl.Disk
	logged []int
	safe   int
	lost   int
}

func (w *walk) cmd(value int) impl.Cmd {
	return cmdOf(w.t, "run main 1; put A1 "+strconv.Itoa(value))
}

// madeBy answers the versions that these commands make.
func (w *walk) madeBy(values []int) string {
	key := fmt.Sprint(values)
	if w.made[key] == "" {
		dag := impl.DagNew()
		for _, v := range values {
			dag, _ = impl.Obeyed(dag, w.cmd(v))
		}
		w.made[key] = dagShown(dag)
	}
	return w.made[key]
}

// sees asks that the versions are what a beginning of the commands made, and answers how many.
func (w *walk) sees(d impl.Disk, s spot, what string) int {
	w.t.Helper()
	dag, number, code := impl.StoreView(d)
	if code != impl.StOk || !impl.DiskOk(d) || number < int64(s.safe) || number > int64(len(s.logged)) || dagShown(dag) != w.madeBy(s.logged[:number]) {
		w.t.Fatalf("%s on %s, logged %v, %d of them safe: %s, %d, %s", what, diskShown(s.disk), s.logged, s.safe, dagShown(dag), number, diskShown(d))
	}
	return int(number)
}

func (w *walk) from(s spot, deep int) {
	key := fmt.Sprint(diskShown(s.disk), s.logged, s.safe, s.lost)
	if w.deepest[key] > deep {
		return
	}
	w.deepest[key] = deep + 1
	if n := w.sees(s.disk, s, "nothing"); n != len(s.logged) {
		w.t.Fatalf("%d of %v are seen: %s", n, s.logged, diskShown(s.disk))
	}
	w.crash(s, deep)
	if deep == 0 {
		return
	}
	for _, sync := range []bool{false, true} {
		w.act(s, impl.Act{Kind: impl.AcLog, Cmd: w.cmd(100*s.lost + len(s.logged) + 1), Sync: sync}, deep)
	}
	w.act(s, impl.Act{Kind: impl.AcSave}, deep)
	w.act(s, impl.Act{Kind: impl.AcOpen}, deep)
}

// act loses power ahead of each of the steps of the act, and then of none.
func (w *walk) act(s spot, a impl.Act, deep int) {
	for code := int64(impl.StPower); code == impl.StPower; a.Power++ {
		var n impl.Disk
		n, code = impl.StoreDo(s.disk, a)
		next := spot{disk: n, logged: slices.Clone(s.logged), safe: s.safe, lost: s.lost}
		switch {
		case code != impl.StOk && code != impl.StPower || a.Power == 0:
			if !sameDisk(n, s.disk) {
				w.t.Fatalf("%s on %s: %s, %d", actShown(a), diskShown(s.disk), diskShown(n), code)
			}
		case a.Kind == impl.AcLog:
			next.logged = append(next.logged, 100*s.lost+len(s.logged)+1)
			if a.Sync && code == impl.StOk {
				next.safe = len(next.logged)
			}
		case !sameDisk(n, s.disk):
			next.safe = len(next.logged)
		}
		w.from(next, deep-1)
	}
}

// crash keeps each of what was not synced or not, tears it anywhere, and loses power again ahead of each step of the save behind it.
func (w *walk) crash(s spot, deep int) {
	for bits := range 1 << len(s.disk.Ops) {
		keep := someOf(s.disk, bits)
		torn := []int64{0, 3, 17, 999}
		if bits == 0 || s.disk.Ops[keep[len(keep)-1]].Kind != impl.DkAppend {
			torn = torn[:1]
		}
		for _, bytes := range torn {
			a := impl.Act{Kind: impl.AcCrash, Keep: keep, Torn: bytes}
			for code := int64(impl.StPower); code == impl.StPower; a.Power++ {
				var n impl.Disk
				n, code = impl.StoreDo(s.disk, a)
				left := w.sees(n, s, actShown(a))
				w.crashes++
				w.lost += len(s.logged) - left
				if deep > 0 {
					w.from(spot{disk: n, logged: s.logged[:left], safe: left, lost: s.lost + 1}, deep-1)
				}
			}
		}
	}
}

func TestP14BehindAnyLossOfPowerThereIsABeginningOfWhatWasLogged(t *testing.T) {
	w := walk{t: t, deepest: map[string]int{}, made: map[string]string{}}
	w.from(spot{}, 5)
	if w.crashes < 50000 || w.lost < 50000 || len(w.deepest) < 2000 {
		t.Errorf("%d crashes, %d commands lost, %d spots", w.crashes, w.lost, len(w.deepest))
	}
}

// The same of commands of each Kind, some of which are refused, with acts thrown from an empty disk on.
func TestP14ThrownLossesOfPower(t *testing.T) {
	d := dice(141)
	lost, kept, codes := 0, 0, map[string]int{}
	for range 120 {
		now := impl.Disk{}
		var logged []impl.Cmd
		safe := 0
		for range 25 {
			a := d.act(t, now)
			if a.Kind == impl.AcLog {
				a.Power = int64(d.below(4) - 1)
			}
			n, code := impl.StoreDo(now, a)
			codes[fmt.Sprintf("%d:%d", a.Kind, code)]++
			dag, number, view := impl.StoreView(n)
			done := !sameDisk(n, now)
			switch {
			case a.Kind == impl.AcCrash && code != impl.StForm:
				if number < int64(safe) || number > int64(len(logged)) {
					t.Fatalf("%s on %s leaves %d of %d commands, %d are safe", actShown(a), diskShown(now), number, len(logged), safe)
				}
				lost, kept = lost+len(logged)-int(number), kept+int(number)-safe
				logged, safe = logged[:number], int(number)
			case a.Kind == impl.AcLog && done:
				logged = append(logged, a.Cmd)
			}
			if a.Kind != impl.AcLog && done || a.Kind == impl.AcLog && a.Sync && code == impl.StOk {
				safe = len(logged)
			}
			want := impl.DagNew()
			for _, c := range logged {
				want, _ = plainObeyed(want, c)
			}
			if view != impl.StOk || number != int64(len(logged)) || dagShown(dag) != dagShown(want) || !impl.DiskOk(n) {
				t.Fatalf("%s on %s: %s, %d, want %s, %d", actShown(a), diskShown(now), dagShown(dag), number, dagShown(want), len(logged))
			}
			now = n
		}
	}
	if lost < 100 || kept < 20 || codes["1:0"] < 300 || codes["2:0"] < 100 || codes["2:5"] < 50 || codes["4:0"] < 200 || codes["4:5"] < 20 || codes["1:6"] < 5 {
		t.Errorf("%d lost, %d kept that were not safe, codes %v", lost, kept, codes)
	}
}

func TestP14ArgumentsAreNotWrittenAndAnswersAreNew(t *testing.T) {
	log := loggedAs(t, 1, "run main 1; put A1 5", "branch a 2", "run a 2; put B1 6", "run main 2; put C1 7", "merge a main")
	disks := []impl.Disk{
		{}, storeOf("", log), storeOf("", log+"?", impl.File{Name: "base.new", Data: "left"}), storeOf(baseOf(2, dagOf(t, manySides)), ""), storeOf("?", log), storeOf(baseOf(2, dagOf(t, manySides)), "", manyFiles(impl.MaxFiles-1, 0)...),
		opened([]impl.File{{Name: "log", Data: log}}, []impl.DOp{{Kind: impl.DkAppend, Name: "log", Data: "?"}}), opened(nil, []impl.DOp{{Kind: impl.DkAppend, Name: "log", Data: log}, {Kind: impl.DkAppend, Name: "other", Data: "1"}}), wrongDisks()[0], wrongDisks()[60],
	}
	for _, plain := range disks {
		d := roomyDisk(plain)
		if slices.Equal(d.Live, d.Safe) && len(d.Live) > 0 {
			d.Safe = d.Live
		}
		keep := append(allOf(d), 77, 77)
		m := append(macroOf(t, "put A1 5; set B1 A1"), impl.Stmt{Text: "spare"}, impl.Stmt{Text: "spare"})
		c := impl.Cmd{Kind: impl.CmRun, Name: "main", Base: 1, Macro: m[:2]}
		var list []impl.Act
		for kind := range int64(6) {
			for _, power := range []int64{-1, 0, 1, 2, 3} {
				list = append(list, impl.Act{Kind: kind, Cmd: c, Sync: power == 1, Power: power, Keep: keep[:len(d.Ops)], Torn: 9})
			}
		}
		list = append(list, impl.Act{Kind: impl.AcCrash, Keep: keep[:len(d.Ops)+1]}, impl.Act{Kind: 66}, impl.Act{Kind: 66})
		acted := list[:len(list)-2]
		before, stmts, kept, told := diskWithRoom(d), slices.Clone(m), slices.Clone(keep), fmt.Sprint(list)
		first := ""
		for range 2 {
			answers := ""
			for _, a := range acted {
				n, code := impl.StoreDo(d, a)
				answers += diskShown(n) + fmt.Sprint(code)
				overwriteDisk(t, n)
			}
			n, codes := impl.StorePlay(d, acted)
			answers += diskShown(n) + fmt.Sprint(codes)
			overwriteDisk(t, n)
			same, _ := impl.StorePlay(d, nil)
			overwriteDisk(t, same)
			dag, number, code := impl.StoreView(d)
			answers += fmt.Sprint(dagShown(dag), number, code)
			overwrite(t, dag)
			if diskWithRoom(d) != before || !slices.Equal(m, stmts) || !slices.Equal(keep, kept) || fmt.Sprint(list) != told {
				t.Fatalf("written: %s, %v, %v, %v", diskWithRoom(d), m, keep, list)
			}
			if first != "" && first != answers {
				t.Fatalf("%s, and then %s", first, answers)
			}
			first = answers
		}
	}
	dag := roomy(dagOf(t, manySides))
	dag.Versions[6].Sheet, dag.Versions[6].Ups = dag.Versions[4].Sheet, dag.Versions[3].Ups
	before := withRoom(dag)
	for _, lines := range []string{"run main 5; put A1 1", "run main 4", "branch e 1", "branch a 1", "merge main a", "merge b main", "merge c main", "sweep"} {
		c := cmdOf(t, lines)
		text := impl.CmdText(c)
		read, _ := impl.ReadCmd(text)
		for i := range read.Macro {
			read.Macro[i] = impl.Stmt{}
		}
		n, _ := impl.Obeyed(dag, c)
		overwrite(t, n)
		c.Name = ""
		n, _ = impl.Obeyed(dag, c)
		overwrite(t, n)
		if withRoom(dag) != before || impl.CmdText(cmdOf(t, lines)) != text {
			t.Fatalf("written by %s: %s", lines, withRoom(dag))
		}
	}
}
