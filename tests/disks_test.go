package tests

import (
	"fmt"
	"maps"
	"math"
	"slices"
	"strings"
	"testing"

	"loop.example/g00267/impl"
)

// filesOf answers, right or not, the files of "a=xy, b=" and the like.
func filesOf(list string) []impl.File {
	var files []impl.File
	for _, part := range strings.Split(list, ", ") {
		if name, data, ok := strings.Cut(part, "="); ok {
			files = append(files, impl.File{Name: name, Data: data})
		}
	}
	return files
}

// opsOf answers the ops of "append a xy; rename a b; remove b" and the like.
func opsOf(lines string) []impl.DOp {
	var ops []impl.DOp
	for _, line := range strings.Split(lines, "; ") {
		word, rest, _ := strings.Cut(line, " ")
		name, behind, _ := strings.Cut(rest, " ")
		switch word {
		case "append":
			ops = append(ops, impl.DOp{Kind: impl.DkAppend, Name: name, Data: behind})
		case "rename":
			ops = append(ops, impl.DOp{Kind: impl.DkRename, Name: name, To: behind})
		case "remove":
			ops = append(ops, impl.DOp{Kind: impl.DkRemove, Name: name})
		}
	}
	return ops
}

// disk answers the disk on which the ops were done since it was synced.
func disk(safe string, ops string) impl.Disk { return opened(filesOf(safe), opsOf(ops)) }

func opened(safe []impl.File, ops []impl.DOp) impl.Disk {
	files := plainFiles(safe)
	for _, op := range ops {
		plainOn(files, op)
	}
	return impl.Disk{Live: plainList(files), Safe: safe, Ops: ops}
}

func plainFiles(list []impl.File) map[string]string {
	files := map[string]string{}
	for _, f := range list {
		files[f.Name] = f.Data
	}
	return files
}

func plainList(files map[string]string) []impl.File {
	var list []impl.File
	for _, name := range slices.Sorted(maps.Keys(files)) {
		list = append(list, impl.File{Name: name, Data: files[name]})
	}
	return list
}

// plainOn answers whether the op found its file; it does nothing where it did not.
func plainOn(files map[string]string, op impl.DOp) bool {
	data, ok := files[op.Name]
	if !ok && op.Kind != impl.DkAppend {
		return false
	}
	delete(files, op.Name)
	switch op.Kind {
	case impl.DkAppend:
		files[op.Name] = data + op.Data
	case impl.DkRename:
		files[op.To] = data
	}
	return true
}

func plainFits(files map[string]string) bool {
	return len(files) <= impl.MaxFiles && len(strings.Join(slices.Collect(maps.Values(files)), "")) <= impl.MaxBytes
}

func plainFormed(op impl.DOp) bool {
	name, to := len(op.Name) >= 1 && len(op.Name) <= 100, len(op.To) >= 1 && len(op.To) <= 100
	return name && (op.Kind == impl.DkAppend && op.To == "" || op.Kind == impl.DkRename && to && op.Data == "" || op.Kind == impl.DkRemove && op.To == "" && op.Data == "")
}

func plainDiskOk(d impl.Disk) bool {
	for _, list := range [][]impl.File{d.Live, d.Safe} {
		for i, f := range list {
			if len(f.Name) == 0 || len(f.Name) > 100 || i > 0 && list[i-1].Name >= f.Name {
				return false
			}
		}
		if !plainFits(plainFiles(list)) {
			return false
		}
	}
	files := plainFiles(d.Safe)
	for _, op := range d.Ops {
		if !plainFormed(op) || !plainOn(files, op) || !plainFits(files) {
			return false
		}
	}
	return len(d.Ops) <= impl.MaxOps && slices.Equal(plainList(files), d.Live)
}

// plainDo takes a right disk.
func plainDo(d impl.Disk, op impl.DOp) (impl.Disk, int64) {
	files := plainFiles(d.Live)
	switch {
	case !plainFormed(op):
		return d, impl.DkForm
	case !plainOn(files, op):
		return d, impl.DkNone
	case len(d.Ops) == impl.MaxOps || !plainFits(files):
		return d, impl.DkFull
	}
	return impl.Disk{Live: plainList(files), Safe: d.Safe, Ops: append(slices.Clone(d.Ops), op)}, impl.DkOk
}

// plainCrash takes a right disk.
func plainCrash(d impl.Disk, keep []int64, torn int64) (impl.Disk, bool) {
	files := plainFiles(d.Safe)
	for i, op := range d.Ops {
		switch slices.Index(keep, int64(i)) {
		case -1:
			continue
		case len(keep) - 1:
			op.Data = op.Data[:min(int64(len(op.Data)), max(0, torn))]
		}
		plainOn(files, op)
	}
	for i, place := range keep {
		if place < 0 || place >= int64(len(d.Ops)) || i > 0 && keep[i-1] >= place {
			return impl.Disk{}, false
		}
	}
	if torn < 0 || !plainFits(files) {
		return impl.Disk{}, false
	}
	return impl.Disk{Live: plainList(files), Safe: plainList(files)}, true
}

// diskShown is the same where the disks are.
func diskShown(d impl.Disk) string {
	return fmt.Sprintf("live %s, safe %s, ops %s", filesShown(d.Live), filesShown(d.Safe), opsShown(d.Ops))
}

func filesShown(list []impl.File) string {
	var parts []string
	for _, f := range list {
		parts = append(parts, fmt.Sprintf("%q=%s", f.Name, short(f.Data)))
	}
	return "{" + strings.Join(parts, ", ") + "}"
}

func opsShown(ops []impl.DOp) string {
	var parts []string
	for _, op := range ops {
		parts = append(parts, fmt.Sprintf("%d %q %q %s", op.Kind, op.Name, op.To, short(op.Data)))
	}
	return "[" + strings.Join(parts, "; ") + "]"
}

// short tells long data by its length, its ends and a sum over its bytes.
func short(data string) string {
	if len(data) <= 300 {
		return fmt.Sprintf("%q", data)
	}
	sum := 0
	for i := range len(data) {
		sum = (sum*31 + int(data[i])) % 1000000007
	}
	return fmt.Sprintf("%d bytes %q..%q %d", len(data), data[:9], data[len(data)-9:], sum)
}

func sameDisk(a impl.Disk, b impl.Disk) bool {
	return slices.Equal(a.Live, b.Live) && slices.Equal(a.Safe, b.Safe) && slices.Equal(a.Ops, b.Ops)
}

func isNoDisk(d impl.Disk) bool { return len(d.Live) == 0 && len(d.Safe) == 0 && len(d.Ops) == 0 }

// manyFiles answers that many files, all of the bytes in the first one.
func manyFiles(many int, bytes int) []impl.File {
	var files []impl.File
	for i := range many {
		files = append(files, impl.File{Name: fmt.Sprintf("f%03d", i)})
	}
	if many > 0 {
		files[0].Data = strings.Repeat("x", bytes)
	}
	return files
}

// manyOps answers that many ops: a file comes, grows, goes by another name and is removed, again and again.
func manyOps(many int) []impl.DOp {
	var ops []impl.DOp
	for len(ops) < many {
		ops = append(ops, opsOf("append z 1; append z 2; rename z y; append x ; remove y; remove x")...)
	}
	return ops[:many]
}

func synced(files []impl.File) impl.Disk { return impl.Disk{Live: files, Safe: files} }

func rightDisks() []impl.Disk {
	long := strings.Repeat("n", 100)
	list := []impl.Disk{
		{}, disk("a=1, b=, c=xyz", ""), disk("", "append a 1"), disk("", "append a "), disk("a=1", "append a 2; append b 3; append a 4"), disk("a=1, b=2", "rename a b"), disk("a=1, b=2", "rename a a"), disk("a=1, b=2", "rename a c; rename b a; rename c b"), disk("a=1", "remove a"), disk("a=1", "remove a; append a 2"), disk("a=1", "remove a; append b 2; rename b a; remove a"), disk("a=1, a.new=2, b=3", "append a.new 4; rename a.new a; append z 5"), disk("log=ab", "append log cd; append b x"),
		synced([]impl.File{{Name: "\x00"}, {Name: "\n", Data: "\x00\xff"}, {Name: " "}, {Name: "A"}, {Name: "a"}, {Name: "a "}, {Name: "aa"}, {Name: "ä", Data: "ä"}, {Name: "\xff"}}), synced([]impl.File{{Name: long[:99]}, {Name: long}}), opened(nil, []impl.DOp{{Kind: impl.DkAppend, Name: long, Data: "1"}, {Kind: impl.DkRename, Name: long, To: "o" + long[1:]}, {Kind: impl.DkAppend, Name: long}, {Kind: impl.DkRemove, Name: long}}),
		synced(manyFiles(impl.MaxFiles-1, 5)), synced(manyFiles(impl.MaxFiles, 5)), synced(manyFiles(1, impl.MaxBytes)), synced(manyFiles(2, impl.MaxBytes-1)), synced(manyFiles(impl.MaxFiles, impl.MaxBytes)),
		opened(manyFiles(impl.MaxFiles-1, 5), opsOf("append z 1")), opened(manyFiles(impl.MaxFiles, 5), opsOf("remove f001; append z 1; rename z f000; append y 2")), opened(manyFiles(1, impl.MaxBytes-1), opsOf("append f000 1")), opened(manyFiles(2, impl.MaxBytes), opsOf("append f001 ; rename f001 f000; append g 12345; remove f000")),
		opened(nil, manyOps(impl.MaxOps-1)), opened(nil, manyOps(impl.MaxOps)), opened(filesOf("x=5, y=6, z=7"), manyOps(impl.MaxOps)),
	}
	half := strings.Repeat("h", impl.MaxBytes/2)
	// In Live, and in Safe alone.
	full := []impl.DOp{{Kind: impl.DkAppend, Name: "a", Data: half}, {Kind: impl.DkAppend, Name: "b", Data: half}}
	return append(list, opened(nil, full), opened(filesOf("c="), full), opened(manyFiles(3, impl.MaxBytes), opsOf("remove f000")), opened(manyFiles(impl.MaxFiles, 0), opsOf("remove f000")))
}

func wrongDisks() []impl.Disk {
	long := strings.Repeat("n", 101)
	var list []impl.Disk
	for _, files := range [][]impl.File{
		manyFiles(impl.MaxFiles+1, 0), manyFiles(500, 0), manyFiles(1, impl.MaxBytes+1), manyFiles(2, impl.MaxBytes+1), {{Name: "a", Data: strings.Repeat("x", impl.MaxBytes)}, {Name: "b", Data: "1"}},
		{{Name: ""}}, {{Name: ""}, {Name: "a"}}, {{Name: long}}, {{Name: "a"}, {Name: long}}, {{Name: "b"}, {Name: "a"}}, {{Name: "a"}, {Name: "a"}}, {{Name: "a", Data: "1"}, {Name: "a", Data: "2"}}, {{Name: "aa"}, {Name: "a"}}, {{Name: "a"}, {Name: "c"}, {Name: "b"}}, {{Name: "a"}, {Name: "c"}, {Name: "a"}}, {{Name: "a"}, {Name: "A"}}, {{Name: "\xff"}, {Name: "a"}},
	} {
		list = append(list, synced(files), impl.Disk{Live: files}, impl.Disk{Safe: files}, opened(files, opsOf("append b 1")))
	}
	// Too many in Safe alone.
	for _, files := range [][]impl.File{manyFiles(impl.MaxFiles+1, 0), manyFiles(1, impl.MaxBytes+1), {{Name: "f000"}, {Name: ""}}, {{Name: "f000"}, {Name: "f000"}}} {
		list = append(list, impl.Disk{Safe: files, Live: files[1:], Ops: opsOf("remove f000")})
	}
	// Ops that do not make Live of Safe.
	for _, d := range []impl.Disk{
		{Live: filesOf("a=1"), Safe: nil}, {Live: nil, Safe: filesOf("a=1")}, {Live: filesOf("a=1"), Safe: filesOf("a=2")}, {Live: filesOf("a=1"), Safe: filesOf("b=1")}, {Live: filesOf("a=, b="), Safe: filesOf("a=")}, {Live: filesOf("a="), Safe: filesOf("a=, b=")},
		{Live: filesOf("a=1"), Ops: opsOf("append a 2")}, {Live: filesOf("a=1"), Ops: opsOf("append a ")}, {Ops: opsOf("append a ")}, {Live: filesOf("a=12"), Safe: filesOf("a=1"), Ops: opsOf("append a 2; append a 2")}, {Live: filesOf("a=21"), Safe: filesOf("a=1"), Ops: opsOf("append a 2")}, {Live: filesOf("a=1, b=1"), Safe: filesOf("a=1"), Ops: opsOf("rename a b")}, {Live: filesOf("b=2"), Safe: filesOf("a=1, b=2"), Ops: opsOf("rename a b")}, {Live: filesOf("a=1"), Safe: filesOf("a=1"), Ops: opsOf("remove a")}, {Safe: filesOf("a=1"), Ops: opsOf("append a 2")}, {Live: filesOf("a=1"), Safe: filesOf("a=1"), Ops: opsOf("append b ")},
	} {
		list = append(list, d)
	}
	// Ops that find no file, even where it would be there later on or was there ahead.
	for _, ops := range []string{"remove b", "rename b c", "rename b b", "rename b a", "remove a; remove a", "rename a c; remove a", "rename a c; rename a c", "remove b; append b 1", "append b 1; remove b; rename b c", "append a 1; remove c"} {
		list = append(list, disk("a=1", ops))
	}
	// Ops that are not of their form.
	for _, op := range wrongOps() {
		list = append(list, opened(filesOf("a=1, b=2"), []impl.DOp{op}), opened(filesOf("a=1, b=2"), append(append(opsOf("append a 1"), op), opsOf("append a 2")...)), impl.Disk{Ops: []impl.DOp{op}}, impl.Disk{Live: filesOf("a=1, b=2"), Safe: filesOf("a=1, b=2"), Ops: []impl.DOp{op}})
	}
	// Too many of them; too many files or bytes on the way alone.
	return append(list, opened(nil, manyOps(impl.MaxOps+1)), opened(filesOf("z=1"), manyOps(1000)),
		opened(manyFiles(impl.MaxFiles, 0), opsOf("append z 1; remove z")), opened(manyFiles(impl.MaxFiles, 0), opsOf("append z 1; rename z f000")), opened(manyFiles(1, impl.MaxBytes), opsOf("append z 1; remove z")), opened(manyFiles(1, impl.MaxBytes), opsOf("append z 1; remove f000")), opened(manyFiles(2, impl.MaxBytes), opsOf("append f000 1; rename f001 f000")))
}

// wrongOps answers ops that are not of their form, whatever files there are.
func wrongOps() []impl.DOp {
	long := strings.Repeat("n", 101)
	list := []impl.DOp{{}, {Name: "a"}, {Name: "a", To: "b"}, {Name: "a", Data: "1"}}
	for _, kind := range []int64{0, 4, 5, -1, 99, math.MaxInt64, math.MinInt64} {
		list = append(list, impl.DOp{Kind: kind}, impl.DOp{Kind: kind, Name: "a"}, impl.DOp{Kind: kind, Name: "a", To: "b"}, impl.DOp{Kind: kind, Name: "a", Data: "1"})
	}
	for _, name := range []string{"", long} {
		list = append(list, impl.DOp{Kind: impl.DkAppend, Name: name}, impl.DOp{Kind: impl.DkAppend, Name: name, Data: "1"}, impl.DOp{Kind: impl.DkRemove, Name: name}, impl.DOp{Kind: impl.DkRename, Name: name, To: "b"}, impl.DOp{Kind: impl.DkRename, Name: "a", To: name}, impl.DOp{Kind: impl.DkRename, Name: name, To: name})
	}
	return append(list, impl.DOp{Kind: impl.DkAppend, Name: "a", To: "b"}, impl.DOp{Kind: impl.DkAppend, Name: "a", To: "a", Data: "1"}, impl.DOp{Kind: impl.DkAppend, Name: "a", To: long}, impl.DOp{Kind: impl.DkRemove, Name: "a", To: "b"}, impl.DOp{Kind: impl.DkRemove, Name: "a", To: "a"}, impl.DOp{Kind: impl.DkRemove, Name: "a", Data: "1"}, impl.DOp{Kind: impl.DkRename, Name: "a", To: "b", Data: "1"}, impl.DOp{Kind: impl.DkRename, Name: "a", To: "a", Data: "1"}, impl.DOp{Kind: impl.DkRename, Name: "a", Data: "b"})
}

func TestP13RightDisks(t *testing.T) {
	for _, d := range rightDisks() {
		if !impl.DiskOk(d) || !plainDiskOk(d) {
			t.Errorf("not right: %s", diskShown(d))
		}
	}
}

func TestP13WrongDisksInEachFunction(t *testing.T) {
	for _, d := range wrongDisks() {
		if impl.DiskOk(d) || plainDiskOk(d) {
			t.Errorf("right: %s", diskShown(d))
		}
		for _, op := range append(opsOf("append a 1; append z 1; rename a b; rename a a; remove a; remove f001"), wrongOps()[:9]...) {
			if n, code := impl.Do(d, op); code != impl.DkDisk || !isNoDisk(n) {
				t.Errorf("Do(%s, %v) = %s, %d", diskShown(d), op, diskShown(n), code)
			}
		}
		if n := impl.Sync(d); !isNoDisk(n) {
			t.Errorf("Sync(%s) = %s", diskShown(d), diskShown(n))
		}
		for _, keep := range [][]int64{nil, {0}, {1, 0}} {
			if n, ok := impl.Crash(d, keep, 9); ok || !isNoDisk(n) {
				t.Errorf("Crash(%s, %v) = %s, %v", diskShown(d), keep, diskShown(n), ok)
			}
		}
		for _, name := range []string{"a", "b", "f000", "f001", "", "none"} {
			if data, ok := impl.ReadFile(d, name); ok || data != "" {
				t.Errorf("ReadFile(%s, %q) = %q, %v", diskShown(d), name, data, ok)
			}
			if n, code := impl.Replace(d, name, "1"); code != impl.DkDisk || !isNoDisk(n) {
				t.Errorf("Replace(%s, %q) = %s, %d", diskShown(d), name, diskShown(n), code)
			}
		}
	}
	// The other name is there.
	d := impl.Disk{Live: filesOf("a=1, a.new=2"), Safe: filesOf("a=1")}
	if n, code := impl.Replace(d, "a", "3"); code != impl.DkDisk || !isNoDisk(n) {
		t.Errorf("%s, %d", diskShown(n), code)
	}
}

// does asks for all that the promise says of an op on a right disk, and answers what came of it.
func does(t *testing.T, d impl.Disk, op impl.DOp) (impl.Disk, int64) {
	t.Helper()
	n, code := impl.Do(d, op)
	if want, wantCode := plainDo(d, op); code != wantCode || !sameDisk(n, want) {
		t.Fatalf("Do(%s, %s) = %s, %d, want %s, %d", diskShown(d), opsShown([]impl.DOp{op}), diskShown(n), code, diskShown(want), wantCode)
	}
	if !impl.DiskOk(n) {
		t.Fatalf("Do(%s, %s) is not right: %s", diskShown(d), opsShown([]impl.DOp{op}), diskShown(n))
	}
	if code != impl.DkOk {
		return n, code
	}
	// What is done is seen.
	was, _ := impl.ReadFile(d, op.Name)
	now, ok := impl.ReadFile(n, op.Name)
	switch op.Kind {
	case impl.DkAppend:
		if !ok || now != was+op.Data {
			t.Fatalf("appended, and %s, %v is seen", short(now), ok)
		}
	case impl.DkRename:
		if to, found := impl.ReadFile(n, op.To); !found || to != was || ok && op.Name != op.To {
			t.Fatalf("renamed, and %s, %v is seen", short(to), found)
		}
	case impl.DkRemove:
		if ok {
			t.Fatalf("removed, and %s is seen", short(now))
		}
	}
	return n, code
}

func TestP13DoesEachKind(t *testing.T) {
	base := disk("a=1, b=2", "append b 3")
	for _, c := range []struct {
		op   string
		code int64
		live string
	}{
		{"append a 9", impl.DkOk, "a=19, b=23"}, {"append c 9", impl.DkOk, "a=1, b=23, c=9"}, {"append 0 9", impl.DkOk, "0=9, a=1, b=23"}, {"append aa 9", impl.DkOk, "a=1, aa=9, b=23"}, {"append a ", impl.DkOk, "a=1, b=23"}, {"append c ", impl.DkOk, "a=1, b=23, c="},
		{"rename a c", impl.DkOk, "b=23, c=1"}, {"rename a 0", impl.DkOk, "0=1, b=23"}, {"rename a b", impl.DkOk, "b=1"}, {"rename b a", impl.DkOk, "a=23"}, {"rename a a", impl.DkOk, "a=1, b=23"}, {"rename c a", impl.DkNone, ""}, {"rename c d", impl.DkNone, ""}, {"rename c c", impl.DkNone, ""},
		{"remove a", impl.DkOk, "b=23"}, {"remove b", impl.DkOk, "a=1"}, {"remove c", impl.DkNone, ""}, {"remove A", impl.DkNone, ""}, {"remove aa", impl.DkNone, ""},
	} {
		n, code := does(t, base, opsOf(c.op)[0])
		if code != c.code || code == impl.DkOk && (!slices.Equal(n.Live, filesOf(c.live)) || len(n.Ops) != 2) {
			t.Errorf("%s: %s, %d", c.op, diskShown(n), code)
		}
	}
	last, _ := does(t, disk("a=1", ""), opsOf("remove a")[0])
	if len(last.Live) != 0 || len(last.Safe) != 1 {
		t.Errorf("the last file: %s", diskShown(last))
	}
}

func TestP13OpsThatAreNotOfTheirForm(t *testing.T) {
	full := opened(manyFiles(impl.MaxFiles, impl.MaxBytes), opsOf("rename f001 a"))
	for _, d := range []impl.Disk{{}, disk("a=1, b=2", "append a 3"), full, opened(filesOf("a=1"), manyOps(impl.MaxOps))} {
		for _, op := range wrongOps() {
			if n, code := does(t, d, op); code != impl.DkForm || !sameDisk(n, d) {
				t.Errorf("Do(%s, %v): %d", diskShown(d), op, code)
			}
		}
	}
	long := strings.Repeat("n", 100)
	for _, name := range []string{"a", long[:99], long, "\x00", "\n", "a b", "ä", "\xff", "../a", "/"} {
		d, code := does(t, impl.Disk{}, impl.DOp{Kind: impl.DkAppend, Name: name, Data: "1"})
		e, codeThen := does(t, d, impl.DOp{Kind: impl.DkRename, Name: name, To: "m" + name[1:]})
		if f, last := does(t, e, impl.DOp{Kind: impl.DkRemove, Name: "m" + name[1:]}); code != impl.DkOk || codeThen != impl.DkOk || last != impl.DkOk || len(f.Live) != 0 {
			t.Errorf("%q: %d, %d, %d", name, code, codeThen, last)
		}
	}
}

func TestP13NoRoomOnTheDisk(t *testing.T) {
	files, bytes := synced(manyFiles(impl.MaxFiles, 7)), synced(manyFiles(2, impl.MaxBytes))
	ops := opened(filesOf("a=1"), manyOps(impl.MaxOps))
	for _, c := range []struct {
		d    impl.Disk
		op   string
		code int64
	}{
		{synced(manyFiles(impl.MaxFiles-1, 7)), "append z 1", impl.DkOk}, {synced(manyFiles(impl.MaxFiles-1, 7)), "append z ", impl.DkOk}, {files, "append z 1", impl.DkFull}, {files, "append z ", impl.DkFull}, {files, "append f000 1", impl.DkOk}, {files, "rename f000 z", impl.DkOk}, {files, "rename f000 f001", impl.DkOk}, {files, "remove f000", impl.DkOk}, {files, "remove z", impl.DkNone}, {files, "rename z y", impl.DkNone},
		{synced(manyFiles(2, impl.MaxBytes-1)), "append f001 1", impl.DkOk}, {synced(manyFiles(2, impl.MaxBytes-1)), "append f001 12", impl.DkFull}, {synced(manyFiles(2, impl.MaxBytes-1)), "append z 12", impl.DkFull}, {synced(manyFiles(2, impl.MaxBytes-1)), "append z 1", impl.DkOk}, {bytes, "append f001 ", impl.DkOk}, {bytes, "append f001 1", impl.DkFull}, {bytes, "append z ", impl.DkOk}, {bytes, "append z 1", impl.DkFull}, {bytes, "rename f001 f000", impl.DkOk}, {bytes, "rename f000 f001", impl.DkOk}, {bytes, "rename f000 z", impl.DkOk}, {bytes, "remove f001", impl.DkOk},
		{opened(filesOf("a=1"), manyOps(impl.MaxOps-1)), "append a 1", impl.DkOk}, {ops, "append a 1", impl.DkFull}, {ops, "append a ", impl.DkFull}, {ops, "rename a b", impl.DkFull}, {ops, "rename a a", impl.DkFull}, {ops, "remove a", impl.DkFull}, {ops, "remove q", impl.DkNone}, {ops, "rename q a", impl.DkNone},
	} {
		if n, code := does(t, c.d, opsOf(c.op)[0]); code != c.code || code != impl.DkOk && !sameDisk(n, c.d) {
			t.Errorf("Do(%s, %s): %d, want %d", diskShown(c.d), c.op, code, c.code)
		}
	}
	huge := impl.DOp{Kind: impl.DkAppend, Name: "a", Data: strings.Repeat("x", impl.MaxBytes)}
	if _, code := does(t, impl.Disk{}, huge); code != impl.DkOk {
		t.Errorf("%d", code)
	}
	huge.Data += "x"
	if _, code := does(t, impl.Disk{}, huge); code != impl.DkFull {
		t.Errorf("%d", code)
	}
}

func TestP13ReadsAndSyncs(t *testing.T) {
	for _, d := range rightDisks() {
		n := impl.Sync(d)
		if !sameDisk(n, impl.Disk{Live: d.Live, Safe: d.Live}) || !impl.DiskOk(n) {
			t.Errorf("Sync(%s) = %s", diskShown(d), diskShown(n))
		}
		files := plainFiles(d.Live)
		for _, name := range append(slices.Sorted(maps.Keys(files)), "", "none", "a", "f000", "z", "a\x00", strings.Repeat("n", 101)) {
			want, found := files[name]
			if data, ok := impl.ReadFile(d, name); ok != found || data != want {
				t.Errorf("ReadFile(%s, %q) = %s, %v", diskShown(d), name, short(data), ok)
			}
		}
	}
	// Live counts, not Safe.
	d := disk("a=1, b=2", "append a 3; remove b; append c 4")
	for name, want := range map[string]string{"a": "13", "c": "4"} {
		if data, ok := impl.ReadFile(d, name); !ok || data != want {
			t.Errorf("%s: %q, %v", name, data, ok)
		}
	}
	if data, ok := impl.ReadFile(d, "b"); ok || data != "" {
		t.Errorf("b: %q, %v", data, ok)
	}
}

// crashes asks for what a second one leaves.
func crashes(t *testing.T, d impl.Disk, keep []int64, torn int64) (impl.Disk, bool) {
	t.Helper()
	n, ok := impl.Crash(d, keep, torn)
	if want, wantOk := plainCrash(d, keep, torn); ok != wantOk || !sameDisk(n, want) {
		t.Fatalf("Crash(%s, %v, %d) = %s, %v, want %s, %v", diskShown(d), keep, torn, diskShown(n), ok, diskShown(want), wantOk)
	}
	if ok && (!impl.DiskOk(n) || len(n.Ops) != 0) {
		t.Fatalf("Crash(%s, %v, %d) is not right: %s", diskShown(d), keep, torn, diskShown(n))
	}
	return n, ok
}

// allOf answers the places of all ops.
func allOf(d impl.Disk) []int64 {
	var keep []int64
	for i := range d.Ops {
		keep = append(keep, int64(i))
	}
	return keep
}

// someOf answers the places of those ops whose bits are set.
func someOf(d impl.Disk, bits int) []int64 {
	return slices.DeleteFunc(allOf(d), func(i int64) bool { return bits>>i%2 == 0 })
}

func TestP13AllKeptIsWhatWasSeenAndNoneWhatWasSynced(t *testing.T) {
	for _, d := range rightDisks() {
		for _, torn := range []int64{impl.MaxBytes, math.MaxInt64} {
			if n, ok := crashes(t, d, allOf(d), torn); !ok || !sameDisk(n, impl.Sync(d)) {
				t.Errorf("all of %s: %s, %v", diskShown(d), diskShown(n), ok)
			}
		}
		for _, torn := range []int64{0, 1, impl.MaxBytes, math.MaxInt64} {
			if n, ok := crashes(t, d, nil, torn); !ok || !sameDisk(n, synced(d.Safe)) {
				t.Errorf("none of %s: %s, %v", diskShown(d), diskShown(n), ok)
			}
		}
	}
}

func TestP13SomeKept(t *testing.T) {
	for _, c := range []struct {
		safe, ops string
		keep      []int64
		torn      int64
		left      string
	}{
		// The last one of keep is torn, and that alone.
		{"log=ab", "append log cde; append b xyz", []int64{0, 1}, 2, "b=xy, log=abcde"}, {"log=ab", "append log cde; append b xyz", []int64{0}, 2, "log=abcd"}, {"log=ab", "append log cde; append b xyz", []int64{1}, 2, "b=xy, log=ab"}, {"log=ab", "append log cde; append b xyz", []int64{1}, 0, "b=, log=ab"}, {"log=ab", "append log cde; append b xyz", []int64{0}, 0, "log=ab"}, {"log=ab", "append log cde", []int64{0}, 1, "log=abc"}, {"log=ab", "append log cde", []int64{0}, 3, "log=abcde"}, {"log=ab", "append log cde", []int64{0}, 4, "log=abcde"}, {"log=ab", "append log cde", []int64{0}, math.MaxInt64, "log=abcde"}, {"", "append a ", []int64{0}, 0, "a="}, {"", "append a 1; append a 2; append a 3", []int64{0, 2}, 1, "a=13"}, {"", "append a 1; append a 2; append a 3", []int64{1, 2}, 0, "a=2"},
		// Where the last one is no append nothing is torn.
		{"a=1", "append b xyz; rename b a", []int64{0, 1}, 0, "a=xyz"}, {"a=1", "append b xyz; remove a", []int64{0, 1}, 1, "b=xyz"}, {"a=1, b=2", "append b xyz; rename a c", []int64{0, 1}, 0, "b=2xyz, c=1"},
		// Renames and removes that find no file any more do nothing; To stays.
		{"a=1", "append b xyz; rename b a", []int64{1}, 9, "a=1"}, {"a=1", "append b xyz; remove b", []int64{1}, 9, "a=1"}, {"a=1", "append b xyz; rename b a; append a 2", []int64{1, 2}, 9, "a=12"}, {"a=1", "append b x; rename b c; rename c d; remove d", []int64{0, 2, 3}, 9, "a=1, b=x"}, {"a=1", "append b x; rename b c; rename c d", []int64{0, 1}, 9, "a=1, c=x"}, {"a=1", "append b x; rename b b", []int64{1}, 9, "a=1"},
		// What was taken away is there again, or by its old name.
		{"a=1", "remove a; append a 2", []int64{1}, 9, "a=12"}, {"a=1", "remove a; append a 2", []int64{0}, 9, ""}, {"a=1", "rename a b; append b 2", []int64{1}, 9, "a=1, b=2"}, {"a=1", "rename a b; append b 2", []int64{0}, 9, "b=1"}, {"a=1, b=2", "rename a b; append a 3", []int64{1}, 9, "a=13, b=2"},
	} {
		d := disk(c.safe, c.ops)
		if n, ok := crashes(t, d, c.keep, c.torn); !ok || !sameDisk(n, synced(filesOf(c.left))) {
			t.Errorf("%s of %s behind %s, torn %d: %s, %v, want %s", fmt.Sprint(c.keep), c.ops, c.safe, c.torn, diskShown(n), ok, c.left)
		}
	}
}

func TestP13CrashesThatAreRefused(t *testing.T) {
	d := disk("a=1", "append a 2; append b 3; rename b c; remove a")
	for _, keep := range [][]int64{{-1}, {-1, 0}, {4}, {0, 4}, {0, 1, 2, 3, 4}, {5}, {0, 0}, {3, 3}, {0, 1, 1}, {1, 0}, {0, 2, 1}, {3, 2, 1, 0}, {0, -1}, {4, 0}, {math.MaxInt64}, {math.MinInt64}, {math.MinInt64, math.MaxInt64}, {0, 1 << 32}, {1 << 32}} {
		for _, torn := range []int64{0, 9, -1} {
			if n, ok := crashes(t, d, keep, torn); ok || !isNoDisk(n) {
				t.Errorf("%v: %s, %v", keep, diskShown(n), ok)
			}
		}
	}
	for _, keep := range [][]int64{nil, {0}, {1, 2}, {3}, {0, 1, 2, 3}} {
		for _, torn := range []int64{-1, -9, math.MinInt64} {
			if _, ok := crashes(t, d, keep, torn); ok {
				t.Errorf("%v torn at %d", keep, torn)
			}
		}
		if _, ok := crashes(t, d, keep, 0); !ok {
			t.Errorf("%v is refused", keep)
		}
	}
	for _, keep := range [][]int64{{0}, {-1}, {0, 1}} {
		if _, ok := crashes(t, disk("a=1", ""), keep, 0); ok {
			t.Errorf("%v of no op", keep)
		}
	}
}

func TestP13TooMuchAtTheEndOfACrashAndOnItsWay(t *testing.T) {
	half := strings.Repeat("h", impl.MaxBytes/2)
	append3 := []impl.DOp{{Kind: impl.DkAppend, Name: "a", Data: half}, {Kind: impl.DkAppend, Name: "b", Data: half}, {Kind: impl.DkRemove, Name: "a"}, {Kind: impl.DkAppend, Name: "c", Data: half}, {Kind: impl.DkRemove, Name: "c"}, {Kind: impl.DkAppend, Name: "b", Data: half}}
	bytes := opened(nil, append3)
	files := opened(manyFiles(impl.MaxFiles-1, 0), opsOf("append y 1; remove f000; append z 1; remove f001; remove y; append x 123"))
	for _, c := range []struct {
		d    impl.Disk
		keep []int64
		torn int64
		ok   bool
	}{
		{bytes, []int64{0, 1, 2, 3, 4, 5}, impl.MaxBytes, true},
		// Too many at the end.
		{bytes, []int64{0, 1, 3}, impl.MaxBytes, false}, {bytes, []int64{0, 1, 3}, 1, false}, {bytes, []int64{0, 1, 3}, 0, true}, {bytes, []int64{0, 1, 5}, 1, false}, {bytes, []int64{0, 1, 5}, 0, true}, {bytes, []int64{0, 3}, impl.MaxBytes, true}, {bytes, []int64{0, 1, 3, 5}, 0, false},
		// Too many on the way alone.
		{bytes, []int64{0, 1, 3, 4}, 0, true}, {bytes, []int64{0, 1, 3, 4, 5}, 0, true}, {bytes, []int64{0, 1, 3, 4, 5}, 1, false},
		{files, []int64{0, 1, 2, 3, 4, 5}, 9, true}, {files, []int64{0}, 9, true}, {files, []int64{0, 2}, 9, false}, {files, []int64{0, 2}, 0, false}, {files, []int64{0, 2, 4}, 0, true}, {files, []int64{0, 2, 3}, 0, true}, {files, []int64{0, 2, 5}, 0, false}, {files, []int64{0, 2, 3, 4, 5}, 0, true}, {files, []int64{0, 2, 3, 5}, 0, false},
	} {
		if !impl.DiskOk(c.d) {
			t.Fatalf("not right: %s", diskShown(c.d))
		}
		if n, ok := crashes(t, c.d, c.keep, c.torn); ok != c.ok || !ok && !isNoDisk(n) {
			t.Errorf("%v, torn %d, of %s: %s, %v", c.keep, c.torn, opsShown(c.d.Ops), diskShown(n), ok)
		}
	}
}

// shortOps answers each op over few names and little data, those that are not of their form too.
func shortOps() []impl.DOp {
	var ops []impl.DOp
	for kind := range int64(5) {
		for _, name := range []string{"", "a", "b"} {
			for _, to := range []string{"", "a", "c"} {
				for _, data := range []string{"", "xy"} {
					ops = append(ops, impl.DOp{Kind: kind, Name: name, To: to, Data: data})
				}
			}
		}
	}
	return ops
}

func TestP13EachShortDiskIsHeldAgainstASecondOne(t *testing.T) {
	ops := shortOps()
	crashed := 0
	var grow func(d impl.Disk, deep int)
	grow = func(d impl.Disk, deep int) {
		if !impl.DiskOk(d) || !plainDiskOk(d) {
			t.Fatalf("not right: %s", diskShown(d))
		}
		for bits := range 1 << len(d.Ops) {
			for torn := range int64(4) {
				crashes(t, d, someOf(d, bits), torn)
				crashed++
			}
		}
		for _, op := range ops {
			n, code := does(t, d, op)
			if code == impl.DkOk && deep > 0 {
				grow(n, deep-1)
			}
			// With each op laid behind the others without being done the disk is right only where it does nothing.
			lie := impl.Disk{Live: d.Live, Safe: d.Safe, Ops: append(slices.Clone(d.Ops), op)}
			if impl.DiskOk(lie) != plainDiskOk(lie) {
				t.Fatalf("DiskOk(%s) = %v", diskShown(lie), impl.DiskOk(lie))
			}
		}
	}
	for _, safe := range []string{"", "a=1", "b=2", "a=1, b=2, c=3"} {
		grow(synced(filesOf(safe)), 3)
	}
	if crashed < 5000 {
		t.Errorf("%d crashes", crashed)
	}
}

func TestP13ThrownDisksAreHeldAgainstSecondOnes(t *testing.T) {
	d := dice(13)
	codes := map[int64]int{}
	refused, done := 0, 0
	for range 60 {
		now := impl.Disk{}
		big := d.below(3) == 0
		for range 120 {
			name, to := string(rune('a'+d.below(70))), string(rune('a'+d.below(70)))
			if big {
				name, to = string(rune('a'+d.below(3))), string(rune('a'+d.below(3)))
			}
			switch d.below(12) {
			case 0:
				now = impl.Sync(now)
			case 1:
				if len(now.Ops) == 0 {
					continue
				}
				keep := slices.DeleteFunc(allOf(now), func(int64) bool { return d.below(4) == 0 })
				n, ok := crashes(t, now, keep, int64(d.below(9)))
				if ok {
					now = n
					done++
				} else {
					refused++
				}
			case 2:
				n, code := impl.Replace(now, name, "new")
				if want, wantCode := plainReplace(now, name, "new"); code != wantCode || !sameDisk(n, want) {
					t.Fatalf("Replace(%s, %q) = %s, %d, want %d", diskShown(now), name, diskShown(n), code, wantCode)
				}
				now = n
			case 3:
				n, code := does(t, now, impl.DOp{Kind: impl.DkRename, Name: name, To: to})
				now = n
				codes[code]++
			case 4:
				n, code := does(t, now, impl.DOp{Kind: impl.DkRemove, Name: name})
				now = n
				codes[code]++
			default:
				data := strings.Repeat(name, d.below(9))
				if big {
					data = strings.Repeat(name, d.below(impl.MaxBytes/3))
				}
				n, code := does(t, now, impl.DOp{Kind: impl.DkAppend, Name: name, Data: data})
				now = n
				codes[code]++
			}
		}
	}
	if codes[impl.DkOk] < 1000 || codes[impl.DkNone] < 100 || codes[impl.DkFull] < 100 || done < 200 || refused < 5 {
		t.Errorf("codes %v, %d crashes, %d refused", codes, done, refused)
	}
}

// plainReplace takes a right disk.
func plainReplace(d impl.Disk, name string, data string) (impl.Disk, int64) {
	other := name + ".new"
	n, code := d, int64(impl.DkOk)
	if _, ok := plainFiles(d.Live)[other]; ok {
		n, code = plainDo(n, impl.DOp{Kind: impl.DkRemove, Name: other})
	}
	for _, op := range []impl.DOp{{Kind: impl.DkAppend, Name: other, Data: data}, {Kind: impl.DkRename, Name: other, To: name}} {
		if code == impl.DkOk {
			n, code = plainDo(n, op)
		}
	}
	if code != impl.DkOk {
		return d, code
	}
	return n, code
}

func TestP13Replaces(t *testing.T) {
	for _, c := range []struct {
		d    impl.Disk
		name string
		live string
		ops  int
	}{
		{impl.Disk{}, "a", "a=new", 2}, {disk("a=old", ""), "a", "a=new", 2}, {disk("a=old, b=1", ""), "a", "a=new, b=1", 2}, {disk("a=old, a.new=left", ""), "a", "a=new", 3}, {disk("a.new=left", ""), "a", "a=new", 3}, {disk("a=old, b.new=left", ""), "a", "a=new, b.new=left", 2}, {disk("a=old", "append a 1; append a.new 2"), "a", "a=new", 5}, {disk("a.new=old", ""), "a.new", "a.new=new", 2}, {disk("a=1, a.new=2, a.new.new=3", ""), "a.new", "a=1, a.new=new", 3},
	} {
		n, code := impl.Replace(c.d, c.name, "new")
		if want, _ := plainReplace(c.d, c.name, "new"); code != impl.DkOk || !sameDisk(n, want) || !slices.Equal(n.Live, filesOf(c.live)) || len(n.Ops) != c.ops || !impl.DiskOk(n) {
			t.Errorf("Replace(%s, %q) = %s, %d", diskShown(c.d), c.name, diskShown(n), code)
		}
		if data, ok := impl.ReadFile(n, c.name); !ok || data != "new" {
			t.Errorf("%q, %v", data, ok)
		}
	}
	if n, code := impl.Replace(disk("a=old", ""), "a", ""); code != impl.DkOk || !slices.Equal(n.Live, filesOf("a=")) {
		t.Errorf("by nothing: %s, %d", diskShown(n), code)
	}
}

func TestP13ReplacesThatAreRefused(t *testing.T) {
	long := strings.Repeat("n", 200)
	opsLess := func(less int) impl.Disk { return opened(filesOf("a=1, a.new=2"), manyOps(impl.MaxOps-less)) }
	opsOnly := func(less int) impl.Disk { return opened(filesOf("a=1"), manyOps(impl.MaxOps-less)) }
	for _, c := range []struct {
		d    impl.Disk
		name string
		data string
		code int64
	}{
		{impl.Disk{}, "", "1", impl.DkForm}, {disk(".new=2", ""), "", "1", impl.DkForm}, {impl.Disk{}, long[:95], "1", impl.DkOk}, {impl.Disk{}, long[:96], "1", impl.DkOk}, {impl.Disk{}, long[:97], "1", impl.DkForm}, {synced([]impl.File{{Name: long[:97], Data: "old"}}), long[:97], "1", impl.DkForm}, {synced([]impl.File{{Name: long[:96], Data: "old"}, {Name: long[:96] + ".new", Data: "left"}}[:]), long[:96], "1", impl.DkOk}, {impl.Disk{}, long[:100], "1", impl.DkForm}, {impl.Disk{}, long[:101], "1", impl.DkForm}, {impl.Disk{}, long, "1", impl.DkForm},
		// The first, the second, the third finds that Ops are MaxOps.
		{opsLess(0), "a", "1", impl.DkFull}, {opsLess(1), "a", "1", impl.DkFull}, {opsLess(2), "a", "1", impl.DkFull}, {opsLess(3), "a", "1", impl.DkOk}, {opsOnly(0), "a", "1", impl.DkFull}, {opsOnly(1), "a", "1", impl.DkFull}, {opsOnly(2), "a", "1", impl.DkOk},
		// Room for the new one beside the old one is asked for.
		{synced(manyFiles(impl.MaxFiles, 0)), "f000", "1", impl.DkFull}, {synced(manyFiles(impl.MaxFiles-1, 0)), "f000", "1", impl.DkOk}, {synced(manyFiles(impl.MaxFiles-1, 0)), "z", "1", impl.DkOk}, {synced(append(manyFiles(impl.MaxFiles-1, 0), impl.File{Name: "f058.new"})), "f058", "1", impl.DkOk}, {synced(manyFiles(1, impl.MaxBytes-2)), "f000", "12", impl.DkOk}, {synced(manyFiles(1, impl.MaxBytes-2)), "f000", "123", impl.DkFull}, {synced([]impl.File{{Name: "a"}, {Name: "a.new", Data: strings.Repeat("x", impl.MaxBytes)}}), "a", "123", impl.DkOk}, {synced([]impl.File{{Name: "a", Data: "1"}, {Name: "a.new", Data: "2"}}), "a", strings.Repeat("x", impl.MaxBytes), impl.DkFull}, {impl.Disk{}, "a", strings.Repeat("x", impl.MaxBytes), impl.DkOk}, {impl.Disk{}, "a", strings.Repeat("x", impl.MaxBytes+1), impl.DkFull},
	} {
		n, code := impl.Replace(c.d, c.name, c.data)
		want, wantCode := plainReplace(c.d, c.name, c.data)
		if code != c.code || code != wantCode || !sameDisk(n, want) || !impl.DiskOk(n) || code != impl.DkOk && !sameDisk(n, c.d) {
			t.Errorf("Replace(%s, %q, %s) = %s, %d, want %d", diskShown(c.d), c.name, short(c.data), diskShown(n), code, c.code)
		}
	}
}

func TestP13WhatIsReplacedIsTheOldOneOrTheNewOne(t *testing.T) {
	for _, d := range rightDisks() {
		d = impl.Sync(d)
		for _, name := range []string{"a", "b", "log", "f000", "none", strings.Repeat("n", 96)} {
			for _, data := range []string{"new", "", "a longer one that is new"} {
				n, code := impl.Replace(d, name, data)
				if _, left := impl.ReadFile(d, name+".new"); left || code != impl.DkOk {
					continue
				}
				old, was := impl.ReadFile(d, name)
				for bits := range 1 << len(n.Ops) {
					for _, torn := range []int64{0, 1, 2, 3, impl.MaxBytes} {
						left, ok := crashes(t, n, someOf(n, bits), torn)
						got, is := impl.ReadFile(left, name)
						isOld, isNew := is == was && got == old, is && got == data
						if !ok || !isOld && !isNew {
							t.Fatalf("%q of %s, %d kept, torn %d: %s, %v", name, diskShown(d), bits, torn, short(got), is)
						}
						if bits == 1<<len(n.Ops)-1 && !isNew || bits == 0 && !isOld {
							t.Fatalf("%q of %s, %d kept: %s, %v", name, diskShown(d), bits, short(got), is)
						}
					}
				}
			}
		}
	}
}

// roomyDisk answers d with spare room behind each list.
func roomyDisk(d impl.Disk) impl.Disk {
	file, op := impl.File{Name: "spare"}, impl.DOp{Name: "spare"}
	return impl.Disk{Live: append(slices.Clone(d.Live), file, file)[:len(d.Live)], Safe: append(slices.Clone(d.Safe), file, file)[:len(d.Safe)], Ops: append(slices.Clone(d.Ops), op, op)[:len(d.Ops)]}
}

func diskWithRoom(d impl.Disk) string {
	return diskShown(impl.Disk{Live: d.Live[:cap(d.Live)], Safe: d.Safe[:cap(d.Safe)], Ops: d.Ops[:cap(d.Ops)]})
}

// overwriteDisk asks that no two lists share memory, and writes into each, the room behind it too.
func overwriteDisk(t *testing.T, d impl.Disk) {
	t.Helper()
	live, safe := slices.Clone(d.Live), slices.Clone(d.Safe)
	_ = append(d.Live, impl.File{Name: "over"})
	_ = append(d.Safe, impl.File{Name: "over"})
	_ = append(d.Ops, impl.DOp{Name: "over"})
	for i := range d.Live {
		d.Live[i] = impl.File{Name: "over"}
	}
	if !slices.Equal(d.Safe, safe) {
		t.Errorf("shared: %s", filesShown(live))
	}
	for i := range d.Safe {
		d.Safe[i] = impl.File{Name: "over"}
	}
	for i := range d.Ops {
		d.Ops[i] = impl.DOp{Name: "over"}
	}
}

func TestP13ArgumentsAreNotWrittenAndAnswersAreNew(t *testing.T) {
	for _, plain := range append(rightDisks(), wrongDisks()[:40]...) {
		d := roomyDisk(plain)
		if slices.Equal(d.Live, d.Safe) && len(d.Live) > 0 {
			// Lists that are one and the same.
			d.Safe = d.Live
		}
		before := diskWithRoom(d)
		keep := append(allOf(d), 77, 77)
		kept := slices.Clone(keep)
		var first []string
		for range 2 {
			var answers []string
			for _, op := range append(opsOf("append a 1; append z 1; rename a b; remove a; remove f001; rename f000 f001"), impl.DOp{}) {
				n, code := impl.Do(d, op)
				answers = append(answers, diskShown(n), fmt.Sprint(code))
				overwriteDisk(t, n)
			}
			for _, many := range []int{0, len(d.Ops), len(d.Ops) + 1} {
				n, ok := impl.Crash(d, keep[:many], 1)
				answers = append(answers, diskShown(n), fmt.Sprint(ok))
				overwriteDisk(t, n)
			}
			for _, name := range []string{"a", "z", "", strings.Repeat("n", 97)} {
				n, code := impl.Replace(d, name, "1")
				answers = append(answers, diskShown(n), fmt.Sprint(code))
				overwriteDisk(t, n)
			}
			n := impl.Sync(d)
			answers = append(answers, diskShown(n), fmt.Sprint(impl.DiskOk(d)))
			overwriteDisk(t, n)
			if diskWithRoom(d) != before || !slices.Equal(keep, kept) {
				t.Fatalf("written: %s, %v", diskWithRoom(d), keep)
			}
			if first != nil && !slices.Equal(answers, first) {
				t.Fatalf("%v, and then %v", first, answers)
			}
			first = answers
		}
	}
}
