package tests

import (
	"fmt"
	"maps"
	"math"
	"math/rand"
	"reflect"
	"regexp"
	"slices"
	"strings"
	"testing"

	"loop.example/s02884/impl"
)

const (
	mostCap   = 1000000000
	mostCount = 1000000000000000
)

var plainFileName = regexp.MustCompile(`\A[a-z0-9-]{1,30}\z`)

func isWithin(n, least, most int) bool { return n >= least && n <= most }

// plainFsValid reads the words of 6.1 one by one.
func plainFsValid(fs impl.Fs) bool {
	names, all := []string{}, ""
	for _, f := range fs.Files {
		if !plainFileName.MatchString(f.Name) || !isWithin(f.Synced, 0, len(f.Data)) {
			return false
		}
		names = append(names, f.Name)
		all += f.Data
	}
	sorted := slices.Compact(slices.Sorted(slices.Values(names)))
	return len(names) <= 300 && slices.Equal(names, sorted) && isWithin(fs.Cap, 0, mostCap) && len(all) <= fs.Cap &&
		isWithin(fs.Count, 0, mostCount) && isWithin(fs.CrashAt, 0, mostCount) && isWithin(fs.FailAt, 0, mostCount)
}

func copyFs(fs impl.Fs) impl.Fs {
	fs.Files = append([]impl.File{}, fs.Files...)
	return fs
}

func sameFs(a, b impl.Fs) bool { return reflect.DeepEqual(copyFs(a), copyFs(b)) }

func fsName(fs impl.Fs) string {
	out := fmt.Sprintf("cap %d count %d crash %d fail %d down %v", fs.Cap, fs.Count, fs.CrashAt, fs.FailAt, fs.Down)
	for i, f := range fs.Files {
		if i == 8 {
			return fmt.Sprintf("%s .. %d files", out, len(fs.Files))
		}
		out += fmt.Sprintf(" [%s %s %d]", f.Name, short(f.Data), f.Synced)
	}
	return out
}

func opName(op impl.FsOp) string {
	return fmt.Sprintf("kind %d name %q data %s size %d", op.Kind, op.Name, short(op.Data), op.Size)
}

// roomyFs has room behind its files, with something in it.
func roomyFs(fs impl.Fs) impl.Fs {
	fs.Files = append(append(make([]impl.File, 0, len(fs.Files)+3), fs.Files...), impl.File{Name: "behind", Data: "room", Synced: 2})[:len(fs.Files)]
	return fs
}

// wholeFs copies the files with what stands in the room behind them.
func wholeFs(fs impl.Fs) impl.Fs {
	fs.Files = append([]impl.File{}, fs.Files[:cap(fs.Files)]...)
	return fs
}

// plainFsStep keeps the files in a map, and tells them in the order of their names.
func plainFsStep(fs impl.Fs, op impl.FsOp) (impl.Fs, int) {
	if !plainFsValid(fs) || !isWithin(op.Kind, 1, 5) || !plainFileName.MatchString(op.Name) {
		return impl.Fs{}, 16
	}
	if fs.Down {
		return copyFs(fs), 11
	}
	if fs.Count == mostCount {
		return copyFs(fs), 12
	}
	fs.Count++
	if fs.CrashAt != 0 && fs.Count == fs.CrashAt {
		fs.Down = true
		return copyFs(fs), 11
	}
	if fs.FailAt != 0 && fs.Count == fs.FailAt {
		return copyFs(fs), 12
	}
	files, used := map[string]impl.File{}, 0
	for _, f := range fs.Files {
		files[f.Name] = f
		used += len(f.Data)
	}
	code := plainKind(files, fs.Cap-used, op)
	fs.Files = nil
	for _, name := range slices.Sorted(maps.Keys(files)) {
		fs.Files = append(fs.Files, files[name])
	}
	return fs, code
}

// plainKind does what 6.1 says of the kind, on a file system that has so much room.
func plainKind(files map[string]impl.File, room int, op impl.FsOp) int {
	f, isThere := files[op.Name]
	switch {
	case op.Kind == 1 && isThere:
		return 15
	case op.Kind == 1 && len(files) == 300:
		return 13
	case op.Kind == 1:
		files[op.Name] = impl.File{Name: op.Name}
		return 0
	case !isThere:
		return 14
	case op.Kind == 2:
		fits := op.Data[:min(len(op.Data), room)]
		files[op.Name] = impl.File{Name: op.Name, Data: f.Data + fits, Synced: f.Synced}
		if fits != op.Data {
			return 13
		}
	case op.Kind == 3:
		files[op.Name] = impl.File{Name: op.Name, Data: f.Data, Synced: len(f.Data)}
	case op.Kind == 4 && !isWithin(op.Size, 0, len(f.Data)):
		return 16
	case op.Kind == 4:
		files[op.Name] = impl.File{Name: op.Name, Data: f.Data[:op.Size], Synced: op.Size}
	case op.Kind == 5:
		delete(files, op.Name)
	}
	return 0
}

func plainFsCrash(fs impl.Fs, tails []string) impl.Fs {
	if !plainFsValid(fs) {
		return impl.Fs{}
	}
	after := impl.Fs{Cap: fs.Cap, Count: fs.Count}
	for i, f := range fs.Files {
		data := []byte(f.Data[:f.Synced])
		if i < len(tails) {
			for _, c := range []byte(tails[i]) {
				if len(data) < len(f.Data) {
					data = append(data, c)
				}
			}
		}
		after.Files = append(after.Files, impl.File{Name: f.Name, Data: string(data), Synced: len(data)})
	}
	return after
}

func askValid(t *testing.T, what string, fs impl.Fs, want bool) {
	t.Helper()
	given := roomyFs(fs)
	before := wholeFs(given)
	if plainFsValid(fs) != want {
		t.Errorf("the test's own: %s", what)
	}
	if got := impl.FsValid(given); got != want {
		t.Errorf("%s: got %v, want %v", what, got, want)
	}
	if !reflect.DeepEqual(wholeFs(given), before) {
		t.Errorf("%s: the argument is changed", what)
	}
}

// askStep holds FsStep against the plain reading and promise 9, and gives what it answered.
func askStep(t *testing.T, fs impl.Fs, op impl.FsOp) (impl.Fs, int) {
	t.Helper()
	given := roomyFs(fs)
	before := wholeFs(given)
	after, code := impl.FsStep(given, op)
	again, _ := impl.FsStep(given, op)
	if !reflect.DeepEqual(wholeFs(given), before) {
		t.Errorf("%s: the argument is changed: %s", opName(op), fsName(fs))
	}
	if !areApart(addSpan(nil, given.Files), addSpan(nil, after.Files), addSpan(nil, again.Files)) {
		t.Errorf("%s: memory is shared: %s", opName(op), fsName(fs))
	}
	want, wantCode := plainFsStep(fs, op)
	if code != wantCode || !sameFs(after, want) || !sameFs(again, want) {
		t.Errorf("%s of %s: got %d %s, want %d %s", opName(op), fsName(fs), code, fsName(after), wantCode, fsName(want))
	}
	if !impl.FsValid(after) {
		t.Errorf("%s of %s: no longer valid: %s", opName(op), fsName(fs), fsName(after))
	}
	return after, code
}

// askCrash holds FsCrash against the plain reading and promise 9.
func askCrash(t *testing.T, fs impl.Fs, tails []string) impl.Fs {
	t.Helper()
	given := roomyFs(fs)
	before := wholeFs(given)
	list, room := withRoom(tails)
	roomBefore := slices.Clone(room)
	after := impl.FsCrash(given, list)
	again := impl.FsCrash(given, list)
	if !reflect.DeepEqual(wholeFs(given), before) || !slices.Equal(room, roomBefore) {
		t.Errorf("an argument is changed: %s, tails %q", fsName(fs), tails)
	}
	if !areApart(addSpan(nil, given.Files), addSpan(nil, list), addSpan(nil, after.Files), addSpan(nil, again.Files)) {
		t.Errorf("memory is shared: %s, tails %q", fsName(fs), tails)
	}
	if want := plainFsCrash(fs, tails); !sameFs(after, want) || !sameFs(again, want) {
		t.Errorf("crash of %s, tails %q: got %s, want %s", fsName(fs), tails, fsName(after), fsName(want))
	}
	if !impl.FsValid(after) {
		t.Errorf("crash of %s, tails %q: no longer valid: %s", fsName(fs), tails, fsName(after))
	}
	for i, f := range after.Files {
		old := fs.Files[i]
		if f.Name != old.Name || !strings.HasPrefix(f.Data, old.Data[:old.Synced]) || len(f.Data) > len(old.Data) || f.Synced != len(f.Data) {
			t.Errorf("crash of %s, tails %q: file %s", fsName(fs), tails, f.Name)
		}
	}
	return after
}

// cabinet has files that are synced, partly synced and not synced, an empty one among them, and a little room.
func cabinet() impl.Fs {
	return impl.Fs{Cap: 20, Count: 7, Files: []impl.File{
		{Name: "-", Data: "abc", Synced: 3}, {Name: "0", Data: "", Synced: 0}, {Name: "a", Data: "defgh", Synced: 2}, {Name: "a-b", Data: "ijkl", Synced: 0},
	}}
}

func manyFiles(n int) impl.Fs {
	fs := impl.Fs{Cap: 10}
	for i := range n {
		fs.Files = append(fs.Files, impl.File{Name: fmt.Sprintf("f%03d", i)})
	}
	return fs
}

func changedFs(fs impl.Fs, change func(*impl.Fs)) impl.Fs {
	fs = copyFs(fs)
	change(&fs)
	return fs
}

func validFss() map[string]impl.Fs {
	fss := map[string]impl.Fs{
		"nothing":       {},
		"cabinet":       cabinet(),
		"full":          changedFs(cabinet(), func(fs *impl.Fs) { fs.Cap = 12 }),
		"down":          changedFs(cabinet(), func(fs *impl.Fs) { fs.Down = true }),
		"greatest Cap":  changedFs(cabinet(), func(fs *impl.Fs) { fs.Cap = mostCap }),
		"no bytes":      {Files: []impl.File{{Name: "a"}}},
		"30 bytes":      {Files: []impl.File{{Name: strings.Repeat("z", 30)}}},
		"1 byte":        {Files: []impl.File{{Name: "9"}}},
		"all files":     manyFiles(300),
		"any bytes":     {Cap: 256, Files: []impl.File{{Name: "a", Data: allBytes(), Synced: 255}}},
		"a begins ab":   {Files: []impl.File{{Name: "a"}, {Name: "ab"}}},
		"minus, digits": {Files: []impl.File{{Name: "-"}, {Name: "0"}, {Name: "a"}}},
	}
	for _, n := range []int{0, 1, mostCount - 1, mostCount} {
		fss[fmt.Sprint("Count ", n)] = changedFs(cabinet(), func(fs *impl.Fs) { fs.Count = n })
		fss[fmt.Sprint("CrashAt ", n)] = changedFs(cabinet(), func(fs *impl.Fs) { fs.CrashAt = n })
		fss[fmt.Sprint("FailAt ", n)] = changedFs(cabinet(), func(fs *impl.Fs) { fs.FailAt = n })
	}
	return fss
}

// wrongFss have one thing wrong each.
func wrongFss() map[string]impl.Fs {
	fss := map[string]impl.Fs{
		"too many files":   manyFiles(301),
		"out of order":     changedFs(cabinet(), func(fs *impl.Fs) { slices.Reverse(fs.Files[2:]) }),
		"first behind":     changedFs(cabinet(), func(fs *impl.Fs) { slices.Reverse(fs.Files[:2]) }),
		"one name twice":   changedFs(cabinet(), func(fs *impl.Fs) { fs.Files[1].Name = "-" }),
		"last name twice":  changedFs(cabinet(), func(fs *impl.Fs) { fs.Files[3].Name = "a" }),
		"empty name":       changedFs(cabinet(), func(fs *impl.Fs) { fs.Files[0].Name = "" }),
		"empty name alone": {Files: []impl.File{{}}},
		"31 bytes":         {Files: []impl.File{{Name: strings.Repeat("z", 31)}}},
		"one byte more":    changedFs(cabinet(), func(fs *impl.Fs) { fs.Cap = 11 }),
		"no room at all":   changedFs(cabinet(), func(fs *impl.Fs) { fs.Cap = 0 }),
		"Cap -1":           {Cap: -1},
		"Cap least":        {Cap: math.MinInt},
		"Cap too great":    {Cap: mostCap + 1},
		"Cap greatest":     {Cap: math.MaxInt},
		"down and wrong":   {Down: true, Cap: -1},
	}
	for i := range cabinet().Files {
		for _, by := range []int{-1, math.MinInt, len(cabinet().Files[i].Data) + 1, math.MaxInt} {
			fss[fmt.Sprint("Synced ", i, " ", by)] = changedFs(cabinet(), func(fs *impl.Fs) { fs.Files[i].Synced = by })
		}
	}
	for _, n := range []int{-1, math.MinInt, mostCount + 1, math.MaxInt} {
		fss[fmt.Sprint("Count ", n)] = changedFs(cabinet(), func(fs *impl.Fs) { fs.Count = n })
		fss[fmt.Sprint("CrashAt ", n)] = changedFs(cabinet(), func(fs *impl.Fs) { fs.CrashAt = n })
		fss[fmt.Sprint("FailAt ", n)] = changedFs(cabinet(), func(fs *impl.Fs) { fs.FailAt = n })
	}
	return fss
}

func TestConstantsOfTheJournal(t *testing.T) {
	got := []int{impl.MaxFiles, impl.MaxCap, impl.MaxCount, impl.MaxSegments, impl.FrameHead, impl.FsOK, impl.FsDown, impl.FsFailed, impl.FsFull, impl.FsMissing, impl.FsExists, impl.FsBad,
		impl.DoCreate, impl.DoAppend, impl.DoSync, impl.DoTruncate, impl.DoDelete, impl.JournalBroken, impl.JournalEnd, impl.JournalSize}
	want := []int{300, mostCap, mostCount, 9999, 8, 0, 11, 12, 13, 14, 15, 16, 1, 2, 3, 4, 5, 20, 21, 22}
	if !slices.Equal(got, want) {
		t.Errorf("got %v, want %v", got, want)
	}
}

func TestFileSystemsThatAreValid(t *testing.T) {
	for what, fs := range validFss() {
		askValid(t, what, fs, true)
	}
}

func TestFileSystemsWithOneThingWrong(t *testing.T) {
	for what, fs := range wrongFss() {
		askValid(t, what, fs, false)
		for kind := range 7 {
			if after, code := askStep(t, fs, impl.FsOp{Kind: kind, Name: "a"}); code != impl.FsBad || !sameFs(after, impl.Fs{}) {
				t.Errorf("%s: kind %d: got %d %s", what, kind, code, fsName(after))
			}
		}
		if after := askCrash(t, fs, []string{"x"}); !sameFs(after, impl.Fs{}) {
			t.Errorf("%s: crash: got %s", what, fsName(after))
		}
	}
}

func TestEveryByteInFileNames(t *testing.T) {
	const others = "abcdefghijklmnopqrstuvwxyz0123456789-"
	for c := range 256 {
		for _, around := range [][2]string{{"", ""}, {"a", ""}, {"", "a"}, {"a", "a"}, {"a0-", "b1-"}} {
			name := around[0] + string([]byte{byte(c)}) + around[1]
			want := strings.IndexByte(others, byte(c)) >= 0
			askValid(t, name, impl.Fs{Files: []impl.File{{Name: name}}}, want)
			if _, code := askStep(t, impl.Fs{}, impl.FsOp{Kind: impl.DoCreate, Name: name}); (code == impl.FsOK) != want || (code == impl.FsBad) == want {
				t.Errorf("%q: got %d", name, code)
			}
		}
	}
	for n, want := range map[int]int{0: impl.FsBad, 1: impl.FsMissing, 29: impl.FsMissing, 30: impl.FsMissing, 31: impl.FsBad, 100000: impl.FsBad} {
		for kind := 2; kind <= 5; kind++ {
			if _, code := askStep(t, cabinet(), impl.FsOp{Kind: kind, Name: strings.Repeat("q", n)}); code != want {
				t.Errorf("a name of %d bytes: got %d, want %d", n, code, want)
			}
		}
	}
}

// A done is one operation of which the answer is known.
type done struct {
	op    impl.FsOp
	code  int
	files []impl.File
}

func askDone(t *testing.T, fs impl.Fs, cases []done) {
	t.Helper()
	for _, c := range cases {
		after, code := askStep(t, fs, c.op)
		want := fs
		want.Count, want.Files = fs.Count+1, c.files
		if c.files == nil {
			want.Files = fs.Files
		}
		if code != c.code || !sameFs(after, want) {
			t.Errorf("%s: got %d %s, want %d %s", opName(c.op), code, fsName(after), c.code, fsName(want))
		}
	}
}

func TestEachKindOfOperation(t *testing.T) {
	files := cabinet().Files
	with := func(at int, f impl.File) []impl.File {
		changed := slices.Clone(files)
		changed[at] = f
		return changed
	}
	askDone(t, cabinet(), []done{
		{impl.FsOp{Kind: impl.DoCreate, Name: "a"}, impl.FsExists, nil},
		{impl.FsOp{Kind: impl.DoCreate, Name: "0", Data: "x", Size: 1}, impl.FsExists, nil},
		{impl.FsOp{Kind: impl.DoCreate, Name: "--"}, impl.FsOK, slices.Insert(slices.Clone(files), 1, impl.File{Name: "--"})},
		{impl.FsOp{Kind: impl.DoCreate, Name: "a0", Data: "x", Size: 1}, impl.FsOK, append(slices.Clone(files), impl.File{Name: "a0"})},
		{impl.FsOp{Kind: impl.DoCreate, Name: "a-"}, impl.FsOK, slices.Insert(slices.Clone(files), 3, impl.File{Name: "a-"})},
		{impl.FsOp{Kind: impl.DoAppend, Name: "b", Data: "x"}, impl.FsMissing, nil},
		{impl.FsOp{Kind: impl.DoAppend, Name: "a", Data: ""}, impl.FsOK, nil},
		{impl.FsOp{Kind: impl.DoAppend, Name: "0", Data: "xy"}, impl.FsOK, with(1, impl.File{Name: "0", Data: "xy"})},
		{impl.FsOp{Kind: impl.DoAppend, Name: "-", Data: "12345678"}, impl.FsOK, with(0, impl.File{Name: "-", Data: "abc12345678", Synced: 3})},
		{impl.FsOp{Kind: impl.DoAppend, Name: "-", Data: "123456789"}, impl.FsFull, with(0, impl.File{Name: "-", Data: "abc12345678", Synced: 3})},
		{impl.FsOp{Kind: impl.DoAppend, Name: "a", Data: mixed(100000, 1)}, impl.FsFull, with(2, impl.File{Name: "a", Data: "defgh" + mixed(100000, 1)[:8], Synced: 2})},
		{impl.FsOp{Kind: impl.DoSync, Name: "b"}, impl.FsMissing, nil},
		{impl.FsOp{Kind: impl.DoSync, Name: "-"}, impl.FsOK, nil},
		{impl.FsOp{Kind: impl.DoSync, Name: "a", Data: "x", Size: 1}, impl.FsOK, with(2, impl.File{Name: "a", Data: "defgh", Synced: 5})},
		{impl.FsOp{Kind: impl.DoTruncate, Name: "b", Size: -1}, impl.FsMissing, nil},
		{impl.FsOp{Kind: impl.DoTruncate, Name: "a", Size: -1}, impl.FsBad, nil},
		{impl.FsOp{Kind: impl.DoTruncate, Name: "a", Size: math.MinInt}, impl.FsBad, nil},
		{impl.FsOp{Kind: impl.DoTruncate, Name: "a", Size: 6}, impl.FsBad, nil},
		{impl.FsOp{Kind: impl.DoTruncate, Name: "a", Size: math.MaxInt}, impl.FsBad, nil},
		{impl.FsOp{Kind: impl.DoTruncate, Name: "a", Size: 0}, impl.FsOK, with(2, impl.File{Name: "a"})},
		{impl.FsOp{Kind: impl.DoTruncate, Name: "a", Size: 1}, impl.FsOK, with(2, impl.File{Name: "a", Data: "d", Synced: 1})},
		{impl.FsOp{Kind: impl.DoTruncate, Name: "a", Size: 4}, impl.FsOK, with(2, impl.File{Name: "a", Data: "defg", Synced: 4})},
		{impl.FsOp{Kind: impl.DoTruncate, Name: "a", Size: 5, Data: "x"}, impl.FsOK, with(2, impl.File{Name: "a", Data: "defgh", Synced: 5})},
		{impl.FsOp{Kind: impl.DoTruncate, Name: "0"}, impl.FsOK, nil},
		{impl.FsOp{Kind: impl.DoTruncate, Name: "0", Size: 1}, impl.FsBad, nil},
		{impl.FsOp{Kind: impl.DoDelete, Name: "b"}, impl.FsMissing, nil},
		{impl.FsOp{Kind: impl.DoDelete, Name: "-"}, impl.FsOK, slices.Clone(files)[1:]},
		{impl.FsOp{Kind: impl.DoDelete, Name: "a", Data: "x", Size: 1}, impl.FsOK, slices.Delete(slices.Clone(files), 2, 3)},
		{impl.FsOp{Kind: impl.DoDelete, Name: "a-b"}, impl.FsOK, slices.Clone(files)[:3]},
	})
}

func TestFullFileSystems(t *testing.T) {
	full := validFss()["full"]
	askDone(t, full, []done{
		{impl.FsOp{Kind: impl.DoAppend, Name: "a", Data: ""}, impl.FsOK, nil},
		{impl.FsOp{Kind: impl.DoAppend, Name: "a", Data: "x"}, impl.FsFull, nil},
		{impl.FsOp{Kind: impl.DoAppend, Name: "q", Data: "x"}, impl.FsMissing, nil},
		{impl.FsOp{Kind: impl.DoCreate, Name: "q"}, impl.FsOK, append(slices.Clone(full.Files), impl.File{Name: "q"})},
	})
	many := manyFiles(300)
	askDone(t, many, []done{
		{impl.FsOp{Kind: impl.DoCreate, Name: "f000"}, impl.FsExists, nil},
		{impl.FsOp{Kind: impl.DoCreate, Name: "f300"}, impl.FsFull, nil},
		{impl.FsOp{Kind: impl.DoCreate, Name: "a"}, impl.FsFull, nil},
		{impl.FsOp{Kind: impl.DoDelete, Name: "f299"}, impl.FsOK, manyFiles(299).Files},
	})
	askDone(t, manyFiles(299), []done{{impl.FsOp{Kind: impl.DoCreate, Name: "f299"}, impl.FsOK, many.Files}})
}

// Each case has what comes before it in the order of 6.1 right, and what comes behind it wrong.
func TestOrderOfTheCodes(t *testing.T) {
	missing := impl.FsOp{Kind: impl.DoTruncate, Name: "none", Size: -1}
	type fault func(*impl.Fs)
	down := func(fs *impl.Fs) { fs.Down = true }
	last := func(fs *impl.Fs) { fs.Count = mostCount }
	crash := func(fs *impl.Fs) { fs.CrashAt = fs.Count + 1 }
	fail := func(fs *impl.Fs) { fs.FailAt = fs.Count + 1 }
	wrong := func(fs *impl.Fs) { fs.Cap = 0 }
	cases := []struct {
		op     impl.FsOp
		faults []fault
		code   int
		counts int
		down   bool
	}{
		{missing, nil, impl.FsMissing, 1, false},
		{missing, []fault{fail}, impl.FsFailed, 1, false},
		{missing, []fault{crash}, impl.FsDown, 1, true},
		{missing, []fault{crash, fail}, impl.FsDown, 1, true},
		{missing, []fault{last}, impl.FsFailed, 0, false},
		{missing, []fault{last, func(fs *impl.Fs) { fs.CrashAt, fs.FailAt = mostCount, mostCount }}, impl.FsFailed, 0, false},
		{missing, []fault{func(fs *impl.Fs) { fs.Count = mostCount - 1 }, crash}, impl.FsDown, 1, true},
		{missing, []fault{func(fs *impl.Fs) { fs.Count = mostCount - 1 }, fail}, impl.FsFailed, 1, false},
		{missing, []fault{func(fs *impl.Fs) { fs.Count = mostCount - 1 }}, impl.FsMissing, 1, false},
		{missing, []fault{down}, impl.FsDown, 0, true},
		{missing, []fault{down, last}, impl.FsDown, 0, true},
		{missing, []fault{down, crash, fail}, impl.FsDown, 0, true},
		{missing, []fault{func(fs *impl.Fs) { fs.Count = 0 }}, impl.FsMissing, 1, false},
		{missing, []fault{func(fs *impl.Fs) { fs.CrashAt, fs.FailAt = fs.Count, fs.Count }}, impl.FsMissing, 1, false},
		{missing, []fault{func(fs *impl.Fs) { fs.CrashAt, fs.FailAt = fs.Count+2, fs.Count+2 }}, impl.FsMissing, 1, false},
		{impl.FsOp{Kind: 0, Name: "a"}, []fault{down}, impl.FsBad, 0, false},
		{impl.FsOp{Kind: 6, Name: "a"}, []fault{down, last}, impl.FsBad, 0, false},
		{impl.FsOp{Kind: -1, Name: "a"}, []fault{crash}, impl.FsBad, 0, false},
		{impl.FsOp{Kind: math.MaxInt, Name: "a"}, []fault{fail}, impl.FsBad, 0, false},
		{impl.FsOp{Kind: 1, Name: ""}, []fault{down}, impl.FsBad, 0, false},
		{impl.FsOp{Kind: 2, Name: "A"}, []fault{crash, fail}, impl.FsBad, 0, false},
		{missing, []fault{wrong, down}, impl.FsBad, 0, false},
		{impl.FsOp{Kind: impl.DoSync, Name: "a"}, []fault{wrong, crash}, impl.FsBad, 0, false},
	}
	for i, c := range cases {
		fs := cabinet()
		for _, f := range c.faults {
			f(&fs)
		}
		after, code := askStep(t, fs, c.op)
		want := copyFs(fs)
		want.Count, want.Down = fs.Count+c.counts, c.down
		if c.code == impl.FsBad {
			want = impl.Fs{}
		}
		if code != c.code || !sameFs(after, want) {
			t.Errorf("case %d: got %d %s, want %d %s", i, code, fsName(after), c.code, fsName(want))
		}
	}
}

// A failure or crash leaves every kind of operation undone.
func TestFailuresAndCrashesOfEachKind(t *testing.T) {
	for _, op := range []impl.FsOp{{Kind: 1, Name: "new"}, {Kind: 2, Name: "a", Data: "x"}, {Kind: 3, Name: "a"}, {Kind: 4, Name: "a", Size: 1}, {Kind: 5, Name: "a"}} {
		fs := cabinet()
		fs.FailAt = fs.Count + 1
		failed, code := askStep(t, fs, op)
		if code != impl.FsFailed || failed.Down || !slices.Equal(failed.Files, fs.Files) {
			t.Errorf("%s: got %d %s", opName(op), code, fsName(failed))
		}
		if after, code := askStep(t, failed, op); code != impl.FsOK || slices.Equal(after.Files, fs.Files) {
			t.Errorf("%s: after a failure: got %d %s", opName(op), code, fsName(after))
		}
		fs.CrashAt, fs.FailAt = fs.FailAt, 0
		crashed, code := askStep(t, fs, op)
		if code != impl.FsDown || !crashed.Down || !slices.Equal(crashed.Files, fs.Files) {
			t.Errorf("%s: got %d %s", opName(op), code, fsName(crashed))
		}
		if after, code := askStep(t, crashed, op); code != impl.FsDown || !sameFs(after, crashed) {
			t.Errorf("%s: after a crash: got %d %s", opName(op), code, fsName(after))
		}
	}
}

func TestCrashes(t *testing.T) {
	fs := cabinet()
	fs.CrashAt, fs.FailAt, fs.Down = 7, 9, true
	cases := []struct {
		tails []string
		want  []string
	}{
		{nil, []string{"abc", "", "de", ""}},
		{[]string{}, []string{"abc", "", "de", ""}},
		{[]string{"x"}, []string{"abc", "", "de", ""}},
		{[]string{"", "", "f", "ij"}, []string{"abc", "", "def", "ij"}},
		{[]string{"", "", "fgh", "ijkl"}, []string{"abc", "", "defgh", "ijkl"}},
		{[]string{"", "", "XYZ"}, []string{"abc", "", "deXYZ", ""}},
		{[]string{"x", "y", "12345", "123456789", "more", "tails"}, []string{"abc", "", "de123", "1234"}},
		{[]string{"", "", "", "\x00\xff"}, []string{"abc", "", "de", "\x00\xff"}},
	}
	for _, c := range cases {
		after := askCrash(t, fs, c.tails)
		for i, want := range c.want {
			if f := after.Files[i]; f != (impl.File{Name: fs.Files[i].Name, Data: want, Synced: len(want)}) {
				t.Errorf("tails %q: file %d: got %+v, want %q", c.tails, i, f, want)
			}
		}
		if after.Cap != 20 || after.Count != 7 || after.Down || after.CrashAt != 0 || after.FailAt != 0 {
			t.Errorf("tails %q: got %s", c.tails, fsName(after))
		}
		if again := askCrash(t, after, []string{"x", "y", "z", "w"}); !sameFs(again, after) {
			t.Errorf("tails %q: a second crash changes what is synced: %s", c.tails, fsName(again))
		}
	}
	for what, fs := range validFss() {
		after := askCrash(t, fs, []string{"1", "22", "333", "4444"})
		if after.Cap != fs.Cap || after.Count != fs.Count || after.Down || after.CrashAt != 0 || after.FailAt != 0 {
			t.Errorf("%s: got %s", what, fsName(after))
		}
	}
}

func TestTailsOfEveryLength(t *testing.T) {
	const size = 12
	for synced := range size + 1 {
		for length := range size + 4 {
			fs := impl.Fs{Cap: 3 * size, Files: []impl.File{
				{Name: "a", Data: mixed(size, 1), Synced: synced}, {Name: "b", Data: mixed(size, 2), Synced: size - synced}, {Name: "c", Data: mixed(size, 3), Synced: synced},
			}}
			askCrash(t, fs, []string{mixed(length, 4), mixed(size+4-length, 5), fs.Files[2].Data[synced:]})
			askCrash(t, fs, []string{mixed(length, 6)})
			askCrash(t, fs, []string{"", "", mixed(length, 7), mixed(length, 8)})
		}
	}
}

func anyFileName(source *rand.Rand) string {
	return pick(source, []string{"a", "b", "c", "d", "ab", "a-b", "-", "0", "seg-0001", "seg-0002", strings.Repeat("n", 30)})
}

func nearCount(source *rand.Rand, count int) int {
	return pick(source, []int{0, 0, 0, count, min(count+1, mostCount), min(count+2, mostCount), mostCount})
}

// anyFs is valid.
func anyFs(source *rand.Rand) impl.Fs {
	files := map[string]impl.File{}
	used := 0
	for range source.Intn(6) {
		data := mixed(source.Intn(8), source.Intn(1000))
		name := anyFileName(source)
		used += len(data) - len(files[name].Data)
		files[name] = impl.File{Name: name, Data: data, Synced: source.Intn(len(data) + 1)}
	}
	fs := impl.Fs{Cap: min(used+pick(source, []int{0, 1, 3, 10, mostCap}), mostCap), Count: pick(source, []int{0, 1, 5, mostCount - 1, mostCount}), Down: source.Intn(10) == 0}
	fs.CrashAt, fs.FailAt = nearCount(source, fs.Count), nearCount(source, fs.Count)
	for _, name := range slices.Sorted(maps.Keys(files)) {
		fs.Files = append(fs.Files, files[name])
	}
	return fs
}

// spoilFs changes one thing, by which fs may be valid still.
func spoilFs(source *rand.Rand, fs *impl.Fs) {
	number := pick(source, []int{-1, 0, 1, mostCap, mostCap + 1, mostCount, mostCount + 1, math.MinInt, math.MaxInt})
	switch source.Intn(6) {
	case 0:
		fs.Cap = number
	case 1:
		fs.Count = number
	case 2:
		fs.CrashAt = number
	case 3:
		fs.FailAt = number
	}
	if len(fs.Files) == 0 {
		return
	}
	f := &fs.Files[source.Intn(len(fs.Files))]
	switch source.Intn(8) {
	case 0:
		f.Synced = len(f.Data) + pick(source, []int{0, 1})
	case 1:
		f.Synced = -source.Intn(2)
	case 2:
		f.Name = pick(source, []string{"", "A", "a b", "a_b", strings.Repeat("n", 31), "b", "c", "\x80"})
	case 3:
		f.Data += mixed(source.Intn(12), 1)
	case 4:
		slices.Reverse(fs.Files)
	}
}

func anyOp(source *rand.Rand) impl.FsOp {
	op := impl.FsOp{Kind: 1 + source.Intn(5), Name: anyFileName(source), Data: mixed(source.Intn(8), source.Intn(1000)), Size: source.Intn(10) - 1}
	if source.Intn(20) == 0 {
		op.Kind = pick(source, []int{0, 6, -1, 100})
	}
	if source.Intn(20) == 0 {
		op.Name = pick(source, []string{"", "A", "a.b", strings.Repeat("n", 31)})
	}
	return op
}

func TestManyFileSystemsAndOperations(t *testing.T) {
	source := rand.New(rand.NewSource(61))
	met := tally{}
	for range 60000 {
		fs := anyFs(source)
		askValid(t, fsName(fs), fs, true)
		op := anyOp(source)
		_, code := askStep(t, fs, op)
		met[fmt.Sprint("kind ", op.Kind, " code ", code)]++
		askCrash(t, fs, []string{mixed(source.Intn(9), 1), mixed(source.Intn(9), 2), mixed(source.Intn(9), 3)}[:source.Intn(4)])
		spoilFs(source, &fs)
		askValid(t, fsName(fs), fs, plainFsValid(fs))
		met[fmt.Sprint("valid ", plainFsValid(fs))]++
		askStep(t, fs, op)
		askCrash(t, fs, []string{mixed(source.Intn(9), 4)})
	}
	met.need(t, "valid true", "valid false", "kind 0 code 16", "kind 6 code 16", "kind 1 code 15", "kind 4 code 16")
	for kind := 1; kind <= 5; kind++ {
		for _, code := range []int{impl.FsOK, impl.FsDown, impl.FsFailed, impl.FsBad} {
			met.need(t, fmt.Sprint("kind ", kind, " code ", code))
		}
		if kind > 1 {
			met.need(t, fmt.Sprint("kind ", kind, " code ", impl.FsMissing))
		}
	}
	met.need(t, fmt.Sprint("kind ", impl.DoAppend, " code ", impl.FsFull))
}

func TestOperationsOneAfterAnother(t *testing.T) {
	source := rand.New(rand.NewSource(62))
	for range 300 {
		fs := impl.Fs{Cap: source.Intn(60), CrashAt: source.Intn(100), FailAt: source.Intn(50)}
		for range 60 {
			next, code := askStep(t, fs, anyOp(source))
			if code != impl.FsBad || next.Cap != 0 {
				fs = next
			}
			if fs.Down {
				fs = askCrash(t, fs, []string{mixed(3, 1), mixed(3, 2), mixed(3, 3), mixed(3, 4)}[:source.Intn(5)])
			}
		}
	}
}
