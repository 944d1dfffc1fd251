package tests

import (
	"fmt"
	"maps"
	"math"
	"math/rand"
	"reflect"
	"regexp"
	"slices"
	"strconv"
	"strings"
	"sync"
	"testing"

	"loop.example/s02884/impl"
)

var plainSegment = regexp.MustCompile(`\Aseg-([0-9]{4})\z`)

func segName(n int) string { return fmt.Sprintf("seg-%04d", n) }

// plainSegments are the segments by their numbers.
func plainSegments(fs impl.Fs) map[int]impl.File {
	segments := map[int]impl.File{}
	for _, f := range fs.Files {
		if m := plainSegment.FindStringSubmatch(f.Name); m != nil && m[1] != "0000" {
			n, _ := strconv.Atoi(m[1])
			segments[n] = f
		}
	}
	return segments
}

// plainReading tells the operations that 6.3 asks for, the log and the entries.
func plainReading(fs impl.Fs) ([]impl.FsOp, impl.Log, []string) {
	segments := plainSegments(fs)
	entries, last, size := []string{}, 0, 0
	for n := 1; ; n++ {
		f, isThere := segments[n]
		if !isThere {
			break
		}
		found, length := plainScan(f.Data)
		entries, last, size = append(entries, found...), n, length
		if length != len(f.Data) {
			break
		}
	}
	ops := []impl.FsOp{}
	for _, n := range slices.Backward(slices.Sorted(maps.Keys(segments))) {
		if n > last {
			ops = append(ops, impl.FsOp{Kind: 5, Name: segName(n)})
		}
	}
	f := segments[last]
	switch {
	case last == 0:
		return append(ops, impl.FsOp{Kind: 1, Name: "seg-0001"}), impl.Log{Last: 1}, entries
	case len(f.Data) > size:
		ops = append(ops, impl.FsOp{Kind: 4, Name: segName(last), Size: size})
	case f.Synced < len(f.Data):
		ops = append(ops, impl.FsOp{Kind: 3, Name: segName(last)})
	}
	return ops, impl.Log{Last: last, Size: size}, entries
}

func plainRecover(fs impl.Fs) (impl.Fs, impl.Log, []string, int) {
	if !plainFsValid(fs) {
		return impl.Fs{}, impl.Log{}, nil, 16
	}
	if fs.Down {
		return fs, impl.Log{}, nil, 11
	}
	ops, log, entries := plainReading(fs)
	if len(entries) > 2000 {
		return fs, impl.Log{}, nil, 22
	}
	for _, op := range ops {
		code := 0
		if fs, code = plainFsStep(fs, op); code != 0 {
			return fs, impl.Log{}, nil, code
		}
	}
	return fs, log, entries, 0
}

func plainAppend(fs impl.Fs, log impl.Log, entry string, most int) (impl.Fs, impl.Log, int) {
	if !isWithin(len(entry), 1, 60000) || !isWithin(log.Last, 1, 9999) || !isWithin(log.Size, 0, mostCap) || !isWithin(most, 1, mostCap) {
		return fs, log, 22
	}
	f, code := plainFrame(entry), 0
	if log.Size != 0 && log.Size+len(f) > most {
		if log.Last == 9999 {
			return fs, log, 21
		}
		if fs, code = plainFsStep(fs, impl.FsOp{Kind: 1, Name: segName(log.Last + 1)}); code != 0 {
			return fs, log, code
		}
		log = impl.Log{Last: log.Last + 1, Size: 0}
	}
	for _, op := range []impl.FsOp{{Kind: 2, Name: segName(log.Last), Data: f}, {Kind: 3, Name: segName(log.Last)}} {
		if fs, code = plainFsStep(fs, op); code == 0 {
			continue
		}
		if code == 11 || code == 16 {
			return fs, log, code
		}
		after, cleaned := plainFsStep(fs, impl.FsOp{Kind: 4, Name: segName(log.Last), Size: log.Size})
		switch cleaned {
		case 0:
			return after, log, code
		case 11:
			return after, log, 11
		}
		return after, log, 20
	}
	log.Size += len(f)
	return fs, log, 0
}

// askRecover holds Recover against the plain reading, and gives what it answered.
func askRecover(t *testing.T, fs impl.Fs) (impl.Fs, impl.Log, []string, int) {
	t.Helper()
	given := roomyFs(fs)
	before := wholeFs(given)
	after, log, entries, code := impl.Recover(given)
	again, _, others, _ := impl.Recover(given)
	if !reflect.DeepEqual(wholeFs(given), before) {
		t.Errorf("the argument is changed: %s", fsName(fs))
	}
	if !areApart(addSpan(nil, given.Files), addSpan(nil, after.Files), addSpan(nil, again.Files), addSpan(nil, entries), addSpan(nil, others)) {
		t.Errorf("memory is shared: %s", fsName(fs))
	}
	want, wantLog, wantEntries, wantCode := plainRecover(fs)
	if code != wantCode || log != wantLog || !slices.Equal(entries, wantEntries) || !slices.Equal(others, wantEntries) {
		t.Errorf("recovery of %s: got %d %v, %d entries, want %d %v, %d", fsName(fs), code, log, len(entries), wantCode, wantLog, len(wantEntries))
	}
	if !sameFs(after, want) || !sameFs(again, want) || !impl.FsValid(after) {
		t.Errorf("recovery of %s: got %s, want %s", fsName(fs), fsName(after), fsName(want))
	}
	for _, entry := range entries {
		for _, f := range fs.Files {
			if liesIn(entry, f.Data) {
				t.Errorf("recovery of %s: an entry lies in the bytes of %s", fsName(fs), f.Name)
			}
		}
	}
	return after, log, entries, code
}

// askAppend holds AppendEntry against the plain reading, and gives what it answered.
func askAppend(t *testing.T, fs impl.Fs, log impl.Log, entry string, most int) (impl.Fs, impl.Log, int) {
	t.Helper()
	given := roomyFs(fs)
	before := wholeFs(given)
	after, newLog, code := impl.AppendEntry(given, log, entry, most)
	again, _, _ := impl.AppendEntry(given, log, entry, most)
	if !reflect.DeepEqual(wholeFs(given), before) {
		t.Errorf("the argument is changed: %s", fsName(fs))
	}
	if !areApart(addSpan(nil, given.Files), addSpan(nil, after.Files), addSpan(nil, again.Files)) {
		t.Errorf("memory is shared: %s", fsName(fs))
	}
	want, wantLog, wantCode := plainAppend(fs, log, entry, most)
	if code != wantCode || newLog != wantLog || !sameFs(after, want) || !sameFs(again, want) {
		t.Errorf("%s to %v of %s, most %d: got %d %v %s, want %d %v %s", short(entry), log, fsName(fs), most, code, newLog, fsName(after), wantCode, wantLog, fsName(want))
	}
	if impl.FsValid(fs) && !impl.FsValid(after) {
		t.Errorf("%s to %v of %s: no longer valid: %s", short(entry), log, fsName(fs), fsName(after))
	}
	return after, newLog, code
}

func framesOf(entries ...string) string {
	data := ""
	for _, entry := range entries {
		data += plainFrame(entry)
	}
	return data
}

// synced is a file all of whose bytes are synced.
func synced(name string, data ...string) impl.File {
	all := strings.Join(data, "")
	return impl.File{Name: name, Data: all, Synced: len(all)}
}

// loose is a file of which only so many bytes are synced.
func loose(name string, n int, data ...string) impl.File {
	return impl.File{Name: name, Data: strings.Join(data, ""), Synced: n}
}

func fsOf(files ...impl.File) impl.Fs {
	fs := impl.Fs{Cap: 1000, Count: 40, Files: files}
	slices.SortFunc(fs.Files, func(a, b impl.File) int { return strings.Compare(a.Name, b.Name) })
	for _, f := range files {
		fs.Cap += len(f.Data)
	}
	return fs
}

// nearlySegments are files with names that no segment has, and frames in them.
func nearlySegments() []impl.File {
	files := []impl.File{}
	for _, name := range []string{"seg-0000", "seg-001", "seg-00010", "seg-a001", "seg-000a", "seg-", "seg", "seg--001", "seg-1", "seg-10000", "seg-00001", "seg0001", "0001", "-0001", "seg-0001-", "xseg-0001", "sef-0001", "zeg-0001", "seg-00-1", "seg-0001a", "seg-0x01", "seg-9223372036854770808", "seg-00000001"} {
		files = append(files, loose(name, 3, framesOf("other "+name), "junk"))
	}
	return files
}

type recovery struct {
	what    string
	files   []impl.File
	log     impl.Log
	entries []string
	left    []impl.File
	steps   int
}

func recoveries() []recovery {
	one, two, three := framesOf("one"), framesOf("two", "deux"), framesOf("three")
	bad := "\x00\x00\x00\x01\x00\x00\x00\x00x"
	first, second, third := synced("seg-0001", one), synced("seg-0002", two), synced("seg-0003", three)
	empty := synced("seg-0001")
	all := []string{"one", "two", "deux", "three"}
	return []recovery{
		{"no files", nil, impl.Log{Last: 1}, nil, []impl.File{empty}, 1},
		{"other files", []impl.File{synced("log", one)}, impl.Log{Last: 1}, nil, []impl.File{synced("log", one), empty}, 1},
		{"no segment 1", []impl.File{second, third}, impl.Log{Last: 1}, nil, []impl.File{empty}, 3},
		{"no segment 1, gaps", []impl.File{synced("seg-0009", one), synced("seg-0010"), synced("seg-9999", bad)}, impl.Log{Last: 1}, nil, []impl.File{empty}, 4},
		{"segment 0 alone", []impl.File{synced("seg-0000", one)}, impl.Log{Last: 1}, nil, []impl.File{synced("seg-0000", one), empty}, 1},
		{"an empty segment", []impl.File{empty}, impl.Log{Last: 1}, nil, []impl.File{empty}, 0},
		{"one segment", []impl.File{first}, impl.Log{Last: 1, Size: 11}, all[:1], []impl.File{first}, 0},
		{"not synced", []impl.File{loose("seg-0001", 0, one)}, impl.Log{Last: 1, Size: 11}, all[:1], []impl.File{first}, 1},
		{"partly synced", []impl.File{loose("seg-0001", 10, one)}, impl.Log{Last: 1, Size: 11}, all[:1], []impl.File{first}, 1},
		{"bytes behind", []impl.File{synced("seg-0001", one, "x")}, impl.Log{Last: 1, Size: 11}, all[:1], []impl.File{first}, 1},
		{"bytes behind, not synced", []impl.File{loose("seg-0001", 11, one, "x")}, impl.Log{Last: 1, Size: 11}, all[:1], []impl.File{first}, 1},
		{"nothing synced, bytes behind", []impl.File{loose("seg-0001", 0, one, "x")}, impl.Log{Last: 1, Size: 11}, all[:1], []impl.File{first}, 1},
		{"no frame at all", []impl.File{synced("seg-0001", bad, one)}, impl.Log{Last: 1}, nil, []impl.File{empty}, 1},
		{"three segments", []impl.File{first, second, third}, impl.Log{Last: 3, Size: 13}, all, []impl.File{first, second, third}, 0},
		{"last not synced", []impl.File{first, second, loose("seg-0003", 1, three)}, impl.Log{Last: 3, Size: 13}, all, []impl.File{first, second, third}, 1},
		{"others not synced", []impl.File{loose("seg-0001", 1, one), loose("seg-0002", 2, two), third}, impl.Log{Last: 3, Size: 13}, all, []impl.File{loose("seg-0001", 1, one), loose("seg-0002", 2, two), third}, 0},
		{"an empty one between", []impl.File{first, synced("seg-0002"), third}, impl.Log{Last: 3, Size: 13}, []string{"one", "three"}, []impl.File{first, synced("seg-0002"), third}, 0},
		{"an empty one at the end", []impl.File{first, second, synced("seg-0003")}, impl.Log{Last: 3}, all[:3], []impl.File{first, second, synced("seg-0003")}, 0},
		{"gap behind 1", []impl.File{first, third}, impl.Log{Last: 1, Size: 11}, all[:1], []impl.File{first}, 1},
		{"gap behind 2", []impl.File{first, second, synced("seg-0004", three), synced("seg-0005", bad)}, impl.Log{Last: 2, Size: 23}, all[:3], []impl.File{first, second}, 2},
		{"gap, not synced", []impl.File{loose("seg-0001", 4, one), third, synced("seg-0300", three)}, impl.Log{Last: 1, Size: 11}, all[:1], []impl.File{first}, 3},
		{"bad frame in the first", []impl.File{synced("seg-0001", one, bad, one), second, third}, impl.Log{Last: 1, Size: 11}, all[:1], []impl.File{first}, 3},
		{"bad frame in the middle", []impl.File{first, synced("seg-0002", two, bad), third}, impl.Log{Last: 2, Size: 23}, all[:3], []impl.File{first, second}, 2},
		{"middle begins with a bad one", []impl.File{first, synced("seg-0002", bad, two), third, synced("seg-1000")}, impl.Log{Last: 2}, all[:1], []impl.File{first, synced("seg-0002")}, 3},
		{"bad frame in the last", []impl.File{first, second, loose("seg-0003", 13, three, bad, three)}, impl.Log{Last: 3, Size: 13}, all, []impl.File{first, second, third}, 1},
		{"nearly segments", append(nearlySegments(), first, third), impl.Log{Last: 1, Size: 11}, all[:1], append(nearlySegments(), first), 1},
		{"nearly segments alone", nearlySegments(), impl.Log{Last: 1}, nil, append(nearlySegments(), empty), 1},
	}
}

func TestRecoveries(t *testing.T) {
	for _, c := range recoveries() {
		fs := fsOf(c.files...)
		after, log, entries, code := askRecover(t, fs)
		left := fsOf(c.left...).Files
		if code != impl.FsOK || log != c.log || !slices.Equal(entries, c.entries) || !slices.Equal(after.Files, left) {
			t.Errorf("%s: got %d %v %q %s", c.what, code, log, entries, fsName(after))
		}
		if after.Count != fs.Count+c.steps || after.Cap != fs.Cap || after.Down {
			t.Errorf("%s: got count %d, want %d steps", c.what, after.Count, c.steps)
		}
		again, log, entries, code := askRecover(t, after)
		if code != impl.FsOK || log != c.log || !slices.Equal(entries, c.entries) || !sameFs(again, after) {
			t.Errorf("%s: a second recovery: got %d %v %q %s", c.what, code, log, entries, fsName(again))
		}
	}
}

// Each operation of a recovery fails, or crashes, once; what is done by then stays done.
func TestRecoveriesThatEndEarly(t *testing.T) {
	for _, c := range recoveries() {
		for at := 1; at <= c.steps+1; at++ {
			fs := fsOf(c.files...)
			fs.FailAt = fs.Count + at
			failed, log, entries, code := askRecover(t, fs)
			isEnd := at > c.steps
			if isEnd != (code == impl.FsOK) || !isEnd && (code != impl.FsFailed || log != impl.Log{} || len(entries) != 0 || failed.Count != fs.Count+at || failed.Down) {
				t.Errorf("%s: failure at %d: got %d %v %q %s", c.what, at, code, log, entries, fsName(failed))
			}
			_, log, entries, code = askRecover(t, failed)
			if code != impl.FsOK || log != c.log || !slices.Equal(entries, c.entries) {
				t.Errorf("%s: after a failure at %d: got %d %v %q", c.what, at, code, log, entries)
			}
			fs.CrashAt = fs.FailAt
			crashed, log, entries, code := askRecover(t, fs)
			if isEnd != (code == impl.FsOK) || !isEnd && (code != impl.FsDown || log != impl.Log{} || len(entries) != 0 || !crashed.Down) {
				t.Errorf("%s: crash at %d: got %d %v %q %s", c.what, at, code, log, entries, fsName(crashed))
			}
			if !isEnd {
				if again, _, _, code := askRecover(t, crashed); code != impl.FsDown || !sameFs(again, crashed) {
					t.Errorf("%s: down after a crash at %d: got %d %s", c.what, at, code, fsName(again))
				}
			}
		}
		fs := fsOf(c.files...)
		fs.Count = mostCount
		after, _, _, code := askRecover(t, fs)
		if (code == impl.FsFailed) != (c.steps > 0) || !sameFs(after, fs) {
			t.Errorf("%s: at the last count: got %d %s", c.what, code, fsName(after))
		}
	}
}

func TestHighestSegmentIsDeletedFirst(t *testing.T) {
	fs := fsOf(synced("seg-0002"), synced("seg-0003"), synced("seg-0010"), synced("seg-0009"), synced("seg-1000"), synced("seg-0999"), synced("x"))
	order := []string{"seg-0002", "seg-0003", "seg-0009", "seg-0010", "seg-0999", "seg-1000"}
	for at := 1; at <= 7; at++ {
		fs.CrashAt = fs.Count + at
		after, _, _, code := askRecover(t, fs)
		names := []string{}
		for _, f := range after.Files {
			names = append(names, f.Name)
		}
		if code != impl.FsDown || !slices.Equal(names, append(slices.Clone(order[:7-at]), "x")) {
			t.Errorf("crash at %d: got %d %q", at, code, names)
		}
	}
}

func TestRecoveriesThatDoNotBegin(t *testing.T) {
	for what, fs := range wrongFss() {
		for _, isDown := range []bool{false, true} {
			fs.Down = isDown
			after, log, entries, code := askRecover(t, fs)
			if code != impl.FsBad || !sameFs(after, impl.Fs{}) || log != (impl.Log{}) || len(entries) != 0 {
				t.Errorf("%s: got %d %v %q %s", what, code, log, entries, fsName(after))
			}
		}
	}
	for _, c := range recoveries() {
		fs := fsOf(c.files...)
		fs.Down, fs.CrashAt, fs.FailAt = true, fs.Count+1, fs.Count+1
		after, log, entries, code := askRecover(t, fs)
		if code != impl.FsDown || !sameFs(after, fs) || log != (impl.Log{}) || len(entries) != 0 {
			t.Errorf("%s: down: got %d %v %q %s", c.what, code, log, entries, fsName(after))
		}
	}
}

func TestRecoveriesOfFullFileSystems(t *testing.T) {
	fs := manyFiles(300)
	after, log, _, code := askRecover(t, fs)
	if code != impl.FsFull || log != (impl.Log{}) || !slices.Equal(after.Files, fs.Files) || after.Count != 1 {
		t.Errorf("all files: got %d %v %s", code, log, fsName(after))
	}
	fs.Files[299].Name = "seg-0002"
	if after, log, _, code = askRecover(t, fs); code != impl.FsOK || log != (impl.Log{Last: 1}) || after.Count != 2 || len(after.Files) != 300 {
		t.Errorf("a segment among them: got %d %v %s", code, log, fsName(after))
	}
	// A full file system needs no room for what recovery does.
	for _, c := range recoveries() {
		fs := fsOf(c.files...)
		fs.Cap -= 1000
		if _, log, entries, code := askRecover(t, fs); code != impl.FsOK || log != c.log || !slices.Equal(entries, c.entries) {
			t.Errorf("%s: got %d %v %q", c.what, code, log, entries)
		}
	}
	// As many segments as there may be files.
	many, each := impl.Fs{Cap: 10000}, []string{}
	for n := range 300 {
		each = append(each, fmt.Sprint(n))
		many.Files = append(many.Files, synced(segName(n+1), framesOf(each[n])))
	}
	_, log, entries, code := askRecover(t, many)
	if code != impl.FsOK || log != (impl.Log{Last: 300, Size: 11}) || !slices.Equal(entries, each) {
		t.Errorf("300 segments: got %d %v, %d entries", code, log, len(entries))
	}
	if after, _, code := askAppend(t, many, log, "x", 12); code != impl.FsFull || after.Count != 1 {
		t.Errorf("300 segments: one more: got %d", code)
	}
	many.Files[0].Data = many.Files[0].Data[:8]
	many.Files[0].Synced = 0
	if after, log, _, code := askRecover(t, many); code != impl.FsOK || log != (impl.Log{Last: 1}) || after.Count != 300 || len(after.Files) != 1 {
		t.Errorf("300 segments, the first bad: got %d %v %s", code, log, fsName(after))
	}
}

func TestTooManyEntries(t *testing.T) {
	bad := "\x00\x00\x00\x01\x00\x00\x00\x00x"
	half := framesOf(numbered(1000, "n")...)
	cases := []struct {
		what  string
		files []impl.File
		code  int
		size  int
	}{
		{"2000 in one", []impl.File{synced("seg-0001", half, half)}, impl.FsOK, 2000},
		{"2001 in one", []impl.File{synced("seg-0001", half, half, framesOf("x"))}, impl.JournalSize, 0},
		{"2000 in two", []impl.File{synced("seg-0001", half), synced("seg-0002", half)}, impl.FsOK, 2000},
		{"2001 in two", []impl.File{synced("seg-0001", half, framesOf("x")), synced("seg-0002", half)}, impl.JournalSize, 0},
		{"2001 in three", []impl.File{synced("seg-0001", half), synced("seg-0002", half), synced("seg-0003", framesOf("x"))}, impl.JournalSize, 0},
		{"4000 in four", []impl.File{synced("seg-0001", half), synced("seg-0002", half), synced("seg-0003", half), synced("seg-0004", half)}, impl.JournalSize, 0},
		{"one behind a bad frame", []impl.File{synced("seg-0001", half, half, bad, framesOf("x"))}, impl.FsOK, 2000},
		{"one behind a gap", []impl.File{synced("seg-0001", half), synced("seg-0002", half), synced("seg-0004", framesOf("x"))}, impl.FsOK, 2000},
		{"many behind a bad segment", []impl.File{synced("seg-0001", half, bad), synced("seg-0002", half, half)}, impl.FsOK, 1000},
		{"one, not synced", []impl.File{loose("seg-0001", 0, half, half, framesOf("x"))}, impl.JournalSize, 0},
		{"one and a bad frame", []impl.File{synced("seg-0001", half, half, framesOf("x"), bad), synced("seg-0002")}, impl.JournalSize, 0},
		{"many without segment 1", []impl.File{synced("seg-0002", half, half, half)}, impl.FsOK, 0},
		{"many in no segment", []impl.File{synced("seg-0000", half, half, half), synced("seg-0001", framesOf("x"))}, impl.FsOK, 1},
	}
	for _, c := range cases {
		fs := fsOf(c.files...)
		after, log, entries, code := askRecover(t, fs)
		if code != c.code || len(entries) != c.size {
			t.Errorf("%s: got %d, %d entries", c.what, code, len(entries))
		}
		if code != impl.JournalSize {
			continue
		}
		if log != (impl.Log{}) || !sameFs(after, fs) {
			t.Errorf("%s: got %v %s", c.what, log, fsName(after))
		}
		fs.CrashAt, fs.FailAt = fs.Count+1, fs.Count+1
		if after, _, _, code := askRecover(t, fs); code != impl.JournalSize || !sameFs(after, fs) {
			t.Errorf("%s, with a crash ahead: got %d %s", c.what, code, fsName(after))
		}
		fs.Down = true
		if _, _, _, code := askRecover(t, fs); code != impl.FsDown {
			t.Errorf("%s, down: got %d", c.what, code)
		}
		fs.Cap = 0
		if _, _, _, code := askRecover(t, fs); code != impl.FsBad {
			t.Errorf("%s, not valid: got %d", c.what, code)
		}
	}
}

func TestAppendsThatAreNoJournals(t *testing.T) {
	good := fsOf(synced("seg-0001", framesOf("one")))
	log, least := impl.Log{Last: 1, Size: 11}, math.MinInt
	crashing := changedFs(good, func(fs *impl.Fs) { fs.CrashAt = fs.Count + 1 })
	down := changedFs(good, func(fs *impl.Fs) { fs.Down = true })
	cases := []struct {
		log   impl.Log
		entry string
		most  int
	}{
		{log, "", 100}, {log, mixed(60001, 1), 100}, {log, mixed(200000, 1), mostCap},
		{impl.Log{}, "x", 100}, {impl.Log{Last: -1}, "x", 100}, {impl.Log{Last: 10000}, "x", 100}, {impl.Log{Last: least}, "x", 100}, {impl.Log{Last: math.MaxInt}, "x", 100},
		{impl.Log{Last: 1, Size: -1}, "x", 100}, {impl.Log{Last: 1, Size: mostCap + 1}, "x", 100}, {impl.Log{Last: 1, Size: least}, "x", 100}, {impl.Log{Last: 1, Size: math.MaxInt}, "x", 100},
		{log, "x", 0}, {log, "x", -1}, {log, "x", mostCap + 1}, {log, "x", least}, {log, "x", math.MaxInt},
		{impl.Log{Last: 9999, Size: 90}, "", 50}, {impl.Log{Last: 10000, Size: 90}, "x", 50},
	}
	fss := []impl.Fs{good, crashing, down, {}, manyFiles(301), {Cap: -1, Down: true, Files: []impl.File{{Name: "B", Synced: 4}, {Name: "A", Data: "x"}}}}
	for _, c := range cases {
		for _, fs := range fss {
			after, newLog, code := askAppend(t, fs, c.log, c.entry, c.most)
			if code != impl.JournalSize || newLog != c.log || !sameFs(after, fs) {
				t.Errorf("%d bytes, %v, most %d: got %d %v %s", len(c.entry), c.log, c.most, code, newLog, fsName(after))
			}
		}
	}
	for _, fs := range fss {
		last := impl.Log{Last: 9999, Size: 11}
		after, newLog, code := askAppend(t, fs, last, "x", 19)
		if code != impl.JournalEnd || newLog != last || !sameFs(after, fs) {
			t.Errorf("the last segment: got %d %v %s", code, newLog, fsName(after))
		}
	}
	for what, fs := range wrongFss() {
		for _, most := range []int{100, 12} {
			after, newLog, code := askAppend(t, fs, log, "x", most)
			if code != impl.FsBad || newLog != log || !sameFs(after, impl.Fs{}) {
				t.Errorf("%s: got %d %v %s", what, code, newLog, fsName(after))
			}
		}
	}
}

func TestAppendsAtTheBounds(t *testing.T) {
	one := framesOf("one")
	fs := fsOf(synced("seg-0001", one), synced("seg-9998", one), synced("seg-9999", one))
	fs.Cap = mostCap
	at := func(n int) impl.Log { return impl.Log{Last: n, Size: 11} }
	longest := mixed(60000, 3)
	cases := []struct {
		log   impl.Log
		entry string
		most  int
		want  impl.Log
		code  int
		steps int
	}{
		{at(1), "x", 20, impl.Log{Last: 1, Size: 20}, impl.FsOK, 2},
		{at(1), "x", 19, impl.Log{Last: 2, Size: 9}, impl.FsOK, 3},
		{at(1), "x", 1, impl.Log{Last: 2, Size: 9}, impl.FsOK, 3},
		{at(1), "x", mostCap, impl.Log{Last: 1, Size: 20}, impl.FsOK, 2},
		{at(1), longest, 60019, impl.Log{Last: 1, Size: 60019}, impl.FsOK, 2},
		{at(1), longest, 60018, impl.Log{Last: 2, Size: 60008}, impl.FsOK, 3},
		{at(9998), "x", 20, impl.Log{Last: 9998, Size: 20}, impl.FsOK, 2},
		{at(9998), "x", 19, at(9998), impl.FsExists, 1},
		{at(9999), "x", 20, impl.Log{Last: 9999, Size: 20}, impl.FsOK, 2},
		{at(9999), "x", 19, at(9999), impl.JournalEnd, 0},
		{impl.Log{Last: 1, Size: mostCap}, "x", mostCap, impl.Log{Last: 2, Size: 9}, impl.FsOK, 3},
		{impl.Log{Last: 1, Size: mostCap - 9}, "x", mostCap, impl.Log{Last: 1, Size: mostCap}, impl.FsOK, 2},
		{impl.Log{Last: 9999, Size: mostCap}, "x", mostCap, impl.Log{Last: 9999, Size: mostCap}, impl.JournalEnd, 0},
	}
	for i, c := range cases {
		after, log, code := askAppend(t, fs, c.log, c.entry, c.most)
		if code != c.code || log != c.want || after.Count != fs.Count+c.steps {
			t.Errorf("case %d: got %d %v count %d", i, code, log, after.Count)
		}
	}
	// An entry whose frame alone is above most goes to a segment that is empty, whatever its number.
	for _, n := range []int{1, 2, 9999} {
		fs := fsOf(synced(segName(n)))
		for _, most := range []int{1, 8, 9, 10} {
			after, log, code := askAppend(t, fs, impl.Log{Last: n}, "x", most)
			if code != impl.FsOK || log != (impl.Log{Last: n, Size: 9}) || !slices.Equal(after.Files, []impl.File{synced(segName(n), framesOf("x"))}) || after.Count != 42 {
				t.Errorf("segment %d, most %d: got %d %v %s", n, most, code, log, fsName(after))
			}
		}
	}
}

// An appending is one AppendEntry in which something goes wrong.
type appending struct {
	what        string
	change      func(*impl.Fs)
	code        int
	log         impl.Log
	first, next string
	synced      int
	steps       int
}

// In the file systems of these two tests segment 1 holds one frame, of 11 bytes; the frame to come has 11 bytes, too.
func askAppendings(t *testing.T, most int, cases []appending) {
	t.Helper()
	one := framesOf("one")
	for _, c := range cases {
		fs := fsOf(synced("seg-0001", one))
		c.change(&fs)
		after, log, code := askAppend(t, fs, impl.Log{Last: 1, Size: 11}, "two", most)
		want := []impl.File{loose("seg-0001", 11, one, c.first)}
		if c.next != "none" {
			want = append(want, loose("seg-0002", c.synced, c.next))
		} else {
			want[0].Synced += c.synced
		}
		if code != c.code || log != c.log || !slices.Equal(after.Files, want) || after.Count != fs.Count+c.steps || after.Down != (code == impl.FsDown) {
			t.Errorf("%s: got %d %v %s, want %v", c.what, code, log, fsName(after), want)
		}
	}
}

func failAt(n int) func(*impl.Fs) { return func(fs *impl.Fs) { fs.FailAt = fs.Count + n } }

func crashAt(n int) func(*impl.Fs) { return func(fs *impl.Fs) { fs.CrashAt = fs.Count + n } }

func roomFor(n int, more ...func(*impl.Fs)) func(*impl.Fs) {
	return func(fs *impl.Fs) {
		fs.Cap = 11 + n
		for _, change := range more {
			change(fs)
		}
	}
}

func countsLeft(n int) func(*impl.Fs) { return func(fs *impl.Fs) { fs.Count = mostCount - n } }

func TestAppendsThatGoWrong(t *testing.T) {
	frame := framesOf("two")
	was := impl.Log{Last: 1, Size: 11}
	both := func(fs *impl.Fs) { fs.FailAt, fs.CrashAt = fs.Count+2, fs.Count+3 }
	askAppendings(t, 22, []appending{
		{"nothing", failAt(0), impl.FsOK, impl.Log{Last: 1, Size: 22}, frame, "none", 11, 2},
		{"a failure too late", failAt(3), impl.FsOK, impl.Log{Last: 1, Size: 22}, frame, "none", 11, 2},
		{"append fails", failAt(1), impl.FsFailed, was, "", "none", 0, 2},
		{"sync fails", failAt(2), impl.FsFailed, was, "", "none", 0, 3},
		{"append crashes", crashAt(1), impl.FsDown, was, "", "none", 0, 1},
		{"sync crashes", crashAt(2), impl.FsDown, was, frame, "none", 0, 2},
		{"sync fails, cleaning crashes", both, impl.FsDown, was, frame, "none", 0, 3},
		{"append fails, cleaning crashes", func(fs *impl.Fs) { fs.FailAt, fs.CrashAt = fs.Count+1, fs.Count+2 }, impl.FsDown, was, "", "none", 0, 2},
		{"no room", roomFor(0), impl.FsFull, was, "", "none", 0, 2},
		{"room for one byte", roomFor(1), impl.FsFull, was, "", "none", 0, 2},
		{"a byte too little", roomFor(10), impl.FsFull, was, "", "none", 0, 2},
		{"just room", roomFor(11), impl.FsOK, impl.Log{Last: 1, Size: 22}, frame, "none", 11, 2},
		{"a byte too little, cleaning fails", roomFor(10, failAt(2)), impl.JournalBroken, was, frame[:10], "none", 0, 2},
		{"room for one byte, cleaning crashes", roomFor(1, crashAt(2)), impl.FsDown, was, frame[:1], "none", 0, 2},
		{"no room, append fails", roomFor(0, failAt(1)), impl.FsFailed, was, "", "none", 0, 2},
		{"down", func(fs *impl.Fs) { fs.Down = true }, impl.FsDown, was, "", "none", 0, 0},
		{"no counts left", countsLeft(0), impl.JournalBroken, was, "", "none", 0, 0},
		{"one count left", countsLeft(1), impl.JournalBroken, was, frame, "none", 0, 1},
		{"two counts left", countsLeft(2), impl.FsOK, impl.Log{Last: 1, Size: 22}, frame, "none", 11, 2},
		{"two counts left, sync fails", func(fs *impl.Fs) { fs.Count, fs.FailAt = mostCount-2, mostCount }, impl.JournalBroken, was, frame, "none", 0, 2},
	})
}

func TestAppendsToANewSegmentThatGoWrong(t *testing.T) {
	frame := framesOf("two")
	was, next := impl.Log{Last: 1, Size: 11}, impl.Log{Last: 2}
	askAppendings(t, 21, []appending{
		{"nothing", failAt(0), impl.FsOK, impl.Log{Last: 2, Size: 11}, "", frame, 11, 3},
		{"a crash too late", crashAt(4), impl.FsOK, impl.Log{Last: 2, Size: 11}, "", frame, 11, 3},
		{"create fails", failAt(1), impl.FsFailed, was, "", "none", 0, 1},
		{"create crashes", crashAt(1), impl.FsDown, was, "", "none", 0, 1},
		{"append fails", failAt(2), impl.FsFailed, next, "", "", 0, 3},
		{"append crashes", crashAt(2), impl.FsDown, next, "", "", 0, 2},
		{"sync fails", failAt(3), impl.FsFailed, next, "", "", 0, 4},
		{"sync crashes", crashAt(3), impl.FsDown, next, "", frame, 0, 3},
		{"sync fails, cleaning crashes", func(fs *impl.Fs) { fs.FailAt, fs.CrashAt = fs.Count+3, fs.Count+4 }, impl.FsDown, next, "", frame, 0, 4},
		{"no room", roomFor(0), impl.FsFull, next, "", "", 0, 3},
		{"room for eight bytes", roomFor(8), impl.FsFull, next, "", "", 0, 3},
		{"room for eight bytes, cleaning fails", roomFor(8, failAt(3)), impl.JournalBroken, next, "", frame[:8], 0, 3},
		{"room for eight bytes, cleaning crashes", roomFor(8, crashAt(3)), impl.FsDown, next, "", frame[:8], 0, 3},
		{"down", func(fs *impl.Fs) { fs.Down = true }, impl.FsDown, was, "", "none", 0, 0},
		{"no counts left", countsLeft(0), impl.FsFailed, was, "", "none", 0, 0},
		{"one count left", countsLeft(1), impl.JournalBroken, next, "", "", 0, 1},
		{"two counts left", countsLeft(2), impl.JournalBroken, next, "", frame, 0, 2},
		{"three counts left", countsLeft(3), impl.FsOK, impl.Log{Last: 2, Size: 11}, "", frame, 11, 3},
	})
	fs := fsOf(synced("seg-0001", framesOf("one")))
	for i := range 299 {
		fs.Files = append(fs.Files, impl.File{Name: fmt.Sprintf("z%03d", i)})
	}
	if after, log, code := askAppend(t, fs, was, "two", 21); code != impl.FsFull || log != was || after.Count != fs.Count+1 || !slices.Equal(after.Files, fs.Files) {
		t.Errorf("all files: got %d %v %s", code, log, fsName(after))
	}
	fs = fsOf(synced("seg-0001", framesOf("one")), synced("seg-0002", "junk"))
	if after, log, code := askAppend(t, fs, was, "two", 21); code != impl.FsExists || log != was || after.Count != fs.Count+1 || !slices.Equal(after.Files, fs.Files) {
		t.Errorf("there already: got %d %v %s", code, log, fsName(after))
	}
}

// A log that isn't what stands in the files: the words of 6.3 hold for it, too.
func TestAppendsWithALogOfSomethingElse(t *testing.T) {
	fs := fsOf(synced("seg-0001", framesOf("one")))
	cases := []struct {
		what   string
		log    impl.Log
		change func(*impl.Fs)
		code   int
		want   impl.Log
		data   string
		synced int
		steps  int
	}{
		{"no such segment", impl.Log{Last: 2}, failAt(0), impl.JournalBroken, impl.Log{Last: 2}, framesOf("one"), 11, 2},
		{"no such segment, cleaning crashes", impl.Log{Last: 2}, crashAt(2), impl.FsDown, impl.Log{Last: 2}, framesOf("one"), 11, 2},
		{"Size is smaller", impl.Log{Last: 1, Size: 5}, failAt(0), impl.FsOK, impl.Log{Last: 1, Size: 16}, framesOf("one", "two"), 22, 2},
		{"Size is smaller, sync fails", impl.Log{Last: 1, Size: 5}, failAt(2), impl.FsFailed, impl.Log{Last: 1, Size: 5}, framesOf("one")[:5], 5, 3},
		{"Size is greater", impl.Log{Last: 1, Size: 70}, failAt(0), impl.FsOK, impl.Log{Last: 1, Size: 81}, framesOf("one", "two"), 22, 2},
		{"Size is greater, sync fails", impl.Log{Last: 1, Size: 23}, failAt(2), impl.JournalBroken, impl.Log{Last: 1, Size: 23}, framesOf("one", "two"), 11, 3},
		{"Size is the end of the frame, sync fails", impl.Log{Last: 1, Size: 22}, failAt(2), impl.FsFailed, impl.Log{Last: 1, Size: 22}, framesOf("one", "two"), 22, 3},
	}
	for _, c := range cases {
		given := copyFs(fs)
		c.change(&given)
		after, log, code := askAppend(t, given, c.log, "two", 100)
		if code != c.code || log != c.want || after.Files[0] != loose("seg-0001", c.synced, c.data) || after.Count != fs.Count+c.steps {
			t.Errorf("%s: got %d %v %s", c.what, code, log, fsName(after))
		}
	}
}

// A session is a journal in use: the entries that are surely in it, and whether it can go on.
type session struct {
	fs    impl.Fs
	log   impl.Log
	acked []string
	isUp  bool
	met   tally
}

func (s *session) open(t *testing.T) {
	t.Helper()
	fs, log, entries, code := askRecover(t, s.fs)
	s.fs, s.log, s.isUp = fs, log, code == impl.FsOK
	s.met[fmt.Sprint("open ", code)]++
	if s.isUp {
		s.mustBegin(t, entries)
		s.acked = slices.Clone(entries)
	}
}

func (s *session) mustBegin(t *testing.T, entries []string) {
	t.Helper()
	if len(entries) < len(s.acked) || !slices.Equal(entries[:len(s.acked)], s.acked) {
		t.Errorf("%q doesn't begin with %q", entries, s.acked)
	}
}

func (s *session) add(t *testing.T, entry string, most int) {
	t.Helper()
	if !s.isUp {
		return
	}
	code := 0
	s.fs, s.log, code = askAppend(t, s.fs, s.log, entry, most)
	s.met[fmt.Sprint("append ", code)]++
	if code == impl.FsOK {
		s.acked = append(s.acked, entry)
	}
	s.isUp = code != impl.FsDown && code != impl.FsBad && code != impl.JournalBroken
}

// crash replaces what isn't synced, and asks what promise 12 says of the recovery.
func (s *session) crash(t *testing.T, tails []string) (impl.Fs, []string) {
	t.Helper()
	fs := askCrash(t, s.fs, tails)
	_, _, entries, code := askRecover(t, fs)
	if code != impl.FsOK {
		t.Errorf("after a crash: got %d: %s", code, fsName(fs))
	}
	s.mustBegin(t, entries)
	replaced := ""
	for i, f := range fs.Files {
		replaced += f.Data[s.fs.Files[i].Synced:]
	}
	behind := entries[min(len(s.acked), len(entries)):]
	if !strings.HasPrefix(replaced, framesOf(behind...)) {
		t.Errorf("%q didn't stand in %q", behind, replaced)
	}
	return fs, entries
}

func looseBytes(fs impl.Fs) []string {
	tails := []string{}
	for _, f := range fs.Files {
		tails = append(tails, f.Data[f.Synced:])
	}
	return tails
}

// tailsFor are ways to keep, lose and replace what isn't synced.
func tailsFor(fs impl.Fs) [][]string {
	kept := looseBytes(fs)
	longest := 0
	for _, tail := range kept {
		longest = max(longest, len(tail))
	}
	all := [][]string{nil, kept}
	same := func(tail string) { all = append(all, slices.Repeat([]string{tail}, len(kept))) }
	for n := range longest {
		shorter := []string{}
		for _, tail := range kept {
			shorter = append(shorter, tail[:min(n, len(tail))])
		}
		all = append(all, shorter)
		same(mixed(n+1, 8))
		same(strings.Repeat("\x00", n+1))
	}
	if longest > 0 {
		same(framesOf("f"))
		same(framesOf("f", "g", "h"))
		same(framesOf("f") + "\x00\x00\x00\x01")
		for _, tail := range kept {
			if tail != "" {
				spoiled := []byte(tail)
				spoiled[len(spoiled)-1] ^= 1
				same(string(spoiled))
			}
		}
	}
	return all
}

// askSession appends the entries and then asks for every way in which the crash may end.
func askSession(t *testing.T, met tally, fs impl.Fs, entries []string, most int) {
	t.Helper()
	s := &session{fs: fs, met: met}
	s.open(t)
	for _, entry := range entries {
		s.add(t, entry, most)
	}
	for _, tails := range tailsFor(s.fs) {
		after, recovered := s.crash(t, tails)
		for at := 1; ; at++ {
			after.CrashAt = after.Count + at
			broken, _, _, code := askRecover(t, after)
			if code == impl.FsOK {
				break
			}
			met["a crash in a recovery"]++
			_, _, again, code := askRecover(t, askCrash(t, broken, []string{"x"}))
			if code != impl.FsOK || !slices.Equal(again, recovered) {
				t.Errorf("after a crash in a recovery: got %d %q, want %q", code, again, recovered)
			}
		}
	}
}

func TestCrashesAtEachOperation(t *testing.T) {
	met := tally{}
	entries := []string{"a", "bb", framesOf("c"), "dddd"}
	for _, most := range []int{1, 20, 30, 1000} {
		for at := range 20 {
			askSession(t, met, impl.Fs{Cap: 1000, CrashAt: at}, entries, most)
			askSession(t, met, impl.Fs{Cap: 1000, FailAt: at}, entries, most)
			for other := 1; other < 6; other++ {
				askSession(t, met, impl.Fs{Cap: 1000, FailAt: at, CrashAt: at + other}, entries, most)
			}
		}
	}
	met.need(t, "open 0", "open 11", "open 12", "append 0", "append 11", "append 12", "a crash in a recovery")
}

func TestCrashesOfFullFileSystems(t *testing.T) {
	met := tally{}
	entries := []string{"a", "a longer one", "bb", framesOf("c"), "d"}
	for _, most := range []int{1, 25, 1000} {
		for room := range 70 {
			askSession(t, met, impl.Fs{Cap: room}, entries, most)
			for at := 1; at < 14; at++ {
				askSession(t, met, impl.Fs{Cap: room, FailAt: at}, entries, most)
				askSession(t, met, impl.Fs{Cap: room, CrashAt: at}, entries, most)
			}
		}
	}
	met.need(t, "append 0", "append 11", "append 12", "append 13", "append 20")
}

// Frames of what was never appended may stand in what replaces: they come behind what was.
func TestFramesInWhatReplaces(t *testing.T) {
	s := &session{fs: impl.Fs{Cap: 1000}, met: tally{}}
	s.open(t)
	s.add(t, "one", 1000)
	s.fs.CrashAt = s.fs.Count + 2
	s.add(t, strings.Repeat("lost", 9), 1000)
	for _, c := range []struct {
		tail string
		want []string
	}{
		{"", []string{"one"}},
		{framesOf("x"), []string{"one", "x"}},
		{framesOf("x", "y"), []string{"one", "x", "y"}},
		{framesOf("x") + "junk" + framesOf("y"), []string{"one", "x"}},
		{"junk" + framesOf("x"), []string{"one"}},
		{framesOf("x", "y", "z", "u", "v", "w"), []string{"one", "x", "y", "z", "u"}},
		{framesOf(strings.Repeat("lost", 9)), []string{"one", strings.Repeat("lost", 9)}},
	} {
		if _, entries := s.crash(t, []string{c.tail}); !slices.Equal(entries, c.want) {
			t.Errorf("%s: got %q, want %q", short(c.tail), entries, c.want)
		}
	}
}

func TestManySessions(t *testing.T) {
	source := rand.New(rand.NewSource(66))
	met := tally{}
	for range 400 {
		s := &session{fs: impl.Fs{Cap: 60 + source.Intn(300)}, met: met}
		most := pick(source, []int{1, 15, 40, 100, 1000})
		for range 8 {
			s.fs.CrashAt = s.fs.Count + source.Intn(12)
			s.fs.FailAt = s.fs.Count + source.Intn(12)
			s.open(t)
			for range source.Intn(7) {
				s.add(t, mixed(1+source.Intn(25), source.Intn(1000)), most)
			}
			s.fs, s.acked = s.crash(t, pick(source, tailsFor(s.fs)))
		}
	}
	met.need(t, "open 0", "open 11", "open 12", "append 0", "append 11", "append 12", "append 13", "append 20")
}

// anyJournal has segments of frames, gaps and bad frames, and other files.
func anyJournal(source *rand.Rand) impl.Fs {
	files := []impl.File{}
	for n := 1; n <= 5; n++ {
		if source.Intn(6) == 0 {
			continue
		}
		data := ""
		for range source.Intn(4) {
			data += framesOf(mixed(1+source.Intn(9), source.Intn(100)))
		}
		switch source.Intn(8) {
		case 0:
			data += mixed(source.Intn(12), 1)
		case 1:
			data = data[:source.Intn(len(data)+1)]
		}
		files = append(files, loose(segName(n), source.Intn(len(data)+1), data))
		if source.Intn(2) == 0 {
			files[len(files)-1].Synced = len(data)
		}
	}
	for _, f := range nearlySegments() {
		if source.Intn(20) == 0 {
			files = append(files, f)
		}
	}
	if source.Intn(5) == 0 {
		files = append(files, synced(segName(6+source.Intn(9994)), framesOf("far")))
	}
	return fsOf(files...)
}

func TestManyRecoveriesAndAppends(t *testing.T) {
	source := rand.New(rand.NewSource(67))
	met := tally{}
	for range 20000 {
		fs := anyJournal(source)
		fs.Cap -= pick(source, []int{0, 980, 990, 1000})
		fs.CrashAt, fs.FailAt = pick(source, []int{0, 0, fs.Count + 1 + source.Intn(6)}), pick(source, []int{0, 0, fs.Count + 1 + source.Intn(6)})
		_, log, _, code := askRecover(t, fs)
		met[fmt.Sprint("open ", code)]++
		if code != impl.FsOK || source.Intn(4) == 0 {
			log = impl.Log{Last: 1 + source.Intn(6), Size: source.Intn(40)}
		}
		_, _, code = askAppend(t, fs, log, mixed(1+source.Intn(9), 1), pick(source, []int{1, 20, 30, 1000}))
		met[fmt.Sprint("append ", code)]++
		spoilFs(source, &fs)
		askRecover(t, fs)
		askAppend(t, fs, log, mixed(source.Intn(9), 1), source.Intn(30))
	}
	met.need(t, "open 0", "open 11", "open 12", "append 0", "append 11", "append 12", "append 13", "append 15", "append 20")
}

func TestManyJournalsAtOnce(t *testing.T) {
	fs := roomyFs(fsOf(recoveries()[21].files...))
	before := wholeFs(fs)
	wantFs, wantLog, wantEntries, _ := plainRecover(fs)
	var workers sync.WaitGroup
	for range 8 {
		workers.Add(1)
		go func() {
			defer workers.Done()
			for range 200 {
				after, log, entries, code := impl.Recover(fs)
				if code != impl.FsOK || log != wantLog || !slices.Equal(entries, wantEntries) || !sameFs(after, wantFs) {
					t.Errorf("got %d %v %q %s", code, log, entries, fsName(after))
				}
				impl.AppendEntry(fs, log, "x", 100)
				impl.FsCrash(fs, nil)
				impl.FsStep(fs, impl.FsOp{Kind: impl.DoDelete, Name: "seg-0002"})
			}
		}()
	}
	workers.Wait()
	if !reflect.DeepEqual(wholeFs(fs), before) {
		t.Error("the argument is changed")
	}
}
