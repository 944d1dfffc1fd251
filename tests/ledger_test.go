package tests

import (
	"fmt"
	"math"
	"math/rand"
	"reflect"
	"runtime"
	"slices"
	"strings"
	"sync"
	"testing"

	"loop.example/s02884/impl"
)

// plainFold reads what chapter 7 calls the fold, and says whether all entries are statements.
func plainFold(entries []string) (impl.Db, bool) {
	db := impl.Db{}
	for _, entry := range entries {
		s, ok := plainDecode(entry)
		if !ok {
			return impl.Db{}, false
		}
		db, _ = plainApply(db, s)
	}
	return db, true
}

// plainGrow is for trees of every sort: those that aren't OK give none.
func plainGrow(kind int, tree impl.Tree, entry string) impl.Tree {
	if !impl.TreeOK(kind, tree) || tree.Size == 2000 {
		return impl.Tree{}
	}
	peaks := append(slices.Clone(tree.Peaks), plainLeaf(kind, entry))
	for size := tree.Size; size%2 == 1; size /= 2 {
		last := len(peaks) - 1
		peaks = append(peaks[:last-1], plainNode(kind, peaks[last-1], peaks[last]))
	}
	return impl.Tree{Size: tree.Size + 1, Peaks: peaks}
}

func isKind(kind int) bool { return kind == 0 || kind == 1 }

func plainOpen(kind, most int, fs impl.Fs) (impl.Ledger, int) {
	if !isKind(kind) || !isWithin(most, 1, mostCap) {
		return impl.Ledger{Fs: fs}, 45
	}
	after, log, entries, code := plainRecover(fs)
	if code != 0 {
		return impl.Ledger{Fs: after}, code
	}
	db, ok := plainFold(entries)
	if !ok {
		return impl.Ledger{Fs: after}, 42
	}
	tree := impl.Tree{Size: len(entries), Peaks: plainPeaks(kind, entries)}
	return impl.Ledger{Kind: kind, Most: most, Fs: after, Log: log, Entries: entries, Db: db, Tree: tree, Up: true}, 0
}

func plainExecute(l impl.Ledger, entry string) (impl.Ledger, int, int) {
	s, ok := plainDecode(entry)
	switch {
	case !l.Up:
		return l, 40, 0
	case !ok:
		return l, 41, 0
	case len(l.Entries) >= 2000:
		return l, 44, 0
	}
	code, sqlCode := 0, 0
	l.Fs, l.Log, code = plainAppend(l.Fs, l.Log, entry, l.Most)
	if code != 0 {
		l.Up = !slices.Contains([]int{11, 16, 20}, code)
		return l, code, 0
	}
	l.Entries = append(slices.Clone(l.Entries), entry)
	l.Tree = plainGrow(l.Kind, l.Tree, entry)
	l.Db, sqlCode = plainApply(l.Db, s)
	return l, 0, sqlCode
}

func copyLedger(l impl.Ledger) impl.Ledger {
	l.Fs, l.Entries, l.Db, l.Tree.Peaks = copyFs(l.Fs), slices.Clone(l.Entries), copyDb(l.Db), slices.Clone(l.Tree.Peaks)
	return l
}

func sameTree(a, b impl.Tree) bool { return a.Size == b.Size && slices.Equal(a.Peaks, b.Peaks) }

func sameLedger(a, b impl.Ledger) bool {
	return a.Kind == b.Kind && a.Most == b.Most && sameFs(a.Fs, b.Fs) && a.Log == b.Log && slices.Equal(a.Entries, b.Entries) &&
		sameDb(a.Db, b.Db) && sameTree(a.Tree, b.Tree) && a.Up == b.Up
}

func ledgerName(l impl.Ledger) string {
	return fmt.Sprintf("kind %d most %d up %v log %v, %d entries, tree of %d, %d peaks, %s, %s", l.Kind, l.Most, l.Up, l.Log, len(l.Entries), l.Tree.Size, len(l.Tree.Peaks), dbName(l.Db), fsName(l.Fs))
}

// roomyLedger has room behind each of its lists, with something in it.
func roomyLedger(l impl.Ledger) impl.Ledger {
	l.Fs, l.Db = roomyFs(l.Fs), roomyDb(l.Db)
	l.Entries, _ = withRoom(l.Entries)
	l.Tree.Peaks, _ = withRoom(l.Tree.Peaks)
	return l
}

// wholeLedger copies all that the lists of a ledger hold, up to their capacity.
func wholeLedger(l impl.Ledger) impl.Ledger {
	l.Fs, l.Db = wholeFs(l.Fs), wholeDb(l.Db)
	l.Entries, l.Tree.Peaks = slices.Clone(l.Entries[:cap(l.Entries)]), slices.Clone(l.Tree.Peaks[:cap(l.Tree.Peaks)])
	return l
}

func spansOfLedger(l impl.Ledger) []span {
	return addSpan(addSpan(addSpan(spansOfDb(l.Db), l.Fs.Files), l.Entries), l.Tree.Peaks)
}

// askOpen holds OpenLedger against the plain reading, and gives what it answered.
func askOpen(t *testing.T, kind, most int, fs impl.Fs) (impl.Ledger, int) {
	t.Helper()
	given := roomyFs(fs)
	before := wholeFs(given)
	l, code := impl.OpenLedger(kind, most, given)
	again, _ := impl.OpenLedger(kind, most, given)
	if !reflect.DeepEqual(wholeFs(given), before) {
		t.Errorf("the argument is changed: %s", fsName(fs))
	}
	if !areApart(addSpan(nil, given.Files), spansOfLedger(l), spansOfLedger(again)) {
		t.Errorf("memory is shared: %s", fsName(fs))
	}
	want, wantCode := plainOpen(kind, most, fs)
	if code != wantCode || !sameLedger(l, want) || !sameLedger(again, want) {
		t.Errorf("opening of %d %d %s: got %d %s, want %d %s", kind, most, fsName(fs), code, ledgerName(l), wantCode, ledgerName(want))
	}
	return l, code
}

// askExecute holds Execute against the plain reading, and gives what it answered.
func askExecute(t *testing.T, l impl.Ledger, entry string) (impl.Ledger, int, int) {
	t.Helper()
	given := roomyLedger(l)
	before := wholeLedger(given)
	after, code, sqlCode := impl.Execute(given, entry)
	again, _, _ := impl.Execute(given, entry)
	if !reflect.DeepEqual(wholeLedger(given), before) {
		t.Errorf("%s: the argument is changed: %s", short(entry), ledgerName(l))
	}
	if !areApart(spansOfLedger(given), spansOfLedger(after), spansOfLedger(again)) {
		t.Errorf("%s: memory is shared: %s", short(entry), ledgerName(l))
	}
	want, wantCode, wantSql := plainExecute(copyLedger(l), entry)
	if code != wantCode || sqlCode != wantSql || !sameLedger(after, want) || !sameLedger(again, want) {
		t.Errorf("%s on %s: got %d %d %s, want %d %d %s", short(entry), ledgerName(l), code, sqlCode, ledgerName(after), wantCode, wantSql, ledgerName(want))
	}
	return after, code, sqlCode
}

// askQuery holds Query against the plain reading, and gives what it answered.
func askQuery(t *testing.T, l impl.Ledger, entry string) ([][]impl.Value, int, int) {
	t.Helper()
	given := roomyLedger(l)
	before := wholeLedger(given)
	rows, code, sqlCode := impl.Query(given, entry)
	again, _, _ := impl.Query(given, entry)
	if !reflect.DeepEqual(wholeLedger(given), before) {
		t.Errorf("%s: the argument is changed: %s", short(entry), ledgerName(l))
	}
	if !areApart(spansOfLedger(given), spansOfRows(rows), spansOfRows(again)) {
		t.Errorf("%s: memory is shared: %s", short(entry), ledgerName(l))
	}
	wantRows, wantCode, wantSql := [][]impl.Value{}, 0, 0
	s, ok := plainDecode(entry)
	switch {
	case !l.Up:
		wantCode = 40
	case !ok:
		wantCode = 41
	default:
		wantRows, wantSql = plainSelect(l.Db, s)
	}
	if code != wantCode || sqlCode != wantSql || !sameRows(rows, wantRows) || !sameRows(again, wantRows) {
		t.Errorf("%s of %s: got %d %d %s, want %d %d %s", short(entry), ledgerName(l), code, sqlCode, rowsName(rows), wantCode, wantSql, rowsName(wantRows))
	}
	return rows, code, sqlCode
}

// askDigest holds DigestAt against the plain reading, and gives what it answered.
func askDigest(t *testing.T, l impl.Ledger, n int) (string, int) {
	t.Helper()
	root, code := impl.DigestAt(l, n)
	want, wantCode := "", 0
	switch {
	case !l.Up:
		wantCode = 40
	case !isWithin(n, 0, len(l.Entries)):
		wantCode = 43
	case isKind(l.Kind):
		want = plainRoot(l.Kind, l.Entries[:n])
	}
	if root != want || code != wantCode {
		t.Errorf("digest at %d of %s: got %d %x, want %d %x", n, ledgerName(l), code, root, wantCode, want)
	}
	return root, code
}

// askInclusion holds ProveInclusion against the plain reading and promise 13.
func askInclusion(t *testing.T, l impl.Ledger, i, n int) ([]string, int) {
	t.Helper()
	path, code := impl.ProveInclusion(l, i, n)
	again, _ := impl.ProveInclusion(l, i, n)
	want, wantCode := []string{}, 0
	switch {
	case !l.Up:
		wantCode = 40
	case !isWithin(n, 1, len(l.Entries)) || !isWithin(i, 0, n-1):
		wantCode = 43
	case isKind(l.Kind):
		want = plainPath(l.Kind, l.Entries[:n], i)
		root, _ := impl.DigestAt(l, n)
		if !impl.CheckPath(l.Kind, l.Entries[i], i, n, root, path) {
			t.Errorf("path of %d in %d of %s isn't accepted", i, n, ledgerName(l))
		}
	}
	if code != wantCode || !slices.Equal(path, want) || !slices.Equal(again, want) {
		t.Errorf("path of %d in %d of %s: got %d %x, want %d %x", i, n, ledgerName(l), code, path, wantCode, want)
	}
	if !areApart(spansOfLedger(l), addSpan(nil, path), addSpan(nil, again)) {
		t.Errorf("path of %d in %d: memory is shared", i, n)
	}
	return path, code
}

// askConsistency holds ProveConsistency against the plain reading and promise 13.
func askConsistency(t *testing.T, l impl.Ledger, m, n int) ([]string, int) {
	t.Helper()
	proof, code := impl.ProveConsistency(l, m, n)
	again, _ := impl.ProveConsistency(l, m, n)
	want, wantCode := []string{}, 0
	switch {
	case !l.Up:
		wantCode = 40
	case !isWithin(n, 1, len(l.Entries)) || !isWithin(m, 1, n):
		wantCode = 43
	case isKind(l.Kind):
		want = plainSub(l.Kind, m, l.Entries[:n], true)
		old, _ := impl.DigestAt(l, m)
		root, _ := impl.DigestAt(l, n)
		if !impl.CheckProof(l.Kind, m, old, n, root, proof) {
			t.Errorf("proof of %d in %d of %s isn't accepted", m, n, ledgerName(l))
		}
	}
	if code != wantCode || !slices.Equal(proof, want) || !slices.Equal(again, want) {
		t.Errorf("proof of %d in %d of %s: got %d %x, want %d %x", m, n, ledgerName(l), code, proof, wantCode, want)
	}
	if !areApart(spansOfLedger(l), addSpan(nil, proof), addSpan(nil, again)) {
		t.Errorf("proof of %d in %d: memory is shared", m, n)
	}
	return proof, code
}

// askPast asks for digests and proofs at every past size, and a little past the bounds.
func askPast(t *testing.T, l impl.Ledger) {
	t.Helper()
	given := roomyLedger(l)
	before := wholeLedger(given)
	for n := -2; n <= len(l.Entries)+2; n++ {
		askDigest(t, given, n)
		for i := -2; i <= max(n, 0)+2; i++ {
			askInclusion(t, given, i, n)
			askConsistency(t, given, i, n)
		}
	}
	if !reflect.DeepEqual(wholeLedger(given), before) {
		t.Errorf("the argument is changed: %s", ledgerName(l))
	}
}

func entryOf(t *testing.T, sql string) string {
	t.Helper()
	return plainBytes(parsed(t, sql))
}

// deeds have statements of each kind, and each code that a statement can have on tables.
func deeds() []coded {
	long := "'" + strings.Repeat("x", 150) + "'"
	return []coded{
		{"insert into t values (1, 'too early')", impl.SqlTable},
		{"create table t (id int, name text)", impl.SqlOK},
		{"insert into t values (1, 'it''s')", impl.SqlOK},
		{"insert into t values (1, 'again')", impl.SqlKey},
		{"insert into t values (2)", impl.SqlType},
		{"select name, id * 3 from t", impl.SqlOK},
		{"create table t (a text)", impl.SqlExists},
		{"update t set id = id + 4", impl.SqlOK},
		{"insert into t values (1, '')", impl.SqlOK},
		{"update t set id = 7", impl.SqlKey},
		{"update t set name = " + long + " || " + long, impl.SqlBig},
		{"create table w (word text, n int)", impl.SqlOK},
		{"insert into w values ('a', -5)", impl.SqlOK},
		{"delete from w where gone = 1", impl.SqlColumn},
		{"select word + 1 from w", impl.SqlType},
		{"delete from t where id < 3", impl.SqlOK},
		{"select id from gone", impl.SqlTable},
		{"update w set n = n * n", impl.SqlOK},
	}
}

// opened is a ledger on an empty file system with a lot of room.
func opened(t *testing.T, kind, most int) impl.Ledger {
	t.Helper()
	l, code := askOpen(t, kind, most, impl.Fs{Cap: 100000})
	if code != impl.LedgerOK {
		t.Fatalf("got %d %s", code, ledgerName(l))
	}
	return l
}

// shop is a ledger with all the deeds in it.
func shop(t *testing.T, kind, most int) impl.Ledger {
	t.Helper()
	l := opened(t, kind, most)
	for i, d := range deeds() {
		after, code, sqlCode := askExecute(t, l, entryOf(t, d.sql))
		if code != impl.LedgerOK || sqlCode != d.code || len(after.Entries) != i+1 || !after.Up {
			t.Fatalf("%s: got %d %d %s", d.sql, code, sqlCode, ledgerName(after))
		}
		l = after
	}
	return l
}

func TestLedgerConstants(t *testing.T) {
	got := []int{impl.LedgerOK, impl.LedgerDown, impl.LedgerStm, impl.LedgerEntry, impl.LedgerRange, impl.LedgerFull, impl.LedgerKind, impl.AuditOK, impl.AuditSize, impl.AuditEntry, impl.AuditRoot}
	if want := []int{0, 40, 41, 42, 43, 44, 45, 0, 50, 51, 52}; !slices.Equal(got, want) {
		t.Errorf("got %v, want %v", got, want)
	}
}

// Statements that fail on the tables are journaled as well as the others, and so are Selects.
func TestLedgerOfAllDeeds(t *testing.T) {
	want := impl.Db{Tables: []impl.TableData{
		{Name: "t", Cols: []impl.Column{{Name: "id", Type: 1}, {Name: "name", Type: 2}}, Rows: [][]impl.Value{{whole(5), words("it's")}}},
		{Name: "w", Cols: []impl.Column{{Name: "word", Type: 2}, {Name: "n", Type: 1}}, Rows: [][]impl.Value{{words("a"), whole(25)}}},
	}}
	for _, kind := range bothKinds {
		for _, most := range []int{1, 100, mostCap} {
			l := shop(t, kind, most)
			entries := []string{}
			for _, d := range deeds() {
				entries = append(entries, entryOf(t, d.sql))
			}
			if !slices.Equal(l.Entries, entries) || !sameDb(l.Db, want) || l.Tree.Size != len(entries) || impl.TreeRoot(kind, l.Tree) != impl.Root(kind, entries) {
				t.Errorf("kind %d most %d: got %s", kind, most, ledgerName(l))
			}
			askPast(t, l)
			again, code := askOpen(t, kind, most, l.Fs)
			if code != impl.LedgerOK || !sameLedger(again, l) {
				t.Errorf("kind %d most %d: opened again: got %d %s", kind, most, code, ledgerName(again))
			}
			other, code := askOpen(t, 1-kind, 77, impl.FsCrash(l.Fs, nil))
			if code != impl.LedgerOK || !slices.Equal(other.Entries, entries) || !sameDb(other.Db, want) || other.Kind != 1-kind || other.Most != 77 || other.Log != l.Log {
				t.Errorf("kind %d most %d: opened with another: got %d %s", kind, most, code, ledgerName(other))
			}
		}
	}
}

// isOnlyFs says whether the ledger has this file system, and else nothing.
func isOnlyFs(l impl.Ledger, fs impl.Fs) bool {
	return sameLedger(l, impl.Ledger{Fs: fs})
}

func TestLedgerKindsAndMosts(t *testing.T) {
	fss := []impl.Fs{{}, cabinet(), shop(t, 0, 60).Fs, {Down: true}, fsOf(synced("seg-0001", "junk")), fsOf(synced("seg-0001", framesOf("no statement"))), {Cap: 5, CrashAt: 1}, manyFiles(300)}
	for _, fs := range wrongFss() {
		fss = append(fss, fs)
	}
	for _, fs := range fss {
		for _, kind := range noKinds {
			for _, most := range []int{1, mostCap, 0} {
				if l, code := askOpen(t, kind, most, fs); code != impl.LedgerKind || !isOnlyFs(l, fs) {
					t.Errorf("kind %d most %d: got %d %s", kind, most, code, ledgerName(l))
				}
			}
		}
		for _, most := range []int{0, -1, mostCap + 1, math.MinInt, math.MaxInt, 1<<32 + 1} {
			for _, kind := range bothKinds {
				if l, code := askOpen(t, kind, most, fs); code != impl.LedgerKind || !isOnlyFs(l, fs) {
					t.Errorf("kind %d most %d: got %d %s", kind, most, code, ledgerName(l))
				}
			}
		}
		for _, most := range []int{1, 2, mostCap - 1, mostCap} {
			for _, kind := range bothKinds {
				if l, code := askOpen(t, kind, most, fs); code == impl.LedgerKind {
					t.Errorf("kind %d most %d: got %d %s", kind, most, code, ledgerName(l))
				}
			}
		}
	}
}

func TestLedgerOpeningsThatFail(t *testing.T) {
	for what, fs := range wrongFss() {
		if l, code := askOpen(t, 0, 60, fs); code != impl.FsBad || !isOnlyFs(l, impl.Fs{}) {
			t.Errorf("%s: got %d %s", what, code, ledgerName(l))
		}
	}
	good := framesOf(entryOf(t, "create table t (id int)"))
	torn := fsOf(synced("seg-0001", good, "junk"), synced("seg-0002", good), synced("seg-0003", good))
	for _, kind := range bothKinds {
		down := changedFs(torn, func(fs *impl.Fs) { fs.Down = true })
		if l, code := askOpen(t, kind, 60, down); code != impl.FsDown || !isOnlyFs(l, down) {
			t.Errorf("down: got %d %s", code, ledgerName(l))
		}
		for at := 1; at <= 3; at++ {
			l, code := askOpen(t, kind, 60, changedFs(torn, failAt(at)))
			if after, _, _, _ := impl.Recover(changedFs(torn, failAt(at))); code != impl.FsFailed || !isOnlyFs(l, after) || after.Count != torn.Count+at {
				t.Errorf("failure at %d: got %d %s", at, code, ledgerName(l))
			}
			l, code = askOpen(t, kind, 60, changedFs(torn, crashAt(at)))
			if after, _, _, _ := impl.Recover(changedFs(torn, crashAt(at))); code != impl.FsDown || !isOnlyFs(l, after) || !l.Fs.Down {
				t.Errorf("crash at %d: got %d %s", at, code, ledgerName(l))
			}
		}
		if l, code := askOpen(t, kind, 60, changedFs(torn, failAt(4))); code != impl.LedgerOK || len(l.Entries) != 1 || !l.Up || l.Log != (impl.Log{Last: 1, Size: len(good)}) {
			t.Errorf("a failure too late: got %d %s", code, ledgerName(l))
		}
		full := manyFiles(300)
		if l, code := askOpen(t, kind, 60, full); code != impl.FsFull || l.Fs.Count != full.Count+1 || !isOnlyFs(l, l.Fs) {
			t.Errorf("all files: got %d %s", code, ledgerName(l))
		}
	}
}

// Frames whose entries are no statements: the file system is the one after Recover.
func TestLedgerEntriesThatAreNoStatements(t *testing.T) {
	good := []string{entryOf(t, "create table t (id int)"), entryOf(t, "insert into t values (1)"), entryOf(t, "select id from t")}
	for _, bad := range []string{"x", "no statement", good[0] + "\x00", good[1][:len(good[1])-1], "\x00", mixed(60000, 1), strings.Repeat("\x05", 300)} {
		for at := range len(good) + 1 {
			entries := slices.Insert(slices.Clone(good), at, bad)
			fs := fsOf(synced("seg-0001", framesOf(entries...), "junk"), synced("seg-0002", framesOf(good...)))
			after, _, found, _ := impl.Recover(fs)
			l, code := askOpen(t, 0, 60, fs)
			if code != impl.LedgerEntry || !isOnlyFs(l, after) || !slices.Equal(found, entries) || after.Count != fs.Count+2 || len(after.Files) != 1 {
				t.Errorf("%s at %d: got %d %s", short(bad), at, code, ledgerName(l))
			}
			if l, code := askOpen(t, 1, 60, changedFs(fs, crashAt(2))); code != impl.FsDown || !l.Fs.Down {
				t.Errorf("%s at %d: a crash comes first: got %d %s", short(bad), at, code, ledgerName(l))
			}
			split := fsOf(synced("seg-0001", framesOf(entries[:at]...)), synced("seg-0002", framesOf(entries[at:]...)))
			if l, code := askOpen(t, 1, 60, split); code != impl.LedgerEntry || !isOnlyFs(l, split) {
				t.Errorf("%s at %d, two segments: got %d %s", short(bad), at, code, ledgerName(l))
			}
		}
	}
	if l, code := askOpen(t, 0, 60, fsOf(synced("seg-0001", framesOf(slices.Repeat([]string{"x"}, 500)...)))); code != impl.LedgerEntry || len(l.Fs.Files) != 1 {
		t.Errorf("none of many: got %d %s", code, ledgerName(l))
	}
}

// filled are so many statements, of which most fail on the tables.
func filled(t *testing.T, n int) []string {
	t.Helper()
	entries := []string{entryOf(t, "create table t (id int)")}
	for i := range n - 1 {
		entries = append(entries, entryOf(t, fmt.Sprintf("insert into t values (%d)", i%40)))
	}
	return entries
}

func TestLedgerOfTheMostEntries(t *testing.T) {
	entries := filled(t, 2001)
	fs := fsOf(synced("seg-0001", framesOf(entries[:1500]...)), synced("seg-0002", framesOf(entries[1500:1999]...)))
	l, code := askOpen(t, 0, 100000, fs)
	if code != impl.LedgerOK || len(l.Entries) != 1999 {
		t.Fatalf("got %d %s", code, ledgerName(l))
	}
	l, code, sqlCode := askExecute(t, l, entries[1999])
	if code != impl.LedgerOK || sqlCode != impl.SqlKey || l.Tree.Size != 2000 || !l.Up {
		t.Fatalf("the last one: got %d %d %s", code, sqlCode, ledgerName(l))
	}
	for _, change := range []func(*impl.Ledger){func(*impl.Ledger) {}, func(l *impl.Ledger) { l.Fs.Down = true }, func(l *impl.Ledger) { l.Fs.Cap = 0 }, func(l *impl.Ledger) { l.Log.Last = 0 }, func(l *impl.Ledger) { l.Most = 0 }} {
		given := copyLedger(l)
		change(&given)
		if after, code, sqlCode := askExecute(t, given, entries[2000]); code != impl.LedgerFull || sqlCode != 0 || !sameLedger(after, given) {
			t.Errorf("one too many: got %d %d %s", code, sqlCode, ledgerName(after))
		}
		if after, code, sqlCode := askExecute(t, given, "x"); code != impl.LedgerStm || sqlCode != 0 || !sameLedger(after, given) {
			t.Errorf("no statement on a full ledger: got %d %d %s", code, sqlCode, ledgerName(after))
		}
		given.Up = false
		if after, code, sqlCode := askExecute(t, given, entries[2000]); code != impl.LedgerDown || sqlCode != 0 || !sameLedger(after, given) {
			t.Errorf("down and full: got %d %d %s", code, sqlCode, ledgerName(after))
		}
	}
	for _, n := range []int{0, 1, 64, 65, 1023, 1024, 1025, 1999, 2000, 2001} {
		askDigest(t, l, n)
		for _, i := range []int{0, 1, 63, 64, 1024, n - 1, n} {
			askInclusion(t, l, i, n)
			askConsistency(t, l, i, n)
		}
	}
	again, code := askOpen(t, 0, 100000, impl.FsCrash(l.Fs, nil))
	if code != impl.LedgerOK || !slices.Equal(again.Entries, entries[:2000]) || !sameDb(again.Db, l.Db) || !sameTree(again.Tree, l.Tree) {
		t.Errorf("opened again: got %d %s", code, ledgerName(again))
	}
	// That there are too many comes ahead of what they are.
	for _, last := range []string{entries[2000], "x"} {
		many := fsOf(synced("seg-0001", framesOf(entries[:2000]...), framesOf(last)))
		if l, code := askOpen(t, 0, 100000, many); code != impl.JournalSize || !isOnlyFs(l, many) {
			t.Errorf("too many: got %d %s", code, ledgerName(l))
		}
	}
}

func TestLedgerRefusesInOrder(t *testing.T) {
	l := shop(t, 0, 60)
	insert := entryOf(t, "insert into t values (9, '')")
	for _, entry := range []string{"", "x", insert + "x", insert[1:], insert[:len(insert)-1], "\x00" + insert, mixed(70000, 2), plainBytes(sizedStm(60001))} {
		if after, code, sqlCode := askExecute(t, l, entry); code != impl.LedgerStm || sqlCode != 0 || !sameLedger(after, l) {
			t.Errorf("%s: got %d %d %s", short(entry), code, sqlCode, ledgerName(after))
		}
		if rows, code, sqlCode := askQuery(t, l, entry); code != impl.LedgerStm || sqlCode != 0 || len(rows) != 0 {
			t.Errorf("%s: a query: got %d %d %s", short(entry), code, sqlCode, rowsName(rows))
		}
	}
	for _, wrong := range wrongStms() {
		if text := plainBytes(wrong.stm); len(text) < 1000 {
			_, isStm := plainDecode(text)
			if _, code, _ := impl.Execute(l, text); (code == impl.LedgerStm) == isStm {
				t.Errorf("%s: got %d", wrong.what, code)
			}
		}
	}
	broken := copyLedger(l)
	broken.Fs.Cap = 0
	if after, code, _ := askExecute(t, broken, "x"); code != impl.LedgerStm || !sameLedger(after, broken) || !after.Up {
		t.Errorf("no statement, no valid file system: got %d %s", code, ledgerName(after))
	}
	l.Up = false
	for _, entry := range []string{"", "x", insert, entryOf(t, "select id from t")} {
		if after, code, sqlCode := askExecute(t, l, entry); code != impl.LedgerDown || sqlCode != 0 || !sameLedger(after, l) {
			t.Errorf("down: %s: got %d %d %s", short(entry), code, sqlCode, ledgerName(after))
		}
		if rows, code, sqlCode := askQuery(t, l, entry); code != impl.LedgerDown || sqlCode != 0 || len(rows) != 0 {
			t.Errorf("down: %s: a query: got %d %d %s", short(entry), code, sqlCode, rowsName(rows))
		}
	}
}

// An upset is one way in which a journal refuses an entry.
type upset struct {
	what   string
	change func(*impl.Ledger)
	code   int
	up     bool
}

func onFs(change func(*impl.Fs)) func(*impl.Ledger) {
	return func(l *impl.Ledger) { change(&l.Fs) }
}

// noRoom leaves n bytes, and does the others to the file system.
func noRoom(n int, more ...func(*impl.Fs)) func(*impl.Ledger) {
	return func(l *impl.Ledger) {
		l.Fs.Cap = n
		for _, f := range l.Fs.Files {
			l.Fs.Cap += len(f.Data)
		}
		for _, change := range more {
			change(&l.Fs)
		}
	}
}

func upsets() []upset {
	return []upset{
		{"append fails", onFs(failAt(1)), impl.FsFailed, true},
		{"sync fails", onFs(failAt(2)), impl.FsFailed, true},
		{"append crashes", onFs(crashAt(1)), impl.FsDown, false},
		{"sync crashes", onFs(crashAt(2)), impl.FsDown, false},
		{"cleaning crashes", onFs(func(fs *impl.Fs) { fs.FailAt, fs.CrashAt = fs.Count+2, fs.Count+3 }), impl.FsDown, false},
		{"no room", noRoom(0), impl.FsFull, true},
		{"little room", noRoom(9), impl.FsFull, true},
		{"little room, cleaning fails", noRoom(9, failAt(2)), impl.JournalBroken, false},
		{"no counts left", onFs(countsLeft(0)), impl.JournalBroken, false},
		{"one count left", onFs(countsLeft(1)), impl.JournalBroken, false},
		{"down", onFs(func(fs *impl.Fs) { fs.Down = true }), impl.FsDown, false},
		{"not valid", onFs(func(fs *impl.Fs) { fs.Cap = 0 }), impl.FsBad, false},
		{"no such segment", func(l *impl.Ledger) { l.Log.Last++; l.Log.Size = 0 }, impl.JournalBroken, false},
		{"segment is there", func(l *impl.Ledger) { l.Log.Last--; l.Most = 1 }, impl.FsExists, true},
		{"create fails", func(l *impl.Ledger) { l.Most = 1; l.Fs.FailAt = l.Fs.Count + 1 }, impl.FsFailed, true},
		{"create crashes", func(l *impl.Ledger) { l.Most = 1; l.Fs.CrashAt = l.Fs.Count + 1 }, impl.FsDown, false},
		{"append to a new segment fails", func(l *impl.Ledger) { l.Most = 1; l.Fs.FailAt = l.Fs.Count + 2 }, impl.FsFailed, true},
		{"no segment left", func(l *impl.Ledger) { l.Log.Last = 9999; l.Most = 1 }, impl.JournalEnd, true},
		{"no log", func(l *impl.Ledger) { l.Log = impl.Log{} }, impl.JournalSize, true},
		{"Last too great", func(l *impl.Ledger) { l.Log.Last = 10000 }, impl.JournalSize, true},
		{"Size below 0", func(l *impl.Ledger) { l.Log.Size = -1 }, impl.JournalSize, true},
		{"Size too great", func(l *impl.Ledger) { l.Log.Size = mostCap + 1 }, impl.JournalSize, true},
		{"Most of 0", func(l *impl.Ledger) { l.Most = 0 }, impl.JournalSize, true},
		{"Most too great", func(l *impl.Ledger) { l.Most = mostCap + 1 }, impl.JournalSize, true},
	}
}

// The ledger has the file system and the log that AppendEntry gives; Entries, Db and Tree are as they were.
func TestLedgerUpsets(t *testing.T) {
	insert := entryOf(t, "insert into t values (9, 'more')")
	for _, kind := range bothKinds {
		start := shop(t, kind, 200)
		start.Most = 1000
		for _, u := range upsets() {
			l := copyLedger(start)
			u.change(&l)
			after, code, sqlCode := askExecute(t, l, insert)
			want := copyLedger(l)
			want.Fs, want.Log, _ = impl.AppendEntry(l.Fs, l.Log, insert, l.Most)
			want.Up = u.up
			if code != u.code || sqlCode != 0 || !sameLedger(after, want) {
				t.Errorf("%s: got %d %d %s, want %d %s", u.what, code, sqlCode, ledgerName(after), u.code, ledgerName(want))
			}
			for _, entry := range []string{insert, "x"} {
				_, code, _ := askExecute(t, after, entry)
				if _, why, _ := askQuery(t, after, entry); (code == impl.LedgerDown) == u.up || (why == impl.LedgerDown) == u.up {
					t.Errorf("%s: afterwards: got %d %d", u.what, code, why)
				}
			}
			askPast(t, after)
		}
	}
}

// A statement that failed or didn't fit is taken later as if it had never been tried.
func TestLedgerTakesLaterWhatDidNotFit(t *testing.T) {
	insert := entryOf(t, "insert into t values (9, 'more')")
	for _, most := range []int{1, 200, 1000} {
		start := shop(t, 0, most)
		plain, _, _ := askExecute(t, start, insert)
		for _, change := range []func(*impl.Ledger){onFs(failAt(1)), onFs(failAt(2)), onFs(failAt(3)), noRoom(0), noRoom(1), noRoom(8), noRoom(20), noRoom(len(framesOf(insert)) - 1)} {
			l := copyLedger(start)
			change(&l)
			tried, code, _ := askExecute(t, l, insert)
			if code == impl.LedgerOK {
				continue
			}
			if !slices.Equal(tried.Entries, start.Entries) || !sameDb(tried.Db, start.Db) || !sameTree(tried.Tree, start.Tree) || !tried.Up {
				t.Errorf("most %d: tried: got %d %s", most, code, ledgerName(tried))
			}
			tried.Fs.Cap = 100000
			later, code, sqlCode := askExecute(t, tried, insert)
			if code != impl.LedgerOK || sqlCode != impl.SqlOK || !slices.Equal(later.Entries, plain.Entries) || !sameDb(later.Db, plain.Db) || !sameTree(later.Tree, plain.Tree) {
				t.Errorf("most %d: later: got %d %d %s", most, code, sqlCode, ledgerName(later))
			}
			if !slices.Equal(later.Fs.Files, plain.Fs.Files) || later.Log != plain.Log {
				t.Errorf("most %d: later: the files are others: %s, want %s", most, fsName(later.Fs), fsName(plain.Fs))
			}
			askOpen(t, 0, most, later.Fs)
		}
	}
}

func TestLedgerBounds(t *testing.T) {
	empty := opened(t, 1, 60)
	if root, code := askDigest(t, empty, 0); code != impl.LedgerOK || root != impl.Digest(1, "") {
		t.Errorf("empty: got %d %x", code, root)
	}
	askPast(t, empty)
	l := shop(t, 0, 60)
	size := len(l.Entries)
	far := []int{math.MinInt, math.MinInt + 1, -1 << 32, -1, 0, 1, 2, size - 1, size, size + 1, 1 << 32, 1<<32 + 1, math.MaxInt - 1, math.MaxInt}
	for _, n := range far {
		for _, given := range []impl.Ledger{l, empty, {}, {Up: true}, {Entries: l.Entries}, {Entries: l.Entries, Up: true}} {
			askDigest(t, given, n)
			for _, i := range far {
				askInclusion(t, given, i, n)
				askConsistency(t, given, i, n)
			}
		}
	}
	if proof, code := askConsistency(t, l, size, size); code != impl.LedgerOK || len(proof) != 0 {
		t.Errorf("all of it: got %d %x", code, proof)
	}
	if path, code := askInclusion(t, l, 0, 1); code != impl.LedgerOK || len(path) != 0 {
		t.Errorf("the first alone: got %d %x", code, path)
	}
	l.Up = false
	askPast(t, l)
	for _, n := range far {
		root, code := impl.DigestAt(l, n)
		path, why := impl.ProveInclusion(l, 0, n)
		proof, wherefore := impl.ProveConsistency(l, 1, n)
		if root != "" || len(path) != 0 || len(proof) != 0 || code != impl.LedgerDown || why != impl.LedgerDown || wherefore != impl.LedgerDown {
			t.Errorf("down at %d: got %d %d %d", n, code, why, wherefore)
		}
	}
}

// A digest at a past size is the one that the ledger had then.
func TestLedgerDigestsOfThen(t *testing.T) {
	for _, kind := range bothKinds {
		l := opened(t, kind, 90)
		then := []string{}
		for _, entry := range filled(t, 70) {
			root, _ := askDigest(t, l, len(l.Entries))
			then = append(then, root)
			if root != impl.TreeRoot(kind, l.Tree) {
				t.Errorf("size %d: the tree has another root", len(l.Entries))
			}
			l, _, _ = askExecute(t, l, entry)
		}
		for n, root := range then {
			if now, code := askDigest(t, l, n); code != impl.LedgerOK || now != root {
				t.Errorf("size %d: got %d %x, want %x", n, code, now, root)
			}
			if n > 0 {
				proof, _ := askConsistency(t, l, n, 70)
				now, _ := impl.DigestAt(l, 70)
				path, _ := askInclusion(t, l, n-1, 70)
				if !impl.CheckProof(kind, n, root, 70, now, proof) || !impl.CheckPath(kind, l.Entries[n-1], n-1, 70, now, path) {
					t.Errorf("size %d: not accepted", n)
				}
			}
		}
	}
}

func TestLedgerQueries(t *testing.T) {
	l := shop(t, 1, 60)
	long := "'" + strings.Repeat("x", 150) + "'"
	cases := []struct {
		sql  string
		code int
		rows [][]impl.Value
	}{
		{"select name, id * 3 from t", impl.SqlOK, [][]impl.Value{{words("it's"), whole(15)}}},
		{"select n from w where n < 0", impl.SqlOK, nil},
		{"select 1, 'x' from w where len(word) = 1", impl.SqlOK, [][]impl.Value{{whole(1), words("x")}}},
		{"select id from gone", impl.SqlTable, nil},
		{"select gone from t", impl.SqlColumn, nil},
		{"select name + 1 from t", impl.SqlType, nil},
		{"select id from t where name", impl.SqlType, nil},
		{"select " + long + " || " + long + " from t", impl.SqlBig, nil},
		{"delete from t", impl.SqlShape, nil},
		{"delete from gone", impl.SqlShape, nil},
		{"insert into t values (1, 'x')", impl.SqlShape, nil},
		{"update t set id = 1", impl.SqlShape, nil},
		{"create table u (id int)", impl.SqlShape, nil},
	}
	for _, c := range cases {
		rows, code, sqlCode := askQuery(t, l, entryOf(t, c.sql))
		if code != impl.LedgerOK || sqlCode != c.code || !sameRows(rows, c.rows) {
			t.Errorf("%s: got %d %d %s", c.sql, code, sqlCode, rowsName(rows))
		}
	}
	// A query asks nothing of the file system.
	for _, u := range upsets() {
		given := copyLedger(l)
		u.change(&given)
		if rows, code, sqlCode := askQuery(t, given, entryOf(t, cases[0].sql)); code != impl.LedgerOK || sqlCode != impl.SqlOK || !sameRows(rows, cases[0].rows) {
			t.Errorf("%s: got %d %d %s", u.what, code, sqlCode, rowsName(rows))
		}
	}
	// As a statement that is executed it is journaled, and the tables are as they were.
	after, code, sqlCode := askExecute(t, l, entryOf(t, cases[0].sql))
	if code != impl.LedgerOK || sqlCode != impl.SqlOK || len(after.Entries) != len(l.Entries)+1 || !sameDb(after.Db, l.Db) {
		t.Errorf("executed: got %d %d %s", code, sqlCode, ledgerName(after))
	}
}

// spoilLedger changes one thing, so that no call gave the ledger.
func spoilLedger(source *rand.Rand, l *impl.Ledger) {
	number := pick(source, []int{-1, 0, 1, 2, 3, 9999, 10000, mostCap, mostCap + 1, math.MinInt, math.MaxInt})
	switch source.Intn(12) {
	case 0:
		l.Kind = pick(source, append(slices.Clone(noKinds), 0, 1))
	case 1:
		l.Most = number
	case 2:
		l.Log.Last = number
	case 3:
		l.Log.Size = number
	case 4:
		l.Entries = append(l.Entries, pick(source, []string{"", "x", mixed(30, 3)}))
	case 5:
		l.Entries = l.Entries[:source.Intn(len(l.Entries)+1)]
	case 6:
		l.Db = anyDb(source)
	case 7:
		if len(l.Db.Tables) > 0 {
			l.Db.Tables[0].Name = pick(source, []string{"", "zz", "table", "a"})
		}
	case 8:
		l.Tree.Size = pick(source, []int{number, len(l.Entries) + 1, 2000, 2001})
	case 9:
		l.Tree.Peaks = pick(source, [][]string{nil, {"x"}, {strings.Repeat("x", 32)}, append(l.Tree.Peaks, "y"), l.Tree.Peaks[:len(l.Tree.Peaks)/2]})
	case 10:
		spoilFs(source, &l.Fs)
	case 11:
		l.Up = source.Intn(3) > 0
	}
}

func TestLedgersThatNoCallGave(t *testing.T) {
	source := rand.New(rand.NewSource(71))
	met := tally{}
	starts := []impl.Ledger{{}, {Up: true}, opened(t, 0, 60), shop(t, 0, 60), shop(t, 1, 1000)}
	for i := range 6000 {
		l := copyLedger(pick(source, starts))
		for range 1 + source.Intn(3) {
			spoilLedger(source, &l)
		}
		entry := plainBytes(stmFor(source, l.Db, 1+i%5))
		if source.Intn(3) == 0 {
			entry = entryOf(t, pick(source, deeds()).sql)
		}
		_, code, sqlCode := askExecute(t, l, entry)
		met[fmt.Sprint("code ", code)]++
		met[fmt.Sprint("sql ", sqlCode)]++
		_, code, sqlCode = askQuery(t, l, entry)
		met[fmt.Sprint("query ", code, " ", sqlCode)]++
		n, i := source.Intn(len(l.Entries)+3)-1, source.Intn(len(l.Entries)+3)-1
		askDigest(t, l, n)
		askInclusion(t, l, i, n)
		askConsistency(t, l, i, n)
		if t.Failed() {
			return
		}
	}
	for _, code := range []int{impl.LedgerOK, impl.LedgerDown, impl.LedgerStm, impl.FsBad, impl.JournalBroken, impl.JournalSize, impl.JournalEnd, impl.FsExists} {
		met.need(t, fmt.Sprint("code ", code))
	}
	met.need(t, "sql 7", "query 0 0", "query 0 1", "query 0 7", "query 40 0", "query 41 0")
}

func TestLedgersWithOneThingWrong(t *testing.T) {
	start := shop(t, 0, 60)
	insert, ask := entryOf(t, "insert into t values (9, '')"), entryOf(t, "select id from t")
	for what, db := range wrongDbs() {
		l := copyLedger(start)
		l.Db = db
		after, code, sqlCode := askExecute(t, l, insert)
		if code != impl.LedgerOK || sqlCode != impl.SqlShape || len(after.Db.Tables) != 0 || len(after.Entries) != len(l.Entries)+1 || after.Tree.Size != l.Tree.Size+1 {
			t.Errorf("%s: got %d %d %s", what, code, sqlCode, ledgerName(after))
		}
		if rows, code, sqlCode := askQuery(t, l, ask); code != impl.LedgerOK || sqlCode != impl.SqlShape || len(rows) != 0 {
			t.Errorf("%s: got %d %d %s", what, code, sqlCode, rowsName(rows))
		}
		l.Up = false
		if after, code, _ := askExecute(t, l, insert); code != impl.LedgerDown || !sameDb(after.Db, db) {
			t.Errorf("%s: down: got %d %s", what, code, ledgerName(after))
		}
	}
	for _, kind := range noKinds {
		l := copyLedger(start)
		l.Kind = kind
		after, code, sqlCode := askExecute(t, l, insert)
		if code != impl.LedgerOK || sqlCode != impl.SqlOK || !sameTree(after.Tree, impl.Tree{}) || after.Kind != kind || len(after.Entries) != len(l.Entries)+1 {
			t.Errorf("kind %d: got %d %d %s", kind, code, sqlCode, ledgerName(after))
		}
		root, code := askDigest(t, l, 3)
		path, why := askInclusion(t, l, 1, 3)
		proof, wherefore := askConsistency(t, l, 1, 3)
		if root != "" || len(path) != 0 || len(proof) != 0 || code != impl.LedgerOK || why != impl.LedgerOK || wherefore != impl.LedgerOK {
			t.Errorf("kind %d: got %d %d %d", kind, code, why, wherefore)
		}
	}
	for _, tree := range []impl.Tree{{Size: -1}, {Size: 1}, {Peaks: []string{"x"}}, {Size: 2001, Peaks: peaksOf(2001, 32)}, {Size: 2000, Peaks: peaksOf(2000, 32)}, {Size: 3, Peaks: peaksOf(3, 1)}} {
		l := copyLedger(start)
		l.Tree = tree
		if after, code, _ := askExecute(t, l, insert); code != impl.LedgerOK || !sameTree(after.Tree, impl.Tree{}) || len(after.Entries) != len(l.Entries)+1 {
			t.Errorf("%v: got %d %s", tree, code, ledgerName(after))
		}
		askPast(t, l)
	}
	l := copyLedger(start)
	l.Entries = listsOf(9)["bytes"]
	if after, code, _ := askExecute(t, l, insert); code != impl.LedgerOK || len(after.Entries) != 10 || after.Tree.Size != start.Tree.Size+1 {
		t.Errorf("entries that are no statements: got %d %s", code, ledgerName(after))
	}
	askPast(t, l)
	l.Entries = differentEntries(2001)
	if after, code, _ := askExecute(t, l, insert); code != impl.LedgerFull || !sameLedger(after, l) {
		t.Errorf("too many entries: got %d %s", code, ledgerName(after))
	}
}

// The text of an entry may be cut out of a far longer one, which isn't kept.
func TestLedgerEntriesAreNotCutOutOfArguments(t *testing.T) {
	text := "before" + entryOf(t, "create table t (id int)") + "behind"
	after, code, _ := impl.Execute(opened(t, 0, 60), text[6:len(text)-6])
	if code != impl.LedgerOK || liesIn(after.Entries[0], text) || liesIn(after.Db.Tables[0].Name, text) || liesIn(after.Fs.Files[0].Data, text) {
		t.Errorf("got %d %s", code, ledgerName(after))
	}
}

// All goroutines have ended when a call answers, also where an entry is refused early.
func TestLedgerLeavesNoGoroutine(t *testing.T) {
	good := filled(t, 60)
	bad := slices.Insert(slices.Clone(good), 1, "x")
	before := runtime.NumGoroutine()
	for range 300 {
		impl.OpenLedger(0, 60, fsOf(synced("seg-0001", framesOf(good...))))
		impl.OpenLedger(0, 60, fsOf(synced("seg-0001", framesOf(bad...))))
		impl.Audit(0, len(good), "", good)
		impl.Audit(0, len(bad), "", bad)
		impl.Audit(0, 0, "", nil)
	}
	askGoroutines(t, before)
}

func TestLedgerDoesNotHangOnTheSchedule(t *testing.T) {
	fs := shop(t, 0, 60).Fs
	bad := fsOf(synced("seg-0001", framesOf(append(filled(t, 30), "x")...)))
	was := runtime.GOMAXPROCS(0)
	defer runtime.GOMAXPROCS(was)
	for _, n := range []int{1, 2, 3, was + 4} {
		runtime.GOMAXPROCS(n)
		for range 50 {
			askOpen(t, 0, 60, fs)
			askOpen(t, 1, 60, bad)
		}
	}
}

func TestManyLedgersAtOnce(t *testing.T) {
	l := roomyLedger(shop(t, 0, 60))
	before := wholeLedger(l)
	insert, ask := entryOf(t, "insert into t values (9, '')"), entryOf(t, "select id from t")
	want, _, _ := plainExecute(l, insert)
	root := plainRoot(0, l.Entries)
	var workers sync.WaitGroup
	for range 8 {
		workers.Add(1)
		go func() {
			defer workers.Done()
			for range 50 {
				after, code, _ := impl.Execute(l, insert)
				again, why := impl.OpenLedger(0, 60, after.Fs)
				db, how := impl.Audit(0, len(l.Entries), root, l.Entries)
				if code != impl.LedgerOK || why != impl.LedgerOK || how != impl.AuditOK || !sameLedger(after, want) || !sameLedger(again, want) || !sameDb(db, l.Db) {
					t.Errorf("got %d %d %d %s", code, why, how, ledgerName(after))
				}
				impl.OpenLedger(0, 60, l.Fs)
				impl.Query(l, ask)
				impl.DigestAt(l, 5)
				impl.ProveInclusion(l, 1, 5)
				impl.ProveConsistency(l, 1, 5)
			}
		}()
	}
	workers.Wait()
	if !reflect.DeepEqual(wholeLedger(l), before) {
		t.Error("the argument is changed")
	}
}
