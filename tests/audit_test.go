package tests

import (
	"fmt"
	"math"
	"math/rand"
	"slices"
	"strings"
	"testing"

	"loop.example/s02884/impl"
)

func plainAudit(kind, size int, root string, entries []string) (impl.Db, int) {
	db, areStms := plainFold(entries)
	switch {
	case !isKind(kind):
		return impl.Db{}, 45
	case size != len(entries) || size > 2000:
		return impl.Db{}, 50
	case !areStms:
		return impl.Db{}, 51
	case plainRoot(kind, entries) != root:
		return impl.Db{}, 52
	}
	return db, 0
}

// askAudit holds Audit against the plain reading, and gives what it answered.
func askAudit(t *testing.T, kind, size int, root string, entries []string) (impl.Db, int) {
	t.Helper()
	given, room := withRoom(entries)
	before := slices.Clone(room)
	db, code := impl.Audit(kind, size, root, given)
	again, _ := impl.Audit(kind, size, root, given)
	if !slices.Equal(room, before) {
		t.Errorf("the argument is changed: %d entries", len(entries))
	}
	if !areApart(addSpan(nil, room), spansOfDb(db), spansOfDb(again)) {
		t.Errorf("memory is shared: %d entries", len(entries))
	}
	want, wantCode := plainAudit(kind, size, root, entries)
	if code != wantCode || !sameDb(db, want) || !sameDb(again, want) {
		t.Errorf("audit of %d entries, kind %d size %d root %x: got %d %s, want %d %s", len(entries), kind, size, root, code, dbName(db), wantCode, dbName(want))
	}
	if code != impl.AuditOK && len(db.Tables) != 0 {
		t.Errorf("tables beside %d: %s", code, dbName(db))
	}
	return db, code
}

func deedEntries(t *testing.T) []string {
	t.Helper()
	entries := []string{}
	for _, d := range deeds() {
		entries = append(entries, entryOf(t, d.sql))
	}
	return entries
}

// Audit accepts the entries of a ledger against each of its digests, and the fold is what the tables were then.
func TestAuditOfALedger(t *testing.T) {
	for _, kind := range bothKinds {
		l := opened(t, kind, 60)
		for _, entry := range append(deedEntries(t), filled(t, 30)...) {
			root, _ := askDigest(t, l, len(l.Entries))
			if db, code := askAudit(t, kind, len(l.Entries), root, l.Entries); code != impl.AuditOK || !sameDb(db, l.Db) {
				t.Errorf("%d entries: got %d %s, want %s", len(l.Entries), code, dbName(db), dbName(l.Db))
			}
			if _, code := askAudit(t, kind, len(l.Entries)+1, root, append(slices.Clone(l.Entries), entry)); code == impl.AuditOK && kind == impl.KindFull {
				t.Errorf("%d entries: one more is accepted", len(l.Entries))
			}
			l, _, _ = askExecute(t, l, entry)
		}
	}
}

// Each subset of four faults gives the code of the first.
func TestAuditCodesInOrder(t *testing.T) {
	codes := []int{impl.LedgerKind, impl.AuditSize, impl.AuditEntry, impl.AuditRoot}
	for _, kind := range bothKinds {
		for faults := range 16 {
			entries := deedEntries(t)
			given, size, root := kind, len(entries), plainRoot(kind, entries)
			if faults&4 != 0 {
				entries[7] = "x"
				root = plainRoot(kind, entries)
			}
			if faults&1 != 0 {
				given = 2
			}
			if faults&2 != 0 {
				size++
			}
			if faults&8 != 0 {
				root = changedDigest(root)
			}
			want := impl.AuditOK
			for i, code := range codes {
				if faults>>i&1 != 0 {
					want = code
					break
				}
			}
			if db, code := askAudit(t, given, size, root, entries); code != want || (len(db.Tables) == 0) != (faults != 0) {
				t.Errorf("kind %d faults %04b: got %d %s, want %d", kind, faults, code, dbName(db), want)
			}
		}
	}
}

func TestAuditKindsAndSizes(t *testing.T) {
	entries := deedEntries(t)
	n := len(entries)
	for _, kind := range noKinds {
		for _, root := range []string{"", impl.Root(0, entries), impl.Root(1, entries)} {
			if _, code := askAudit(t, kind, n, root, entries); code != impl.LedgerKind {
				t.Errorf("kind %d: got %d", kind, code)
			}
		}
	}
	for _, kind := range bothKinds {
		root := impl.Root(kind, entries)
		for _, size := range []int{-1, 0, 1, n - 1, n + 1, -n, 2000, 2001, math.MinInt, math.MaxInt, 1<<32 + n} {
			if _, code := askAudit(t, kind, size, root, entries); code != impl.AuditSize {
				t.Errorf("size %d: got %d", size, code)
			}
		}
		if db, code := askAudit(t, kind, 0, impl.Digest(kind, ""), nil); code != impl.AuditOK || len(db.Tables) != 0 {
			t.Errorf("no entries: got %d %s", code, dbName(db))
		}
		for _, size := range []int{-1, 1} {
			if _, code := askAudit(t, kind, size, impl.Digest(kind, ""), []string{}); code != impl.AuditSize {
				t.Errorf("no entries, size %d: got %d", size, code)
			}
		}
	}
}

func TestAuditOfTheMostEntries(t *testing.T) {
	entries := filled(t, 2001)
	if db, code := askAudit(t, 0, 2000, plainRoot(0, entries[:2000]), entries[:2000]); code != impl.AuditOK || len(db.Tables) != 1 || len(db.Tables[0].Rows) != 40 {
		t.Errorf("the most: got %d %s", code, dbName(db))
	}
	for _, size := range []int{2000, 2001, 2002} {
		if _, code := askAudit(t, 0, size, plainRoot(0, entries), entries); code != impl.AuditSize {
			t.Errorf("too many, size %d: got %d", size, code)
		}
	}
	bad := append(slices.Clone(entries[:1999]), "x")
	if _, code := askAudit(t, 0, 2000, plainRoot(0, bad), bad); code != impl.AuditEntry {
		t.Errorf("the last is no statement: got %d", code)
	}
	if _, code := askAudit(t, 0, 2001, "", append(bad, "x")); code != impl.AuditSize {
		t.Errorf("too many and no statement: got %d", code)
	}
}

func TestAuditEntriesAndRoots(t *testing.T) {
	entries := deedEntries(t)
	n := len(entries)
	for _, kind := range bothKinds {
		for at := range entries {
			for _, bad := range []string{"", "x", entries[at] + "\x00", entries[at][1:], entries[at][:len(entries[at])-1]} {
				changed := slices.Clone(entries)
				changed[at] = bad
				for _, root := range []string{"", plainRoot(kind, entries), plainRoot(kind, changed)} {
					if _, code := askAudit(t, kind, n, root, changed); code != impl.AuditEntry {
						t.Errorf("%s at %d: got %d", short(bad), at, code)
					}
				}
			}
		}
		root := plainRoot(kind, entries)
		roots := []string{"", root + "x", root + "\x00", "\x00" + root, root[1:], root[:len(root)-1], changedDigest(root), root + root, plainRoot(1-kind, entries), strings.ToUpper(fmt.Sprintf("%x", root))}
		for bit := range 8 * len(root) {
			changed := []byte(root)
			changed[bit/8] ^= 1 << (bit % 8)
			roots = append(roots, string(changed))
		}
		for _, other := range roots {
			if _, code := askAudit(t, kind, n, other, entries); code != impl.AuditRoot {
				t.Errorf("root %x: got %d", other, code)
			}
		}
	}
	// With the full digest a list in another order has another root.
	swapped := slices.Clone(entries)
	swapped[0], swapped[1] = swapped[1], swapped[0]
	if _, code := askAudit(t, 0, n, plainRoot(0, entries), swapped); code != impl.AuditRoot {
		t.Errorf("swapped: got %d", code)
	}
}

// manyOf are statements of one sort, with every leaf of the weak kind among them.
func manyOf(t *testing.T, sql string) []string {
	t.Helper()
	entries := []string{}
	for i := range 600 {
		entries = append(entries, entryOf(t, fmt.Sprintf(sql, i)))
	}
	return entries
}

// askTwoAudits asks of two lists that are accepted what promise 14 says.
func askTwoAudits(t *testing.T, met tally, kind int, root string, a, b []string) {
	t.Helper()
	dbA, codeA := askAudit(t, kind, len(a), root, a)
	dbB, codeB := askAudit(t, kind, len(a), root, b)
	if codeA != impl.AuditOK || codeB != impl.AuditOK {
		met["refused"]++
		return
	}
	pair := impl.CollideProof(kind, a, b, nil)
	isCollision := pair.Found && pair.X != pair.Y && impl.Digest(kind, pair.X) == impl.Digest(kind, pair.Y)
	switch {
	case !sameDb(dbA, dbB):
		met["other tables"]++
		if !isCollision {
			t.Errorf("two lists of %d with one root and different tables, but no collision: %v", len(a), pair)
		}
	case slices.Equal(a, b):
		met["one list"]++
		if pair != (impl.Pair{}) {
			t.Errorf("a collision of a list with itself: %v", pair)
		}
	default:
		met["the same tables"]++
	}
}

func TestAuditOfTwoListsWithOneRoot(t *testing.T) {
	longSearch(t)
	source := rand.New(rand.NewSource(72))
	met := tally{}
	create := entryOf(t, "create table t (id int)")
	inserts, failing := manyOf(t, "insert into t values (%d)"), manyOf(t, "delete from u where id = %d")
	anyList := func(n int, last []string) []string {
		list := []string{create}
		for len(list) < n {
			list = append(list, pick(source, pick(source, [][]string{inserts, failing})))
		}
		list[n-1] = pick(source, last)
		return list
	}
	for n := 1; n <= 9; n++ {
		for range 200 {
			last := pick(source, [][]string{inserts, failing})
			a := anyList(n, last)
			root := plainRoot(impl.KindWeak, a)
			askTwoAudits(t, met, impl.KindWeak, root, a, a)
			for _, b := range [][]string{slices.Clone(a), anyList(n, last)} {
				for range 300 {
					b[n-1] = pick(source, last)
					if plainRoot(impl.KindWeak, b) == root {
						break
					}
				}
				askTwoAudits(t, met, impl.KindWeak, root, a, b)
				askTwoAudits(t, met, impl.KindFull, plainRoot(impl.KindFull, a), a, b)
			}
		}
	}
	met.need(t, "other tables", "the same tables", "one list", "refused")
}
