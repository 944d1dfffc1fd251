package tests

import (
	"fmt"
	"math/rand"
	"slices"
	"strings"
	"testing"

	"loop.example/s02884/impl"
)

// A story is a ledger in use, as one sees it who knows only the codes.
type story struct {
	kind, most int
	ledger     impl.Ledger
	acked      []string // those for which LedgerOK was answered, since they are surely in it
	flight     []string // the one, if any, of which nobody knows
	met        tally
	past       map[string]bool // the lists of which digests and proofs were asked already
}

// mustHave asks of the entries of an opening what promise 11 says.
func (s *story) mustHave(t *testing.T, entries []string) {
	t.Helper()
	switch {
	case slices.Equal(entries, s.acked):
		s.met["those that were answered for"]++
	case slices.Equal(entries, slices.Concat(s.acked, s.flight)):
		s.met["the one in flight too"]++
	default:
		t.Errorf("%d entries after an opening, %d answered for, %d in flight", len(entries), len(s.acked), len(s.flight))
	}
}

func (s *story) open(t *testing.T) int {
	t.Helper()
	l, code := askOpen(t, s.kind, s.most, s.ledger.Fs)
	s.met[fmt.Sprint("open ", code)]++
	s.ledger = l
	if code == impl.LedgerOK {
		s.mustHave(t, l.Entries)
		s.acked, s.flight = slices.Clone(l.Entries), nil
		s.askAll(t)
	}
	return code
}

// askAll asks what a ledger must be at any time, and what promises 13 and 14 say of it.
func (s *story) askAll(t *testing.T) {
	t.Helper()
	l := s.ledger
	if !slices.Equal(l.Entries, s.acked) {
		t.Errorf("%d entries, %d answered for", len(l.Entries), len(s.acked))
	}
	db, _ := plainFold(s.acked)
	tree := impl.Tree{Size: len(s.acked), Peaks: plainPeaks(s.kind, s.acked)}
	if !sameDb(l.Db, db) || !sameTree(l.Tree, tree) || !impl.FsValid(l.Fs) {
		t.Errorf("after %d entries: got %s", len(s.acked), ledgerName(l))
	}
	name := fmt.Sprintf("%d %v %q", l.Kind, l.Up, l.Entries)
	if s.past[name] {
		return
	}
	s.past[name] = true
	askPast(t, l)
	if got, code := askAudit(t, s.kind, len(s.acked), plainRoot(s.kind, s.acked), l.Entries); code != impl.AuditOK || !sameDb(got, l.Db) {
		t.Errorf("audit: got %d %s", code, dbName(got))
	}
}

func (s *story) execute(t *testing.T, entry string) {
	t.Helper()
	if s.ledger.Kind != s.kind || s.ledger.Most != s.most {
		return // what OpenLedger gave was no ledger
	}
	after, code, _ := askExecute(t, s.ledger, entry)
	s.met[fmt.Sprint("execute ", code)]++
	s.ledger = after
	switch code {
	case impl.LedgerOK:
		s.acked = append(s.acked, entry)
	case impl.FsDown, impl.FsBad, impl.JournalBroken:
		s.flight = []string{entry}
	}
	if isDown := len(s.flight) > 0; after.Up == isDown || (code == impl.LedgerDown) && !isDown {
		t.Errorf("%d, but Up is %v", code, after.Up)
	}
	s.askAll(t)
}

// beginnings are the ways to keep a beginning of what isn't synced.
func beginnings(fs impl.Fs) [][]string {
	kept := looseBytes(fs)
	all := [][]string{nil}
	for n := 1; n <= len(strings.Join(kept, "")); n++ {
		shorter := []string{}
		for _, tail := range kept {
			shorter = append(shorter, tail[:min(n, len(tail))])
		}
		all = append(all, shorter)
	}
	return all
}

// after is the story as it goes on when the crash has kept these bytes.
func (s *story) after(tails []string) *story {
	next := *s
	next.ledger = impl.Ledger{Fs: impl.FsCrash(s.ledger.Fs, tails)}
	next.acked = slices.Clone(s.acked)
	return &next
}

// askEndings asks for every way in which a crash may end, with crashes in the opening itself.
func (s *story) askEndings(t *testing.T, more string) {
	t.Helper()
	for _, tails := range beginnings(s.ledger.Fs) {
		next := s.after(tails)
		if code := next.open(t); code != impl.LedgerOK {
			t.Errorf("after a crash: got %d %s", code, fsName(next.ledger.Fs))
		}
		next.execute(t, more)
		for at := 1; ; at++ {
			again := s.after(tails)
			again.ledger.Fs.CrashAt = again.ledger.Fs.Count + at
			if again.open(t) == impl.LedgerOK {
				break
			}
			s.met["a crash in an opening"]++
			for _, others := range beginnings(again.ledger.Fs) {
				last := again.after(others)
				if code := last.open(t); code != impl.LedgerOK || !slices.Equal(last.acked, next.acked[:len(next.acked)-1]) {
					t.Errorf("after a crash in an opening: got %d, %d entries, want %d", code, len(last.acked), len(next.acked)-1)
				}
			}
		}
	}
}

// askStory executes the statements, and asks for every way in which a crash at the end may end.
func askStory(t *testing.T, s story, fs impl.Fs, entries []string) {
	t.Helper()
	s.ledger = impl.Ledger{Fs: fs}
	s.open(t)
	for _, entry := range entries {
		s.execute(t, entry)
	}
	s.ledger.Fs.Cap = 100000
	s.askEndings(t, entries[0])
}

// longSearch is left out of short runs, such as those with the race detector.
func longSearch(t *testing.T) {
	t.Helper()
	if testing.Short() {
		t.Skip("a long search")
	}
}

func tales(t *testing.T) [][]string {
	t.Helper()
	lists := [][]string{}
	for _, list := range [][]string{
		{"create table t (id int)", "insert into t values (1)", "insert into t values (1)", "delete from t"},
		{"delete from u", "create table w (a text, b int)", "insert into w values ('it''s', 5)", "update w set a = a || a", "select a from w"},
	} {
		entries := []string{}
		for _, sql := range list {
			entries = append(entries, entryOf(t, sql))
		}
		lists = append(lists, entries)
	}
	return lists
}

func TestLedgerCrashesAtEachOperation(t *testing.T) {
	met, past := tally{}, map[string]bool{}
	for i, entries := range tales(t) {
		for _, most := range []int{1, 60, 1000} {
			s := story{kind: i, most: most, met: met, past: past}
			for at := range 18 {
				askStory(t, s, impl.Fs{Cap: 100000, CrashAt: at}, entries)
				askStory(t, s, impl.Fs{Cap: 100000, FailAt: at}, entries)
				for _, other := range []int{1, 2, 3, 5} {
					askStory(t, s, impl.Fs{Cap: 100000, FailAt: at, CrashAt: at + other}, entries)
				}
			}
		}
	}
	met.need(t, "open 0", "open 11", "open 12", "execute 0", "execute 11", "execute 12", "execute 40", "those that were answered for", "the one in flight too", "a crash in an opening")
}

func TestLedgerCrashesOfFullFileSystems(t *testing.T) {
	longSearch(t)
	met, past := tally{}, map[string]bool{}
	for i, entries := range tales(t) {
		whole := len(framesOf(entries...))
		for _, most := range []int{1, 70} {
			s := story{kind: 1 - i, most: most, met: met, past: past}
			for room := range whole + 1 {
				askStory(t, s, impl.Fs{Cap: room}, entries)
				for at := 1 + room%5; at < 17; at += 5 {
					askStory(t, s, impl.Fs{Cap: room, FailAt: at}, entries)
					askStory(t, s, impl.Fs{Cap: room, CrashAt: at}, entries)
				}
			}
		}
	}
	met.need(t, "execute 0", "execute 11", "execute 12", "execute 13", "execute 20", "execute 40", "those that were answered for", "the one in flight too", "a crash in an opening")
}

// replaced asks what promise 12 says when what wasn't synced is replaced by any bytes.
func (s *story) replaced(t *testing.T, tails []string) {
	t.Helper()
	fs := askCrash(t, s.ledger.Fs, tails)
	_, _, entries, code := askRecover(t, fs)
	if code != impl.FsOK || len(entries) < len(s.acked) || !slices.Equal(entries[:len(s.acked)], s.acked) {
		t.Errorf("%d: %d entries don't begin with the %d answered for", code, len(entries), len(s.acked))
		return
	}
	bytes := ""
	for i, f := range fs.Files {
		bytes += f.Data[s.ledger.Fs.Files[i].Synced:]
	}
	behind := entries[len(s.acked):]
	if !strings.HasPrefix(bytes, framesOf(behind...)) {
		t.Errorf("%q didn't stand in %q", behind, bytes)
	}
	s.met[fmt.Sprint(min(len(behind), 2), " behind")]++
	s.ledger, s.acked, s.flight = impl.Ledger{Fs: fs}, entries, nil
}

// anyTails keep, lose and replace what isn't synced, by statements among others.
func anyTails(source *rand.Rand, fs impl.Fs, entries []string) []string {
	tails := looseBytes(fs)
	for i, tail := range tails {
		switch source.Intn(6) {
		case 0:
			tails[i] = framesOf(pick(source, entries), pick(source, entries))
		case 1:
			tails[i] = framesOf(entries[:1+source.Intn(len(entries))]...) + "junk"
		case 2:
			tails[i] = mixed(source.Intn(len(tail)+3), source.Intn(100))
		case 3:
			tails[i] = framesOf("x") + framesOf(pick(source, entries))
		case 4:
			tails[i] = tail[:source.Intn(len(tail)+1)]
		}
	}
	return tails
}

// rearm has the file system fail or crash at one of the next operations, or be full.
func (s *story) rearm(source *rand.Rand) {
	fs := &s.ledger.Fs
	used := 0
	for _, f := range fs.Files {
		used += len(f.Data)
	}
	fs.CrashAt, fs.FailAt, fs.Cap = 0, 0, 100000
	switch source.Intn(5) {
	case 0:
		fs.CrashAt = fs.Count + 1 + source.Intn(12)
	case 1:
		fs.FailAt = fs.Count + 1 + source.Intn(12)
	case 2:
		fs.Cap = used + source.Intn(120)
	case 3:
		fs.Cap, fs.FailAt = used+source.Intn(40), fs.Count+1+source.Intn(4)
	}
}

func shortStms(source *rand.Rand, n int) []string {
	entries := []string{}
	db := impl.Db{}
	for len(entries) < n {
		s := stmFor(source, db, pick(source, []int{1, 2, 2, 2, 3, 4, 5}))
		if text := plainBytes(s); plainStmOK(s) && len(text) < 200 {
			entries = append(entries, text)
			db, _ = plainApply(db, s)
		}
	}
	return entries
}

// Many lives of one journal, each of which ends with a crash that keeps beginnings.
func TestManyLedgerStories(t *testing.T) {
	longSearch(t)
	source := rand.New(rand.NewSource(73))
	met, past := tally{}, map[string]bool{}
	for range 150 {
		s := &story{kind: source.Intn(2), most: pick(source, []int{1, 50, 120, 1000}), met: met, past: past}
		s.ledger.Fs.Cap = 100000
		for range 5 {
			s.rearm(source)
			for range 3 {
				if code := s.open(t); code == impl.LedgerOK {
					break
				}
				if s.ledger.Fs.Down {
					s = s.after(pick(source, beginnings(s.ledger.Fs)))
				}
			}
			for _, entry := range shortStms(source, source.Intn(5)) {
				s.execute(t, entry)
				if source.Intn(3) == 0 {
					s.rearm(source)
				}
				if source.Intn(8) == 0 && !s.ledger.Fs.Down {
					s.open(t)
				}
			}
			s.ledger.Fs.Cap = 100000
			s = s.after(pick(source, beginnings(s.ledger.Fs)))
			if code := s.open(t); code != impl.LedgerOK {
				t.Errorf("after a crash: got %d", code)
			}
			if t.Failed() {
				return
			}
		}
	}
	met.need(t, "open 0", "open 11", "open 12", "execute 0", "execute 11", "execute 12", "execute 13", "execute 20", "execute 40", "those that were answered for", "the one in flight too")
}

func TestManyLedgersWithReplacedBytes(t *testing.T) {
	longSearch(t)
	source := rand.New(rand.NewSource(74))
	met, past := tally{}, map[string]bool{}
	for range 400 {
		s := &story{kind: source.Intn(2), most: pick(source, []int{1, 50, 120, 1000}), met: met, past: past}
		s.ledger.Fs.Cap = 100000
		for range 4 {
			entries := shortStms(source, 1+source.Intn(4))
			s.rearm(source)
			if s.open(t) == impl.LedgerEntry {
				break
			}
			for _, entry := range entries {
				s.execute(t, entry)
			}
			s.ledger.Fs.Cap = 100000
			s.replaced(t, anyTails(source, s.ledger.Fs, entries))
			if t.Failed() {
				return
			}
		}
	}
	met.need(t, "open 0", "open 42", "execute 0", "execute 11", "execute 20", "0 behind", "1 behind", "2 behind")
}
