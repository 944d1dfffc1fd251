package tests

import (
	"fmt"
	"math/rand"
	"runtime"
	"slices"
	"strings"
	"sync"
	"testing"

	"loop.example/s02884/impl"
)

// shelves are lines with which outputs of any length can be made: 100 rows of t have a text of 200 bytes, and u has one row.
func shelves() []string {
	lines := []string{"open 0 10000", "sql create table t (a int, b text)", "sql create table u (a int)", "sql insert into u values (1)"}
	for i := range 100 {
		lines = append(lines, fmt.Sprintf("sql insert into t values (%d, '%s')", i, strings.Repeat("x", 200)))
	}
	return lines
}

// outputOf is a line that writes just n bytes, from 13 to 213.
func outputOf(n int) string {
	return "query select '" + strings.Repeat("y", n-13) + "' from u"
}

// scriptWriting has lines that write just n bytes in all, the last of them last bytes.
func scriptWriting(t *testing.T, n, last int) []string {
	t.Helper()
	lines := shelves()
	left := n - last - len(impl.RunScript(linesOf(lines...)))
	// At least 13 bytes are always left for a line that makes up the number.
	for left >= 20300+23 {
		outs := min((left-23)/20300, 20)
		lines = append(lines, "query select "+listOf(outs, "b", ",")+" from t")
		left -= outs*20300 + 10
	}
	rows := (left - 23) / 203
	lines, left = append(lines, fmt.Sprintf("query select b from t where a < %d", rows)), left-rows*203-10
	if left > 213 {
		lines, left = append(lines, outputOf(100)), left-100
	}
	if left > 213 || left < 13 {
		t.Fatalf("the test's own: %d bytes are left", left)
	}
	return append(lines, outputOf(left), outputOf(last))
}

func TestScriptOutputsOfMaxOutput(t *testing.T) {
	for _, last := range []int{13, 50, 213} {
		full := scriptWriting(t, impl.MaxOutput, last)
		whole := askScript(t, linesOf(full...))
		if len(whole) != 1000000 || strings.HasSuffix(whole, "long\n") {
			t.Fatalf("the last line of %d bytes: %d bytes, with %q in the end", last, len(whole), whole[len(whole)-20:])
		}
		before := whole[:len(whole)-last]
		over := scriptWriting(t, impl.MaxOutput+1, last)
		wantOver := before[:len(before)-2] + "y'\nlong\n"
		if got := askScript(t, linesOf(append(over, "crash", "open 0 1")...)); got != wantOver {
			t.Errorf("the last line of %d bytes: one byte too many: %d bytes, with %q in the end", last, len(got), got[len(got)-20:])
		}
		longer := append(slices.Clone(full[:len(full)-1]), outputOf(min(last+1, 213)))
		if last < 213 {
			askOutput(t, "a last line that is one byte longer", linesOf(longer...), before+"long\n")
		}
	}
}

// When the output is full, lines that write nothing go on, and the first that writes ends it.
func TestScriptLinesBehindFullOutputs(t *testing.T) {
	full := scriptWriting(t, impl.MaxOutput, 100)
	whole := impl.RunScript(linesOf(full...))
	if len(whole) != 1000000 {
		t.Fatalf("the test's own: %d bytes", len(whole))
	}
	askOutput(t, "nothing is written", linesOf(append(full, "", "arm 5", "fail 0", "cap 5", "")...), whole)
	for _, line := range []string{"open 0 1", "sql select a from t", "sql ", "raw 00", "query select a from t where 0", "query ", "digest 0", "digest 9999", "prove 0 1", "extend 0 1", "crash"} {
		askOutput(t, line, linesOf(append(full, line)...), whole+"long\n")
		askOutput(t, line+" behind lines that write nothing", linesOf(append(full, "arm 5", "fail 0", line, "cap 5", "crash", "crash")...), whole+"long\n")
	}
}

// The room that is left is for one line and not for another: it is the line's own output that counts.
func TestScriptLinesBehindNearlyFullOutputs(t *testing.T) {
	for _, c := range []struct {
		line, want string
	}{
		{"crash", "crash\n"}, {"open 2 0", "open 45 0\n"}, {"sql ", "parse 32 0\n"}, {"raw 00", "sql 41 0 103\n"},
		{"digest 104", "digest 43 \n"}, {"prove 5 5", "proof 43\n"}, {"extend 0 1", "proof 43\n"}, {"prove 0 1", "proof 0\n"},
		{"query select b from u", "query 0 3\n"}, {"query select a, a from u", "query 0 0\n1 1\n"},
		{"digest 0", fmt.Sprintf("digest 0 %x\n", plainDigest(0, ""))},
	} {
		for room := range len(c.want) + 3 {
			if room > 0 && room < len(c.want)-3 {
				continue
			}
			lines := scriptWriting(t, impl.MaxOutput-room, 100)
			before, want := impl.RunScript(linesOf(lines...)), c.want
			if room < len(c.want) {
				want = "long\n"
			}
			askOutput(t, fmt.Sprintf("%s with room for %d bytes", c.line, room), linesOf(append(lines, c.line)...), before+want)
		}
	}
}

// The line that is too long isn't cut: none of its rows is written, however many would fit.
func TestScriptOfOneLongQuery(t *testing.T) {
	lines := []string{"open 1 1000000", "sql create table t (a int, b text)"}
	for i := range 500 {
		lines = append(lines, fmt.Sprintf("sql insert into t values (%d, '%s')", i, strings.Repeat("'", 200)))
	}
	want := impl.RunScript(linesOf(lines...))
	if !strings.HasSuffix(want, "sql 0 0 501\n") {
		t.Fatalf("the test's own: %q", want[len(want)-20:])
	}
	lines = append(lines, "query select "+listOf(20, "b", ",")+" from t", "crash")
	askOutput(t, "eight millions of bytes", linesOf(lines...), want+"long\n")
}

func TestScriptOfFullLedger(t *testing.T) {
	del := "sql delete from t"
	lines := append([]string{"open 0 1000"}, slices.Repeat([]string{del}, 2000)...)
	raw := rawOf(t, "delete from t")
	lines = append(lines, del, raw, "raw 00", "sql ?", "query select a from t", "arm 1", del, "crash", "open 0 1000", del, "digest 2000", "digest 2001", "prove 1999 2000", "extend 1024 2000", "prove 0 2001")
	got := askScript(t, linesOf(lines...))
	for _, want := range []string{"sql 0 1 2000\nsql 44 0 2000\nsql 44 0 2000\nsql 41 0 2000\nparse 31 0\nquery 0 1\nsql 44 0 2000\ncrash\nopen 0 2000\nsql 44 0 2000\ndigest 0 ", "\ndigest 43 \nproof 0 ", "\nproof 43\n"} {
		if !strings.Contains(got, want) {
			t.Errorf("%q isn't in %s", want, shortScript(got))
		}
	}
}

func TestScriptOfFullFileSystem(t *testing.T) {
	del := "sql delete from t"
	lines := append([]string{"open 0 1"}, slices.Repeat([]string{del}, 302)...)
	got := askScript(t, linesOf(append(lines, "open 0 1000", del, "crash - - ff", "open 0 1", del)...))
	if want := "sql 0 1 300\nsql 13 0 300\nsql 13 0 300\nopen 0 300\nsql 0 1 301\ncrash\nopen 0 301\nsql 13 0 301\n"; !strings.HasSuffix(got, want) {
		t.Errorf("got %q, want %q", got[len(got)-len(want):], want)
	}
}

// A crash has put more entries into the last segment than a ledger can have.
func TestScriptOfTooManyEntries(t *testing.T) {
	frame := plainFrame(entryOf(t, "delete from t"))
	entry := plainBytes(sizedStm(59000))
	for n, want := range map[int]string{2000: "open 0 2000\n", 2001: "open 22 0\n"} {
		tail := strings.Repeat(frame, n)
		if len(tail) > len(entry) {
			t.Fatalf("the test's own: %d bytes", len(tail))
		}
		script := linesOf("open 0 1000", "arm 2", fmt.Sprintf("raw %x", entry), fmt.Sprintf("crash %x", tail), "open 0 1000")
		if got := askScript(t, script); got != "open 0 0\nsql 11 0 0\ncrash\n"+want {
			t.Errorf("%d entries: got %q", n, got)
		}
	}
}

// As many bytes as a script can have written: the file system that it begins with has room for them.
func TestScriptOfManyBytes(t *testing.T) {
	sql := "sql select " + listOf(20, listOf(50, "1", "+"), ",") + " from t\n"
	script := "open 0 1000\n"
	for len(script)+len(sql) <= impl.MaxScript {
		script += sql
	}
	n := strings.Count(script, "\n") - 1
	bytes := n * len(plainFrame(entryOf(t, sql[4:])))
	if bytes < 980000 {
		t.Fatalf("the test's own: %d bytes", bytes)
	}
	want := "open 0 0\n"
	for i := range n {
		want += fmt.Sprintf("sql 0 1 %d\n", i+1)
	}
	askOutput(t, "many bytes", script, want)
}

// Promise 6, by way of scripts: the text of a statement and its bytes are one.
func TestScriptOfEveryStatement(t *testing.T) {
	source := rand.New(rand.NewSource(81))
	stms := okStms()
	for len(stms) < 900 {
		if s := anyStm(source, 1+source.Intn(5)); plainStmOK(s) {
			stms = append(stms, s)
		}
	}
	asked := 0
	for _, s := range stms {
		text, entry := impl.PrintSql(s), impl.EncodeStm(s)
		if text == "" || len(text) > impl.MaxSql || 2*len(entry) > 190000 {
			continue
		}
		asked++
		bySql := askScript(t, linesOf("open 0 1000", "sql "+text, "digest 1"))
		byRaw := askScript(t, linesOf("open 0 1000", fmt.Sprintf("raw %x", entry), "digest 1"))
		if bySql != byRaw || !strings.Contains(bySql, fmt.Sprintf("digest 0 %x\n", plainLeaf(0, entry))) {
			t.Errorf("%s: got %s and %s", stmName(s), shortScript(bySql), shortScript(byRaw))
		}
	}
	if asked < 500 {
		t.Errorf("only %d statements were asked", asked)
	}
}

// Promise 6, by way of scripts: of bytes that are changed somewhere only those are a statement that are written so.
func TestScriptOfChangedBytes(t *testing.T) {
	met := tally{}
	for _, d := range deeds() {
		entry := entryOf(t, d.sql)
		for at := range entry {
			for _, by := range []byte{1, 2, 32, 128} {
				changed := []byte(entry)
				changed[at] ^= by
				_, ok := plainDecode(string(changed))
				met[fmt.Sprint(ok)]++
				want := "sql 41 0 0\n"
				if ok {
					want = "sql 0 "
				}
				if got := askScript(t, linesOf("open 1 1000", fmt.Sprintf("raw %x", changed))); !strings.HasPrefix(got, "open 0 0\n"+want) {
					t.Errorf("%x: got %q", changed, got)
				}
			}
		}
	}
	met.need(t, "true", "false")
}

// Promise 6, by way of scripts: every text is answered for.
func TestScriptOfEveryText(t *testing.T) {
	source := rand.New(rand.NewSource(82))
	rules, met := plainRules(), tally{}
	for i := range 3000 {
		tokens := grown(source, rules, "stm", 3+i%13, 10*(i%3))
		if len(tokens) > 150 {
			continue
		}
		text := strings.Join(tokens, " ")
		if i%10 == 0 {
			text = strings.ReplaceAll(mixed(source.Intn(30), source.Intn(1000)), "\n", "")
		}
		got := askScript(t, linesOf("sql "+text, "query "+text))
		met[strings.Join(strings.Fields(got)[:2], " ")]++
	}
	met.need(t, "sql 40", "parse 31", "parse 32")
}

// Promise 13, by way of scripts: what is written is accepted by those who have nothing else.
func TestScriptProofsAreAccepted(t *testing.T) {
	for kind := range 2 {
		lines, entries := []string{fmt.Sprintf("open %d 300", kind)}, []string{}
		for i := range 21 {
			sql := fmt.Sprintf("insert into t values (%d)", i%4)
			lines, entries = append(lines, "sql "+sql), append(entries, entryOf(t, sql))
		}
		begun := len(lines)
		for n := range 22 {
			lines = append(lines, fmt.Sprintf("digest %d", n))
		}
		for n := 1; n <= 21; n++ {
			for m := 1; m <= n; m++ {
				lines = append(lines, fmt.Sprintf("prove %d %d", m-1, n), fmt.Sprintf("extend %d %d", m, n))
			}
		}
		told := strings.Split(askScript(t, linesOf(lines...)), "\n")[begun:]
		digests, told := told[:22], told[22:]
		digest := func(n int) string { return plainUnhex(strings.Fields(digests[n])[2]) }
		for n := 1; n <= 21; n++ {
			for m := 1; m <= n; m++ {
				if !impl.CheckPath(kind, entries[m-1], m-1, n, digest(n), elementsOf(told[0])) {
					t.Errorf("kind %d: entry %d of %d isn't accepted: %s", kind, m-1, n, told[0])
				}
				if !impl.CheckProof(kind, m, digest(m), n, digest(n), elementsOf(told[1])) {
					t.Errorf("kind %d: %d of %d isn't accepted: %s", kind, m, n, told[1])
				}
				told = told[2:]
			}
		}
	}
}

func elementsOf(line string) []string {
	elements := []string{}
	for _, field := range strings.Fields(line)[2:] {
		elements = append(elements, plainUnhex(field))
	}
	return elements
}

// anyLine is a line with which something happens, as things stand in the plain reading.
func anyLine(source *rand.Rand, p *plainScript, entries []string) string {
	around := func(n int) int { return max(0, n+source.Intn(4)-2) }
	size := len(p.l.Entries)
	sqls := append(deeds(), coded{sql: "select id, name from t"}, coded{sql: "select id - 9223372036854775807, 'it''s', name || name from t"}, coded{sql: "insert into t values (" + fmt.Sprint(source.Intn(9)) + ", 'n''m')"}, coded{sql: "select n, word from w where n < 100"})
	used := 0
	for _, f := range p.l.Fs.Files {
		used += len(f.Data)
	}
	switch source.Intn(22) {
	case 0, 1:
		return fmt.Sprintf("open %d %d", source.Intn(2), pick(source, []int{1, 40, 100, 1000}))
	case 2:
		return fmt.Sprintf("open %d %d", source.Intn(4), pick(source, []int{0, 1, 1000000000, 1000000001}))
	case 3:
		return fmt.Sprintf("raw %x", mixed(1+source.Intn(20), source.Intn(100)))
	case 4:
		return fmt.Sprintf("raw %x", pick(source, entries))
	case 5, 6, 7:
		return "query " + pick(source, sqls).sql
	case 8:
		return pick(source, []string{"sql ", "query "}) + strings.Join(pick(source, [][]string{{"select"}, {"select ?"}, {"x'"}, {}, {" delete from t where "}}), "")
	case 9:
		return fmt.Sprintf("digest %d", around(size))
	case 10:
		return fmt.Sprintf("prove %d %d", around(size/2), around(size))
	case 11:
		return fmt.Sprintf("extend %d %d", around(size/2), around(size))
	case 12:
		line := "crash"
		for _, tail := range anyTails(source, p.l.Fs, entries) {
			line += map[bool]string{true: " -", false: fmt.Sprintf(" %x", tail)}[tail == ""]
		}
		return line + strings.Repeat(" -", source.Intn(2))
	case 13:
		return fmt.Sprintf("arm %d", source.Intn(7))
	case 14:
		return fmt.Sprintf("fail %d", source.Intn(7))
	case 15:
		return fmt.Sprintf("cap %d", pick(source, []int{0, around(used), used + source.Intn(80), 1000000, 1000000000, 1000000001}))
	}
	return "sql " + pick(source, sqls).sql
}

// anyScript is a script with what the plain reading says that it writes.
func anyScript(source *rand.Rand, met tally, entries []string) (string, string) {
	p, lines, out := makePlainScript(), []string{}, ""
	for range 10 + source.Intn(50) {
		line := anyLine(source, p, entries)
		if !p.l.Up && source.Intn(2) == 0 {
			line = map[bool]string{true: "crash", false: "open 0 200"}[p.l.Fs.Down]
		}
		lines = append(lines, line)
		text := p.do(p.read(line))
		if text != "" {
			fields := strings.Fields(text)
			met[strings.Join(fields[:min(len(fields), 2)], " ")]++
			if fields[0] == "sql" && fields[1] == "0" || fields[0] == "query" {
				met[strings.Join(fields[:3], " ")]++
			}
		}
		out += text
		lines = append(lines, slices.Repeat([]string{""}, max(0, source.Intn(8)-6))...)
	}
	return strings.Join(lines, "\n") + strings.Repeat("\n", source.Intn(3)), out
}

func TestManyScripts(t *testing.T) {
	source, met := rand.New(rand.NewSource(83)), tally{}
	entries := deedEntries(t)
	for range 1500 {
		script, want := anyScript(source, met, entries)
		if got := askScript(t, script); got != want {
			t.Fatalf("%q:\ngot  %q\nwant %q", script, got, want)
		}
	}
	met.need(t, "open 0", "open 11", "open 12", "open 42", "open 45", "sql 0", "sql 11", "sql 12", "sql 13", "sql 20", "sql 40", "sql 41", "parse 31", "parse 32", "digest 0", "digest 40", "digest 43", "proof 0", "proof 40", "proof 43", "crash")
	for code := range 7 {
		met.need(t, fmt.Sprintf("sql 0 %d", code))
	}
	met.need(t, "query 0 0", "query 0 1", "query 0 3", "query 0 4", "query 0 7", "query 40 0")
}

// A script that is changed by a few bytes is still one of which the plain reading tells what it writes.
func TestManyChangedScripts(t *testing.T) {
	source, met := rand.New(rand.NewSource(84)), tally{}
	entries := deedEntries(t)
	for range 1500 {
		script, _ := anyScript(source, tally{}, entries)
		changed := []byte(script)
		for range 1 + source.Intn(3) {
			at := source.Intn(len(changed))
			c := pick(source, []byte(" \n0159af-'x\x00\xff"))
			switch source.Intn(3) {
			case 0:
				changed[at] = c
			case 1:
				changed = slices.Delete(changed, at, at+1)
			case 2:
				changed = slices.Insert(changed, at, c)
			}
		}
		got := askScript(t, string(changed))
		met[strings.Fields(got + "none")[0]]++
	}
	met.need(t, "line", "open")
}

func TestManyScriptsAtOnce(t *testing.T) {
	source, entries := rand.New(rand.NewSource(85)), deedEntries(t)
	before := runtime.NumGoroutine()
	var callers sync.WaitGroup
	for range 8 {
		script, want := anyScript(source, tally{}, entries)
		for range 4 {
			callers.Add(1)
			go func() {
				defer callers.Done()
				for range 5 {
					if got := impl.RunScript(script); got != want {
						t.Errorf("%q: got %q, want %q", script, got, want)
					}
				}
			}()
		}
	}
	callers.Wait()
	askGoroutines(t, before)
}
