package tests

import (
	"fmt"
	"regexp"
	"strings"
	"testing"

	"loop.example/s02884/impl"
)

// A plainScript is the state of a plain reading of chapter 8, over the plain readings of the chapters before.
type plainScript struct {
	rules map[string][][]string
	forms map[string]*regexp.Regexp
	l     impl.Ledger
}

// plainForms are the lines of chapter 8's table, with C for a count, H for HEX and T for HEX or -.
func plainForms() map[string]*regexp.Regexp {
	forms := map[string]*regexp.Regexp{}
	for _, form := range []string{"open C C", "sql (.*)", "raw H", "query (.*)", "digest C", "prove C C", "extend C C", "crash((?: T)*)", "arm C", "fail C", "cap C"} {
		word := regexp.MustCompile("^[a-z]+").FindString(form)
		form = strings.ReplaceAll(form, "T", "(?:H|-)")
		form = strings.ReplaceAll(form, "H", "((?:[0-9a-f][0-9a-f])+)")
		form = strings.ReplaceAll(form, "C", "(0|[1-9][0-9]{0,12})")
		forms[word] = regexp.MustCompile("(?s)^" + form + "$")
	}
	return forms
}

func makePlainScript() *plainScript {
	return &plainScript{rules: plainRules(), forms: plainForms(), l: impl.Ledger{Fs: impl.Fs{Cap: 1000000}}}
}

// read gives the word of a line and its fields, and no word for one that is none of the table's.
func (p *plainScript) read(line string) (string, []string) {
	for word, form := range p.forms {
		if fields := form.FindStringSubmatch(line); fields != nil {
			return word, fields[1:]
		}
	}
	return "", nil
}

func plainNumber(field string) int {
	n := 0
	if _, err := fmt.Sscanf(field, "%d", &n); err != nil {
		panic(err)
	}
	return n
}

func plainUnhex(field string) string {
	text := ""
	if field == "-" {
		return ""
	}
	if _, err := fmt.Sscanf(field, "%x", &text); err != nil {
		panic(err)
	}
	return text
}

// do carries out a line that was read, and gives what it writes.
func (p *plainScript) do(word string, fields []string) string {
	switch word {
	case "sql", "query":
		s, code, offset := plainParse(p.rules, fields[0])
		if code != 0 {
			return fmt.Sprintf("parse %d %d\n", code, offset)
		}
		if word == "query" {
			return p.query(s)
		}
		return p.execute(plainBytes(s))
	case "raw":
		return p.execute(plainUnhex(fields[0]))
	case "crash":
		tails := []string{}
		for _, field := range strings.Fields(fields[0]) {
			tails = append(tails, plainUnhex(field))
		}
		p.l = impl.Ledger{Fs: plainFsCrash(p.l.Fs, tails)}
		return "crash\n"
	}
	numbers := []int{}
	for _, field := range fields {
		numbers = append(numbers, plainNumber(field))
	}
	return p.doNumbers(word, numbers)
}

func (p *plainScript) doNumbers(word string, numbers []int) string {
	fs := &p.l.Fs
	switch word {
	case "open":
		code := 0
		p.l, code = plainOpen(numbers[0], numbers[1], *fs)
		return fmt.Sprintf("open %d %d\n", code, len(p.l.Entries))
	case "digest":
		code := p.codeOf(0, numbers[0], 0)
		if code != 0 {
			return fmt.Sprintf("digest %d \n", code)
		}
		return fmt.Sprintf("digest 0 %x\n", plainRoot(p.l.Kind, p.l.Entries[:numbers[0]]))
	case "prove":
		if code := p.codeOf(1, numbers[1], numbers[0]+1); code != 0 {
			return fmt.Sprintf("proof %d\n", code)
		}
		return plainProof(plainPath(p.l.Kind, p.l.Entries[:numbers[1]], numbers[0]))
	case "extend":
		if code := p.codeOf(1, numbers[1], numbers[0]); code != 0 {
			return fmt.Sprintf("proof %d\n", code)
		}
		return plainProof(plainSub(p.l.Kind, numbers[0], p.l.Entries[:numbers[1]], true))
	case "arm":
		fs.CrashAt = plainArmed(*fs, numbers[0])
	case "fail":
		fs.FailAt = plainArmed(*fs, numbers[0])
	case "cap":
		old := fs.Cap
		fs.Cap = numbers[0]
		if !plainFsValid(*fs) {
			fs.Cap = old
		}
	}
	return ""
}

// codeOf is for a size n from least on, and for a part of it that isn't less than least either.
func (p *plainScript) codeOf(least, n, part int) int {
	switch {
	case !p.l.Up:
		return 40
	case !isWithin(n, least, len(p.l.Entries)) || !isWithin(part, least, n):
		return 43
	}
	return 0
}

func plainArmed(fs impl.Fs, n int) int {
	if n == 0 {
		return 0
	}
	return fs.Count + n
}

func plainProof(elements []string) string {
	text := "proof 0"
	for _, element := range elements {
		text += fmt.Sprintf(" %x", element)
	}
	return text + "\n"
}

func (p *plainScript) execute(entry string) string {
	code, sqlCode := 0, 0
	p.l, code, sqlCode = plainExecute(p.l, entry)
	return fmt.Sprintf("sql %d %d %d\n", code, sqlCode, len(p.l.Entries))
}

func (p *plainScript) query(s impl.Stm) string {
	if !p.l.Up {
		return "query 40 0\n"
	}
	rows, code := plainSelect(p.l.Db, s)
	text := []string{fmt.Sprintf("query 0 %d\n", code)}
	for _, row := range rows {
		for i, v := range row {
			value := fmt.Sprint(v.Num)
			if v.Type == 2 {
				value = "'" + strings.ReplaceAll(v.Text, "'", "''") + "'"
			}
			text = append(text, value, map[bool]string{true: "\n", false: " "}[i == len(row)-1])
		}
	}
	return strings.Join(text, "")
}

// plainRun is a plain reading of RunScript.
func plainRun(script string) string {
	lines, there := strings.Split(script, "\n"), 0
	for _, line := range lines {
		there += min(len(line), 1)
	}
	if len(script) > 200000 || there > 3000 {
		return "script\n"
	}
	p, out := makePlainScript(), []byte{}
	for i, line := range lines {
		if word, _ := p.read(line); word == "" && line != "" {
			return fmt.Sprintf("line %d\n", i+1)
		}
	}
	for _, line := range lines {
		if line == "" {
			continue
		}
		text := p.do(p.read(line))
		if len(out)+len(text) > 1000000 {
			return string(out) + "long\n"
		}
		out = append(out, text...)
	}
	return string(out)
}

// askScript holds RunScript against the plain reading, and gives what it answered.
func askScript(t *testing.T, script string) string {
	t.Helper()
	got, want := impl.RunScript(script), plainRun(script)
	if got != want {
		t.Errorf("%s\ngot  %s\nwant %s", shortScript(script), shortScript(got), shortScript(want))
	}
	return got
}

// shortScript shows scripts and outputs of many lines as far as one can look at them.
func shortScript(text string) string {
	if len(text) > 2000 {
		return fmt.Sprintf("%q .. %q (%d bytes)", text[:1000], text[len(text)-1000:], len(text))
	}
	return fmt.Sprintf("%q", text)
}

func linesOf(lines ...string) string { return strings.Join(lines, "\n") + "\n" }

func rawOf(t *testing.T, sql string) string {
	t.Helper()
	return fmt.Sprintf("raw %x", entryOf(t, sql))
}

func TestScriptExample(t *testing.T) {
	script := linesOf(
		"open 0 1000",
		"sql create table t (id int, name text)",
		"sql insert into t values (1, 'it''s')",
		"sql insert into t values (1, 'again')",
		"query select name, id * 3 from t",
		"sql insert into u values (1)",
	)
	want := linesOf(
		"open 0 0",
		"sql 0 0 1",
		"sql 0 0 2",
		"sql 0 5 3",
		"query 0 0",
		"'it''s' 3",
		"sql 0 1 4",
	)
	for _, text := range []string{script, strings.TrimSuffix(script, "\n"), "\n\n" + strings.ReplaceAll(script, "\n", "\n\n\n")} {
		if got := askScript(t, text); got != want {
			t.Errorf("got %q, want %q", got, want)
		}
	}
}

func TestScriptConstants(t *testing.T) {
	if impl.MaxScript != 200000 || impl.MaxLines != 3000 || impl.MaxOutput != 1000000 {
		t.Error(impl.MaxScript, impl.MaxLines, impl.MaxOutput)
	}
}

// A scripted case has its lines and what they write, one by one.
type scripted struct {
	what   string
	script []string
	want   []string
}

func askScripted(t *testing.T, cases []scripted) {
	t.Helper()
	for _, c := range cases {
		want := linesOf(c.want...)
		if len(c.want) == 0 {
			want = ""
		}
		if got := askScript(t, linesOf(c.script...)); got != want {
			t.Errorf("%s:\ngot  %q\nwant %q", c.what, got, want)
		}
	}
}

func TestScriptOpens(t *testing.T) {
	create := "sql create table t (a int)"
	first := plainLeaf(0, entryOf(t, create[4:]))
	askScripted(t, []scripted{
		{"nothing", nil, nil},
		{"both kinds", []string{"open 0 1", "open 1 1"}, []string{"open 0 0", "open 0 0"}},
		{"bad kinds", []string{"open 2 1", "open 9999999999999 1", "open 10 1"}, []string{"open 45 0", "open 45 0", "open 45 0"}},
		{"edges of most", []string{"open 0 0", "open 0 1", "open 0 1000000000", "open 0 1000000001", "open 1 9999999999999"},
			[]string{"open 45 0", "open 0 0", "open 0 0", "open 45 0", "open 45 0"}},
		{"a bad kind ends the ledger, not the files", []string{"open 0 1000", create, "open 2 1000", create, "digest 0", "open 0 1000", "digest 1"},
			[]string{"open 0 0", "sql 0 0 1", "open 45 0", "sql 40 0 0", "digest 40 ", "open 0 1", fmt.Sprintf("digest 0 %x", first)}},
		{"a bad most ends it too", []string{"open 0 1000", create, "open 0 0", "query select a from t", "open 1 1", "query select a from t"},
			[]string{"open 0 0", "sql 0 0 1", "open 45 0", "query 40 0", "open 0 1", "query 0 0"}},
		{"opened again, in the other kind", []string{"open 0 1000", create, "open 1 1000", "digest 1", create},
			[]string{"open 0 0", "sql 0 0 1", "open 0 1", fmt.Sprintf("digest 0 %x", first[:1]), "sql 0 2 2"}},
		{"most 1 has each entry in a segment of its own", []string{"open 0 1", create, create, "crash ff ff", "open 0 1000"},
			[]string{"open 0 0", "sql 0 0 1", "sql 0 2 2", "crash", "open 0 2"}},
		{"a crash in the opening", []string{"arm 1", "open 0 1", create, "open 0 1", "crash", "open 0 1"},
			[]string{"open 11 0", "sql 40 0 0", "open 11 0", "crash", "open 0 0"}},
		{"a failure in the opening", []string{"fail 1", "open 0 1", create, "open 0 1", create},
			[]string{"open 12 0", "sql 40 0 0", "open 0 0", "sql 0 0 1"}},
	})
}

func TestScriptSql(t *testing.T) {
	create, again := "sql create table t (a int)", rawOf(t, "create table t (a int)")
	askScripted(t, []scripted{
		{"not open", []string{create, again, "raw 00", "query select a from t", "query delete from t"},
			[]string{"sql 40 0 0", "sql 40 0 0", "sql 40 0 0", "query 40 0", "query 40 0"}},
		{"no SQL is told whether it's open or not", []string{"sql ?", "query ?", "open 0 1000", "sql ?", "query ?"},
			[]string{"parse 31 0", "parse 31 0", "open 0 0", "parse 31 0", "parse 31 0"}},
		{"offsets", []string{"open 0 1000", "sql ", "query ", "sql  ", "sql   ", "sql select", "query select a from", "sql select a fro t", "query  create", "sql insert into t values (1, 'x", "sql x"},
			[]string{"open 0 0", "parse 32 0", "parse 32 0", "parse 32 1", "parse 32 2", "parse 32 6", "parse 32 13", "parse 32 9", "parse 32 7", "parse 31 25", "parse 32 0"}},
		{"too long and too many", []string{"open 0 1000", "sql delete from t" + strings.Repeat(" ", 19987), "sql delete from t" + strings.Repeat(" ", 19988), "query " + strings.Repeat("?", 20001), "sql insert into t values (" + listOf(21, "1", ",") + ")", "query select " + listOf(20, "1", ",") + " from t", "query select " + listOf(21, "1", ",") + " from t"},
			[]string{"open 0 0", "sql 0 1 1", "parse 30 0", "parse 30 0", "parse 33 0", "query 0 1", "parse 33 0"}},
		{"spaces in the text", []string{"open 0 1000", "sql   create  table t (a\tint)  ", "query  select a from t ", "sql  ", "sql create table t (a int);"},
			[]string{"open 0 0", "sql 0 0 1", "query 0 0", "parse 32 1", "parse 31 22"}},
		{"every code on the tables", []string{"open 1 100", "sql insert into t values (1)", create, create, "sql insert into t values ('x')", "sql insert into t values (1)", "sql insert into t values (1)", "sql delete from t where b", "sql select a from t", "sql create table w (b text)", "sql insert into w values ('" + strings.Repeat("x", 200) + "')", "sql update w set b = b || 'y'"},
			[]string{"open 0 0", "sql 0 1 1", "sql 0 0 2", "sql 0 2 3", "sql 0 4 4", "sql 0 0 5", "sql 0 5 6", "sql 0 3 7", "sql 0 0 8", "sql 0 0 9", "sql 0 0 10", "sql 0 6 11"}},
		{"raw bytes", []string{"open 0 1000", "raw 00", "raw ff", again + "00", again[:len(again)-2], again, "raw 0" + again[5:], "query select a from t"},
			[]string{"open 0 0", "sql 41 0 0", "sql 41 0 0", "sql 41 0 0", "sql 41 0 0", "sql 0 0 1", "sql 0 2 2", "query 0 0"}},
		{"raw and sql are one", []string{"open 0 1000", create, again, "sql delete from t", rawOf(t, "delete from t")},
			[]string{"open 0 0", "sql 0 0 1", "sql 0 2 2", "sql 0 0 3", "sql 0 0 4"}},
	})
}

func TestScriptQueries(t *testing.T) {
	least, long := "-9223372036854775808", strings.Repeat("x", 200)
	askScripted(t, []scripted{
		{"rows", []string{"open 0 1000", "sql create table t (id int, name text)", "query select id from t", "sql insert into t values (2, 'it''s ''''')", "sql insert into t values (-3, '')", "sql insert into t values (10, ' a  b ')",
			"query select name, id, 'x', len(name) from t", "query select id from t where id < 0", "query select id from t where id = 7", "query select '' from t where name = ''"},
			[]string{"open 0 0", "sql 0 0 1", "query 0 0", "sql 0 0 2", "sql 0 0 3", "sql 0 0 4",
				"query 0 0", "'' -3 'x' 0", "'it''s ''''' 2 'x' 7", "' a  b ' 10 'x' 6", "query 0 0", "-3", "query 0 0", "query 0 0", "''"}},
		{"the least integer", []string{"open 0 1000", "sql create table t (a int)", "sql insert into t values (-9223372036854775807)", "query select a, a - 1, a - 2, 0 - a from t", "sql update t set a = a - 1", "query select a, 0 - a from t", "sql insert into t values (0)", "query select a from t"},
			[]string{"open 0 0", "sql 0 0 1", "sql 0 0 2", "query 0 0", "-9223372036854775807 " + least + " 9223372036854775807 9223372036854775807", "sql 0 0 3", "query 0 0", least + " " + least, "sql 0 0 4", "query 0 0", least, "0"}},
		{"codes", []string{"open 0 1000", "sql create table t (a text)", "sql insert into t values ('" + long + "')", "sql insert into t values ('')", "query select a from u", "query select b from t", "query select a + 1 from t", "query select a || 'y' from t", "query delete from t", "query insert into t values ('z')", "query create table w (a int)", "query update t set a = 'k'", "query select a from t", "query select len(a || a) from t"},
			[]string{"open 0 0", "sql 0 0 1", "sql 0 0 2", "sql 0 0 3", "query 0 1", "query 0 3", "query 0 4", "query 0 6", "query 0 7", "query 0 7", "query 0 7", "query 0 7", "query 0 0", "''", "'" + long + "'", "query 0 0", "0", "400"}},
		{"nothing is journaled", []string{"open 0 1000", "query select a from t", "sql select a from t", "query select a from t", "sql delete from t", "crash", "open 0 1000"},
			[]string{"open 0 0", "query 0 1", "sql 0 1 1", "query 0 1", "sql 0 1 2", "crash", "open 0 2"}},
	})
}

func TestScriptDigestsAndProofs(t *testing.T) {
	for kind := range 2 {
		script, want, entries := []string{fmt.Sprintf("open %d 100", kind)}, []string{"open 0 0"}, []string{}
		for i := range 5 {
			sql := fmt.Sprintf("insert into t values (%d)", i)
			entries = append(entries, entryOf(t, sql))
			script, want = append(script, "sql "+sql), append(want, fmt.Sprintf("sql 0 1 %d", i+1))
		}
		leaf := func(i int) string { return plainLeaf(kind, entries[i]) }
		four := plainNode(kind, plainNode(kind, leaf(0), leaf(1)), plainNode(kind, leaf(2), leaf(3)))
		three := plainNode(kind, plainNode(kind, leaf(0), leaf(1)), leaf(2))
		five := plainNode(kind, four, leaf(4))
		for _, c := range []struct{ line, want string }{
			{"digest 0", fmt.Sprintf("digest 0 %x", plainDigest(kind, ""))},
			{"digest 1", fmt.Sprintf("digest 0 %x", leaf(0))},
			{"digest 3", fmt.Sprintf("digest 0 %x", three)},
			{"digest 5", fmt.Sprintf("digest 0 %x", five)},
			{"digest 6", "digest 43 "},
			{"digest 9999999999999", "digest 43 "},
			{"prove 0 1", "proof 0"},
			{"prove 4 5", fmt.Sprintf("proof 0 %x", four)},
			{"prove 2 3", fmt.Sprintf("proof 0 %x", plainNode(kind, leaf(0), leaf(1)))},
			{"prove 2 5", fmt.Sprintf("proof 0 %x %x %x", leaf(3), plainNode(kind, leaf(0), leaf(1)), leaf(4))},
			{"prove 5 5", "proof 43"},
			{"prove 0 0", "proof 43"},
			{"prove 0 6", "proof 43"},
			{"prove 9999999999999 5", "proof 43"},
			{"extend 5 5", "proof 0"},
			{"extend 1 1", "proof 0"},
			{"extend 4 5", fmt.Sprintf("proof 0 %x", leaf(4))},
			{"extend 3 5", fmt.Sprintf("proof 0 %x %x %x %x", leaf(2), leaf(3), plainNode(kind, leaf(0), leaf(1)), leaf(4))},
			{"extend 0 5", "proof 43"},
			{"extend 0 0", "proof 43"},
			{"extend 5 4", "proof 43"},
			{"extend 5 6", "proof 43"},
		} {
			script, want = append(script, c.line), append(want, c.want)
		}
		askScripted(t, []scripted{{fmt.Sprint("kind ", kind), script, want}})
	}
	askScripted(t, []scripted{
		{"not open", []string{"digest 0", "digest 1", "prove 0 1", "extend 1 1", "extend 0 0"}, []string{"digest 40 ", "digest 40 ", "proof 40", "proof 40", "proof 40"}},
		{"open without an entry", []string{"open 1 5", "digest 0", "digest 1", "prove 0 0", "prove 0 1", "extend 0 0", "extend 1 1"}, []string{"open 0 0", "digest 0 e3", "digest 43 ", "proof 43", "proof 43", "proof 43", "proof 43"}},
		{"down", []string{"open 1 5", "arm 1", "sql delete from t", "digest 0", "prove 0 1", "extend 1 1"}, []string{"open 0 0", "sql 11 0 0", "digest 40 ", "proof 40", "proof 40"}},
	})
}

func TestScriptCrashes(t *testing.T) {
	del, frame := "sql delete from t", fmt.Sprintf("%x", plainFrame(entryOf(t, "delete from t")))
	junk := fmt.Sprintf("%x", plainFrame("x"))
	askScripted(t, []scripted{
		{"with nothing there", []string{"crash", "crash -", "crash 00 - ff", "open 0 1000", "crash", "sql delete from t", "open 0 1000"}, []string{"crash", "crash", "crash", "open 0 0", "crash", "sql 40 0 0", "open 0 0"}},
		{"synced entries stay, whatever the tails", []string{"open 0 1", del, del, del, "crash ff", "open 0 1", "crash - - - 00 ff -", "open 0 1", "crash", "digest 0", "open 0 1"},
			[]string{"open 0 0", "sql 0 1 1", "sql 0 1 2", "sql 0 1 3", "crash", "open 0 3", "crash", "open 0 3", "crash", "digest 40 ", "open 0 3"}},
		{"what wasn't synced is lost", []string{"open 0 1000", del, "arm 2", del, del, "crash", "open 0 1000"}, []string{"open 0 0", "sql 0 1 1", "sql 11 0 1", "sql 40 0 1", "crash", "open 0 1"}},
		{"or kept", []string{"open 0 1000", del, "arm 2", del, "crash " + frame, "open 0 1000"}, []string{"open 0 0", "sql 0 1 1", "sql 11 0 1", "crash", "open 0 2"}},
		{"or kept, with more than there was", []string{"open 0 1000", del, "arm 2", del, "crash " + frame + frame, "open 0 1000"}, []string{"open 0 0", "sql 0 1 1", "sql 11 0 1", "crash", "open 0 2"}},
		{"or kept in part", []string{"open 0 1000", del, "arm 2", del, "crash " + frame[:len(frame)-2], "open 0 1000"}, []string{"open 0 0", "sql 0 1 1", "sql 11 0 1", "crash", "open 0 1"}},
		{"or replaced by what is no statement", []string{"open 0 1000", del, "arm 2", del, "crash " + junk, "open 0 1000", del, "crash", "open 1 1000"}, []string{"open 0 0", "sql 0 1 1", "sql 11 0 1", "crash", "open 42 0", "sql 40 0 0", "crash", "open 42 0"}},
		{"a tail for the second file alone", []string{"open 0 1", del, "arm 3", del, "crash - " + frame, "open 0 1"}, []string{"open 0 0", "sql 0 1 1", "sql 11 0 1", "crash", "open 0 2"}},
		{"a tail for the first file alone", []string{"open 0 1", del, "arm 3", del, "crash " + frame, "open 0 1"}, []string{"open 0 0", "sql 0 1 1", "sql 11 0 1", "crash", "open 0 1"}},
		{"a crash that nothing asked for ends the ledger", []string{"open 0 1000", del, "crash", "query select a from t", "digest 1", "prove 0 1", "extend 1 1", "raw 00"}, []string{"open 0 0", "sql 0 1 1", "crash", "query 40 0", "digest 40 ", "proof 40", "proof 40", "sql 40 0 0"}},
	})
}

func TestScriptArms(t *testing.T) {
	del := "sql delete from t"
	askScripted(t, []scripted{
		{"nothing is written", []string{"arm 0", "arm 1", "arm 9999999999999", "fail 0", "fail 1", "fail 9999999999999", "cap 0", "cap 5", "cap 9999999999999"}, nil},
		{"so late that nothing comes of it", []string{"arm 9999999999999", "fail 9999999999999", "open 0 1000", del}, []string{"open 0 0", "sql 0 1 1"}},
		{"counted from now", []string{"open 0 1000", del, del, "arm 3", del, del}, []string{"open 0 0", "sql 0 1 1", "sql 0 1 2", "sql 0 1 3", "sql 11 0 3"}},
		{"the later one holds", []string{"open 0 1000", "arm 1", "arm 5", del, del, del}, []string{"open 0 0", "sql 0 1 1", "sql 0 1 2", "sql 11 0 2"}},
		{"disarmed", []string{"open 0 1000", "arm 1", "fail 1", "arm 0", "fail 0", del}, []string{"open 0 0", "sql 0 1 1"}},
		{"arm and fail don't touch each other", []string{"open 0 1000", "arm 1", "fail 0", del, "crash", "open 0 1000", "fail 1", "arm 0", del, del}, []string{"open 0 0", "sql 11 0 0", "crash", "open 0 0", "sql 12 0 0", "sql 0 1 1"}},
		{"down stays down", []string{"open 0 1000", "arm 1", del, "arm 0", "fail 0", del, "open 0 1000"}, []string{"open 0 0", "sql 11 0 0", "sql 40 0 0", "open 11 0"}},
		{"armed while it is down, and gone with the crash", []string{"open 0 1000", "arm 1", del, "arm 1", "fail 1", "crash", "open 0 1000", del}, []string{"open 0 0", "sql 11 0 0", "crash", "open 0 0", "sql 0 1 1"}},
		{"armed after the crash", []string{"open 0 1000", del, "crash", "arm 1", "open 0 1000", del}, []string{"open 0 0", "sql 0 1 1", "crash", "open 0 1", "sql 11 0 1"}},
		{"an append that fails is cleaned up", []string{"open 0 1000", del, "fail 1", del, "fail 2", del, del, "crash", "open 0 1000"}, []string{"open 0 0", "sql 0 1 1", "sql 12 0 1", "sql 12 0 1", "sql 0 1 2", "crash", "open 0 2"}},
		{"a segment that can't be begun", []string{"open 0 1", del, "fail 1", del, del}, []string{"open 0 0", "sql 0 1 1", "sql 12 0 1", "sql 0 1 2"}},
		{"both: the crash comes first", []string{"open 0 1000", "fail 1", "arm 1", del}, []string{"open 0 0", "sql 11 0 0"}},
		{"a crash in the cleaning up", []string{"open 0 1000", "fail 1", "arm 2", del, del}, []string{"open 0 0", "sql 11 0 0", "sql 40 0 0"}},
	})
}

func TestScriptCaps(t *testing.T) {
	del, frame := "sql delete from t", len(plainFrame(entryOf(t, "delete from t")))
	room := func(n int) string { return fmt.Sprintf("cap %d", n) }
	askScripted(t, []scripted{
		{"no room at all", []string{"cap 0", "open 0 1000", del, del, "cap 1000", del}, []string{"open 0 0", "sql 13 0 0", "sql 13 0 0", "sql 0 1 1"}},
		{"just room enough", []string{"open 0 1000", room(2 * frame), del, del, del, room(3 * frame), del}, []string{"open 0 0", "sql 0 1 1", "sql 0 1 2", "sql 13 0 2", "sql 0 1 3"}},
		{"too small for what is there", []string{"open 0 1000", del, del, room(2*frame - 1), del, room(2 * frame), del}, []string{"open 0 0", "sql 0 1 1", "sql 0 1 2", "sql 0 1 3", "sql 0 1 4"}},
		{"just what is there", []string{"open 0 1000", del, del, room(2 * frame), del, room(2*frame - 1), "cap 0", del}, []string{"open 0 0", "sql 0 1 1", "sql 0 1 2", "sql 13 0 2", "sql 13 0 2"}},
		{"the most there is", []string{"cap 1000000000", "open 0 1000", del, "cap 1000000001", "cap 9999999999999", del}, []string{"open 0 0", "sql 0 1 1", "sql 0 1 2"}},
		{"more than that leaves it as it was", []string{"cap 5", "cap 1000000001", "open 0 1000", del}, []string{"open 0 0", "sql 13 0 0"}},
		{"the cap outlasts a crash and an opening", []string{"open 0 1000", del, room(frame + 3), "crash", "open 0 1000", del, "open 1 1"}, []string{"open 0 0", "sql 0 1 1", "crash", "open 0 1", "sql 13 0 1", "open 0 1"}},
		{"what the failed one left behind can't be cleaned up", []string{"open 0 1000", del, room(frame + 3), "fail 2", del, del, "crash", "open 0 1000"}, []string{"open 0 0", "sql 0 1 1", "sql 20 0 1", "sql 40 0 1", "crash", "open 0 1"}},
		{"what is there counts with what isn't synced", []string{"open 0 1000", del, "arm 2", del, room(2*frame - 1), "crash ff", room(frame), "open 0 1000", room(frame), del}, []string{"open 0 0", "sql 0 1 1", "sql 11 0 1", "crash", "open 0 1", "sql 13 0 1"}},
	})
}
