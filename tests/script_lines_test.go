package tests

import (
	"fmt"
	"strings"
	"testing"

	"loop.example/s02884/impl"
)

func askOutput(t *testing.T, what, script, want string) {
	t.Helper()
	if got := impl.RunScript(script); got != want {
		t.Errorf("%s: got %s, want %s", what, shortScript(got), shortScript(want))
	}
}

func TestScriptBytes(t *testing.T) {
	junk := "sql " + strings.Repeat("x", 199996)
	askOutput(t, "a line of all bytes", junk, "parse 30 0\n")
	askOutput(t, "one more", junk+"x", "script\n")
	askOutput(t, "one more, an empty line", junk+"\n", "script\n")
	askOutput(t, "empty lines", strings.Repeat("\n", 200000), "")
	askOutput(t, "one more empty line", strings.Repeat("\n", 200001), "script\n")
	askOutput(t, "a wrong line of all bytes", strings.Repeat("x", 200000), "line 1\n")
	askOutput(t, "a wrong line of one more", strings.Repeat("x", 200001), "script\n")
	askOutput(t, "a wrong line behind empty ones", strings.Repeat("\n", 199999)+"x", "line 200000\n")
	askOutput(t, "a right line before empty ones", "crash"+strings.Repeat("\n", 199995), "crash\n")
	askOutput(t, "a right line before one empty one too many", "crash"+strings.Repeat("\n", 199996), "script\n")
	askOutput(t, "a right line behind empty ones", strings.Repeat("\n", 199995)+"crash", "crash\n")
}

func TestScriptLines(t *testing.T) {
	lines := func(n int) string { return strings.Repeat("crash\n", n) }
	askOutput(t, "most lines", lines(3000), lines(3000))
	askOutput(t, "most lines, without the last end", strings.TrimSuffix(lines(3000), "\n"), lines(3000))
	askOutput(t, "one more", lines(3001), "script\n")
	askOutput(t, "one more, without the last end", strings.TrimSuffix(lines(3001), "\n"), "script\n")
	askOutput(t, "most lines with empty ones", strings.ReplaceAll("\n"+lines(3000), "\n", "\n\n\n"), lines(3000))
	askOutput(t, "one more with empty ones", strings.ReplaceAll("\n"+lines(3001), "\n", "\n\n\n"), "script\n")
	askOutput(t, "a wrong line in the end", lines(2999)+"crush", "line 3000\n")
	askOutput(t, "a wrong line with which there are too many", lines(3000)+"crush\n", "script\n")
	askOutput(t, "a wrong line before too many", "crush\n"+lines(3000), "script\n")
	askOutput(t, "wrong lines, too many of them", strings.Repeat("x\n", 3001), "script\n")
	askOutput(t, "wrong lines", strings.Repeat("x\n", 3000), "line 1\n")
	askOutput(t, "lines of a space, too many of them", strings.Repeat(" \n", 3001), "script\n")
	askOutput(t, "lines that write nothing", strings.Repeat("arm 0\n", 3000), "")
	askOutput(t, "lines that write nothing, too many of them", strings.Repeat("arm 0\n", 3001), "script\n")
}

// rightLines have each kind of line with the edges of its fields.
func rightLines() []string {
	lines := []string{"sql ", "sql  ", "sql \t", "sql ?", "sql sql", "sql select a from t", "sql \r", "sql \x00\xff", "query ", "query  ", "query ?", "query select a from t ", "crash", "crash -", "crash - -", "crash 00", "crash 00 -", "crash - 0123456789abcdef", "crash ff ff ff ff"}
	for _, count := range []string{"0", "1", "9", "10", "1000000000", "1000000001", "1000000000000", "9999999999999"} {
		for _, word := range []string{"digest", "arm", "fail", "cap"} {
			lines = append(lines, word+" "+count)
		}
		for _, word := range []string{"open", "prove", "extend"} {
			lines = append(lines, word+" "+count+" 0", word+" 1 "+count)
		}
	}
	for _, hex := range []string{"00", "ff", "0a0b", "abcdef", "0123456789", strings.Repeat("5f", 1000)} {
		lines = append(lines, "raw "+hex, "crash "+hex, "crash - "+hex)
	}
	return lines
}

// wrongLines are near to lines of the table, and none of them.
func wrongLines() []string {
	lines := []string{" ", "  ", "\t", "\r", "\x00", "x", "audit", "audit 1", "Crash", "CRASH", "OPEN 0 1", "opens 0 1", "ope 0 1", "sqls", "sq l", "sql", "query", "sqlx", "sql\tselect a from t", "raw", "open", "digest", "prove", "extend", "arm", "fail", "cap", "crash\r", "crash\t-", "crash-", "crash ", "crash  ", "crash -  -", "crash  -", "crash - ", "crash --", "crash - x", "crash x -", "crash -00", "crash 00-", "crash 00,00", "line 1", "long", "script", "parse 0 0", "proof 0", "open 0", "open 0 1 2", "open 0 1 ", "open 0  1", "open  0 1", " open 0 1", "open 0\t1", "open 0 1\r", "open a 1", "open 0 a", "open 0 -1", "open -1 1", "open 0x1 1", "digest 1 1", "prove 1", "extend 1", "prove 0 1 2", "extend 1 1 1", "arm 1 1", "fail 0 0", "cap 1 2", "digest one", "digest 1_0", "digest 1e3", "digest 0x10", "digest 1.0", "digest \xd9\xa1"}
	for _, count := range []string{"", " ", "00", "01", "0000000000001", "10000000000000", "99999999999999", "09999999999999", "18446744073709551617", "-1", "-0", "+1", "1-", "1a", "a1", "1\r", "1 ", " 1", strings.Repeat("9", 100)} {
		for _, word := range []string{"digest", "arm", "fail", "cap"} {
			lines = append(lines, word+" "+count)
		}
		for _, word := range []string{"open", "prove", "extend"} {
			lines = append(lines, word+" "+count+" 1", word+" 1 "+count)
		}
	}
	for _, hex := range []string{"", " ", "0", "000", "AB", "aB", "Ab", "0g", "g0", "0 0", "00 ", " 00", "0x00", "00\r", "/0", ":0", "0`", "\xff\xff", strings.Repeat("5f", 1000) + "5"} {
		lines = append(lines, "raw "+hex, "crash "+hex, "crash - "+hex, "crash "+hex+" -")
	}
	return append(lines, "raw 00 00", "raw -")
}

func TestScriptRightLines(t *testing.T) {
	for _, line := range rightLines() {
		got := askScript(t, line)
		if strings.HasPrefix(got, "line") {
			t.Errorf("%q: got %q", line, got)
		}
		askScript(t, linesOf("open 0 1000", "sql create table t (a int)", line, "sql insert into t values (1)", "crash", "open 0 1", "digest 0"))
	}
}

func TestScriptWrongLines(t *testing.T) {
	for _, line := range wrongLines() {
		askOutput(t, fmt.Sprintf("%q alone", line), line, "line 1\n")
		askOutput(t, fmt.Sprintf("%q with its end", line), line+"\n", "line 1\n")
		askOutput(t, fmt.Sprintf("%q behind right ones", line), linesOf("open 0 1000", "sql create table t (a int)", "digest 1", line), "line 4\n")
		askOutput(t, fmt.Sprintf("%q behind an empty one", line), "\n"+line, "line 2\n")
		askOutput(t, fmt.Sprintf("%q between others", line), linesOf("", "", "open 0 1000", "", line, "x", "sql ?", "", "y"), "line 5\n")
		askOutput(t, fmt.Sprintf("%q behind what would be too long", line), tooLong()+line, fmt.Sprintf("line %d\n", strings.Count(tooLong(), "\n")+1))
	}
}

// tooLong is a script that ends with long.
func tooLong() string {
	query := "query select " + listOf(20, "b", ", ") + " from t"
	lines := []string{"open 0 10000", "sql create table t (a int, b text)"}
	for i := range 100 {
		lines = append(lines, fmt.Sprintf("sql insert into t values (%d, '%s')", i, strings.Repeat("x", 200)))
	}
	return linesOf(append(lines, query, query, query)...)
}

func TestScriptsOfEveryByte(t *testing.T) {
	for c := range 256 {
		askScript(t, string([]byte{byte(c)}))
		askScript(t, "crash"+string([]byte{byte(c)}))
		askScript(t, "crash"+string([]byte{byte(c)})+"crash")
		askScript(t, "sql "+string([]byte{byte(c)}))
		askScript(t, string([]byte{byte(c)})+"sql ")
	}
	askScript(t, allBytes())
	askScript(t, "sql "+strings.ReplaceAll(allBytes(), "\n", ""))
	askScript(t, "query "+strings.ReplaceAll(allBytes(), "\n", ""))
}

// Every rest of few bytes, behind every word and behind words that are none.
func TestScriptRests(t *testing.T) {
	p, met := makePlainScript(), tally{}
	rests := []string{""}
	for from := 0; len(rests) < 8000; {
		to := len(rests)
		for _, rest := range rests[from:to] {
			for _, c := range " 01aA-" {
				rests = append(rests, rest+string(c))
			}
		}
		from = to
	}
	for word := range p.forms {
		for _, head := range []string{word, word + " ", word[1:], word + "s ", strings.ToUpper(word) + " "} {
			for _, rest := range rests {
				line := head + rest
				read, _ := p.read(line)
				got := impl.RunScript(line)
				if (got == "line 1\n") != (read == "") {
					t.Fatalf("%q: got %q", line, got)
				}
				met[read]++
			}
		}
	}
	for word := range p.forms {
		met.need(t, word)
	}
}
