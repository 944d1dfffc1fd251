package tests

import (
	"math"
	"math/big"
	"math/rand"
	"reflect"
	"runtime"
	"slices"
	"strconv"
	"strings"
	"sync"
	"testing"
	"time"
	"unsafe"

	"loop.example/s02884/impl"
)

// A plainToken has the kind NAME, INTEGER or STRING; that of a keyword and of a symbol is its own text.
type plainToken struct {
	kind, text string
	num        int
	at         int
}

func bytesFrom(text, sort string) int {
	return len(text) - len(strings.TrimLeft(text, sort))
}

// plainString tells how many bytes the string has with which the text begins, and 0 if it has no end: a row of quotes that is odd ends it with its last one.
func plainString(text string) int {
	for at := 1; at < len(text); {
		quotes := bytesFrom(text[at:], "'")
		at += max(quotes, 1)
		if quotes%2 == 1 {
			return at
		}
	}
	return 0
}

const (
	plainLetters = "abcdefghijklmnopqrstuvwxyz"
	plainDigits  = "0123456789"
)

func plainFirst(text string) (plainToken, int) {
	if n := bytesFrom(text, plainDigits); n > 0 {
		value, _ := new(big.Int).SetString(text[:n], 10)
		if !value.IsInt64() {
			return plainToken{}, 0
		}
		return plainToken{kind: "INTEGER", num: int(value.Int64())}, n
	}
	if strings.Contains(plainLetters, text[:1]) {
		n := bytesFrom(text, plainLetters+plainDigits+"_")
		word := text[:n]
		switch {
		case n > 30:
			return plainToken{}, 0
		case slices.Contains(plainKeywords, word):
			return plainToken{kind: word}, n
		}
		return plainToken{kind: "NAME", text: word}, n
	}
	if text[0] == '\'' {
		n := plainString(text)
		if n == 0 {
			return plainToken{}, 0
		}
		inside := strings.ReplaceAll(text[1:n-1], "''", "'")
		if !plainText.MatchString(inside) {
			return plainToken{}, 0
		}
		return plainToken{kind: "STRING", text: inside}, n
	}
	for _, symbol := range []string{"(", ")", ",", "=", "<", "+", "-", "*", "||"} {
		if strings.HasPrefix(text, symbol) {
			return plainToken{kind: symbol}, len(symbol)
		}
	}
	return plainToken{}, 0
}

// plainTokens tells the tokens, or the offset of what is none.
func plainTokens(text string) ([]plainToken, int) {
	tokens := []plainToken{}
	for at := bytesFrom(text, "\t\n "); at < len(text); at += bytesFrom(text[at:], "\t\n ") {
		token, n := plainFirst(text[at:])
		if n == 0 {
			return nil, at
		}
		token.at = at
		tokens = append(tokens, token)
		at += n
	}
	return tokens, -1
}

// plainGrammar is that of 4.3; what may be there or not, and what may come again, is written out as rules.
const plainGrammar = `
stm create table NAME ( cols )
stm insert into NAME values ( vals )
stm update NAME set NAME = exp
stm update NAME set NAME = exp where exp
stm delete from NAME
stm delete from NAME where exp
stm select exps from NAME
stm select exps from NAME where exp
cols col
cols cols , col
col NAME int
col NAME text
vals val
vals vals , val
val INTEGER
val - INTEGER
val STRING
exps exp
exps exps , exp
exp both
exp exp or both
both negation
both both and negation
negation cmp
negation not negation
cmp sum
cmp sum = sum
cmp sum < sum
sum prod
sum sum + prod
sum sum - prod
sum sum || prod
prod one
prod prod * one
one INTEGER
one - INTEGER
one STRING
one NAME
one len ( exp )
one ( exp )
`

func plainRules() map[string][][]string {
	rules := map[string][][]string{}
	for _, line := range strings.Split(strings.TrimSpace(plainGrammar), "\n") {
		fields := strings.Fields(line)
		rules[fields[0]] = append(rules[fields[0]], fields[1:])
	}
	return rules
}

// A state is a rule that has been read as far as the dot, begun at a token.
type state struct {
	head      string
	rule      int
	dot, from int
}

// plainBegins goes through the tokens with all rules that may stand there at once. It tells how many of them begin a statement, and whether these are one.
func plainBegins(rules map[string][][]string, tokens []plainToken) (int, bool) {
	rows := make([][]state, len(tokens)+1)
	seen := make([]map[state]bool, len(tokens)+1)
	add := func(at int, s state) {
		if seen[at] == nil {
			seen[at] = map[state]bool{}
		}
		if !seen[at][s] {
			seen[at][s] = true
			rows[at] = append(rows[at], s)
		}
	}
	for rule := range rules["stm"] {
		add(0, state{"stm", rule, 0, 0})
	}
	for at := range rows {
		for next := 0; next < len(rows[at]); next++ {
			s := rows[at][next]
			symbols := rules[s.head][s.rule]
			if s.dot == len(symbols) {
				for _, above := range rows[s.from] {
					wanted := rules[above.head][above.rule]
					if above.dot < len(wanted) && wanted[above.dot] == s.head {
						above.dot++
						add(at, above)
					}
				}
				continue
			}
			if below, there := rules[symbols[s.dot]]; there {
				for rule := range below {
					add(at, state{symbols[s.dot], rule, 0, at})
				}
				continue
			}
			if at < len(tokens) && tokens[at].kind == symbols[s.dot] {
				s.dot++
				add(at+1, s)
			}
		}
		if len(rows[at]) == 0 {
			return at - 1, false
		}
	}
	for rule, symbols := range rules["stm"] {
		if seen[len(tokens)][state{"stm", rule, len(symbols), 0}] {
			return len(tokens), true
		}
	}
	return len(tokens), false
}

// lastOutside is the place of the last token outside parentheses that is one of the kinds and stands behind an operand, or -1.
func lastOutside(tokens []plainToken, kinds ...string) int {
	depth, last := 0, -1
	for i, token := range tokens {
		switch token.kind {
		case "(":
			depth++
		case ")":
			depth--
		}
		behind := i > 0 && slices.Contains([]string{"NAME", "INTEGER", "STRING", ")"}, tokens[i-1].kind)
		if depth == 0 && behind && slices.Contains(kinds, token.kind) {
			last = i
		}
	}
	return last
}

var plainLevels = []map[string]int{
	{"or": impl.OpOr}, {"and": impl.OpAnd}, {"not": impl.OpNot}, {"=": impl.OpEq, "<": impl.OpLt},
	{"+": impl.OpAdd, "-": impl.OpSub, "||": impl.OpCat}, {"*": impl.OpMul},
}

// plainLift takes tokens that are an expression, and cuts it at the operator that is done last.
func plainLift(tokens []plainToken) []impl.Item {
	for _, level := range plainLevels {
		if level["not"] != 0 {
			if tokens[0].kind == "not" {
				return append(plainLift(tokens[1:]), op(impl.OpNot))
			}
			continue
		}
		kinds := []string{}
		for kind := range level {
			kinds = append(kinds, kind)
		}
		if at := lastOutside(tokens, kinds...); at >= 0 {
			both := append(plainLift(tokens[:at]), plainLift(tokens[at+1:])...)
			return append(both, op(level[tokens[at].kind]))
		}
	}
	last := len(tokens) - 1
	switch tokens[0].kind {
	case "len":
		return append(plainLift(tokens[2:last]), op(impl.OpLen))
	case "(":
		return plainLift(tokens[1:last])
	case "-":
		return []impl.Item{num(-tokens[1].num)}
	case "INTEGER":
		return []impl.Item{num(tokens[0].num)}
	case "STRING":
		return []impl.Item{txt(tokens[0].text)}
	}
	return []impl.Item{col(tokens[0].text)}
}

// cutAt cuts tokens at each token of the kind.
func cutAt(tokens []plainToken, kind string) [][]plainToken {
	pieces := [][]plainToken{}
	for {
		at := slices.IndexFunc(tokens, func(token plainToken) bool { return token.kind == kind })
		if at < 0 {
			return append(pieces, tokens)
		}
		pieces = append(pieces, tokens[:at])
		tokens = tokens[at+1:]
	}
}

// plainBuild takes tokens that are a statement.
func plainBuild(tokens []plainToken) impl.Stm {
	if tokens[0].kind == "create" {
		s := impl.Stm{Kind: impl.StmCreate, Table: tokens[2].text}
		for _, piece := range cutAt(tokens[4:len(tokens)-1], ",") {
			s.Cols = append(s.Cols, impl.Column{Name: piece[0].text, Type: map[string]int{"int": 1, "text": 2}[piece[1].kind]})
		}
		return s
	}
	if tokens[0].kind == "insert" {
		s := impl.Stm{Kind: impl.StmInsert, Table: tokens[2].text}
		for _, piece := range cutAt(tokens[5:len(tokens)-1], ",") {
			item := plainLift(piece)[0]
			s.Values = append(s.Values, impl.Value{Type: item.Op, Num: item.Num, Text: item.Text})
		}
		return s
	}
	pieces := cutAt(tokens, "where")
	head, s := pieces[0], impl.Stm{}
	if len(pieces) > 1 {
		s.Where = plainLift(pieces[1])
	}
	switch head[0].kind {
	case "update":
		s.Kind, s.Table, s.Col, s.Exp = impl.StmUpdate, head[1].text, head[3].text, plainLift(head[5:])
	case "delete":
		s.Kind, s.Table = impl.StmDelete, head[2].text
	case "select":
		s.Kind, s.Table = impl.StmSelect, head[len(head)-1].text
		for _, piece := range cutAt(head[1:len(head)-2], ",") {
			s.Outs = append(s.Outs, plainLift(piece))
		}
	}
	return s
}

// plainParse is a plain reading of ParseSql.
func plainParse(rules map[string][][]string, text string) (impl.Stm, int, int) {
	if len(text) > 20000 {
		return impl.Stm{}, impl.SqlLong, 0
	}
	tokens, fault := plainTokens(text)
	if fault >= 0 {
		return impl.Stm{}, impl.SqlLex, fault
	}
	begin, whole := plainBegins(rules, tokens)
	if begin < len(tokens) {
		return impl.Stm{}, impl.SqlSyntax, tokens[begin].at
	}
	if !whole {
		return impl.Stm{}, impl.SqlSyntax, len(text)
	}
	s := plainBuild(tokens)
	many := len(s.Cols) > 20 || len(s.Values) > 20 || len(s.Outs) > 20
	for _, items := range append([][]impl.Item{s.Exp, s.Where}, s.Outs...) {
		many = many || len(items) > 100
	}
	if many {
		return impl.Stm{}, impl.SqlMany, 0
	}
	return s, 0, 0
}

// plainPrint writes the last expression of the items, and tells the items before it.
func plainPrint(items []impl.Item) (string, []impl.Item) {
	last, rest := items[len(items)-1], items[:len(items)-1]
	signs := map[int]string{4: "+", 5: "-", 6: "*", 7: "=", 8: "<", 9: "and", 10: "or", 12: "||"}
	switch last.Op {
	case 1:
		return strconv.Itoa(last.Num), rest
	case 2:
		return "'" + strings.Join(strings.Split(last.Text, "'"), "''") + "'", rest
	case 3:
		return last.Text, rest
	}
	right, rest := plainPrint(rest)
	switch last.Op {
	case 11:
		return "(not " + right + ")", rest
	case 13:
		return "len(" + right + ")", rest
	}
	left, rest := plainPrint(rest)
	return "(" + left + " " + signs[last.Op] + " " + right + ")", rest
}

func plainSql(s impl.Stm) string {
	where := ""
	if len(s.Where) > 0 {
		text, _ := plainPrint(s.Where)
		where = " where " + text
	}
	texts := []string{}
	for _, c := range s.Cols {
		texts = append(texts, c.Name+map[int]string{1: " int", 2: " text"}[c.Type])
	}
	for _, v := range s.Values {
		text, _ := plainPrint([]impl.Item{{Op: v.Type, Num: v.Num, Text: v.Text}})
		texts = append(texts, text)
	}
	for _, items := range append(s.Outs, s.Exp) {
		if len(items) > 0 {
			text, _ := plainPrint(items)
			texts = append(texts, text)
		}
	}
	list := strings.Join(texts, ", ")
	switch s.Kind {
	case 1:
		return "create table " + s.Table + " (" + list + ")"
	case 2:
		return "insert into " + s.Table + " values (" + list + ")"
	case 3:
		return "update " + s.Table + " set " + s.Col + " = " + list + where
	case 4:
		return "delete from " + s.Table + where
	}
	return "select " + list + " from " + s.Table + where
}

func askParse(t *testing.T, rules map[string][][]string, text string) int {
	t.Helper()
	want, wantCode, wantAt := plainParse(rules, text)
	got, code, at := impl.ParseSql(text)
	if code != wantCode || at != wantAt || !sameStm(got, want) {
		t.Errorf("%.200q: got %d at %d %s, want %d at %d %s", text, code, at, stmName(got), wantCode, wantAt, stmName(want))
	}
	if code == 0 && !impl.StmOK(got) {
		t.Errorf("%.200q: what is parsed isn't OK", text)
	}
	return code
}

func TestPrintedStatements(t *testing.T) {
	long := 0
	for _, s := range okStms() {
		text := impl.PrintSql(s)
		if want := plainSql(s); text != want {
			t.Fatalf("%s: got %.300s, want %.300s", stmName(s), text, want)
		}
		back, code, at := impl.ParseSql(text)
		if len(text) > 20000 {
			long++
			if code != impl.SqlLong || at != 0 || !isZeroStm(back) {
				t.Errorf("%.100s: got %d at %d", text, code, at)
			}
			continue
		}
		if code != 0 || at != 0 || !sameStm(back, s) {
			t.Errorf("%.300s: parsed as %d at %d %s", text, code, at, stmName(back))
		}
	}
	if long == 0 {
		t.Error("no statement's text is too long: the test asks too little")
	}
}

func TestPrintedExamples(t *testing.T) {
	one := []impl.Item{num(1)}
	cases := []struct {
		stm  impl.Stm
		want string
	}{
		{impl.Stm{Kind: 1, Table: "t", Cols: []impl.Column{{Name: "id", Type: 1}, {Name: "name", Type: 2}}}, "create table t (id int, name text)"},
		{impl.Stm{Kind: 2, Table: "t", Values: []impl.Value{{Type: 1, Num: 1}, {Type: 2, Text: "it's"}}}, "insert into t values (1, 'it''s')"},
		{impl.Stm{Kind: 2, Table: "t", Values: []impl.Value{{Type: 1, Num: -math.MaxInt}}}, "insert into t values (-9223372036854775807)"},
		{impl.Stm{Kind: 3, Table: "t", Col: "name", Exp: []impl.Item{col("name"), txt("x"), op(impl.OpCat)}, Where: []impl.Item{col("id"), num(3), op(impl.OpLt)}}, "update t set name = (name || 'x') where (id < 3)"},
		{impl.Stm{Kind: 4, Table: "t"}, "delete from t"},
		{impl.Stm{Kind: 5, Table: "t", Outs: [][]impl.Item{{col("id")}, {col("name"), op(impl.OpLen)}}, Where: []impl.Item{col("id"), num(-1), op(impl.OpEq), op(impl.OpNot)}}, "select id, len(name) from t where (not (id = -1))"},
		{impl.Stm{Kind: 5, Table: "t", Outs: [][]impl.Item{{txt(""), txt("'"), op(impl.OpCat), op(impl.OpLen)}}, Where: one}, "select len(('' || '''')) from t where 1"},
		{impl.Stm{Kind: 4, Table: "t", Where: []impl.Item{num(5), num(-5), op(impl.OpSub), op(impl.OpNot), op(impl.OpNot)}}, "delete from t where (not (not (5 - -5)))"},
	}
	for _, c := range cases {
		if got := impl.PrintSql(c.stm); got != c.want {
			t.Errorf("got %s, want %s", got, c.want)
		}
		if back, code, at := impl.ParseSql(c.want); code != 0 || at != 0 || !sameStm(back, c.stm) {
			t.Errorf("%s: %d at %d %s", c.want, code, at, stmName(back))
		}
	}
}

func TestParsedTexts(t *testing.T) {
	rules := plainRules()
	// Each text has the expression that it is, written in full.
	expressions := []struct{ text, want string }{
		{"a or b or c", "((a or b) or c)"}, {"a or b and c", "(a or (b and c))"}, {"a and b or c", "((a and b) or c)"}, {"a and b and c", "((a and b) and c)"},
		{"not a and b", "((not a) and b)"}, {"not a or b", "((not a) or b)"}, {"not a = b", "(not (a = b))"}, {"not not not a", "(not (not (not a)))"}, {"a and not b", "(a and (not b))"}, {"(not a) + b", "((not a) + b)"},
		{"a = b and c < d", "((a = b) and (c < d))"}, {"a + b = c + d", "((a + b) = (c + d))"}, {"a < b + c", "(a < (b + c))"}, {"(a = b) = c", "((a = b) = c)"}, {"a = (b < c)", "(a = (b < c))"},
		{"a - b - c", "((a - b) - c)"}, {"a - b + c - d", "(((a - b) + c) - d)"}, {"a || b || c", "((a || b) || c)"}, {"a || b + c - d", "(((a || b) + c) - d)"}, {"a + b * c", "(a + (b * c))"}, {"a * b + c", "((a * b) + c)"}, {"a * b * c", "((a * b) * c)"}, {"a * (b + c)", "(a * (b + c))"}, {"a - (b - c)", "(a - (b - c))"},
		{"1 - 1", "(1 - 1)"}, {"1-1", "(1 - 1)"}, {"1 - -1", "(1 - -1)"}, {"1--1", "(1 - -1)"}, {"- 1", "-1"}, {"-\t\n 1", "-1"}, {"-1 - -1 * -1", "(-1 - (-1 * -1))"}, {"a -1", "(a - 1)"}, {"-0", "0"}, {"- 000", "0"},
		{"len(a)", "len(a)"}, {"len ( a )", "len(a)"}, {"len(a || b)", "len((a || b))"}, {"len(a) * 2", "(len(a) * 2)"}, {"len(not a)", "len((not a))"}, {"not len(a)", "(not len(a))"}, {"len(len(a))", "len(len(a))"}, {"((((a))))", "a"}, {"(-1)", "-1"},
		{"1a", ""}, {"a1", "a1"}, {"'a''b'", "'a''b'"}, {"''", "''"}, {"''''", "''''"}, {"''''''", "''''''"}, {"'a'", "'a'"}, {"' '", "' '"}, {"'''a'", "'''a'"}, {"'a'''", "'a'''"}, {"'a'\t\n", "'a'"}, {"'a''' || '''b'", "('a''' || '''b')"},
		{"007", "7"}, {"9223372036854775807", "9223372036854775807"}, {"-9223372036854775807", "-9223372036854775807"}, {strings.Repeat("0", 5000) + "9223372036854775807", "9223372036854775807"}, {strings.Repeat("0", 5000), "0"},
	}
	for _, c := range expressions {
		texts := []string{"select " + c.text + " from t", "delete from t where " + c.text, "update t set c=" + c.text, "update t set c=1 where " + c.text, "select " + c.text + "," + c.text + " from t where " + c.text}
		wants := []string{"select " + c.want + " from t", "delete from t where " + c.want, "update t set c = " + c.want, "update t set c = 1 where " + c.want, "select " + c.want + ", " + c.want + " from t where " + c.want}
		for i, text := range texts {
			code := askParse(t, rules, text)
			if (code == 0) != (c.want != "") {
				t.Errorf("%s: code %d", text, code)
				continue
			}
			if s, _, _ := impl.ParseSql(text); code == 0 && impl.PrintSql(s) != wants[i] {
				t.Errorf("%s: got %s, want %s", text, impl.PrintSql(s), wants[i])
			}
		}
	}
}

func TestParseCodes(t *testing.T) {
	rules := plainRules()
	a30, a31 := strings.Repeat("a", 30), strings.Repeat("a", 31)
	cases := []struct {
		text     string
		code, at int
	}{
		{"", impl.SqlSyntax, 0}, {" \t\n ", impl.SqlSyntax, 4}, {"a", impl.SqlSyntax, 0}, {"  ,", impl.SqlSyntax, 2}, {"'create'", impl.SqlSyntax, 0}, {"1", impl.SqlSyntax, 0}, {"creates", impl.SqlSyntax, 0}, {"select", impl.SqlSyntax, 6}, {"select ", impl.SqlSyntax, 7},
		{"\r", impl.SqlLex, 0}, {"select a\r", impl.SqlLex, 8}, {"select a\x00", impl.SqlLex, 8}, {"select a;", impl.SqlLex, 8}, {"A", impl.SqlLex, 0}, {"_a", impl.SqlLex, 0}, {"aA", impl.SqlLex, 1}, {"select a | b from t", impl.SqlLex, 9}, {"select a ||| b from t", impl.SqlLex, 11}, {"|", impl.SqlLex, 0}, {"||", impl.SqlSyntax, 0}, {"||||", impl.SqlSyntax, 0}, {"a > b", impl.SqlLex, 2},
		// The whole text is cut first: a fault behind is told ahead of a syntax before.
		{"select select select ;", impl.SqlLex, 21}, {", , , \x80", impl.SqlLex, 6}, {"a ; b ; c", impl.SqlLex, 2}, {"select " + strings.Repeat("1,", 30) + "1 from t ?", impl.SqlLex, 76}, {"; '", impl.SqlLex, 0}, {"' ;", impl.SqlLex, 0},
		{a30, impl.SqlSyntax, 0}, {a31, impl.SqlLex, 0}, {"select " + a30 + " from " + a30, 0, 0}, {"select " + a31 + " from t", impl.SqlLex, 7}, {"select a from " + a31, impl.SqlLex, 14}, {a31 + "A", impl.SqlLex, 0}, {a30 + "A", impl.SqlLex, 30}, {"select a " + a31 + " ;", impl.SqlLex, 9},
		{"9223372036854775807", impl.SqlSyntax, 0}, {"9223372036854775808", impl.SqlLex, 0}, {"select -9223372036854775808 from t", impl.SqlLex, 8}, {"select 18446744073709551616 from t", impl.SqlLex, 7}, {"select 18446744073709551617 from t", impl.SqlLex, 7}, {"select 000009223372036854775808 from t", impl.SqlLex, 7}, {"select " + strings.Repeat("9", 1000) + " from t", impl.SqlLex, 7}, {"insert into t values (1, 9223372036854775808)", impl.SqlLex, 25}, {"insert into t values (9223372036854775807, -9223372036854775807)", 0, 0},
		{"select 'a from t", impl.SqlLex, 7}, {"select '", impl.SqlLex, 7}, {"select ''", impl.SqlSyntax, 9}, {"select '''", impl.SqlLex, 7}, {"select ''''", impl.SqlSyntax, 11}, {"select 'a'''", impl.SqlSyntax, 12}, {"select 'a''", impl.SqlLex, 7}, {"select 'a' 'b' from t", impl.SqlSyntax, 11}, {"select 'a\nb' from t", impl.SqlLex, 7}, {"select 'a\tb' from t", impl.SqlLex, 7}, {"select 'a\x7fb' from t", impl.SqlLex, 7}, {"select 'a\x80' from t", impl.SqlLex, 7}, {"select 'a' 'b\x1f'", impl.SqlLex, 11},
		{"select '" + strings.Repeat("x", 200) + "' from t", 0, 0}, {"select '" + strings.Repeat("x", 201) + "' from t", impl.SqlLex, 7}, {"select '" + strings.Repeat("''", 200) + "' from t", 0, 0}, {"select '" + strings.Repeat("''", 201) + "' from t", impl.SqlLex, 7}, {"select '" + strings.Repeat("x", 199) + "''' from t", 0, 0}, {"select '" + strings.Repeat("x", 200) + "''' from t", impl.SqlLex, 7}, {"insert into t values ('" + strings.Repeat("x", 201) + "')", impl.SqlLex, 22}, {"select ;'" + strings.Repeat("x", 201) + "'", impl.SqlLex, 7},
		{"create", impl.SqlSyntax, 6}, {"create t", impl.SqlSyntax, 7}, {"create table", impl.SqlSyntax, 12}, {"create table (", impl.SqlSyntax, 13}, {"create table t", impl.SqlSyntax, 14}, {"create table t a", impl.SqlSyntax, 15}, {"create table t (", impl.SqlSyntax, 16}, {"create table t ()", impl.SqlSyntax, 16}, {"create table t (a", impl.SqlSyntax, 17}, {"create table t (a)", impl.SqlSyntax, 17}, {"create table t (a a)", impl.SqlSyntax, 18}, {"create table t (a int", impl.SqlSyntax, 21}, {"create table t (a int int)", impl.SqlSyntax, 22}, {"create table t (a int,)", impl.SqlSyntax, 22}, {"create table t (a int b text)", impl.SqlSyntax, 22}, {"create table t (a int) ,", impl.SqlSyntax, 23}, {"create table t (int int)", impl.SqlSyntax, 16}, {"create table table (a int)", impl.SqlSyntax, 13}, {"create table 't' (a int)", impl.SqlSyntax, 13}, {"create table t (a int)", 0, 0}, {"create table t(a int,a text)", 0, 0},
		{"insert t", impl.SqlSyntax, 7}, {"insert into", impl.SqlSyntax, 11}, {"insert into values", impl.SqlSyntax, 12}, {"insert into t (1)", impl.SqlSyntax, 14}, {"insert into t values 1", impl.SqlSyntax, 21}, {"insert into t values ()", impl.SqlSyntax, 22}, {"insert into t values (a)", impl.SqlSyntax, 22}, {"insert into t values (- a)", impl.SqlSyntax, 24}, {"insert into t values (--1)", impl.SqlSyntax, 23}, {"insert into t values (-'a')", impl.SqlSyntax, 23}, {"insert into t values (-", impl.SqlSyntax, 23}, {"insert into t values (+1)", impl.SqlSyntax, 22}, {"insert into t values (1+1)", impl.SqlSyntax, 23}, {"insert into t values ((1))", impl.SqlSyntax, 22}, {"insert into t values (1,)", impl.SqlSyntax, 24}, {"insert into t values (1 2)", impl.SqlSyntax, 24}, {"insert into t values (1", impl.SqlSyntax, 23}, {"insert into t values (1) where 1", impl.SqlSyntax, 25}, {"insert into t values (1), (2)", impl.SqlSyntax, 24},
		{"update", impl.SqlSyntax, 6}, {"update set", impl.SqlSyntax, 7}, {"update t a", impl.SqlSyntax, 9}, {"update t set", impl.SqlSyntax, 12}, {"update t set set = 1", impl.SqlSyntax, 13}, {"update t set a", impl.SqlSyntax, 14}, {"update t set a < 1", impl.SqlSyntax, 15}, {"update t set a =", impl.SqlSyntax, 16}, {"update t set a = where 1", impl.SqlSyntax, 17}, {"update t set a = 1, b = 2", impl.SqlSyntax, 18}, {"update t set a = 1 where", impl.SqlSyntax, 24}, {"update t set a = 1 where 1 where 1", impl.SqlSyntax, 27}, {"update t set a = b = c", 0, 0}, {"update t set a = b = c = d", impl.SqlSyntax, 23}, {"update t set a = 1 from t", impl.SqlSyntax, 19},
		{"delete", impl.SqlSyntax, 6}, {"delete t", impl.SqlSyntax, 7}, {"delete from", impl.SqlSyntax, 11}, {"delete from from", impl.SqlSyntax, 12}, {"delete from t where", impl.SqlSyntax, 19}, {"delete from t t", impl.SqlSyntax, 14}, {"delete from t where a,", impl.SqlSyntax, 21}, {"delete from t where a b", impl.SqlSyntax, 22}, {"delete from t delete from t", impl.SqlSyntax, 14},
		{"select from t", impl.SqlSyntax, 7}, {"select a", impl.SqlSyntax, 8}, {"select a,", impl.SqlSyntax, 9}, {"select a, from t", impl.SqlSyntax, 10}, {"select * from t", impl.SqlSyntax, 7}, {"select a b from t", impl.SqlSyntax, 9}, {"select a from", impl.SqlSyntax, 13}, {"select a from t, u", impl.SqlSyntax, 15}, {"select a from t where", impl.SqlSyntax, 21}, {"select a from t where 1 2", impl.SqlSyntax, 24}, {"select a where 1 from t", impl.SqlSyntax, 9}, {"select id from select", impl.SqlSyntax, 15},
		{"select a + from t", impl.SqlSyntax, 11}, {"select a + + b from t", impl.SqlSyntax, 11}, {"select a * * b from t", impl.SqlSyntax, 11}, {"select + a from t", impl.SqlSyntax, 7}, {"select - a from t", impl.SqlSyntax, 9}, {"select - - 1 from t", impl.SqlSyntax, 9}, {"select -(1) from t", impl.SqlSyntax, 8}, {"select -", impl.SqlSyntax, 8}, {"select a = b = c from t", impl.SqlSyntax, 13}, {"select a < b < c from t", impl.SqlSyntax, 13}, {"select a = b < c from t", impl.SqlSyntax, 13}, {"select a = not b from t", impl.SqlSyntax, 11}, {"select a + not b from t", impl.SqlSyntax, 11}, {"select a not from t", impl.SqlSyntax, 9}, {"select a and from t", impl.SqlSyntax, 13}, {"select and a from t", impl.SqlSyntax, 7}, {"select a or or b from t", impl.SqlSyntax, 12}, {"select not from t", impl.SqlSyntax, 11},
		{"select len a from t", impl.SqlSyntax, 11}, {"select len from t", impl.SqlSyntax, 11}, {"select len() from t", impl.SqlSyntax, 11}, {"select len(a, b) from t", impl.SqlSyntax, 12}, {"select len(a from t", impl.SqlSyntax, 13}, {"select len", impl.SqlSyntax, 10}, {"select (a from t", impl.SqlSyntax, 10}, {"select (a", impl.SqlSyntax, 9}, {"select a) from t", impl.SqlSyntax, 8}, {"select () from t", impl.SqlSyntax, 8}, {"select (a, b) from t", impl.SqlSyntax, 9}, {"select (a) (b) from t", impl.SqlSyntax, 11}, {"select int from t", impl.SqlSyntax, 7}, {"select text from t", impl.SqlSyntax, 7},
		{"selecta from t", impl.SqlSyntax, 0}, {"select a fromt", impl.SqlSyntax, 9}, {"select 1from t", 0, 0}, {"select'a'from t", 0, 0}, {"select(a)from t", 0, 0}, {"select 1and 2or 3 from t", 0, 0}, {"\n\tdelete\n\nfrom\tt\n", 0, 0},
	}
	for _, c := range cases {
		s, code, at := impl.ParseSql(c.text)
		if code != c.code || at != c.at || code != 0 && !isZeroStm(s) {
			t.Errorf("%.200q: got %d at %d %s, want %d at %d", c.text, code, at, stmName(s), c.code, c.at)
		}
		askParse(t, rules, c.text)
	}
}

func listOf(n int, element, between string) string {
	return strings.Join(slices.Repeat([]string{element}, n), between)
}

func TestParseTooMany(t *testing.T) {
	forms := []struct {
		text func(n int) string
		most int
	}{
		{func(n int) string { return "create table t (" + listOf(n, "a int", ",") + ")" }, 20},
		{func(n int) string { return "insert into t values (" + listOf(n, "'x'", ",") + ")" }, 20},
		{func(n int) string { return "select " + listOf(n, "a", ",") + " from t" }, 20},
		{func(n int) string { return "select 1," + listOf(n, "1", "+") + " from t" }, 50},
		{func(n int) string { return "select 1 from t where " + listOf(n, "1", " or ") }, 50},
		{func(n int) string { return "update t set a = " + listOf(n, "1", "*") }, 50},
		{func(n int) string { return "update t set a = 1 where " + listOf(n, "a", " and ") }, 50},
		{func(n int) string { return "delete from t where " + listOf(n, "a", "||") }, 50},
		{func(n int) string { return "delete from t where " + strings.Repeat("not ", n) + "a" }, 99},
		{func(n int) string {
			return "select " + strings.Repeat("len(", n) + "a" + strings.Repeat(")", n) + " from t"
		}, 99},
	}
	for i, form := range forms {
		for _, n := range []int{form.most - 1, form.most, form.most + 1, form.most + 2, 300, 1000} {
			wantCode := 0
			if n > form.most {
				wantCode = impl.SqlMany
			}
			s, code, at := impl.ParseSql(form.text(n))
			if code != wantCode || at != 0 || code != 0 && !isZeroStm(s) || code == 0 && !impl.StmOK(s) {
				t.Errorf("form %d, %d: got %d at %d", i, n, code, at)
			}
			text := form.text(n) + " )"
			if _, code, at := impl.ParseSql(text); code != impl.SqlSyntax || at != len(text)-1 {
				t.Errorf("form %d, %d, with a parenthesis too many: got %d at %d", i, n, code, at)
			}
		}
	}
	// Parentheses are no items.
	nested := "select " + strings.Repeat("(", 9980) + "a" + strings.Repeat(")", 9980) + " from t"
	if s, code, _ := impl.ParseSql(nested); code != 0 || impl.PrintSql(s) != "select a from t" {
		t.Errorf("nested parentheses: %d", code)
	}
}

func TestParseLongTexts(t *testing.T) {
	cases := []struct {
		text     string
		code, at int
	}{
		{strings.Repeat(" ", 19987) + "delete from t", 0, 0}, {strings.Repeat(" ", 19988) + "delete from t", impl.SqlLong, 0}, {"delete from t" + strings.Repeat("\n", 19987), 0, 0}, {"delete from t" + strings.Repeat("\n", 19988), impl.SqlLong, 0},
		{strings.Repeat("?", 20000), impl.SqlLex, 0}, {strings.Repeat("?", 20001), impl.SqlLong, 0}, {strings.Repeat(" ", 19999) + "?", impl.SqlLex, 19999}, {strings.Repeat(" ", 20000), impl.SqlSyntax, 20000}, {strings.Repeat("(", 20000), impl.SqlSyntax, 0},
		{"select " + strings.Repeat("(", 19993), impl.SqlSyntax, 20000}, {"select " + strings.Repeat("len(", 4998), impl.SqlSyntax, 19999}, {"select " + strings.Repeat("not ", 4998), impl.SqlSyntax, 19999}, {"select " + strings.Repeat("a+", 9996), impl.SqlSyntax, 19999}, {"select " + strings.Repeat("a,", 9996), impl.SqlSyntax, 19999}, {"select " + strings.Repeat("a,", 9990) + "a from t", impl.SqlMany, 0}, {"select " + strings.Repeat("a=(", 6663), impl.SqlSyntax, 19996},
		{"select " + strings.Repeat("a", 19993), impl.SqlLex, 7}, {"select " + strings.Repeat("0", 19986) + " from t", 0, 0}, {"select '" + strings.Repeat("''", 9996), impl.SqlLex, 7}, {strings.Repeat("'", 20000), impl.SqlLex, 0}, {strings.Repeat("'' ", 6666), impl.SqlSyntax, 0},
	}
	for _, c := range cases {
		s, code, at := impl.ParseSql(c.text)
		if code != c.code || at != c.at || code != 0 && !isZeroStm(s) {
			t.Errorf("%.30q.. of %d bytes: got %d at %d, want %d at %d", c.text, len(c.text), code, at, c.code, c.at)
		}
	}
	if _, code, at := impl.ParseSql(strings.Repeat("(", 10000000)); code != impl.SqlLong || at != 0 {
		t.Errorf("ten million bytes: got %d at %d", code, at)
	}
}

var parsedTexts = []string{
	"create table t (id int, name text)", "insert into t values (-1, 'it''s', 007)", "update t set name=name||'x' where id<3 or not a", "delete from t where (a) = -1",
	"select id, len(name), (a - 1) * 2 from t where not (id = -1) and b", "select '' from t where ''''||'a'",
}

func TestEveryByteInTexts(t *testing.T) {
	rules := plainRules()
	for _, text := range parsedTexts {
		for b := range 256 {
			c := string([]byte{byte(b)})
			for at := range len(text) {
				if b%8 != at%8 && b != '\'' {
					continue
				}
				askParse(t, rules, text[:at]+c+text[at:])
				askParse(t, rules, text[:at]+c+text[at+1:])
			}
		}
		for at := range len(text) {
			askParse(t, rules, text[:at])
			askParse(t, rules, text[at:])
			askParse(t, rules, text[:at]+text[at+1:])
		}
	}
	for a := range 256 {
		for b := range 256 {
			askParse(t, rules, string([]byte{byte(a), byte(b)}))
		}
	}
}

// someTokens has every keyword and symbol, and some of the other tokens.
func someTokens() []string {
	return append(slices.Clone(plainKeywords), "(", ")", ",", "=", "<", "+", "-", "*", "||", "a", "b9_", "1", "007", "'x'", "''''")
}

func TestEveryTokenBehindBeginnings(t *testing.T) {
	rules := plainRules()
	met := map[int]int{}
	for _, text := range parsedTexts {
		tokens, _ := plainTokens(text)
		for _, token := range append(tokens, plainToken{at: len(text)}) {
			for _, next := range someTokens() {
				met[askParse(t, rules, text[:token.at]+" "+next)]++
				met[askParse(t, rules, text[:token.at]+" "+next+" "+text[token.at:])]++
				// Behind a token that is to blame already, no other is asked for.
				if _, code, at := impl.ParseSql(text[:token.at] + " " + next); code == impl.SqlSyntax && at <= token.at+1 {
					continue
				}
				for _, last := range someTokens() {
					met[askParse(t, rules, text[:token.at]+" "+next+" "+last)]++
				}
			}
		}
	}
	if met[0] < 100 || met[impl.SqlSyntax] < 1000 {
		t.Error("the test asks too little:", met)
	}
}

// grown writes a text by the grammar; at each place it may stray.
func grown(source *rand.Rand, rules map[string][][]string, head string, depth, stray int) []string {
	if source.Intn(1000) < stray {
		return []string{pick(source, someTokens())}
	}
	all, there := rules[head]
	switch {
	case head == "NAME":
		return []string{anyName(source)}
	case head == "INTEGER":
		return []string{strings.Repeat("0", source.Intn(3)) + strconv.Itoa(max(anyNumber(source), -anyNumber(source), 0))}
	case head == "STRING":
		text, _ := plainPrint([]impl.Item{txt(anyText(source))})
		return []string{text}
	case !there:
		return []string{head}
	}
	rule := pick(source, all)
	if depth <= 0 {
		rule = all[0]
	}
	out := []string{}
	for _, symbol := range rule {
		out = append(out, grown(source, rules, symbol, depth-1, stray)...)
	}
	return out
}

func TestGrownTexts(t *testing.T) {
	rules := plainRules()
	source := rand.New(rand.NewSource(43))
	met := map[int]int{}
	for i := range 6000 {
		tokens := grown(source, rules, "stm", 3+i%13, 10*(i%3))
		if len(tokens) > 150 {
			continue
		}
		text := ""
		for _, token := range tokens {
			text += token + strings.Repeat(pick(source, []string{" ", "\n", "\t", " \n\t "}), 1+source.Intn(2))
		}
		met[askParse(t, rules, text)]++
	}
	for i := range 300 {
		text := "insert into t values (" + listOf(1+i%24, "- 1", ", ") + ")"
		met[askParse(t, rules, text)]++
	}
	if met[0] < 1000 || met[impl.SqlSyntax] < 1000 || met[impl.SqlMany] < 10 {
		t.Error("the test asks too little:", met)
	}
}

// disarray writes over every list of a statement, and over the room behind it.
func disarray(s impl.Stm) {
	for _, list := range append([][]impl.Item{s.Exp, s.Where}, s.Outs...) {
		list = list[:cap(list)]
		for i := range list {
			list[i] = impl.Item{Op: 99, Num: 99, Text: "overwritten"}
		}
	}
	cols, values := s.Cols[:cap(s.Cols)], s.Values[:cap(s.Values)]
	for i := range cols {
		cols[i] = impl.Column{Name: "overwritten", Type: 99}
	}
	for i := range values {
		values[i] = impl.Value{Type: 99, Num: 99, Text: "overwritten"}
	}
}

// roomy is the same statement with room behind each list, filled with what is no item.
func roomy(s impl.Stm) impl.Stm {
	s = copyStm(s)
	widen := func(list []impl.Item) []impl.Item {
		return append(list, impl.Item{Op: -7}, impl.Item{Op: -8})[:len(list)]
	}
	s.Exp, s.Where = widen(s.Exp), widen(s.Where)
	for i := range s.Outs {
		s.Outs[i] = widen(s.Outs[i])
	}
	s.Outs = append(s.Outs, []impl.Item{{Op: -9}})[:len(s.Outs)]
	s.Cols = append(s.Cols, impl.Column{Type: -7})[:len(s.Cols)]
	s.Values = append(s.Values, impl.Value{Type: -7})[:len(s.Values)]
	return s
}

// wholeRoom copies all that a statement's lists hold, up to their capacity.
func wholeRoom(s impl.Stm) impl.Stm {
	s.Cols, s.Values = slices.Clone(s.Cols[:cap(s.Cols)]), slices.Clone(s.Values[:cap(s.Values)])
	s.Exp, s.Where, s.Outs = slices.Clone(s.Exp[:cap(s.Exp)]), slices.Clone(s.Where[:cap(s.Where)]), slices.Clone(s.Outs[:cap(s.Outs)])
	for i := range s.Outs {
		s.Outs[i] = slices.Clone(s.Outs[i][:cap(s.Outs[i])])
	}
	return s
}

func TestStatementsStayAsTheyWere(t *testing.T) {
	all := okStms()
	for _, wrong := range wrongStms() {
		all = append(all, wrong.stm)
	}
	for i, s := range all {
		if i%4 != 0 {
			continue
		}
		given := roomy(s)
		before := wholeRoom(given)
		impl.StmOK(given)
		impl.EncodeStm(given)
		impl.PrintSql(given)
		if !reflect.DeepEqual(wholeRoom(given), before) {
			t.Errorf("changed: %s", stmName(s))
		}
	}
}

func TestAnswersShareNothing(t *testing.T) {
	for i, s := range okStms() {
		text, sql := impl.EncodeStm(s), impl.PrintSql(s)
		if i%3 != 0 || text == "" || len(sql) > 20000 {
			continue
		}
		decode := func() impl.Stm { s, _ := impl.DecodeStm(text); return s }
		parse := func() impl.Stm { s, _, _ := impl.ParseSql(sql); return s }
		for _, make := range []func() impl.Stm{decode, parse} {
			first, second := make(), make()
			disarray(first)
			if !sameStm(second, s) || !sameStm(make(), s) {
				t.Fatalf("answers share memory with one another: %s", stmName(s))
			}
			// Each list of an answer is written over alone, with its room; the others must stay.
			for at := range second.Outs {
				changed := make()
				disarray(impl.Stm{Exp: changed.Outs[at]})
				changed.Outs[at] = s.Outs[at]
				if !sameStm(changed, s) {
					t.Fatalf("lists of one answer share memory: %s", stmName(s))
				}
			}
			changed := make()
			disarray(impl.Stm{Exp: changed.Where})
			changed.Where = s.Where
			if !sameStm(changed, s) {
				t.Fatalf("a condition shares memory: %s", stmName(s))
			}
		}
	}
}

// liesIn says whether a part's bytes are some of the whole's own.
func liesIn(part, whole string) bool {
	if part == "" || whole == "" {
		return false
	}
	first, begin := uintptr(unsafe.Pointer(unsafe.StringData(part))), uintptr(unsafe.Pointer(unsafe.StringData(whole)))
	return first >= begin && first < begin+uintptr(len(whole))
}

func textsOf(s impl.Stm) []string {
	texts := []string{s.Table, s.Col}
	for _, c := range s.Cols {
		texts = append(texts, c.Name)
	}
	for _, v := range s.Values {
		texts = append(texts, v.Text)
	}
	for _, items := range append([][]impl.Item{s.Exp, s.Where}, s.Outs...) {
		for _, item := range items {
			texts = append(texts, item.Text)
		}
	}
	return texts
}

func TestTextsAreNotCutOutOfArguments(t *testing.T) {
	for _, s := range okStms()[:500] {
		text, sql := impl.EncodeStm(s), impl.PrintSql(s)
		decoded, _ := impl.DecodeStm(text)
		parsed, _, _ := impl.ParseSql(sql)
		for _, part := range textsOf(decoded) {
			if liesIn(part, text) {
				t.Fatalf("%s: %q lies in the bytes", stmName(s), part)
			}
		}
		for _, part := range textsOf(parsed) {
			if liesIn(part, sql) {
				t.Fatalf("%s: %q lies in the text", stmName(s), part)
			}
		}
	}
}

func TestManyStatementsAtOnce(t *testing.T) {
	all := okStms()[:400]
	before := runtime.NumGoroutine()
	var workers sync.WaitGroup
	for worker := range 8 {
		workers.Add(1)
		go func() {
			defer workers.Done()
			for i := range all {
				s := all[(i+worker*50)%len(all)]
				sql := impl.PrintSql(s)
				if back, code, _ := impl.ParseSql(sql); len(sql) <= 20000 && (code != 0 || !sameStm(back, s)) {
					t.Errorf("%s: %d", stmName(s), code)
				}
				text := impl.EncodeStm(s)
				if back, ok := impl.DecodeStm(text); ok != (text != "") || ok && !sameStm(back, s) {
					t.Errorf("%s: decoded %v", stmName(s), ok)
				}
				impl.ParseSql(sql + " ?")
			}
		}()
	}
	workers.Wait()
	askGoroutines(t, before)
}

// askGoroutines asks that no more are there than before.
func askGoroutines(t *testing.T, before int) {
	t.Helper()
	// A goroutine that has done its last act may still be counted for a moment.
	for range 200 {
		if runtime.NumGoroutine() <= before {
			return
		}
		time.Sleep(time.Millisecond)
	}
	t.Errorf("%d goroutines, %d before", runtime.NumGoroutine(), before)
}
