package tests

import (
	"cmp"
	"fmt"
	"math"
	"math/big"
	"math/rand"
	"reflect"
	"slices"
	"strings"
	"sync"
	"testing"
	"unsafe"

	"loop.example/s02884/impl"
)

// plainTypes are the rows of the table of 4.1: the operands, and what comes of them; i is an integer, t a text.
var plainTypes = map[int][]string{
	impl.OpInt: {" i"}, impl.OpText: {" t"},
	impl.OpAdd: {"ii i"}, impl.OpSub: {"ii i"}, impl.OpMul: {"ii i"},
	impl.OpEq: {"ii i", "tt i"}, impl.OpLt: {"ii i", "tt i"},
	impl.OpAnd: {"ii i"}, impl.OpOr: {"ii i"}, impl.OpNot: {"i i"},
	impl.OpCat: {"tt t"}, impl.OpLen: {"t i"},
}

func typeLetter(kind int) string { return []string{"", "i", "t"}[kind] }

func plainPlace(cols []impl.Column, name string) int {
	return slices.IndexFunc(cols, func(c impl.Column) bool { return c.Name == name })
}

// plainCheck tells the types that are left, or the code.
func plainCheck(cols []impl.Column, items []impl.Item) (string, int) {
	left := ""
	for _, item := range items {
		rules := plainTypes[item.Op]
		if item.Op == impl.OpCol {
			at := plainPlace(cols, item.Text)
			if at < 0 {
				return "", impl.SqlColumn
			}
			rules = []string{" " + typeLetter(cols[at].Type)}
		}
		fits := slices.IndexFunc(rules, func(rule string) bool { return strings.HasSuffix(left, strings.Split(rule, " ")[0]) })
		if fits < 0 {
			return "", impl.SqlType
		}
		operands, result, _ := strings.Cut(rules[fits], " ")
		left = strings.TrimSuffix(left, operands) + result
	}
	return left, impl.SqlOK
}

// wrapped is the int that is x modulo 2 to the 64.
func wrapped(x *big.Int) int {
	low := new(big.Int).And(x, new(big.Int).SetUint64(math.MaxUint64))
	return int(low.Uint64())
}

func plainTextLess(a, b string) bool {
	for i := range min(len(a), len(b)) {
		if a[i] != b[i] {
			return a[i] < b[i]
		}
	}
	return len(a) < len(b)
}

func plainTruth(holds bool) impl.Value {
	if holds {
		return whole(1)
	}
	return whole(0)
}

// plainValue goes down from the last item, and tells the items that belong to what stands before.
func plainValue(cols []impl.Column, row []impl.Value, items []impl.Item) (impl.Value, []impl.Item) {
	last, rest := items[len(items)-1], items[:len(items)-1]
	switch last.Op {
	case impl.OpInt:
		return whole(last.Num), rest
	case impl.OpText:
		return words(last.Text), rest
	case impl.OpCol:
		return row[plainPlace(cols, last.Text)], rest
	}
	right, rest := plainValue(cols, row, rest)
	switch last.Op {
	case impl.OpNot:
		return plainTruth(right.Num == 0), rest
	case impl.OpLen:
		return whole(len(right.Text)), rest
	}
	left, rest := plainValue(cols, row, rest)
	x, y, z := big.NewInt(int64(left.Num)), big.NewInt(int64(right.Num)), new(big.Int)
	switch last.Op {
	case impl.OpAdd:
		return whole(wrapped(z.Add(x, y))), rest
	case impl.OpSub:
		return whole(wrapped(z.Sub(x, y))), rest
	case impl.OpMul:
		return whole(wrapped(z.Mul(x, y))), rest
	case impl.OpEq:
		return plainTruth(x.Cmp(y) == 0 && left.Text == right.Text), rest
	case impl.OpLt:
		return plainTruth(x.Cmp(y) < 0 || left.Type == impl.TypeText && plainTextLess(left.Text, right.Text)), rest
	case impl.OpAnd:
		return plainTruth(left.Num != 0 && right.Num != 0), rest
	case impl.OpOr:
		return plainTruth(left.Num != 0 || right.Num != 0), rest
	}
	return words(left.Text + right.Text), rest
}

func plainFits(cols []impl.Column, row []impl.Value, where []impl.Item) bool {
	if len(where) == 0 {
		return true
	}
	v, _ := plainValue(cols, row, where)
	return v.Num != 0
}

// plainCode is the first code of a statement that the columns of its table give.
func plainCode(cols []impl.Column, s impl.Stm) int {
	ask := func(items []impl.Item, need string) int {
		left, code := plainCheck(cols, items)
		if code == impl.SqlOK && !strings.Contains(need, left) {
			return impl.SqlType
		}
		return code
	}
	codes := []int{}
	switch s.Kind {
	case impl.StmInsert:
		same := slices.EqualFunc(s.Values, cols, func(v impl.Value, c impl.Column) bool { return v.Type == c.Type })
		if !same {
			codes = append(codes, impl.SqlType)
		}
	case impl.StmUpdate:
		at := plainPlace(cols, s.Col)
		if at < 0 {
			return impl.SqlColumn
		}
		codes = append(codes, ask(s.Exp, typeLetter(cols[at].Type)))
	case impl.StmSelect:
		for _, out := range s.Outs {
			codes = append(codes, ask(out, "i t"))
		}
	}
	if len(s.Where) > 0 {
		codes = append(codes, ask(s.Where, "i"))
	}
	for _, code := range codes {
		if code != impl.SqlOK {
			return code
		}
	}
	return impl.SqlOK
}

func plainCreate(db impl.Db, s impl.Stm) (impl.Db, int) {
	for _, table := range db.Tables {
		if table.Name == s.Table {
			return db, impl.SqlExists
		}
	}
	for i, c := range s.Cols {
		if plainPlace(s.Cols[:i], c.Name) >= 0 {
			return db, impl.SqlColumn
		}
	}
	if len(db.Tables) == 100 {
		return db, impl.SqlBig
	}
	db.Tables = append(db.Tables, impl.TableData{Name: s.Table, Cols: slices.Clone(s.Cols)})
	slices.SortFunc(db.Tables, func(a, b impl.TableData) int { return cmp.Compare(a.Name, b.Name) })
	return db, impl.SqlOK
}

// plainRows are the rows of a table after a statement whose columns and types are right.
func plainRows(table impl.TableData, s impl.Stm) ([][]impl.Value, int) {
	rows, tooLong := [][]impl.Value{}, false
	for _, row := range table.Rows {
		fits := plainFits(table.Cols, row, s.Where)
		if s.Kind == impl.StmDelete && fits {
			continue
		}
		row = slices.Clone(row)
		if s.Kind == impl.StmUpdate && fits {
			v, _ := plainValue(table.Cols, row, s.Exp)
			row[plainPlace(table.Cols, s.Col)] = v
			tooLong = tooLong || len(v.Text) > 200
		}
		rows = append(rows, row)
	}
	if s.Kind == impl.StmInsert {
		rows = append(rows, slices.Clone(s.Values))
	}
	if tooLong {
		return nil, impl.SqlBig
	}
	slices.SortFunc(rows, func(a, b []impl.Value) int {
		switch {
		case plainKeyLess(a[0], b[0]):
			return -1
		case plainKeyLess(b[0], a[0]):
			return 1
		}
		return 0
	})
	for i := range rows {
		if i > 0 && rows[i][0] == rows[i-1][0] {
			return nil, impl.SqlKey
		}
	}
	if len(rows) > 1000 {
		return nil, impl.SqlBig
	}
	return rows, impl.SqlOK
}

func plainApply(db impl.Db, s impl.Stm) (impl.Db, int) {
	if !plainDbOK(db) || !plainStmOK(s) {
		return impl.Db{}, impl.SqlShape
	}
	after := copyDb(db)
	if s.Kind == impl.StmCreate {
		return plainCreate(after, s)
	}
	for i := range after.Tables {
		if table := &after.Tables[i]; table.Name == s.Table {
			if code := plainCode(table.Cols, s); code != impl.SqlOK {
				return after, code
			}
			rows, code := plainRows(*table, s)
			if code == impl.SqlOK {
				table.Rows = rows
			}
			return after, code
		}
	}
	return after, impl.SqlTable
}

func plainSelect(db impl.Db, s impl.Stm) ([][]impl.Value, int) {
	if s.Kind != impl.StmSelect {
		return nil, impl.SqlShape
	}
	if _, code := plainApply(db, s); code != impl.SqlOK {
		return nil, code
	}
	rows := [][]impl.Value{}
	for _, table := range db.Tables {
		if table.Name != s.Table {
			continue
		}
		for _, row := range table.Rows {
			if !plainFits(table.Cols, row, s.Where) {
				continue
			}
			values := []impl.Value{}
			for _, out := range s.Outs {
				v, _ := plainValue(table.Cols, row, out)
				if len(v.Text) > 200 {
					return nil, impl.SqlBig
				}
				values = append(values, v)
			}
			rows = append(rows, values)
		}
	}
	return rows, impl.SqlOK
}

// A span is where a list lies, with the room behind it.
type span struct{ begin, end uintptr }

func addSpan[T any](spans []span, list []T) []span {
	var one T
	begin := uintptr(unsafe.Pointer(unsafe.SliceData(list)))
	if size := uintptr(cap(list)) * unsafe.Sizeof(one); size > 0 {
		spans = append(spans, span{begin, begin + size})
	}
	return spans
}

func spansOfRows(rows [][]impl.Value) []span {
	spans := addSpan(nil, rows)
	for _, row := range rows[:cap(rows)] {
		spans = addSpan(spans, row)
	}
	return spans
}

func spansOfDb(db impl.Db) []span {
	spans := addSpan(nil, db.Tables)
	for _, table := range db.Tables[:cap(db.Tables)] {
		spans = append(addSpan(spans, table.Cols), spansOfRows(table.Rows)...)
	}
	return spans
}

func spansOfStm(s impl.Stm) []span {
	spans := addSpan(addSpan(addSpan(addSpan(addSpan(nil, s.Cols), s.Values), s.Exp), s.Where), s.Outs)
	for _, out := range s.Outs {
		spans = addSpan(spans, out)
	}
	return spans
}

// areApart says whether no two of the lists share memory.
func areApart(lists ...[]span) bool {
	all := slices.Concat(lists...)
	slices.SortFunc(all, func(a, b span) int { return cmp.Compare(a.begin, b.begin) })
	for i := range all {
		if i > 0 && all[i].begin < all[i-1].end {
			return false
		}
	}
	return true
}

func parsed(t *testing.T, sql string) impl.Stm {
	t.Helper()
	s, code, at := impl.ParseSql(sql)
	if code != 0 {
		t.Fatalf("the test's own: %s: %d at %d", sql, code, at)
	}
	return s
}

// askStm holds ApplyStm and SelectRows against the plain reading and against promises 7 and 8, and gives what ApplyStm answered.
func askStm(t *testing.T, db impl.Db, s impl.Stm) (impl.Db, int) {
	t.Helper()
	given, stm := roomyDb(db), roomy(s)
	givenBefore, stmBefore := wholeDb(given), wholeRoom(stm)
	after, code := impl.ApplyStm(given, stm)
	rows, why := impl.SelectRows(given, stm)
	again, _ := impl.ApplyStm(given, stm)
	if !reflect.DeepEqual(wholeDb(given), givenBefore) || !reflect.DeepEqual(wholeRoom(stm), stmBefore) {
		t.Errorf("%s: an argument is changed: %s", stmName(s), dbName(db))
	}
	if !areApart(spansOfDb(given), spansOfStm(stm), spansOfDb(after), spansOfDb(again), spansOfRows(rows)) {
		t.Errorf("%s: memory is shared: %s", stmName(s), dbName(db))
	}
	want, wantCode := plainApply(db, s)
	if code != wantCode || !sameDb(after, want) || !sameDb(again, want) {
		t.Errorf("%s of %s: got %d %s, want %d %s", stmName(s), dbName(db), code, dbName(after), wantCode, dbName(want))
	}
	wantRows, wantWhy := plainSelect(db, s)
	if why != wantWhy || !sameRows(rows, wantRows) {
		t.Errorf("%s of %s: got rows %d %s, want %d %s", stmName(s), dbName(db), why, rowsName(rows), wantWhy, rowsName(wantRows))
	}
	if !impl.DbOK(after) {
		t.Errorf("%s: tables that aren't OK: %s", stmName(s), dbName(after))
	}
	if code != impl.SqlShape && (code != impl.SqlOK || s.Kind == impl.StmSelect) && !sameDb(after, db) {
		t.Errorf("%s: %d, but the tables aren't as they were: %s", stmName(s), code, dbName(after))
	}
	return after, code
}

type coded struct {
	sql  string
	code int
}

func askCodes(t *testing.T, db impl.Db, cases []coded) {
	t.Helper()
	for _, c := range cases {
		if _, code := askStm(t, db, parsed(t, c.sql)); code != c.code {
			t.Errorf("%s: got %d, want %d", c.sql, code, c.code)
		}
	}
}

// fullTable is a table t with a text beside its key, of n rows.
func fullTable(n int) impl.Db {
	rows := [][]impl.Value{}
	for i := range n {
		rows = append(rows, []impl.Value{whole(2 * i), words(fmt.Sprint(i))})
	}
	return impl.Db{Tables: []impl.TableData{{Name: "t", Cols: []impl.Column{{Name: "id", Type: 1}, {Name: "name", Type: 2}}, Rows: rows}}}
}

func TestCreateCodes(t *testing.T) {
	askCodes(t, shelf(), []coded{
		{"create table t (a int)", impl.SqlExists}, {"create table none (id int, name text)", impl.SqlExists}, {"create table w (a int, a int)", impl.SqlExists},
		{"create table x (a int, a int)", impl.SqlColumn}, {"create table x (a int, b text, a text)", impl.SqlColumn}, {"create table x (c int, b text, b int)", impl.SqlColumn},
		{"create table x (a int, aa text, id int)", 0}, {"create table a (a text)", 0}, {"create table zz (a int)", 0}, {"create table non (a int)", 0}, {"create table nonee (a int)", 0},
	})
	askCodes(t, manyTables(100), []coded{
		{"create table m050 (a int)", impl.SqlExists}, {"create table m099 (a int, a text)", impl.SqlExists}, {"create table m000 (a int)", impl.SqlExists},
		{"create table x (a int, a text)", impl.SqlColumn}, {"create table a (a int)", impl.SqlBig}, {"create table x (a int, b text)", impl.SqlBig},
	})
	askCodes(t, manyTables(99), []coded{{"create table a (a int)", 0}, {"create table m0500 (a int)", 0}, {"create table x (a int)", 0}})
	db, code := askStm(t, impl.Db{}, parsed(t, "create table t (b text, a int)"))
	want := impl.Db{Tables: []impl.TableData{{Name: "t", Cols: []impl.Column{{Name: "b", Type: 2}, {Name: "a", Type: 1}}}}}
	if code != 0 || !sameDb(db, want) {
		t.Errorf("%d %s", code, dbName(db))
	}
}

func TestInsertCodes(t *testing.T) {
	askCodes(t, shelf(), []coded{
		{"insert into gone values (1)", impl.SqlTable}, {"insert into ta values (1, 'a', 10)", impl.SqlTable},
		{"insert into t values (9)", impl.SqlType}, {"insert into t values (9, 'x')", impl.SqlType}, {"insert into t values (9, 'x', 1, 1)", impl.SqlType}, {"insert into t values (9, 'x', 1, 'x')", impl.SqlType},
		{"insert into t values ('9', 'x', 1)", impl.SqlType}, {"insert into t values (9, 1, 1)", impl.SqlType}, {"insert into t values (9, 'x', 'x')", impl.SqlType}, {"insert into w values (1, 1)", impl.SqlType},
		{"insert into t values (1, 'x')", impl.SqlType}, {"insert into t values (1, 'x', '')", impl.SqlType}, {"insert into none values ('1', 'x')", impl.SqlType},
		{"insert into t values (1, 'x', 1)", impl.SqlKey}, {"insert into t values (4, 'x', 1)", impl.SqlKey}, {"insert into w values ('', 9)", impl.SqlKey}, {"insert into w values ('b', 9)", impl.SqlKey},
		{"insert into t values (3, 'a', 10)", 0}, {"insert into t values (-9223372036854775807, '', -1)", 0}, {"insert into t values (9223372036854775807, '', 0)", 0}, {"insert into t values (0, '', 0)", 0},
		{"insert into w values ('b ', 9)", 0}, {"insert into w values (' ', 9)", 0}, {"insert into w values ('A', 1)", 0}, {"insert into w values ('~', 1)", 0}, {"insert into none values (1, '1')", 0},
	})
	askCodes(t, fullTable(1000), []coded{
		{"insert into t values (1)", impl.SqlType}, {"insert into t values ('1', '')", impl.SqlType}, {"insert into t values (0, '')", impl.SqlKey}, {"insert into t values (1998, '')", impl.SqlKey},
		{"insert into t values (-1, '')", impl.SqlBig}, {"insert into t values (1, '')", impl.SqlBig}, {"insert into t values (5000, '')", impl.SqlBig}, {"update t set id = id + 1", 0}, {"delete from t where id = 6", 0},
	})
	askCodes(t, fullTable(999), []coded{{"insert into t values (-1, '')", 0}, {"insert into t values (7, '')", 0}, {"insert into t values (9000, '')", 0}, {"insert into t values (8, '')", impl.SqlKey}})
}

// sameKeyAndLong is a table in which k becoming pad twice gives one key twice, and one text that is too long.
func sameKeyAndLong(at int) impl.Db {
	rows := [][]impl.Value{{words("a"), words("x")}, {words("b"), words("x")}, {words("c"), words("x")}, {words("d"), words("x")}}
	rows[at][1].Text = strings.Repeat("y", 101)
	return impl.Db{Tables: []impl.TableData{{Name: "p", Cols: []impl.Column{{Name: "k", Type: 2}, {Name: "pad", Type: 2}}, Rows: rows}}}
}

func TestUpdateCodes(t *testing.T) {
	for _, table := range []string{"t", "none"} {
		cases := []coded{
			{"update gone set id = 1", impl.SqlTable}, {"update gone set zz = zz + 'x' where 'x'", impl.SqlTable},
			{"update T set zz = 1", impl.SqlColumn}, {"update T set zz = 'x' + 1", impl.SqlColumn}, {"update T set t = 1 where 'x'", impl.SqlColumn}, {"update T set i = 1", impl.SqlColumn},
			{"update T set id = zz", impl.SqlColumn}, {"update T set id = name || zz where 'x'", impl.SqlColumn}, {"update T set id = zz + name", impl.SqlColumn}, {"update T set id = zz where name", impl.SqlColumn},
			{"update T set id = id + name", impl.SqlType}, {"update T set id = id + name where zz = 1", impl.SqlType}, {"update T set id = id + name + zz", impl.SqlType}, {"update T set name = id + name + zz", impl.SqlType},
			{"update T set id = name", impl.SqlType}, {"update T set name = id", impl.SqlType}, {"update T set name = len(name)", impl.SqlType}, {"update T set id = 'x'", impl.SqlType}, {"update T set name = 0", impl.SqlType},
			{"update T set id = name where zz = 1", impl.SqlType}, {"update T set name = 1 where zz", impl.SqlType}, {"update T set name = 'a' = 'b' where zz", impl.SqlType},
			{"update T set id = 1 where zz = 1", impl.SqlColumn}, {"update T set id = 1 where id = zz", impl.SqlColumn}, {"update T set id = 1 where name", impl.SqlType}, {"update T set id = 1 where ''", impl.SqlType}, {"update T set id = 1 where name || name", impl.SqlType},
			{"update T set id = 1 where id = name", impl.SqlType}, {"update T set id = 1 where id = name and zz", impl.SqlType}, {"update T set id = 1 where zz and id = name", impl.SqlColumn},
			{"update T set name = '' where id", 0}, {"update T set id = id", 0}, {"update T set name = name", 0}, {"update T set id = len(name)", 0},
		}
		for i := range cases {
			cases[i].sql = strings.ReplaceAll(cases[i].sql, "T", table)
		}
		askCodes(t, shelf(), cases)
	}
	askCodes(t, shelf(), []coded{
		{"update t set name = name || name", impl.SqlBig}, {"update t set id = 1", impl.SqlKey}, {"update t set id = 1 where name", impl.SqlType}, {"update t set name = name || name where zz", impl.SqlColumn},
	})
	for at := range 4 {
		askCodes(t, sameKeyAndLong(at), []coded{
			{"update p set k = pad || pad", impl.SqlBig}, {"update p set k = pad", impl.SqlKey}, {"update p set k = pad || pad where len(pad) = 1", impl.SqlKey},
			{"update p set k = pad || pad where 1 < len(pad)", impl.SqlBig}, {"update p set k = pad where 1 < len(pad)", 0}, {"update p set pad = pad || pad where len(pad) = 1", 0}, {"update p set pad = pad || pad", impl.SqlBig},
		})
	}
}

func TestDeleteAndSelectCodes(t *testing.T) {
	for _, table := range []string{"t", "none"} {
		cases := []coded{
			{"delete from gone", impl.SqlTable}, {"delete from gone where zz", impl.SqlTable}, {"delete from gone where 'x'", impl.SqlTable},
			{"delete from T where zz", impl.SqlColumn}, {"delete from T where name", impl.SqlType}, {"delete from T where name = zz + 1", impl.SqlColumn}, {"delete from T where name + 1 = zz", impl.SqlType}, {"delete from T where 'x'", impl.SqlType},
			{"delete from T where 0", 0}, {"delete from T where -1", 0}, {"delete from T", 0}, {"delete from T where id < 3", 0}, {"delete from T where name = ''", 0}, {"delete from T where not id = 2", 0},
			{"select id from gone", impl.SqlTable}, {"select zz, 'x' + 1 from gone where zz", impl.SqlTable},
			{"select zz from T", impl.SqlColumn}, {"select id, zz from T where name", impl.SqlColumn}, {"select id + name, zz from T", impl.SqlType}, {"select zz, id + name from T", impl.SqlColumn},
			{"select id, id + name from T where zz", impl.SqlType}, {"select id, name from T where zz", impl.SqlColumn}, {"select id, name from T where name", impl.SqlType}, {"select name from T where zz = 1 + name", impl.SqlColumn},
			{"select name from T where 1 + name = zz", impl.SqlType}, {"select len(id) from T", impl.SqlType}, {"select not name from T", impl.SqlType},
			{"select id, name, id from T", 0}, {"select 'x' from T where 0", 0}, {"select name || 'x', len(name) from T where id < 3", 0},
		}
		for i := range cases {
			cases[i].sql = strings.ReplaceAll(cases[i].sql, "T", table)
		}
		askCodes(t, shelf(), cases)
	}
}

func TestStatementsThatAreNotOKOnTables(t *testing.T) {
	for _, db := range []impl.Db{{}, shelf()} {
		for _, wrong := range wrongStms() {
			after, code := impl.ApplyStm(db, wrong.stm)
			rows, why := impl.SelectRows(db, wrong.stm)
			if code != impl.SqlShape || why != impl.SqlShape || len(after.Tables) != 0 || len(rows) != 0 {
				t.Fatalf("%s: %d %d", wrong.what, code, why)
			}
		}
	}
}

// For each operator, the types that it takes, by hand: both integers, both texts, or two of one type.
func TestEachOperatorWithEachPairOfTypes(t *testing.T) {
	integers := []impl.Item{num(5), num(0), col("id"), col("n")}
	texts := []impl.Item{txt("x"), txt(""), col("name")}
	leaves := append(slices.Clone(integers), texts...)
	ask := func(items []impl.Item, code int, result int) {
		t.Helper()
		askPlaces(t, items, code, result)
	}
	for i, left := range leaves {
		for j, right := range leaves {
			bothIntegers, bothTexts := i < 4 && j < 4, i >= 4 && j >= 4
			for _, o := range doubleOps {
				takes, result := bothIntegers, impl.TypeInt
				switch o {
				case impl.OpEq, impl.OpLt:
					takes = bothIntegers || bothTexts
				case impl.OpCat:
					takes, result = bothTexts, impl.TypeText
				}
				code := impl.SqlType
				if takes {
					code = impl.SqlOK
				}
				ask([]impl.Item{left, right, op(o)}, code, result)
			}
		}
		code := map[bool]int{true: impl.SqlOK, false: impl.SqlType}
		ask([]impl.Item{left, op(impl.OpNot)}, code[i < 4], impl.TypeInt)
		ask([]impl.Item{left, op(impl.OpLen)}, code[i >= 4], impl.TypeInt)
	}
}

// askPlaces asks an expression at every place where one may stand, for a table with rows and for one without.
func askPlaces(t *testing.T, items []impl.Item, code, result int) {
	t.Helper()
	shelved := shelf()
	empty := shelf()
	empty.Tables[1].Rows = nil
	where := code
	if code == impl.SqlOK && result != impl.TypeInt {
		where = impl.SqlType
	}
	exp := func(kind int) int {
		if code == impl.SqlOK && result != kind {
			return impl.SqlType
		}
		return code
	}
	one := []impl.Item{num(1)}
	places := []struct {
		stm  impl.Stm
		code int
	}{
		{impl.Stm{Kind: impl.StmSelect, Table: "t", Outs: [][]impl.Item{items}}, code},
		{impl.Stm{Kind: impl.StmSelect, Table: "t", Outs: [][]impl.Item{one, items, {col("zz")}}}, cmp.Or(code, impl.SqlColumn)},
		{impl.Stm{Kind: impl.StmSelect, Table: "t", Outs: [][]impl.Item{one}, Where: items}, where},
		{impl.Stm{Kind: impl.StmDelete, Table: "t", Where: items}, where},
		{impl.Stm{Kind: impl.StmUpdate, Table: "t", Col: "n", Exp: items}, exp(impl.TypeInt)},
		{impl.Stm{Kind: impl.StmUpdate, Table: "t", Col: "name", Exp: items, Where: []impl.Item{num(0)}}, exp(impl.TypeText)},
		{impl.Stm{Kind: impl.StmUpdate, Table: "t", Col: "n", Exp: one, Where: items}, where},
	}
	for _, place := range places {
		for _, db := range []impl.Db{shelved, empty} {
			_, got := askStm(t, db, place.stm)
			// A text may be too long in the table with rows; the plain reading tells that, too.
			if got != place.code && !(place.code == impl.SqlOK && got == impl.SqlBig && len(db.Tables[1].Rows) > 0) {
				t.Errorf("%s: got %d, want %d", stmName(place.stm), got, place.code)
			}
		}
	}
}

func TestFirstFaultyItem(t *testing.T) {
	cases := []struct {
		exp  string
		code int
	}{
		{"zz", impl.SqlColumn}, {"zz + 'x'", impl.SqlColumn}, {"'x' + zz", impl.SqlColumn}, {"('x' + 1) + zz", impl.SqlType}, {"zz + ('x' + 1)", impl.SqlColumn},
		{"1 + ('x' + 1) * zz", impl.SqlType}, {"id + zz * ('x' + 1)", impl.SqlColumn}, {"len(1) = len(zz)", impl.SqlType}, {"len(zz) = len(1)", impl.SqlColumn},
		{"not name or zz", impl.SqlType}, {"zz or not name", impl.SqlColumn}, {"(id = name) = (zz = 1)", impl.SqlType}, {"(zz = 1) = (id = name)", impl.SqlColumn},
		{"id = (name = 1)", impl.SqlType}, {"(name = 'x') + id", impl.SqlOK}, {"name = 'x' || name", impl.SqlOK}, {"(name = 'x') || name", impl.SqlType}, {"len(name || 'x') * id < n", impl.SqlOK},
		{"1 + len(name || id)", impl.SqlType}, {"len(len(name))", impl.SqlType}, {"not not not id", impl.SqlOK}, {"not len(name)", impl.SqlOK}, {"len(not id)", impl.SqlType},
		{"word = 'x'", impl.SqlColumn}, {"t", impl.SqlColumn}, {"na", impl.SqlColumn}, {"names", impl.SqlColumn}, {"'zz' = 'id'", impl.SqlOK},
	}
	for _, c := range cases {
		askPlaces(t, parsed(t, "delete from t where "+c.exp).Where, c.code, impl.TypeInt)
	}
	for _, exp := range []string{"name", "'x'", "name || 'x'", "'x' || 'y' || name", "(name)", "''"} {
		askPlaces(t, parsed(t, "delete from t where "+exp).Where, impl.SqlOK, impl.TypeText)
	}
}

// numbers is a table n of integers, each with its key as a text beside it.
func numbers(keys ...int) impl.Db {
	rows := [][]impl.Value{}
	for _, key := range keys {
		rows = append(rows, []impl.Value{whole(key), words(fmt.Sprint("was ", key))})
	}
	return impl.Db{Tables: []impl.TableData{{Name: "n", Cols: []impl.Column{{Name: "k", Type: 1}, {Name: "was", Type: 2}}, Rows: rows}}}
}

// written are the rows of the first table, in one line.
func written(db impl.Db) string {
	out := []string{}
	for _, row := range db.Tables[0].Rows {
		out = append(out, fmt.Sprint(row[0].Num, " ", row[1].Text))
	}
	return strings.Join(out, ", ")
}

func TestUpdateOfIntegerKeys(t *testing.T) {
	cases := []struct {
		keys []int
		sql  string
		code int
		want string
	}{
		{[]int{1, 2, 3}, "set k = k + 1", 0, "2 was 1, 3 was 2, 4 was 3"},
		{[]int{1, 2, 3}, "set k = k - 1", 0, "0 was 1, 1 was 2, 2 was 3"},
		{[]int{1, 2, 3}, "set k = 0 - k", 0, "-3 was 3, -2 was 2, -1 was 1"},
		{[]int{1, 2, 3}, "set k = 4 - k", 0, "1 was 3, 2 was 2, 3 was 1"},
		{[]int{1, 2, 4}, "set k = k + 1 where k < 3", 0, "2 was 1, 3 was 2, 4 was 4"},
		{[]int{1, 2, 3}, "set k = k + 1 where k < 3", impl.SqlKey, ""},
		{[]int{1, 2, 3}, "set k = 3 - k where k < 3", 0, "1 was 2, 2 was 1, 3 was 3"},
		{[]int{1, 2, 3}, "set k = 2 where k = 1", impl.SqlKey, ""},
		{[]int{1, 2, 3}, "set k = 1 where k = 3", impl.SqlKey, ""},
		{[]int{1, 2, 3}, "set k = 2 where k = 2", 0, "1 was 1, 2 was 2, 3 was 3"},
		{[]int{1, 2, 3}, "set k = 7 where not k = 2", impl.SqlKey, ""},
		{[]int{1, 2, 3}, "set k = 7", impl.SqlKey, ""},
		{[]int{1, 2, 3}, "set k = 7 where k = 2", 0, "1 was 1, 3 was 3, 7 was 2"},
		{[]int{1, 2, 3}, "set k = 7 where k = 9", 0, "1 was 1, 2 was 2, 3 was 3"},
		{[]int{5}, "set k = 7", 0, "7 was 5"},
		{[]int{}, "set k = 7", 0, ""},
		{[]int{-1, 0, 1}, "set k = k * k", impl.SqlKey, ""},
		{[]int{-1, 0, 2}, "set k = k * k", 0, "0 was 0, 1 was -1, 4 was 2"},
		{[]int{0, math.MaxInt}, "set k = k + 1", 0, "-9223372036854775808 was 9223372036854775807, 1 was 0"},
		{[]int{math.MinInt, 0}, "set k = k - 1", 0, "-1 was 0, 9223372036854775807 was -9223372036854775808"},
		{[]int{math.MinInt, 0}, "set k = k * 2", impl.SqlKey, ""},
		{[]int{1, 2, 3}, "set k = len(was)", impl.SqlKey, ""},
		{[]int{1, 20, 300}, "set k = len(was)", 0, "5 was 1, 6 was 20, 7 was 300"},
		{[]int{1, 2, 3}, "set was = 'x' || was where 1 < k", 0, "1 was 1, 2 xwas 2, 3 xwas 3"},
		{[]int{1, 2, 3}, "set was = ''", 0, "1 , 2 , 3 "},
	}
	for _, c := range cases {
		db := numbers(c.keys...)
		after, code := askStm(t, db, parsed(t, "update n "+c.sql))
		want := c.want
		if c.code != impl.SqlOK {
			want = written(db)
		}
		if code != c.code || written(after) != want {
			t.Errorf("%v %s: got %d %s, want %d %s", c.keys, c.sql, code, written(after), c.code, want)
		}
	}
	// Each key is taken before, up to the most rows.
	after, code := askStm(t, fullTable(1000), parsed(t, "update t set id = id + 2"))
	if code != 0 || after.Tables[0].Rows[0][0].Num != 2 || after.Tables[0].Rows[999][0].Num != 2000 || after.Tables[0].Rows[999][1].Text != "999" {
		t.Errorf("%d %s", code, dbName(after))
	}
}

func TestUpdateOfTextKeys(t *testing.T) {
	long := strings.Repeat("z", 199)
	table := func(keys ...string) impl.Db {
		db := impl.Db{Tables: []impl.TableData{{Name: "w", Cols: []impl.Column{{Name: "k", Type: 2}, {Name: "n", Type: 1}}}}}
		for i, key := range keys {
			db.Tables[0].Rows = append(db.Tables[0].Rows, []impl.Value{words(key), whole(i)})
		}
		return db
	}
	cases := []struct {
		keys []string
		sql  string
		code int
		want string // the rows' numbers in the order of their new keys
	}{
		{[]string{"a", "aa", "b"}, "set k = k || 'a'", 0, "0 1 2"},
		{[]string{"", "a", "aa"}, "set k = k || 'a'", 0, "0 1 2"},
		{[]string{"", "a", "b"}, "set k = k || 'z' where n < 2", 0, "1 2 0"},
		{[]string{"", "b", "z"}, "set k = k || 'z' where n = 0", impl.SqlKey, ""},
		{[]string{"a", "b", "c"}, "set k = 'B' where n = 2", 0, "2 0 1"},
		{[]string{"a", "b", "c"}, "set k = '' where n = 2", 0, "2 0 1"},
		{[]string{"a", "b", "c"}, "set k = ''", impl.SqlKey, ""},
		{[]string{"a", "b", "c"}, "set k = 'a' where n = 1", impl.SqlKey, ""},
		{[]string{"a", "b", "c"}, "set k = 'a' where n = 0", 0, "0 1 2"},
		{[]string{"a", "b", "c"}, "set k = 'd' where 0 < n", impl.SqlKey, ""},
		{[]string{"a", "b", long}, "set k = k || 'y'", 0, "0 1 2"},
		{[]string{"a", "b", long}, "set k = k || 'yy'", impl.SqlBig, ""},
		{[]string{"a", "b", long}, "set k = k || 'yy' where n < 2", 0, "0 1 2"},
		{[]string{"a", "b", long}, "set k = k || 'yy' where n = 2", impl.SqlBig, ""},
		{[]string{"a", "b", long + "z"}, "set k = k || ''", 0, "0 1 2"},
	}
	for _, c := range cases {
		db := table(c.keys...)
		after, code := askStm(t, db, parsed(t, "update w "+c.sql))
		got := []string{}
		for _, row := range after.Tables[0].Rows {
			got = append(got, fmt.Sprint(row[1].Num))
		}
		want := cmp.Or(c.want, "0 1 2")
		if code != c.code || strings.Join(got, " ") != want {
			t.Errorf("%q %s: got %d %v, want %d %s", c.keys, c.sql, code, got, c.code, want)
		}
	}
}

// The meaning of each operator, by hand; g and l are the greatest and the least int, x has 150 bytes.
func TestMeaningOfOperators(t *testing.T) {
	db := impl.Db{Tables: []impl.TableData{{Name: "o", Cols: []impl.Column{{Name: "g", Type: 1}, {Name: "l", Type: 1}, {Name: "x", Type: 2}, {Name: "e", Type: 2}},
		Rows: [][]impl.Value{{whole(math.MaxInt), whole(math.MinInt), words(strings.Repeat("x", 150)), words("")}}}}}
	integers := map[string]int{
		"g + 1": math.MinInt, "1 + g": math.MinInt, "l - 1": math.MaxInt, "l + -1": math.MaxInt, "g + g": -2, "l + l": 0, "l + g": -1, "g - l": -1, "l - g": 1, "0 - l": math.MinInt, "0 - g": -math.MaxInt,
		"g * g": 1, "g * 2": -2, "l * l": 0, "l * -1": math.MinInt, "l * 2": 0, "l * 3": math.MinInt, "g * l": math.MinInt, "4294967296 * 4294967296": 0, "4294967296 * 2147483648": math.MinInt, "3037000500 * 3037000500": -9223372036709301616,
		"2 - 5": -3, "2 - 5 - 1": -4, "2 - (5 - 1)": -2, "-7 * 3": -21, "2 + 3 * 4": 14, "5 - -5": 10,
		"l < g": 1, "g < l": 0, "g < g": 0, "l < l": 0, "-1 < 0": 1, "0 < -1": 0, "9 < 10": 1, "g = g": 1, "l = l": 1, "l = g": 0, "0 = 0": 1, "1 = -1": 0, "l + 0 = g + 1": 1,
		"'a' < 'aa'": 1, "'aa' < 'a'": 0, "'a' < 'a'": 0, "e < ' '": 1, "e < e": 0, "' ' < e": 0, "'B' < 'a'": 1, "'a' < 'B'": 0, "'ab' < 'b'": 1, "'10' < '9'": 1, "'~' < 'z'": 0, "'a~' < 'b'": 1, "x < 'xa'": 0, "x < 'xy'": 1,
		"'a' = 'a'": 1, "'a' = 'a '": 0, "'a' = 'b'": 0, "e = ''": 1, "e = ' '": 0, "x = x": 1, "'' = e": 1,
		"0 and 0": 0, "5 and 0": 0, "0 and 5": 0, "5 and -3": 1, "2 and 4": 1, "l and g": 1, "l and l": 1, "-1 and 1": 1,
		"0 or 0": 0, "5 or 0": 1, "0 or -3": 1, "1 or 2": 1, "2 or 4": 1, "l or 0": 1, "0 or l": 1, "-1 or 1": 1,
		"not 0": 1, "not 1": 0, "not 5": 0, "not -1": 0, "not l": 0, "not not 7": 1, "not (1 - 1)": 1,
		"len(e)": 0, "len('')": 0, "len(' ')": 1, "len('it''s')": 4, "len(e || e)": 0, "len(x)": 150, "len(x || x)": 300, "len(x || x || x || e)": 450, "len(x || x) * 2 - len(x)": 450,
		"x || x = x || x": 1, "x || x = x || x || x": 0, "x || x < x || x || x": 1, "x || 'a' < x || 'b'": 1, "x || x || e = e || x || x": 1, "x || x < x": 0, "x < x || x": 1,
	}
	for exp, want := range integers {
		s := parsed(t, "select "+exp+" from o")
		askStm(t, db, s)
		rows, code := impl.SelectRows(db, s)
		if code != impl.SqlOK || !sameRows(rows, [][]impl.Value{{whole(want)}}) {
			t.Errorf("%s: got %d %v, want %d", exp, code, rows, want)
		}
		fits := parsed(t, "select 1 from o where "+exp)
		if rows, code := impl.SelectRows(db, fits); code != impl.SqlOK || (len(rows) == 1) != (want != 0) {
			t.Errorf("where %s: got %d %v, value %d", exp, code, rows, want)
		}
	}
	texts := map[string]string{
		"e": "", "e || e": "", "'' || 'a'": "a", "'a' || ''": "a", "'a' || 'b'": "ab", "'b' || 'a' || 'c'": "bac", "'it''s' || '''' || e": "it's'", "x || e": strings.Repeat("x", 150), "'y' || x": "y" + strings.Repeat("x", 150), "' ' || ' '": "  ",
	}
	for exp, want := range texts {
		s := parsed(t, "select "+exp+" from o")
		askStm(t, db, s)
		rows, code := impl.SelectRows(db, s)
		if code != impl.SqlOK || !sameRows(rows, [][]impl.Value{{words(want)}}) {
			t.Errorf("%s: got %d %v, want %q", exp, code, rows, want)
		}
	}
}

// lengths is a table l with a text of each length beside the keys 0, 1, 2 ..
func lengths(of ...int) impl.Db {
	rows := [][]impl.Value{}
	for i, n := range of {
		rows = append(rows, []impl.Value{whole(i), words(strings.Repeat("x", n))})
	}
	return impl.Db{Tables: []impl.TableData{{Name: "l", Cols: []impl.Column{{Name: "k", Type: 1}, {Name: "x", Type: 2}}, Rows: rows}}}
}

func TestSelectedTextsThatAreTooLong(t *testing.T) {
	one := func(n int) string { return "'" + strings.Repeat("y", n) + "'" }
	cases := []struct {
		of   []int
		sql  string
		code int
		rows int
	}{
		{[]int{200, 1}, "x", 0, 2}, {[]int{199, 1}, "x || 'y'", 0, 2}, {[]int{200, 1}, "x || ''", 0, 2},
		{[]int{200, 1}, "x || 'y'", impl.SqlBig, 0}, {[]int{1, 200}, "x || 'y'", impl.SqlBig, 0}, {[]int{100, 101, 99}, "x || x", impl.SqlBig, 0}, {[]int{100, 99}, "x || x", 0, 2},
		{[]int{1, 200}, "k, 1, 'a', x || 'y'", impl.SqlBig, 0}, {[]int{1, 200}, "x || 'y', k, 1, 'a'", impl.SqlBig, 0}, {[]int{1, 200, 1}, "k, x || 'y', k", impl.SqlBig, 0},
		{[]int{1, 200}, "len(x || 'y')", 0, 2}, {[]int{200, 200}, "x || x = x || x, len(x || x)", 0, 2}, {[]int{}, "x || " + one(200), 0, 0}, {[]int{0}, one(100) + " || " + one(101), impl.SqlBig, 0}, {[]int{0}, one(100) + " || " + one(100), 0, 1},
		{[]int{1, 200, 1}, "x || 'y' | k = 1", impl.SqlBig, 0}, {[]int{1, 200, 1}, "x || 'y' | not k = 1", 0, 2}, {[]int{1, 200, 1}, "x || 'y' | 7 < k", 0, 0}, {[]int{1, 200, 1}, "x || 'y' | len(x) < 200", 0, 2},
		{[]int{1, 200, 1}, "k | len(x || x) = 400", 0, 1}, {[]int{1, 200, 1}, "k | x || x = x || x", 0, 3},
		{[]int{200}, "x || 'y', zz", impl.SqlColumn, 0}, {[]int{200}, "x || 'y' | x", impl.SqlType, 0},
	}
	for _, c := range cases {
		sql := "select " + strings.Replace(c.sql, " | ", " from l where ", 1)
		if !strings.Contains(sql, " from ") {
			sql += " from l"
		}
		db, s := lengths(c.of...), parsed(t, sql)
		rows, code := impl.SelectRows(db, s)
		if code != c.code || len(rows) != c.rows {
			t.Errorf("%v %s: got %d and %d rows, want %d and %d", c.of, sql, code, len(rows), c.code, c.rows)
		}
		// ApplyStm looks at no row of a Select.
		want := c.code
		if want == impl.SqlBig {
			want = impl.SqlOK
		}
		if _, code := askStm(t, db, s); code != want {
			t.Errorf("%v %s: ApplyStm tells %d, want %d", c.of, sql, code, want)
		}
	}
}

func TestSelectedRows(t *testing.T) {
	cases := []struct {
		sql  string
		code int
		want string
	}{
		{"select id, len(name), n from t", 0, "[1 10] [2 -9223372036854775808] [4 0]"},
		{"select id, n, n from t where 1 < id", 0, "[2 -9223372036854775808] [4 0]"},
		{"select id, id from t where n", 0, "[1 1] [2 2]"}, {"select id, id from t where not n", 0, "[4 4]"}, {"select id, id from t where name = ''", 0, "[2 2]"},
		{"select n, n from w", 0, "[1 1] [2 2] [3 3] [4 4] [5 5]"}, {"select n, n from w where word < 'aa'", 0, "[1 1] [2 2] [3 3]"}, {"select 0 - n, n from w where 2 < n", 0, "[-3 3] [-4 4] [-5 5]"},
		{"select 5, 6 from w where 0", 0, ""}, {"select 5, 6 from none", 0, ""}, {"select id, name from none where id", 0, ""},
		{"select zz from t", impl.SqlColumn, ""}, {"select name + 1 from t", impl.SqlType, ""}, {"select id from gone", impl.SqlTable, ""}, {"select id from t where name", impl.SqlType, ""},
		{"create table new (a int)", impl.SqlShape, ""}, {"create table t (a int)", impl.SqlShape, ""}, {"insert into t values (9, '', 1)", impl.SqlShape, ""}, {"insert into gone values (1)", impl.SqlShape, ""},
		{"update t set n = 1", impl.SqlShape, ""}, {"update t set n = zz", impl.SqlShape, ""}, {"delete from t", impl.SqlShape, ""}, {"delete from gone", impl.SqlShape, ""},
	}
	for _, c := range cases {
		s := parsed(t, c.sql)
		askStm(t, shelf(), s)
		rows, code := impl.SelectRows(shelf(), s)
		got := []string{}
		for _, row := range rows {
			got = append(got, fmt.Sprint([]int{row[0].Num, row[len(row)-1].Num}))
		}
		if code != c.code || strings.Join(got, " ") != c.want {
			t.Errorf("%s: got %d %v, want %d %s", c.sql, code, got, c.code, c.want)
		}
	}
	// The most of Outs and of items: 49 is taken from each n, which wraps round at the least int.
	deep := []impl.Item{col("n")}
	for len(deep) < 99 {
		deep = append(deep, num(1), op(impl.OpSub))
	}
	s := impl.Stm{Kind: impl.StmSelect, Table: "t", Outs: slices.Repeat([][]impl.Item{deep}, 20), Where: append(slices.Clone(deep), op(impl.OpNot))}
	askStm(t, shelf(), s)
	s.Where = nil
	askStm(t, shelf(), s)
	rows, code := impl.SelectRows(shelf(), s)
	if code != 0 || len(rows) != 3 || len(rows[1]) != 20 || rows[1][19] != whole(math.MaxInt-48) {
		t.Errorf("%d %v", code, rows)
	}
}

// Rows and columns that are one list many times over in the argument are lists of their own in the answer.
func TestTablesThatShareLists(t *testing.T) {
	cols := []impl.Column{{Name: "k", Type: 1}, {Name: "x", Type: 2}}
	rows := [][]impl.Value{{whole(1), words("a")}, {whole(2), words("b")}, {whole(3), words("c")}}
	db := impl.Db{Tables: []impl.TableData{{Name: "a", Cols: cols, Rows: rows}, {Name: "b", Cols: cols, Rows: rows}, {Name: "c", Cols: cols[:2], Rows: rows[:1]}}}
	for _, sql := range []string{"select k from b", "delete from gone", "delete from b", "delete from b where k = 2", "update b set k = k + 1", "update b set x = 'z' where k = 1", "update b set k = 1", "insert into b values (4, 'd')", "insert into c values (2, 'b')", "insert into b values (1, '')", "create table d (k int, x text)"} {
		s := parsed(t, sql)
		s.Cols = append(s.Cols, cols...)[:len(s.Cols)]
		after, code := impl.ApplyStm(db, s)
		want, wantCode := plainApply(db, s)
		if code != wantCode || !sameDb(after, want) {
			t.Errorf("%s: got %d %s, want %d %s", sql, code, dbName(after), wantCode, dbName(want))
		}
		if !areApart(spansOfDb(after)) {
			t.Errorf("%s: lists of one answer share memory", sql)
		}
		if all := slices.Concat(addSpan(nil, cols), spansOfRows(rows), addSpan(nil, db.Tables)); !areApart(all, spansOfDb(after)) {
			t.Errorf("%s: the answer shares memory with the argument", sql)
		}
	}
	create := impl.Stm{Kind: impl.StmCreate, Table: "d", Cols: cols}
	insert := impl.Stm{Kind: impl.StmInsert, Table: "a", Values: []impl.Value{whole(9), words("i")}}
	for _, s := range []impl.Stm{create, insert} {
		after, code := impl.ApplyStm(db, s)
		if code != 0 || !areApart(spansOfStm(s), spansOfDb(after)) {
			t.Errorf("%s: %d, or the answer shares memory with the statement", stmName(s), code)
		}
	}
}

var fewNames = []string{"a", "b", "c", "d", "e"}

var fewTables = []string{"s", "t", "t0", "u"}

func anyKey(source *rand.Rand, kind int) impl.Value {
	if kind == impl.TypeInt {
		return whole(pick(source, []int{0, 1, 2, 3, 4, 5, -1, -2, math.MaxInt, math.MaxInt - 1, math.MinInt, math.MinInt + 1}))
	}
	return words(pick(source, []string{"", " ", "a", "b", "aa", "ab", "A", "~", "it's", strings.Repeat("x", 99), strings.Repeat("x", 101), strings.Repeat("x", 200), strings.Repeat("a", 199)}))
}

func anyTable(source *rand.Rand, name string) impl.TableData {
	table := impl.TableData{Name: name}
	for _, at := range source.Perm(len(fewNames))[:1+source.Intn(4)] {
		table.Cols = append(table.Cols, impl.Column{Name: fewNames[at], Type: 1 + source.Intn(2)})
	}
	for range source.Intn(8) {
		row := []impl.Value{}
		for _, c := range table.Cols {
			row = append(row, anyKey(source, c.Type))
		}
		taken := slices.ContainsFunc(table.Rows, func(other []impl.Value) bool { return other[0] == row[0] })
		if !taken {
			table.Rows = append(table.Rows, row)
		}
	}
	slices.SortFunc(table.Rows, func(x, y []impl.Value) int {
		if plainKeyLess(x[0], y[0]) {
			return -1
		}
		return 1
	})
	return table
}

func anyDb(source *rand.Rand) impl.Db {
	db := impl.Db{}
	for _, name := range fewTables {
		if source.Intn(3) > 0 {
			db.Tables = append(db.Tables, anyTable(source, name))
		}
	}
	return db
}

// typedItems is mostly an expression of that type for these columns; now and then it is a faulty one.
func typedItems(source *rand.Rand, cols []impl.Column, kind, depth int) []impl.Item {
	if source.Intn(60) == 0 {
		kind = 3 - kind
	}
	if source.Intn(60) == 0 {
		return []impl.Item{col(pick(source, fewNames))}
	}
	if depth == 0 || source.Intn(4) == 0 {
		for range 4 {
			if c := pick(source, cols); c.Type == kind {
				return []impl.Item{col(c.Name)}
			}
		}
		v := anyKey(source, kind)
		if kind == impl.TypeText {
			return []impl.Item{txt(v.Text)}
		}
		return []impl.Item{num(max(v.Num, -math.MaxInt))}
	}
	one := func(kind int) []impl.Item { return typedItems(source, cols, kind, depth-1) }
	if kind == impl.TypeText {
		return append(append(one(kind), one(kind)...), op(impl.OpCat))
	}
	switch o := pick(source, []int{impl.OpAdd, impl.OpSub, impl.OpMul, impl.OpEq, impl.OpLt, impl.OpAnd, impl.OpOr, impl.OpNot, impl.OpLen, impl.OpEq, impl.OpLt}); o {
	case impl.OpNot:
		return append(one(kind), op(o))
	case impl.OpLen:
		return append(one(impl.TypeText), op(o))
	case impl.OpEq, impl.OpLt:
		both := 1 + source.Intn(2)
		return append(append(one(both), one(both)...), op(o))
	default:
		return append(append(one(kind), one(kind)...), op(o))
	}
}

// stmFor is a statement of that kind which mostly speaks of what is in the tables.
func stmFor(source *rand.Rand, db impl.Db, kind int) impl.Stm {
	s := impl.Stm{Kind: kind, Table: pick(source, fewTables)}
	cols := []impl.Column{{Name: "a", Type: 1}, {Name: "b", Type: 2}}
	if len(db.Tables) > 0 && kind != impl.StmCreate && source.Intn(12) > 0 {
		table := pick(source, db.Tables)
		s.Table, cols = table.Name, table.Cols
	}
	if kind >= impl.StmUpdate && source.Intn(4) > 0 {
		s.Where = typedItems(source, cols, impl.TypeInt, source.Intn(4))
	}
	switch kind {
	case impl.StmCreate:
		s.Cols = anyTable(source, "t").Cols
		if source.Intn(6) == 0 {
			s.Cols = append(s.Cols, impl.Column{Name: pick(source, fewNames), Type: 1 + source.Intn(2)})
		}
	case impl.StmInsert:
		for _, c := range cols {
			v := anyKey(source, c.Type)
			s.Values = append(s.Values, impl.Value{Type: v.Type, Num: max(v.Num, -math.MaxInt), Text: v.Text})
		}
		if source.Intn(8) == 0 {
			s.Values = append(s.Values, anyKey(source, impl.TypeText))[source.Intn(2):]
		}
	case impl.StmUpdate:
		set := cols[source.Intn(2)*source.Intn(len(cols))]
		s.Col, s.Exp = set.Name, typedItems(source, cols, set.Type, source.Intn(4))
		if source.Intn(20) == 0 {
			s.Col = pick(source, fewNames)
		}
	case impl.StmSelect:
		for range 1 + source.Intn(3) {
			s.Outs = append(s.Outs, typedItems(source, cols, 1+source.Intn(2), source.Intn(4)))
		}
	}
	// Now and then the statement isn't OK.
	switch source.Intn(80) {
	case 0:
		s.Table = pick(source, noNames)
	case 1:
		s.Kind = pick(source, []int{0, 6, 1 + source.Intn(5)})
	case 2:
		s.Where = append(s.Where, op(1+source.Intn(13)))
	}
	return s
}

func (met tally) needCodes(t *testing.T) {
	t.Helper()
	codes := map[int][]int{
		impl.StmCreate: {impl.SqlOK, impl.SqlExists, impl.SqlColumn},
		impl.StmInsert: {impl.SqlOK, impl.SqlTable, impl.SqlType, impl.SqlKey},
		impl.StmUpdate: {impl.SqlOK, impl.SqlTable, impl.SqlColumn, impl.SqlType, impl.SqlKey, impl.SqlBig},
		impl.StmDelete: {impl.SqlOK, impl.SqlTable, impl.SqlColumn, impl.SqlType},
		impl.StmSelect: {impl.SqlOK, impl.SqlTable, impl.SqlColumn, impl.SqlType},
	}
	for kind, list := range codes {
		for _, code := range append(list, impl.SqlShape) {
			met.need(t, fmt.Sprint("kind ", kind, " code ", code))
		}
	}
	for _, code := range []int{impl.SqlOK, impl.SqlBig} {
		met.need(t, fmt.Sprint("rows code ", code))
	}
}

func (met tally) addStm(db impl.Db, s impl.Stm, code int) {
	met[fmt.Sprint("kind ", s.Kind, " code ", code)]++
	if s.Kind == impl.StmSelect {
		_, why := impl.SelectRows(db, s)
		met[fmt.Sprint("rows code ", why)]++
	}
}

func TestStatementsOfEveryKindOnManyTables(t *testing.T) {
	source := rand.New(rand.NewSource(5))
	met := tally{}
	for i := range 12000 {
		db := anyDb(source)
		s := stmFor(source, db, 1+i%5)
		_, code := askStm(t, db, s)
		met.addStm(db, s, code)
		if t.Failed() {
			return
		}
	}
	met.needCodes(t)
}

// The tables after each statement are those of the next one.
func TestStatementsOneAfterAnother(t *testing.T) {
	source := rand.New(rand.NewSource(6))
	met := tally{}
	for range 60 {
		db := impl.Db{}
		for range 150 {
			kind := pick(source, []int{1, 2, 2, 2, 2, 3, 3, 4, 5})
			s := stmFor(source, db, kind)
			after, code := askStm(t, db, s)
			met.addStm(db, s, code)
			if t.Failed() {
				return
			}
			if code != impl.SqlShape {
				db = after
			}
		}
	}
	met.needCodes(t)
}

// One thing is changed in tables at a time: what DbOK refuses, the others refuse.
func TestTablesThatMayNotBeOK(t *testing.T) {
	source := rand.New(rand.NewSource(7))
	met := map[bool]int{}
	for i := range 6000 {
		db := anyDb(source)
		db.Tables = append(db.Tables, anyTable(source, "z"))
		table := &db.Tables[source.Intn(len(db.Tables))]
		switch source.Intn(5) {
		case 0:
			table.Name = pick(source, append([]string{"from", ""}, fewTables...))
		case 1:
			table.Cols[source.Intn(len(table.Cols))].Name = pick(source, append([]string{"or", "_"}, fewNames...))
		case 2:
			table.Cols[source.Intn(len(table.Cols))].Type = source.Intn(4)
		case 3:
			table.Cols = append(table.Cols, impl.Column{Name: pick(source, fewNames), Type: 1})
		case 4:
			if len(table.Rows) > 0 {
				row := pick(source, table.Rows)
				row[source.Intn(len(row))] = anyKey(source, 1+source.Intn(2))
			}
		}
		ok := plainDbOK(db)
		met[ok]++
		askDb(t, dbName(db), db, ok)
		askStm(t, db, stmFor(source, db, 1+i%5))
		if t.Failed() {
			return
		}
	}
	if met[true] < 500 || met[false] < 500 {
		t.Error("the test asks too little:", met)
	}
}

// The statements of chapter 4 speak of other tables and columns, at the edges of what a statement is.
func TestStatementsAtTheEdgesOnTables(t *testing.T) {
	both := impl.TableData{Name: "t", Cols: []impl.Column{{Name: "a", Type: 1}, {Name: "b", Type: 2}, {Name: "c", Type: 1}}, Rows: [][]impl.Value{{whole(1), words("x"), whole(2)}, {whole(2), words(""), whole(-1)}}}
	for _, s := range okStms() {
		askStm(t, impl.Db{}, s)
		askStm(t, impl.Db{Tables: []impl.TableData{both}}, s)
		if t.Failed() {
			return
		}
	}
}

// The greatest tables and statements there are: the most rows, columns, outs and items, and the longest texts.
func TestGreatestTables(t *testing.T) {
	table := impl.TableData{Name: "t"}
	for i := range 20 {
		table.Cols = append(table.Cols, impl.Column{Name: fmt.Sprint("c", i), Type: impl.TypeText})
	}
	for i := range 1000 {
		row := slices.Repeat([]impl.Value{words(strings.Repeat("y", 200))}, 20)
		row[0] = words(fmt.Sprintf("%04d", i) + strings.Repeat("y", 196))
		table.Rows = append(table.Rows, row)
	}
	db := impl.Db{Tables: []impl.TableData{table}}
	cat := []impl.Item{col("c1")}
	for len(cat) < 99 {
		cat = append(cat, col("c2"), op(impl.OpCat))
	}
	length := append(slices.Clone(cat), op(impl.OpLen))
	stms := []impl.Stm{
		{Kind: impl.StmSelect, Table: "t", Outs: slices.Repeat([][]impl.Item{length}, 3), Where: length},
		{Kind: impl.StmSelect, Table: "t", Outs: [][]impl.Item{length, cat}, Where: length},
		{Kind: impl.StmUpdate, Table: "t", Col: "c19", Exp: cat, Where: length},
		{Kind: impl.StmUpdate, Table: "t", Col: "c0", Exp: []impl.Item{col("c19")}, Where: []impl.Item{col("c0"), txt("0001"), op(impl.OpLt)}},
		{Kind: impl.StmUpdate, Table: "t", Col: "c0", Exp: []impl.Item{col("c19")}},
		{Kind: impl.StmDelete, Table: "t", Where: []impl.Item{col("c0"), txt("0500"), op(impl.OpLt)}},
		{Kind: impl.StmDelete, Table: "t"},
		{Kind: impl.StmInsert, Table: "t", Values: slices.Repeat([]impl.Value{words("")}, 20)},
	}
	want := []int{impl.SqlOK, impl.SqlOK, impl.SqlBig, impl.SqlOK, impl.SqlKey, impl.SqlOK, impl.SqlOK, impl.SqlBig}
	for i, s := range stms {
		if _, code := askStm(t, db, s); code != want[i] {
			t.Errorf("%s: got %d, want %d", stmName(s), code, want[i])
		}
	}
}

func TestManyReplaysAtOnce(t *testing.T) {
	db := shelf()
	stms := []impl.Stm{}
	for _, sql := range []string{"update t set id = 9 - id", "delete from w where n < 3", "insert into none values (1, '')", "select n, word from w", "create table new (a int)", "update w set word = ''"} {
		stms = append(stms, parsed(t, sql))
	}
	var callers sync.WaitGroup
	for caller := range 8 {
		callers.Add(1)
		go func() {
			defer callers.Done()
			for i := range 100 {
				s := stms[(i+caller)%len(stms)]
				after, code := impl.ApplyStm(db, s)
				if want, wantCode := plainApply(db, s); code != wantCode || !sameDb(after, want) {
					t.Errorf("%s: %d", stmName(s), code)
				}
				rows, why := impl.SelectRows(db, s)
				if want, wantWhy := plainSelect(db, s); why != wantWhy || !sameRows(rows, want) {
					t.Errorf("%s: rows %d", stmName(s), why)
				}
			}
		}()
	}
	callers.Wait()
}
