package tests

import (
	"bytes"
	"fmt"
	"math"
	"reflect"
	"slices"
	"strings"
	"testing"

	"loop.example/s02884/impl"
)

func whole(n int) impl.Value { return impl.Value{Type: impl.TypeInt, Num: n} }

func words(s string) impl.Value { return impl.Value{Type: impl.TypeText, Text: s} }

// plainKeyLess compares two keys of one type.
func plainKeyLess(a, b impl.Value) bool {
	if a.Type == 1 {
		return a.Num < b.Num
	}
	return bytes.Compare([]byte(a.Text), []byte(b.Text)) < 0
}

func plainTableOK(table impl.TableData) bool {
	if !plainName(table.Name) || len(table.Cols) < 1 || len(table.Cols) > 20 || len(table.Rows) > 1000 {
		return false
	}
	for i, c := range table.Cols {
		if !plainName(c.Name) || c.Type != 1 && c.Type != 2 {
			return false
		}
		for _, other := range table.Cols[:i] {
			if other.Name == c.Name {
				return false
			}
		}
	}
	for i, row := range table.Rows {
		if len(row) != len(table.Cols) {
			return false
		}
		for j, v := range row {
			number := v.Type == 1 && v.Text == ""
			text := v.Type == 2 && v.Num == 0 && plainText.MatchString(v.Text)
			if v.Type != table.Cols[j].Type || !number && !text {
				return false
			}
		}
		if i > 0 && !plainKeyLess(table.Rows[i-1][0], row[0]) {
			return false
		}
	}
	return true
}

func plainDbOK(db impl.Db) bool {
	for i, table := range db.Tables {
		if !plainTableOK(table) || i > 0 && bytes.Compare([]byte(db.Tables[i-1].Name), []byte(table.Name)) >= 0 {
			return false
		}
	}
	return len(db.Tables) <= 100
}

func copyRows(rows [][]impl.Value) [][]impl.Value {
	rows = slices.Clone(rows)
	for i := range rows {
		rows[i] = slices.Clone(rows[i])
	}
	return rows
}

// copyDb are tables of the same value that share no list with db.
func copyDb(db impl.Db) impl.Db {
	tables := slices.Clone(db.Tables)
	for i := range tables {
		tables[i].Cols, tables[i].Rows = slices.Clone(tables[i].Cols), copyRows(tables[i].Rows)
	}
	return impl.Db{Tables: tables}
}

func sameRows(a, b [][]impl.Value) bool {
	return slices.EqualFunc(a, b, func(x, y []impl.Value) bool { return slices.Equal(x, y) })
}

// sameDb takes an empty list and none for the same.
func sameDb(a, b impl.Db) bool {
	return slices.EqualFunc(a.Tables, b.Tables, func(x, y impl.TableData) bool {
		return x.Name == y.Name && slices.Equal(x.Cols, y.Cols) && sameRows(x.Rows, y.Rows)
	})
}

func dbName(db impl.Db) string {
	text := fmt.Sprintf("%+v", db)
	return text[:min(len(text), 600)]
}

func rowsName(rows [][]impl.Value) string {
	return dbName(impl.Db{Tables: []impl.TableData{{Rows: rows}}})
}

// roomyDb are the same tables with room behind each list, filled with what has no place there.
func roomyDb(db impl.Db) impl.Db {
	db = copyDb(db)
	for i := range db.Tables {
		table := &db.Tables[i]
		for j, row := range table.Rows {
			table.Rows[j] = append(row, whole(-7), words("room"))[:len(row)]
		}
		table.Rows = append(table.Rows, []impl.Value{words("room")}, nil)[:len(table.Rows)]
		table.Cols = append(table.Cols, impl.Column{Name: "room", Type: -7})[:len(table.Cols)]
	}
	db.Tables = append(db.Tables, impl.TableData{Name: "room"})[:len(db.Tables)]
	return db
}

// wholeDb copies all that the lists of the tables hold, up to their capacity.
func wholeDb(db impl.Db) impl.Db {
	tables := slices.Clone(db.Tables[:cap(db.Tables)])
	for i := range tables {
		table := &tables[i]
		table.Cols, table.Rows = slices.Clone(table.Cols[:cap(table.Cols)]), slices.Clone(table.Rows[:cap(table.Rows)])
		for j, row := range table.Rows {
			table.Rows[j] = slices.Clone(row[:cap(row)])
		}
	}
	return impl.Db{Tables: tables}
}

// numberRows are n rows of one integer each, from 0 on.
func numberRows(n int) [][]impl.Value {
	rows := [][]impl.Value{}
	for i := range n {
		rows = append(rows, []impl.Value{whole(i)})
	}
	return rows
}

// manyTables are n tables with names that are sorted.
func manyTables(n int) impl.Db {
	db := impl.Db{}
	for i := range n {
		db.Tables = append(db.Tables, impl.TableData{Name: fmt.Sprintf("m%03d", i), Cols: []impl.Column{{Name: "a", Type: 1}}})
	}
	return db
}

func manyCols(n int) []impl.Column {
	cols := []impl.Column{}
	for i := range n {
		cols = append(cols, impl.Column{Name: fmt.Sprint("c", i), Type: 1})
	}
	return cols
}

// shelf are the tables at which most is asked: a key that is an integer, one that is a text, and no rows.
func shelf() impl.Db {
	return impl.Db{Tables: []impl.TableData{
		{Name: "none", Cols: []impl.Column{{Name: "id", Type: 1}, {Name: "name", Type: 2}}},
		{Name: "t", Cols: []impl.Column{{Name: "id", Type: 1}, {Name: "name", Type: 2}, {Name: "n", Type: 1}}, Rows: [][]impl.Value{
			{whole(1), words("a"), whole(10)}, {whole(2), words(""), whole(math.MinInt)}, {whole(4), words(strings.Repeat("x", 150)), whole(0)}}},
		{Name: "w", Cols: []impl.Column{{Name: "word", Type: 2}, {Name: "n", Type: 1}}, Rows: [][]impl.Value{
			{words(""), whole(1)}, {words("B"), whole(2)}, {words("a"), whole(3)}, {words("aa"), whole(4)}, {words("b"), whole(5)}}},
	}}
}

// edgeDbs are tables that are right, at the edges of what is.
func edgeDbs() map[string]impl.Db {
	one := func(table impl.TableData) impl.Db { return impl.Db{Tables: []impl.TableData{table}} }
	id := []impl.Column{{Name: "id", Type: 1}}
	key := []impl.Column{{Name: "id", Type: 2}}
	all := map[string]impl.Db{
		"no tables":           {},
		"an empty list":       {Tables: []impl.TableData{}},
		"the shelf":           shelf(),
		"an empty list, rows": one(impl.TableData{Name: "t", Cols: id, Rows: [][]impl.Value{}}),
		"the most rows":       one(impl.TableData{Name: "t", Cols: id, Rows: numberRows(1000)}),
		"the most tables":     manyTables(100),
		"the most columns":    one(impl.TableData{Name: "t", Cols: manyCols(20), Rows: [][]impl.Value{slices.Repeat([]impl.Value{whole(7)}, 20)}}),
		"the least integers":  one(impl.TableData{Name: "t", Cols: id, Rows: [][]impl.Value{{whole(math.MinInt)}, {whole(math.MinInt + 1)}, {whole(-1)}, {whole(0)}, {whole(math.MaxInt)}}}),
		"texts at the edges":  one(impl.TableData{Name: "t", Cols: key, Rows: [][]impl.Value{{words("")}, {words(" ")}, {words(strings.Repeat("~", 199))}, {words(strings.Repeat("~", 200))}}}),
		"numbers as texts":    one(impl.TableData{Name: "t", Cols: key, Rows: [][]impl.Value{{words("10")}, {words("9")}, {words("A")}, {words("_")}, {words("a")}}}),
		"a value twice": one(impl.TableData{Name: "t", Cols: []impl.Column{{Name: "a", Type: 1}, {Name: "b", Type: 1}}, Rows: [][]impl.Value{
			{whole(1), whole(5)}, {whole(2), whole(5)}, {whole(3), whole(1)}}}),
	}
	names := slices.Clone(edgeNames)
	slices.Sort(names)
	db := impl.Db{}
	for _, name := range names {
		db.Tables = append(db.Tables, impl.TableData{Name: name, Cols: []impl.Column{{Name: name, Type: 2}}})
	}
	all["names at the edges"] = db
	return all
}

// wrongDbs are tables with one thing wrong.
func wrongDbs() map[string]impl.Db {
	all := map[string]impl.Db{}
	add := func(what string, change func(*impl.Db)) {
		db := shelf()
		change(&db)
		all[what] = db
	}
	cell := func(what string, table, row, col int, v impl.Value) {
		add(what, func(db *impl.Db) { db.Tables[table].Rows[row][col] = v })
	}
	add("two tables out of order", func(db *impl.Db) { db.Tables[0], db.Tables[1] = db.Tables[1], db.Tables[0] })
	add("the last tables out of order", func(db *impl.Db) { db.Tables[2], db.Tables[1] = db.Tables[1], db.Tables[2] })
	add("one table twice", func(db *impl.Db) { db.Tables = append(db.Tables, db.Tables[2]) })
	add("one name twice", func(db *impl.Db) { db.Tables[1].Name = "none" })
	add("a beginning behind the longer", func(db *impl.Db) { db.Tables[1].Name = "non" })
	for _, name := range noNames {
		add(fmt.Sprintf("table %.40q", name), func(db *impl.Db) { db.Tables = db.Tables[1:2]; db.Tables[0].Name = name })
		add(fmt.Sprintf("key column %.40q", name), func(db *impl.Db) { db.Tables[0].Cols[0].Name = name })
		add(fmt.Sprintf("column %.40q", name), func(db *impl.Db) { db.Tables[1].Cols[2].Name = name })
	}
	add("two columns with one name", func(db *impl.Db) { db.Tables[1].Cols[2].Name = "id" })
	add("two columns with one name, no rows", func(db *impl.Db) { db.Tables[0].Cols[1].Name = "id" })
	add("neighbours with one name", func(db *impl.Db) { db.Tables[1].Cols[2].Name = "name" })
	add("no column", func(db *impl.Db) { db.Tables[0].Cols = nil })
	add("no column and empty rows", func(db *impl.Db) { db.Tables[0].Cols, db.Tables[0].Rows = nil, [][]impl.Value{{}} })
	add("21 columns", func(db *impl.Db) { db.Tables[0].Cols = manyCols(21) })
	add("300 columns", func(db *impl.Db) { db.Tables[0].Cols = manyCols(300) })
	for _, kind := range []int{0, 3, -1, 255, 257, 258, 1<<32 + 1, math.MinInt} {
		add(fmt.Sprint("a column's type ", kind), func(db *impl.Db) { db.Tables[0].Cols[1].Type = kind })
		add(fmt.Sprint("the key's type ", kind), func(db *impl.Db) { db.Tables[0].Cols[0].Type = kind })
		add(fmt.Sprint("a column's type and its value's ", kind), func(db *impl.Db) {
			db.Tables[1].Cols[2].Type = kind
			for _, row := range db.Tables[1].Rows {
				row[2] = impl.Value{Type: kind}
			}
		})
		cell(fmt.Sprint("a value's type ", kind), 1, 1, 0, impl.Value{Type: kind, Num: 2})
	}
	add("a value less", func(db *impl.Db) { db.Tables[1].Rows[2] = db.Tables[1].Rows[2][:2] })
	add("a value more", func(db *impl.Db) { db.Tables[1].Rows[0] = append(db.Tables[1].Rows[0], whole(1)) })
	add("an empty row", func(db *impl.Db) { db.Tables[1].Rows[0] = nil })
	add("an empty row last", func(db *impl.Db) { db.Tables[1].Rows = append(db.Tables[1].Rows, []impl.Value{}) })
	cell("a text for an integer", 1, 2, 2, words("x"))
	cell("an integer for a text", 1, 0, 1, whole(1))
	cell("a text for an integer key", 1, 2, 0, words("x"))
	cell("an integer for a text key", 2, 0, 0, whole(0))
	cell("Num beside a text", 1, 0, 1, impl.Value{Type: 2, Num: 1, Text: "a"})
	cell("Num below 0 beside a text", 1, 0, 1, impl.Value{Type: 2, Num: math.MinInt, Text: "a"})
	cell("Num beside an empty text", 1, 1, 1, impl.Value{Type: 2, Num: -1})
	cell("Num beside a text key", 2, 4, 0, impl.Value{Type: 2, Num: 9, Text: "b"})
	cell("Text beside a number", 1, 0, 2, impl.Value{Type: 1, Num: 10, Text: "x"})
	cell("Text beside the least number", 1, 1, 2, impl.Value{Type: 1, Num: math.MinInt, Text: "x"})
	cell("Text beside a key", 1, 2, 0, impl.Value{Type: 1, Num: 4, Text: "x"})
	for _, text := range noTexts {
		cell(fmt.Sprintf("text %.40q of %d bytes", text, len(text)), 1, 1, 1, words(text))
		cell(fmt.Sprintf("key %.40q of %d bytes", text, len(text)), 2, 4, 0, words("b"+text))
	}
	cell("one key twice", 1, 1, 0, whole(1))
	cell("one key twice at the end", 1, 2, 0, whole(2))
	cell("keys out of order", 1, 2, 0, whole(-4))
	cell("the least key last", 1, 2, 0, whole(math.MinInt))
	cell("one text key twice", 2, 1, 0, words(""))
	cell("one longer text key twice", 2, 3, 0, words("a"))
	cell("text keys out of order", 2, 4, 0, words("A"))
	cell("a beginning of a key behind it", 2, 4, 0, words("a"))
	add("text keys in the order of numbers", func(db *impl.Db) {
		db.Tables[2].Rows = [][]impl.Value{{words("9"), whole(1)}, {words("10"), whole(2)}}
	})
	add("integer keys in the order of texts", func(db *impl.Db) {
		db.Tables[1].Rows = [][]impl.Value{{whole(10), words(""), whole(1)}, {whole(9), words(""), whole(2)}}
	})
	add("1001 rows", func(db *impl.Db) {
		*db = impl.Db{Tables: []impl.TableData{{Name: "t", Cols: manyCols(1), Rows: numberRows(1001)}}}
	})
	add("101 tables", func(db *impl.Db) { *db = manyTables(101) })
	add("only a name", func(db *impl.Db) { *db = impl.Db{Tables: []impl.TableData{{Name: "t"}}} })
	add("nothing but zeros", func(db *impl.Db) { *db = impl.Db{Tables: []impl.TableData{{}}} })
	return all
}

func TestConstantsOfReplay(t *testing.T) {
	got := []int{impl.MaxTables, impl.MaxRows, impl.SqlOK, impl.SqlTable, impl.SqlExists, impl.SqlColumn, impl.SqlType, impl.SqlKey, impl.SqlBig, impl.SqlShape}
	want := []int{100, 1000, 0, 1, 2, 3, 4, 5, 6, 7}
	if !slices.Equal(got, want) {
		t.Errorf("got %v, want %v", got, want)
	}
}

// askDb asks DbOK, and that the tables are as they were afterwards.
func askDb(t *testing.T, what string, db impl.Db, want bool) {
	t.Helper()
	given := roomyDb(db)
	before := wholeDb(given)
	if plainDbOK(db) != want {
		t.Fatalf("the test's own: %s", what)
	}
	if impl.DbOK(db) != want || impl.DbOK(given) != want {
		t.Errorf("%s: not %v", what, want)
	}
	if !reflect.DeepEqual(wholeDb(given), before) {
		t.Errorf("%s: changed", what)
	}
}

func TestTablesThatAreOK(t *testing.T) {
	for what, db := range edgeDbs() {
		askDb(t, what, db, true)
	}
}

func TestTablesWithOneThingWrong(t *testing.T) {
	for what, db := range wrongDbs() {
		askDb(t, what, db, false)
	}
}

// The wrong thing is found wherever it stands among tables and rows that are right.
func TestTablesWithOneThingWrongAnywhere(t *testing.T) {
	for _, at := range []int{0, 1, 49, 98, 99} {
		db := manyTables(100)
		db.Tables[at].Rows = numberRows(1000)
		askDb(t, "many rows", db, true)
		for _, row := range []int{0, 1, 500, 999} {
			changed := copyDb(db)
			changed.Tables[at].Rows[row][0].Text = "x"
			askDb(t, fmt.Sprint("table ", at, " row ", row, " with a text"), changed, false)
			changed.Tables[at].Rows[row][0] = whole(row - 1)
			askDb(t, fmt.Sprint("table ", at, " row ", row, " with the key before"), changed, row == 0)
		}
		db.Tables[at].Cols[0].Type = 3
		askDb(t, fmt.Sprint("table ", at, " with a type of 3"), db, false)
	}
}

func TestStatementsOnTablesWithOneThingWrong(t *testing.T) {
	stms := []impl.Stm{{}}
	for _, sql := range []string{"create table new (a int)", "insert into t values (9, 'x', 1)", "update t set n = 1", "delete from t", "delete from gone", "select id from t", "select zz from gone"} {
		stms = append(stms, parsed(t, sql))
	}
	for what, db := range wrongDbs() {
		for _, s := range stms {
			after, code := askStm(t, db, s)
			rows, why := impl.SelectRows(db, s)
			if code != impl.SqlShape || len(after.Tables) != 0 || why != impl.SqlShape || len(rows) != 0 {
				t.Errorf("%s: %s: %d %s, %d %s", what, stmName(s), code, dbName(after), why, rowsName(rows))
			}
		}
	}
}
