package tests

import (
	"encoding/binary"
	"fmt"
	"math"
	"math/rand"
	"reflect"
	"regexp"
	"slices"
	"strings"
	"testing"

	"loop.example/s02884/impl"
)

var (
	plainKeywords = strings.Fields("create table insert into values update set delete from where select and or not len int text")
	plainWord     = regexp.MustCompile(`\A[a-z][a-z0-9_]{0,29}\z`)
	plainText     = regexp.MustCompile(`\A[ -~]{0,200}\z`)
)

// The operators by their number of operands, as the table of 4.1 has them.
var (
	singleOps = []int{impl.OpNot, impl.OpLen}
	doubleOps = []int{impl.OpAdd, impl.OpSub, impl.OpMul, impl.OpEq, impl.OpLt, impl.OpAnd, impl.OpOr, impl.OpCat}
)

var greatestNumbers = []int{0, 1, -1, 255, 256, -256, 65535, 1<<32 - 1, math.MaxInt, math.MaxInt - 1, -math.MaxInt, -math.MaxInt + 1}

// edgeTexts stand at the edges of what a text is.
var edgeTexts = []string{"", " ", "'", "''", "'''", "~", "a", "it's", "select", "--", "a'b'c", strings.Repeat("x", 200), strings.Repeat("'", 200), strings.Repeat(" ", 199)}

// edgeNames stand at the edges of what a name is; some begin or go on as a keyword does.
var edgeNames = []string{"a", "z", "t", "a0", "z9", "a_", "a__9", "selects", "selec", "ands", "text_", "int1", "lens", "nots", "or_", strings.Repeat("a", 30), "z" + strings.Repeat("_", 29), "q" + strings.Repeat("9", 29)}

var noNames = append([]string{"", "A", "_a", "9", "9a", "a b", "a-b", "aB", " a", "a ", "a\n", "\na", "a\x00", "ä", "a'", strings.Repeat("a", 31), strings.Repeat("a", 300)}, plainKeywords...)

var noTexts = []string{"\n", "\t", "\x1f", "\x7f", "\x00", "\xff", "ä", "a\nb", strings.Repeat("x", 201), strings.Repeat("x", 199) + "ä", strings.Repeat("x", 256), strings.Repeat("x", 70000)}

func plainName(s string) bool {
	return plainWord.MatchString(s) && !slices.Contains(plainKeywords, s)
}

func plainExp(items []impl.Item) bool {
	left := 0
	for _, item := range items {
		need := 0
		switch {
		case item.Op == impl.OpInt:
			if item.Num == math.MinInt || item.Text != "" {
				return false
			}
		case item.Op == impl.OpText:
			if item.Num != 0 || !plainText.MatchString(item.Text) {
				return false
			}
		case item.Op == impl.OpCol:
			if item.Num != 0 || !plainName(item.Text) {
				return false
			}
		case item.Num != 0 || item.Text != "":
			return false
		case slices.Contains(singleOps, item.Op):
			need = 1
		case slices.Contains(doubleOps, item.Op):
			need = 2
		default:
			return false
		}
		if left < need {
			return false
		}
		left += 1 - need
	}
	return left == 1 && len(items) <= 100
}

func plainStmOK(s impl.Stm) bool {
	ok := plainName(s.Table)
	condition := func() bool { return len(s.Where) == 0 || plainExp(s.Where) }
	used := map[string]bool{}
	switch s.Kind {
	case 1:
		used["Cols"] = true
		ok = ok && len(s.Cols) >= 1 && len(s.Cols) <= 20
		for _, col := range s.Cols {
			ok = ok && plainName(col.Name) && (col.Type == 1 || col.Type == 2)
		}
	case 2:
		used["Values"] = true
		ok = ok && len(s.Values) >= 1 && len(s.Values) <= 20
		for _, v := range s.Values {
			number := v.Type == 1 && v.Num != math.MinInt && v.Text == ""
			text := v.Type == 2 && v.Num == 0 && plainText.MatchString(v.Text)
			ok = ok && (number || text)
		}
	case 3:
		used["Col"], used["Exp"], used["Where"] = true, true, true
		ok = ok && plainName(s.Col) && plainExp(s.Exp) && condition()
	case 4:
		used["Where"] = true
		ok = ok && condition()
	case 5:
		used["Outs"], used["Where"] = true, true
		ok = ok && len(s.Outs) >= 1 && len(s.Outs) <= 20 && condition()
		for _, out := range s.Outs {
			ok = ok && plainExp(out)
		}
	default:
		return false
	}
	fields := reflect.ValueOf(s)
	for _, name := range []string{"Cols", "Values", "Col", "Exp", "Where", "Outs"} {
		ok = ok && (used[name] || fields.FieldByName(name).Len() == 0)
	}
	return ok
}

func plainItems(out []byte, items []impl.Item) []byte {
	out = binary.BigEndian.AppendUint16(out, uint16(len(items)))
	for _, item := range items {
		out = append(out, byte(item.Op))
		switch item.Op {
		case 1:
			out = binary.BigEndian.AppendUint64(out, uint64(item.Num))
		case 2:
			out = append(binary.BigEndian.AppendUint16(out, uint16(len(item.Text))), item.Text...)
		case 3:
			out = append(append(out, byte(len(item.Text))), item.Text...)
		}
	}
	return out
}

// plainBytes are the bytes of 4.2 for any statement, OK or not.
func plainBytes(s impl.Stm) string {
	out := append([]byte{byte(s.Kind), byte(len(s.Table))}, s.Table...)
	switch s.Kind {
	case 1:
		out = append(out, byte(len(s.Cols)))
		for _, col := range s.Cols {
			out = append(append(append(out, byte(len(col.Name))), col.Name...), byte(col.Type))
		}
	case 2:
		out = append(out, byte(len(s.Values)))
		for _, v := range s.Values {
			out = append(out, byte(v.Type))
			if v.Type == 1 {
				out = binary.BigEndian.AppendUint64(out, uint64(v.Num))
			} else {
				out = append(binary.BigEndian.AppendUint16(out, uint16(len(v.Text))), v.Text...)
			}
		}
	case 3:
		out = append(append(out, byte(len(s.Col))), s.Col...)
		out = plainItems(plainItems(out, s.Exp), s.Where)
	case 4:
		out = plainItems(out, s.Where)
	case 5:
		out = append(out, byte(len(s.Outs)))
		for _, items := range s.Outs {
			out = plainItems(out, items)
		}
		out = plainItems(out, s.Where)
	}
	return string(out)
}

// plainReader panics where the bytes are too few; plainDecode catches it.
type plainReader struct{ rest string }

func (r *plainReader) cut(n int) string {
	text := r.rest[:n]
	r.rest = r.rest[n:]
	return text
}

func (r *plainReader) one() int { return int(r.cut(1)[0]) }

func (r *plainReader) two() int { return r.one()<<8 + r.one() }

func (r *plainReader) items() (items []impl.Item) {
	for range r.two() {
		item := impl.Item{Op: r.one()}
		switch item.Op {
		case 1:
			item.Num = int(binary.BigEndian.Uint64([]byte(r.cut(8))))
		case 2:
			item.Text = r.cut(r.two())
		case 3:
			item.Text = r.cut(r.one())
		}
		items = append(items, item)
	}
	return items
}

func plainDecode(text string) (s impl.Stm, ok bool) {
	defer func() {
		if recover() != nil {
			s, ok = impl.Stm{}, false
		}
	}()
	r := &plainReader{text}
	s.Kind = r.one()
	s.Table = r.cut(r.one())
	switch s.Kind {
	case 1:
		for range r.one() {
			s.Cols = append(s.Cols, impl.Column{Name: r.cut(r.one()), Type: r.one()})
		}
	case 2:
		for range r.one() {
			v := impl.Value{Type: r.one()}
			if v.Type == 1 {
				v.Num = int(binary.BigEndian.Uint64([]byte(r.cut(8))))
			} else {
				v.Text = r.cut(r.two())
			}
			s.Values = append(s.Values, v)
		}
	case 3:
		s.Col = r.cut(r.one())
		s.Exp = r.items()
		s.Where = r.items()
	case 4:
		s.Where = r.items()
	case 5:
		for range r.one() {
			s.Outs = append(s.Outs, r.items())
		}
		s.Where = r.items()
	}
	if r.rest != "" || len(text) > 60000 || !plainStmOK(s) {
		return impl.Stm{}, false
	}
	return s, true
}

// sameStm takes an empty list and none for the same.
func sameStm(a, b impl.Stm) bool {
	sameOuts := slices.EqualFunc(a.Outs, b.Outs, func(x, y []impl.Item) bool { return slices.Equal(x, y) })
	return a.Kind == b.Kind && a.Table == b.Table && a.Col == b.Col && sameOuts && slices.Equal(a.Cols, b.Cols) &&
		slices.Equal(a.Values, b.Values) && slices.Equal(a.Exp, b.Exp) && slices.Equal(a.Where, b.Where)
}

func isZeroStm(s impl.Stm) bool {
	return sameStm(s, impl.Stm{})
}

// copyStm is a statement of the same value that shares no list with s; its lists have no room behind them.
func copyStm(s impl.Stm) impl.Stm {
	s.Cols, s.Values = slices.Clone(s.Cols), slices.Clone(s.Values)
	s.Exp, s.Where, s.Outs = slices.Clone(s.Exp), slices.Clone(s.Where), slices.Clone(s.Outs)
	for i := range s.Outs {
		s.Outs[i] = slices.Clone(s.Outs[i])
	}
	return s
}

func num(n int) impl.Item { return impl.Item{Op: impl.OpInt, Num: n} }

func txt(s string) impl.Item { return impl.Item{Op: impl.OpText, Text: s} }

func col(s string) impl.Item { return impl.Item{Op: impl.OpCol, Text: s} }

func op(n int) impl.Item { return impl.Item{Op: n} }

func pick[T any](source *rand.Rand, list []T) T {
	return list[source.Intn(len(list))]
}

func anyName(source *rand.Rand) string {
	if source.Intn(3) == 0 {
		return pick(source, edgeNames)
	}
	for {
		name := []byte{byte('a' + source.Intn(26))}
		for range source.Intn(30) {
			name = append(name, pick(source, []byte("abcxyz0189_")))
		}
		if plainName(string(name)) {
			return string(name)
		}
	}
}

func anyText(source *rand.Rand) string {
	if source.Intn(3) == 0 {
		return pick(source, edgeTexts)
	}
	text := make([]byte, source.Intn(12))
	for i := range text {
		text[i] = byte(32 + source.Intn(95))
		if source.Intn(4) == 0 {
			text[i] = '\''
		}
	}
	return string(text)
}

func anyNumber(source *rand.Rand) int {
	switch source.Intn(3) {
	case 0:
		return pick(source, greatestNumbers)
	case 1:
		return source.Intn(200) - 100
	}
	return max(int(source.Uint64()), -math.MaxInt)
}

// anyItems is an expression of just n items.
func anyItems(source *rand.Rand, n int) []impl.Item {
	if n == 1 {
		return []impl.Item{pick(source, []impl.Item{num(anyNumber(source)), txt(anyText(source)), col(anyName(source))})}
	}
	if n == 2 || source.Intn(4) == 0 {
		return append(anyItems(source, n-1), op(pick(source, singleOps)))
	}
	left := 1 + source.Intn(n-2)
	both := append(anyItems(source, left), anyItems(source, n-1-left)...)
	return append(both, op(pick(source, doubleOps)))
}

func anyLength(source *rand.Rand, most int) int {
	switch source.Intn(8) {
	case 0:
		return most
	case 1:
		return 1
	}
	return 1 + source.Intn(min(most, 9))
}

func anyCondition(source *rand.Rand) []impl.Item {
	if source.Intn(3) == 0 {
		return nil
	}
	return anyItems(source, anyLength(source, 100))
}

func anyStm(source *rand.Rand, kind int) impl.Stm {
	s := impl.Stm{Kind: kind, Table: anyName(source)}
	switch kind {
	case impl.StmCreate:
		for range anyLength(source, 20) {
			s.Cols = append(s.Cols, impl.Column{Name: anyName(source), Type: 1 + source.Intn(2)})
		}
	case impl.StmInsert:
		for range anyLength(source, 20) {
			v := impl.Value{Type: impl.TypeInt, Num: anyNumber(source)}
			if source.Intn(2) == 0 {
				v = impl.Value{Type: impl.TypeText, Text: anyText(source)}
			}
			s.Values = append(s.Values, v)
		}
	case impl.StmUpdate:
		s.Col, s.Exp, s.Where = anyName(source), anyItems(source, anyLength(source, 100)), anyCondition(source)
	case impl.StmDelete:
		s.Where = anyCondition(source)
	case impl.StmSelect:
		for range anyLength(source, 20) {
			s.Outs = append(s.Outs, anyItems(source, anyLength(source, 100)))
		}
		s.Where = anyCondition(source)
	}
	return s
}

// holders are OK statements of every kind with the expression at every place that one may stand at.
func holders(items []impl.Item) []impl.Stm {
	one := []impl.Item{num(1)}
	return []impl.Stm{
		{Kind: impl.StmUpdate, Table: "t", Col: "c", Exp: items},
		{Kind: impl.StmUpdate, Table: "t", Col: "c", Exp: one, Where: items},
		{Kind: impl.StmDelete, Table: "t", Where: items},
		{Kind: impl.StmSelect, Table: "t", Outs: [][]impl.Item{items}},
		{Kind: impl.StmSelect, Table: "t", Outs: [][]impl.Item{one, items, one}, Where: one},
		{Kind: impl.StmSelect, Table: "t", Outs: [][]impl.Item{one}, Where: items},
	}
}

// edgeItems are expressions at the edges: every operator, every leaf, and the most items in every shape.
func edgeItems() [][]impl.Item {
	all := [][]impl.Item{}
	for _, n := range greatestNumbers {
		all = append(all, []impl.Item{num(n)}, []impl.Item{num(1), num(n), op(impl.OpSub)})
	}
	for _, text := range edgeTexts {
		all = append(all, []impl.Item{txt(text)}, []impl.Item{txt(text), op(impl.OpLen)})
	}
	for _, name := range edgeNames {
		all = append(all, []impl.Item{col(name)})
	}
	for _, o := range singleOps {
		all = append(all, []impl.Item{col("a"), op(o)}, []impl.Item{col("a"), op(o), op(impl.OpNot), op(o)})
		row := []impl.Item{col("a")}
		for len(row) < 100 {
			row = append(row, op(o))
		}
		all = append(all, row)
	}
	for _, o := range doubleOps {
		for _, other := range doubleOps {
			all = append(all, []impl.Item{col("a"), num(-1), op(o), txt("x"), op(other)}, []impl.Item{col("a"), num(-1), txt("x"), op(o), op(other)})
		}
		left, right := []impl.Item{num(1)}, []impl.Item{num(-1)}
		for len(left) < 99 {
			left = append(left, num(2), op(o))
			right = append([]impl.Item{col("b")}, append(right, op(o))...)
		}
		all = append(all, left, right, append(slices.Clone(left), op(impl.OpNot)))
	}
	return all
}

func edgeStms() []impl.Stm {
	all := []impl.Stm{{Kind: impl.StmDelete, Table: "t"}, sizedStm(60000), sizedStm(60001)}
	for _, items := range edgeItems() {
		all = append(all, holders(items)...)
	}
	for _, name := range edgeNames {
		one := []impl.Item{num(1)}
		all = append(all,
			impl.Stm{Kind: impl.StmCreate, Table: name, Cols: []impl.Column{{Name: name, Type: 1}, {Name: name, Type: 2}}},
			impl.Stm{Kind: impl.StmInsert, Table: name, Values: []impl.Value{{Type: 1}}},
			impl.Stm{Kind: impl.StmUpdate, Table: name, Col: name, Exp: one},
			impl.Stm{Kind: impl.StmDelete, Table: name},
			impl.Stm{Kind: impl.StmSelect, Table: name, Outs: [][]impl.Item{one}})
	}
	for _, n := range []int{1, 2, 19, 20} {
		all = append(all,
			impl.Stm{Kind: impl.StmCreate, Table: "t", Cols: slices.Repeat([]impl.Column{{Name: strings.Repeat("c", 30), Type: 2}}, n)},
			impl.Stm{Kind: impl.StmInsert, Table: "t", Values: slices.Repeat([]impl.Value{{Type: 2, Text: strings.Repeat("'", 200)}}, n)},
			impl.Stm{Kind: impl.StmSelect, Table: "t", Outs: slices.Repeat([][]impl.Item{{txt(strings.Repeat("x", 200)), col("b"), op(impl.OpCat)}}, n)})
	}
	for _, n := range greatestNumbers {
		all = append(all, impl.Stm{Kind: impl.StmInsert, Table: "t", Values: []impl.Value{{Type: 1, Num: n}, {Type: 2}, {Type: 1, Num: -n}}})
	}
	for _, text := range edgeTexts {
		all = append(all, impl.Stm{Kind: impl.StmInsert, Table: "t", Values: []impl.Value{{Type: 2, Text: text}, {Type: 1, Num: 7}}})
	}
	return all
}

// okStms are the edges and as many statements again, found by a fixed source.
func okStms() []impl.Stm {
	all := edgeStms()
	source := rand.New(rand.NewSource(4))
	for i := range 1500 {
		all = append(all, anyStm(source, 1+i%5))
	}
	return all
}

func stmName(s impl.Stm) string {
	text := fmt.Sprintf("%+v", s)
	return text[:min(len(text), 300)]
}

func TestConstantsOfStatements(t *testing.T) {
	got := [][]int{
		{impl.MaxName, impl.MaxText, impl.MaxCols, impl.MaxItems, impl.MaxOuts, impl.MaxEntry, impl.MaxSql},
		{impl.TypeInt, impl.TypeText},
		{impl.StmCreate, impl.StmInsert, impl.StmUpdate, impl.StmDelete, impl.StmSelect},
		{impl.OpInt, impl.OpText, impl.OpCol, impl.OpAdd, impl.OpSub, impl.OpMul, impl.OpEq, impl.OpLt, impl.OpAnd, impl.OpOr, impl.OpNot, impl.OpCat, impl.OpLen},
		{impl.SqlLong, impl.SqlLex, impl.SqlSyntax, impl.SqlMany},
	}
	want := [][]int{{30, 200, 20, 100, 20, 60000, 20000}, {1, 2}, {1, 2, 3, 4, 5}, {1, 2, 3, 4, 5, 6, 7, 8, 9, 10, 11, 12, 13}, {30, 31, 32, 33}}
	if !reflect.DeepEqual(got, want) {
		t.Errorf("got %v, want %v", got, want)
	}
}

func TestStatementsThatAreOK(t *testing.T) {
	for _, s := range okStms() {
		if !plainStmOK(s) {
			t.Fatalf("the test's own: %s", stmName(s))
		}
		if !impl.StmOK(s) {
			t.Errorf("not OK: %s", stmName(s))
		}
		empties := copyStm(s)
		for _, list := range []*[]impl.Item{&empties.Exp, &empties.Where} {
			if len(*list) == 0 {
				*list = []impl.Item{}
			}
		}
		if len(s.Outs) == 0 {
			empties.Outs = [][]impl.Item{}
		}
		if len(s.Cols) == 0 {
			empties.Cols = []impl.Column{}
		}
		if len(s.Values) == 0 {
			empties.Values = []impl.Value{}
		}
		if !impl.StmOK(empties) || impl.EncodeStm(empties) != impl.EncodeStm(s) || impl.PrintSql(empties) != impl.PrintSql(s) {
			t.Errorf("an empty list isn't taken as none: %s", stmName(s))
		}
	}
}

func TestBytesOfStatements(t *testing.T) {
	for _, s := range okStms() {
		want := plainBytes(s)
		if len(want) > 60000 {
			want = ""
		}
		got := impl.EncodeStm(s)
		if got != want {
			t.Fatalf("%s: got %q, want %q", stmName(s), got, want)
		}
		if back, ok := impl.DecodeStm(want); want != "" && (!ok || !sameStm(back, s)) {
			t.Fatalf("%s: decoded %v %s", stmName(s), ok, stmName(back))
		}
	}
}

// askDecode holds DecodeStm against the plain reading, and against what EncodeStm writes.
func askDecode(t *testing.T, text string) bool {
	t.Helper()
	want, wantOK := plainDecode(text)
	got, ok := impl.DecodeStm(text)
	if ok != wantOK || !sameStm(got, want) {
		t.Errorf("%s.. of %d bytes: got %v %s, want %v %s", short(text), len(text), ok, stmName(got), wantOK, stmName(want))
	}
	if ok && impl.EncodeStm(got) != text {
		t.Errorf("%s.. of %d bytes: accepted, but another text is written", short(text), len(text))
	}
	return ok
}

func TestBytesThatAreNoStatement(t *testing.T) {
	accepted, refused := 0, 0
	count := func(ok bool) {
		if ok {
			accepted++
		} else {
			refused++
		}
	}
	for i, s := range okStms() {
		text := plainBytes(s)
		if len(text) > 150 || i%5 != 0 {
			continue
		}
		for at := range len(text) + 1 {
			count(askDecode(t, text[:at]))
			count(askDecode(t, text[at:]))
			count(askDecode(t, text[:at]+"\x01"+text[at:]))
		}
		for at := range len(text) {
			count(askDecode(t, text[:at]+text[at+1:]))
			for _, by := range []byte{1, 2, 3, 4, 8, 32, 128, 255} {
				changed := []byte(text)
				changed[at] ^= by
				count(askDecode(t, string(changed)))
			}
		}
		for b := range 256 {
			count(askDecode(t, text+string([]byte{byte(b)})))
			count(askDecode(t, string([]byte{byte(b)})+text))
		}
	}
	if accepted < 1000 || refused < 1000 {
		t.Errorf("%d accepted, %d refused: the test asks too little", accepted, refused)
	}
}

func TestEveryByteAtEveryPlace(t *testing.T) {
	for _, sql := range []string{"create table t (a int, b text)", "insert into t values (1, 'x')", "update t set a = not a where b", "delete from t where a = 1", "select a, 'x' from t where len(b)"} {
		s, code, _ := impl.ParseSql(sql)
		if code != 0 {
			t.Fatal(sql, code)
		}
		text := plainBytes(s)
		for at := range len(text) {
			for b := range 256 {
				changed := []byte(text)
				changed[at] = byte(b)
				askDecode(t, string(changed))
			}
		}
	}
}

func TestBytesOfAnySort(t *testing.T) {
	askDecode(t, "")
	for a := range 256 {
		for b := range 256 {
			askDecode(t, string([]byte{byte(a), byte(b)}))
		}
	}
	// These say that far more will come than does.
	for kind := range 7 {
		for _, tail := range []string{"\xff", "\xff\xff\xff\xff", "\x01t\xff", "\x01t\xff\xff\xff\xff", "\x01t\x01c\xff\xff", "\x01t\x01c\xff\xff\x04\x04\x04", "\x01t\x00", "\x01t\x00\x00", "\x00\x00\x00"} {
			askDecode(t, string([]byte{byte(kind)})+tail)
			askDecode(t, string([]byte{byte(kind)})+tail+strings.Repeat("\x04", 59000))
			askDecode(t, string([]byte{byte(kind)})+tail+strings.Repeat("\xff", 70000))
		}
	}
	for seed := range 3000 {
		askDecode(t, string([]byte{byte(1 + seed%5), 1, 't'})+mixed(seed%60, seed))
	}
	for _, n := range edgeLengths {
		askDecode(t, mixed(n, n))
	}
	if s, ok := impl.DecodeStm(strings.Repeat("\x05", 5000000)); ok || !isZeroStm(s) {
		t.Errorf("five million bytes: %v %s", ok, stmName(s))
	}
}

// A wrongStm has one thing wrong.
type wrongStm struct {
	what string
	stm  impl.Stm
}

func wrongItems() map[string][]impl.Item {
	a, b := col("a"), num(1)
	wrong := map[string][]impl.Item{
		"two results":              {a, b},
		"two results behind one":   {a, b, op(impl.OpAdd), b},
		"three results":            {a, b, a, b, op(impl.OpEq)},
		"101 items":                append(append([]impl.Item{}, slices.Repeat([]impl.Item{a}, 51)...), slices.Repeat([]impl.Item{op(impl.OpAdd)}, 50)...),
		"101 negations":            append([]impl.Item{a}, slices.Repeat([]impl.Item{op(impl.OpNot)}, 100)...),
		"the least number":         {num(math.MinInt)},
		"the least number, deeper": {b, num(math.MinInt), op(impl.OpAdd)},
		"a number with a text":     {{Op: impl.OpInt, Num: 1, Text: "x"}},
		"a text with a number":     {{Op: impl.OpText, Num: 1, Text: "x"}},
		"a column with a number":   {{Op: impl.OpCol, Num: 1, Text: "a"}},
	}
	for _, o := range []int{0, -1, 14, 15, 255, 256, 257, 260, -243, 1 << 40, 1<<40 + 4, math.MaxInt, math.MinInt} {
		wrong[fmt.Sprint("operator ", o)] = []impl.Item{{Op: o}}
		wrong[fmt.Sprint("operator ", o, " behind one")] = []impl.Item{a, {Op: o}}
		wrong[fmt.Sprint("operator ", o, " behind two")] = []impl.Item{a, b, {Op: o}}
	}
	for _, o := range append(slices.Clone(singleOps), doubleOps...) {
		name := fmt.Sprint("operator ", o)
		wrong[name+" without operands"] = []impl.Item{op(o)}
		wrong[name+" ahead of its operands"] = []impl.Item{op(o), a, b}
		wrong[name+" with a number"] = []impl.Item{a, b, {Op: o, Num: 1}}
		wrong[name+" with a text"] = []impl.Item{a, b, {Op: o, Text: "x"}}
		wrong[name+" of one, with a number"] = []impl.Item{a, {Op: o, Num: 1}}
		wrong[name+" of one, with a text"] = []impl.Item{a, {Op: o, Text: "x"}}
	}
	for _, o := range doubleOps {
		wrong[fmt.Sprint("operator ", o, " with one operand")] = []impl.Item{a, op(o)}
		wrong[fmt.Sprint("operator ", o, " between its operands")] = []impl.Item{a, op(o), b}
		wrong[fmt.Sprint("operator ", o, " one time too many")] = []impl.Item{a, b, op(o), op(o)}
	}
	for _, o := range singleOps {
		wrong[fmt.Sprint("operator ", o, " with two operands")] = []impl.Item{a, b, op(o)}
	}
	for i, name := range noNames {
		wrong[fmt.Sprintf("column %d %.40q", i, name)] = []impl.Item{col(name)}
		wrong[fmt.Sprintf("left column %d %.40q", i, name)] = []impl.Item{col(name), a, op(impl.OpOr)}
		wrong[fmt.Sprintf("right column %d %.40q", i, name)] = []impl.Item{a, col(name), op(impl.OpOr)}
		wrong[fmt.Sprintf("negated column %d %.40q", i, name)] = []impl.Item{col(name), op(impl.OpNot)}
	}
	for i, text := range noTexts {
		wrong[fmt.Sprintf("text %d %.40q", i, text)] = []impl.Item{txt(text)}
		wrong[fmt.Sprintf("right text %d %.40q", i, text)] = []impl.Item{a, txt(text), op(impl.OpCat)}
	}
	return wrong
}

// filledFields are the statement with, one at a time, each field filled that its kind doesn't name.
func filledFields(s impl.Stm) []wrongStm {
	all := []wrongStm{}
	add := func(what string, empty bool, fill func(*impl.Stm)) {
		if empty {
			filled := copyStm(s)
			fill(&filled)
			all = append(all, wrongStm{fmt.Sprint(what, " filled, kind ", s.Kind), filled})
		}
	}
	one := []impl.Item{num(1)}
	named := map[int]string{1: "Cols", 2: "Values", 3: "Col Exp Where", 4: "Where", 5: "Outs Where"}[s.Kind]
	add("Cols", !strings.Contains(named, "Cols"), func(s *impl.Stm) { s.Cols = []impl.Column{{Name: "a", Type: 1}} })
	add("Values", !strings.Contains(named, "Values"), func(s *impl.Stm) { s.Values = []impl.Value{{Type: 1, Num: 1}} })
	add("Col", !strings.HasPrefix(named, "Col "), func(s *impl.Stm) { s.Col = "a" })
	add("Exp", !strings.Contains(named, "Exp"), func(s *impl.Stm) { s.Exp = one })
	add("Where", !strings.Contains(named, "Where"), func(s *impl.Stm) { s.Where = one })
	add("Outs", !strings.Contains(named, "Outs"), func(s *impl.Stm) { s.Outs = [][]impl.Item{one} })
	add("Outs with an empty one", !strings.Contains(named, "Outs"), func(s *impl.Stm) { s.Outs = [][]impl.Item{{}} })
	return all
}

func wrongStms() []wrongStm {
	one := []impl.Item{num(1)}
	create := impl.Stm{Kind: impl.StmCreate, Table: "t", Cols: []impl.Column{{Name: "a", Type: 1}, {Name: "b", Type: 2}}}
	insert := impl.Stm{Kind: impl.StmInsert, Table: "t", Values: []impl.Value{{Type: 1, Num: 1}, {Type: 2, Text: "x"}}}
	update := impl.Stm{Kind: impl.StmUpdate, Table: "t", Col: "a", Exp: one, Where: one}
	remove := impl.Stm{Kind: impl.StmDelete, Table: "t", Where: one}
	choose := impl.Stm{Kind: impl.StmSelect, Table: "t", Outs: [][]impl.Item{one}, Where: one}
	all := []wrongStm{{"nothing", impl.Stm{}}, {"no Cols", impl.Stm{Kind: 1, Table: "t"}}, {"no Values", impl.Stm{Kind: 2, Table: "t"}},
		{"no Exp", impl.Stm{Kind: 3, Table: "t", Col: "a"}}, {"no Col", impl.Stm{Kind: 3, Table: "t", Exp: one}}, {"no Outs", impl.Stm{Kind: 5, Table: "t"}},
		{"an empty one of Outs", impl.Stm{Kind: 5, Table: "t", Outs: [][]impl.Item{one, {}}}}, {"only empty ones of Outs", impl.Stm{Kind: 5, Table: "t", Outs: [][]impl.Item{nil}}}}
	add := func(what string, s impl.Stm, change func(*impl.Stm)) {
		changed := copyStm(s)
		change(&changed)
		all = append(all, wrongStm{what, changed})
	}
	for _, s := range []impl.Stm{create, insert, update, remove, choose} {
		all = append(all, filledFields(s)...)
		for _, name := range noNames {
			add(fmt.Sprintf("table %.40q, kind %d", name, s.Kind), s, func(s *impl.Stm) { s.Table = name })
		}
		for _, kind := range []int{0, -1, 6, 7, 255, 256, 257, 258, 261, 1 << 32, 1<<32 + 1, math.MaxInt, math.MinInt} {
			add(fmt.Sprint("kind ", kind), s, func(s *impl.Stm) { s.Kind = kind })
		}
	}
	for _, name := range noNames {
		add(fmt.Sprintf("column %.40q", name), create, func(s *impl.Stm) { s.Cols[1].Name = name })
		add(fmt.Sprintf("set column %.40q", name), update, func(s *impl.Stm) { s.Col = name })
	}
	for _, kind := range []int{0, 3, -1, 255, 257, 258, 1<<32 + 1, math.MinInt} {
		add(fmt.Sprint("column type ", kind), create, func(s *impl.Stm) { s.Cols[0].Type = kind })
		add(fmt.Sprint("value type ", kind), insert, func(s *impl.Stm) { s.Values[0] = impl.Value{Type: kind} })
		add(fmt.Sprint("value type ", kind, " with a text"), insert, func(s *impl.Stm) { s.Values[1].Type = kind })
	}
	for _, text := range noTexts {
		add(fmt.Sprintf("value %.40q", text), insert, func(s *impl.Stm) { s.Values[1].Text = text })
	}
	add("the least number", insert, func(s *impl.Stm) { s.Values[0].Num = math.MinInt })
	add("a number with a text", insert, func(s *impl.Stm) { s.Values[0].Text = "x" })
	add("a text with a number", insert, func(s *impl.Stm) { s.Values[1].Num = 1 })
	add("a text with a number below 0", insert, func(s *impl.Stm) { s.Values[1].Num = -1 })
	for _, n := range []int{21, 22, 255, 256, 257, 276, 5000} {
		add(fmt.Sprint(n, " Cols"), create, func(s *impl.Stm) { s.Cols = slices.Repeat(s.Cols[:1], n) })
		add(fmt.Sprint(n, " Values"), insert, func(s *impl.Stm) { s.Values = slices.Repeat(s.Values[:1], n) })
		add(fmt.Sprint(n, " Outs"), choose, func(s *impl.Stm) { s.Outs = slices.Repeat(s.Outs[:1], n) })
	}
	for what, items := range wrongItems() {
		for _, s := range holders(items) {
			all = append(all, wrongStm{fmt.Sprint(what, ", kind ", s.Kind), s})
		}
	}
	return all
}

func TestStatementsWithOneThingWrong(t *testing.T) {
	for _, wrong := range wrongStms() {
		if plainStmOK(wrong.stm) {
			t.Fatalf("the test's own: %s", wrong.what)
		}
		if impl.StmOK(wrong.stm) {
			t.Errorf("OK: %s", wrong.what)
		}
		if got := impl.EncodeStm(wrong.stm); got != "" {
			t.Errorf("encoded: %s", wrong.what)
		}
		if got := impl.PrintSql(wrong.stm); got != "" {
			t.Errorf("printed: %s: %.100s", wrong.what, got)
		}
		askDecode(t, plainBytes(wrong.stm))
	}
}

// sizedStm is an OK statement of just n bytes, for n around 60000.
func sizedStm(n int) impl.Stm {
	s := impl.Stm{Kind: impl.StmSelect, Table: "t"}
	full := []impl.Item{txt(strings.Repeat("x", 200))}
	for len(full) < 99 {
		full = append(full, txt(strings.Repeat("y", 200)), op(impl.OpCat))
	}
	s.Outs = slices.Repeat([][]impl.Item{full}, 5)
	last := []impl.Item{txt("")}
	// What is left is for the last texts, each with its head and its operator.
	for left := n - len(plainBytes(s)) - 5; left > 0; {
		size := min(left-4, 200)
		if left > 204 && left < 208 {
			size = 100
		}
		last = append(last, txt(strings.Repeat("z", size)), op(impl.OpCat))
		left -= size + 4
	}
	s.Outs = append(s.Outs, last)
	return s
}

func TestBytesAtMaxEntry(t *testing.T) {
	for n := 59900; n <= 60100; n++ {
		s := sizedStm(n)
		text := plainBytes(s)
		if len(text) != n || !plainStmOK(s) {
			t.Fatalf("the test's own: %d bytes, not %d", len(text), n)
		}
		if !impl.StmOK(s) {
			t.Fatalf("%d bytes: not OK", n)
		}
		want := text
		if n > 60000 {
			want = ""
		}
		if got := impl.EncodeStm(s); got != want {
			t.Errorf("%d bytes: %d are written", n, len(got))
		}
		back, ok := impl.DecodeStm(text)
		if ok != (n <= 60000) || ok && !sameStm(back, s) || !ok && !isZeroStm(back) {
			t.Errorf("%d bytes: decoded %v", n, ok)
		}
		if impl.PrintSql(s) == "" {
			t.Errorf("%d bytes: not printed", n)
		}
	}
}
