package tests

import (
	"fmt"
	"math"
	"math/rand"
	"slices"
	"testing"

	"loop.example/s02884/impl"
)

// A plainCandidate also tells which of the document's sentences gave it.
type plainCandidate struct {
	rule, x, y string
}

func plainDiffer(rule, x, y string) *plainCandidate {
	if x == y {
		return nil
	}
	return &plainCandidate{rule, x, y}
}

func plainPair(kind int, c *plainCandidate) impl.Pair {
	if c == nil || plainDigest(kind, c.x) != plainDigest(kind, c.y) {
		return impl.Pair{}
	}
	return impl.Pair{Found: true, X: c.x, Y: c.y}
}

// plainTop is 1, the root of the first k and the root of the others.
func plainTop(kind int, entries []string, k int) string {
	return "\x01" + plainRoot(kind, entries[:k]) + plainRoot(kind, entries[k:])
}

func plainDownPath(kind int, entries []string, entry string, i int, path []string) *plainCandidate {
	n := len(entries)
	if n == 1 {
		return plainDiffer("leaf", "\x00"+entry, "\x00"+entries[0])
	}
	y, z, k := path[:len(path)-1], path[len(path)-1], plainSplit(n)
	if i < k {
		c, _ := plainPathClaim(kind, entry, i, k, y)
		if found := plainDiffer("left", "\x01"+c+z, plainTop(kind, entries, k)); found != nil {
			return found
		}
		return plainDownPath(kind, entries[:k], entry, i, y)
	}
	c, _ := plainPathClaim(kind, entry, i-k, n-k, y)
	if found := plainDiffer("right", "\x01"+z+c, plainTop(kind, entries, k)); found != nil {
		return found
	}
	return plainDownPath(kind, entries[k:], entry, i-k, y)
}

func plainCompare(kind int, a, b []string) *plainCandidate {
	n := len(a)
	if slices.Equal(a, b) {
		return nil
	}
	if n == 1 {
		return plainDiffer("compared leaf", "\x00"+a[0], "\x00"+b[0])
	}
	k := plainSplit(n)
	if found := plainDiffer("compared node", plainTop(kind, a, k), plainTop(kind, b, k)); found != nil {
		return found
	}
	if found := plainCompare(kind, a[:k], b[:k]); found != nil {
		return found
	}
	return plainCompare(kind, a[k:], b[k:])
}

func plainStep(kind int, old string, a, b, proof []string, f bool) *plainCandidate {
	m, n := len(a), len(b)
	if m == n {
		return plainCompare(kind, a, b)
	}
	y, z, k := proof[:len(proof)-1], proof[len(proof)-1], plainSplit(n)
	if m <= k {
		_, w, _ := plainTwoClaims(kind, old, m, k, y, f)
		if found := plainDiffer("b alone", "\x01"+w+z, plainTop(kind, b, k)); found != nil {
			return found
		}
		return plainStep(kind, old, a, b[:k], y, f)
	}
	o, w, _ := plainTwoClaims(kind, old, m-k, n-k, y, false)
	if found := plainDiffer("a", "\x01"+z+o, plainTop(kind, a, k)); found != nil {
		return found
	}
	if found := plainDiffer("b", "\x01"+z+w, plainTop(kind, b, k)); found != nil {
		return found
	}
	if found := plainCompare(kind, a[:k], b[:k]); found != nil {
		found.rule += " of the first"
		return found
	}
	return plainStep(kind, old, a[k:], b[k:], y, false)
}

func plainCollidePath(kind int, entries []string, entry string, i int, path []string) *plainCandidate {
	if i < 0 || i >= len(entries) || !plainWide(kind, path...) {
		return nil
	}
	if _, there := plainPathClaim(kind, entry, i, len(entries), path); !there {
		return nil
	}
	return plainDownPath(kind, entries, entry, i, path)
}

func plainCollideProof(kind int, a, b, proof []string) *plainCandidate {
	if len(a) == 0 || len(a) > len(b) || !plainWide(kind, proof...) {
		return nil
	}
	old := plainRoot(kind, a)
	if _, _, there := plainTwoClaims(kind, old, len(a), len(b), proof, true); !there {
		return nil
	}
	return plainStep(kind, old, a, b, proof, true)
}

// A tally counts which sentences were met, with digests that are the same and with others.
type tally map[string]int

func (met tally) add(kind int, c *plainCandidate) {
	switch {
	case c == nil:
		met["none"]++
	case plainPair(kind, c).Found:
		met[c.rule+", found"]++
	default:
		met[c.rule+", not found"]++
	}
}

// need asks that every sentence was met: else the search was too small to tell anything.
func (met tally) need(t *testing.T, names ...string) {
	t.Helper()
	for _, name := range names {
		if met[name] == 0 {
			t.Errorf("%q was never met: %v", name, met)
		}
	}
}

// extractPath holds CollidePath against the plain reading, and both against promise 5.
func extractPath(t *testing.T, met tally, kind int, entries []string, entry string, i int, path []string) {
	t.Helper()
	want := plainCollidePath(kind, entries, entry, i, path)
	met.add(kind, want)
	got := impl.CollidePath(kind, entries, entry, i, path)
	if got != plainPair(kind, want) {
		t.Errorf("kind %d, entries %q, entry %q, i %d, path %x: got %+v, want %+v", kind, entries, entry, i, path, got, want)
	}
	isCollision := got.Found && got.X != got.Y && impl.Digest(kind, got.X) == impl.Digest(kind, got.Y)
	if isCollision == (got == impl.Pair{}) {
		t.Errorf("neither a collision nor Pair{}: %+v", got)
	}
	if impl.CheckPath(kind, entry, i, len(entries), impl.Root(kind, entries), path) && entries[i] != entry {
		met["lies"]++
		if !isCollision {
			t.Errorf("kind %d, entries %q, entry %q, i %d, path %x: a lie is accepted, got %+v", kind, entries, entry, i, path, got)
		}
	}
}

// extractProof holds CollideProof against the plain reading, and both against promise 4.
func extractProof(t *testing.T, met tally, kind int, a, b, proof []string) {
	t.Helper()
	want := plainCollideProof(kind, a, b, proof)
	met.add(kind, want)
	got := impl.CollideProof(kind, a, b, proof)
	if got != plainPair(kind, want) {
		t.Errorf("kind %d, a %q, b %q, proof %x: got %+v, want %+v", kind, a, b, proof, got, want)
	}
	isCollision := got.Found && got.X != got.Y && impl.Digest(kind, got.X) == impl.Digest(kind, got.Y)
	if isCollision == (got == impl.Pair{}) {
		t.Errorf("neither a collision nor Pair{}: %+v", got)
	}
	if impl.CheckProof(kind, len(a), impl.Root(kind, a), len(b), impl.Root(kind, b), proof) && !slices.Equal(a, b[:len(a)]) {
		met["lies"]++
		if !isCollision {
			t.Errorf("kind %d, a %q, b %q, proof %x: a lie is accepted, got %+v", kind, a, b, proof, got)
		}
	}
}

// twin is another text than entry with the same weak leaf.
func twin(entry string, seed int) string {
	for ; ; seed++ {
		text := fmt.Sprintf("twin %d", seed)
		if text != entry && plainLeaf(impl.KindWeak, text) == plainLeaf(impl.KindWeak, entry) {
			return text
		}
	}
}

// twinList is another list of as many entries with the same weak root: all entries from at on are others.
func twinList(entries []string, at, seed int) []string {
	root := plainRoot(impl.KindWeak, entries)
	for ; ; seed++ {
		other := slices.Concat(entries[:at], numbered(len(entries)-at, fmt.Sprint("list ", seed)))
		if plainRoot(impl.KindWeak, other) == root {
			return other
		}
	}
}

func TestHonestProofsHaveNoCandidate(t *testing.T) {
	met := tally{}
	for _, kind := range bothKinds {
		for n := 1; n <= 40; n++ {
			for name, entries := range listsOf(n) {
				if n > 17 && name != "different" {
					continue
				}
				for i := range n {
					extractPath(t, met, kind, entries, entries[i], i, impl.Path(kind, entries, i))
					extractProof(t, met, kind, entries[:i+1], entries, impl.Proof(kind, entries, i+1))
				}
			}
		}
	}
	if len(met) != 1 {
		t.Error("honest proofs gave candidates:", met)
	}
}

func TestEntriesWithTheSameLeaf(t *testing.T) {
	for n := 1; n <= 20; n++ {
		entries := differentEntries(n)
		for i := range n {
			other := twin(entries[i], n)
			want := impl.Pair{Found: true, X: "\x00" + other, Y: "\x00" + entries[i]}
			if got := impl.CollidePath(impl.KindWeak, entries, other, i, impl.Path(impl.KindWeak, entries, i)); got != want {
				t.Errorf("%d entries, path of %d: got %+v, want %+v", n, i, got, want)
			}
			for m := i + 1; m <= n; m++ {
				lie := slices.Clone(entries[:m])
				lie[i] = other
				if got := impl.CollideProof(impl.KindWeak, lie, entries, impl.Proof(impl.KindWeak, entries, m)); got != want {
					t.Errorf("%d entries, proof of %d with a lie at %d: got %+v, want %+v", n, m, i, got, want)
				}
			}
		}
	}
}

func TestListsWithTheSameRoot(t *testing.T) {
	met := tally{}
	for n := 1; n <= 18; n++ {
		b := differentEntries(n)
		for m := 1; m <= n; m++ {
			proof := impl.Proof(impl.KindWeak, b, m)
			for _, at := range []int{0, m / 2, m - 1} {
				lie := twinList(b[:m], at, 100*n+m)
				extractProof(t, met, impl.KindWeak, lie, b, proof)
				extractProof(t, met, impl.KindWeak, b[:m], slices.Concat(lie, b[m:]), proof)
				extractProof(t, met, impl.KindWeak, lie, slices.Concat(lie, b[m:]), proof)
			}
			if k := plainSplit(n); n > 1 && m > k {
				extractProof(t, met, impl.KindWeak, slices.Concat(twinList(b[:k], 0, m), b[k:m]), b, proof)
				extractProof(t, met, impl.KindWeak, slices.Concat(b[:k], twinList(b[k:m], 0, m)), b, proof)
			}
		}
	}
	met.need(t, "none", "lies", "compared leaf, found", "compared node, found", "compared node of the first, found", "a, found")
}

func TestChangedElements(t *testing.T) {
	met := tally{}
	weak := func(b int) string { return string([]byte{byte(b)}) }
	for _, n := range []int{2, 3, 4, 5, 7, 8, 11} {
		entries := differentEntries(n)
		for i := range n {
			path, proof := impl.Path(impl.KindWeak, entries, i), impl.Proof(impl.KindWeak, entries, i+1)
			for b := range 256 {
				for at := range path {
					extractPath(t, met, impl.KindWeak, entries, entries[i], i, edited(path, at, at+1, weak(b)))
					extractPath(t, met, impl.KindWeak, entries, fmt.Sprint("other ", b), i, edited(path, at, at+1, weak(b)))
				}
				for at := range proof {
					extractProof(t, met, impl.KindWeak, entries[:i+1], entries, edited(proof, at, at+1, weak(b)))
				}
			}
		}
	}
	met.need(t, "none", "lies", "leaf, found", "left, found", "left, not found", "right, found", "right, not found", "b alone, found", "b alone, not found", "a, found", "a, not found", "b, found", "b, not found")
}

func TestEveryProofOfTwoElements(t *testing.T) {
	met := tally{}
	a, b := []string{"x"}, []string{"d", "e", "f"}
	for x := range 256 {
		for y := range 256 {
			proof := []string{string([]byte{byte(x)}), string([]byte{byte(y)})}
			extractProof(t, met, impl.KindWeak, a, b, proof)
			extractPath(t, met, impl.KindWeak, b, "x", 1, proof)
		}
	}
	met.need(t, "lies", "left, found", "left, not found", "right, found", "b alone, found", "b alone, not found")
}

// The sizes that the random searches take: each of them some steps deep, in all directions.
var searchedSizes = [][2]int{{1, 1}, {2, 2}, {3, 3}, {5, 5}, {1, 2}, {1, 3}, {2, 3}, {1, 4}, {2, 4}, {3, 4}, {3, 5}, {4, 5}, {3, 7}, {5, 6}, {5, 7}, {5, 8}, {6, 7}, {6, 8}, {7, 8}, {9, 10}, {11, 12}, {11, 16}, {13, 14}}

// someEntries come from few texts, so that lists have pieces in common, and twins among them.
func someEntries(source *rand.Rand, n int, texts []string) []string {
	entries := []string{}
	for range n {
		entries = append(entries, texts[source.Intn(len(texts))])
	}
	return entries
}

func fewTexts() []string {
	texts := []string{"", "a", "b", "c"}
	for i, text := range texts[:3] {
		texts = append(texts, twin(text, i))
	}
	return texts
}

// disturbed is the list with some elements replaced by ones of the kind's width.
func disturbed(source *rand.Rand, kind int, list []string, times int) []string {
	other := slices.Clone(list)
	for range times {
		if len(other) > 0 {
			other[source.Intn(len(other))] = plainLeaf(kind, fmt.Sprint(source.Intn(600)))
		}
	}
	return other
}

func TestSearchedProofs(t *testing.T) {
	met := tally{}
	texts := fewTexts()
	for _, kind := range bothKinds {
		for _, sizes := range searchedSizes {
			source := rand.New(rand.NewSource(int64(100*sizes[0] + sizes[1])))
			for range 200 {
				m, n := sizes[0], sizes[1]
				b := someEntries(source, n, texts)
				a := slices.Clone(b[:m])
				for range source.Intn(3) {
					a[source.Intn(m)] = texts[source.Intn(len(texts))]
				}
				whole := slices.Concat(a, b[m:])
				for _, from := range [][]string{b, whole, someEntries(source, n, texts)} {
					extractProof(t, met, kind, a, b, disturbed(source, kind, impl.Proof(kind, from, m), source.Intn(3)))
				}
				i := source.Intn(n)
				path := impl.Path(kind, slices.Concat(a, b[m:]), i)
				extractPath(t, met, kind, b, texts[source.Intn(len(texts))], i, disturbed(source, kind, path, source.Intn(3)))
			}
		}
	}
	met.need(t, "none", "lies", "leaf, found", "left, found", "left, not found", "right, found", "right, not found",
		"b alone, found", "b alone, not found", "a, found", "a, not found", "b, found", "b, not found",
		"compared leaf, found", "compared node, not found", "compared leaf of the first, found")
}

// numbered are n entries of one series, each with its number.
func numbered(n int, series string) []string {
	entries := []string{}
	for i := range n {
		entries = append(entries, fmt.Sprintf("%s %d", series, i))
	}
	return entries
}

// Proofs out of nothing, and lists that have just the roots that they claim.
func TestLiesOutOfNothing(t *testing.T) {
	met := tally{}
	for _, sizes := range searchedSizes {
		m, n := sizes[0], sizes[1]
		length := len(impl.Proof(impl.KindWeak, differentEntries(n), m))
		for seed := range 20 {
			proof := disturbed(rand.New(rand.NewSource(int64(seed))), impl.KindWeak, longPath(impl.KindWeak, length), 20)
			a, w := []string{}, ""
			for try, o := 0, "none"; o != plainRoot(impl.KindWeak, a); try++ {
				a = numbered(m, fmt.Sprint("a ", seed, try))
				o, w, _ = plainTwoClaims(impl.KindWeak, plainRoot(impl.KindWeak, a), m, n, proof, true)
			}
			b := numbered(n, "b")
			for try := 0; w != plainRoot(impl.KindWeak, b); try++ {
				b = numbered(n, fmt.Sprint("b ", seed, try))
			}
			if !impl.CheckProof(impl.KindWeak, m, impl.Root(impl.KindWeak, a), n, impl.Root(impl.KindWeak, b), proof) {
				t.Fatalf("the lie should be taken: a %q, b %q, proof %x", a, b, proof)
			}
			extractProof(t, met, impl.KindWeak, a, b, proof)
		}
	}
	met.need(t, "b alone, found", "a, found")
	if met["lies"] != 20*len(searchedSizes) {
		t.Error("some are no lies:", met)
	}
}

// In each of these only one sentence's place in the order decides which texts are answered.
func TestOrderOfTheExtractor(t *testing.T) {
	b := differentEntries(7)
	z := plainRoot(impl.KindWeak, b[:4])
	proof := impl.Proof(impl.KindWeak, b, 5)
	k := len(proof) - 1
	top := func(entries []string) string { return plainTop(impl.KindWeak, entries, 4) }
	for other := range 256 {
		changed := edited(proof, k, k+1, string([]byte{byte(other)}))
		o, w, _ := plainTwoClaims(impl.KindWeak, "", 1, 3, changed[:k], false)
		x, y := "\x01"+changed[k]+o, "\x01"+changed[k]+w
		got := impl.CollideProof(impl.KindWeak, b[:5], b, changed)
		switch {
		case changed[k] == z:
			if got != (impl.Pair{}) {
				t.Errorf("the honest proof: got %+v", got)
			}
		case plainDigest(impl.KindWeak, x) == plainDigest(impl.KindWeak, top(b[:5])):
			if got != (impl.Pair{Found: true, X: x, Y: top(b[:5])}) {
				t.Errorf("%x: the pair of a isn't the first: %+v", other, got)
			}
		default:
			// The pair of b would be a collision here and there, but that of a has ended the work.
			if got != (impl.Pair{}) {
				t.Errorf("%x: the work went on to %x: %+v", other, y, got)
			}
		}
	}
	first := slices.Concat([]string{twin(b[0], 1)}, b[1:5])
	both := slices.Concat([]string{twin(b[0], 1)}, b[1:4], []string{twin(b[4], 2)})
	last := slices.Concat(b[:4], []string{twin(b[4], 2)})
	cases := []struct {
		a    []string
		want string
	}{{first, first[0]}, {both, both[0]}, {last, last[4]}}
	for i, c := range cases {
		if got := impl.CollideProof(impl.KindWeak, c.a, b, proof); !got.Found || got.X != "\x00"+c.want {
			t.Errorf("case %d: got %+v, want the entry %q", i, got, c.want)
		}
	}
}

func TestExtractorsOfLongLists(t *testing.T) {
	met := tally{}
	for _, n := range []int{63, 64, 65, 129, 500, 2000} {
		b := differentEntries(n)
		for _, m := range []int{1, n / 3, n / 2, plainSplit(n), n - 1, n} {
			at := m / 2
			lie := slices.Clone(b[:m])
			lie[at] = twin(b[at], n)
			proof := impl.Proof(impl.KindWeak, b, m)
			extractProof(t, met, impl.KindWeak, lie, b, proof)
			extractPath(t, met, impl.KindWeak, b, lie[at], at, impl.Path(impl.KindWeak, b, at))
			for place := range proof {
				extractProof(t, met, impl.KindWeak, b[:m], b, edited(proof, place, place+1, changedDigest(proof[place])))
			}
			lie[at] = "no twin"
			extractProof(t, met, impl.KindFull, lie, b, impl.Proof(impl.KindFull, b, m))
		}
	}
	met.need(t, "lies", "leaf, found", "compared leaf, found")
}

func TestSpoiledProofsGiveNothing(t *testing.T) {
	met := tally{}
	for _, kind := range bothKinds {
		for n := 1; n <= 12; n++ {
			entries := differentEntries(n)
			for i := range n {
				entry, m := twin(entries[i], n), i+1
				lie := slices.Clone(entries[:m])
				lie[i] = entry
				path, proof := impl.Path(kind, entries, i), impl.Proof(kind, entries, m)
				for _, other := range spoiled(kind, path) {
					extractPath(t, met, kind, entries, entry, i, other)
					if got := impl.CollidePath(kind, entries, entry, i, other); len(other) != len(path) && got != (impl.Pair{}) {
						t.Errorf("kind %d, %d entries, path %x of %d: got %+v", kind, n, other, i, got)
					}
				}
				for _, other := range spoiled(kind, proof) {
					extractProof(t, met, kind, lie, entries, other)
					if got := impl.CollideProof(kind, lie, entries, other); (len(other) != len(proof) || !plainWide(kind, other...)) && got != (impl.Pair{}) {
						t.Errorf("kind %d, %d entries, proof %x of %d: got %+v", kind, n, other, m, got)
					}
				}
				for _, number := range append(around(i), i+n, math.MinInt, math.MaxInt, 1<<32+i) {
					extractPath(t, met, kind, entries, entry, number, path)
				}
			}
		}
	}
	met.need(t, "none", "leaf, found", "leaf, not found")
}

func TestSizesWithoutCandidates(t *testing.T) {
	b := differentEntries(7)
	x := twin(b[0], 1)
	for _, kind := range bothKinds {
		digest := plainLeaf(kind, "z")
		for _, proof := range [][]string{nil, {}, {""}, {digest}, {digest, digest}, longPath(kind, 40), longPath(kind, 100000)} {
			for _, a := range [][]string{nil, {}} {
				if got := impl.CollideProof(kind, a, b, proof); got != (impl.Pair{}) {
					t.Errorf("kind %d, no entry: %+v", kind, got)
				}
				if got := impl.CollideProof(kind, a, a, proof); got != (impl.Pair{}) {
					t.Errorf("kind %d, no entry at all: %+v", kind, got)
				}
				for _, i := range []int{-1, 0, 1, math.MaxInt, math.MinInt} {
					if got := impl.CollidePath(kind, a, x, i, proof); got != (impl.Pair{}) {
						t.Errorf("kind %d, path of %d in no entry: %+v", kind, i, got)
					}
				}
			}
			for m := 1; m < 7; m++ {
				if got := impl.CollideProof(kind, b, slices.Concat([]string{x}, b[1:m]), proof); got != (impl.Pair{}) {
					t.Errorf("kind %d, 7 entries that begin %d: %+v", kind, m, got)
				}
			}
		}
	}
}

func TestExtractorsOfOtherKinds(t *testing.T) {
	for _, kind := range noKinds {
		for _, digest := range []string{"", "a", plainLeaf(impl.KindFull, "e")} {
			for length := range 4 {
				proof := slices.Repeat([]string{digest}, length)
				for n := 1; n <= 5; n++ {
					for m := 1; m <= n; m++ {
						if got := impl.CollideProof(kind, differentEntries(m), listsOf(n)["equal"], proof); got != (impl.Pair{}) {
							t.Errorf("kind %d, %d and %d entries: %+v", kind, m, n, got)
						}
						if got := impl.CollidePath(kind, differentEntries(n), "e", m-1, proof); got != (impl.Pair{}) {
							t.Errorf("kind %d, path of %d in %d entries: %+v", kind, m-1, n, got)
						}
					}
				}
			}
		}
	}
}

// With full digests nobody has a collision to show, whatever is claimed.
func TestFullDigestsGiveNothing(t *testing.T) {
	for n := 1; n <= 12; n++ {
		b := differentEntries(n)
		for i := range n {
			m := i + 1
			lie := slices.Clone(b[:m])
			lie[i] = twin(b[i], n)
			for _, proof := range append(spoiled(impl.KindFull, impl.Proof(impl.KindFull, b, m)), impl.Proof(impl.KindFull, b, m)) {
				if got := impl.CollideProof(impl.KindFull, lie, b, proof); got != (impl.Pair{}) {
					t.Errorf("%d of %d entries, proof %x: %+v", m, n, proof, got)
				}
			}
			for _, path := range append(spoiled(impl.KindFull, impl.Path(impl.KindFull, b, i)), impl.Path(impl.KindFull, b, i)) {
				if got := impl.CollidePath(impl.KindFull, b, lie[i], i, path); got != (impl.Pair{}) {
					t.Errorf("entry %d of %d, path %x: %+v", i, n, path, got)
				}
			}
		}
	}
}

func TestListsOfAnExtractorStayAsTheyWere(t *testing.T) {
	for _, kind := range bothKinds {
		for _, n := range []int{1, 2, 3, 7, 12, 65, 200} {
			for _, m := range []int{1, n/2 + 1, n} {
				b, allB := withRoom(differentEntries(n))
				a, allA := withRoom(b[:m])
				a[m-1] = twin(a[m-1], n)
				proof, allProof := withRoom(impl.Proof(kind, b, m))
				path, allPath := withRoom(impl.Path(kind, b, m-1))
				lists := [][]string{allA, allB, allProof, allPath}
				before := [][]string{}
				for _, list := range lists {
					before = append(before, slices.Clone(list))
				}
				impl.CollideProof(kind, a, b, proof)
				impl.CollideProof(kind, a, b, path)
				impl.CollidePath(kind, b, a[m-1], m-1, path)
				impl.CollidePath(kind, b, a[m-1], m-1, proof)
				for i, list := range lists {
					if !slices.Equal(list, before[i]) {
						t.Fatalf("kind %d, %d of %d entries: list %d was changed", kind, m, n, i)
					}
				}
			}
		}
	}
}
