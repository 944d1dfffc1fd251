package tests

import (
	"crypto/sha256"
	"fmt"
	"math"
	"slices"
	"strings"
	"sync"
	"testing"

	"loop.example/s02884/impl"
)

var bothKinds = []int{impl.KindFull, impl.KindWeak}

// greatLengths stand around powers of 2, and at the most that a tree may hold.
var greatLengths = []int{127, 128, 129, 191, 192, 193, 255, 256, 257, 511, 512, 513, 1023, 1024, 1025, 1999, 2000}

// The functions that begin with plain are the document's sentences, read as they stand, over the library's digests.

func plainDigest(kind int, text string) string {
	sum := sha256.Sum256([]byte(text))
	if kind == impl.KindWeak {
		return string(sum[:1])
	}
	return string(sum[:])
}

func plainLeaf(kind int, entry string) string {
	return plainDigest(kind, "\x00"+entry)
}

func plainNode(kind int, left, right string) string {
	return plainDigest(kind, "\x01"+left+right)
}

func plainSplit(n int) int {
	k := 1
	for 2*k < n {
		k *= 2
	}
	return k
}

func plainRoot(kind int, entries []string) string {
	switch n := len(entries); n {
	case 0:
		return plainDigest(kind, "")
	case 1:
		return plainLeaf(kind, entries[0])
	default:
		k := plainSplit(n)
		return plainNode(kind, plainRoot(kind, entries[:k]), plainRoot(kind, entries[k:]))
	}
}

func plainPeaks(kind int, entries []string) []string {
	peaks := []string{}
	for size := 1 << 20; size > 0; size /= 2 {
		if size <= len(entries) {
			peaks = append(peaks, plainRoot(kind, entries[:size]))
			entries = entries[size:]
		}
	}
	return peaks
}

func plainPath(kind int, entries []string, i int) []string {
	n := len(entries)
	if n == 1 {
		return []string{}
	}
	k := plainSplit(n)
	if i < k {
		return append(plainPath(kind, entries[:k], i), plainRoot(kind, entries[k:]))
	}
	return append(plainPath(kind, entries[k:], i-k), plainRoot(kind, entries[:k]))
}

func plainSub(kind, m int, entries []string, b bool) []string {
	n := len(entries)
	if m == n && b {
		return []string{}
	}
	if m == n {
		return []string{plainRoot(kind, entries)}
	}
	k := plainSplit(n)
	if m <= k {
		return append(plainSub(kind, m, entries[:k], b), plainRoot(kind, entries[k:]))
	}
	return append(plainSub(kind, m-k, entries[k:], false), plainRoot(kind, entries[:k]))
}

// listsOf are lists of n entries: all different, all equal, all empty, and with pieces that come again.
func listsOf(n int) map[string][]string {
	lists := map[string][]string{}
	for i := range n {
		add := func(name, entry string) { lists[name] = append(lists[name], entry) }
		add("different", fmt.Sprintf("entry %d", i))
		add("equal", "the same")
		add("empty", "")
		add("in pairs", fmt.Sprintf("pair %d", i/2))
		add("in turns", fmt.Sprintf("turn %d", i%2))
		add("in runs", fmt.Sprintf("run %d", i/8))
		add("bytes", mixed(i%200, i))
	}
	return lists
}

func differentEntries(n int) []string {
	return listsOf(n)["different"]
}

// withRoom is a copy that has room behind its end, and what stands there.
func withRoom(list []string) ([]string, []string) {
	all := append(slices.Clone(list), "behind 0", "behind 1", "behind 2")
	return all[:len(list)], all
}

func TestLeafAndNode(t *testing.T) {
	for _, kind := range bothKinds {
		for _, text := range hashTexts() {
			if got := impl.Leaf(kind, text); got != plainLeaf(kind, text) {
				t.Errorf("kind %d: leaf of %d bytes %s..: got %x", kind, len(text), short(text), got)
			}
			for _, other := range []string{"", "a", mixed(32, 3), mixed(77, 4)} {
				if got := impl.Node(kind, text, other); got != plainNode(kind, text, other) {
					t.Errorf("kind %d: node of %d bytes %s.. and %d: got %x", kind, len(text), short(text), len(other), got)
				}
				if got := impl.Node(kind, other, text); got != plainNode(kind, other, text) {
					t.Errorf("kind %d: node of %d and %d bytes %s..: got %x", kind, len(other), len(text), short(text), got)
				}
			}
		}
	}
}

func TestRootOfFewEntries(t *testing.T) {
	for _, kind := range bothKinds {
		leaf := func(entry string) string { return impl.Digest(kind, "\x00"+entry) }
		node := func(left, right string) string { return impl.Digest(kind, "\x01"+left+right) }
		ab, aa, none := node(leaf("a"), leaf("b")), node(leaf("a"), leaf("a")), node(leaf(""), leaf(""))
		cases := []struct {
			entries []string
			want    string
		}{
			{nil, impl.Digest(kind, "")},
			{[]string{}, impl.Digest(kind, "")},
			{[]string{""}, leaf("")},
			{[]string{"a"}, leaf("a")},
			{[]string{"a", "b"}, ab},
			{[]string{"b", "a"}, node(leaf("b"), leaf("a"))},
			{[]string{"a", "b", "c"}, node(ab, leaf("c"))},
			{[]string{"a", "a", "a"}, node(aa, leaf("a"))},
			{[]string{"a", "a", "a", "a"}, node(aa, aa)},
			{[]string{"", ""}, none},
			{[]string{"", "", ""}, node(none, leaf(""))},
			{[]string{"a", "b", "a", "b", ""}, node(node(ab, ab), leaf(""))},
		}
		for _, c := range cases {
			if got := impl.Root(kind, c.entries); got != c.want {
				t.Errorf("kind %d, %q: got %x, want %x", kind, c.entries, got, c.want)
			}
		}
	}
}

func TestRootAtEveryLength(t *testing.T) {
	lengths := slices.Clone(greatLengths)
	for n := range 71 {
		lengths = append(lengths, n)
	}
	// Root has no limit of its own: lists that a tree can't hold have one, too.
	lengths = append(lengths, 2001, 2047, 2048, 2049, 4097)
	for _, kind := range bothKinds {
		for _, n := range lengths {
			for name, entries := range listsOf(n) {
				if got := impl.Root(kind, entries); got != plainRoot(kind, entries) {
					t.Errorf("kind %d, %d entries, %s: got %x", kind, n, name, got)
				}
			}
		}
	}
}

// alike are n different entries whose leaves begin with one byte: a digest is its whole width.
func alike(n int) []string {
	entries := []string{}
	for i := 0; len(entries) < n; i++ {
		entry := fmt.Sprintf("alike %d", i)
		if plainLeaf(impl.KindFull, entry)[0] == 'z' {
			entries = append(entries, entry)
		}
	}
	return entries
}

func TestRootOfLeavesThatBeginAlike(t *testing.T) {
	e := alike(4)
	lists := [][]string{{e[0], e[1], e[0], e[2]}, {e[0], e[0], e[0], e[1]}, {e[0], e[1], e[0], e[0]}, {e[1], e[0], e[2], e[0], e[3], e[0]}, e}
	for _, kind := range bothKinds {
		for i, entries := range lists {
			if got := impl.Root(kind, entries); got != plainRoot(kind, entries) {
				t.Errorf("kind %d, list %d: got %x", kind, i, got)
			}
		}
	}
}

func TestRootAsksEveryEntry(t *testing.T) {
	for _, n := range []int{1, 2, 3, 63, 64, 65, 66, 127, 128, 129, 200} {
		entries := differentEntries(n)
		root := impl.Root(impl.KindFull, entries)
		for i := range entries {
			changed := slices.Clone(entries)
			changed[i] += "."
			if impl.Root(impl.KindFull, changed) == root {
				t.Errorf("%d entries: entry %d makes no difference", n, i)
			}
		}
		if impl.Root(impl.KindFull, entries[:n-1]) == root {
			t.Errorf("%d entries: the last makes no difference", n)
		}
	}
}

// checkTree holds a grown tree against its entries.
func checkTree(t *testing.T, kind int, name string, tree impl.Tree, entries []string) {
	t.Helper()
	n := len(entries)
	if !impl.TreeOK(kind, tree) || tree.Size != n {
		t.Fatalf("kind %d, %d entries, %s: not OK, Size %d, %d Peaks", kind, n, name, tree.Size, len(tree.Peaks))
	}
	root := impl.TreeRoot(kind, tree)
	if root != impl.Root(kind, entries) || root != plainRoot(kind, entries) {
		t.Errorf("kind %d, %d entries, %s: the root of the tree is %x", kind, n, name, root)
	}
	if !slices.Equal(tree.Peaks, plainPeaks(kind, entries)) {
		t.Errorf("kind %d, %d entries, %s: the peaks are %x", kind, n, name, tree.Peaks)
	}
}

func TestGrownTreeAtEveryStep(t *testing.T) {
	for _, kind := range bothKinds {
		for name, entries := range listsOf(2000) {
			tree := impl.Tree{}
			checkTree(t, kind, name, tree, nil)
			for n := 1; n <= len(entries); n++ {
				tree = impl.Grow(kind, tree, entries[n-1])
				if n <= 70 || slices.Contains(greatLengths, n) {
					checkTree(t, kind, name, tree, entries[:n])
				} else if !impl.TreeOK(kind, tree) || tree.Size != n {
					t.Fatalf("kind %d, %d entries, %s: not OK", kind, n, name)
				}
			}
			if got := impl.Grow(kind, tree, "one more"); got.Size != 0 || len(got.Peaks) != 0 {
				t.Errorf("kind %d, %s: a full tree grew to %d", kind, name, got.Size)
			}
		}
	}
}

// peaksOf are n peaks of one width.
func peaksOf(n, width int) []string {
	peaks := []string{}
	for i := range n {
		peaks = append(peaks, mixed(width, i))
	}
	return peaks
}

func TestTreesThatAreNotOK(t *testing.T) {
	for _, kind := range bothKinds {
		width := len(impl.Digest(kind, ""))
		withPeak := func(size, n, at int, peak string) impl.Tree {
			peaks := peaksOf(n, width)
			peaks[at] = peak
			return impl.Tree{Size: size, Peaks: peaks}
		}
		bad := map[string]impl.Tree{
			"no peak for 1":       {Size: 1},
			"a peak for 0":        {Size: 0, Peaks: peaksOf(1, width)},
			"a peak for 3":        {Size: 3, Peaks: peaksOf(1, width)},
			"3 peaks for 3":       {Size: 3, Peaks: peaksOf(3, width)},
			"2 peaks for 4":       {Size: 4, Peaks: peaksOf(2, width)},
			"5 peaks for 2000":    {Size: 2000, Peaks: peaksOf(5, width)},
			"7 peaks for 2000":    {Size: 2000, Peaks: peaksOf(7, width)},
			"an empty peak":       withPeak(1, 1, 0, ""),
			"a peak too long":     withPeak(1, 1, 0, mixed(width+1, 1)),
			"a peak too short":    withPeak(1, 1, 0, mixed(width-1, 1)),
			"a first of 33 bytes": withPeak(7, 3, 0, mixed(33, 1)),
			"a middle of 2 bytes": withPeak(7, 3, 1, mixed(2, 1)),
			"a last of 31 bytes":  withPeak(7, 3, 2, mixed(31, 1)),
			"the other kind":      {Size: 5, Peaks: peaksOf(2, 33-width)},
			"-1 without peaks":    {Size: -1},
			"-1 with 64 peaks":    {Size: -1, Peaks: peaksOf(64, width)},
			"-2 with 63 peaks":    {Size: -2, Peaks: peaksOf(63, width)},
			"the least number":    {Size: math.MinInt, Peaks: peaksOf(1, width)},
			"one too many":        {Size: 2001, Peaks: peaksOf(7, width)},
			"2048":                {Size: 2048, Peaks: peaksOf(1, width)},
			"the greatest number": {Size: math.MaxInt, Peaks: peaksOf(63, width)},
		}
		for name, tree := range bad {
			if impl.TreeOK(kind, tree) {
				t.Errorf("kind %d, %s: it is OK", kind, name)
			}
			if got := impl.TreeRoot(kind, tree); got != "" {
				t.Errorf("kind %d, %s: its root is %x", kind, name, got)
			}
			if got := impl.Grow(kind, tree, "e"); got.Size != 0 || len(got.Peaks) != 0 {
				t.Errorf("kind %d, %s: it grew to %d", kind, name, got.Size)
			}
		}
	}
}

// A tree is taken at its word: any peaks of the right number and width will do.
func TestTreesOfAnyPeaks(t *testing.T) {
	if impl.MaxEntries != 2000 {
		t.Fatal("MaxEntries is", impl.MaxEntries)
	}
	ones := func(n int) int { return strings.Count(fmt.Sprintf("%b", n), "1") }
	for _, kind := range bothKinds {
		for size := range impl.MaxEntries + 1 {
			tree := impl.Tree{Size: size, Peaks: peaksOf(ones(size), len(impl.Digest(kind, "")))}
			if !impl.TreeOK(kind, tree) {
				t.Fatalf("kind %d, Size %d: not OK", kind, size)
			}
			root := plainDigest(kind, "")
			for i := len(tree.Peaks) - 1; i >= 0; i-- {
				if i == len(tree.Peaks)-1 {
					root = tree.Peaks[i]
				} else {
					root = plainNode(kind, tree.Peaks[i], root)
				}
			}
			if got := impl.TreeRoot(kind, tree); got != root {
				t.Errorf("kind %d, Size %d: the root is %x", kind, size, got)
			}
			want := impl.Tree{}
			if size < impl.MaxEntries {
				peaks, last := slices.Clone(tree.Peaks), plainLeaf(kind, "e")
				for ones(size+1) <= len(peaks) {
					peaks, last = peaks[:len(peaks)-1], plainNode(kind, peaks[len(peaks)-1], last)
				}
				want = impl.Tree{Size: size + 1, Peaks: append(peaks, last)}
			}
			if got := impl.Grow(kind, tree, "e"); got.Size != want.Size || !slices.Equal(got.Peaks, want.Peaks) {
				t.Errorf("kind %d, Size %d: grown to %d, %x", kind, size, got.Size, got.Peaks)
			}
		}
	}
}

func TestTreeOfOtherKinds(t *testing.T) {
	trees := []impl.Tree{{}, {Size: 1, Peaks: []string{""}}, {Size: 1, Peaks: []string{"a"}}, {Size: 1, Peaks: []string{mixed(32, 1)}}, {Size: 3, Peaks: []string{"", ""}}}
	for _, kind := range noKinds {
		for _, n := range []int{0, 1, 2, 5, 64, 65, 130} {
			entries := differentEntries(n)
			if got := impl.Root(kind, entries); got != "" {
				t.Errorf("kind %d, %d entries: the root is %x", kind, n, got)
			}
			for i := -1; i <= n; i++ {
				if len(impl.Path(kind, entries, i)) != 0 || len(impl.Proof(kind, entries, i)) != 0 {
					t.Errorf("kind %d, %d entries: a path or proof of %d", kind, n, i)
				}
			}
		}
		if impl.Leaf(kind, "a") != "" || impl.Node(kind, "a", "b") != "" {
			t.Errorf("kind %d: a leaf or a node", kind)
		}
		for _, tree := range trees {
			if impl.TreeOK(kind, tree) || impl.TreeRoot(kind, tree) != "" {
				t.Errorf("kind %d: a tree of %d is OK or has a root", kind, tree.Size)
			}
			if got := impl.Grow(kind, tree, "e"); got.Size != 0 || len(got.Peaks) != 0 {
				t.Errorf("kind %d: a tree of %d grew to %d", kind, tree.Size, got.Size)
			}
		}
	}
}

// checkPathAndProof holds both against the plain reading, element by element.
func checkPathAndProof(t *testing.T, kind int, name string, entries []string, i int) {
	t.Helper()
	n := len(entries)
	if got, want := impl.Path(kind, entries, i), plainPath(kind, entries, i); !slices.Equal(got, want) {
		t.Errorf("kind %d, %d entries, %s: the path of %d is %x, want %x", kind, n, name, i, got, want)
	}
	if m := i; m >= 1 {
		if got, want := impl.Proof(kind, entries, m), plainSub(kind, m, entries, true); !slices.Equal(got, want) {
			t.Errorf("kind %d, %d entries, %s: the proof of %d is %x, want %x", kind, n, name, m, got, want)
		}
	}
}

func TestPathsAndProofsAtEveryLength(t *testing.T) {
	for _, kind := range bothKinds {
		for n := 1; n <= 70; n++ {
			for name, entries := range listsOf(n) {
				if n > 40 && name != "different" {
					continue
				}
				for i := range n {
					checkPathAndProof(t, kind, name, entries, i)
				}
			}
		}
	}
}

func TestPathsAndProofsOfLongLists(t *testing.T) {
	for _, kind := range bothKinds {
		for _, n := range greatLengths {
			for name, entries := range listsOf(n) {
				places := []int{0, 1, n / 2, n - 2, n - 1}
				if name == "different" {
					places = append(places, 2, 63, 64, 65, n/3, plainSplit(n)-1, plainSplit(n), plainSplit(n)+1)
				}
				for _, i := range places {
					if i < n {
						checkPathAndProof(t, kind, name, entries, i)
					}
				}
			}
		}
	}
}

func TestPathsAndProofsOfNoSuchEntry(t *testing.T) {
	for _, kind := range bothKinds {
		for _, n := range []int{0, 1, 2, 3, 7, 8, 64, 65, 129} {
			entries := differentEntries(n)
			for _, i := range []int{-1, -2, -n, n, n + 1, 2 * n, 1 << 32, math.MaxInt, math.MinInt} {
				if i < 0 || i >= n {
					if got := impl.Path(kind, entries, i); len(got) != 0 {
						t.Errorf("kind %d, %d entries: the path of %d is %x", kind, n, i, got)
					}
				}
				if i < 1 || i >= n {
					if got := impl.Proof(kind, entries, i); len(got) != 0 {
						t.Errorf("kind %d, %d entries: the proof of %d is %x", kind, n, i, got)
					}
				}
			}
			if got := impl.Proof(kind, entries, 0); len(got) != 0 {
				t.Errorf("kind %d, %d entries: the proof of 0 is %x", kind, n, got)
			}
		}
	}
}

func TestListsStayAsTheyWere(t *testing.T) {
	for _, kind := range bothKinds {
		for _, n := range []int{1, 2, 3, 7, 64, 65, 200} {
			entries, all := withRoom(differentEntries(n))
			before := slices.Clone(all)
			root := impl.Root(kind, entries)
			path, proof := impl.Path(kind, entries, n/2), impl.Proof(kind, entries, n/2)
			pathBefore, proofBefore := slices.Clone(path), slices.Clone(proof)
			if !slices.Equal(all, before) {
				t.Fatalf("kind %d, %d entries: they were changed", kind, n)
			}
			for _, list := range [][]string{path, proof} {
				for i := range list {
					list[i] = "written"
				}
				_ = append(list, "written behind")
			}
			if !slices.Equal(all, before) {
				t.Fatalf("kind %d, %d entries: an answer shares their memory", kind, n)
			}
			path, proof = impl.Path(kind, entries, n/2), impl.Proof(kind, entries, n/2)
			for i := range all {
				all[i] = "written"
			}
			if !slices.Equal(path, pathBefore) || !slices.Equal(proof, proofBefore) || root != plainRoot(kind, before[:n]) {
				t.Errorf("kind %d, %d entries: an answer follows them, or what was answered before", kind, n)
			}
		}
	}
}

func TestPeaksStayAsTheyWere(t *testing.T) {
	for _, kind := range bothKinds {
		tree := impl.Tree{}
		for size := range 70 {
			peaks, all := withRoom(tree.Peaks)
			given := impl.Tree{Size: size, Peaks: peaks}
			before := slices.Clone(all)
			grown := impl.Grow(kind, given, fmt.Sprint(size))
			after := slices.Clone(grown.Peaks)
			impl.TreeOK(kind, given)
			impl.TreeRoot(kind, given)
			if given.Size != size || len(given.Peaks) != len(peaks) || !slices.Equal(all, before) {
				t.Fatalf("kind %d, Size %d: the tree was changed", kind, size)
			}
			for i := range all {
				all[i] = "written"
			}
			if !slices.Equal(grown.Peaks, after) {
				t.Fatalf("kind %d, Size %d: the grown tree follows the old one", kind, size)
			}
			copy(all, before)
			for i := range grown.Peaks {
				grown.Peaks[i] = "written"
			}
			_ = append(grown.Peaks, "written behind")
			if !slices.Equal(all, before) {
				t.Fatalf("kind %d, Size %d: the old tree follows the grown one", kind, size)
			}
			tree = impl.Tree{Size: size + 1, Peaks: after}
		}
	}
}

func TestManyCallsAtOnce(t *testing.T) {
	entries := differentEntries(300)
	same := listsOf(300)["in pairs"]
	var callers sync.WaitGroup
	for range 16 {
		callers.Add(1)
		go func() {
			defer callers.Done()
			for _, list := range [][]string{entries, same} {
				if impl.Root(impl.KindFull, list) != plainRoot(impl.KindFull, list) {
					t.Error("another root")
				}
				if !slices.Equal(impl.Path(impl.KindFull, list, 130), plainPath(impl.KindFull, list, 130)) {
					t.Error("another path")
				}
			}
		}()
	}
	callers.Wait()
}
