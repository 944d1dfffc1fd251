package tests

import (
	"fmt"
	"math"
	"slices"
	"testing"

	"loop.example/s02884/impl"
)

// The most that n may be, as the document writes it.
const mostSize = 2147483648

func plainPathClaim(kind int, entry string, i, n int, path []string) (string, bool) {
	if n == 1 {
		return plainLeaf(kind, entry), len(path) == 0
	}
	if len(path) == 0 {
		return "", false
	}
	y, z, k := path[:len(path)-1], path[len(path)-1], plainSplit(n)
	if i < k {
		c, there := plainPathClaim(kind, entry, i, k, y)
		return plainNode(kind, c, z), there
	}
	c, there := plainPathClaim(kind, entry, i-k, n-k, y)
	return plainNode(kind, z, c), there
}

func plainTwoClaims(kind int, old string, m, n int, proof []string, b bool) (o, w string, there bool) {
	if m == n && b {
		return old, old, len(proof) == 0
	}
	if len(proof) == 0 {
		return "", "", false
	}
	y, z, k := proof[:len(proof)-1], proof[len(proof)-1], plainSplit(n)
	if m == n {
		return z, z, len(y) == 0
	}
	if m <= k {
		o, w, there = plainTwoClaims(kind, old, m, k, y, b)
		return o, plainNode(kind, w, z), there
	}
	o, w, there = plainTwoClaims(kind, old, m-k, n-k, y, false)
	return plainNode(kind, z, o), plainNode(kind, z, w), there
}

func plainWide(kind int, texts ...string) bool {
	for _, text := range texts {
		if len(text) != len(plainDigest(kind, "")) {
			return false
		}
	}
	return true
}

func plainCheckPath(kind int, entry string, i, n int, root string, path []string) bool {
	if n > mostSize || i < 0 || i >= n || !plainWide(kind, path...) {
		return false
	}
	claim, there := plainPathClaim(kind, entry, i, n, path)
	return there && claim == root
}

func plainCheckProof(kind, m int, old string, n int, root string, proof []string) bool {
	if m < 1 || m > n || n > mostSize || !plainWide(kind, old) || !plainWide(kind, proof...) {
		return false
	}
	o, w, there := plainTwoClaims(kind, old, m, n, proof, true)
	return there && o == old && w == root
}

// edited is a copy of the list whose elements from at to below end are others.
func edited(list []string, at, end int, others ...string) []string {
	return slices.Concat(list[:at], others, list[end:])
}

// changedDigest has one bit changed.
func changedDigest(digest string) string {
	bytes := []byte(digest)
	bytes[len(bytes)-1] ^= 4
	return string(bytes)
}

// spoiled are lists of elements that are nearly the given one: longer, shorter, of other widths, put together, changed, in another order.
func spoiled(kind int, list []string) [][]string {
	more := plainLeaf(kind, "more")
	lists := [][]string{{}, {""}, {more}, edited(list, 0, 0, more), edited(list, len(list), len(list), more), edited(list, 0, 0, ""), edited(list, len(list), len(list), "")}
	for i, element := range list {
		lists = append(lists,
			edited(list, i, i+1),
			edited(list, i, i, element),
			edited(list, i, i+1, ""),
			edited(list, i, i+1, element+"x"),
			edited(list, i, i+1, element[1:]),
			edited(list, i, i+1, element+element),
			edited(list, i, i+1, changedDigest(element)),
			list[i+1:],
			list[:i])
		if i > 0 {
			both := list[i-1] + element
			lists = append(lists,
				edited(list, i-1, i+1, both),
				edited(list, i-1, i+1, both, ""),
				edited(list, i-1, i+1, "", both),
				edited(list, i-1, i+1, element, list[i-1]))
		}
	}
	return lists
}

// around are numbers near n, and some far away.
func around(n int) []int {
	return []int{n, n - 1, n + 1, n - 2, n + 2, n / 2, 2 * n, -n, 0, 1, -1, n + 1<<32}
}

func askPath(t *testing.T, kind int, entry string, i, n int, root string, path []string) {
	t.Helper()
	want := plainCheckPath(kind, entry, i, n, root, path)
	if got := impl.CheckPath(kind, entry, i, n, root, path); got != want {
		t.Errorf("kind %d, entry %q, i %d, n %d, root %x, path %x: got %v, want %v", kind, entry, i, n, root, path, got, want)
	}
}

func askProof(t *testing.T, kind, m int, old string, n int, root string, proof []string) {
	t.Helper()
	want := plainCheckProof(kind, m, old, n, root, proof)
	if got := impl.CheckProof(kind, m, old, n, root, proof); got != want {
		t.Errorf("kind %d, m %d, old %x, n %d, root %x, proof %x: got %v, want %v", kind, m, old, n, root, proof, got, want)
	}
}

func TestPathsAndProofsAreAccepted(t *testing.T) {
	lengths := []int{127, 128, 129, 255, 256, 257}
	for n := 1; n <= 70; n++ {
		lengths = append(lengths, n)
	}
	for _, kind := range bothKinds {
		for _, n := range lengths {
			for name, entries := range listsOf(n) {
				if n > 33 && name != "different" {
					continue
				}
				root := impl.Root(kind, entries)
				for i := range n {
					m, old := i+1, impl.Root(kind, entries[:i+1])
					if !impl.CheckPath(kind, entries[i], i, n, root, impl.Path(kind, entries, i)) {
						t.Errorf("kind %d, %d entries, %s: the path of %d is refused", kind, n, name, i)
					}
					if !impl.CheckProof(kind, m, old, n, root, impl.Proof(kind, entries, m)) {
						t.Errorf("kind %d, %d entries, %s: the proof of %d is refused", kind, n, name, m)
					}
				}
			}
		}
	}
}

func TestPathsAndProofsOfLongListsAreAccepted(t *testing.T) {
	for _, kind := range bothKinds {
		for _, n := range greatLengths {
			entries := differentEntries(n)
			root, k := impl.Root(kind, entries), plainSplit(n)
			for _, i := range []int{0, 1, 2, 63, 64, 65, n / 3, n / 2, k - 1, k, k + 1, n - 2, n - 1} {
				if i >= n {
					continue
				}
				if !impl.CheckPath(kind, entries[i], i, n, root, impl.Path(kind, entries, i)) {
					t.Errorf("kind %d, %d entries: the path of %d is refused", kind, n, i)
				}
				if m := i + 1; !impl.CheckProof(kind, m, impl.Root(kind, entries[:m]), n, root, impl.Proof(kind, entries, m)) {
					t.Errorf("kind %d, %d entries: the proof of %d is refused", kind, n, m)
				}
			}
		}
	}
}

func TestSpoiledPaths(t *testing.T) {
	for _, kind := range bothKinds {
		for n := 1; n <= 40; n++ {
			entries := differentEntries(n)
			root := impl.Root(kind, entries)
			for i := range n {
				path := impl.Path(kind, entries, i)
				for _, other := range spoiled(kind, path) {
					askPath(t, kind, entries[i], i, n, root, other)
					if kind == impl.KindFull && !slices.Equal(other, path) && impl.CheckPath(kind, entries[i], i, n, root, other) {
						t.Errorf("%d entries, i %d: another path, %x, is accepted", n, i, other)
					}
				}
				for _, number := range around(n) {
					askPath(t, kind, entries[i], i, number, root, path)
				}
				for _, number := range append(around(i), i+n) {
					askPath(t, kind, entries[i], number, n, root, path)
				}
				for _, other := range []string{"", changedDigest(root), root + "x", root[1:], root + root} {
					askPath(t, kind, entries[i], i, n, other, path)
				}
				for _, other := range []string{"", entries[i] + ".", entries[i][1:], entries[n-1-i]} {
					askPath(t, kind, other, i, n, root, path)
				}
			}
		}
	}
}

func TestSpoiledProofs(t *testing.T) {
	for _, kind := range bothKinds {
		for n := 1; n <= 40; n++ {
			entries := differentEntries(n)
			root := impl.Root(kind, entries)
			for m := 1; m <= n; m++ {
				old, proof := impl.Root(kind, entries[:m]), impl.Proof(kind, entries, m)
				for _, other := range spoiled(kind, proof) {
					askProof(t, kind, m, old, n, root, other)
					if kind == impl.KindFull && !slices.Equal(other, proof) && impl.CheckProof(kind, m, old, n, root, other) {
						t.Errorf("%d entries, m %d: another proof, %x, is accepted", n, m, other)
					}
				}
				for _, number := range around(n) {
					askProof(t, kind, m, old, number, root, proof)
				}
				for _, number := range around(m) {
					askProof(t, kind, number, old, n, root, proof)
				}
				for _, other := range []string{"", changedDigest(old), old + "x", old[1:], old + old, root} {
					askProof(t, kind, m, other, n, root, proof)
				}
				for _, other := range []string{"", changedDigest(root), root + "x", root[1:], root + root, old} {
					askProof(t, kind, m, old, n, other, proof)
				}
			}
		}
	}
}

func TestEmptyProof(t *testing.T) {
	for _, kind := range bothKinds {
		a, b := plainLeaf(kind, "a"), plainLeaf(kind, "b")
		for _, n := range []int{1, 2, 3, 4, 7, 8, 1000, mostSize - 1, mostSize} {
			for _, none := range [][]string{nil, {}} {
				if !impl.CheckProof(kind, n, a, n, a, none) {
					t.Errorf("kind %d, n %d: one root is not accepted", kind, n)
				}
				if impl.CheckProof(kind, n, a, n, b, none) {
					t.Errorf("kind %d, n %d: two roots are accepted", kind, n)
				}
				if n > 1 && impl.CheckProof(kind, n-1, a, n, a, none) {
					t.Errorf("kind %d, n %d: one entry more is accepted without a proof", kind, n)
				}
			}
			for _, proof := range [][]string{{""}, {a}, {b}, {a, a}} {
				if impl.CheckProof(kind, n, a, n, a, proof) {
					t.Errorf("kind %d, n %d: a proof too long, %x, is accepted", kind, n, proof)
				}
			}
			for _, wide := range []string{"", a + a, a + "x", a[1:]} {
				if impl.CheckProof(kind, n, wide, n, wide, nil) {
					t.Errorf("kind %d, n %d: roots of %d bytes are accepted", kind, n, len(wide))
				}
			}
		}
	}
}

// Elements whose bytes put together are the right ones would be taken, were it not for their width.
func TestElementsOfAnotherWidth(t *testing.T) {
	for _, kind := range bothKinds {
		a, b := plainLeaf(kind, "a"), plainLeaf(kind, "b")
		for _, z := range []string{"", "x", b + "x", b[1:], b + b, mixed(31, 1), mixed(33, 2), mixed(2, 3)} {
			if plainWide(kind, z) {
				continue
			}
			if impl.CheckPath(kind, "a", 0, 2, plainNode(kind, a, z), []string{z}) || impl.CheckPath(kind, "a", 1, 2, plainNode(kind, z, a), []string{z}) {
				t.Errorf("kind %d: a path with %d bytes is accepted", kind, len(z))
			}
			if impl.CheckPath(kind, "a", 0, 3, plainNode(kind, plainNode(kind, a, z), b), []string{z, b}) || impl.CheckPath(kind, "a", 0, 3, plainNode(kind, plainNode(kind, a, b), z), []string{b, z}) {
				t.Errorf("kind %d: a path with %d bytes and a digest is accepted", kind, len(z))
			}
			if impl.CheckProof(kind, 1, a, 2, plainNode(kind, a, z), []string{z}) {
				t.Errorf("kind %d: a proof with %d bytes is accepted", kind, len(z))
			}
			if impl.CheckProof(kind, 3, plainNode(kind, b, z), 4, plainNode(kind, b, plainNode(kind, z, a)), []string{z, a, b}) {
				t.Errorf("kind %d: a proof that begins with %d bytes is accepted", kind, len(z))
			}
			if impl.CheckProof(kind, 1, z, 2, plainNode(kind, z, a), []string{a}) {
				t.Errorf("kind %d: an old root of %d bytes is accepted", kind, len(z))
			}
		}
	}
}

// longPath is a path, or proof, of n elements, no entry behind any of them.
func longPath(kind, n int) []string {
	path := []string{}
	for i := range n {
		path = append(path, plainLeaf(kind, fmt.Sprint("element ", i)))
	}
	return path
}

func TestPathsAtTheGreatestSizes(t *testing.T) {
	if impl.MaxSize != mostSize {
		t.Fatal("MaxSize is", impl.MaxSize)
	}
	for _, kind := range bothKinds {
		for _, n := range []int{mostSize/2 - 1, mostSize / 2, mostSize/2 + 1, mostSize - 1, mostSize, mostSize + 1, mostSize + 2, 1<<32 + 1, 1 << 62, math.MaxInt - 1, math.MaxInt} {
			for _, i := range []int{0, 1, n / 3, n / 2, mostSize / 2, mostSize - 2, n - 2, n - 1, n} {
				accepted := 0
				for length := range 70 {
					path := longPath(kind, length)
					claim, there := "", false
					if i < n && n <= 1<<62 {
						claim, there = plainPathClaim(kind, "e", i, n, path)
					}
					got := impl.CheckPath(kind, "e", i, n, claim, path)
					if want := there && n <= mostSize; got != want {
						t.Errorf("kind %d, i %d, n %d, %d elements: got %v, want %v", kind, i, n, length, got, want)
					}
					if got {
						accepted++
					}
				}
				if n <= mostSize && i < n && accepted != 1 {
					t.Errorf("kind %d, i %d, n %d: paths of %d lengths are accepted", kind, i, n, accepted)
				}
			}
		}
	}
}

func TestProofsAtTheGreatestSizes(t *testing.T) {
	for _, kind := range bothKinds {
		old := plainLeaf(kind, "old")
		for _, n := range []int{mostSize/2 + 1, mostSize - 1, mostSize, mostSize + 1, 1<<32 + 1, 1 << 62} {
			for _, m := range []int{1, 2, 1000, n/2 - 1, n / 2, n/2 + 1, n / 3, mostSize / 2, n - 2, n - 1, n} {
				accepted := 0
				for length := range 70 {
					proof := longPath(kind, length)
					first, _, _ := plainTwoClaims(kind, old, m, n, proof, true)
					_, root, there := plainTwoClaims(kind, first, m, n, proof, true)
					got := impl.CheckProof(kind, m, first, n, root, proof)
					if want := there && n <= mostSize; got != want {
						t.Errorf("kind %d, m %d, n %d, %d elements: got %v, want %v", kind, m, n, length, got, want)
					}
					if got {
						accepted++
					}
				}
				if n <= mostSize && accepted != 1 {
					t.Errorf("kind %d, m %d, n %d: proofs of %d lengths are accepted", kind, m, n, accepted)
				}
			}
		}
	}
}

func TestSizesThatAreNone(t *testing.T) {
	numbers := []int{math.MinInt, math.MinInt + 1, -mostSize, -2, -1, 0, 1, 2, 3, mostSize - 1, mostSize, mostSize + 1, 1 << 62, math.MaxInt - 1, math.MaxInt}
	for _, kind := range bothKinds {
		leaf := plainLeaf(kind, "e")
		for _, n := range numbers {
			for _, i := range append(slices.Clone(numbers), n-1, n, n+1) {
				for _, path := range [][]string{nil, {leaf}, longPath(kind, 31), longPath(kind, 64)} {
					if (i < 0 || i >= n || n > mostSize) && impl.CheckPath(kind, "e", i, n, leaf, path) {
						t.Errorf("kind %d: a path of %d elements for %d of %d is accepted", kind, len(path), i, n)
					}
					if m := i; (m < 1 || m > n || n > mostSize) && impl.CheckProof(kind, m, leaf, n, leaf, path) {
						t.Errorf("kind %d: a proof of %d elements for %d of %d is accepted", kind, len(path), m, n)
					}
				}
			}
		}
		if impl.CheckPath(kind, "e", 0, 2, leaf, longPath(kind, 1000000)) || impl.CheckProof(kind, 1, leaf, 2, leaf, longPath(kind, 1000000)) {
			t.Errorf("kind %d: a million elements are accepted", kind)
		}
	}
}

func TestChecksOfOtherKinds(t *testing.T) {
	for _, kind := range noKinds {
		for _, digest := range []string{"", "a", plainLeaf(impl.KindFull, "e"), plainLeaf(impl.KindWeak, "e")} {
			if impl.CheckPath(kind, "e", 0, 1, digest, nil) || impl.CheckPath(kind, "e", 0, 2, digest, []string{digest}) || impl.CheckPath(kind, "e", 1, 2, digest, []string{digest}) {
				t.Errorf("kind %d: a path is accepted against %x", kind, digest)
			}
			if impl.CheckProof(kind, 1, digest, 1, digest, nil) || impl.CheckProof(kind, 1, digest, 2, digest, []string{digest}) || impl.CheckProof(kind, 2, digest, 3, digest, []string{digest}) || impl.CheckProof(kind, 3, digest, 4, digest, []string{digest, digest, digest}) {
				t.Errorf("kind %d: a proof is accepted against %x", kind, digest)
			}
		}
	}
}

func TestCheckedListsStayAsTheyWere(t *testing.T) {
	for _, kind := range bothKinds {
		for _, n := range []int{1, 2, 3, 7, 64, 65, 200} {
			entries := differentEntries(n)
			root := impl.Root(kind, entries)
			for _, i := range []int{0, n / 2, n - 1} {
				path, allPath := withRoom(impl.Path(kind, entries, i))
				proof, allProof := withRoom(impl.Proof(kind, entries, i+1))
				pathBefore, proofBefore := slices.Clone(allPath), slices.Clone(allProof)
				for _, size := range []int{n - 1, n, n + 1} {
					impl.CheckPath(kind, entries[i], i, size, root, path)
					impl.CheckProof(kind, i+1, impl.Root(kind, entries[:i+1]), size, root, proof)
				}
				if !slices.Equal(allPath, pathBefore) || !slices.Equal(allProof, proofBefore) {
					t.Fatalf("kind %d, %d entries: the path or the proof of %d was changed", kind, n, i)
				}
			}
		}
	}
}
