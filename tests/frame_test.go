package tests

import (
	"encoding/binary"
	"fmt"
	"hash/crc32"
	"math/rand"
	"slices"
	"strings"
	"testing"

	"loop.example/s02884/impl"
)

// framed is a frame with any length and any sum before what may be an entry.
func framed(size, sum uint32, entry string) string {
	head := binary.BigEndian.AppendUint32(nil, size)
	return string(binary.BigEndian.AppendUint32(head, sum)) + entry
}

func sumOf(entry string) uint32 { return crc32.ChecksumIEEE([]byte(entry)) }

func plainFrame(entry string) string {
	if entry == "" || len(entry) > 60000 {
		return ""
	}
	return framed(uint32(len(entry)), sumOf(entry), entry)
}

// plainScan tries at each place every entry whose length the four bytes there may tell.
func plainScan(data string) ([]string, int) {
	entries, at := []string{}, 0
	for {
		rest := data[at:]
		if len(rest) < 8 {
			return entries, at
		}
		size := int(binary.BigEndian.Uint32([]byte(rest)))
		if len(rest)-8 < size {
			return entries, at
		}
		frame := plainFrame(rest[8 : 8+size])
		if frame == "" || !strings.HasPrefix(rest, frame) {
			return entries, at
		}
		entries, at = append(entries, rest[8:8+size]), at+len(frame)
	}
}

func askScan(t *testing.T, data string) ([]string, int) {
	t.Helper()
	entries, size := impl.ScanFrames(data)
	again, _ := impl.ScanFrames(data)
	want, wantSize := plainScan(data)
	if !slices.Equal(entries, want) || size != wantSize || !slices.Equal(again, want) {
		t.Errorf("%s: got %d entries, %d bytes, want %d, %d", short(data), len(entries), size, len(want), wantSize)
	}
	if !areApart(addSpan(nil, entries), addSpan(nil, again)) {
		t.Errorf("%s: memory is shared", short(data))
	}
	for _, entry := range entries {
		if liesIn(entry, data) {
			t.Errorf("%s: an entry lies in the bytes", short(data))
		}
	}
	return entries, size
}

// askFrames holds ScanFrames against promise 10: the entries, and behind them what no frame begins.
func askFrames(t *testing.T, entries []string, behind string) {
	t.Helper()
	data := ""
	for _, entry := range entries {
		data += impl.Frame(entry)
	}
	got, size := askScan(t, data+behind)
	if !slices.Equal(got, entries) || size != len(data) {
		t.Errorf("%d entries, %q behind: got %d, %d bytes", len(entries), short(behind), len(got), size)
	}
}

func TestFrames(t *testing.T) {
	for entry, want := range map[string]string{
		"":          "",
		"a":         "\x00\x00\x00\x01\xe8\xb7\xbe\x43a",
		"\x00":      "\x00\x00\x00\x01\xd2\x02\xef\x8d\x00",
		"123456789": "\x00\x00\x00\x09\xcb\xf4\x39\x26123456789",
	} {
		if got := impl.Frame(entry); got != want {
			t.Errorf("%q: got %q, want %q", entry, got, want)
		}
	}
	for _, n := range []int{0, 1, 2, 3, 4, 7, 8, 9, 63, 64, 255, 256, 257, 59999, 60000, 60001, 65535, 65536, 65537, 1 << 20} {
		entry := mixed(n, n)
		if got := impl.Frame(entry); got != plainFrame(entry) || (got == "") == (n >= 1 && n <= 60000) {
			t.Errorf("%d bytes: got %d bytes", n, len(got))
		}
		if n >= 1 && n <= 60000 {
			askFrames(t, []string{entry}, "")
			askFrames(t, []string{entry, "x", entry}, entry[:min(n, 7)])
		}
	}
}

// noFrames are bytes with which no frame begins.
func noFrames() map[string]string {
	long := mixed(60001, 5)
	good := plainFrame("good")
	all := map[string]string{
		"nothing":                       "",
		"length 0":                      framed(0, sumOf(""), ""),
		"length 0, bytes behind":        framed(0, sumOf(""), "abc"),
		"length 0, frame behind":        framed(0, sumOf(""), good),
		"length too great":              framed(60001, sumOf(long), long),
		"length too great, more behind": framed(60001, sumOf(long), long+good),
		"one byte missing":              good[:len(good)-1],
		"one more than there is":        framed(5, sumOf("good"), "good"),
		"greatest, one byte missing":    framed(60000, sumOf(long[:60000]), long[:59999]),
		"highest bit":                   framed(1<<31|4, sumOf("good"), "good"),
		"highest bit alone":             framed(1<<31, sumOf(""), ""),
		"all bits":                      framed(1<<32-1, sumOf("good"), "good"),
		"65536 more":                    framed(1<<16|4, sumOf("good"), "good"),
		"65536 more, all there":         framed(1<<16|4, sumOf("good"), "good"+mixed(1<<16, 1)),
		"lowest byte first":             "\x04\x00\x00\x00" + good[4:],
		"sum, lowest byte first":        good[:4] + string([]byte{good[7], good[6], good[5], good[4]}) + good[8:],
		"sum not turned round":          framed(4, ^sumOf("good"), "good"),
		"sum of another":                framed(4, sumOf("food"), "good"),
		"sum 0":                         framed(4, 0, "good"),
		"bad, then a good one":          framed(4, 1, "good") + good,
		"a byte too many before":        "\x00" + good,
		"a byte too few before":         good[1:] + good,
		"zeros":                         strings.Repeat("\x00", 100),
		"sum of the length too":         framed(4, sumOf("\x00\x00\x00\x04good"), "good"),
		"sum of what is behind too":     framed(4, sumOf("good!"), "good!"),
	}
	for n := 1; n < len(good); n++ {
		all[fmt.Sprint(n, " bytes")] = good[:n]
		all[fmt.Sprint(n, " zero bytes")] = strings.Repeat("\x00", n)
		all[fmt.Sprint(n, " bytes of all bits")] = strings.Repeat("\xff", n)
	}
	return all
}

func TestPlacesWhereNoFrameBegins(t *testing.T) {
	for what, bytes := range noFrames() {
		if entries, size := askScan(t, bytes); len(entries) != 0 || size != 0 {
			t.Errorf("%s: got %q, %d bytes", what, entries, size)
		}
		askFrames(t, []string{"a"}, bytes)
		askFrames(t, []string{"first", "second", "\x00"}, bytes)
		askFrames(t, []string{mixed(60000, 1), "b"}, bytes)
		askFrames(t, nil, bytes+plainFrame("zz")[:7])
	}
	for _, what := range []string{"bad, then a good one", "length 0", "sum 0", "zeros", "length too great", "sum of another"} {
		askFrames(t, []string{"first"}, noFrames()[what]+plainFrame("good")+plainFrame("more"))
	}
}

func TestFramesOneAfterAnother(t *testing.T) {
	source := rand.New(rand.NewSource(63))
	behind := slices.Sorted(func(yield func(string) bool) {
		for _, bytes := range noFrames() {
			if !yield(bytes) {
				return
			}
		}
	})
	for range 2000 {
		entries := []string{}
		for range source.Intn(12) {
			entry := mixed(1+source.Intn(30), source.Intn(1000))
			if source.Intn(4) == 0 {
				// An entry may itself be a frame or a piece of one.
				entry = plainFrame(entry)[source.Intn(8):]
			}
			entries = append(entries, entry)
		}
		askFrames(t, entries, pick(source, behind))
	}
	many := numbered(20000, "e")
	askFrames(t, many, "")
	askFrames(t, many, "\x00")
}

func TestFramesCutAtEveryPlace(t *testing.T) {
	data, ends := "", map[int]int{0: 0}
	for i, entry := range []string{"a", "bcd", mixed(20, 1), plainFrame("in"), "z"} {
		data += plainFrame(entry)
		ends[len(data)] = i + 1
	}
	best := 0
	for n := range len(data) + 1 {
		if _, isEnd := ends[n]; isEnd {
			best = n
		}
		if entries, size := askScan(t, data[:n]); len(entries) != ends[best] || size != best {
			t.Errorf("%d bytes: got %d entries, %d bytes", n, len(entries), size)
		}
	}
}

func TestEveryByteOfAFrameChanged(t *testing.T) {
	frame := plainFrame("entry")
	for at := range len(frame) {
		for by := 1; by < 256; by++ {
			changed := []byte(frame)
			changed[at] ^= byte(by)
			entries, size := askScan(t, string(changed)+frame)
			if at >= 4 && (len(entries) != 0 || size != 0) {
				t.Errorf("byte %d changed by %d: got %q", at, by, entries)
			}
		}
	}
}

// changedBits gives the frame whose entry is changed at these bits, bit 0 being the lowest of the first byte.
func changedBits(frame string, first int, pattern uint64) string {
	bytes := []byte(frame)
	for i := range 64 {
		if pattern>>i&1 == 1 {
			at := first + i
			bytes[8+at/8] ^= 1 << (at % 8)
		}
	}
	return string(bytes)
}

func askBurst(t *testing.T, frame string, first int, pattern uint64) {
	t.Helper()
	if entries, size := impl.ScanFrames(changedBits(frame, first, pattern)); len(entries) != 0 || size != 0 {
		t.Errorf("an entry of %d bytes, bits %b changed at %d: still a frame", len(frame)-8, pattern, first)
	}
}

func TestBurstsAtEveryPlace(t *testing.T) {
	source := rand.New(rand.NewSource(64))
	for _, n := range []int{1, 2, 3, 4, 5, 8, 17, 40} {
		for seed := range 3 {
			frame := impl.Frame(mixed(n, seed))
			for first := range 8 * n {
				for width := 1; width <= min(32, 8*n-first); width++ {
					ends := uint64(1) | 1<<(width-1)
					askBurst(t, frame, first, ends)
					askBurst(t, frame, first, 1<<width-1)
					askBurst(t, frame, first, ends|source.Uint64()&(1<<width-1))
				}
			}
		}
	}
}

func TestEveryShortBurst(t *testing.T) {
	frame := impl.Frame("abcd")
	for first := range 32 {
		for pattern := uint64(1); pattern < 1<<11 && pattern < 1<<(32-first); pattern += 2 {
			askBurst(t, frame, first, pattern)
		}
	}
}

func TestBurstsInTheLongestEntry(t *testing.T) {
	source := rand.New(rand.NewSource(65))
	frame := impl.Frame(mixed(60000, 9))
	for _, first := range []int{0, 1, 7, 8, 31, 8*30000 - 3, 8*60000 - 33, 8*60000 - 32} {
		for width := 1; width <= 32; width++ {
			askBurst(t, frame, first, 1|1<<(width-1)|source.Uint64()&(1<<width-1))
		}
	}
	askBurst(t, frame, 8*60000-1, 1)
	// A burst of 33 bits may be missed: this one is, so 32 is where the promise ends.
	small := impl.Frame("abcde")
	if entries, _ := impl.ScanFrames(changedBits(small, 3, missedBurst())); len(entries) != 1 {
		t.Errorf("the test's own: the burst of 33 bits is seen")
	}
}

// missedBurst is the polynomial of the CRC itself, of 33 bits.
func missedBurst() uint64 { return 1 | 0xedb88320<<1 }
