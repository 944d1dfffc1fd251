package tests

import (
	"crypto/sha256"
	"encoding/hex"
	"hash/crc32"
	"math"
	"strings"
	"testing"

	"loop.example/s02884/impl"
)

// edgeLengths stand around the edges of a block and of the padding.
var edgeLengths = []int{0, 1, 54, 55, 56, 57, 62, 63, 64, 65, 118, 119, 120, 121, 127, 128, 129, 183, 184, 191, 192, 193, 1000, 60000}

// noKinds are numbers of no kind.
var noKinds = []int{-1, -2, 2, 3, 32, 255, 256, 257, 1 << 32, 1<<32 + 1, -1 << 32, math.MaxInt, math.MinInt, math.MinInt + 1}

// allBytes goes through every byte from 0 to 255.
func allBytes() string {
	var text strings.Builder
	for b := range 256 {
		text.WriteByte(byte(b))
	}
	return text.String()
}

// mixed is a text of n bytes in which neighbours, and whole blocks, differ.
func mixed(n, seed int) string {
	text := make([]byte, n)
	x := uint32(seed)*2654435761 + 1
	for i := range text {
		x = x*1664525 + 1013904223
		text[i] = byte(x >> 24)
	}
	return string(text)
}

// hashTexts are the texts at which every function of the layer is asked.
func hashTexts() []string {
	texts := []string{"", "abc", "123456789", allBytes(), allBytes() + allBytes() + allBytes()}
	for b := range 256 {
		texts = append(texts, string([]byte{byte(b)}))
	}
	for n := range 300 {
		texts = append(texts, mixed(n, n))
	}
	for _, n := range edgeLengths {
		texts = append(texts, strings.Repeat("a", n), strings.Repeat("\x00", n), strings.Repeat("\xff", n), mixed(n, 7))
	}
	return texts
}

func short(text string) string {
	return hex.EncodeToString([]byte(text[:min(len(text), 16)]))
}

func TestSha256KnownTexts(t *testing.T) {
	cases := []struct{ name, text, want string }{
		{"empty", "", "e3b0c44298fc1c149afbf4c8996fb92427ae41e4649b934ca495991b7852b855"},
		{"abc", "abc", "ba7816bf8f01cfea414140de5dae2223b00361a396177a9cb410ff61f20015ad"},
		{"two blocks", "abcdbcdecdefdefgefghfghighijhijkijkljklmklmnlmnomnopnopq", "248d6a61d20638b8e5c026930c3e6039a33ce45964ff2167f6ecedd419db06c1"},
		{"112 bytes", "abcdefghbcdefghicdefghijdefghijkefghijklfghijklmghijklmnhijklmnoijklmnopjklmnopqklmnopqrlmnopqrsmnopqrstnopqrstu", "cf5b16a778af8380036ce59e7b0492370b249b11e8f07a51afac45037afee9d1"},
		{"a million", strings.Repeat("a", 1000000), "cdc76e5c9914fb9281a1c7e284d73e67f1809a48a497200e046d39ccc7112cd0"},
		{"all bytes", allBytes(), "40aff2e9d2d8922e47afd4648e6967497158785fbd1da870e7110266bf944880"},
	}
	for _, c := range cases {
		if got := hex.EncodeToString([]byte(impl.Sha256(c.text))); got != c.want {
			t.Errorf("%s: got %s, want %s", c.name, got, c.want)
		}
	}
}

func TestSha256AtEveryLength(t *testing.T) {
	for _, text := range hashTexts() {
		want := sha256.Sum256([]byte(text))
		if got := impl.Sha256(text); got != string(want[:]) {
			t.Errorf("%d bytes %s..: got %x, want %x", len(text), short(text), got, want)
		}
	}
}

func TestCrc32KnownTexts(t *testing.T) {
	cases := []struct {
		text string
		want int
	}{
		{"", 0},
		{"123456789", 3421780262},
		{"a", 3904355907},
		{"abc", 891568578},
		{"\x00", 3523407757},
		{"\xff", 4278190080},
		{"\xff\xff\xff\xff", 4294967295},
		{"The quick brown fox jumps over the lazy dog", 1095738169},
		{allBytes(), 688229491},
	}
	for _, c := range cases {
		if got := impl.Crc32(c.text); got != c.want {
			t.Errorf("%d bytes %s..: got %d, want %d", len(c.text), short(c.text), got, c.want)
		}
	}
}

func TestCrc32AtEveryLength(t *testing.T) {
	for _, text := range hashTexts() {
		want := int(crc32.ChecksumIEEE([]byte(text)))
		got := impl.Crc32(text)
		if got != want {
			t.Errorf("%d bytes %s..: got %d, want %d", len(text), short(text), got, want)
		}
		if got < 0 || got > math.MaxUint32 {
			t.Errorf("%d bytes %s..: %d is outside of 32 bits", len(text), short(text), got)
		}
	}
}

func TestDigestOfBothKinds(t *testing.T) {
	if impl.KindFull != 0 || impl.KindWeak != 1 {
		t.Fatal("the kinds are", impl.KindFull, impl.KindWeak)
	}
	for _, text := range hashTexts() {
		full := sha256.Sum256([]byte(text))
		if got := impl.Digest(impl.KindFull, text); got != string(full[:]) {
			t.Errorf("full, %d bytes %s..: got %x", len(text), short(text), got)
		}
		if got := impl.Digest(impl.KindWeak, text); got != string(full[:1]) {
			t.Errorf("weak, %d bytes %s..: got %x, want %x", len(text), short(text), got, full[:1])
		}
	}
}

func TestDigestOfOtherKinds(t *testing.T) {
	for _, kind := range noKinds {
		for _, text := range []string{"", "abc", allBytes(), mixed(200, 1)} {
			if got := impl.Digest(kind, text); got != "" {
				t.Errorf("kind %d, %d bytes: got %x", kind, len(text), got)
			}
		}
	}
}
