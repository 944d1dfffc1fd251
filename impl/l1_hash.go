package impl

import (
	"math/bits"
	"strings"
)

const (
	KindFull = 0
	KindWeak = 1
)

const (
	blockSize = 64
	crcPoly   = 0xEDB88320
)

// A shaState is a plain array, so that an assignment keeps the old state beside the new one.
type shaState [8]uint32

type shaWords [64]uint32

type crcTable [256]uint32

var shaKeys = [64]uint32{
	0x428a2f98, 0x71374491, 0xb5c0fbcf, 0xe9b5dba5, 0x3956c25b, 0x59f111f1, 0x923f82a4, 0xab1c5ed5,
	0xd807aa98, 0x12835b01, 0x243185be, 0x550c7dc3, 0x72be5d74, 0x80deb1fe, 0x9bdc06a7, 0xc19bf174,
	0xe49b69c1, 0xefbe4786, 0x0fc19dc6, 0x240ca1cc, 0x2de92c6f, 0x4a7484aa, 0x5cb0a9dc, 0x76f988da,
	0x983e5152, 0xa831c66d, 0xb00327c8, 0xbf597fc7, 0xc6e00bf3, 0xd5a79147, 0x06ca6351, 0x14292967,
	0x27b70a85, 0x2e1b2138, 0x4d2c6dfc, 0x53380d13, 0x650a7354, 0x766a0abb, 0x81c2c92e, 0x92722c85,
	0xa2bfe8a1, 0xa81a664b, 0xc24b8b70, 0xc76c51a3, 0xd192e819, 0xd6990624, 0xf40e3585, 0x106aa070,
	0x19a4c116, 0x1e376c08, 0x2748774c, 0x34b0bcb5, 0x391c0cb3, 0x4ed8aa4a, 0x5b9cca4f, 0x682e6ff3,
	0x748f82ee, 0x78a5636f, 0x84c87814, 0x8cc70208, 0x90befffa, 0xa4506ceb, 0xbef9a3f7, 0xc67178f2,
}

func Sha256(s string) string {
	state := shaState{
		0x6a09e667, 0xbb67ae85, 0x3c6ef372, 0xa54ff53a,
		0x510e527f, 0x9b05688c, 0x1f83d9ab, 0x5be0cd19,
	}
	// Only the rest is padded, so that a long text isn't copied.
	whole := len(s) - len(s)%blockSize
	state = state.afterBlocks(s[:whole])
	state = state.afterBlocks(padRest(s[whole:], len(s)))
	return state.text()
}

func Crc32(s string) int {
	// The table is made anew, since nothing is kept from call to call.
	return int(makeCrcTable().sum(s))
}

func Digest(kind int, s string) string {
	switch kind {
	case KindFull:
		return Sha256(s)
	case KindWeak:
		return Sha256(s)[:1]
	}
	return ""
}

// The length of the whole text stands at the end, so padRest needs it beside the rest.
func padRest(rest string, total int) string {
	zeros := (blockSize + 55 - len(rest)) % blockSize
	return rest + "\x80" + strings.Repeat("\x00", zeros) + highFirst(uint64(total)*8, 8)
}

func highFirst(n uint64, width int) string {
	out := make([]byte, width)
	for i := range out {
		out[i] = byte(n >> (8 * (width - 1 - i)))
	}
	return string(out)
}

func (old shaState) afterBlocks(text string) shaState {
	state := old
	for ; len(text) >= blockSize; text = text[blockSize:] {
		state = state.afterBlock(makeShaWords(text[:blockSize]))
	}
	return state
}

func (old shaState) afterBlock(w shaWords) shaState {
	a, b, c, d := old[0], old[1], old[2], old[3]
	e, f, g, h := old[4], old[5], old[6], old[7]
	for t := range w {
		t1 := h + bigSigma1(e) + (e&f ^ ^e&g) + shaKeys[t] + w[t]
		t2 := bigSigma0(a) + (a&b ^ a&c ^ b&c)
		h, g, f, e, d, c, b, a = g, f, e, d+t1, c, b, a, t1+t2
	}
	return shaState{
		old[0] + a, old[1] + b, old[2] + c, old[3] + d,
		old[4] + e, old[5] + f, old[6] + g, old[7] + h,
	}
}

func (state shaState) text() string {
	var out [32]byte
	for i := range out {
		out[i] = byte(state[i/4] >> (24 - 8*(i%4)))
	}
	return string(out[:])
}

func makeShaWords(block string) shaWords {
	var w shaWords
	for t := range 16 {
		w[t] = wordAt(block, 4*t)
	}
	for t := 16; t < len(w); t++ {
		w[t] = w[t-16] + smallSigma0(w[t-15]) + w[t-7] + smallSigma1(w[t-2])
	}
	return w
}

func wordAt(s string, i int) uint32 {
	return uint32(s[i])<<24 | uint32(s[i+1])<<16 | uint32(s[i+2])<<8 | uint32(s[i+3])
}

func smallSigma0(x uint32) uint32 {
	return turnRight(x, 7) ^ turnRight(x, 18) ^ x>>3
}

func smallSigma1(x uint32) uint32 {
	return turnRight(x, 17) ^ turnRight(x, 19) ^ x>>10
}

func bigSigma0(x uint32) uint32 {
	return turnRight(x, 2) ^ turnRight(x, 13) ^ turnRight(x, 22)
}

func bigSigma1(x uint32) uint32 {
	return turnRight(x, 6) ^ turnRight(x, 11) ^ turnRight(x, 25)
}

func turnRight(x uint32, by int) uint32 {
	return bits.RotateLeft32(x, -by)
}

// The eight shifts hang on the lowest byte alone, so one look in the table stands for them.
func makeCrcTable() crcTable {
	var table crcTable
	for i := range table {
		table[i] = eightShifts(uint32(i))
	}
	return table
}

func eightShifts(c uint32) uint32 {
	for range 8 {
		out := c & 1
		c >>= 1
		if out == 1 {
			c ^= crcPoly
		}
	}
	return c
}

func (table crcTable) sum(s string) uint32 {
	c := ^uint32(0)
	for i := range len(s) {
		c = table[byte(c)^s[i]] ^ c>>8
	}
	return ^c
}
