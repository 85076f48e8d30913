package sha_test

import (
	"bytes"
	"crypto/sha256"
	"encoding/binary"
	"encoding/hex"
	"slices"
	"strings"
	"sync"
	"testing"

	"notary/sha"
)

func firstValue() [8]uint32 {
	return [8]uint32{0x6a09e667, 0xbb67ae85, 0x3c6ef372, 0xa54ff53a, 0x510e527f, 0x9b05688c, 0x1f83d9ab, 0x5be0cd19}
}

// text answers n bytes that differ from place to place.
func text(n int) []byte {
	p := make([]byte, n)
	x := uint32(n) + 1
	for i := range p {
		x = x*1664525 + 1013904223
		p[i] = byte(x >> 24)
	}
	return p
}

func TestP2_1_Compress(t *testing.T) {
	var abc, ones, up [64]byte
	copy(abc[:], "abc\x80")
	abc[63] = 24
	for i := range ones {
		ones[i], up[i] = 255, byte(i)
	}
	const most = 1<<32 - 1
	for _, c := range []struct {
		name  string
		h     [8]uint32
		block [64]byte
		want  [8]uint32
	}{
		{"abc", firstValue(), abc, [8]uint32{0xba7816bf, 0x8f01cfea, 0x414140de, 0x5dae2223, 0xb00361a3, 0x96177a9c, 0xb410ff61, 0xf20015ad}},
		{"noughts", [8]uint32{}, [64]byte{}, [8]uint32{0x7ca51614, 0x425c3ba8, 0xce54dd2f, 0xc2020ae7, 0xb6e574d1, 0x98136d0f, 0xae7e26cc, 0xbf0be7a6}},
		{"ones", [8]uint32{most, most, most, most, most, most, most, most}, ones, [8]uint32{0x598127a, 0xaf11706e, 0x77401fff, 0xd730c549, 0xb84c867, 0xa98c6ca3, 0xd7f3c0f9, 0x6a78b79}},
		{"unlike words", [8]uint32{1, 2, 3, 4, 5, 6, 7, 8}, up, [8]uint32{0xd983df8e, 0x621f4578, 0x1f917871, 0xbdcc9b3, 0x3044782b, 0xa13edb77, 0xfba54b2c, 0xd168eed7}},
	} {
		if got := sha.Compress(c.h, c.block); got != c.want {
			t.Errorf("%s: %08x, want %08x", c.name, got, c.want)
		}
	}
}

// byParts is the hash as the document makes it of the padding and the compression.
func byParts(p []byte) [32]byte {
	padded := append(slices.Clone(p), sha.Padding(uint64(len(p)))...)
	h := firstValue()
	for ; len(padded) >= 64; padded = padded[64:] {
		h = sha.Compress(h, [64]byte(padded))
	}
	var sum [32]byte
	for i, word := range h {
		binary.BigEndian.PutUint32(sum[4*i:], word)
	}
	return sum
}

func TestP2_1_BlockBehindBlock(t *testing.T) {
	for n := range 400 {
		if p := text(n); byParts(p) != sha256.Sum256(p) {
			t.Fatalf("%d bytes: %x", n, byParts(p))
		}
	}
}

func TestP2_2_Padding(t *testing.T) {
	counts := []uint64{1<<32 - 1, 1 << 32, 1<<61 - 1, 1 << 61, 1<<61 + 55, 1<<61 + 56, 1<<63 + 1, 1<<64 - 9, 1<<64 - 8, 1<<64 - 1}
	for n := range uint64(300) {
		counts = append(counts, n, 0x0102030405060700+n)
	}
	for _, n := range counts {
		want := []byte{0x80}
		for (n%64+uint64(len(want))+8)%64 != 0 {
			want = append(want, 0)
		}
		want = binary.BigEndian.AppendUint64(want, 8*n)
		if got := sha.Padding(n); !bytes.Equal(got, want) {
			t.Errorf("Padding(%d) = %x, want %x", n, got, want)
		}
	}
	for _, c := range []struct {
		n    uint64
		size int
		end  string
	}{{0, 64, "0000000000000000"}, {55, 9, "00000000000001b8"}, {56, 72, "00000000000001c0"}, {63, 65, "00000000000001f8"}, {64, 64, "0000000000000200"}, {1 << 61, 64, "0000000000000000"}} {
		p := sha.Padding(c.n)
		if len(p) != c.size || hex.EncodeToString(p[c.size-8:]) != c.end {
			t.Errorf("Padding(%d) = %x", c.n, p)
		}
	}
	p := sha.Padding(3)
	whole := p[:cap(p)]
	for i := range whole {
		whole[i] = 0xee
	}
	if q := sha.Padding(3); q[0] != 0x80 || q[1] != 0 || q[len(q)-1] != 24 {
		t.Errorf("an earlier answer is handed out again: %x", q)
	}
}

func TestP2_3_Sum256(t *testing.T) {
	for _, c := range []struct{ text, want string }{
		{"", "e3b0c44298fc1c149afbf4c8996fb92427ae41e4649b934ca495991b7852b855"},
		{"abc", "ba7816bf8f01cfea414140de5dae2223b00361a396177a9cb410ff61f20015ad"},
		{"ab", "fb8e20fc2e4c3f248c60c39bd652f3c1347298bb977b8b4d5903b85055620603"},
		{"abcdbcdecdefdefgefghfghighijhijkijkljklmklmnlmnomnopnopq", "248d6a61d20638b8e5c026930c3e6039a33ce45964ff2167f6ecedd419db06c1"},
		{strings.Repeat("a", 55), "9f4390f8d30c2dd9"},
		{strings.Repeat("a", 56), "b35439a4ac6f0948"},
		{strings.Repeat("a", 63), "7d3e74a05d7db15b"},
		{strings.Repeat("a", 64), "ffe054fe7ae0cb6d"},
		{strings.Repeat("a", 119), "31eba51c313a5c08"},
		{strings.Repeat("a", 120), "2f3d335432c70b58"},
		{strings.Repeat("a", 1000000), "cdc76e5c9914fb9281a1c7e284d73e67f1809a48a497200e046d39ccc7112cd0"},
	} {
		sum := sha.Sum256([]byte(c.text))
		if got := hex.EncodeToString(sum[:]); !strings.HasPrefix(got, c.want) {
			t.Errorf("%d bytes: %s, want %s", len(c.text), got, c.want)
		}
	}
	if sha.Sum256(nil) != sha.Sum256([]byte{}) {
		t.Error("nil and no bytes differ")
	}
	for n := range 600 {
		if p := text(n); sha.Sum256(p) != sha256.Sum256(p) {
			t.Fatalf("%d bytes: %x", n, sha.Sum256(p))
		}
	}
}

func TestP2_3_TheTextIsNotChanged(t *testing.T) {
	for _, n := range []int{0, 1, 55, 56, 64, 100, 128} {
		room := text(n + 100)
		before := slices.Clone(room)
		sha.Sum256(room[:n])
		s := sha.New()
		s.Write(room[:n])
		s.Sum()
		if !bytes.Equal(room, before) {
			t.Errorf("%d bytes: the text or its spare room changed", n)
		}
	}
}

func TestP2_4_HoweverItIsCut(t *testing.T) {
	long := text(300)
	want := sha256.Sum256(long)
	for i := range 301 {
		for _, j := range []int{i, min(i+1, 300), (i + 300) / 2, 300} {
			s := sha.New()
			s.Write(long[:i])
			s.Write(long[i:j])
			s.Write(long[j:])
			if s.Sum() != want {
				t.Fatalf("cut at %d and %d: %x", i, j, s.Sum())
			}
		}
	}
	for _, step := range []int{1, 2, 3, 7, 31, 32, 33, 63, 64, 65, 127, 128, 129, 300} {
		s := sha.New()
		for piece := range slices.Chunk(long, step) {
			s.Write(nil)
			s.Write(piece)
			s.Write([]byte{})
		}
		if s.Sum() != want {
			t.Errorf("pieces of %d bytes: %x", step, s.Sum())
		}
	}
}

func TestP2_4_SumLeavesTheStateAsItWas(t *testing.T) {
	long := text(260)
	s := sha.New()
	for i := range len(long) + 1 {
		want := sha256.Sum256(long[:i])
		if s.Sum() != want || s.Sum() != want {
			t.Fatalf("behind %d bytes: %x", i, s.Sum())
		}
		if i < len(long) {
			s.Write(long[i : i+1])
		}
	}
}

func TestP2_4_Beginnings(t *testing.T) {
	nothing, hello := sha256.Sum256(nil), sha256.Sum256([]byte("hello"))
	byHand := sha.State{}
	for _, c := range []struct {
		name string
		s    *sha.State
	}{
		{"New", sha.New()},
		{"State{}", &byHand},
		{"new(State)", new(sha.State)},
		{"a copy of New's", sha.New().Copy()},
		{"a copy of State{}", new(sha.State).Copy()},
	} {
		if c.s == nil {
			t.Fatalf("%s is nil", c.name)
		}
		if c.s.Sum() != nothing {
			t.Errorf("%s: Sum of nothing = %x", c.name, c.s.Sum())
		}
		c.s.Write(nil)
		if c.s.Sum() != nothing {
			t.Errorf("%s: Sum behind no bytes = %x", c.name, c.s.Sum())
		}
		c.s.Write([]byte("hello"))
		if c.s.Sum() != hello {
			t.Errorf("%s: Sum = %x", c.name, c.s.Sum())
		}
	}
	a, b := sha.New(), sha.New()
	a.Write([]byte("hello"))
	if b.Sum() != nothing {
		t.Error("what went into one State went into another")
	}
}

func TestP2_4_CopiesGoTheirOwnWays(t *testing.T) {
	long := text(200)
	for n := range 150 {
		s := sha.New()
		s.Write(long[:n])
		c := s.Copy()
		if c == nil || c == s {
			t.Fatal("Copy answers no State of its own")
		}
		if c.Sum() != sha256.Sum256(long[:n]) {
			t.Fatalf("a copy behind %d bytes: %x", n, c.Sum())
		}
		s.Write(long[n:])
		if c.Sum() != sha256.Sum256(long[:n]) {
			t.Fatalf("what went into s behind %d bytes went into its copy", n)
		}
		c.Write([]byte("other"))
		if s.Sum() != sha256.Sum256(long) {
			t.Fatalf("what went into the copy behind %d bytes went into s", n)
		}
		if c.Sum() != sha256.Sum256(append(slices.Clone(long[:n]), "other"...)) {
			t.Fatalf("more behind a copy of %d bytes: %x", n, c.Sum())
		}
	}
}

func TestP2_5_NothingIsKept(t *testing.T) {
	for _, n := range []int{1, 63, 64, 65, 130} {
		s := sha.New()
		p := text(n)
		want := sha256.Sum256(p)
		s.Write(p)
		clear(p)
		if s.Sum() != want {
			t.Errorf("%d bytes: written over later, and seen", n)
		}
		sum := s.Sum()
		clear(sum[:])
		if s.Sum() != want {
			t.Errorf("%d bytes: an answer is part of the State", n)
		}
	}
}

func TestP1_NilState(t *testing.T) {
	var s *sha.State
	s.Write(nil)
	s.Write(text(100))
	if s.Sum() != [32]byte{} {
		t.Errorf("Sum = %x", s.Sum())
	}
	if s.Copy() != nil {
		t.Error("Copy is not nil")
	}
}

// P2: the calls hang on their own State alone, however goroutines run; and one State may be asked by many.
func TestP2_ManyAtATime(t *testing.T) {
	shared := sha.New()
	shared.Write(text(100))
	var group sync.WaitGroup
	for i := range 16 {
		group.Go(func() {
			for n := range 100 {
				p := text(n*16 + i)
				s := sha.New()
				s.Write(p[:len(p)/2])
				s.Write(p[len(p)/2:])
				if s.Sum() != sha256.Sum256(p) || sha.Sum256(p) != sha256.Sum256(p) {
					t.Errorf("goroutine %d: %d bytes: another's hash", i, len(p))
				}
				if shared.Sum() != sha256.Sum256(text(100)) || shared.Copy().Sum() != shared.Sum() {
					t.Errorf("goroutine %d: the shared State's hash changed", i)
				}
			}
		})
	}
	group.Wait()
}
