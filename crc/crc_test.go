package crc_test

import (
	"bytes"
	"hash/crc32"
	"math"
	"math/bits"
	"math/rand"
	"slices"
	"sync"
	"testing"

	"notary/crc"
)

// text answers n bytes that differ from place to place.
func text(n int) []byte {
	p := make([]byte, n)
	rand.New(rand.NewSource(int64(n) + 1)).Read(p)
	return p
}

// words answers words with few bits, with many, and some between.
func words() []uint32 {
	list := []uint32{0, 1, 0x80000000, math.MaxUint32, 0x82f63b78, 0x12345678, 0xc1d04330}
	seed := rand.New(rand.NewSource(4))
	for range 20 {
		list = append(list, seed.Uint32())
	}
	return list
}

// z is the document's Z, word by word: c turned eight times.
func z(c uint32) uint32 {
	for range 8 {
		out := c & 1
		c >>= 1
		if out == 1 {
			c ^= 0x82f63b78
		}
	}
	return c
}

// register is the document's register for p from x.
func register(x uint32, p []byte) uint32 {
	for _, v := range p {
		x = z(x ^ uint32(v))
	}
	return x
}

func TestP4_1_Sum(t *testing.T) {
	for _, c := range []struct {
		text string
		want uint32
	}{
		{"", 0},
		{"a", 0xc1d04330},
		{"abc", 0x364b3fb7},
		{"123456789", 0xe3069283},
		{"\x00\x00\x00\x00", 0x48674bc7},
	} {
		if got := crc.Sum([]byte(c.text)); got != c.want {
			t.Errorf("Sum(%q) = %08x, want %08x", c.text, got, c.want)
		}
	}
	if crc.Sum(nil) != 0 {
		t.Error("Sum(nil) is not that of no bytes")
	}
	table := crc32.MakeTable(crc32.Castagnoli)
	for v := range 256 {
		p := []byte{byte(v)}
		if crc.Sum(p) != crc32.Checksum(p, table) {
			t.Errorf("Sum(%02x) = %08x", v, crc.Sum(p))
		}
	}
	for n := range 300 {
		if p := text(n); crc.Sum(p) != crc32.Checksum(p, table) {
			t.Errorf("Sum of %d bytes = %08x", n, crc.Sum(p))
		}
	}
}

func TestP4_1_Update(t *testing.T) {
	table := crc32.MakeTable(crc32.Castagnoli)
	for _, c := range words() {
		if crc.Update(c, nil) != c || crc.Update(c, []byte{}) != c {
			t.Errorf("Update(%08x, nothing) is not the sum itself", c)
		}
		for _, n := range []int{1, 2, 3, 4, 5, 8, 63, 100, 1000} {
			p := text(n)
			got := crc.Update(c, p)
			if got != ^register(^c, p) || got != crc32.Update(c, table, p) {
				t.Errorf("Update(%08x, %d bytes) = %08x", c, n, got)
			}
		}
	}
	for n := range 100 {
		if p := text(n); crc.Sum(p) != crc.Update(0, p) {
			t.Errorf("%d bytes: Sum is not Update from 0", n)
		}
	}
}

func TestP4_1_TheTextIsNotChanged(t *testing.T) {
	room := text(200)
	before := slices.Clone(room)
	crc.Sum(room[:100])
	crc.Update(7, room[:100])
	if !bytes.Equal(room, before) {
		t.Error("the text or its spare room changed")
	}
}

func TestP4_2_JoinOfFewBytes(t *testing.T) {
	for _, a := range words() {
		for _, b := range words() {
			moved := a
			for n := range 70 {
				if got := crc.Join(a, b, n); got != moved^b {
					t.Fatalf("Join(%08x, %08x, %d) = %08x, want %08x", a, b, n, got, moved^b)
				}
				moved = z(moved)
			}
		}
	}
	for _, c := range []struct {
		a, b uint32
		n    int
		want uint32
	}{{1, 2, 0, 3}, {1, 2, -1, 3}, {7, 5, math.MinInt, 2}, {0xc1d04330, 0, -8, 0xc1d04330}, {0, 9, math.MaxInt, 9}} {
		if got := crc.Join(c.a, c.b, c.n); got != c.want {
			t.Errorf("Join(%x, %x, %d) = %x, want %x", c.a, c.b, c.n, got, c.want)
		}
	}
}

// product multiplies polynomials over two values modulo the sum's own, words with their highest power in the lowest bit: a way to Z's powers that goes by no map of words.
func product(a, b uint32) uint32 {
	var sum uint32
	for i := 31; i >= 0; i-- {
		sum ^= b * (a >> i & 1)
		b = b>>1 ^ 0x82f63b78*(b&1)
	}
	return sum
}

// moved answers Z applied n times to c: c times the power 8n of the unknown.
func moved(c uint32, n uint64) uint32 {
	for power := uint32(1 << 23); n > 0; n >>= 1 {
		if n&1 == 1 {
			c = product(c, power)
		}
		power = product(power, power)
	}
	return c
}

func TestP4_2_JoinOfManyBytes(t *testing.T) {
	counts := []int{1000, 4097, math.MaxInt32, math.MaxUint32, math.MaxInt, math.MaxInt - 1, 3 << 40}
	for k := range 63 {
		counts = append(counts, 1<<k, 1<<k-1, 1<<k+1)
	}
	for _, a := range words() {
		if moved(a, 5) != z(z(z(z(z(a))))) {
			t.Fatal("the test's own way to Z's powers is wrong")
		}
		for _, n := range counts {
			if got := crc.Join(a, 0, n); got != moved(a, uint64(n)) {
				t.Fatalf("Join(%08x, 0, %d) = %08x, want %08x", a, n, got, moved(a, uint64(n)))
			}
		}
	}
}

func TestP4_3_PieceBehindPiece(t *testing.T) {
	for n := range 60 {
		p := text(n)
		for m := range 60 {
			q := text(m + 100)[:m]
			whole := slices.Concat(p, q)
			if crc.Join(crc.Sum(p), crc.Sum(q), m) != crc.Sum(whole) {
				t.Fatalf("%d and %d bytes: the joined sum is not the whole's", n, m)
			}
			for _, c := range words()[:9] {
				if crc.Update(crc.Update(c, p), q) != crc.Update(c, whole) {
					t.Fatalf("%d and %d bytes: Update behind Update from %08x", n, m, c)
				}
			}
		}
	}
	for _, c := range words() {
		for _, m := range []int{0, 1, 2, 3, 64, 1000, 65535} {
			q := text(m)
			if crc.Update(c, q) != crc.Join(c, crc.Sum(q), m) {
				t.Errorf("Update(%08x, %d bytes) is not the Join", c, m)
			}
		}
	}
}

// rank answers how many of the words are independent over xor.
func rank(list []uint32) int {
	var first [32]uint32
	count := 0
	for _, word := range list {
		for word != 0 {
			high := bits.Len32(word) - 1
			if first[high] == 0 {
				first[high] = word
				count++
				break
			}
			word ^= first[high]
		}
	}
	return count
}

// The sum goes with xor, so no two unlike texts of one length are alike in sum within the four places if the changes by each bit alone are independent.
func TestP4_4_FourNeighbours(t *testing.T) {
	for _, n := range []int{1, 2, 3, 4, 5, 7, 60, 300} {
		p := text(n)
		for at := 0; at == 0 || at+4 <= n; at++ {
			places := min(4, n)
			var changes []uint32
			for bit := range 8 * places {
				q := slices.Clone(p)
				q[at+bit/8] ^= 1 << (bit % 8)
				changes = append(changes, crc.Sum(p)^crc.Sum(q))
			}
			if rank(changes) != 8*places {
				t.Fatalf("%d bytes: unlike texts within the four places from %d on have one sum", n, at)
			}
		}
	}
}

func TestP4_4_UnlikeTexts(t *testing.T) {
	seed := rand.New(rand.NewSource(44))
	for range 20000 {
		n := 1 + seed.Intn(40)
		p := text(n)
		q := slices.Clone(p)
		at := seed.Intn(n)
		for i := at; i < min(at+4, n); i++ {
			q[i] = byte(seed.Intn(256)) >> seed.Intn(8)
		}
		if (crc.Sum(p) == crc.Sum(q)) != bytes.Equal(p, q) {
			t.Fatalf("%x and %x: %08x and %08x", p, q, crc.Sum(p), crc.Sum(q))
		}
	}
}

// P2: the calls hang on their arguments alone, however goroutines run.
func TestP2_ManyAtATime(t *testing.T) {
	table := crc32.MakeTable(crc32.Castagnoli)
	shared := text(300)
	var group sync.WaitGroup
	for i := range 16 {
		group.Go(func() {
			for n := range 100 {
				p := shared[i : i+n]
				if crc.Sum(p) != crc32.Checksum(p, table) {
					t.Errorf("goroutine %d: Sum of %d bytes", i, n)
				}
				if crc.Join(crc.Sum(p), crc.Sum(shared), len(shared)) != crc32.Update(crc32.Checksum(p, table), table, shared) {
					t.Errorf("goroutine %d: Join behind %d bytes", i, n)
				}
			}
		})
	}
	group.Wait()
}
