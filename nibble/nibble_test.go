package nibble_test

import (
	"encoding/hex"
	"math"
	"math/rand"
	"strings"
	"sync"
	"testing"

	"notary/api"
	"notary/nibble"
)

// begins answers the digest that begins with these bytes.
func begins(p ...byte) api.Digest {
	var d api.Digest
	copy(d[:], p)
	return d
}

// chance answers a digest of the width w.
func chance(r *rand.Rand, w int) api.Digest {
	var d api.Digest
	r.Read(d[:w])
	return d
}

// text answers the 2w digits of d, in base 16, as another library writes them.
func text(w int, d api.Digest) string { return hex.EncodeToString(d[:w]) }

// valueOf answers the number that a digit in base 16 stands for.
func valueOf(c byte) int { return strings.IndexByte("0123456789abcdef", c) }

// wordsCommon is P13.2's words: the greatest c for which the digits 0 to c - 1 are the same.
func wordsCommon(w int, a, b api.Digest) int {
	for c := 2 * w; ; c-- {
		if text(w, a)[:c] == text(w, b)[:c] {
			return c
		}
	}
}

// wordsOrder is P13.3's words: how the digits stand at the first place where they part.
func wordsOrder(w int, a, b api.Digest) int {
	c := wordsCommon(w, a, b)
	switch {
	case c == 2*w:
		return 0
	case valueOf(text(w, a)[c]) < valueOf(text(w, b)[c]):
		return -1
	}
	return 1
}

// holdsPair fails unless Common and Order of a and b are what the words say, both ways round.
func holdsPair(t *testing.T, w int, a, b api.Digest) {
	t.Helper()
	for range 2 {
		c, e := nibble.Common(w, a, b)
		if want := wordsCommon(w, a, b); c != want || e != api.OK {
			t.Fatalf("Common(%d, %s, %s) = %d, %d, want %d", w, text(w, a), text(w, b), c, e, want)
		}
		o, e := nibble.Order(w, a, b)
		if want := wordsOrder(w, a, b); o != want || e != api.OK {
			t.Fatalf("Order(%d, %s, %s) = %d, %d, want %d", w, text(w, a), text(w, b), o, e, want)
		}
		a, b = b, a
	}
}

func noWidths() []int {
	return []int{0, -1, 33, 34, 64, 256 + 4, 1<<32 + 4, 1 << 62, math.MaxInt/2 + 1, math.MaxInt, math.MinInt, math.MinInt/2 + 1}
}

func TestP13_1_EachDigit(t *testing.T) {
	r := rand.New(rand.NewSource(131))
	for w := 1; w <= api.MaxWidth; w++ {
		for range 20 {
			d := chance(r, w)
			for i := range 2 * w {
				if g, e := nibble.At(w, d, i); g != valueOf(text(w, d)[i]) || e != api.OK {
					t.Fatalf("At(%d, %s, %d) = %d, %d", w, text(w, d), i, g, e)
				}
			}
		}
	}
}

func TestP13_1_EachByte(t *testing.T) {
	for place := range api.MaxWidth {
		for v := range 256 {
			var d api.Digest
			d[place] = byte(v)
			for i, want := range map[int]int{2 * place: v / 16, 2*place + 1: v % 16} {
				for _, w := range []int{place + 1, api.MaxWidth} {
					if g, e := nibble.At(w, d, i); g != want || e != api.OK {
						t.Fatalf("At(%d, byte %d is %x, %d) = %d, %d, want %d", w, place, v, i, g, e, want)
					}
				}
			}
		}
	}
}

func TestP13_1_NoSuchDigit(t *testing.T) {
	for w := 1; w <= api.MaxWidth; w++ {
		for _, i := range []int{-1, -2, -64, math.MinInt, 2 * w, 2*w + 1, 64, 65, 256, 1 << 32, math.MaxInt} {
			if g, e := nibble.At(w, begins(0xff), i); g != 0 || e != api.ErrArg {
				t.Errorf("At(%d, .., %d) = %d, %d", w, i, g, e)
			}
		}
	}
	for _, w := range noWidths() {
		for _, i := range []int{0, 1, -1, 63, 64, 2 * w, 2*w - 1} {
			if g, e := nibble.At(w, begins(0xff), i); g != 0 || e != api.ErrArg {
				t.Errorf("At(%d, .., %d) = %d, %d", w, i, g, e)
			}
		}
	}
}

// Each place at which two digests may part, and each two digits there, with the same or other digits behind.
func TestP13_2_P13_3_EachPlace(t *testing.T) {
	r := rand.New(rand.NewSource(132))
	for _, w := range []int{1, 2, 3, 16, 31, 32} {
		for place := range 2 * w {
			for x := range 16 {
				for y := range 16 {
					a := chance(r, w)
					b := a
					if x%2 == 1 {
						b = chance(r, w)
						copy(b[:place/2], a[:place/2])
						b[place/2] = a[place/2]
					}
					setDigit(&a, place, x)
					setDigit(&b, place, y)
					holdsPair(t, w, a, b)
				}
			}
		}
	}
}

// setDigit makes v the digit number i of d.
func setDigit(d *api.Digest, i, v int) {
	if i%2 == 0 {
		d[i/2] = byte(v<<4) | d[i/2]&0x0f
	} else {
		d[i/2] = byte(v) | d[i/2]&0xf0
	}
}

func TestP13_2_P13_3_AllOfTheWidth1(t *testing.T) {
	for a := range 256 {
		for b := range 256 {
			holdsPair(t, 1, begins(byte(a)), begins(byte(b)))
		}
	}
}

func TestP13_2_P13_3_EachWidth(t *testing.T) {
	r := rand.New(rand.NewSource(133))
	for w := 1; w <= api.MaxWidth; w++ {
		a := chance(r, w)
		holdsPair(t, w, a, a)
		holdsPair(t, w, a, chance(r, w))
		holdsPair(t, w, api.Digest{}, api.Digest{})
		last := a
		last[w-1] ^= 1
		holdsPair(t, w, a, last)
		last[w-1] ^= 0x11
		holdsPair(t, w, a, last)
	}
}

// wordsSet answers which of 0 to 15 are in the set.
func wordsSet(bitmap uint16) [16]bool {
	var set [16]bool
	for i, value := 0, 1; i < 16; i, value = i+1, 2*value {
		set[i] = int(bitmap)/value%2 == 1
	}
	return set
}

// wordsBitmap answers the bitmap of a set.
func wordsBitmap(set [16]bool) uint16 {
	sum := 0
	for i, value := 0, 1; i < 16; i, value = i+1, 2*value {
		if set[i] {
			sum += value
		}
	}
	return uint16(sum)
}

func TestP13_4_EachSet(t *testing.T) {
	for b := range 1 << 16 {
		bitmap := uint16(b)
		set := wordsSet(bitmap)
		below := 0
		for i := range 16 {
			with, without := set, set
			with[i], without[i] = true, false
			if nibble.Has(bitmap, i) != set[i] || nibble.Rank(bitmap, i) != below {
				t.Fatalf("%04x, %d: Has %v, Rank %d, want %v, %d", bitmap, i, nibble.Has(bitmap, i), nibble.Rank(bitmap, i), set[i], below)
			}
			if nibble.With(bitmap, i) != wordsBitmap(with) || nibble.Without(bitmap, i) != wordsBitmap(without) {
				t.Fatalf("%04x, %d: With %04x, Without %04x", bitmap, i, nibble.With(bitmap, i), nibble.Without(bitmap, i))
			}
			if set[i] {
				below++
			}
		}
		if nibble.Count(bitmap) != below {
			t.Fatalf("Count(%04x) = %d, want %d", bitmap, nibble.Count(bitmap), below)
		}
		holdsOutside(t, bitmap, -1, 0)
		holdsOutside(t, bitmap, 16, below)
	}
}

// holdsOutside fails unless i is in no set, and so many of this one are below it.
func holdsOutside(t *testing.T, bitmap uint16, i, below int) {
	t.Helper()
	if nibble.Has(bitmap, i) || nibble.Rank(bitmap, i) != below || nibble.With(bitmap, i) != bitmap || nibble.Without(bitmap, i) != bitmap {
		t.Fatalf("%04x, %d: Has %v, Rank %d, With %04x, Without %04x", bitmap, i, nibble.Has(bitmap, i), nibble.Rank(bitmap, i), nibble.With(bitmap, i), nibble.Without(bitmap, i))
	}
}

func TestP13_4_NoDigit(t *testing.T) {
	for _, bitmap := range []uint16{0, 1, 0x8000, 0x8001, 0x8005, 0xaaaa, 0x5555, 0x7fff, 0xffff} {
		for _, i := range []int{-1, -2, -15, -16, -17, -64, -65535, -65536, math.MinInt32, math.MinInt, math.MinInt + 1, math.MinInt + 15} {
			holdsOutside(t, bitmap, i, 0)
		}
		for _, i := range []int{16, 17, 31, 32, 33, 63, 64, 65, 255, 256, 65535, 65536, 1 << 32, 1<<32 + 1, math.MaxInt - 1, math.MaxInt} {
			holdsOutside(t, bitmap, i, nibble.Count(bitmap))
		}
	}
}

func TestP13_Examples(t *testing.T) {
	d, more := begins(0xa3), begins(0xa3, 0, 0x01)
	for _, c := range []struct {
		w    int
		d    api.Digest
		i    int
		want int
		e    api.Errno
	}{
		{1, d, 0, 10, api.OK}, {1, d, 1, 3, api.OK}, {1, d, 2, 0, api.ErrArg}, {1, d, -1, 0, api.ErrArg}, {0, d, 0, 0, api.ErrArg},
		{1, more, 0, 0, api.ErrForm}, {1, more, 2, 0, api.ErrArg},
	} {
		if g, e := nibble.At(c.w, c.d, c.i); g != c.want || e != c.e {
			t.Errorf("At(%d, %x, %d) = %d, %d, want %d, %d", c.w, c.d[:3], c.i, g, e, c.want, c.e)
		}
	}
	a := begins(0xa3, 0x4f)
	for _, c := range []struct {
		b    api.Digest
		want int
	}{{begins(0xa3, 0x5f), 2}, {a, 4}, {begins(0xa4, 0x4f), 1}} {
		if g, e := nibble.Common(2, a, c.b); g != c.want || e != api.OK {
			t.Errorf("Common(2, a34f, %x) = %d, %d, want %d", c.b[:2], g, e, c.want)
		}
	}
	if g, e := nibble.Order(2, a, begins(0xa3, 0x5f)); g != -1 || e != api.OK {
		t.Errorf("Order(2, a34f, a35f) = %d, %d", g, e)
	}
	const set = 0x8005
	if !nibble.Has(set, 2) || nibble.Has(set, 3) || nibble.Has(set, 16) {
		t.Error("Has")
	}
	for i, want := range map[int]int{0: 0, 2: 1, 3: 2, 15: 2, 16: 3, -1: 0} {
		if g := nibble.Rank(set, i); g != want {
			t.Errorf("Rank(8005, %d) = %d, want %d", i, g, want)
		}
	}
	if nibble.Count(set) != 3 || nibble.With(set, 1) != 0x8007 || nibble.Without(set, 15) != 0x0005 || nibble.With(set, 16) != 0x8005 {
		t.Error("Count, With, Without")
	}
}

func TestErrors_DigestsOfAnotherWidth(t *testing.T) {
	for w := 1; w < api.MaxWidth; w++ {
		for place := w; place < api.MaxWidth; place++ {
			for _, v := range []byte{1, 0x10, 0x80, 0xff} {
				good, wrong := begins(0xa3), begins(0xa3)
				wrong[place] = v
				if g, e := nibble.At(w, wrong, 0); g != 0 || e != api.ErrForm {
					t.Fatalf("At(%d, byte %d is %x): %d, %d", w, place, v, g, e)
				}
				for _, c := range [][2]api.Digest{{good, wrong}, {wrong, good}, {wrong, wrong}, {begins(0x77), wrong}} {
					if g, e := nibble.Common(w, c[0], c[1]); g != 0 || e != api.ErrForm {
						t.Fatalf("Common(%d, byte %d is %x): %d, %d", w, place, v, g, e)
					}
					if g, e := nibble.Order(w, c[0], c[1]); g != 0 || e != api.ErrForm {
						t.Fatalf("Order(%d, byte %d is %x): %d, %d", w, place, v, g, e)
					}
				}
			}
		}
	}
}

// What is no width is told ahead of what is not of it, and so is the number of a digit that there isn't.
func TestErrors_TheLeastNumber(t *testing.T) {
	wrong := begins(0xa3)
	wrong[31] = 1
	for _, w := range noWidths() {
		for _, d := range []api.Digest{{}, begins(0xa3), wrong} {
			if g, e := nibble.At(w, d, 0); g != 0 || e != api.ErrArg {
				t.Errorf("At(%d, %x, 0): %d, %d", w, d, g, e)
			}
			if g, e := nibble.Common(w, d, begins(0xb1)); g != 0 || e != api.ErrArg {
				t.Errorf("Common(%d, %x, ..): %d, %d", w, d, g, e)
			}
			if g, e := nibble.Order(w, begins(0xb1), d); g != 0 || e != api.ErrArg {
				t.Errorf("Order(%d, .., %x): %d, %d", w, d, g, e)
			}
		}
	}
	for w := 1; w < api.MaxWidth; w++ {
		for _, i := range []int{-1, 2 * w, 64, math.MinInt, math.MaxInt} {
			if g, e := nibble.At(w, wrong, i); g != 0 || e != api.ErrArg {
				t.Errorf("At(%d, wrong, %d): %d, %d", w, i, g, e)
			}
		}
	}
}

func TestP2_ManyAtATime(t *testing.T) {
	var group sync.WaitGroup
	for i := range 8 {
		group.Go(func() {
			r := rand.New(rand.NewSource(int64(i)))
			for range 300 {
				w := 1 + r.Intn(api.MaxWidth)
				a, b := chance(r, w), chance(r, w)
				c, e := nibble.Common(w, a, b)
				o, f := nibble.Order(w, a, b)
				if c != wordsCommon(w, a, b) || o != wordsOrder(w, a, b) || e != api.OK || f != api.OK {
					t.Errorf("goroutine %d: %s, %s: %d, %d, %d, %d", i, text(w, a), text(w, b), c, o, e, f)
				}
			}
		})
	}
	group.Wait()
}
