package segment_test

import (
	"bytes"
	"encoding/binary"
	"fmt"
	"math"
	"math/big"
	"math/rand"
	"reflect"
	"slices"
	"strings"
	"sync"
	"testing"

	"notary/api"
	"notary/entry"
	"notary/frame"
	"notary/segment"
)

func put(key, value string) api.Entry {
	return api.Entry{Kind: api.Put, Key: []byte(key), Value: []byte(value)}
}

func del(key string) api.Entry { return api.Entry{Kind: api.Delete, Key: []byte(key)} }

func batch(first uint64, entries ...api.Entry) api.Batch {
	return api.Batch{First: first, Entries: entries}
}

func sameEntry(a, b api.Entry) bool {
	return a.Kind == b.Kind && bytes.Equal(a.Key, b.Key) && bytes.Equal(a.Value, b.Value)
}

func sameBatch(a, b api.Batch) bool {
	return a.First == b.First && slices.EqualFunc(a.Entries, b.Entries, sameEntry)
}

func same(a, b segment.Segment) bool {
	return a.Head == b.Head && a.Used == b.Used && slices.EqualFunc(a.Batches, b.Batches, sameBatch)
}

// framed answers a frame's bytes; the layer below has tests of its own.
func framed(t *testing.T, place uint64, payload []byte) []byte {
	t.Helper()
	p, e := frame.Encode(frame.Frame{Place: place, Payload: payload})
	if e != api.OK {
		t.Fatalf("a frame of %d bytes: %d", len(payload), e)
	}
	return p
}

// headPayload is P8.2's words, for any width that a byte can tell.
func headPayload(h segment.Head) []byte {
	p := []byte("NTRY1")
	p = binary.BigEndian.AppendUint64(p, h.Number)
	p = binary.BigEndian.AppendUint64(p, h.Epoch)
	p = binary.BigEndian.AppendUint64(p, h.First)
	return append(p, byte(h.Width))
}

func headBytes(t *testing.T, h segment.Head) []byte {
	t.Helper()
	return framed(t, h.Number, headPayload(h))
}

func batchPayload(t *testing.T, b api.Batch) []byte {
	t.Helper()
	p, e := entry.EncodeBatch(b)
	if e != api.OK {
		t.Fatalf("a batch at %d of %d entries: %d", b.First, len(b.Entries), e)
	}
	return p
}

func batchBytes(t *testing.T, b api.Batch) []byte {
	t.Helper()
	return framed(t, b.First, batchPayload(t, b))
}

// file answers a segment's bytes, and the places behind its head and behind each of its batches.
func file(t *testing.T, h segment.Head, batches ...api.Batch) ([]byte, []int) {
	t.Helper()
	p := headBytes(t, h)
	places := []int{len(p)}
	for _, b := range batches {
		p = append(p, batchBytes(t, b)...)
		places = append(places, len(p))
	}
	return p, places
}

func TestP8_1_Name(t *testing.T) {
	for _, c := range []struct {
		number uint64
		want   string
	}{
		{0, "seg-00000000000000000000"},
		{7, "seg-00000000000000000007"},
		{10, "seg-00000000000000000010"},
		{1234567890123456789, "seg-01234567890123456789"},
		{9999999999999999999, "seg-09999999999999999999"},
		{10000000000000000000, "seg-10000000000000000000"},
		{math.MaxUint64, "seg-18446744073709551615"},
	} {
		if got := segment.Name(c.number); got != c.want {
			t.Errorf("Name(%d) = %q, want %q", c.number, got, c.want)
		}
		if got, e := segment.Number(c.want); e != api.OK || got != c.number {
			t.Errorf("Number(%q) = %d, %d", c.want, got, e)
		}
	}
}

func TestP8_1_NamesGoAsNumbersDo(t *testing.T) {
	numbers := []uint64{0, math.MaxUint64}
	for ten := uint64(1); ten <= 1000000000000000000; ten *= 10 {
		numbers = append(numbers, ten-1, ten, ten+1, 9*ten)
	}
	r := rand.New(rand.NewSource(81))
	for range 200 {
		numbers = append(numbers, r.Uint64()>>r.Intn(64))
	}
	slices.Sort(numbers)
	for i, n := range numbers {
		name := segment.Name(n)
		if name != fmt.Sprintf("seg-%020d", n) {
			t.Errorf("Name(%d) = %q", n, name)
		}
		if got, e := segment.Number(name); e != api.OK || got != n {
			t.Errorf("Number(%q) = %d, %d", name, got, e)
		}
		if i > 0 && numbers[i-1] < n && segment.Name(numbers[i-1]) >= name {
			t.Errorf("the name of %d is not ahead of that of %d", numbers[i-1], n)
		}
	}
}

// refNumber is P8.1's words: 20 digits that tell a number of at most 2^64 - 1.
func refNumber(name string) (uint64, api.Errno) {
	digits, ok := strings.CutPrefix(name, "seg-")
	if !ok || len(digits) != 20 || strings.Trim(digits, "0123456789") != "" {
		return 0, api.ErrForm
	}
	n, ok := new(big.Int).SetString(digits, 10)
	if !ok || !n.IsUint64() {
		return 0, api.ErrForm
	}
	return n.Uint64(), api.OK
}

func TestP8_1_NoNames(t *testing.T) {
	for _, name := range []string{
		"", "s", "seg", "seg-", "seg-7", "seg-18446744073709551616", "seg-18446744073709551620", "seg-20000000000000000000", "seg-99999999999999999999",
		"seg-0000000000000000000x", "seg-0000000000000000007", "seg-000000000000000000007", "seg-018446744073709551615",
		"00000000000000000007", "seg_00000000000000000007", "SEG-00000000000000000007", "Seg-00000000000000000007",
		"seg-+0000000000000000007", "seg--0000000000000000007", "seg- 0000000000000000007", "seg-0000000000000000007 ", " seg-00000000000000000007",
		"seg-seg-00000000000000000007", "seg-0x000000000000000007", "seg-0000_000000000000007", "seg-0000000000000000007\x00", "seg-00000000000000000007\x00",
		"seg-00000000000000000007.0", "seg-0000000000000000٧", "seg-000000000000000000e1", strings.Repeat("0", 24), "seg-" + strings.Repeat("0", 1000),
	} {
		if n, e := segment.Number(name); n != 0 || e != api.ErrForm {
			t.Errorf("Number(%q) = %d, %d, want ErrForm", name, n, e)
		}
	}
	for _, name := range []string{"seg-00000000000000000007", "seg-18446744073709551615", "seg-18446744073709551609"} {
		for i := range name {
			for b := range 256 {
				near := name[:i] + string([]byte{byte(b)}) + name[i+1:]
				got, e := segment.Number(near)
				if want, f := refNumber(near); got != want || e != f {
					t.Errorf("Number(%q) = %d, %d, want %d, %d", near, got, e, want, f)
				}
			}
			for _, near := range []string{name[:i], name[i:], name[:i] + name[i+1:], name[:i] + "0" + name[i:]} {
				got, e := segment.Number(near)
				if want, f := refNumber(near); got != want || e != f {
					t.Errorf("Number(%q) = %d, %d, want %d, %d", near, got, e, want, f)
				}
			}
		}
	}
}

func heads() []segment.Head {
	return []segment.Head{
		{Number: 1, Epoch: 1, First: 0, Width: 32},
		{Number: 0, Epoch: 0, First: 0, Width: 1},
		{Number: 0x0102030405060708, Epoch: 0x1112131415161718, First: 0x2122232425262728, Width: 2},
		{Number: math.MaxUint64, Epoch: math.MaxUint64, First: math.MaxUint64, Width: 32},
		{Number: 1 << 63, Epoch: 255, First: 256, Width: 31},
	}
}

func TestP8_2_EncodeHead(t *testing.T) {
	for _, h := range heads() {
		p, e := segment.EncodeHead(h)
		if e != api.OK || len(p) != 48 || !bytes.Equal(p, headBytes(t, h)) {
			t.Errorf("EncodeHead(%v) = %x, %d", h, p, e)
		}
		f, next, kind := frame.Next(p, 0)
		if kind != frame.Whole || next != 48 || f.Place != h.Number || len(f.Payload) != 30 || !bytes.Equal(f.Payload, headPayload(h)) {
			t.Errorf("EncodeHead(%v) is no frame of a head: %v, %d, %d", h, f, next, kind)
		}
	}
	p, _ := segment.EncodeHead(segment.Head{Number: 7, Epoch: 3, First: 258, Width: 16})
	if want := "NTRY1\x00\x00\x00\x00\x00\x00\x00\x07\x00\x00\x00\x00\x00\x00\x00\x03\x00\x00\x00\x00\x00\x00\x01\x02\x10"; string(p[17:47]) != want {
		t.Errorf("the payload of a head is %q", p[17:47])
	}
}

func TestP8_2_Widths(t *testing.T) {
	for w := 1; w <= 32; w++ {
		h := segment.Head{Number: 9, Epoch: 2, First: 4, Width: w}
		p, e := segment.EncodeHead(h)
		if e != api.OK || !bytes.Equal(p, headBytes(t, h)) {
			t.Errorf("the width %d: %x, %d", w, p, e)
		}
		if got, e := segment.Read(p); e != api.OK || got.Head != h {
			t.Errorf("the width %d read: %v, %d", w, got, e)
		}
	}
	for _, w := range []int{0, 33, 34, 64, 255, 256, 257, 288, -1, -224, -255, math.MinInt, math.MaxInt, 1<<32 + 1} {
		if p, e := segment.EncodeHead(segment.Head{Number: 9, Width: w}); len(p) != 0 || e != api.ErrArg {
			t.Errorf("the width %d: %x, %d, want ErrArg", w, p, e)
		}
	}
}

// sized answers an entry whose key and value have so many bytes.
func sized(kind byte, key, value int) api.Entry {
	return api.Entry{Kind: kind, Key: bytes.Repeat([]byte{'k'}, key), Value: bytes.Repeat([]byte{'v'}, value)}
}

func TestP8_3_EncodeBatch(t *testing.T) {
	for _, b := range []api.Batch{
		batch(0, put("a", "x")),
		batch(5, put("a", "x"), del("a")),
		batch(1<<40, put("", ""), del(""), put("k", "")),
		batch(math.MaxUint64-1, del("last")),
		batch(math.MaxUint64-64, slices.Repeat([]api.Entry{sized(api.Put, 64, 256)}, 64)...),
	} {
		p, e := segment.EncodeBatch(b)
		if e != api.OK || !bytes.Equal(p, batchBytes(t, b)) {
			t.Errorf("EncodeBatch of %d entries at %d: %d bytes, %d", len(b.Entries), b.First, len(p), e)
		}
		f, next, kind := frame.Next(p, 0)
		if kind != frame.Whole || next != len(p) || f.Place != b.First || !bytes.Equal(f.Payload, batchPayload(t, b)) {
			t.Errorf("EncodeBatch at %d is no frame of a batch: %d, %d", b.First, next, kind)
		}
	}
}

func TestP8_3_BatchesRefused(t *testing.T) {
	for _, c := range []struct {
		name string
		b    api.Batch
		want api.Errno
	}{
		{"none", api.Batch{}, api.ErrForm},
		{"none, at the end", batch(math.MaxUint64), api.ErrForm},
		{"beyond the greatest size", batch(math.MaxUint64, put("a", "x")), api.ErrForm},
		{"two beyond the greatest size", batch(math.MaxUint64-1, put("a", "x"), del("a")), api.ErrForm},
		{"too many", batch(0, slices.Repeat([]api.Entry{del("a")}, 65)...), api.ErrLong},
		{"too many, and none of a kind", batch(0, make([]api.Entry, 65)...), api.ErrLong},
		{"no kind", batch(0, api.Entry{Kind: 3}), api.ErrForm},
		{"a key too long", batch(0, put("a", "x"), sized(api.Put, 65, 0)), api.ErrLong},
		{"a value too long", batch(0, sized(api.Put, 0, 257)), api.ErrLong},
		{"a Delete with a value", batch(0, sized(api.Delete, 1, 1)), api.ErrForm},
		{"no kind ahead of a key too long", batch(0, api.Entry{}, sized(api.Put, 65, 0)), api.ErrLong},
	} {
		p, e := segment.EncodeBatch(c.b)
		if _, f := entry.EncodeBatch(c.b); f != c.want {
			t.Errorf("%s: the layer below answers %d", c.name, f)
		}
		if len(p) != 0 || e != c.want {
			t.Errorf("%s: %x, %d, want %d", c.name, p, e, c.want)
		}
	}
}

func TestP8_4_NoHead(t *testing.T) {
	h := segment.Head{Number: 3, Epoch: 2, First: 5, Width: 4}
	p, _ := file(t, h, batch(5, put("a", "x")))
	payload := headPayload(h)
	turned := func(i int, b byte) []byte {
		q := slices.Clone(payload)
		q[i] = b
		return framed(t, 3, q)
	}
	wide := func(w int) []byte { return headBytes(t, segment.Head{Number: 3, Epoch: 2, First: 5, Width: w}) }
	texts := map[string][]byte{
		"nothing":                       nil,
		"no bytes":                      {},
		"noughts":                       make([]byte, 48),
		"a byte ahead":                  append([]byte{0}, p...),
		"a batch alone":                 batchBytes(t, batch(5, put("a", "x"))),
		"a batch ahead of the head":     slices.Concat(batchBytes(t, batch(5, put("a", "x"))), p),
		"a batch with the head's name":  framed(t, 3, batchPayload(t, batch(3, put("a", "x")))),
		"the payload without a frame":   payload,
		"a head in two frames":          framed(t, 3, p),
		"a Place that is another one":   framed(t, 4, payload),
		"the Epoch as Place":            framed(t, 2, payload),
		"the First as Place":            framed(t, 5, payload),
		"Place 0":                       framed(t, 0, payload),
		"29 bytes":                      framed(t, 3, payload[:29]),
		"31 bytes":                      framed(t, 3, append(slices.Clone(payload), 4)),
		"31 bytes, a nought":            framed(t, 3, append(slices.Clone(payload), 0)),
		"the mark alone":                framed(t, 3, []byte("NTRY1")),
		"one byte":                      framed(t, 3, []byte{'N'}),
		"30 noughts":                    framed(t, 0, make([]byte, 30)),
		"the width 0":                   wide(0),
		"the width 33":                  wide(33),
		"the width 128":                 wide(128),
		"the width 255":                 wide(255),
		"the mark of another kind":      turned(4, '2'),
		"a small letter":                turned(0, 'n'),
		"another Number":                turned(12, 4),
		"a Number with a high byte":     turned(5, 1),
		"no mark, numbers in its place": framed(t, 0x0101010101010101, bytes.Repeat([]byte{1}, 30)),
		"no mark, numbers behind it":    framed(t, 3, append([]byte("ntry0"), payload[5:]...)),
	}
	for i := range 5 {
		texts[fmt.Sprint("the mark turned at ", i)] = turned(i, payload[i]^1)
	}
	for cut := range 48 {
		texts[fmt.Sprint("the first bytes: ", cut)] = p[:cut]
		texts[fmt.Sprint("noughts behind the first bytes: ", cut)] = append(slices.Clone(p[:cut]), make([]byte, 100)...)
	}
	for name, text := range texts {
		for _, behind := range [][]byte{nil, make([]byte, 9), p} {
			if len(text) == 0 && len(behind) > 0 {
				continue
			}
			got, e := segment.Read(slices.Concat(text, behind))
			if e != api.ErrForm || !same(got, segment.Segment{}) {
				t.Errorf("%s, with %d bytes behind: %v, %d, want ErrForm", name, len(behind), got, e)
			}
		}
	}
}

func TestP8_4_HeadAlone(t *testing.T) {
	for _, h := range heads() {
		got, e := segment.Read(headBytes(t, h))
		if want := (segment.Segment{Head: h, Used: 48}); e != api.OK || !same(got, want) {
			t.Errorf("Read of the head %v: %v, %d", h, got, e)
		}
	}
}

func TestP8_4_Stops(t *testing.T) {
	h := segment.Head{Number: 3, Epoch: 2, First: 5, Width: 4}
	one := batch(5, put("a", "x"), del("b"))
	next := batch(7, put("c", "y"))
	good, places := file(t, h, one)
	torn := batchBytes(t, next)
	long := binary.AppendUvarint([]byte{7}, 65) // a batch of 65 entries: too many
	for range 65 {
		long = append(long, 2, 0)
	}
	for _, c := range []struct {
		name string
		p    []byte
	}{
		{"nothing", nil},
		{"noughts", make([]byte, 60)},
		{"a gap", batchBytes(t, batch(8, put("c", "y")))},
		{"the same batch again", batchBytes(t, one)},
		{"the index of its last entry", batchBytes(t, batch(6, put("c", "y")))},
		{"the index 0", batchBytes(t, batch(0, put("c", "y")))},
		{"another Place", framed(t, 8, batchPayload(t, next))},
		{"the Place of the first batch", framed(t, 5, batchPayload(t, next))},
		{"another First", framed(t, 7, batchPayload(t, batch(8, put("c", "y"))))},
		{"the First of the first batch", framed(t, 7, batchPayload(t, batch(5, put("c", "y"))))},
		{"a payload that is no batch", framed(t, 7, []byte("no batch"))},
		{"a batch of none", framed(t, 7, []byte{7, 0})},
		{"a batch of too many", framed(t, 7, long)},
		{"a batch with a byte behind it", framed(t, 7, append(batchPayload(t, next), 0))},
		{"a batch cut short", framed(t, 7, batchPayload(t, next)[:5])},
		{"a First that is not laid as it should be", framed(t, 7, append([]byte{0x87, 0}, batchPayload(t, next)[1:]...))},
		{"a head", headBytes(t, h)},
		{"a head whose Number is the index", headBytes(t, segment.Head{Number: 7, Epoch: 2, First: 7, Width: 4})},
		{"a frame without its last byte", torn[:len(torn)-1]},
		{"a frame with another last byte", append(slices.Clone(torn[:len(torn)-1]), 0)},
		{"a byte between", append([]byte{0}, torn...)},
		{"the batch without its frame", batchPayload(t, next)},
	} {
		for _, behind := range [][]byte{nil, torn, headBytes(t, h), make([]byte, 30)} {
			if c.p == nil && len(behind) > 0 {
				continue
			}
			got, e := segment.Read(slices.Concat(good, c.p, behind))
			want := segment.Segment{Head: h, Batches: []api.Batch{one}, Used: places[1]}
			if e != api.OK || !same(got, want) {
				t.Errorf("%s, with %d bytes behind: %v, %d, want %v", c.name, len(behind), got, e, want)
			}
		}
		// the same in the place of the first batch, where the index is the head's First
		h := segment.Head{Number: 3, Epoch: 2, First: 7, Width: 4}
		got, e := segment.Read(slices.Concat(headBytes(t, h), c.p))
		if want := (segment.Segment{Head: h, Used: 48}); e != api.OK || !same(got, want) {
			t.Errorf("%s, behind a head: %v, %d, want %v", c.name, got, e, want)
		}
	}
	got, e := segment.Read(slices.Concat(good, torn))
	if e != api.OK || !same(got, segment.Segment{Head: h, Batches: []api.Batch{one, next}, Used: len(good) + len(torn)}) {
		t.Errorf("the batch that the others are held against: %v, %d", got, e)
	}
}

// TestP8_4_NoBatchAtTheIndex0: where the index is 0, what DecodeBatch answers beside an error has the First that is asked for.
func TestP8_4_NoBatchAtTheIndex0(t *testing.T) {
	h := segment.Head{Number: 1, Epoch: 1, First: 0, Width: 32}
	good := batchPayload(t, batch(0, put("a", "x")))
	for name, payload := range map[string][]byte{
		"no batch":       []byte("no batch"),
		"one nought":     {0},
		"none":           {0, 0},
		"too many":       append([]byte{0, 65}, bytes.Repeat([]byte{2, 0}, 65)...),
		"a long key":     {0, 1, 2, 65},
		"cut short":      good[:len(good)-1],
		"a byte behind":  append(slices.Clone(good), 0),
		"a second First": append([]byte{0}, good...),
	} {
		p := slices.Concat(headBytes(t, h), framed(t, 0, payload), framed(t, 0, good))
		if got, e := segment.Read(p); e != api.OK || !same(got, segment.Segment{Head: h, Used: 48}) {
			t.Errorf("%s: %v, %d", name, got, e)
		}
	}
}

func TestP8_4_Examples(t *testing.T) {
	h := segment.Head{Number: 1, Epoch: 1, First: 5, Width: 32}
	one := batch(5, put("a", "x"), put("b", "y"))
	p, places := file(t, h, one, batch(8, put("c", "z")))
	if got, e := segment.Read(p); e != api.OK || !same(got, segment.Segment{Head: h, Batches: []api.Batch{one}, Used: places[1]}) {
		t.Errorf("example 4: %v, %d", got, e)
	}
	p = append(headBytes(t, h), framed(t, 5, []byte("no batch"))...)
	if got, e := segment.Read(p); e != api.OK || !same(got, segment.Segment{Head: h, Used: 48}) {
		t.Errorf("example 5: %v, %d", got, e)
	}
}

// TestP8_4_TheEnd goes up to the greatest size that can be told; the index does not go round to 0.
func TestP8_4_TheEnd(t *testing.T) {
	h := segment.Head{Number: 9, Epoch: 9, First: math.MaxUint64 - 3, Width: 1}
	two := batch(math.MaxUint64-3, put("a", "x"), del("a"))
	last := batch(math.MaxUint64-1, put("b", "y"))
	p, places := file(t, h, two, last)
	want := segment.Segment{Head: h, Batches: []api.Batch{two, last}, Used: places[2]}
	beyond := append(binary.AppendUvarint(nil, math.MaxUint64), 1, 2, 1, 'k')
	for _, behind := range [][]byte{nil, batchBytes(t, batch(0, put("c", "z"))), framed(t, math.MaxUint64, beyond)} {
		if got, e := segment.Read(slices.Concat(p, behind)); e != api.OK || !same(got, want) {
			t.Errorf("%x behind: %v, %d, want %v", behind, got, e, want)
		}
	}
	h.First = math.MaxUint64
	if got, e := segment.Read(append(headBytes(t, h), framed(t, math.MaxUint64, beyond)...)); e != api.OK || !same(got, segment.Segment{Head: h, Used: 48}) {
		t.Errorf("a batch at the greatest size: %v, %d", got, e)
	}
}

// anyEntry answers an entry that may be appended, often at the edges of its limits.
func anyEntry(r *rand.Rand) api.Entry {
	keys, values := []int{0, 1, 2, 64}, []int{0, 1, 5, 256}
	e := sized(api.Put, keys[r.Intn(len(keys))], values[r.Intn(len(values))])
	if r.Intn(3) == 0 {
		e.Kind, e.Value = api.Delete, nil
	}
	r.Read(e.Key)
	r.Read(e.Value)
	return e
}

// anyBatches answers batches that go on without a gap from first.
func anyBatches(r *rand.Rand, first uint64, count int) []api.Batch {
	var list []api.Batch
	for range count {
		b := api.Batch{First: first}
		for range []int{1, 1, 2, 3, 64}[r.Intn(5)] {
			b.Entries = append(b.Entries, anyEntry(r))
		}
		list = append(list, b)
		first += uint64(len(b.Entries))
	}
	return list
}

func anyHead(r *rand.Rand) segment.Head {
	firsts := []uint64{0, 1, 127, 128, 1 << 40, math.MaxUint64 - 1000}
	return segment.Head{Number: r.Uint64() >> r.Intn(64), Epoch: r.Uint64() >> r.Intn(64), First: firsts[r.Intn(len(firsts))], Width: 1 + r.Intn(32)}
}

// written answers what a writer lays down by the package's own calls, and the places behind the head and behind each batch.
func written(t *testing.T, h segment.Head, batches []api.Batch) ([]byte, []int) {
	t.Helper()
	p, e := segment.EncodeHead(h)
	if e != api.OK {
		t.Fatalf("EncodeHead(%v): %d", h, e)
	}
	places := []int{len(p)}
	for _, b := range batches {
		q, e := segment.EncodeBatch(b)
		if e != api.OK {
			t.Fatalf("EncodeBatch at %d: %d", b.First, e)
		}
		p = append(p, q...)
		places = append(places, len(p))
	}
	return p, places
}

func TestP8_5_WhatWasWritten(t *testing.T) {
	r := rand.New(rand.NewSource(85))
	for range 100 {
		h := anyHead(r)
		batches := anyBatches(r, h.First, r.Intn(6))
		p, _ := written(t, h, batches)
		if got, e := segment.Read(p); e != api.OK || !same(got, segment.Segment{Head: h, Batches: batches, Used: len(p)}) {
			t.Fatalf("the head %v and %d batches: %d batches, Used %d, %d", h, len(batches), len(got.Batches), got.Used, e)
		}
	}
}

func TestP8_5_AnyBytesBehind(t *testing.T) {
	r := rand.New(rand.NewSource(86))
	for range 100 {
		h := anyHead(r)
		batches := anyBatches(r, h.First, 1+r.Intn(4))
		p, places := written(t, h, batches)
		noise := make([]byte, r.Intn(100))
		r.Read(noise)
		cut := 1 + r.Intn(len(batches))
		for _, behind := range [][]byte{noise, make([]byte, 70), p, p[places[0]:], p[places[cut-1]:], {0xf5}, {0x5f}} {
			got, e := segment.Read(slices.Concat(p, behind))
			if want := (segment.Segment{Head: h, Batches: batches, Used: len(p)}); e != api.OK || !same(got, want) {
				t.Fatalf("%d batches with %x behind: %d batches, Used %d, %d", len(batches), behind, len(got.Batches), got.Used, e)
			}
		}
		// bytes that are further batches are read; the batches ahead of them stay the first ones
		got, e := segment.Read(slices.Concat(p[:places[cut]], p[places[cut]:], noise))
		if e != api.OK || got.Head != h || !slices.EqualFunc(got.Batches[:cut], batches[:cut], sameBatch) {
			t.Fatalf("the first %d batches: %d batches, Used %d, %d", cut, len(got.Batches), got.Used, e)
		}
	}
}

func TestP8_5_AnyBeginning(t *testing.T) {
	r := rand.New(rand.NewSource(87))
	for range 20 {
		h := anyHead(r)
		var batches []api.Batch
		first := h.First
		for range 4 {
			b := api.Batch{First: first}
			for range 1 + r.Intn(3) {
				b.Entries = append(b.Entries, put(strings.Repeat("\x00", r.Intn(4)), strings.Repeat("\x5f", r.Intn(30))))
			}
			batches = append(batches, b)
			first += uint64(len(b.Entries))
		}
		p, places := written(t, h, batches)
		for cut := range len(p) + 1 {
			for _, noughts := range []int{0, 1, 18, 19, 200} {
				got, e := segment.Read(append(slices.Clone(p[:cut]), make([]byte, noughts)...))
				if cut < 48 {
					if e != api.ErrForm || !same(got, segment.Segment{}) {
						t.Fatalf("the first %d bytes: %v, %d", cut, got, e)
					}
					continue
				}
				there := 0
				for there < len(batches) && places[there+1] <= cut {
					there++
				}
				if want := (segment.Segment{Head: h, Batches: batches[:there], Used: places[there]}); e != api.OK || !same(got, want) {
					t.Fatalf("the first %d bytes and %d noughts: %d batches, Used %d, %d, want %d, %d", cut, noughts, len(got.Batches), got.Used, e, there, places[there])
				}
			}
		}
	}
}

// refRead is P8.4's words, over the frames that Scan tells.
func refRead(p []byte) (segment.Segment, api.Errno) {
	frames, _ := frame.Scan(p)
	if len(frames) == 0 || len(frames[0].Payload) != 30 || string(frames[0].Payload[:5]) != "NTRY1" {
		return segment.Segment{}, api.ErrForm
	}
	told := frames[0].Payload
	h := segment.Head{
		Number: binary.BigEndian.Uint64(told[5:]),
		Epoch:  binary.BigEndian.Uint64(told[13:]),
		First:  binary.BigEndian.Uint64(told[21:]),
		Width:  int(told[29]),
	}
	if h.Width < 1 || h.Width > 32 || h.Number != frames[0].Place {
		return segment.Segment{}, api.ErrForm
	}
	s := segment.Segment{Head: h, Used: 48}
	index := h.First
	for _, f := range frames[1:] {
		b, e := entry.DecodeBatch(f.Payload)
		if e != api.OK || f.Place != index || b.First != index {
			break
		}
		s.Batches = append(s.Batches, b)
		s.Used += len(f.Payload) + 18
		index += uint64(len(b.Entries))
	}
	return s, api.OK
}

// TestP8_4_AsTheWordsSay reads pieces of segments laid one behind the other, in order and out of it, some of them cut, turned or framed anew.
func TestP8_4_AsTheWordsSay(t *testing.T) {
	r := rand.New(rand.NewSource(84))
	seen := map[int]int{}
	for range 4000 {
		h := segment.Head{Number: uint64(r.Intn(3)), Epoch: 1, First: uint64(r.Intn(3)), Width: 1 + r.Intn(32)}
		p := headBytes(t, h)
		if r.Intn(20) == 0 {
			p[r.Intn(len(p))] ^= 1 << r.Intn(8)
		}
		index := h.First
		for range r.Intn(5) {
			b := api.Batch{First: index, Entries: slices.Repeat([]api.Entry{del("k")}, 1+r.Intn(3))}
			place := index
			switch r.Intn(12) {
			case 0:
				b.First += uint64(r.Intn(3))
			case 1:
				place += uint64(r.Intn(3))
			case 2:
				b.First, place = b.First+1, place+1
			}
			piece := framed(t, place, batchPayload(t, b))
			switch r.Intn(12) {
			case 0:
				piece[r.Intn(len(piece))] ^= 1 << r.Intn(8)
			case 1:
				piece = piece[:r.Intn(len(piece))]
			case 2:
				piece = framed(t, place, append(batchPayload(t, b), byte(r.Intn(2))))
			}
			p = append(p, piece...)
			index += uint64(len(b.Entries))
		}
		got, e := segment.Read(p)
		want, f := refRead(p)
		if e != f || !same(got, want) {
			t.Fatalf("Read(%x) = %v, %d, want %v, %d", p, got, e, want, f)
		}
		seen[len(want.Batches)]++
	}
	for count := range 5 {
		if seen[count] == 0 {
			t.Errorf("no segment of %d batches was read", count)
		}
	}
}

// roomy answers p with spare room behind it.
func roomy(p []byte) []byte { return append(slices.Clone(p), "spare room"...)[:len(p)] }

// scrawl writes over p and its spare room.
func scrawl(p []byte) {
	for i := range p[:cap(p)] {
		p[:cap(p)][i] ^= 0xa5
	}
}

// whole answers a copy of p and of its spare room.
func whole(p []byte) []byte { return slices.Clone(p[:cap(p)]) }

func TestMemory_Encode(t *testing.T) {
	h := segment.Head{Number: 1, Epoch: 2, First: 3, Width: 4}
	p, _ := segment.EncodeHead(h)
	again, _ := segment.EncodeHead(h)
	scrawl(p)
	if !bytes.Equal(again, headBytes(t, h)) {
		t.Error("two heads share memory")
	}
	key, value := roomy([]byte("key")), roomy([]byte("value"))
	keyWas, valueWas := whole(key), whole(value)
	room := []api.Entry{{Kind: api.Put, Key: key, Value: value}, {Kind: api.Delete, Key: key}, {Kind: 77}}
	b := api.Batch{First: 3, Entries: room[:2]}
	want := batchBytes(t, b)
	p, _ = segment.EncodeBatch(b)
	again, _ = segment.EncodeBatch(b)
	scrawl(p)
	if !bytes.Equal(whole(key), keyWas) || !bytes.Equal(whole(value), valueWas) || room[2].Kind != 77 || len(room[0].Key) != 3 {
		t.Fatal("what was handed in has changed")
	}
	scrawl(key)
	scrawl(value)
	if !bytes.Equal(again, want) {
		t.Error("an answer changes with another one, or with what was handed in")
	}
}

func TestMemory_Read(t *testing.T) {
	h := segment.Head{Number: 1, Epoch: 2, First: 3, Width: 4}
	batches := []api.Batch{batch(3, put("one", "first"), del("two")), batch(5, put("three", "third")), batch(6, put("four", "fourth"))}
	laid, _ := file(t, h, batches...)
	p := roomy(laid)
	was := whole(p)
	want := segment.Segment{Head: h, Batches: batches, Used: len(p)}
	got, _ := segment.Read(p)
	again, _ := segment.Read(p)
	if !bytes.Equal(whole(p), was) {
		t.Fatal("what was handed in has changed")
	}
	for i := range got.Batches {
		for j := range got.Batches[i].Entries {
			one := &got.Batches[i].Entries[j]
			for _, part := range []*[]byte{&one.Key, &one.Value} {
				kept := slices.Clone(*part)
				scrawl(*part)
				*part = kept
				if !same(got, want) || !same(again, want) || !bytes.Equal(whole(p), was) {
					t.Fatalf("the entry %d of the batch %d shares memory", j, i)
				}
			}
		}
		spare := got.Batches[i].Entries[len(got.Batches[i].Entries):cap(got.Batches[i].Entries)]
		for j := range spare {
			spare[j] = api.Entry{Kind: 99}
		}
		if !same(got, want) {
			t.Fatalf("the list of the batch %d shares memory with another list", i)
		}
	}
	spare := got.Batches[:cap(got.Batches)]
	for i := range spare {
		spare[i] = api.Batch{First: 99}
	}
	scrawl(p)
	if !same(again, want) {
		t.Error("an answer changes with another one, or with what was handed in")
	}
}

func TestP1_ZeroBesideAnError(t *testing.T) {
	for _, p := range [][]byte{nil, {}, {0xf5}, make([]byte, 48), []byte("NTRY1"), headBytes(t, segment.Head{Number: 3, Width: 33})} {
		if got, e := segment.Read(p); e != api.ErrForm || !reflect.ValueOf(got).IsZero() {
			t.Errorf("Read(%x) = %v, %d", p, got, e)
		}
	}
}

func TestP2_ManyAtATime(t *testing.T) {
	r := rand.New(rand.NewSource(82))
	h := anyHead(r)
	batches := anyBatches(r, h.First, 10)
	p, _ := file(t, h, batches...)
	want := segment.Segment{Head: h, Batches: batches, Used: len(p)}
	var all sync.WaitGroup
	for worker := range 8 {
		all.Go(func() {
			for i := range 30 {
				if got, e := segment.Read(p); e != api.OK || !same(got, want) {
					t.Errorf("worker %d: %d batches, %d", worker, len(got.Batches), e)
				}
				n := uint64(worker*1000 + i)
				if got, e := segment.Number(segment.Name(n)); e != api.OK || got != n {
					t.Errorf("worker %d: the number %d is %d, %d", worker, n, got, e)
				}
			}
		})
	}
	all.Wait()
}
