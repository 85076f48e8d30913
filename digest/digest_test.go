package digest_test

import (
	"bytes"
	"crypto/sha256"
	"encoding/binary"
	"encoding/hex"
	"math"
	"math/bits"
	"slices"
	"strconv"
	"strings"
	"sync"
	"testing"

	"notary/api"
	"notary/digest"
)

// begins answers the digest that begins with these bytes.
func begins(p ...byte) api.Digest {
	var d api.Digest
	copy(d[:], p)
	return d
}

// lone answers the digest whose one byte that is not 0 is v, at the place.
func lone(place int, v byte) api.Digest {
	var d api.Digest
	d[place] = v
	return d
}

// filled answers a digest of the width w none of whose w bytes is 0, and unlike for each seed below 200.
func filled(w, seed int) api.Digest {
	var d api.Digest
	for i := range w {
		d[i] = byte(1 + (seed+i)%255)
	}
	return d
}

// cutSum is the document's Sum of one text, made by another SHA-256.
func cutSum(w int, p []byte) api.Digest {
	whole := sha256.Sum256(p)
	return begins(whole[:w]...)
}

func noWidths() []int {
	return []int{0, -1, 33, 34, 64, 256 + 4, 1<<32 + 4, math.MaxInt, math.MinInt}
}

// roomy answers p with spare room behind it, and a function that tells whether p and the room are as they were.
func roomy(p []byte) ([]byte, func() bool) {
	room := append(slices.Clone(p), "spare room"...)
	before := slices.Clone(room)
	return room[:len(p)], func() bool { return bytes.Equal(room, before) }
}

// scrawl writes over an answer and its spare room.
func scrawl(p []byte) {
	for i := range p[:cap(p)] {
		p[:cap(p)][i] ^= 0xa5
	}
}

func TestP3_1_Form(t *testing.T) {
	for w := -3; w <= 40; w++ {
		isWidth := 1 <= w && w <= 32
		if digest.Form(w, api.Digest{}) != isWidth {
			t.Errorf("Form(%d, noughts) is not %v", w, isWidth)
		}
		for at := range 32 {
			for _, v := range []byte{1, 0x80, 255} {
				d := lone(at, v)
				if want := isWidth && at < w; digest.Form(w, d) != want {
					t.Errorf("Form(%d, %x) is not %v", w, d, want)
				}
			}
		}
		for full := 1; full <= 32; full++ {
			if want := isWidth && full <= w; digest.Form(w, filled(full, 7)) != want {
				t.Errorf("Form(%d, a digest of the width %d) is not %v", w, full, want)
			}
		}
	}
	for _, w := range noWidths() {
		if digest.Form(w, api.Digest{}) || digest.Form(w, filled(4, 1)) {
			t.Errorf("Form(%d, ..) holds", w)
		}
	}
}

func TestP3_2_Sum(t *testing.T) {
	long := []byte(strings.Repeat("0123456789", 30))
	for _, parts := range [][][]byte{
		nil,
		{},
		{nil},
		{{}, nil, {}},
		{[]byte("abc")},
		{[]byte("a"), nil, []byte("bc")},
		{{}, []byte("a"), []byte("b"), []byte("c"), {}},
		{[]byte("bc"), []byte("a")},
		{[]byte{0}, []byte{0, 0}},
		{long},
		{long[:63], long[63:64], long[64:]},
		slices.Repeat([][]byte{[]byte("x")}, 1000),
	} {
		for w := 1; w <= 32; w++ {
			d, e := digest.Sum(w, parts...)
			if want := cutSum(w, slices.Concat(parts...)); e != api.OK || d != want {
				t.Errorf("Sum(%d, %q) = %x, %d, want %x", w, parts, d, e, want)
			}
		}
	}
	for _, c := range []struct {
		w     int
		parts [][]byte
		want  string
	}{
		{32, nil, "e3b0c44298fc1c149afbf4c8996fb92427ae41e4649b934ca495991b7852b855"},
		{4, nil, "e3b0c442" + strings.Repeat("00", 28)},
		{1, nil, "e3" + strings.Repeat("00", 31)},
		{4, [][]byte{[]byte("a"), nil, []byte("bc")}, "ba7816bf" + strings.Repeat("00", 28)},
	} {
		d, e := digest.Sum(c.w, c.parts...)
		if e != api.OK || hex.EncodeToString(d[:]) != c.want {
			t.Errorf("Sum(%d, %q) = %x, %d, want %s", c.w, c.parts, d, e, c.want)
		}
	}
	if _, e := digest.Sum(1); e != api.OK {
		t.Errorf("Sum(1) of no part: %d", e)
	}
	for _, w := range noWidths() {
		for _, parts := range [][][]byte{nil, {nil}, {[]byte("a"), []byte("b")}} {
			if d, e := digest.Sum(w, parts...); e != api.ErrArg || d != (api.Digest{}) {
				t.Errorf("Sum(%d, %q) = %x, %d", w, parts, d, e)
			}
		}
	}
}

// one is one kind's input and digest of one thing, and what the document asks of them; the digest is asked for at the width w.
type one struct {
	name  string
	w     int
	input func() ([]byte, api.Errno)
	sum   func() (api.Digest, api.Errno)
	want  []byte
	e     api.Errno
}

func leafOne(w int, entry []byte) one {
	return one{
		name:  "Leaf(" + strconv.Itoa(w) + ", " + strconv.Itoa(len(entry)) + " bytes)",
		w:     w,
		input: func() ([]byte, api.Errno) { return digest.LeafInput(entry), api.OK },
		sum:   func() (api.Digest, api.Errno) { return digest.Leaf(w, entry) },
		want:  append([]byte{0}, entry...),
	}
}

func keyOne(w int, key []byte) one {
	return one{
		name:  "Key(" + strconv.Itoa(w) + ", " + strconv.Itoa(len(key)) + " bytes)",
		w:     w,
		input: func() ([]byte, api.Errno) { return digest.KeyInput(key), api.OK },
		sum:   func() (api.Digest, api.Errno) { return digest.Key(w, key) },
		want:  append([]byte{2}, key...),
	}
}

func nodeOne(w int, l, r api.Digest, e api.Errno) one {
	x := one{
		name:  "Node(" + strconv.Itoa(w) + ", " + hex.EncodeToString(l[:]) + ", " + hex.EncodeToString(r[:]) + ")",
		w:     w,
		input: func() ([]byte, api.Errno) { return digest.NodeInput(w, l, r) },
		sum:   func() (api.Digest, api.Errno) { return digest.Node(w, l, r) },
		e:     e,
	}
	if e == api.OK {
		x.want = slices.Concat([]byte{1}, l[:w], r[:w])
	}
	return x
}

func bucketOne(w int, pairs []api.Pair) one {
	want := binary.AppendUvarint([]byte{3}, uint64(len(pairs)))
	for _, p := range pairs {
		want = append(binary.AppendUvarint(want, uint64(len(p.Key))), p.Key...)
		want = append(binary.AppendUvarint(want, uint64(len(p.Value))), p.Value...)
	}
	return one{
		name:  "Bucket(" + strconv.Itoa(w) + ", " + strconv.Itoa(len(pairs)) + " pairs)",
		w:     w,
		input: func() ([]byte, api.Errno) { return digest.BucketInput(pairs), api.OK },
		sum:   func() (api.Digest, api.Errno) { return digest.Bucket(w, pairs) },
		want:  want,
	}
}

func branchOne(w int, bitmap uint16, kids []api.Digest, e api.Errno) one {
	x := one{
		name:  "Branch(" + strconv.Itoa(w) + ", " + strconv.FormatUint(uint64(bitmap), 16) + ", " + strconv.Itoa(len(kids)) + " kids)",
		w:     w,
		input: func() ([]byte, api.Errno) { return digest.BranchInput(w, bitmap, kids) },
		sum:   func() (api.Digest, api.Errno) { return digest.Branch(w, bitmap, kids) },
		e:     e,
	}
	if e == api.OK {
		x.want = binary.BigEndian.AppendUint16([]byte{4}, bitmap)
		for _, kid := range kids {
			x.want = append(x.want, kid[:w]...)
		}
	}
	return x
}

func rootOne(w int, r api.Root, e api.Errno) one {
	x := one{
		name:  "Root(" + strconv.Itoa(w) + ", size " + strconv.FormatUint(r.Size, 10) + ")",
		w:     w,
		input: func() ([]byte, api.Errno) { return digest.RootInput(w, r) },
		sum:   func() (api.Digest, api.Errno) { return digest.Root(w, r) },
		e:     e,
	}
	if e == api.OK {
		x.want = slices.Concat(binary.BigEndian.AppendUint64([]byte{6}, r.Size), r.Log[:w], r.Map[:w])
	}
	return x
}

// kidsOf answers n digests of the width w, unlike one another.
func kidsOf(w, n int) []api.Digest {
	var kids []api.Digest
	for i := range n {
		kids = append(kids, filled(w, i))
	}
	return kids
}

func texts() [][]byte {
	return [][]byte{nil, {}, {0}, {5}, {0x10}, []byte("k"), []byte("abc"), bytes.Repeat([]byte{7}, 64), bytes.Repeat([]byte{9}, 127), bytes.Repeat([]byte{9}, 128), bytes.Repeat([]byte{255}, 3000)}
}

func pairLists() [][]api.Pair {
	lists := [][]api.Pair{nil, {}, {{}}, {{}, {}}}
	for _, p := range texts() {
		lists = append(lists, []api.Pair{{Key: p}}, []api.Pair{{Value: p}}, []api.Pair{{Key: []byte("z"), Value: p}, {Key: p, Value: []byte("a")}, {Key: p}})
	}
	for _, n := range []int{127, 128, 129, 300, 16384} {
		lists = append(lists, slices.Repeat([]api.Pair{{Key: []byte("k"), Value: []byte("v")}}, n))
	}
	return lists
}

// inForm answers things of every kind that have an input, at every width.
func inForm() []one {
	var list []one
	for w := 1; w <= 32; w++ {
		for _, p := range texts() {
			list = append(list, leafOne(w, p), keyOne(w, p))
		}
		list = append(list,
			nodeOne(w, api.Digest{}, api.Digest{}, api.OK), nodeOne(w, filled(w, 1), filled(w, 2), api.OK),
			nodeOne(w, filled(w, 2), filled(w, 1), api.OK), nodeOne(w, filled((w+1)/2, 3), filled(w, 3), api.OK))
		for _, bitmap := range []uint16{1, 2, 0x80, 0x100, 0x8000, 0x8001, 0x1234, 0xfff0, 0x7fff, 0xfffe, 0xffff} {
			list = append(list, branchOne(w, bitmap, kidsOf(w, bits.OnesCount16(bitmap)), api.OK))
		}
		list = append(list, branchOne(w, 0x8001, make([]api.Digest, 2), api.OK))
		for _, size := range []uint64{0, 1, 255, 256, 258, 1 << 32, 0x0102030405060708, math.MaxUint64} {
			list = append(list, rootOne(w, api.Root{Size: size, Log: filled(w, 1), Map: filled(w, 2)}, api.OK))
		}
		list = append(list, rootOne(w, api.Root{}, api.OK))
	}
	for _, w := range []int{1, 20, 32} {
		for _, pairs := range pairLists() {
			list = append(list, bucketOne(w, pairs))
		}
	}
	return list
}

// notOfTheWidth answers digests that are not of the width w: by the byte just behind it, by the last one, by all.
func notOfTheWidth(w int) []api.Digest {
	if w >= 32 {
		return nil
	}
	return []api.Digest{lone(w, 1), lone(31, 255), filled(32, 3), filled(w+1, 0)}
}

// outOfForm answers things of the kinds that ask something of them, which they break, and the error for each.
func outOfForm() []one {
	var list []one
	for w := 1; w <= 32; w++ {
		good := filled(w, 9)
		for _, bad := range notOfTheWidth(w) {
			list = append(list,
				nodeOne(w, bad, good, api.ErrForm), nodeOne(w, good, bad, api.ErrForm), nodeOne(w, bad, bad, api.ErrForm),
				rootOne(w, api.Root{Size: 1, Log: bad, Map: good}, api.ErrForm), rootOne(w, api.Root{Size: 1, Log: good, Map: bad}, api.ErrForm), rootOne(w, api.Root{Log: bad, Map: bad}, api.ErrForm))
			for at := range 3 {
				kids := kidsOf(w, 3)
				kids[at] = bad
				list = append(list, branchOne(w, 0x4201, kids, api.ErrForm))
			}
		}
		for _, bitmap := range []uint16{0, 1, 0x8000, 0x8001, 0xffff} {
			ones := bits.OnesCount16(bitmap)
			for _, n := range []int{0, 1, 2, 3, 15, 16, 17, 256 + ones} {
				if n != ones || n == 0 {
					list = append(list, branchOne(w, bitmap, kidsOf(w, n), api.ErrForm))
				}
			}
		}
	}
	list = append(list, branchOne(2, 0, kidsOf(2, 65536), api.ErrForm), branchOne(2, 3, kidsOf(2, 65536+2), api.ErrForm))
	for _, w := range noWidths() {
		list = append(list,
			nodeOne(w, api.Digest{}, api.Digest{}, api.ErrArg), nodeOne(w, filled(32, 1), api.Digest{}, api.ErrArg),
			branchOne(w, 0, nil, api.ErrArg), branchOne(w, 3, nil, api.ErrArg), branchOne(w, 1, make([]api.Digest, 1), api.ErrArg), branchOne(w, 1, kidsOf(32, 1), api.ErrArg),
			rootOne(w, api.Root{}, api.ErrArg), rootOne(w, api.Root{Map: filled(32, 1)}, api.ErrArg))
	}
	return list
}

func TestP3_3_Inputs(t *testing.T) {
	for _, x := range slices.Concat(inForm(), outOfForm()) {
		if input, e := x.input(); e != x.e || !bytes.Equal(input, x.want) {
			t.Errorf("the input of %s = %x, %d, want %x, %d", x.name, input, e, x.want, x.e)
		}
	}
}

func TestP3_3_Examples(t *testing.T) {
	ab, ef := begins(0xab, 0xcd), begins(0xef, 0x01)
	for _, c := range []struct {
		x    one
		want string
	}{
		{leafOne(4, nil), "00"},
		{leafOne(4, []byte{0x10}), "0010"},
		{keyOne(4, []byte{0x6b}), "026b"},
		{nodeOne(2, ab, ef, api.OK), "01abcdef01"},
		{bucketOne(4, nil), "0300"},
		{bucketOne(4, []api.Pair{{Key: []byte("a"), Value: []byte("bc")}, {}}), "03020161026263" + "0000"},
		{branchOne(1, 0x8001, []api.Digest{begins(0xaa), begins(0xbb)}, api.OK), "048001aabb"},
		{rootOne(1, api.Root{Size: 258, Log: begins(0xaa), Map: begins(0xbb)}, api.OK), "060000000000000102aabb"},
	} {
		if input, e := c.x.input(); e != api.OK || hex.EncodeToString(input) != c.want {
			t.Errorf("the input of %s = %x, %d, want %s", c.x.name, input, e, c.want)
		}
	}
}

func TestP3_4_Digests(t *testing.T) {
	for _, x := range slices.Concat(inForm(), outOfForm()) {
		var want api.Digest
		if x.e == api.OK {
			want = cutSum(x.w, x.want)
		}
		if sum, e := x.sum(); e != x.e || sum != want {
			t.Errorf("%s = %x, %d, want %x, %d", x.name, sum, e, want, x.e)
		}
	}
	for _, w := range noWidths() {
		for _, x := range []one{leafOne(w, nil), leafOne(w, []byte("a")), keyOne(w, nil), keyOne(w, []byte("a")), bucketOne(w, nil), bucketOne(w, []api.Pair{{}})} {
			if sum, e := x.sum(); e != api.ErrArg || sum != (api.Digest{}) {
				t.Errorf("%s = %x, %d", x.name, sum, e)
			}
		}
	}
	if d, e := digest.Leaf(4, nil); e != api.OK || d != begins(0x6e, 0x34, 0x0b, 0x9c) {
		t.Errorf("Leaf(4, nothing) = %x, %d", d, e)
	}
}

func TestP3_5_NoLogAndNoMap(t *testing.T) {
	for w := 1; w <= 32; w++ {
		if d, e := digest.NoLog(w); e != api.OK || d != cutSum(w, nil) {
			t.Errorf("NoLog(%d) = %x, %d", w, d, e)
		}
		if d, e := digest.NoMap(w); e != api.OK || d != cutSum(w, []byte{5}) {
			t.Errorf("NoMap(%d) = %x, %d", w, d, e)
		}
	}
	for _, w := range noWidths() {
		a, e := digest.NoLog(w)
		b, f := digest.NoMap(w)
		if e != api.ErrArg || f != api.ErrArg || a != (api.Digest{}) || b != (api.Digest{}) {
			t.Errorf("at the width %d: %x, %d and %x, %d", w, a, e, b, f)
		}
	}
}

// told keeps which thing made which input.
type told struct {
	t    *testing.T
	seen map[string]string
}

func newTold(t *testing.T) told {
	return told{t, map[string]string{"": "no bytes", "\x05": "the byte 05"}}
}

// tell fails if an unlike thing, or one that is nothing's, has had the same input.
func (x told) tell(thing string, input []byte, e api.Errno) {
	x.t.Helper()
	if e != api.OK {
		x.t.Fatalf("%s: %d", thing, e)
	}
	if other, ok := x.seen[string(input)]; ok && other != thing {
		x.t.Fatalf("%s and %s have one input: %x", thing, other, input)
	}
	x.seen[string(input)] = thing
}

// shortTexts answers every text of at most n bytes out of a few that serve as tags, counts and lengths.
func shortTexts(n int) []string {
	list := []string{""}
	for from := 0; len(list[from]) < n; from++ {
		for _, v := range "\x00\x01\x02\x03\x04\x05\x06" {
			list = append(list, list[from]+string(v))
		}
	}
	return list
}

// shortLists answers every list of at most n pairs whose keys and values are such texts as lengths could be taken for.
func shortLists(n int) [][]api.Pair {
	var pairs []api.Pair
	for _, key := range []string{"", "\x00", "\x01", "\x01\x00", "\x00\x01"} {
		for _, value := range []string{"", "\x00", "\x01", "\x00\x00"} {
			pairs = append(pairs, api.Pair{Key: []byte(key), Value: []byte(value)})
		}
	}
	lists := [][]api.Pair{nil}
	for from := 0; len(lists[from]) < n; from++ {
		for _, p := range pairs {
			lists = append(lists, append(slices.Clone(lists[from]), p))
		}
	}
	return lists
}

func nameOf(pairs []api.Pair) string {
	var name strings.Builder
	for _, p := range pairs {
		name.WriteString(" " + strconv.Quote(string(p.Key)) + ":" + strconv.Quote(string(p.Value)))
	}
	return name.String()
}

func TestP3_6_OneThingOneInput(t *testing.T) {
	for _, w := range []int{1, 2, 4} {
		seen := newTold(t)
		for _, s := range shortTexts(5) {
			seen.tell("entry "+strconv.Quote(s), digest.LeafInput([]byte(s)), api.OK)
			seen.tell("key "+strconv.Quote(s), digest.KeyInput([]byte(s)), api.OK)
		}
		for _, pairs := range shortLists(3) {
			seen.tell("pairs"+nameOf(pairs), digest.BucketInput(pairs), api.OK)
		}
		var digests []api.Digest
		for _, s := range shortTexts(w) {
			digests = append(digests, begins([]byte(s)...))
		}
		slices.SortFunc(digests, func(a, b api.Digest) int { return bytes.Compare(a[:], b[:]) })
		digests = slices.Compact(digests)
		digests = digests[:min(40, len(digests))]
		for i, l := range digests {
			for j, r := range digests {
				at := " " + strconv.Itoa(i) + " " + strconv.Itoa(j)
				input, e := digest.NodeInput(w, l, r)
				seen.tell("node"+at, input, e)
				for _, size := range []uint64{0, 1, 256, 1 << 56} {
					input, e := digest.RootInput(w, api.Root{Size: size, Log: l, Map: r})
					seen.tell("root "+strconv.FormatUint(size, 10)+at, input, e)
				}
				for _, bitmap := range []uint16{3, 0x0104, 0x0401, 0x8001} {
					input, e := digest.BranchInput(w, bitmap, []api.Digest{l, r})
					seen.tell("branch "+strconv.Itoa(int(bitmap))+at, input, e)
				}
			}
			for place := range 16 {
				input, e := digest.BranchInput(w, 1<<place, []api.Digest{l})
				seen.tell("branch at "+strconv.Itoa(place)+" "+strconv.Itoa(i), input, e)
			}
		}
	}
}

// What makes two lists of pairs unlike: a count, a border between key and value, a border between pairs, an order.
func TestP3_6_UnlikePairs(t *testing.T) {
	a, b, ab := []byte("a"), []byte("b"), []byte("ab")
	seen := newTold(t)
	for _, pairs := range [][]api.Pair{
		nil, {{}}, {{}, {}}, {{Key: ab}}, {{Value: ab}}, {{Key: a, Value: b}}, {{Key: a}, {Key: b}}, {{Key: b}, {Key: a}}, {{Key: a}, {Value: b}}, {{Value: a}, {Key: b}}, {{Key: a, Value: b}, {}}, {{}, {Key: a, Value: b}}, {{Key: b, Value: a}},
	} {
		seen.tell("pairs"+nameOf(pairs), digest.BucketInput(pairs), api.OK)
	}
	if len(seen.seen) != 13+2 {
		t.Errorf("%d inputs of 13 lists", len(seen.seen)-2)
	}
}

func TestMemory_WhatIsHandedInIsNeitherChangedNorKept(t *testing.T) {
	p, same := roomy([]byte("abcd"))
	q, alike := roomy([]byte("efgh"))
	pairs := make([]api.Pair, 3)
	pairs[0], pairs[1], pairs[2] = api.Pair{Key: p, Value: q}, api.Pair{Key: q, Value: p}, api.Pair{Key: []byte("spare")}
	kids := kidsOf(4, 3)
	parts := [][]byte{p, q, p}
	for _, c := range []struct {
		name string
		call func() []byte
	}{
		{"LeafInput", func() []byte { return digest.LeafInput(p) }},
		{"KeyInput", func() []byte { return digest.KeyInput(p) }},
		{"BucketInput", func() []byte { return digest.BucketInput(pairs[:2]) }},
		{"BranchInput", func() []byte { input, _ := digest.BranchInput(4, 3, kids[:2]); return input }},
		{"NodeInput", func() []byte { input, _ := digest.NodeInput(4, kids[0], kids[1]); return input }},
		{"RootInput", func() []byte { input, _ := digest.RootInput(4, api.Root{Log: kids[0], Map: kids[1]}); return input }},
	} {
		first, second := c.call(), c.call()
		before := slices.Clone(second)
		scrawl(first)
		if !bytes.Equal(second, before) {
			t.Errorf("%s: two answers share memory", c.name)
		}
		if third := c.call(); !bytes.Equal(third, before) {
			t.Errorf("%s: an answer shares memory with what is asked for later: %x, want %x", c.name, third, before)
		}
	}
	digest.Sum(4, parts[:2]...)
	digest.Leaf(4, p)
	digest.Key(4, p)
	digest.Bucket(4, pairs[:2])
	digest.Branch(4, 3, kids[:2])
	if !same() || !alike() {
		t.Error("bytes that were handed in, or their spare room, changed")
	}
	if &parts[0][0] != &p[0] || &parts[1][0] != &q[0] || &parts[2][0] != &p[0] {
		t.Error("the list of parts changed")
	}
	if &pairs[0].Key[0] != &p[0] || &pairs[1].Key[0] != &q[0] || string(pairs[2].Key) != "spare" {
		t.Error("the list of pairs changed")
	}
	if !slices.Equal(kids, kidsOf(4, 3)) {
		t.Error("the list of kids changed")
	}
}

// A caller may write over what it handed in: the answer stays what it was.
func TestMemory_AnswersStandAlone(t *testing.T) {
	p := []byte("abcd")
	pairs := []api.Pair{{Key: p, Value: p}}
	kids := kidsOf(2, 2)
	leaf, key, bucket := digest.LeafInput(p), digest.KeyInput(p), digest.BucketInput(pairs)
	branch, _ := digest.BranchInput(2, 3, kids)
	clear(p)
	clear(pairs)
	clear(kids)
	if string(leaf) != "\x00abcd" || string(key) != "\x02abcd" || string(bucket) != "\x03\x01\x04abcd\x04abcd" || !bytes.Equal(branch, []byte{4, 0, 3, 1, 2, 2, 3}) {
		t.Errorf("written over later, and seen: %q, %q, %q, %x", leaf, key, bucket, branch)
	}
}

// P2: the calls hang on their arguments alone, however goroutines run.
func TestP2_ManyAtATime(t *testing.T) {
	list := inForm()
	var group sync.WaitGroup
	for i := range 16 {
		group.Go(func() {
			for at := i; at < len(list); at += 5 {
				x := list[at]
				input, e := x.input()
				sum, f := x.sum()
				if e != api.OK || f != api.OK || !bytes.Equal(input, x.want) || sum != cutSum(x.w, x.want) {
					t.Errorf("goroutine %d: %s: %x, %d, %x, %d", i, x.name, input, e, sum, f)
				}
			}
		})
	}
	group.Wait()
}
