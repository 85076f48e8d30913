package hamt_test

import (
	"bytes"
	"crypto/sha256"
	"encoding/binary"
	"encoding/hex"
	"maps"
	"math"
	"math/rand"
	"slices"
	"sort"
	"strconv"
	"strings"
	"sync"
	"testing"

	"notary/api"
	"notary/digest"
	"notary/hamt"
	"notary/nibble"
)

// book is which value each key has: what a map is held against.
type book map[string]string

// cutSum is the digest of a text, made by another SHA-256.
func cutSum(w int, p []byte) api.Digest {
	whole := sha256.Sum256(p)
	var d api.Digest
	copy(d[:w], whole[:])
	return d
}

func keySum(w int, key string) api.Digest { return cutSum(w, []byte("\x02"+key)) }

// digits answers the digits of a key's digest, in base 16.
func digits(w int, key string) string {
	d := keySum(w, key)
	return hex.EncodeToString(d[:w])
}

// wordsNode is what a set of pairs makes: a bucket, if it has pairs, or a branch.
type wordsNode struct {
	pairs  []api.Pair
	bitmap uint16
	kids   []*wordsNode
	sum    api.Digest
}

// wordsTree is the chapter's words: what these keys, which have the first digits in common, make at the depth.
func wordsTree(w int, b book, keys []string, depth int) *wordsNode {
	if len(keys) == 0 {
		return nil
	}
	sort.Strings(keys)
	byDigit := map[byte][]string{}
	whole := map[string]int{}
	for _, key := range keys {
		text := digits(w, key)
		whole[text]++
		if depth < len(text) {
			byDigit[text[depth]] = append(byDigit[text[depth]], key)
		}
	}
	n := &wordsNode{}
	if len(whole) == 1 {
		input := binary.AppendUvarint([]byte{3}, uint64(len(keys)))
		for _, key := range keys {
			n.pairs = append(n.pairs, api.Pair{Key: []byte(key), Value: []byte(b[key])})
			for _, part := range []string{key, b[key]} {
				input = append(binary.AppendUvarint(input, uint64(len(part))), part...)
			}
		}
		n.sum = cutSum(w, input)
		return n
	}
	var kids []byte
	for i, c := range []byte("0123456789abcdef") {
		if kid := wordsTree(w, b, byDigit[c], depth+1); kid != nil {
			n.bitmap += 1 << i
			n.kids = append(n.kids, kid)
			kids = append(kids, kid.sum[:w]...)
		}
	}
	n.sum = cutSum(w, slices.Concat([]byte{4, byte(n.bitmap >> 8), byte(n.bitmap)}, kids))
	return n
}

// wordsRoot is the map's digest by the words.
func wordsRoot(w int, tree *wordsNode) api.Digest {
	if tree == nil {
		return cutSum(w, []byte{5})
	}
	return tree.sum
}

// wordsPairs is P14.5's words: all pairs by the digits of their key digests, and then by their keys.
func wordsPairs(w int, b book) []api.Pair {
	var pairs []api.Pair
	for key, value := range b {
		pairs = append(pairs, api.Pair{Key: []byte(key), Value: []byte(value)})
	}
	sort.Slice(pairs, func(i, j int) bool {
		x, y := string(pairs[i].Key), string(pairs[j].Key)
		if digits(w, x) != digits(w, y) {
			return digits(w, x) < digits(w, y)
		}
		return x < y
	})
	return pairs
}

// wordsWalk is P14.6's words.
func wordsWalk(w int, tree *wordsNode, key string) ([]api.Step, []api.Pair) {
	var steps []api.Step
	for n := tree; n != nil; {
		if n.pairs != nil {
			return steps, n.pairs
		}
		step := api.Step{Bitmap: n.bitmap}
		for _, kid := range n.kids {
			step.Kids = append(step.Kids, kid.sum)
		}
		text := digits(w, key)
		child, _ := strconv.ParseUint(text[len(steps):len(steps)+1], 16, 8)
		steps = append(steps, step)
		var next *wordsNode
		at := 0
		for i := range 16 {
			if n.bitmap>>i&1 == 1 {
				if i == int(child) {
					next = n.kids[at]
				}
				at++
			}
		}
		n = next
	}
	return steps, nil
}

func samePairs(a, b []api.Pair) bool {
	return slices.EqualFunc(a, b, func(x, y api.Pair) bool {
		return bytes.Equal(x.Key, y.Key) && bytes.Equal(x.Value, y.Value)
	})
}

func sameSteps(a, b []api.Step) bool {
	return slices.EqualFunc(a, b, func(x, y api.Step) bool {
		return x.Bitmap == y.Bitmap && slices.Equal(x.Kids, y.Kids)
	})
}

func keysOf(b book) []string { return slices.Collect(maps.Keys(b)) }

// holds fails unless each answer of the map is what the words say of these pairs; asked are the keys in it and some more.
func holds(t *testing.T, m *hamt.Map, w int, b book, more ...string) {
	t.Helper()
	if m == nil {
		t.Fatal("no map")
	}
	if m.Width() != w || m.Len() != len(b) {
		t.Fatalf("Width %d, Len %d, want %d and %d", m.Width(), m.Len(), w, len(b))
	}
	tree := wordsTree(w, b, keysOf(b), 0)
	if m.Root() != wordsRoot(w, tree) {
		t.Fatalf("width %d, %d pairs: Root %x, want %x", w, len(b), m.Root(), wordsRoot(w, tree))
	}
	if got, want := m.Pairs(), wordsPairs(w, b); !samePairs(got, want) {
		t.Fatalf("width %d: Pairs %q, want %q", w, got, want)
	}
	for _, key := range append(keysOf(b), more...) {
		want, has := b[key]
		value, ok, e := m.Get([]byte(key))
		if string(value) != want || ok != has || e != api.OK {
			t.Fatalf("width %d: Get(%q) = %q, %v, %d, want %q, %v", w, key, value, ok, e, want, has)
		}
		steps, pairs, e := m.Walk([]byte(key))
		wantSteps, wantPairs := wordsWalk(w, tree, key)
		if e != api.OK || !sameSteps(steps, wantSteps) || !samePairs(pairs, wantPairs) {
			t.Fatalf("width %d: Walk(%q) = %x, %q, %d, want %x, %q", w, key, steps, pairs, e, wantSteps, wantPairs)
		}
	}
}

func newMap(t testing.TB, w int) *hamt.Map {
	t.Helper()
	m, e := hamt.New(w)
	if e != api.OK || m == nil {
		t.Fatalf("New(%d): %v, %d", w, m, e)
	}
	return m
}

func put(t testing.TB, m *hamt.Map, key, value string) *hamt.Map {
	t.Helper()
	grown, e := m.Put([]byte(key), []byte(value))
	if e != api.OK || grown == nil {
		t.Fatalf("Put(%q, %q): %v, %d", key, value, grown, e)
	}
	return grown
}

func del(t testing.TB, m *hamt.Map, key string, want bool) *hamt.Map {
	t.Helper()
	left, had, e := m.Delete([]byte(key))
	if e != api.OK || left == nil || had != want {
		t.Fatalf("Delete(%q): %v, %v, %d, want %v", key, left, had, e, want)
	}
	return left
}

// mapOf answers a map with the book's pairs, put in the order of their keys.
func mapOf(t testing.TB, w int, b book) *hamt.Map {
	t.Helper()
	m := newMap(t, w)
	for _, key := range slices.Sorted(maps.Keys(b)) {
		m = put(t, m, key, b[key])
	}
	return m
}

// rowOf answers a book of n keys.
func rowOf(n int) book {
	b := book{}
	for i := range n {
		b["k"+strconv.Itoa(i)] = strings.Repeat(strconv.Itoa(i), i%5)
	}
	return b
}

// keysWith answers the first n keys of a row whose digests begin with these digits.
func keysWith(w int, begin string, n int) []string {
	var keys []string
	for i := 0; len(keys) < n; i++ {
		if key := "k" + strconv.Itoa(i); strings.HasPrefix(digits(w, key), begin) {
			keys = append(keys, key)
		}
	}
	return keys
}

// twins answers two keys whose digests have just the first digits in common, as many as said.
func twins(w, common int) (string, string) {
	seen := map[string][]string{}
	for i := 0; ; i++ {
		key := "t" + strconv.Itoa(i)
		text := digits(w, key)
		for _, other := range seen[text[:common]] {
			if common == 2*w || digits(w, other)[common] != text[common] {
				return other, key
			}
		}
		seen[text[:common]] = append(seen[text[:common]], key)
	}
}

func TestP14_1_New(t *testing.T) {
	for w := 1; w <= api.MaxWidth; w++ {
		m := newMap(t, w)
		holds(t, m, w, book{}, "", "a", strings.Repeat("z", api.MaxKey))
		if other := newMap(t, w); other == m {
			t.Errorf("New(%d) answers one map twice", w)
		}
	}
	for _, w := range []int{0, -1, 33, 34, 64, 256 + 4, 1<<32 + 4, math.MaxInt, math.MinInt} {
		if m, e := hamt.New(w); m != nil || e != api.ErrArg {
			t.Errorf("New(%d): %v, %d", w, m, e)
		}
	}
}

func TestP14_1_WidthAndLen(t *testing.T) {
	for _, w := range []int{1, 2, 31, 32} {
		m := newMap(t, w)
		for i := range 40 {
			m = put(t, m, strconv.Itoa(i), "x")
			m = put(t, m, strconv.Itoa(i/2), "y")
			if m.Width() != w || m.Len() != i+1 {
				t.Errorf("Width %d, Len %d, want %d and %d", m.Width(), m.Len(), w, i+1)
			}
		}
		for i := range 40 {
			m = del(t, m, strconv.Itoa(i), true)
			m = del(t, m, strconv.Itoa(i/2), false)
			if m.Width() != w || m.Len() != 39-i {
				t.Errorf("Width %d, Len %d, want %d and %d", m.Width(), m.Len(), w, 39-i)
			}
		}
	}
}

// Keys that are the beginnings of others, with noughts, at their longest; and values likewise.
func TestP14_2_KeysAndValues(t *testing.T) {
	long := strings.Repeat("k", api.MaxKey)
	keys := []string{"", "\x00", "\x00\x00", "a", "a\x00", "ab", "b", "\xff", "\xff\xff", long, long[1:], long[1:] + "l", strings.Repeat("\x00", api.MaxKey)}
	values := []string{"", "\x00", "v", strings.Repeat("v", 127), strings.Repeat("v", 128), strings.Repeat("\x00", 255), strings.Repeat("v", api.MaxValue)}
	for _, w := range []int{1, 2, 32} {
		b := book{}
		m := newMap(t, w)
		for i, key := range keys {
			b[key] = values[i%len(values)]
			m = put(t, m, key, b[key])
		}
		holds(t, m, w, b, "\x00\x00\x00", "abc", "aa", long[2:])
		for i, key := range keys {
			b[key] = values[(i+3)%len(values)]
			m = put(t, m, key, b[key])
			holds(t, m, w, b)
		}
	}
}

func TestP14_2_NilAndEmptyAreTheSame(t *testing.T) {
	for _, w := range []int{1, 32} {
		m := newMap(t, w)
		if value, ok, e := m.Get(nil); len(value) != 0 || ok || e != api.OK {
			t.Errorf("Get(nil) = %q, %v, %d", value, ok, e)
		}
		for _, key := range [][]byte{nil, {}} {
			for _, value := range [][]byte{nil, {}} {
				full, e := m.Put(key, value)
				if e != api.OK {
					t.Fatalf("Put: %d", e)
				}
				holds(t, full, w, book{"": ""}, "a")
				for _, again := range [][]byte{nil, {}} {
					if got, ok, e := full.Get(again); len(got) != 0 || !ok || e != api.OK {
						t.Errorf("Get = %q, %v, %d", got, ok, e)
					}
					left, had, e := full.Delete(again)
					if !had || e != api.OK {
						t.Errorf("Delete: %v, %d", had, e)
					}
					holds(t, left, w, book{}, "", "a")
				}
			}
		}
	}
}

// Ten keys, some of one digest, some that part at the first digit or at the second: each set of them, each key put into it and taken out of it.
func TestP14_3_EachSet(t *testing.T) {
	keys := slices.Concat(keysWith(1, "3a", 3), keysWith(1, "3c", 2), keysWith(1, "37", 1), keysWith(1, "81", 2), keysWith(1, "80", 1), keysWith(1, "f", 1))
	bookOf := func(set int) book {
		b := book{}
		for i, key := range keys {
			if set>>i&1 == 1 {
				b[key] = "v" + strconv.Itoa(i)
			}
		}
		return b
	}
	for _, w := range []int{1, 2} {
		made := []*hamt.Map{newMap(t, w)}
		for set := 1; set < 1<<len(keys); set++ {
			top := 0
			for set>>(top+1) != 0 {
				top++
			}
			made = append(made, put(t, made[set&^(1<<top)], keys[top], "v"+strconv.Itoa(top)))
		}
		for set, m := range made {
			for i, key := range keys {
				has := set>>i&1 == 1
				same(t, put(t, m, key, "v"+strconv.Itoa(i)), made[set|1<<i])
				same(t, del(t, m, key, has), made[set&^(1<<i)])
			}
		}
		for set, m := range made {
			holds(t, m, w, bookOf(set), keys...)
		}
	}
}

// same fails unless the two maps have the same pairs, root and count.
func same(t *testing.T, a, b *hamt.Map) {
	t.Helper()
	if a.Root() != b.Root() || a.Len() != b.Len() || a.Width() != b.Width() || !samePairs(a.Pairs(), b.Pairs()) {
		t.Fatalf("%x with %q, and %x with %q", a.Root(), a.Pairs(), b.Root(), b.Pairs())
	}
}

func TestP14_3_AnotherValue(t *testing.T) {
	for _, w := range []int{1, 2, 32} {
		b := rowOf(60)
		m := mapOf(t, w, b)
		for key := range b {
			for _, value := range []string{"", "new", b[key], strings.Repeat("n", api.MaxValue)} {
				changed := maps.Clone(b)
				changed[key] = value
				same(t, put(t, m, key, value), mapOf(t, w, changed))
			}
		}
		holds(t, m, w, b)
	}
}

func TestP14_3_DeleteOfWhatIsNotThere(t *testing.T) {
	for _, w := range []int{1, 2, 32} {
		for _, n := range []int{0, 1, 2, 30, 300} {
			b := rowOf(n)
			m := mapOf(t, w, b)
			for i := range 300 {
				left := del(t, m, "x"+strconv.Itoa(i), false)
				if left == m {
					t.Fatal("Delete answers the map itself")
				}
				if i%60 == 0 {
					holds(t, left, w, b, "x"+strconv.Itoa(i))
				}
				same(t, left, m)
			}
			holds(t, m, w, b)
		}
	}
}

// Maps that come out of one map have their own pairs beside those that they share.
func TestP14_3_Forks(t *testing.T) {
	for _, w := range []int{1, 3} {
		for _, n := range []int{0, 1, 2, 5, 40, 400} {
			b := rowOf(n)
			m := mapOf(t, w, b)
			var forks []*hamt.Map
			var books []book
			for fork := range 6 {
				own, ownBook := m, maps.Clone(b)
				for i := range 1 + 3*fork {
					key, value := "k"+strconv.Itoa(i*7), "fork "+strconv.Itoa(fork)
					if i%3 == 2 {
						_, has := ownBook[key]
						own = del(t, own, key, has)
						delete(ownBook, key)
						continue
					}
					own = put(t, own, key, value)
					ownBook[key] = value
				}
				forks, books = append(forks, own), append(books, ownBook)
			}
			for i, fork := range forks {
				holds(t, fork, w, books[i], "k0", "k7", "k999")
			}
			holds(t, m, w, b, "k0", "k7", "k999")
		}
	}
}

func TestP14_4_KnownRoots(t *testing.T) {
	thousand, long := book{}, book{}
	for i := range 1000 {
		thousand["k"+strconv.Itoa(i)] = "v" + strconv.Itoa(i*i)
	}
	for i := range 200 {
		long[strings.Repeat(string([]byte{byte(i)}), 64)] = strings.Repeat(string([]byte{byte(255 - i)}), 256)
	}
	for _, c := range []struct {
		w    int
		b    book
		root string
	}{
		{1, book{}, "e7"},
		{1, book{"": ""}, "7f"},
		{1, book{"a": "x"}, "a4"},
		{1, book{"a": "x", "b": "y", "c": ""}, "60"},
		{1, thousand, "42"},
		{1, long, "66"},
		{4, book{}, "e77b9a9a"},
		{4, book{"a": "x", "b": "y", "c": ""}, "9019fc93"},
		{4, thousand, "28c67643"},
		{4, long, "df86710b"},
		{32, book{}, "e77b9a9ae9e30b0dbdb6f510a264ef9de781501d7b6b92ae89eb059c5ab743db"},
		{32, book{"": ""}, "7fbda10ac6e27c20fe902dbf066f1155b22acaf5037cbc48188b8bc3b09e7a7c"},
		{32, book{"a": "x"}, "a46d1fc195c85c2ea5f973446ae5295f058f6af5642c3c603888686a0964dc9c"},
		{32, book{"a": "x", "b": "y", "c": ""}, "e2ed74138e0fcde22e95d74f646a7ebfd5cf331814e6054e810d46f4d48ad6ab"},
		{32, thousand, "e1fbf058b5c92427935950c07d0a84a62bdf99feda308e3c1c5901cb888ac47e"},
		{32, long, "65dd7112a74f8d2f54f7e92d3cdac2f31847ff973f68f3f7ff65da0ecbde9cd9"},
	} {
		root := mapOf(t, c.w, c.b).Root()
		if got := hex.EncodeToString(root[:c.w]); got != c.root || !digest.Form(c.w, root) {
			t.Errorf("width %d, %d pairs: Root %x, want %s", c.w, len(c.b), root, c.root)
		}
	}
}

func TestP14_4_EachWidth(t *testing.T) {
	for w := 1; w <= api.MaxWidth; w++ {
		for _, n := range []int{0, 1, 2, 3, 17, 100} {
			holds(t, mapOf(t, w, rowOf(n)), w, rowOf(n), "", "absent", "k100", "k101", "k102", "k103")
		}
	}
}

func TestP14_5_TheOrder(t *testing.T) {
	for _, w := range []int{1, 2, 3, 32} {
		pairs := mapOf(t, w, rowOf(700)).Pairs()
		if len(pairs) != 700 {
			t.Fatalf("%d pairs", len(pairs))
		}
		for i, pair := range pairs[1:] {
			a, _ := digest.Key(w, pairs[i].Key)
			b, _ := digest.Key(w, pair.Key)
			order, e := nibble.Order(w, a, b)
			if e != api.OK || order > 0 || order == 0 && bytes.Compare(pairs[i].Key, pair.Key) >= 0 {
				t.Errorf("width %d: %q ahead of %q", w, pairs[i].Key, pair.Key)
			}
		}
	}
}

// Of one digest the shorter key stands first where it is the other one's beginning, and bytes count as they are, from 0 to 255.
func TestP14_5_KeysOfOneDigest(t *testing.T) {
	want := digits(1, "")
	var keys []string
	for _, begin := range []string{"", "\x00", "\x7f", "\x80", "\xff", "a", "aa"} {
		for i := range 1 << 16 {
			for _, key := range []string{begin, begin + string([]byte{byte(i)}), begin + string([]byte{byte(i >> 8), byte(i)})} {
				if len(keys) < 400 && digits(1, key) == want && !slices.Contains(keys, key) {
					keys = append(keys, key)
				}
			}
		}
	}
	slices.Reverse(keys)
	b := book{}
	m := newMap(t, 1)
	for i, key := range keys {
		b[key] = strconv.Itoa(i)
		m = put(t, m, key, b[key])
	}
	var got []string
	for _, pair := range m.Pairs() {
		got = append(got, string(pair.Key))
	}
	if len(got) < 100 || !slices.IsSorted(got) {
		t.Errorf("%d keys: %q", len(got), got)
	}
	holds(t, m, 1, b, "nothing")
	steps, pairs, e := m.Walk([]byte("whatever"))
	if len(steps) != 0 || len(pairs) != len(b) || e != api.OK {
		t.Errorf("Walk: %d steps, %d pairs, %d", len(steps), len(pairs), e)
	}
	for i, key := range keys {
		m = del(t, m, key, true)
		delete(b, key)
		if i%37 == 0 {
			holds(t, m, 1, b, keys[0], key)
		}
	}
	holds(t, m, 1, b, keys...)
}

func TestP14_6_WaysDown(t *testing.T) {
	for _, w := range []int{1, 2, 3, 32} {
		for _, n := range []int{0, 1, 2, 10, 256, 1000} {
			b := rowOf(n)
			m := mapOf(t, w, b)
			var more []string
			for i := range 300 {
				more = append(more, "absent "+strconv.Itoa(i))
			}
			holds(t, m, w, b, more...)
			for _, key := range more {
				leadsTo(t, m, w, key)
			}
		}
	}
}

// leadsTo fails unless the key's way, taken from its end up, leads to the map's root, by the digests alone.
func leadsTo(t *testing.T, m *hamt.Map, w int, key string) {
	t.Helper()
	steps, pairs, e := m.Walk([]byte(key))
	if e != api.OK || len(steps) > 2*w {
		t.Fatalf("Walk(%q): %d steps, %d", key, len(steps), e)
	}
	sum := wordsRoot(w, nil)
	if len(pairs) > 0 {
		sum, _ = digest.Bucket(w, pairs)
	}
	for i := len(steps) - 1; i >= 0; i-- {
		child, _ := nibble.At(w, keySum(w, key), i)
		has := nibble.Has(steps[i].Bitmap, child)
		if ends := i == len(steps)-1 && len(pairs) == 0; has == ends {
			t.Fatalf("Walk(%q): step %d of %d has a child %v, beside %d pairs", key, i, len(steps), has, len(pairs))
		}
		if has && steps[i].Kids[nibble.Rank(steps[i].Bitmap, child)] != sum {
			t.Fatalf("Walk(%q): step %d has another digest of the child", key, i)
		}
		sum, e = digest.Branch(w, steps[i].Bitmap, steps[i].Kids)
		if e != api.OK {
			t.Fatalf("Walk(%q): step %d makes no branch: %d", key, i, e)
		}
	}
	if sum != m.Root() {
		t.Fatalf("Walk(%q) leads to %x, not to %x", key, sum, m.Root())
	}
}

// Two keys whose digests part at each digit that there is, the last one too: branches with a single child above the one where they part, gone again when one of the two is.
func TestP14_6_PartingAtEachDigit(t *testing.T) {
	for _, c := range []struct{ w, most int }{{1, 1}, {2, 3}, {3, 5}, {4, 7}, {32, 7}} {
		for common := range c.most + 1 {
			one, two := twins(c.w, common)
			for _, order := range [][]string{{one, two}, {two, one}} {
				m := newMap(t, c.w)
				for _, key := range order {
					m = put(t, m, key, "v"+key)
				}
				holds(t, m, c.w, book{one: "v" + one, two: "v" + two}, "", "a", "b")
				partsBehind(t, m, one, common)
				partsBehind(t, m, two, common)
				holds(t, del(t, m, one, true), c.w, book{two: "v" + two}, one, "a")
				holds(t, del(t, m, two, true), c.w, book{one: "v" + one}, two, "a")
			}
		}
	}
}

// partsBehind fails unless the key's way in a map of two goes through so many branches with a single child, and then through one with two.
func partsBehind(t *testing.T, m *hamt.Map, key string, common int) {
	t.Helper()
	steps, pairs, e := m.Walk([]byte(key))
	if e != api.OK || len(steps) != common+1 || len(pairs) != 1 || string(pairs[0].Key) != key {
		t.Fatalf("%d digits in common: Walk(%q): %d steps, %q, %d", common, key, len(steps), pairs, e)
	}
	for i, step := range steps {
		want := 1
		if i == common {
			want = 2
		}
		if nibble.Count(step.Bitmap) != want || len(step.Kids) != want {
			t.Fatalf("%d digits in common: Walk(%q): step %d: %04x, %d children", common, key, i, step.Bitmap, len(step.Kids))
		}
	}
}

// A bucket moves down when a key comes that goes the same way, and up again, by several digits at once, when it is left alone; a third key further up keeps it from the root.
func TestP14_6_ABucketAsNearAsItCan(t *testing.T) {
	for _, w := range []int{2, 3, 4} {
		one, two := twins(w, 2*w-1)
		for common := range min(2*w-1, 6) { // a key with more digits in common takes long to find
			third := keyApart(w, one, common)
			b := book{one: "1", two: "2", third: "3"}
			m := mapOf(t, w, b)
			holds(t, m, w, b, "a")
			for _, gone := range keysOf(b) {
				rest := maps.Clone(b)
				delete(rest, gone)
				left := del(t, m, gone, true)
				holds(t, left, w, rest, gone, "a")
				for _, also := range keysOf(rest) {
					last := maps.Clone(rest)
					delete(last, also)
					holds(t, del(t, left, also, true), w, last, gone, also, "a")
				}
				holds(t, put(t, left, gone, b[gone]), w, b, "a")
			}
			holds(t, m, w, b, "a")
		}
	}
}

// keyApart answers a key whose digest has just so many first digits in common with that of another.
func keyApart(w int, other string, common int) string {
	want := digits(w, other)
	for i := 0; ; i++ {
		key := "a" + strconv.Itoa(i)
		if text := digits(w, key); text[:common] == want[:common] && text[common] != want[common] {
			return key
		}
	}
}

// A child for each digit, put in a mixed order and taken away in another.
func TestP14_6_SixteenChildren(t *testing.T) {
	var keys []string
	for _, c := range "0123456789abcdef" {
		keys = append(keys, keysWith(1, "7"+string(c), 1)...)
	}
	r := rand.New(rand.NewSource(146))
	for range 30 {
		b := book{}
		m := newMap(t, 1)
		r.Shuffle(len(keys), func(i, j int) { keys[i], keys[j] = keys[j], keys[i] })
		for _, key := range keys {
			m = put(t, m, key, key)
			b[key] = key
			holds(t, m, 1, b, keys...)
		}
		steps, _, _ := m.Walk([]byte(keys[0]))
		if len(steps) != 2 || steps[0].Bitmap != 1<<7 || steps[1].Bitmap != 0xffff || len(steps[1].Kids) != 16 {
			t.Errorf("%x", steps)
		}
		r.Shuffle(len(keys), func(i, j int) { keys[i], keys[j] = keys[j], keys[i] })
		for _, key := range keys {
			m = del(t, m, key, true)
			delete(b, key)
			holds(t, m, 1, b, keys...)
		}
	}
}

// Each order in which six keys may come.
func TestP14_7_EachOrder(t *testing.T) {
	keys := slices.Concat(keysWith(1, "3a", 2), keysWith(1, "3c", 2), keysWith(1, "81", 1), keysWith(1, "39", 1))
	b := book{}
	for i, key := range keys {
		b[key] = strconv.Itoa(i)
	}
	for _, w := range []int{1, 32} {
		want := mapOf(t, w, b)
		holds(t, want, w, b)
		orders := 0
		var each func(m *hamt.Map, left []string)
		each = func(m *hamt.Map, left []string) {
			if len(left) == 0 {
				orders++
				same(t, m, want)
			}
			for i, key := range left {
				each(put(t, m, key, b[key]), slices.Concat(left[:i], left[i+1:]))
			}
		}
		each(newMap(t, w), keys)
		if orders != 720 {
			t.Errorf("%d orders", orders)
		}
	}
}

// Many pasts, and each map asked again when all have been made.
func TestP14_7_AsTheWordsSay(t *testing.T) {
	for seed := range 60 {
		r := rand.New(rand.NewSource(int64(seed)))
		w := []int{1, 1, 2, 3, 1 + r.Intn(32)}[r.Intn(5)]
		span := 1 + r.Intn(300)
		made, books := []*hamt.Map{newMap(t, w)}, []book{{}}
		for range 40 {
			from := r.Intn(len(made))
			m, b := made[from], maps.Clone(books[from])
			for range r.Intn(60) {
				key := "k" + strconv.Itoa(r.Intn(span))
				if r.Intn(5) < 2 {
					_, has := b[key]
					m = del(t, m, key, has)
					delete(b, key)
					continue
				}
				b[key] = strconv.Itoa(r.Intn(10))
				m = put(t, m, key, b[key])
			}
			made, books = append(made, m), append(books, b)
		}
		for i, m := range made {
			holds(t, m, w, books[i], "k0", "k1", "k2", "k299", "absent")
		}
	}
}

// What was put and deleted on the way leaves no trace.
func TestP14_7_ThereAndBack(t *testing.T) {
	for _, w := range []int{1, 2, 32} {
		b := rowOf(120)
		m := mapOf(t, w, b)
		there := m
		for i := range 200 {
			there = put(t, there, "x"+strconv.Itoa(i), "x")
		}
		for key := range b {
			there = put(t, there, key, "other")
		}
		for i := range 200 {
			there = del(t, there, "x"+strconv.Itoa(i*77%200), true)
		}
		for key := range b {
			there = del(t, there, key, true)
		}
		holds(t, there, w, book{}, "k1", "x1")
		for key, value := range b {
			there = put(t, there, key, value)
		}
		holds(t, there, w, b, "x1", "x2")
		holds(t, m, w, b, "x1", "x2")
	}
}

func TestP14_7_AGreatMap(t *testing.T) {
	for _, w := range []int{2, 32} {
		b := rowOf(8000)
		m := mapOf(t, w, b)
		holds(t, m, w, b, "absent")
		for i := range 7990 {
			key := "k" + strconv.Itoa(i)
			m = del(t, m, key, true)
			delete(b, key)
		}
		holds(t, m, w, b, "k0", "k1")
	}
}

func TestP14_Examples(t *testing.T) {
	empty := newMap(t, 1)
	if none, _ := digest.NoMap(1); empty.Len() != 0 || empty.Root() != none {
		t.Errorf("1: Len %d, Root %x", empty.Len(), empty.Root())
	}
	for _, w := range []int{0, 33} {
		if m, e := hamt.New(w); m != nil || e != api.ErrArg {
			t.Errorf("1: New(%d): %v, %d", w, m, e)
		}
	}
	for i := range 300 {
		steps, pairs, e := put(t, empty, "one", "1").Walk([]byte(strconv.Itoa(i)))
		if len(steps) != 0 || len(pairs) != 1 || string(pairs[0].Key) != "one" || string(pairs[0].Value) != "1" || e != api.OK {
			t.Errorf("2: Walk(%d): %x, %q, %d", i, steps, pairs, e)
		}
	}
	a, c := keysWith(1, "3a", 2), keysWith(1, "3c", 1)
	two := put(t, put(t, empty, a[0], "a"), c[0], "c")
	aSum, _ := digest.Bucket(1, []api.Pair{{Key: []byte(a[0]), Value: []byte("a")}})
	cSum, _ := digest.Bucket(1, []api.Pair{{Key: []byte(c[0]), Value: []byte("c")}})
	low, _ := digest.Branch(1, 0x1400, []api.Digest{aSum, cSum})
	top, _ := digest.Branch(1, 0x0008, []api.Digest{low})
	steps, pairs, e := two.Walk([]byte(c[0]))
	if e != api.OK || two.Root() != top || len(pairs) != 1 || string(pairs[0].Key) != c[0] || !sameSteps(steps, []api.Step{
		{Bitmap: 0x0008, Kids: []api.Digest{low}}, {Bitmap: 0x1400, Kids: []api.Digest{aSum, cSum}},
	}) {
		t.Errorf("3: %x, %x, %q, %d", two.Root(), steps, pairs, e)
	}
	if left := del(t, two, c[0], true); left.Root() != aSum {
		t.Errorf("3: %x is left, want %x", left.Root(), aSum)
	}
	if left := del(t, two, a[0], true); left.Root() != cSum {
		t.Errorf("3: %x is left, want %x", left.Root(), cSum)
	}
	slices.Sort(a)
	both := put(t, put(t, empty, a[1], "y"), a[0], "x")
	want, _ := digest.Bucket(1, []api.Pair{{Key: []byte(a[0]), Value: []byte("x")}, {Key: []byte(a[1]), Value: []byte("y")}})
	if both.Root() != want {
		t.Errorf("4: %x, want %x", both.Root(), want)
	}
	full := put(t, empty, "", "")
	if value, ok, e := full.Get(nil); full.Len() != 1 || len(value) != 0 || !ok || e != api.OK {
		t.Errorf("5: Len %d, Get = %q, %v, %d", full.Len(), value, ok, e)
	}
	if left := del(t, full, "x", false); left.Len() != 1 {
		t.Errorf("5: Len %d", left.Len())
	}
	if m, e := full.Put(make([]byte, 65), nil); m != nil || e != api.ErrLong {
		t.Errorf("5: a key of 65 bytes: %v, %d", m, e)
	}
	if m, e := full.Put(nil, make([]byte, 257)); m != nil || e != api.ErrLong {
		t.Errorf("5: a value of 257 bytes: %v, %d", m, e)
	}
}

// fails fails unless each call with this key and this value answers the error, and nothing beside it; value is Put's alone.
func fails(t *testing.T, m *hamt.Map, key, value []byte, ofKey, ofPut api.Errno) {
	t.Helper()
	if v, ok, e := m.Get(key); ofKey != api.OK && (v != nil || ok) || e != ofKey {
		t.Errorf("Get of %d bytes: %q, %v, %d, want %d", len(key), v, ok, e, ofKey)
	}
	if left, had, e := m.Delete(key); ofKey != api.OK && (left != nil || had) || e != ofKey {
		t.Errorf("Delete of %d bytes: %v, %v, %d, want %d", len(key), left, had, e, ofKey)
	}
	if steps, pairs, e := m.Walk(key); ofKey != api.OK && (len(steps) != 0 || len(pairs) != 0) || e != ofKey {
		t.Errorf("Walk of %d bytes: %x, %q, %d, want %d", len(key), steps, pairs, e, ofKey)
	}
	if grown, e := m.Put(key, value); ofPut != api.OK && grown != nil || e != ofPut {
		t.Errorf("Put of %d and %d bytes: %v, %d, want %d", len(key), len(value), grown, e, ofPut)
	}
}

func TestErrors_TheLeastNumber(t *testing.T) {
	for _, w := range []int{1, 32} {
		for _, n := range []int{0, 1, 50} {
			m := mapOf(t, w, rowOf(n))
			for _, key := range []int{0, 1, 63, 64, 65, 66, 128, 256, 320, 65536} {
				for _, value := range []int{0, 1, 64, 65, 255, 256, 257, 512, 65536 + 1} {
					ofKey, ofPut := api.OK, api.OK
					if key > 64 {
						ofKey, ofPut = api.ErrLong, api.ErrLong
					}
					if value > 256 {
						ofPut = api.ErrLong
					}
					fails(t, m, make([]byte, key), make([]byte, value), ofKey, ofPut)
					fails(t, nil, make([]byte, key), make([]byte, value), api.ErrNone, api.ErrNone)
				}
			}
			holds(t, m, w, rowOf(n))
		}
	}
}

func TestErrors_ANilMap(t *testing.T) {
	var m *hamt.Map
	if m.Width() != 0 || m.Len() != 0 || m.Root() != (api.Digest{}) || len(m.Pairs()) != 0 {
		t.Errorf("Width %d, Len %d, Root %x, Pairs %q", m.Width(), m.Len(), m.Root(), m.Pairs())
	}
	fails(t, m, nil, nil, api.ErrNone, api.ErrNone)
	fails(t, m, []byte("k"), []byte("v"), api.ErrNone, api.ErrNone)
}

// Of a map that New has not made nothing is promised but that its calls end, and that beside an error there is nothing.
func TestP1_NotMadeByNew(t *testing.T) {
	made := mapOf(t, 1, rowOf(40))
	copied := *made
	for _, m := range []*hamt.Map{{}, new(hamt.Map), &copied} {
		for _, n := range []int{0, 1, 64, 65} {
			for _, v := range []int{0, 256, 257} {
				m.Width()
				m.Len()
				m.Root()
				m.Pairs()
				key := bytes.Repeat([]byte("k"), n)
				_, _, e := m.Get(key)
				_, f := m.Put(key, make([]byte, v))
				if v > 256 && f == api.OK {
					t.Error("Put of a long value is OK")
				}
				fails(t, m, key, make([]byte, v), e, f)
			}
		}
		grown, _ := m.Put([]byte("k1"), nil)
		left, _, _ := grown.Delete([]byte("k1"))
		left.Root()
		left.Walk(nil)
	}
	holds(t, made, 1, rowOf(40))
}

// roomy answers the text with spare room behind it, and all of that room.
func roomy(text string) ([]byte, []byte) {
	room := []byte(text + "spare room")
	return room[:len(text)], room
}

func TestMemory_WhatIsHandedIn(t *testing.T) {
	for _, w := range []int{1, 2, 32} {
		for _, n := range []int{0, 1, 2, 60} {
			b := rowOf(n)
			m := mapOf(t, w, b)
			for _, text := range []string{"", "k0", "k1", "new", strings.Repeat("n", api.MaxKey)} {
				key, keyRoom := roomy(text)
				value, valueRoom := roomy("value of " + text)
				grown, e := m.Put(key, value)
				left, _, f := m.Delete(key)
				m.Get(key)
				m.Walk(key)
				if e != api.OK || f != api.OK {
					t.Fatalf("Put %d, Delete %d", e, f)
				}
				if string(keyRoom) != text+"spare room" || string(valueRoom) != "value of "+text+"spare room" {
					t.Fatalf("%q and %q are left of what was handed in", keyRoom, valueRoom)
				}
				for _, room := range [][]byte{keyRoom, valueRoom} {
					for i := range room {
						room[i] = '!'
					}
				}
				with, without := maps.Clone(b), maps.Clone(b)
				with[text] = "value of " + text
				delete(without, text)
				holds(t, grown, w, with, "!!")
				holds(t, left, w, without, "!!")
				holds(t, m, w, b, "!!")
			}
		}
	}
}

// scrawl writes over bytes and their spare room.
func scrawl(p []byte) {
	p = p[:cap(p)]
	for i := range p {
		p[i] ^= 0xa5
	}
}

// scrawlAll writes over pairs, steps and all that they lead to, and over all spare room.
func scrawlAll(pairs []api.Pair, steps []api.Step) {
	for _, pair := range pairs {
		scrawl(pair.Key)
		scrawl(pair.Value)
	}
	pairs = pairs[:cap(pairs)]
	for i := range pairs {
		pairs[i] = api.Pair{Key: []byte("scrawl")}
	}
	for _, step := range steps {
		kids := step.Kids[:cap(step.Kids)]
		for i := range kids {
			kids[i] = api.Digest{0xa5}
		}
	}
	steps = steps[:cap(steps)]
	for i := range steps {
		steps[i] = api.Step{Bitmap: 0xa5}
	}
}

func TestMemory_WhatIsAnswered(t *testing.T) {
	for _, w := range []int{1, 2, 32} {
		for _, n := range []int{0, 1, 2, 3, 90} {
			b := rowOf(n)
			m := mapOf(t, w, b)
			further := put(t, m, "further", "f")
			furtherBook := maps.Clone(b)
			furtherBook["further"] = "f"
			for _, key := range append(keysOf(b), "absent", "") {
				value, _, _ := m.Get([]byte(key))
				scrawl(value)
				pairs := m.Pairs()
				scrawlAll(pairs, nil)
				steps, pairs, _ := m.Walk([]byte(key))
				scrawlAll(pairs, steps)
			}
			holds(t, m, w, b, "absent", "")
			holds(t, further, w, furtherBook, "absent", "")
		}
	}
}

// No two lists of one answer share memory, their spare room neither, and no two answers do.
func TestMemory_ListsOfAnAnswer(t *testing.T) {
	for _, w := range []int{1, 2, 32} {
		b := rowOf(150)
		m := mapOf(t, w, b)
		var lists [][]byte
		var kids [][]api.Digest
		for range 2 {
			for _, pair := range m.Pairs() {
				lists = append(lists, pair.Key, pair.Value)
			}
			for _, key := range []string{"k1", "k1", "k149", "absent"} {
				steps, pairs, _ := m.Walk([]byte(key))
				for _, pair := range pairs {
					lists = append(lists, pair.Key, pair.Value)
				}
				for _, step := range steps {
					kids = append(kids, step.Kids)
				}
				value, _, _ := m.Get([]byte(key))
				lists = append(lists, value)
			}
		}
		mayNotMeet(t, lists)
		mayNotMeet(t, kids)
	}
}

// mayNotMeet fails if one item stands in two of the lists or in their spare room.
func mayNotMeet[T any](t *testing.T, lists [][]T) {
	t.Helper()
	seen := map[*T]int{}
	for i, list := range lists {
		list = list[:cap(list)]
		for j := range list {
			if other, ok := seen[&list[j]]; ok && other != i {
				t.Fatalf("the lists %d and %d share memory", other, i)
			}
			seen[&list[j]] = i
		}
	}
}

// P2: many goroutines ask one map, and make maps of their own out of it.
func TestP2_ManyAtATime(t *testing.T) {
	for _, w := range []int{1, 32} {
		b := rowOf(80)
		m := mapOf(t, w, b)
		root, pairs := m.Root(), m.Pairs()
		var group sync.WaitGroup
		for i := range 12 {
			group.Go(func() {
				own, ownBook := m, maps.Clone(b)
				for j := range 60 {
					key, value := "k"+strconv.Itoa((i+j*13)%120), strconv.Itoa(i)
					if j%3 == 0 {
						own, _, _ = own.Delete([]byte(key))
						delete(ownBook, key)
					} else {
						own, _ = own.Put([]byte(key), []byte(value))
						ownBook[key] = value
					}
					got, ok, e := m.Get([]byte(key))
					if want, has := b[key]; string(got) != want || ok != has || e != api.OK {
						t.Errorf("goroutine %d: Get(%q) = %q, %v, %d", i, key, got, ok, e)
					}
					if m.Root() != root || j%20 == 0 && !samePairs(m.Pairs(), pairs) {
						t.Errorf("goroutine %d: the map has changed", i)
					}
				}
				if want := wordsTree(w, ownBook, keysOf(ownBook), 0); own.Root() != wordsRoot(w, want) || own.Len() != len(ownBook) {
					t.Errorf("goroutine %d: its own map is another one", i)
				}
			})
		}
		group.Wait()
		holds(t, m, w, b)
	}
}

// Puts and Deletes by bytes: the first byte is the width, and then two bytes for each call.
func FuzzAsTheWordsSay(f *testing.F) {
	f.Add([]byte{1, 0, 1, 0, 2, 1, 1, 0, 3})
	f.Add([]byte("a history of puts and deletes"))
	f.Fuzz(func(t *testing.T, calls []byte) {
		if len(calls) == 0 || len(calls) > 200 {
			return
		}
		w := 1 + int(calls[0])%api.MaxWidth
		m, b := newMap(t, w), book{}
		for i := 1; i+1 < len(calls); i += 2 {
			key := strings.Repeat("k", int(calls[i]>>6)) + string([]byte{calls[i+1]})
			if calls[i]%3 == 0 {
				_, has := b[key]
				m = del(t, m, key, has)
				delete(b, key)
			} else {
				b[key] = strings.Repeat("v", int(calls[i]%64))
				m = put(t, m, key, b[key])
			}
		}
		holds(t, m, w, b, "", "k", "kkkk")
	})
}
