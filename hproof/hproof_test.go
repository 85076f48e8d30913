package hproof_test

import (
	"bytes"
	"crypto/sha256"
	"encoding/binary"
	"encoding/hex"
	"maps"
	"math/bits"
	"math/rand"
	"slices"
	"strconv"
	"strings"
	"sync"
	"testing"

	"notary/api"
	"notary/digest"
	"notary/hamt"
	"notary/hproof"
)

// book is which value each key has: what a map's proofs are held against.
type book map[string]string

// cutSum is the digest of a text, made by another SHA-256.
func cutSum(w int, p []byte) api.Digest {
	whole := sha256.Sum256(p)
	var d api.Digest
	copy(d[:w], whole[:])
	return d
}

// digits answers the digits of a key's digest, in base 16.
func digits(w int, key string) string {
	d := cutSum(w, []byte("\x02"+key))
	return hex.EncodeToString(d[:w])
}

// digitAt answers the digit number i of a key's digest.
func digitAt(w int, key string, i int) int {
	return strings.IndexByte("0123456789abcdef", digits(w, key)[i])
}

// bucketSum is the digest of a bucket of these keys.
func bucketSum(w int, b book, keys []string) api.Digest {
	input := binary.AppendUvarint([]byte{3}, uint64(len(keys)))
	for _, key := range keys {
		for _, part := range []string{key, b[key]} {
			input = append(binary.AppendUvarint(input, uint64(len(part))), part...)
		}
	}
	return cutSum(w, input)
}

// branchSum is the digest of a branch.
func branchSum(w int, bitmap uint16, kids []api.Digest) api.Digest {
	input := []byte{4, byte(bitmap >> 8), byte(bitmap)}
	for _, kid := range kids {
		input = append(input, kid[:w]...)
	}
	return cutSum(w, input)
}

// wordsNode is what keys make in chapter 14's words: a bucket of these keys, or a branch with a child for some digits.
type wordsNode struct {
	keys []string
	kids [16]*wordsNode
	sum  api.Digest
}

// wordsTree answers what the keys make at the depth; nil of no keys.
func wordsTree(w int, b book, keys []string, depth int) *wordsNode {
	if len(keys) == 0 {
		return nil
	}
	n := &wordsNode{}
	apart := slices.ContainsFunc(keys, func(key string) bool { return digits(w, key) != digits(w, keys[0]) })
	if !apart {
		n.keys = slices.Sorted(slices.Values(keys))
		n.sum = bucketSum(w, b, n.keys)
		return n
	}
	var parts [16][]string
	for _, key := range keys {
		i := digitAt(w, key, depth)
		parts[i] = append(parts[i], key)
	}
	for i, part := range parts {
		n.kids[i] = wordsTree(w, b, part, depth+1)
	}
	bitmap, kids := n.allBut(-1)
	n.sum = branchSum(w, bitmap, kids)
	return n
}

// allBut answers a branch's bitmap, and the digests of its children but that for the digit.
func (n *wordsNode) allBut(digit int) (uint16, []api.Digest) {
	bitmap, kids := 0, []api.Digest{}
	for i, kid := range n.kids {
		if kid != nil {
			bitmap += 1 << i
			if i != digit {
				kids = append(kids, kid.sum)
			}
		}
	}
	return uint16(bitmap), kids
}

// wordsProof is P15.1 over such a tree.
func wordsProof(w int, b book, tree *wordsNode, key string) api.KeyProof {
	var p api.KeyProof
	n := tree
	for n != nil && n.keys == nil {
		child := digitAt(w, key, len(p.Steps))
		bitmap, kids := n.allBut(child)
		p.Steps = append(p.Steps, api.Step{Bitmap: bitmap, Kids: kids})
		n = n.kids[child]
	}
	if n != nil {
		for _, own := range n.keys {
			p.Pairs = append(p.Pairs, api.Pair{Key: []byte(own), Value: []byte(b[own])})
		}
	}
	return p
}

func sameProof(p, q api.KeyProof) bool {
	return slices.EqualFunc(p.Steps, q.Steps, func(x, y api.Step) bool {
		return x.Bitmap == y.Bitmap && slices.Equal(x.Kids, y.Kids)
	}) && slices.EqualFunc(p.Pairs, q.Pairs, func(x, y api.Pair) bool {
		return bytes.Equal(x.Key, y.Key) && bytes.Equal(x.Value, y.Value)
	})
}

func keysOf(b book) []string { return slices.Sorted(maps.Keys(b)) }

// holds fails unless the proofs of the keys in the map and of some more are what the words say of these pairs.
func holds(t *testing.T, m *hamt.Map, w int, b book, more ...string) {
	t.Helper()
	tree := wordsTree(w, b, keysOf(b), 0)
	for _, key := range append(keysOf(b), more...) {
		p, e := hproof.Prove(m, []byte(key))
		want := wordsProof(w, b, tree, key)
		if e != api.OK || !sameProof(p, want) {
			t.Fatalf("width %d, %d pairs: Prove(%q) = %x, %d, want %x", w, len(b), key, p, e, want)
		}
		sizes(t, p)
	}
}

// sizes fails unless Size counts what stands in the proof.
func sizes(t *testing.T, p api.KeyProof) {
	t.Helper()
	digests, pairs := 0, 0
	for _, step := range p.Steps {
		for range step.Kids {
			digests++
		}
	}
	for range p.Pairs {
		pairs++
	}
	if a, b := hproof.Size(p); a != digests || b != pairs {
		t.Fatalf("Size = %d, %d, want %d, %d", a, b, digests, pairs)
	}
}

func newMap(t testing.TB, w int) *hamt.Map {
	t.Helper()
	m, e := hamt.New(w)
	if e != api.OK || m == nil {
		t.Fatalf("New(%d): %v, %d", w, m, e)
	}
	return m
}

func put(t testing.TB, m *hamt.Map, key, value string) *hamt.Map {
	t.Helper()
	grown, e := m.Put([]byte(key), []byte(value))
	if e != api.OK || grown == nil {
		t.Fatalf("Put(%q, %q): %v, %d", key, value, grown, e)
	}
	return grown
}

func del(t testing.TB, m *hamt.Map, key string) *hamt.Map {
	t.Helper()
	left, _, e := m.Delete([]byte(key))
	if e != api.OK || left == nil {
		t.Fatalf("Delete(%q): %v, %d", key, left, e)
	}
	return left
}

func mapOf(t testing.TB, w int, b book) *hamt.Map {
	t.Helper()
	m := newMap(t, w)
	for _, key := range keysOf(b) {
		m = put(t, m, key, b[key])
	}
	return m
}

// rowOf answers a book of n keys.
func rowOf(n int) book {
	b := book{}
	for i := range n {
		b["k"+strconv.Itoa(i)] = strings.Repeat(strconv.Itoa(i), i%5)
	}
	return b
}

// row answers n keys that begin alike.
func row(begin string, n int) []string {
	var keys []string
	for i := range n {
		keys = append(keys, begin+strconv.Itoa(i))
	}
	return keys
}

// keysWith answers the first n keys of a row whose digests begin with these digits.
func keysWith(w int, begin string, n int) []string {
	var keys []string
	for i := 0; len(keys) < n; i++ {
		if key := "k" + strconv.Itoa(i); strings.HasPrefix(digits(w, key), begin) {
			keys = append(keys, key)
		}
	}
	return keys
}

// twins answers two keys whose digests have just the first digits in common, as many as said.
func twins(w, common int) (string, string) {
	seen := map[string][]string{}
	for i := 0; ; i++ {
		key := "t" + strconv.Itoa(i)
		text := digits(w, key)
		for _, other := range seen[text[:common]] {
			if digits(w, other)[common] != text[common] {
				return other, key
			}
		}
		seen[text[:common]] = append(seen[text[:common]], key)
	}
}

func TestP15_1_AsTheWordsSay(t *testing.T) {
	for _, w := range []int{1, 2, 3, 32} {
		for _, n := range []int{0, 1, 2, 3, 10, 256, 1000} {
			holds(t, mapOf(t, w, rowOf(n)), w, rowOf(n), append(row("absent ", 300), "", strings.Repeat("z", api.MaxKey))...)
		}
	}
}

func TestP15_1_EachWidth(t *testing.T) {
	for w := 1; w <= api.MaxWidth; w++ {
		for _, n := range []int{0, 1, 2, 17, 100} {
			holds(t, mapOf(t, w, rowOf(n)), w, rowOf(n), row("absent ", 40)...)
		}
	}
}

// Nine keys, some of one digest, some that part at the first digit or at the second: each set of them, and each of them and others asked for.
func TestP15_1_EachSet(t *testing.T) {
	keys := slices.Concat(keysWith(1, "3a", 3), keysWith(1, "3c", 2), keysWith(1, "37", 1), keysWith(1, "81", 2), keysWith(1, "f", 1))
	asked := slices.Concat(keys, keysWith(1, "3a", 5), keysWith(1, "39", 1), keysWith(1, "80", 1), keysWith(1, "0", 1), row("k", 30))
	for _, w := range []int{1, 2} {
		for set := range 1 << len(keys) {
			b := book{}
			for i, key := range keys {
				if set>>i&1 == 1 {
					b[key] = "v" + strconv.Itoa(i)
				}
			}
			holds(t, mapOf(t, w, b), w, b, asked...)
		}
	}
}

// The digit that counts at a step is that of its number, to the last one that there is; above the branch where two part, the branches have a single child, and nothing is left of their digests.
func TestP15_1_PartingAtEachDigit(t *testing.T) {
	for _, c := range []struct{ w, most int }{{1, 1}, {2, 3}, {3, 5}, {4, 7}, {32, 7}} {
		for common := range c.most + 1 {
			one, two := twins(c.w, common)
			b := book{one: "1", two: "2"}
			m := mapOf(t, c.w, b)
			holds(t, m, c.w, b, row("absent ", 50)...)
			for _, key := range []string{one, two} {
				p, e := hproof.Prove(m, []byte(key))
				if e != api.OK || len(p.Steps) != common+1 || len(p.Pairs) != 1 || string(p.Pairs[0].Key) != key {
					t.Fatalf("width %d, %d in common: Prove(%q) = %x, %d", c.w, common, key, p, e)
				}
				for i, step := range p.Steps {
					if alone := i < common; alone != (len(step.Kids) == 0) || len(step.Kids) > 1 {
						t.Errorf("width %d, %d in common: %d digests at the step %d", c.w, common, len(step.Kids), i)
					}
				}
			}
		}
	}
}

// A branch with a child for each digit: the one whose digit is asked for is left out, the first, the last and each between.
func TestP15_1_SixteenChildren(t *testing.T) {
	b := book{}
	var keys []string
	for i := range 16 {
		key := keysWith(2, "7"+strconv.FormatInt(int64(i), 16), 1)[0]
		keys = append(keys, key)
		b[key] = key
	}
	m := mapOf(t, 2, b)
	holds(t, m, 2, b, row("absent ", 200)...)
	for i, key := range keys {
		steps, _, _ := m.Walk([]byte(key))
		p, e := hproof.Prove(m, []byte(key))
		if e != api.OK || len(p.Steps) != 2 || p.Steps[0].Bitmap != 1<<7 || len(p.Steps[0].Kids) != 0 || p.Steps[1].Bitmap != 0xffff {
			t.Fatalf("Prove(%q) = %x, %d", key, p, e)
		}
		if !slices.Equal(p.Steps[1].Kids, slices.Concat(steps[1].Kids[:i], steps[1].Kids[i+1:])) {
			t.Errorf("Prove(%q) leaves out another digest than that of the digit %d", key, i)
		}
	}
}

// At small widths children often have one digest: left out is that of the digit, not one that is like it.
func TestP15_1_ChildrenOfOneDigest(t *testing.T) {
	met := 0
	for n := range 120 {
		b := book{}
		for i := range 200 {
			b["n"+strconv.Itoa(n*1000+i)] = ""
		}
		m := mapOf(t, 1, b)
		holds(t, m, 1, b)
		for key := range b {
			steps, _, _ := m.Walk([]byte(key))
			for i, step := range steps {
				if matters(step, digitAt(1, key, i)) {
					met++
				}
			}
		}
	}
	if met < 100 {
		t.Errorf("it mattered %d times which of two like digests is left out", met)
	}
}

// matters tells whether the digest of the digit's child stands at another place too, with unlike ones between, so that the order tells which one is left out.
func matters(step api.Step, digit int) bool {
	if step.Bitmap>>digit&1 == 0 {
		return false
	}
	at := bits.OnesCount16(step.Bitmap & (1<<digit - 1))
	without := slices.Delete(slices.Clone(step.Kids), at, at+1)
	for i, kid := range step.Kids {
		if kid == step.Kids[at] && !slices.Equal(slices.Delete(slices.Clone(step.Kids), i, i+1), without) {
			return true
		}
	}
	return false
}

// leadsTo answers the digest to which a proof leads from its end up, what was left out put in again.
func leadsTo(w int, key string, p api.KeyProof) api.Digest {
	d := cutSum(w, []byte{5})
	if len(p.Pairs) > 0 {
		d, _ = digest.Bucket(w, p.Pairs)
	}
	for i := len(p.Steps) - 1; i >= 0; i-- {
		step, child := p.Steps[i], digitAt(w, key, i)
		kids := step.Kids
		if step.Bitmap>>child&1 == 1 {
			kids = slices.Insert(slices.Clone(kids), bits.OnesCount16(step.Bitmap<<(16-child)), d)
		}
		d = branchSum(w, step.Bitmap, kids)
	}
	return d
}

func TestP15_1_LeadsToTheRoot(t *testing.T) {
	for _, w := range []int{1, 2, 32} {
		for _, n := range []int{0, 1, 2, 40, 700} {
			m := mapOf(t, w, rowOf(n))
			for _, key := range slices.Concat(row("k", n), row("absent ", 200)) {
				p, e := hproof.Prove(m, []byte(key))
				if d := leadsTo(w, key, p); e != api.OK || d != m.Root() {
					t.Fatalf("width %d, %d pairs: the proof of %q leads to %x, not to %x; %d", w, n, key, d, m.Root(), e)
				}
			}
		}
	}
}

func TestP15_1_NilAndEmptyAreTheSame(t *testing.T) {
	for _, b := range []book{{}, {"": ""}, {"": "v", "a": ""}, rowOf(50)} {
		m := mapOf(t, 2, b)
		p, e := hproof.Prove(m, nil)
		q, f := hproof.Prove(m, []byte{})
		if e != api.OK || f != api.OK || !sameProof(p, q) {
			t.Errorf("of nil %x, %d, of an empty key %x, %d", p, e, q, f)
		}
		holds(t, m, 2, b, "")
	}
}

// laid answers a proof as bytes, as the other program has laid them.
func laid(w int, p api.KeyProof) []byte {
	q := binary.BigEndian.AppendUint16(nil, uint16(len(p.Steps)))
	for _, step := range p.Steps {
		q = append(binary.BigEndian.AppendUint16(q, step.Bitmap), byte(len(step.Kids)))
		for _, kid := range step.Kids {
			q = append(q, kid[:w]...)
		}
	}
	q = binary.BigEndian.AppendUint16(q, uint16(len(p.Pairs)))
	for _, pair := range p.Pairs {
		q = append(append(q, byte(len(pair.Key))), pair.Key...)
		q = append(binary.BigEndian.AppendUint16(q, uint16(len(pair.Value))), pair.Value...)
	}
	return q
}

// Sums over the proofs of 1461 keys, in and out of the map, made by a program in another language.
func TestP15_1_KnownProofs(t *testing.T) {
	thousand, long := book{}, book{}
	for i := range 1000 {
		thousand["k"+strconv.Itoa(i)] = "v" + strconv.Itoa(i*i)
	}
	for i := range 200 {
		long[strings.Repeat(string([]byte{byte(i)}), 64)] = strings.Repeat(string([]byte{byte(255 - i)}), 256)
	}
	asked := append([]string{"", "a", "b", "c", "d"}, row("k", 1200)...)
	for i := range 256 {
		asked = append(asked, strings.Repeat(string([]byte{byte(i)}), 64))
	}
	empty, one, three := book{}, book{"a": "x"}, book{"a": "x", "b": "y", "c": ""}
	for _, c := range []struct {
		w              int
		b              book
		sum            string
		digests, pairs int
	}{
		{1, empty, "8ecfd65e13fbc1c9e5ec92217d844d6396f111f231cbcfe171fd0b64842a85ee", 0, 0},
		{1, one, "c04d3130504cdfecdceafc04290813168de8b49d8e96125240296bf05fb19419", 0, 1461},
		{1, three, "bdceebf6bc3b9e1e087bfb25034d146df9f51c1756d52e8f190366cfab3cc33e", 4103, 280},
		{1, thousand, "9e49908b0d8857a0a2c0afefbab25ec3130b3c9669efd2cac946fed60156b225", 43070, 6723},
		{1, long, "87f07808c1d1d2665f91ed34edb9a967773202a7847285ed5f968ea7784487e6", 33325, 1342},
		{2, three, "97ef518dd233dcb1b3356b6778c8e6ecaf406a04f5f72d2c950a95ae0dfef2ad", 4103, 280},
		{2, thousand, "9c84cb46c42ec16d366175dd5b369b7d1f78c3e274891092d97d22122e56fd6c", 48053, 1120},
		{2, long, "e8a36c285f20de47cc55374ddce1f9e3ff93014feac5156ea9a21c8dd0bb3652", 34042, 612},
		{4, three, "2f4980ed5ae2c1919dd81001b949df07599e68b240f11fb60a1dbe6f581d2975", 4103, 280},
		{4, thousand, "b355258143a34c3bc7007be3a2831d461e9cb149b99dfb6d4b600c0d03acc312", 48063, 1110},
		{4, long, "b8b0f179346ae102fd9c1678a05ef61e210eedc3d68aa6c19138a352fe53796b", 34047, 604},
		{32, empty, "8ecfd65e13fbc1c9e5ec92217d844d6396f111f231cbcfe171fd0b64842a85ee", 0, 0},
		{32, one, "c04d3130504cdfecdceafc04290813168de8b49d8e96125240296bf05fb19419", 0, 1461},
		{32, three, "a10f52210e9ddccbcb30b1dc8d72315028b3219eed670cd48c049789c65abb94", 4103, 280},
		{32, thousand, "f591dd21b97706e418ca66ecbb86ad4cd4ea5415936c3b26a011158221e63c39", 48063, 1110},
		{32, long, "099e5362718344a031992472f36903e2f221fa2441904a9f1f156262d8cbda62", 34047, 604},
	} {
		m := mapOf(t, c.w, c.b)
		sum := sha256.New()
		digests, pairs := 0, 0
		for _, key := range asked {
			p, e := hproof.Prove(m, []byte(key))
			if e != api.OK {
				t.Fatalf("Prove(%q): %d", key, e)
			}
			sum.Write(laid(c.w, p))
			x, y := hproof.Size(p)
			digests, pairs = digests+x, pairs+y
		}
		if got := hex.EncodeToString(sum.Sum(nil)); got != c.sum || digests != c.digests || pairs != c.pairs {
			t.Errorf("width %d, %d pairs: %s, %d digests, %d pairs", c.w, len(c.b), got, digests, pairs)
		}
	}
}

// Of any proof, also one that nothing has made: empty and missing lists, bitmaps that say otherwise, digests of no width, long lists.
func TestP15_2_AnyProof(t *testing.T) {
	for _, c := range []struct {
		p              api.KeyProof
		digests, pairs int
	}{
		{api.KeyProof{}, 0, 0},
		{api.KeyProof{Steps: []api.Step{}, Pairs: []api.Pair{}}, 0, 0},
		{api.KeyProof{Steps: []api.Step{{}}}, 0, 0},
		{api.KeyProof{Steps: []api.Step{{Bitmap: 0xffff}}}, 0, 0},
		{api.KeyProof{Steps: []api.Step{{Bitmap: 1, Kids: make([]api.Digest, 17)}}}, 17, 0},
		{api.KeyProof{Steps: []api.Step{{Kids: []api.Digest{{}, {}}}, {Bitmap: 7}, {Kids: []api.Digest{{31: 1}}}}}, 3, 0},
		{api.KeyProof{Pairs: []api.Pair{{}}}, 0, 1},
		{api.KeyProof{Pairs: []api.Pair{{}, {}, {Key: make([]byte, 70), Value: make([]byte, 300)}}}, 0, 3},
		{api.KeyProof{Steps: make([]api.Step, 1000), Pairs: make([]api.Pair, 1000)}, 0, 1000},
		{api.KeyProof{Steps: []api.Step{{Kids: make([]api.Digest, 1<<16)}, {Kids: make([]api.Digest, 1<<15)}}, Pairs: make([]api.Pair, 1<<17)}, 1<<16 + 1<<15, 1 << 17},
		{api.KeyProof{Steps: []api.Step{{Kids: make([]api.Digest, 2, 9)}}, Pairs: make([]api.Pair, 3, 9)}, 2, 3},
	} {
		if a, b := hproof.Size(c.p); a != c.digests || b != c.pairs {
			t.Errorf("Size = %d, %d, want %d, %d", a, b, c.digests, c.pairs)
		}
	}
	r := rand.New(rand.NewSource(152))
	for range 2000 {
		p := api.KeyProof{Pairs: make([]api.Pair, r.Intn(20))}
		for range r.Intn(80) {
			p.Steps = append(p.Steps, api.Step{Bitmap: uint16(r.Intn(1 << 16)), Kids: make([]api.Digest, r.Intn(20))})
		}
		sizes(t, p)
	}
}

// Each order in which six keys may come.
func TestP15_3_EachOrder(t *testing.T) {
	keys := slices.Concat(keysWith(1, "3a", 2), keysWith(1, "3c", 2), keysWith(1, "81", 1), keysWith(1, "39", 1))
	asked := slices.Concat(keys, keysWith(1, "3", 9), keysWith(1, "8", 2), row("absent ", 4))
	b := book{}
	for i, key := range keys {
		b[key] = strconv.Itoa(i)
	}
	for _, w := range []int{1, 32} {
		want := proofsOf(t, mapOf(t, w, b), asked)
		orders := 0
		var each func(m *hamt.Map, left []string)
		each = func(m *hamt.Map, left []string) {
			if len(left) == 0 {
				orders++
				if !slices.EqualFunc(proofsOf(t, m, asked), want, sameProof) {
					t.Fatal("another order gives other proofs")
				}
			}
			for i, key := range left {
				each(put(t, m, key, b[key]), slices.Concat(left[:i], left[i+1:]))
			}
		}
		each(newMap(t, w), keys)
		if orders != 720 {
			t.Errorf("%d orders", orders)
		}
	}
}

func proofsOf(t *testing.T, m *hamt.Map, asked []string) []api.KeyProof {
	t.Helper()
	var list []api.KeyProof
	for _, key := range asked {
		p, e := hproof.Prove(m, []byte(key))
		if e != api.OK {
			t.Fatalf("Prove(%q): %d", key, e)
		}
		list = append(list, p)
	}
	return list
}

// Whatever was put and deleted on the way: many pasts, each held against the words of what is left.
func TestP15_3_ManyPasts(t *testing.T) {
	for seed := range 60 {
		r := rand.New(rand.NewSource(int64(1530 + seed)))
		w := []int{1, 1, 2, 3, 1 + r.Intn(32)}[r.Intn(5)]
		span := 1 + r.Intn(300)
		m, b := newMap(t, w), book{}
		for range 8 {
			for range r.Intn(80) {
				key := "k" + strconv.Itoa(r.Intn(span))
				if r.Intn(5) < 2 {
					m = del(t, m, key)
					delete(b, key)
					continue
				}
				b[key] = strconv.Itoa(r.Intn(10))
				m = put(t, m, key, b[key])
			}
			holds(t, m, w, b, "k0", "k1", "k2", "k299", "absent", "")
		}
	}
}

func TestP15_3_TheKeysValue(t *testing.T) {
	for _, w := range []int{1, 2, 32} {
		for _, n := range []int{0, 1, 2, 50, 900} {
			b := rowOf(n)
			m := mapOf(t, w, b)
			for _, key := range slices.Concat(row("k", n+100), row("absent ", 100)) {
				p, _ := hproof.Prove(m, []byte(key))
				want, has := b[key]
				at := slices.IndexFunc(p.Pairs, func(pair api.Pair) bool { return string(pair.Key) == key })
				if has != (at >= 0) || has && string(p.Pairs[at].Value) != want {
					t.Fatalf("width %d: the proof of %q has the pairs %q, want %q, %v", w, key, p.Pairs, want, has)
				}
			}
		}
	}
}

// A map that another comes out of keeps its proofs.
func TestP15_3_MapsStay(t *testing.T) {
	b := rowOf(60)
	m := mapOf(t, 1, b)
	asked := row("k", 80)
	before := proofsOf(t, m, asked)
	other := m
	for i := range 80 {
		other = put(t, other, "k"+strconv.Itoa(i*3%80), "other")
		other = del(t, other, "k"+strconv.Itoa(i))
		proofsOf(t, other, asked)
	}
	if !slices.EqualFunc(proofsOf(t, m, asked), before, sameProof) {
		t.Error("a map's proofs are others when another map has come out of it")
	}
}

func TestP15_Examples(t *testing.T) {
	empty := newMap(t, 1)
	key := func(sum string, i int) string { return keysWith(1, sum, i+1)[i] }
	a, b, c, d, e := key("37", 0), key("3c", 0), key("81", 0), key("81", 1), key("45", 0)
	alone := put(t, empty, a, "a")
	all := put(t, put(t, alone, b, "b"), c, "c")
	values := book{a: "a", b: "b", c: "c"}
	aSum, bSum, cSum := bucketSum(1, values, []string{a}), bucketSum(1, values, []string{b}), bucketSum(1, values, []string{c})
	low := branchSum(1, 0x1080, []api.Digest{aSum, bSum})
	pair := func(key string) []api.Pair { return []api.Pair{{Key: []byte(key), Value: []byte(values[key])}} }
	step := func(bitmap uint16, kids ...api.Digest) api.Step { return api.Step{Bitmap: bitmap, Kids: kids} }
	for _, x := range []struct {
		name           string
		m              *hamt.Map
		key            string
		want           api.KeyProof
		digests, pairs int
	}{
		{"1", empty, a, api.KeyProof{}, 0, 0},
		{"2", alone, a, api.KeyProof{Pairs: pair(a)}, 0, 1},
		{"2", alone, b, api.KeyProof{Pairs: pair(a)}, 0, 1},
		{"2", alone, e, api.KeyProof{Pairs: pair(a)}, 0, 1},
		{"3: a", all, a, api.KeyProof{Steps: []api.Step{step(0x0108, cSum), step(0x1080, bSum)}, Pairs: pair(a)}, 2, 1},
		{"3: b", all, b, api.KeyProof{Steps: []api.Step{step(0x0108, cSum), step(0x1080, aSum)}, Pairs: pair(b)}, 2, 1},
		{"3: c", all, c, api.KeyProof{Steps: []api.Step{step(0x0108, low)}, Pairs: pair(c)}, 1, 1},
		{"3: d", all, d, api.KeyProof{Steps: []api.Step{step(0x0108, low)}, Pairs: pair(c)}, 1, 1},
		{"3: e", all, e, api.KeyProof{Steps: []api.Step{step(0x0108, low, cSum)}}, 2, 0},
		{"3: 39", all, key("39", 0), api.KeyProof{Steps: []api.Step{step(0x0108, cSum), step(0x1080, aSum, bSum)}}, 3, 0},
	} {
		p, e := hproof.Prove(x.m, []byte(x.key))
		if e != api.OK || !sameProof(p, x.want) {
			t.Errorf("%s: %x, %d, want %x", x.name, p, e, x.want)
		}
		if i, j := hproof.Size(p); i != x.digests || j != x.pairs {
			t.Errorf("%s: Size %d, %d, want %d, %d", x.name, i, j, x.digests, x.pairs)
		}
	}
	refused(t, all, 65, api.ErrLong)
	refused(t, nil, 1, api.ErrNone)
}

// refused fails unless Prove of a key of so many bytes answers the error, and nothing beside it.
func refused(t *testing.T, m *hamt.Map, bytes int, want api.Errno) {
	t.Helper()
	p, e := hproof.Prove(m, make([]byte, bytes))
	if e != want || len(p.Steps) != 0 || len(p.Pairs) != 0 {
		t.Errorf("Prove of %d bytes = %x, %d, want %d", bytes, p, e, want)
	}
}

// A nil map goes by the order of errors: Prove is no method.
func TestErrors_TheLeastNumber(t *testing.T) {
	for _, w := range []int{1, 32} {
		for _, n := range []int{0, 1, 50} {
			m := mapOf(t, w, rowOf(n))
			for _, long := range []int{65, 66, 128, 256, 320, 1 << 16} {
				refused(t, m, long, api.ErrLong)
				refused(t, nil, long, api.ErrLong)
			}
			for _, fit := range []int{0, 1, 63, 64} {
				refused(t, nil, fit, api.ErrNone)
				if _, e := hproof.Prove(m, make([]byte, fit)); e != api.OK {
					t.Errorf("Prove of %d bytes: %d", fit, e)
				}
			}
			holds(t, m, w, rowOf(n))
		}
	}
	refused(t, new(hamt.Map), 65, api.ErrLong)
}

// Of a map that New has not made nothing is promised but that the call ends, and that beside an error there is nothing.
func TestP1_NotMadeByNew(t *testing.T) {
	copied := *mapOf(t, 1, rowOf(40))
	for _, m := range []*hamt.Map{{}, new(hamt.Map), &copied} {
		for n := range 67 {
			p, e := hproof.Prove(m, bytes.Repeat([]byte("k"), n))
			if e != api.OK && (len(p.Steps) != 0 || len(p.Pairs) != 0) || n > api.MaxKey && e == api.OK {
				t.Errorf("Prove of %d bytes = %x, %d", n, p, e)
			}
			hproof.Size(p)
		}
	}
}

func TestMemory_WhatIsHandedIn(t *testing.T) {
	b := rowOf(60)
	m := mapOf(t, 1, b)
	tree := wordsTree(1, b, keysOf(b), 0)
	for _, text := range []string{"", "k0", "k59", "absent", strings.Repeat("n", api.MaxKey)} {
		room := []byte(text + "spare room")
		p, e := hproof.Prove(m, room[:len(text)])
		if e != api.OK || string(room) != text+"spare room" {
			t.Fatalf("%d, %q is left of what was handed in", e, room)
		}
		for i := range room {
			room[i] = '!'
		}
		if !sameProof(p, wordsProof(1, b, tree, text)) {
			t.Errorf("the proof of %q hangs on the key that was handed in", text)
		}
	}
	kids, pairs := []api.Digest{{1}, {2}, {3}}, []api.Pair{{Key: []byte("a")}, {Key: []byte("b")}}
	steps := []api.Step{{Bitmap: 3, Kids: kids[:2]}, {Bitmap: 9}}
	hproof.Size(api.KeyProof{Steps: steps[:1], Pairs: pairs[:1]})
	if !slices.Equal(kids, []api.Digest{{1}, {2}, {3}}) || string(pairs[0].Key) != "a" || string(pairs[1].Key) != "b" || steps[0].Bitmap != 3 || len(steps[0].Kids) != 2 || steps[1].Bitmap != 9 {
		t.Error("Size has changed what was handed in")
	}
}

// scrawl writes over a proof and all that it leads to, and over all spare room.
func scrawl(p api.KeyProof) {
	for _, pair := range p.Pairs {
		for _, part := range [][]byte{pair.Key, pair.Value} {
			part = part[:cap(part)]
			for i := range part {
				part[i] ^= 0xa5
			}
		}
	}
	pairs := p.Pairs[:cap(p.Pairs)]
	for i := range pairs {
		pairs[i] = api.Pair{Key: []byte("scrawl")}
	}
	for _, step := range p.Steps {
		kids := step.Kids[:cap(step.Kids)]
		for i := range kids {
			kids[i] = api.Digest{0xa5}
		}
	}
	steps := p.Steps[:cap(p.Steps)]
	for i := range steps {
		steps[i] = api.Step{Bitmap: 0xa5}
	}
}

func TestMemory_WhatIsAnswered(t *testing.T) {
	for _, w := range []int{1, 2, 32} {
		for _, n := range []int{0, 1, 2, 3, 90} {
			b := rowOf(n)
			m := mapOf(t, w, b)
			root := m.Root()
			for _, key := range append(keysOf(b), "absent", "") {
				first, _ := hproof.Prove(m, []byte(key))
				second, _ := hproof.Prove(m, []byte(key))
				scrawl(first)
				if !sameProof(second, wordsProof(w, b, wordsTree(w, b, keysOf(b), 0), key)) {
					t.Fatalf("width %d: two proofs of %q share memory", w, key)
				}
			}
			holds(t, m, w, b, "absent", "")
			if m.Root() != root {
				t.Errorf("width %d: the map has changed", w)
			}
		}
	}
}

// No two lists of one proof share memory, their spare room neither, and no two proofs do.
func TestMemory_ListsOfAnAnswer(t *testing.T) {
	for _, w := range []int{1, 2, 32} {
		m := mapOf(t, w, rowOf(150))
		var texts [][]byte
		var kids [][]api.Digest
		var steps [][]api.Step
		var pairs [][]api.Pair
		for _, key := range []string{"k1", "k1", "k149", "k149", "absent", "absent"} {
			p, _ := hproof.Prove(m, []byte(key))
			steps, pairs = append(steps, p.Steps), append(pairs, p.Pairs)
			for _, pair := range p.Pairs {
				texts = append(texts, pair.Key, pair.Value)
			}
			for _, step := range p.Steps {
				kids = append(kids, step.Kids)
			}
		}
		mayNotMeet(t, texts)
		mayNotMeet(t, kids)
		mayNotMeet(t, steps)
		mayNotMeet(t, pairs)
	}
}

// mayNotMeet fails if one item stands in two of the lists or in their spare room.
func mayNotMeet[T any](t *testing.T, lists [][]T) {
	t.Helper()
	seen := map[*T]int{}
	for i, list := range lists {
		list = list[:cap(list)]
		for j := range list {
			if other, ok := seen[&list[j]]; ok && other != i {
				t.Fatalf("the lists %d and %d share memory", other, i)
			}
			seen[&list[j]] = i
		}
	}
}

// P2: many goroutines ask one map; what they write into the answers is seen by none of the others.
func TestP2_ManyAtATime(t *testing.T) {
	for _, w := range []int{1, 32} {
		b := rowOf(80)
		m := mapOf(t, w, b)
		tree := wordsTree(w, b, keysOf(b), 0)
		var group sync.WaitGroup
		for i := range 12 {
			group.Go(func() {
				for j := range 100 {
					key := "k" + strconv.Itoa((i+j*13)%120)
					p, e := hproof.Prove(m, []byte(key))
					if e != api.OK || !sameProof(p, wordsProof(w, b, tree, key)) {
						t.Errorf("goroutine %d: Prove(%q) = %x, %d", i, key, p, e)
					}
					scrawl(p)
				}
			})
		}
		group.Wait()
		holds(t, m, w, b)
	}
}

// Puts and Deletes by bytes, and the proofs of what is left: the first byte is the width, and then two bytes for each call.
func FuzzAsTheWordsSay(f *testing.F) {
	f.Add([]byte{1, 0, 1, 0, 2, 1, 1, 0, 3})
	f.Add([]byte("a history of puts and deletes"))
	f.Fuzz(func(t *testing.T, calls []byte) {
		if len(calls) == 0 || len(calls) > 200 {
			return
		}
		w := 1 + int(calls[0])%api.MaxWidth
		m, b := newMap(t, w), book{}
		for i := 1; i+1 < len(calls); i += 2 {
			key := strings.Repeat("k", int(calls[i]>>6)) + string([]byte{calls[i+1]})
			if calls[i]%3 == 0 {
				m = del(t, m, key)
				delete(b, key)
			} else {
				b[key] = strings.Repeat("v", int(calls[i]%64))
				m = put(t, m, key, b[key])
			}
		}
		holds(t, m, w, b, append(row("", 10), "", "k", "kkkk")...)
	})
}
