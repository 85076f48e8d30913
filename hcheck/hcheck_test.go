package hcheck_test

import (
	"bytes"
	"crypto/sha256"
	"encoding/binary"
	"encoding/hex"
	"math"
	"math/bits"
	"math/rand"
	"slices"
	"strconv"
	"strings"
	"sync"
	"testing"

	"notary/api"
	"notary/digest"
	"notary/hamt"
	"notary/hcheck"
	"notary/hproof"
)

// cutSum is the digest of a text, made by another SHA-256.
func cutSum(w int, p []byte) api.Digest {
	whole := sha256.Sum256(p)
	var d api.Digest
	copy(d[:w], whole[:])
	return d
}

// digits answers the digits of a key's digest, in base 16.
func digits(w int, key string) string {
	d := cutSum(w, []byte("\x02"+key))
	return hex.EncodeToString(d[:w])
}

// childOf answers the digit number i of a key's digest.
func childOf(w int, key string, i int) int {
	return strings.IndexByte("0123456789abcdef", digits(w, key)[i])
}

func has(bitmap uint16, digit int) bool { return bitmap>>digit&1 == 1 }

// wordsProves is the chapter's five conditions, one behind the other.
func wordsProves(w int, key string, p api.KeyProof) bool {
	s := len(p.Steps)
	one := s <= 2*w
	for _, step := range p.Steps {
		one = one && step.Bitmap != 0
	}
	if !one {
		return false
	}
	two, three, five := true, true, true
	for i, step := range p.Steps {
		child, count := childOf(w, key, i), bits.OnesCount16(step.Bitmap)
		goes := has(step.Bitmap, child) && len(step.Kids) == count-1
		ends := !has(step.Bitmap, child) && len(step.Kids) == count
		if i < s-1 {
			two = two && goes
			continue
		}
		three = goes && len(p.Pairs) > 0 || ends && len(p.Pairs) == 0
		five = len(p.Pairs) == 0 || count > 1
	}
	return two && three && five && wordsFour(w, key, s, p.Pairs)
}

// wordsFour is the fourth condition.
func wordsFour(w int, key string, s int, pairs []api.Pair) bool {
	for i, pair := range pairs {
		if len(pair.Key) > 64 || len(pair.Value) > 256 {
			return false
		}
		if i > 0 && string(pairs[i-1].Key) >= string(pair.Key) {
			return false
		}
		if digits(w, string(pair.Key)) != digits(w, string(pairs[0].Key)) || !strings.HasPrefix(digits(w, string(pair.Key)), digits(w, key)[:s]) {
			return false
		}
	}
	return true
}

// wordsInputs answers what is hashed for a proof, from its end up.
func wordsInputs(w int, key string, p api.KeyProof) [][]byte {
	var inputs [][]byte
	if len(p.Pairs) > 0 {
		input := binary.AppendUvarint([]byte{3}, uint64(len(p.Pairs)))
		for _, pair := range p.Pairs {
			for _, part := range [][]byte{pair.Key, pair.Value} {
				input = append(binary.AppendUvarint(input, uint64(len(part))), part...)
			}
		}
		inputs = append(inputs, input)
	}
	if len(p.Pairs) == 0 && len(p.Steps) == 0 {
		inputs = append(inputs, []byte{5})
	}
	for i := len(p.Steps) - 1; i >= 0; i-- {
		step, child := p.Steps[i], childOf(w, key, i)
		input := []byte{4, byte(step.Bitmap >> 8), byte(step.Bitmap)}
		at := 0
		for digit := range 16 {
			switch {
			case !has(step.Bitmap, digit):
			case digit == child:
				below := cutSum(w, inputs[len(inputs)-1])
				input = append(input, below[:w]...)
			default:
				input = append(input, step.Kids[at][:w]...)
				at++
			}
		}
		inputs = append(inputs, input)
	}
	return inputs
}

// wordsRoot is what a proof leads to, the key's value, and whether it has one.
func wordsRoot(w int, key string, p api.KeyProof) (api.Digest, string, bool) {
	inputs := wordsInputs(w, key, p)
	d := cutSum(w, inputs[len(inputs)-1])
	for _, pair := range p.Pairs {
		if string(pair.Key) == key {
			return d, string(pair.Value), true
		}
	}
	return d, "", false
}

// holds fails unless RootOf and Check answer what the words say of the proof, whose digests are of the width. It answers whether it is one.
func holds(t *testing.T, w int, key string, p api.KeyProof) bool {
	t.Helper()
	d, value, ok, e := hcheck.RootOf(w, []byte(key), p)
	if !wordsProves(w, key, p) {
		if d != (api.Digest{}) || len(value) != 0 || ok || e != api.ErrProof {
			t.Fatalf("width %d: RootOf(%q, %x) = %x, %q, %v, %d, but it is no proof", w, key, p, d, value, ok, e)
		}
		refused(t, w, d, key, p, api.ErrProof)
		return false
	}
	root, want, has := wordsRoot(w, key, p)
	if d != root || string(value) != want || ok != has || e != api.OK {
		t.Fatalf("width %d: RootOf(%q, %x) = %x, %q, %v, %d, want %x, %q, %v", w, key, p, d, value, ok, e, root, want, has)
	}
	if value, ok, e := hcheck.Check(w, root, []byte(key), p); string(value) != want || ok != has || e != api.OK {
		t.Fatalf("width %d: Check(%q, %x) = %q, %v, %d, want %q, %v", w, key, p, value, ok, e, want, has)
	}
	root[w-1] ^= 0x40
	refused(t, w, root, key, p, api.ErrProof)
	return true
}

// refused fails unless Check answers the error, and nothing beside it.
func refused(t *testing.T, w int, root api.Digest, key string, p api.KeyProof, want api.Errno) {
	t.Helper()
	if value, ok, e := hcheck.Check(w, root, []byte(key), p); len(value) != 0 || ok || e != want {
		t.Fatalf("width %d: Check(%x, %q, %x) = %q, %v, %d, want %d", w, root, key, p, value, ok, e, want)
	}
}

// row answers n keys that begin alike.
func row(begin string, n int) []string {
	var keys []string
	for i := range n {
		keys = append(keys, begin+strconv.Itoa(i))
	}
	return keys
}

// keysApart answers the first n keys, beside the key itself, whose digests have just so many first digits in common with the key's, in the order of their bytes.
func keysApart(w int, key string, common, n int) []string {
	want := digits(w, key)
	var keys []string
	for i := 0; len(keys) < n; i++ {
		other := "a" + strconv.Itoa(i)
		text := digits(w, other)
		if other != key && text[:common] == want[:common] && (common == 2*w || text[common] != want[common]) {
			keys = append(keys, other)
		}
	}
	slices.Sort(keys)
	return keys
}

func mapOf(t testing.TB, w int, keys ...string) *hamt.Map {
	t.Helper()
	m, e := hamt.New(w)
	for _, key := range keys {
		if e != api.OK {
			t.Fatalf("a map: %d", e)
		}
		m, e = m.Put([]byte(key), []byte("v"+key))
	}
	if e != api.OK || m == nil {
		t.Fatalf("a map: %d", e)
	}
	return m
}

func prove(t testing.TB, m *hamt.Map, key string) api.KeyProof {
	t.Helper()
	p, e := hproof.Prove(m, []byte(key))
	if e != api.OK {
		t.Fatalf("Prove(%q): %d", key, e)
	}
	return p
}

// some answers count digests of the width w, unlike ones for each seed.
func some(w int, seed string, count int) []api.Digest {
	list := make([]api.Digest, count)
	for i := range list {
		list[i] = cutSum(w, []byte(seed+" "+strconv.Itoa(i)))
	}
	return list
}

// pairsOf answers pairs of these keys, in this order.
func pairsOf(keys ...string) []api.Pair {
	var pairs []api.Pair
	for _, key := range keys {
		pairs = append(pairs, api.Pair{Key: []byte(key), Value: []byte("v" + key)})
	}
	return pairs
}

// Each bitmap that there is, at a single step, with one digest less than it has, as many, and one more, beside pairs and without them.
func TestP16_1_EachBitmap(t *testing.T) {
	const w, key = 1, "a"
	kids := some(w, "kid", 17)
	proofs := 0
	for bitmap := range 1 << 16 {
		count := bits.OnesCount16(uint16(bitmap))
		for kid := max(0, count-1); kid <= count+1; kid++ {
			for _, pairs := range [][]api.Pair{nil, pairsOf(key)} {
				if kid == count+1 && bitmap%8 != 0 {
					continue
				}
				p := api.KeyProof{Steps: []api.Step{{Bitmap: uint16(bitmap), Kids: kids[:kid]}}, Pairs: pairs}
				if holds(t, w, key, p) {
					proofs++
				}
			}
		}
	}
	if proofs != 1<<15-1+1<<15-1 { // with the child and another one; or without the child, and with another one
		t.Errorf("%d proofs", proofs)
	}
}

// shapes answers steps of many kinds at the place number i of a key's path: bitmaps about the child, and counts of digests about the right ones.
func shapes(w int, key string, i int) []api.Step {
	child := childOf(w, key, i)
	own, low, high := uint16(1)<<child, uint16(1)<<((child+9)%16), uint16(1)<<((child+2)%16)
	var steps []api.Step
	for at, bitmap := range []uint16{0, own, low, own | low, own | high, own | low | high, low | high, 0xffff, ^own} {
		count := bits.OnesCount16(bitmap)
		for kids := max(0, count-2); kids <= count+1; kids++ {
			steps = append(steps, api.Step{Bitmap: bitmap, Kids: some(w, strconv.Itoa(at+100*i), kids)})
		}
	}
	return steps
}

// ends answers lists of pairs of many kinds for a key's path.
func ends(w int, key string) [][]api.Pair {
	same := keysApart(w, key, 2*w, 3)
	long, longer := strings.Repeat("v", 256), strings.Repeat("v", 257)
	with := slices.Sorted(slices.Values(append(slices.Clone(same), key)))
	list := [][]api.Pair{
		nil, {}, pairsOf(key), pairsOf(same[0]), pairsOf(with...), pairsOf(same...),
		pairsOf(with[1], with[0]), pairsOf(with[0], with[2], with[1]), pairsOf(with[0], with[1], with[1]), pairsOf(key, key),
		pairsOf(strings.Repeat("z", 65)), pairsOf(key, strings.Repeat("z", 65)),
		{{Key: []byte(key), Value: []byte(long)}}, {{Key: []byte(key), Value: []byte(longer)}}, {{Key: []byte(key)}},
	}
	for common := range 2 * w {
		other := keysApart(w, key, common, 1)[0]
		list = append(list, pairsOf(other), pairsOf(slices.Sorted(slices.Values([]string{key, other}))...))
	}
	return list
}

// All paths of up to two steps that can be made of such steps and pairs, and many longer ones.
func TestP16_1_AsTheWordsSay(t *testing.T) {
	for _, w := range []int{1, 2} {
		for _, key := range []string{"", "a", "key"} {
			first, second, pairs := shapes(w, key, 0), shapes(w, key, 1), ends(w, key)
			proofs := 0
			for _, end := range pairs {
				holds(t, w, key, api.KeyProof{Pairs: end})
				for _, top := range first {
					holds(t, w, key, api.KeyProof{Steps: []api.Step{top}, Pairs: end})
					for _, low := range second {
						if holds(t, w, key, api.KeyProof{Steps: []api.Step{top, low}, Pairs: end}) {
							proofs++
						}
					}
				}
			}
			if proofs < 50 {
				t.Errorf("width %d, %q: %d proofs of two steps", w, key, proofs)
			}
		}
	}
}

func TestP16_1_LongerPaths(t *testing.T) {
	r := rand.New(rand.NewSource(161))
	for _, w := range []int{2, 3} {
		const key = "k"
		pairs := ends(2, key) // of the width 2 also at the width 3: keys with more digits in common take long to find
		var steps [][]api.Step
		for i := range 2 * w {
			steps = append(steps, shapes(w, key, i))
		}
		for s := 3; s <= 2*w; s++ {
			proofs := 0
			for range 6000 {
				p := api.KeyProof{Pairs: pairs[r.Intn(len(pairs))]}
				for i := range s {
					p.Steps = append(p.Steps, steps[i][r.Intn(len(steps[i]))])
				}
				mend(r, w, key, p)
				if holds(t, w, key, p) {
					proofs++
				}
			}
			if proofs < 100 || proofs > 5500 {
				t.Errorf("width %d: %d proofs of %d steps", w, proofs, s)
			}
		}
	}
}

// mend makes most steps such that a proof may have them, so that proofs and what is nearly one are met.
func mend(r *rand.Rand, w int, key string, p api.KeyProof) {
	for i, step := range p.Steps {
		if r.Intn(9) == 0 {
			continue
		}
		own := uint16(1) << childOf(w, key, i)
		if i < len(p.Steps)-1 || len(p.Pairs) > 0 {
			p.Steps[i].Bitmap |= own
			p.Steps[i].Kids = some(w, "mend", bits.OnesCount16(p.Steps[i].Bitmap)-1)
			continue
		}
		p.Steps[i].Bitmap = step.Bitmap&^own | own<<1 | own>>15
		p.Steps[i].Kids = some(w, "mend", bits.OnesCount16(p.Steps[i].Bitmap))
	}
}

// pathOf answers a path of s steps for the key, of branches with a single child but the last one; which ends at a bucket of the pairs, or without pairs for want of a child.
func pathOf(w int, key string, s int, pairs ...api.Pair) api.KeyProof {
	p := api.KeyProof{Pairs: pairs}
	for i := range s {
		own := uint16(1) << (childOf(w, key, i%(2*w)))
		step := api.Step{Bitmap: own}
		if i == s-1 {
			other := own<<5 | own>>11
			step = api.Step{Bitmap: other, Kids: some(w, "other", 1)}
			if len(pairs) > 0 {
				step.Bitmap |= own
			}
		}
		p.Steps = append(p.Steps, step)
	}
	return p
}

// A path has at most 2w steps, at each width.
func TestP16_1_HowManySteps(t *testing.T) {
	for w := 1; w <= api.MaxWidth; w++ {
		for _, key := range []string{"", "a", strings.Repeat("k", 64)} {
			for s := range 2*w + 1 {
				if !holds(t, w, key, pathOf(w, key, s)) || !holds(t, w, key, pathOf(w, key, s, pairsOf(key)...)) {
					t.Fatalf("width %d: no proof of %d steps", w, s)
				}
			}
			for _, s := range []int{2*w + 1, 2*w + 2, 4 * w, 200} {
				if holds(t, w, key, pathOf(w, key, s)) || holds(t, w, key, pathOf(w, key, s, pairsOf(key)...)) {
					t.Fatalf("width %d: a proof of %d steps", w, s)
				}
			}
		}
	}
}

// The bucket's digest has at least the digits of the steps in common with the key's, and may have no more.
func TestP16_1_DigitsInCommon(t *testing.T) {
	for _, w := range []int{1, 2, 3} {
		for _, key := range []string{"a", "other"} {
			for common := range min(2*w, 4) + 1 {
				for _, other := range keysApart(w, key, common, 2) {
					for s := range 2*w + 1 {
						p := pathOf(w, key, s, pairsOf(other)...)
						if holds(t, w, key, p) != (common >= s) {
							t.Errorf("width %d: %d steps, %d digits in common", w, s, common)
						}
					}
				}
			}
		}
	}
}

// Buckets of several pairs: of one digest, in the order of their keys, none twice; wherever the key stands among them, or does not.
func TestP16_1_Buckets(t *testing.T) {
	for _, w := range []int{1, 2} {
		key := "a7"
		keys := slices.Sorted(slices.Values(append(keysApart(w, key, 2*w, 5), key)))
		other := keysApart(w, key, 2*w-1, 1)[0]
		for s := range 2*w + 1 {
			for set := 1; set < 1<<len(keys); set++ {
				var chosen []string
				for i, own := range keys {
					if set>>i&1 == 1 {
						chosen = append(chosen, own)
					}
				}
				p := pathOf(w, key, s, pairsOf(chosen...)...)
				value, ok, e := check(w, key, p)
				want := slices.Contains(chosen, key)
				if !holds(t, w, key, p) || e != api.OK || ok != want || want != (value == "v"+key) {
					t.Fatalf("width %d: %q: %q, %v, %d", w, chosen, value, ok, e)
				}
				for i := range chosen {
					twice := slices.Insert(slices.Clone(chosen), i, chosen[i])
					strange := slices.Sorted(slices.Values(append(slices.Clone(chosen), other)))
					turned := slices.Clone(chosen)
					turned[i], turned[len(turned)-1] = turned[len(turned)-1], turned[i]
					for _, bad := range [][]string{twice, strange, turned} {
						if got := holds(t, w, key, pathOf(w, key, s, pairsOf(bad...)...)); got != slices.Equal(bad, chosen) {
							t.Fatalf("width %d: %q is a bucket: %v", w, bad, got)
						}
					}
				}
			}
		}
	}
}

// check is Check with the root that the proof leads to.
func check(w int, key string, p api.KeyProof) (string, bool, api.Errno) {
	d, _, _, e := hcheck.RootOf(w, []byte(key), p)
	if e != api.OK {
		return "", false, e
	}
	value, ok, e := hcheck.Check(w, d, []byte(key), p)
	return string(value), ok, e
}

// Keys rise byte by byte, from 0 to 255; the beginning of another one stands ahead of it.
func TestP16_1_KeysRise(t *testing.T) {
	want := digits(1, "")
	keys := []string{""}
	for _, begin := range []string{"\x00", "\x7f", "\x80", "\xff", "a", "ab"} {
		for i := range 3000 {
			if key := begin + string(binary.BigEndian.AppendUint16(nil, uint16(i*21))); digits(1, key) == want {
				keys = append(keys, key)
			}
			if key := begin + strings.Repeat("\x00", i%60); digits(1, key) == want {
				keys = append(keys, key)
			}
		}
	}
	slices.Sort(keys)
	keys = slices.Compact(keys)
	if len(keys) < 40 || !holds(t, 1, "", api.KeyProof{Pairs: pairsOf(keys...)}) {
		t.Fatalf("%d keys of one digest are no bucket", len(keys))
	}
	for i := range keys[1:] {
		turned := slices.Clone(keys)
		turned[i], turned[i+1] = turned[i+1], turned[i]
		if holds(t, 1, "", api.KeyProof{Pairs: pairsOf(turned...)}) {
			t.Errorf("%q behind %q is a bucket", turned[i+1], turned[i])
		}
	}
}

// A bucket of more than 127 pairs, whose count has two bytes.
func TestP16_1_AGreatBucket(t *testing.T) {
	key := "k"
	keys := slices.Sorted(slices.Values(append(keysApart(1, key, 2, 299), key)))
	for s := range 3 {
		p := pathOf(1, key, s, pairsOf(keys...)...)
		if value, ok, e := check(1, key, p); !holds(t, 1, key, p) || value != "vk" || !ok || e != api.OK {
			t.Errorf("%d steps: %q, %v, %d", s, value, ok, e)
		}
	}
}

func TestP16_1_Lengths(t *testing.T) {
	for _, w := range []int{1, 32} {
		for _, n := range []int{0, 1, 63, 64} {
			key := strings.Repeat("k", n)
			for _, v := range []int{0, 1, 127, 128, 255, 256} {
				pair := api.Pair{Key: []byte(key), Value: bytes.Repeat([]byte("v"), v)}
				value, ok, e := check(w, key, api.KeyProof{Pairs: []api.Pair{pair}})
				if len(value) != v || !ok || e != api.OK || !holds(t, w, key, pathOf(w, key, 2, pair)) {
					t.Errorf("a key of %d and a value of %d bytes: %d bytes, %v, %d", n, v, len(value), ok, e)
				}
			}
			for _, pair := range []api.Pair{
				{Key: make([]byte, 65)}, {Key: make([]byte, 66)}, {Key: make([]byte, 320)}, {Key: make([]byte, 1<<16)},
				{Key: []byte(key), Value: make([]byte, 257)}, {Key: []byte(key), Value: make([]byte, 258)}, {Key: []byte(key), Value: make([]byte, 1<<16+1)},
			} {
				if holds(t, w, key, api.KeyProof{Pairs: []api.Pair{pair}}) {
					t.Errorf("a pair of %d and %d bytes is taken", len(pair.Key), len(pair.Value))
				}
			}
		}
		for _, n := range []int{65, 66, 128, 320, 1 << 16} {
			key := strings.Repeat("k", n)
			d, value, ok, e := hcheck.RootOf(w, []byte(key), api.KeyProof{})
			if d != (api.Digest{}) || len(value) != 0 || ok || e != api.ErrLong {
				t.Errorf("RootOf of %d bytes: %x, %q, %v, %d", n, d, value, ok, e)
			}
			refused(t, w, cutSum(w, []byte{5}), key, api.KeyProof{}, api.ErrLong)
		}
	}
}

// In the last of several pairs lengths count too.
func TestP16_1_LengthsInTheMiddle(t *testing.T) {
	key := "a1"
	keys := slices.Sorted(slices.Values(append(keysApart(1, key, 2, 3), key)))
	for i := range keys {
		pairs := pairsOf(keys...)
		pairs[i].Value = make([]byte, 256)
		if !holds(t, 1, key, api.KeyProof{Pairs: pairs}) {
			t.Errorf("a value of 256 bytes in the pair %d is refused", i)
		}
		pairs[i].Value = make([]byte, 257)
		if holds(t, 1, key, api.KeyProof{Pairs: pairs}) {
			t.Errorf("a value of 257 bytes in the pair %d is taken", i)
		}
	}
	var long string // of one digest with the others, so that its length alone is wrong
	for i := 0; long == ""; i++ {
		if text := "z" + strings.Repeat("z", 60) + strconv.Itoa(1000+i); digits(1, text) == digits(1, key) {
			long = text
		}
	}
	if len(long) != 65 || holds(t, 1, key, api.KeyProof{Pairs: pairsOf(append(keys, long)...)}) {
		t.Errorf("a key of %d bytes in the last pair is taken", len(long))
	}
}

func TestP16_1_NilAndEmptyAreTheSame(t *testing.T) {
	for _, p := range []api.KeyProof{{}, {Steps: []api.Step{}, Pairs: []api.Pair{}}} {
		for _, key := range [][]byte{nil, {}} {
			if d, value, ok, e := hcheck.RootOf(2, key, p); d != cutSum(2, []byte{5}) || len(value) != 0 || ok || e != api.OK {
				t.Errorf("%x, %q, %v, %d", d, value, ok, e)
			}
		}
	}
	want, _, _, _ := hcheck.RootOf(2, nil, api.KeyProof{Pairs: []api.Pair{{}}})
	for _, key := range [][]byte{nil, {}} {
		for _, pair := range []api.Pair{{}, {Key: []byte{}}, {Value: []byte{}}, {Key: []byte{}, Value: []byte{}}} {
			if value, ok, e := hcheck.Check(2, want, key, api.KeyProof{Pairs: []api.Pair{pair}}); len(value) != 0 || !ok || e != api.OK {
				t.Errorf("%q, %v, %d", value, ok, e)
			}
		}
	}
	holds(t, 2, "", api.KeyProof{Pairs: []api.Pair{{}}})
	last := uint16(1) << ((childOf(2, "", 0) + 1) % 16)
	holds(t, 2, "", api.KeyProof{Steps: []api.Step{{Bitmap: last, Kids: make([]api.Digest, 1)}}, Pairs: []api.Pair{}})
}

func unhex(t *testing.T, w int, texts ...string) []api.Digest {
	t.Helper()
	var list []api.Digest
	for _, text := range texts {
		p, err := hex.DecodeString(text)
		if err != nil || len(p) != w {
			t.Fatalf("%q is no digest", text)
		}
		var d api.Digest
		copy(d[:], p)
		list = append(list, d)
	}
	return list
}

// Proofs over the keys k0 to k7 with the values v0 to v7, made by a program in another language.
func TestP16_1_KnownProofs(t *testing.T) {
	const w = 4
	root := unhex(t, w, "d2caa404")[0]
	pair := func(key, value string) []api.Pair { return []api.Pair{{Key: []byte(key), Value: []byte(value)}} }
	step := func(bitmap uint16, kids ...string) api.Step {
		return api.Step{Bitmap: bitmap, Kids: unhex(t, w, kids...)}
	}
	for _, c := range []struct {
		key, value string
		p          api.KeyProof
	}{
		{"k0", "v0", api.KeyProof{Steps: []api.Step{step(0x8b51, "7e8b1c3b", "32644b2a", "c0ad70cb", "72a9c888", "adfd73fa", "28788338")}, Pairs: pair("k0", "v0")}},
		{"k3", "v3", api.KeyProof{Steps: []api.Step{step(0x8b51, "32644b2a", "c0ad70cb", "74b58510", "72a9c888", "adfd73fa", "28788338")}, Pairs: pair("k3", "v3")}},
		{"k5", "v5", api.KeyProof{Steps: []api.Step{step(0x8b51, "7e8b1c3b", "c0ad70cb", "74b58510", "72a9c888", "adfd73fa", "28788338")}, Pairs: pair("k5", "v5")}},
		{"absent", "", api.KeyProof{Steps: []api.Step{step(0x8b51, "7e8b1c3b", "32644b2a", "c0ad70cb", "74b58510", "72a9c888", "28788338"), step(0x0802, "a7765a17", "cf29d2f7")}}},
		{"a", "", api.KeyProof{Steps: []api.Step{step(0x8b51, "7e8b1c3b", "32644b2a", "c0ad70cb", "74b58510", "72a9c888", "adfd73fa")}, Pairs: pair("k1", "v1")}},
		{"no", "", api.KeyProof{Steps: []api.Step{step(0x8b51, "7e8b1c3b", "32644b2a", "74b58510", "72a9c888", "adfd73fa", "28788338")}, Pairs: pair("k7", "v7")}},
		{"x1", "", api.KeyProof{Steps: []api.Step{step(0x8b51, "7e8b1c3b", "32644b2a", "c0ad70cb", "74b58510", "72a9c888", "adfd73fa", "28788338")}}},
	} {
		if d, value, ok, e := hcheck.RootOf(w, []byte(c.key), c.p); d != root || string(value) != c.value || ok != (c.value != "") || e != api.OK {
			t.Errorf("RootOf of %q: %x, %q, %v, %d", c.key, d, value, ok, e)
		}
		if value, ok, e := hcheck.Check(w, root, []byte(c.key), c.p); string(value) != c.value || ok != (c.value != "") || e != api.OK {
			t.Errorf("Check of %q: %q, %v, %d", c.key, value, ok, e)
		}
	}
}

func TestP16_1_MapsAndTheirProofs(t *testing.T) {
	for _, w := range []int{1, 2, 3, 32} {
		for _, n := range []int{0, 1, 2, 3, 30, 600} {
			keys := row("k", n)
			m := mapOf(t, w, keys...)
			for _, key := range slices.Concat(keys, row("absent ", 100), []string{""}) {
				p := prove(t, m, key)
				want, has, _ := m.Get([]byte(key))
				value, ok, e := hcheck.Check(w, m.Root(), []byte(key), p)
				if !bytes.Equal(value, want) || ok != has || e != api.OK || !holds(t, w, key, p) {
					t.Fatalf("width %d, %d pairs: Check(%q) = %q, %v, %d, want %q, %v", w, n, key, value, ok, e, want, has)
				}
			}
		}
	}
}

func TestP16_1_EachWidth(t *testing.T) {
	for w := 1; w <= api.MaxWidth; w++ {
		m := mapOf(t, w, row("k", 60)...)
		for _, key := range slices.Concat(row("k", 60), row("absent ", 60)) {
			p := prove(t, m, key)
			if d, _, ok, e := hcheck.RootOf(w, []byte(key), p); d != m.Root() || ok != (key[0] == 'k') || e != api.OK || !holds(t, w, key, p) {
				t.Fatalf("width %d: RootOf(%q) = %x, %v, %d", w, key, d, ok, e)
			}
		}
	}
}

// copyOf answers a proof with lists of its own.
func copyOf(p api.KeyProof) api.KeyProof {
	var q api.KeyProof
	for _, step := range p.Steps {
		q.Steps = append(q.Steps, api.Step{Bitmap: step.Bitmap, Kids: slices.Clone(step.Kids)})
	}
	for _, pair := range p.Pairs {
		q.Pairs = append(q.Pairs, api.Pair{Key: bytes.Clone(pair.Key), Value: bytes.Clone(pair.Value)})
	}
	return q
}

// spoilt answers what is nearly the proof, each of it another one.
func spoilt(w int, p api.KeyProof) []api.KeyProof {
	var list []api.KeyProof
	add := func(change func(q *api.KeyProof)) {
		q := copyOf(p)
		change(&q)
		list = append(list, q)
	}
	for i := range p.Steps {
		add(func(q *api.KeyProof) { q.Steps = slices.Delete(q.Steps, i, i+1) })
		add(func(q *api.KeyProof) { q.Steps = slices.Insert(q.Steps, i, q.Steps[i]) })
		for bit := range 16 {
			add(func(q *api.KeyProof) { q.Steps[i].Bitmap ^= 1 << bit })
		}
		for j := range p.Steps[i].Kids {
			add(func(q *api.KeyProof) { q.Steps[i].Kids[j][j%w] ^= 4 })
			add(func(q *api.KeyProof) { q.Steps[i].Kids = slices.Delete(q.Steps[i].Kids, j, j+1) })
			add(func(q *api.KeyProof) { q.Steps[i].Kids = slices.Insert(q.Steps[i].Kids, j, api.Digest{9}) })
			if j > 0 && p.Steps[i].Kids[j] != p.Steps[i].Kids[j-1] {
				add(func(q *api.KeyProof) {
					q.Steps[i].Kids[j-1], q.Steps[i].Kids[j] = q.Steps[i].Kids[j], q.Steps[i].Kids[j-1]
				})
			}
		}
	}
	for i := range p.Pairs {
		add(func(q *api.KeyProof) { q.Pairs = slices.Delete(q.Pairs, i, i+1) })
		add(func(q *api.KeyProof) { q.Pairs = slices.Insert(q.Pairs, i, q.Pairs[i]) })
		add(func(q *api.KeyProof) { q.Pairs[i].Value = append(q.Pairs[i].Value, 'x') })
		add(func(q *api.KeyProof) { q.Pairs[i].Key = append(q.Pairs[i].Key, 'x') })
		add(func(q *api.KeyProof) { q.Pairs[i].Value = nil })
	}
	add(func(q *api.KeyProof) { q.Steps = append(q.Steps, api.Step{Bitmap: 1}) })
	add(func(q *api.KeyProof) { q.Steps = append(q.Steps, api.Step{Bitmap: 3, Kids: some(w, "more", 1)}) })
	add(func(q *api.KeyProof) { q.Pairs = append(q.Pairs, pairsOf("zz")...) })
	return list
}

// At the full width nothing is accepted but the map's own proofs; at each width what is nearly a proof is as the words say.
func TestP16_2_NothingElse(t *testing.T) {
	for _, w := range []int{1, 2, 32} {
		for _, n := range []int{0, 1, 2, 40, 300} {
			m := mapOf(t, w, row("k", n)...)
			for _, key := range slices.Concat(row("k", min(n, 15)), row("absent ", 15)) {
				for _, q := range spoilt(w, prove(t, m, key)) {
					holds(t, w, key, q)
					if w == 32 {
						refused(t, w, m.Root(), key, q, api.ErrProof)
					}
				}
			}
		}
	}
}

// A proof for one key is accepted for another one where that has the same path, and then tells what is so of it.
func TestP16_2_AnotherKey(t *testing.T) {
	const w = 32
	m := mapOf(t, w, row("k", 50)...)
	keys := slices.Concat(row("k", 50), row("absent ", 50))
	accepted := 0
	for _, key := range keys {
		p := prove(t, m, key)
		for _, other := range keys {
			value, ok, e := hcheck.Check(w, m.Root(), []byte(other), p)
			if same := sameProof(p, prove(t, m, other)); (e == api.OK) != same || !same && e != api.ErrProof {
				t.Fatalf("the proof of %q for %q: %q, %v, %d", key, other, value, ok, e)
			}
			want, has, _ := m.Get([]byte(other))
			if e == api.OK && (ok != has || !bytes.Equal(value, want)) {
				t.Fatalf("the proof of %q for %q: %q, %v", key, other, value, ok)
			}
			if e == api.OK && key != other {
				accepted++
			}
		}
	}
	if accepted < 20 {
		t.Errorf("%d proofs were accepted for another key", accepted)
	}
}

func TestP16_2_NoOtherRoot(t *testing.T) {
	for _, w := range []int{1, 7, 32} {
		m := mapOf(t, w, row("k", 20)...)
		for _, key := range []string{"k0", "k1", "k2", "absent", "nothing"} {
			p := prove(t, m, key)
			for bit := range 8 * w {
				root := m.Root()
				root[bit/8] ^= 1 << (bit % 8)
				refused(t, w, root, key, p, api.ErrProof)
			}
			for at := w; at < 32; at++ {
				root := m.Root()
				root[at] = 1
				refused(t, w, root, key, p, api.ErrForm)
			}
		}
	}
}

// What stands beside RootOf's error is no root.
func TestP16_2_TheDigestOfNoughts(t *testing.T) {
	for _, p := range []api.KeyProof{{Steps: make([]api.Step, 1)}, {Pairs: pairsOf("b", "a")}, pathOf(3, "a", 7)} {
		refused(t, 3, api.Digest{}, "a", p, api.ErrProof)
	}
}

// fault answers whether the first unlike inputs of two proofs, from the root down, have one digest; and whether there are any.
func fault(w int, key string, p, q api.KeyProof) (bool, bool) {
	a, b := wordsInputs(w, key, p), wordsInputs(w, key, q)
	slices.Reverse(a)
	slices.Reverse(b)
	for i := range min(len(a), len(b)) {
		if !bytes.Equal(a[i], b[i]) {
			return cutSum(w, a[i]) == cutSum(w, b[i]), true
		}
	}
	return false, false
}

// Many made-up proofs of one key at a small width: those that are accepted under one root and answer unlike things have two unlike inputs of one digest.
func TestP16_3_NoTwoTruths(t *testing.T) {
	const w = 1
	for _, key := range []string{"a", "key"} {
		r := rand.New(rand.NewSource(163))
		byRoot := map[api.Digest][]api.KeyProof{}
		accepted, clashes := 0, 0
		pairs, steps := ends(w, key), [][]api.Step{shapes(w, key, 0), shapes(w, key, 1)}
		for range 20000 {
			p := api.KeyProof{Pairs: pairs[r.Intn(len(pairs))]}
			for i := range r.Intn(3) {
				p.Steps = append(p.Steps, steps[i][r.Intn(len(steps[i]))])
			}
			mend(r, w, key, p)
			for i, step := range p.Steps {
				p.Steps[i].Kids = make([]api.Digest, len(step.Kids))
				for j := range step.Kids {
					p.Steps[i].Kids[j] = api.Digest{byte(r.Intn(256))}
				}
			}
			d, value, ok, e := hcheck.RootOf(w, []byte(key), p)
			if e != api.OK {
				continue
			}
			accepted++
			for _, q := range byRoot[d] {
				other, has, _ := hcheck.Check(w, d, []byte(key), q)
				if has == ok && bytes.Equal(other, value) {
					continue
				}
				clashes++
				if one, there := fault(w, key, p, q); !one || !there {
					t.Fatalf("%x and %x lead to %x, but no two unlike inputs have one digest", p, q, d)
				}
			}
			if len(byRoot[d]) < 8 {
				byRoot[d] = append(byRoot[d], p)
			}
		}
		if accepted < 5000 || clashes < 5000 {
			t.Errorf("%d accepted, %d clashes", accepted, clashes)
		}
	}
}

func TestP16_Examples(t *testing.T) {
	const w = 32
	none, _ := digest.NoMap(w)
	for _, key := range []string{"", "a", "b", strings.Repeat("k", 64)} {
		if d, value, ok, e := hcheck.RootOf(w, []byte(key), api.KeyProof{}); d != none || len(value) != 0 || ok || e != api.OK {
			t.Errorf("1: %x, %q, %v, %d", d, value, ok, e)
		}
	}
	pairs := []api.Pair{{Key: []byte("a"), Value: []byte("1")}}
	bucket, _ := digest.Bucket(w, pairs)
	if d, value, ok, e := hcheck.RootOf(w, []byte("a"), api.KeyProof{Pairs: pairs}); d != bucket || string(value) != "1" || !ok || e != api.OK {
		t.Errorf("2: %x, %q, %v, %d", d, value, ok, e)
	}
	if d, value, ok, e := hcheck.RootOf(w, []byte("b"), api.KeyProof{Pairs: pairs}); d != bucket || len(value) != 0 || ok || e != api.OK {
		t.Errorf("2: %x, %q, %v, %d", d, value, ok, e)
	}
	long := []api.Step{{Bitmap: 1, Kids: []api.Digest{{1: 1}}}}
	for _, c := range []struct {
		name string
		w    int
		key  string
		p    api.KeyProof
		want api.Errno
	}{
		{"3: they don't rise", w, "a", api.KeyProof{Pairs: []api.Pair{{Key: []byte("b")}, {Key: []byte("a")}}}, api.ErrProof},
		{"3: they don't rise", 1, "a", api.KeyProof{Pairs: []api.Pair{{Key: []byte("b")}, {Key: []byte("a")}}}, api.ErrProof},
		{"3: a bitmap 0", w, "a", api.KeyProof{Steps: []api.Step{{}}}, api.ErrProof},
		{"3: 65 bytes", w, strings.Repeat("k", 65), api.KeyProof{}, api.ErrLong},
		{"3: a kid", 1, "a", api.KeyProof{Steps: long}, api.ErrForm},
		{"3: a kid, and too many steps", 1, "a", api.KeyProof{Steps: append(make([]api.Step, 9), long...)}, api.ErrForm},
		{"4", w, "a", api.KeyProof{Steps: []api.Step{{Bitmap: 1 << childOf(w, "a", 0)}}, Pairs: pairs}, api.ErrProof},
	} {
		d, value, ok, e := hcheck.RootOf(c.w, []byte(c.key), c.p)
		if d != (api.Digest{}) || len(value) != 0 || ok || e != c.want {
			t.Errorf("%s: %x, %q, %v, %d, want %d", c.name, d, value, ok, e, c.want)
		}
		refused(t, c.w, d, c.key, c.p, c.want)
	}
}

// Each mask of faults: the error with the least number is answered, and nothing beside it.
func TestErrors_TheLeastNumber(t *testing.T) {
	const w = 4
	m := mapOf(t, w, row("k", 40)...)
	bad := api.Digest{4: 1}
	for mask := range 1 << 7 {
		on := func(bit int) bool { return mask>>bit&1 == 1 }
		width, key, p, root, want := w, "k3", copyOf(prove(t, m, "k3")), m.Root(), api.OK
		if on(0) {
			p.Pairs, want = pairsOf("k3", "k3"), api.ErrProof
		}
		if on(1) {
			p.Steps, want = append(p.Steps, make([]api.Step, 2*w)...), api.ErrProof
		}
		other := want // of the call that is handed no root
		if on(2) {
			root, want = api.Digest{1}, api.ErrProof
		}
		if on(3) {
			root, want = bad, api.ErrForm
		}
		if on(4) {
			last := len(p.Steps) - 1
			p.Steps[last].Kids, want, other = append(p.Steps[last].Kids, bad), api.ErrForm, api.ErrForm
		}
		if on(5) {
			key, want, other = strings.Repeat("k", 65), api.ErrLong, api.ErrLong
		}
		if on(6) {
			width, want, other = []int{0, 33, -4}[mask%3], api.ErrArg, api.ErrArg
		}
		d, value, ok, e := hcheck.RootOf(width, []byte(key), p)
		if e != other || e != api.OK && (d != (api.Digest{}) || len(value) != 0 || ok) {
			t.Errorf("mask %07b: RootOf: %x, %q, %v, %d, want %d", mask, d, value, ok, e, other)
		}
		if value, ok, e := hcheck.Check(width, root, []byte(key), p); e != want || e != api.OK && (len(value) != 0 || ok) {
			t.Errorf("mask %07b: Check: %q, %v, %d, want %d", mask, value, ok, e, want)
		}
	}
}

func TestErrors_Widths(t *testing.T) {
	for _, w := range []int{0, -1, 33, 34, 64, 256 + 4, 1<<32 + 4, math.MaxInt, math.MinInt} {
		for _, p := range []api.KeyProof{{}, {Pairs: pairsOf("a")}, {Steps: make([]api.Step, 3)}, pathOf(32, "a", 3, pairsOf("a")...)} {
			d, value, ok, e := hcheck.RootOf(w, []byte("a"), p)
			if d != (api.Digest{}) || len(value) != 0 || ok || e != api.ErrArg {
				t.Errorf("RootOf(%d) = %x, %q, %v, %d", w, d, value, ok, e)
			}
			refused(t, w, api.Digest{}, "a", p, api.ErrArg)
			refused(t, w, api.Digest{31: 1}, strings.Repeat("a", 65), p, api.ErrArg)
		}
	}
}

// Each digest of each step is looked at, and each byte of it from the width on.
func TestErrors_EachDigest(t *testing.T) {
	const key = "k1"
	for _, w := range []int{1, 2, 30, 31} {
		p := prove(t, mapOf(t, w, row("k", 200)...), key)
		root, _, _, _ := hcheck.RootOf(w, []byte(key), p)
		for i := range p.Steps {
			for j := range p.Steps[i].Kids {
				for at := w; at < 32; at++ {
					q := copyOf(p)
					q.Steps[i].Kids[j][at] = 0x80
					if d, value, ok, e := hcheck.RootOf(w, []byte(key), q); d != (api.Digest{}) || len(value) != 0 || ok || e != api.ErrForm {
						t.Fatalf("width %d: %x, %q, %v, %d", w, d, value, ok, e)
					}
					refused(t, w, root, key, q, api.ErrForm)
				}
			}
		}
	}
}

// Lists of any length are looked at, and nothing is hashed for more steps than there may be.
func TestP1_LongLists(t *testing.T) {
	many := make([]api.Step, 1<<18)
	for i := range many {
		many[i].Bitmap = 0xffff
	}
	for _, p := range []api.KeyProof{
		{Steps: many}, {Steps: many, Pairs: pairsOf("a")}, {Steps: []api.Step{{Bitmap: 1, Kids: make([]api.Digest, 1<<18)}}}, {Pairs: make([]api.Pair, 1<<18)}, {Steps: many[:64]},
	} {
		for _, w := range []int{1, 32} {
			holds(t, w, "a", p)
		}
	}
	many[len(many)-1].Kids = []api.Digest{{}, {31: 1}}
	if _, _, _, e := hcheck.RootOf(31, []byte("a"), api.KeyProof{Steps: many}); e != api.ErrForm {
		t.Errorf("a last digest that is not of the width: %d", e)
	}
}

// What is handed in stays as it is, its spare room too: a digest that is put in between others is put into new memory.
func TestMemory_WhatIsHandedIn(t *testing.T) {
	for _, w := range []int{1, 32} {
		m := mapOf(t, w, row("k", 120)...)
		for _, key := range []string{"k0", "k1", "k2", "k119", "absent", "nothing", "x"} {
			p := prove(t, m, key)
			var kids [][]api.Digest
			for i := range p.Steps {
				room := append(slices.Clone(p.Steps[i].Kids), some(w, "spare", 3)...)
				p.Steps[i].Kids = room[:len(room)-3]
				kids = append(kids, room)
			}
			steps := append(slices.Clone(p.Steps), api.Step{Bitmap: 0x1234})
			pairs := append(slices.Clone(p.Pairs), pairsOf("spare")...)
			p.Steps, p.Pairs = steps[:len(steps)-1], pairs[:len(pairs)-1]
			text := []byte(key + "spare room")
			before, room := copyOf(api.KeyProof{Steps: steps, Pairs: pairs}), cloned(kids)
			hcheck.RootOf(w, text[:len(key)], p)
			hcheck.Check(w, m.Root(), text[:len(key)], p)
			hcheck.Check(w, api.Digest{}, text[:len(key)], p)
			if string(text) != key+"spare room" || !sameProof(before, api.KeyProof{Steps: steps, Pairs: pairs}) || !slices.EqualFunc(room, kids, slices.Equal) {
				t.Fatalf("width %d: what was handed in for %q has changed", w, key)
			}
		}
	}
}

func cloned(lists [][]api.Digest) [][]api.Digest {
	var copies [][]api.Digest
	for _, list := range lists {
		copies = append(copies, slices.Clone(list))
	}
	return copies
}

func sameProof(p, q api.KeyProof) bool {
	return slices.EqualFunc(p.Steps, q.Steps, func(x, y api.Step) bool {
		return x.Bitmap == y.Bitmap && slices.Equal(x.Kids, y.Kids)
	}) && slices.EqualFunc(p.Pairs, q.Pairs, func(x, y api.Pair) bool {
		return bytes.Equal(x.Key, y.Key) && bytes.Equal(x.Value, y.Value)
	})
}

// A value is the caller's, its spare room too, and hangs on nothing that was handed in.
func TestMemory_WhatIsAnswered(t *testing.T) {
	room := []byte("value and spare room")
	p := api.KeyProof{Pairs: []api.Pair{{Key: []byte("a"), Value: room[:5]}}}
	d, first, _, _ := hcheck.RootOf(9, []byte("a"), p)
	second, _, _ := hcheck.Check(9, d, []byte("a"), p)
	third, _, _ := hcheck.Check(9, d, []byte("a"), p)
	for i := range room {
		room[i] = '!'
	}
	for _, value := range [][]byte{first, second, third} {
		if string(value) != "value" {
			t.Errorf("the value %q hangs on what was handed in, or on another one", value)
		}
		value = value[:cap(value)]
		for i := range value {
			value[i] = '?'
		}
	}
	if string(room) != strings.Repeat("!", len(room)) {
		t.Errorf("%q is left of what was handed in", room)
	}
}

// P2: the calls hang on their arguments alone, however goroutines run.
func TestP2_ManyAtATime(t *testing.T) {
	for _, w := range []int{1, 32} {
		m := mapOf(t, w, row("k", 80)...)
		root := m.Root()
		var proofs []api.KeyProof
		for i := range 120 {
			proofs = append(proofs, prove(t, m, "k"+strconv.Itoa(i)))
		}
		var group sync.WaitGroup
		for at := range 12 {
			group.Go(func() {
				for j := range 120 {
					i := (at + j*13) % 120
					key := "k" + strconv.Itoa(i)
					value, ok, e := hcheck.Check(w, root, []byte(key), proofs[i])
					if e != api.OK || ok != (i < 80) || ok && string(value) != "v"+key {
						t.Errorf("goroutine %d: Check(%q) = %q, %v, %d", at, key, value, ok, e)
					}
					if _, _, e := hcheck.Check(w, api.Digest{}, []byte(key), proofs[i]); e != api.ErrProof && root != (api.Digest{}) {
						t.Errorf("goroutine %d: Check(%q) of another root: %d", at, key, e)
					}
				}
			})
		}
		group.Wait()
	}
}

// taken answers the first n bytes, as many as there are, and the rest.
func taken(p []byte, n int) ([]byte, []byte) {
	n = min(n, len(p))
	return p[:n], p[n:]
}

// proofOf answers a proof out of bytes: steps whose first byte says how many digests follow, and pairs.
func proofOf(w int, p []byte) api.KeyProof {
	var proof api.KeyProof
	for len(p) >= 3 && p[0] < 0xf0 {
		step := api.Step{Bitmap: binary.BigEndian.Uint16(p[1:])}
		kids := int(p[0] % 18)
		p = p[3:]
		for range kids {
			var d api.Digest
			var own []byte
			own, p = taken(p, w)
			copy(d[:], own)
			step.Kids = append(step.Kids, d)
		}
		proof.Steps = append(proof.Steps, step)
	}
	if len(p) > 0 {
		p = p[1:]
	}
	for len(p) >= 2 {
		key, value := int(p[0]%70), int(p[1])
		var pair api.Pair
		pair.Key, p = taken(p[2:], key)
		pair.Value, p = taken(p, value)
		proof.Pairs = append(proof.Pairs, pair)
	}
	return proof
}

func FuzzAsTheWordsSay(f *testing.F) {
	f.Add(uint8(0), []byte("a"), []byte{1, 0, 1, 2, 0xff, 1, 0, 'a'})
	f.Add(uint8(3), []byte("a"), []byte("a path that anybody has made up"))
	f.Fuzz(func(t *testing.T, width uint8, key, p []byte) {
		w := 1 + int(width)%api.MaxWidth
		if len(key) > api.MaxKey {
			return
		}
		proof := proofOf(w, p)
		holds(t, w, string(key), proof)
		r := rand.New(rand.NewSource(int64(len(p))))
		if len(proof.Steps) <= 2*w {
			mend(r, w, string(key), proof)
		}
		holds(t, w, string(key), proof)
	})
}
