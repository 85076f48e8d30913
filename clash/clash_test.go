package clash_test

import (
	"bytes"
	"crypto/sha256"
	"encoding/binary"
	"math"
	"math/bits"
	"math/rand"
	"slices"
	"strconv"
	"strings"
	"sync"
	"testing"

	"notary/api"
	"notary/clash"
	"notary/digest"
	"notary/entry"
	"notary/hamt"
	"notary/hcheck"
	"notary/hproof"
	"notary/mcheck"
	"notary/mproof"
	"notary/mtree"
	"notary/proof"
)

// cutSum is the digest of a text, made by another SHA-256.
func cutSum(w int, p []byte) api.Digest {
	whole := sha256.Sum256(p)
	var d api.Digest
	copy(d[:w], whole[:])
	return d
}

// wordsShows is P18.5.
func wordsShows(w int, x, y []byte) bool {
	return w >= 1 && w <= 32 && string(x) != string(y) && cutSum(w, x) == cutSum(w, y)
}

func unlikeEntries(a, b api.Entry) bool {
	return a.Kind != b.Kind || string(a.Key) != string(b.Key) || string(a.Value) != string(b.Value)
}

// wordsConflict is P18.1.
func wordsConflict(a, b api.Claim) bool {
	one := a.Kind == 1 && b.Kind == 1 && a.Root == b.Root && a.Index == b.Index && unlikeEntries(a.Entry, b.Entry)
	two := a.Kind == 2 && b.Kind == 2 && a.Root == b.Root && string(a.Key) == string(b.Key) &&
		(a.Present != b.Present || a.Present && b.Present && string(a.Value) != string(b.Value))
	return one || two
}

// wordsFind is the error of P18.2.
func wordsFind(w int, a, b api.Claim, p, q []byte) api.Errno {
	if w < 1 || w > 32 {
		return api.ErrArg
	}
	both := proof.Verify(w, a, p) == api.OK && proof.Verify(w, b, q) == api.OK
	third := false
	if both && a.Kind == 3 && b.Kind == 3 && a.Root == b.Root {
		r, _ := proof.Decode(w, p)
		s, _ := proof.Decode(w, q)
		third = r.Old.Size == s.Old.Size && r.Old.Log != s.Old.Log
	}
	if !third && !wordsConflict(a, b) {
		return api.ErrNone
	}
	if !both {
		return api.ErrProof
	}
	return api.OK
}

// wordsRewrite is the error of P18.3.
func wordsRewrite(w int, since, old, now api.Claim, p, q, r []byte) api.Errno {
	if w < 1 || w > 32 {
		return api.ErrArg
	}
	conflict := since.Kind == 3 && old.Kind == 1 && now.Kind == 1 && since.Old == old.Root && since.Root == now.Root && old.Index == now.Index && unlikeEntries(old.Entry, now.Entry)
	if !conflict {
		return api.ErrNone
	}
	if proof.Verify(w, since, p) != api.OK || proof.Verify(w, old, q) != api.OK || proof.Verify(w, now, r) != api.OK {
		return api.ErrProof
	}
	return api.OK
}

// judge fails unless the answer is the error that is wanted and nothing beside it, or else two unlike inputs of one digest.
func judge(t *testing.T, w int, x, y []byte, e, want api.Errno) {
	t.Helper()
	if e != want {
		t.Fatalf("width %d: %d, want %d", w, e, want)
	}
	if e != api.OK && (len(x) != 0 || len(y) != 0) {
		t.Fatalf("width %d: %x and %x beside the error %d", w, x, y, e)
	}
	if e == api.OK && (!wordsShows(w, x, y) || !clash.Shows(w, x, y)) {
		t.Fatalf("width %d: %x and %x are no two unlike inputs of one digest", w, x, y)
	}
}

// find fails unless Find answers what the words say, either way round, and answers the error.
func find(t *testing.T, w int, a, b api.Claim, p, q []byte) api.Errno {
	t.Helper()
	want := wordsFind(w, a, b, p, q)
	x, y, e := clash.Find(w, a, b, p, q)
	judge(t, w, x, y, e, want)
	x, y, e = clash.Find(w, b, a, q, p)
	judge(t, w, x, y, e, want)
	return want
}

// rewrite fails unless Rewrite answers what the words say, and answers the error.
func rewrite(t *testing.T, w int, since, old, now api.Claim, p, q, r []byte) api.Errno {
	t.Helper()
	want := wordsRewrite(w, since, old, now, p, q, r)
	x, y, e := clash.Rewrite(w, since, old, now, p, q, r)
	judge(t, w, x, y, e, want)
	return want
}

// shown answers the receipt's claim and its bytes; it must hold together.
func shown(t testing.TB, w int, r proof.Receipt) (api.Claim, []byte) {
	t.Helper()
	p, e := proof.Encode(w, r)
	if e != api.OK {
		t.Fatalf("width %d: Encode(%v): %d", w, r, e)
	}
	c, e := proof.Claimed(w, p)
	if e != api.OK {
		t.Fatalf("width %d: Claimed(%v): %d", w, r, e)
	}
	return c, p
}

// findIn fails unless Find of the two receipts, which must hold together, answers OK.
func findIn(t *testing.T, w int, r, s proof.Receipt) {
	t.Helper()
	a, p := shown(t, w, r)
	b, q := shown(t, w, s)
	if e := find(t, w, a, b, p, q); e != api.OK {
		t.Fatalf("width %d: %v and %v: %d", w, r, s, e)
	}
}

func anyDigest(r *rand.Rand, w int) api.Digest {
	var d api.Digest
	r.Read(d[:w])
	return d
}

func anyDigests(r *rand.Rand, w, n int) []api.Digest {
	list := make([]api.Digest, n)
	for i := range list {
		list[i] = anyDigest(r, w)
	}
	return list
}

func anyEntry(r *rand.Rand) api.Entry {
	e := api.Entry{Kind: byte(1 + r.Intn(2)), Key: []byte("k" + strconv.Itoa(r.Intn(1000)))}
	if e.Kind == api.Put {
		e.Value = []byte(strconv.Itoa(r.Intn(1000)))
	}
	return e
}

func leafOf(t testing.TB, w int, e api.Entry) api.Digest {
	p, f := entry.Encode(e)
	if f != api.OK {
		t.Fatalf("an entry: %d", f)
	}
	return cutSum(w, append([]byte{0}, p...))
}

func sealOf(w int, root api.Root) api.Digest {
	return cutSum(w, slices.Concat([]byte{6}, binary.BigEndian.AppendUint64(nil, root.Size), root.Log[:w], root.Map[:w]))
}

func split(n uint64) uint64 { return 1 << (bits.Len64(n-1) - 1) }

func inclusionCount(i, n uint64) int {
	if n == 1 {
		return 0
	}
	if k := split(n); i >= k {
		return 1 + inclusionCount(i-k, n-k)
	}
	return 1 + inclusionCount(i, split(n))
}

func consistencyCount(m, n uint64, whole bool) int {
	k := uint64(0)
	if m != n {
		k = split(n)
	}
	switch {
	case m == n && whole:
		return 0
	case m == n:
		return 1
	case m <= k:
		return 1 + consistencyCount(m, k, whole)
	}
	return 1 + consistencyCount(m-k, n-k, false)
}

// entryReceipt answers a receipt of the entry by a way of these digests; the root's log is what they lead to.
func entryReceipt(t testing.TB, w int, e api.Entry, i, n uint64, way []api.Digest) proof.Receipt {
	t.Helper()
	log, f := mcheck.RootOf(w, leafOf(t, w, e), i, n, way)
	if f != api.OK {
		t.Fatalf("RootOf(%d, %d): %d", i, n, f)
	}
	return proof.Receipt{Kind: api.ClaimEntry, Root: api.Root{Size: n, Log: log}, Index: i, Entry: e, Digests: way}
}

// otherEntry answers a receipt of an unlike entry at the same place under the same root, which has the last digests, as many as keep says, in common.
func otherEntry(t testing.TB, r *rand.Rand, w int, base proof.Receipt, keep int) proof.Receipt {
	t.Helper()
	for {
		e := anyEntry(r)
		free := len(base.Digests) - keep
		way := slices.Concat(anyDigests(r, w, free), base.Digests[free:])
		s := entryReceipt(t, w, e, base.Index, base.Root.Size, way)
		s.Root.Map = base.Root.Map
		if s.Root == base.Root && unlikeEntries(e, base.Entry) {
			return s
		}
	}
}

// Two entries at one index, whose ways part at each place that there is.
func TestP18_2_TwoEntries(t *testing.T) {
	const w = 1
	r := rand.New(rand.NewSource(182))
	for _, n := range []uint64{1, 2, 3, 4, 5, 7, 8, 13, 1 << 20, 1<<33 + 1, 1<<63 + 1, math.MaxUint64} {
		for _, i := range []uint64{0, 1, n / 2, n - 1} {
			if i >= n {
				continue
			}
			base := entryReceipt(t, w, anyEntry(r), i, n, anyDigests(r, w, inclusionCount(i, n)))
			base.Root.Map = anyDigest(r, w)
			for keep := range len(base.Digests) + 1 {
				if keep > 8 && keep%9 != 0 && keep < len(base.Digests)-1 {
					continue
				}
				findIn(t, w, base, otherEntry(t, r, w, base, keep))
			}
		}
	}
}

func TestP18_2_TwoEntriesOfTwoBytes(t *testing.T) {
	const w = 2
	r := rand.New(rand.NewSource(1820))
	for _, at := range [][2]uint64{{0, 1}, {1, 2}, {4, 5}} {
		base := entryReceipt(t, w, anyEntry(r), at[0], at[1], anyDigests(r, w, inclusionCount(at[0], at[1])))
		for keep := range len(base.Digests) + 1 {
			findIn(t, w, base, otherEntry(t, r, w, base, keep))
		}
	}
}

// sealedAs makes roots by the function till one is unlike the given one and sealed alike.
func sealedAs(w int, root api.Root, next func() proof.Receipt) proof.Receipt {
	for {
		if s := next(); s.Root != root && sealOf(w, s.Root) == sealOf(w, root) {
			return s
		}
	}
}

// anyOf answers a receipt that holds together and has little to do with any other.
func anyOf(t testing.TB, r *rand.Rand, w int, kind byte, i uint64, key string) proof.Receipt {
	t.Helper()
	switch kind {
	case api.ClaimEntry:
		n := i + 1 + uint64(r.Intn(9))
		s := entryReceipt(t, w, anyEntry(r), i, n, anyDigests(r, w, inclusionCount(i, n)))
		s.Root.Map = anyDigest(r, w)
		return s
	case api.ClaimKey:
		s := keyReceipt(t, w, key, anyPath(r, w, key))
		s.Root.Size, s.Root.Log = uint64(r.Intn(9)), anyDigest(r, w)
		return s
	}
	s := sinceReceipt(t, r, w, i+1, i+2+uint64(r.Intn(9)), nil)
	s.Root.Map, s.Old.Map = anyDigest(r, w), anyDigest(r, w)
	return s
}

// Receipts whose roots are unlike, and have one seal: in the size, in the log's digest, in the map's.
func TestP18_2_TwoRoots(t *testing.T) {
	const w = 1
	r := rand.New(rand.NewSource(1821))
	for _, kind := range []byte{api.ClaimEntry, api.ClaimKey, api.ClaimSince} {
		met := 0
		for range 25 {
			base := anyOf(t, r, w, kind, 3, "a")
			s := sealedAs(w, base.Root, func() proof.Receipt { return anyOf(t, r, w, kind, 3, "a") })
			a, p := shown(t, w, base)
			b, q := shown(t, w, s)
			if find(t, w, a, b, p, q) == api.OK {
				met++
			}
		}
		if met < 8 {
			t.Errorf("kind %d: only %d conflicts were met", kind, met)
		}
	}
	e := anyEntry(r) // all that is unlike, but the entry, is the map's digest; or the size of a log with the same way
	way := anyDigests(r, w, 2)
	for _, n := range []uint64{3, 4} {
		base := entryReceipt(t, w, e, 0, 3, way)
		s := sealedAs(w, base.Root, func() proof.Receipt {
			s := entryReceipt(t, w, anyEntry(r), 0, n, way)
			s.Root.Map = anyDigest(r, w)
			return s
		})
		findIn(t, w, base, s)
	}
}

// digits answers the digits of a key's digest.
func digits(w int, key string) []int {
	d := cutSum(w, []byte("\x02"+key))
	var list []int
	for _, b := range d[:w] {
		list = append(list, int(b>>4), int(b&15))
	}
	return list
}

// neighbours answers three keys whose digests have at least so many digits in common with the key's.
func neighbours(w int, key string, common int) []string {
	var keys []string
	for i := 0; len(keys) < 3; i++ {
		if other := "n" + strconv.Itoa(i); slices.Equal(digits(w, other)[:common], digits(w, key)[:common]) {
			keys = append(keys, other)
		}
	}
	slices.Sort(keys)
	return keys
}

// anyEnd answers the pairs of a bucket at the end of so many steps: the key's with others beside it, or others alone.
func anyEnd(r *rand.Rand, w int, key string, steps int) []api.Pair {
	var keys []string
	if r.Intn(3) == 0 {
		others := neighbours(w, key, steps)
		keys = []string{others[r.Intn(3)]}
	} else {
		keys = []string{key}
		for _, twin := range neighbours(w, key, 2*w) {
			if r.Intn(2) == 0 {
				keys = append(keys, twin)
			}
		}
		if r.Intn(3) == 0 && len(keys) > 1 {
			keys = keys[1:]
		}
		slices.Sort(keys)
	}
	var pairs []api.Pair
	for _, key := range keys {
		pairs = append(pairs, api.Pair{Key: []byte(key), Value: []byte(strconv.Itoa(r.Intn(200)))})
	}
	return pairs
}

// anyPath answers a proof for the key, whatever it leads to.
func anyPath(r *rand.Rand, w int, key string) api.KeyProof {
	var p api.KeyProof
	steps := r.Intn(2*w + 1)
	ends := r.Intn(4) > 0
	if ends {
		p.Pairs = anyEnd(r, w, key, steps)
	}
	for i := range steps {
		own := uint16(1) << digits(w, key)[i]
		bitmap := uint16(r.Int())
		last := i == steps-1
		if last && !ends {
			bitmap = bitmap&^own | own<<1 | own>>15
		} else {
			bitmap |= own | own<<1 | own>>15
		}
		step := api.Step{Bitmap: bitmap, Kids: anyDigests(r, w, bits.OnesCount16(bitmap))}
		if !last || ends {
			step.Kids = step.Kids[1:]
		}
		p.Steps = append(p.Steps, step)
	}
	return p
}

func keyReceipt(t testing.TB, w int, key string, path api.KeyProof) proof.Receipt {
	t.Helper()
	d, _, _, e := hcheck.RootOf(w, []byte(key), path)
	if e != api.OK {
		t.Fatalf("width %d: RootOf(%q, %v): %d", w, key, path, e)
	}
	return proof.Receipt{Kind: api.ClaimKey, Root: api.Root{Map: d}, Key: []byte(key), Path: path}
}

// Paths of one key that lead to one map's digest, and answer unlike values, or one of them none.
func TestP18_2_TwoValues(t *testing.T) {
	const w = 1
	for seed, key := range []string{"a", "", strings.Repeat("k", 64)} {
		r := rand.New(rand.NewSource(int64(1822 + seed)))
		firstOf := map[api.Digest][]proof.Receipt{}
		met := map[[2]int]int{}
		for range 1300 {
			s := keyReceipt(t, w, key, anyPath(r, w, key))
			for _, other := range firstOf[s.Root.Map] {
				a, p := shown(t, w, other)
				b, q := shown(t, w, s)
				if find(t, w, a, b, p, q) == api.OK {
					met[[2]int{len(other.Path.Steps), len(s.Path.Steps)}]++
				}
			}
			firstOf[s.Root.Map] = append(firstOf[s.Root.Map], s)
		}
		for one := range 3 {
			for two := range 3 {
				if met[[2]int{one, two}] < 20 {
					t.Errorf("%q: paths of %d and %d steps: %d conflicts", key, one, two, met[[2]int{one, two}])
				}
			}
		}
	}
}

// The same with the first steps in common, so that the paths part further down, at a branch or at the bucket; and at the width 2, where there are more of them.
func TestP18_2_TwoValuesFurtherDown(t *testing.T) {
	const key = "a"
	r := rand.New(rand.NewSource(1825))
	for w := 1; w <= 2; w++ {
		times := 1 + 11*(2-w)
		for steps := w - 1; steps <= w+1; steps++ {
			for keep := 0; keep <= steps; keep += w {
				for range times {
					base := longPath(r, w, key, steps)
					findIn(t, w, keyReceipt(t, w, key, base), otherPath(t, r, w, key, base, keep))
				}
			}
		}
	}
}

// longPath answers a path of so many branches, of three children each, down to the bucket of the key.
func longPath(r *rand.Rand, w int, key string, steps int) api.KeyProof {
	p := api.KeyProof{Pairs: []api.Pair{{Key: []byte(key), Value: []byte("v")}}}
	for i := range steps {
		own := uint16(1) << digits(w, key)[i]
		p.Steps = append(p.Steps, api.Step{Bitmap: own | own<<3 | own>>13 | own<<7 | own>>9, Kids: anyDigests(r, w, 2)})
	}
	return p
}

// otherPath answers a receipt of the key with an unlike value under the same root, which has the first steps, as many as keep says, in common.
func otherPath(t testing.TB, r *rand.Rand, w int, key string, base api.KeyProof, keep int) proof.Receipt {
	t.Helper()
	root := keyReceipt(t, w, key, base).Root
	for try := 0; ; try++ {
		p := api.KeyProof{Steps: slices.Clone(base.Steps), Pairs: []api.Pair{{Key: []byte(key), Value: []byte(strconv.Itoa(try))}}}
		for i := keep; i < len(p.Steps); i++ {
			p.Steps[i].Kids = anyDigests(r, w, 2)
		}
		if s := keyReceipt(t, w, key, p); s.Root == root {
			return s
		}
	}
}

// The empty map against a map that is not: the one byte of the empty map's input clashes with a bucket's, or with a branch's.
func TestP18_2_NothingAndSomething(t *testing.T) {
	const w = 1
	r := rand.New(rand.NewSource(1826))
	none := keyReceipt(t, w, "a", api.KeyProof{})
	met := map[int]int{}
	for len(met) < 3 {
		s := keyReceipt(t, w, "a", anyPath(r, w, "a"))
		if s.Root != none.Root || !slices.ContainsFunc(s.Path.Pairs, func(p api.Pair) bool { return string(p.Key) == "a" }) {
			continue
		}
		met[len(s.Path.Steps)]++
		findIn(t, w, none, s)
	}
}

// sinceReceipt answers a receipt of the sizes m and n by a way whose last digests are given, and what it leads to as its roots.
func sinceReceipt(t testing.TB, r *rand.Rand, w int, m, n uint64, last []api.Digest) proof.Receipt {
	t.Helper()
	if m == n || m == 0 {
		root := api.Root{Size: n, Log: anyDigest(r, w), Map: anyDigest(r, w)}
		s := proof.Receipt{Kind: api.ClaimSince, Root: root, Old: root}
		if m == 0 {
			s.Old = api.Root{Log: cutSum(w, nil), Map: cutSum(w, []byte{5})}
		}
		return s
	}
	way := append(anyDigests(r, w, consistencyCount(m, n, true)-len(last)), last...)
	old, now, e := mcheck.RootsOf(w, m, n, anyDigest(r, w), way)
	if e != api.OK {
		t.Fatalf("RootsOf(%d, %d): %d", m, n, e)
	}
	return proof.Receipt{Kind: api.ClaimSince, Root: api.Root{Size: n, Log: now}, Old: api.Root{Size: m, Log: old, Map: anyDigest(r, w)}, Digests: way}
}

// Two beginnings of one size under one root, whose proofs part at each place that there is.
func TestP18_2_TwoBeginnings(t *testing.T) {
	const w = 1
	r := rand.New(rand.NewSource(1827))
	met := 0
	for _, n := range []uint64{2, 3, 4, 5, 6, 7, 8, 11, 16, 1 << 40, math.MaxUint64} {
		for _, m := range []uint64{1, 2, 3, 4, 5, 6, 7, n / 2, n - 2, n - 1} {
			if m == 0 || m >= n {
				continue
			}
			base := sinceReceipt(t, r, w, m, n, nil)
			for keep := range len(base.Digests) + 1 {
				if keep > 6 && keep%9 != 0 {
					continue
				}
				for range 3000 {
					s := sinceReceipt(t, r, w, m, n, base.Digests[len(base.Digests)-keep:])
					if s.Root == base.Root && s.Old.Log != base.Old.Log {
						met++
						findIn(t, w, base, s)
						break
					}
				}
			}
		}
	}
	if met < 200 {
		t.Errorf("only %d conflicts were met", met)
	}
}

// The third case is told by the receipts: of claims that are one, too; not where sizes are unlike, nor where the older logs are alike; and not by a receipt that isn't accepted.
func TestP18_2_TheThirdCase(t *testing.T) {
	const w, m, n = 1, 3, 7
	r := rand.New(rand.NewSource(1828))
	base := sinceReceipt(t, r, w, m, n, nil)
	a, p := shown(t, w, base)
	next := func(m uint64, good func(proof.Receipt) bool) (api.Claim, []byte) {
		t.Helper()
		for {
			if s := sinceReceipt(t, r, w, m, n, nil); s.Root == base.Root && good(s) {
				return shown(t, w, s)
			}
		}
	}
	b, q := next(m, func(s proof.Receipt) bool {
		return s.Old.Log != base.Old.Log && sealOf(w, s.Old) == sealOf(w, base.Old)
	})
	if clash.Conflict(a, b) || a.Old != b.Old || find(t, w, a, b, p, q) != api.OK {
		t.Error("one claim of two beginnings")
	}
	b, q = next(m, func(s proof.Receipt) bool {
		return sealOf(w, s.Old) != sealOf(w, base.Old) && s.Old.Log != base.Old.Log
	})
	if clash.Conflict(a, b) || find(t, w, a, b, p, q) != api.OK {
		t.Error("two claims of two beginnings")
	}
	spoilt := bytes.Clone(p)
	spoilt[len(spoilt)-1] ^= 1
	for i, bad := range [][]byte{nil, q, p[:len(p)-1], {9}, spoilt} {
		if find(t, w, a, b, bad, q) != api.ErrNone || find(t, w, a, b, bad, p) != api.ErrNone || find(t, w, a, b, p, p) != api.ErrNone {
			t.Errorf("a receipt that isn't accepted, %d", i)
		}
	}
	far := sinceReceipt(t, r, w, m, n, nil)
	for far.Old.Log == base.Old.Log || sealOf(w, far.Root) == sealOf(w, base.Root) {
		far = sinceReceipt(t, r, w, m, n, nil)
	}
	if c, s := shown(t, w, far); find(t, w, a, c, p, s) != api.ErrNone {
		t.Error("two beginnings of two logs")
	}
	other := b
	other.Root[0]++
	if find(t, w, a, other, p, q) != api.ErrNone {
		t.Error("another root")
	}
	other = b
	other.Kind = api.ClaimKey
	if find(t, w, a, other, p, q) != api.ErrNone {
		t.Error("another kind")
	}
	alike := base
	alike.Old.Map[0]++
	if b, q := shown(t, w, alike); find(t, w, a, b, p, q) != api.ErrNone {
		t.Error("another map of the older log")
	}
	b, q = next(2, func(s proof.Receipt) bool { return s.Old.Log != base.Old.Log })
	if find(t, w, a, b, p, q) != api.ErrNone {
		t.Error("another size of the older log")
	}
	zero := sinceReceipt(t, r, w, 0, n, nil)
	if a, p := shown(t, w, zero); find(t, w, a, a, p, p) != api.ErrNone {
		t.Error("two empty beginnings")
	}
	whole := sinceReceipt(t, r, w, n, n, nil) // the older root is the newer one: beginnings are unlike only where the roots are
	s := sealedAs(w, whole.Root, func() proof.Receipt { return sinceReceipt(t, r, w, n, n, nil) })
	if s.Old.Log == whole.Old.Log {
		t.Fatal("one log")
	}
	findIn(t, w, whole, s)
	short := sealedAs(w, whole.Root, func() proof.Receipt {
		s := sinceReceipt(t, r, w, n, n+2, nil)
		s.Root.Map = anyDigest(r, w)
		return s
	})
	if short.Old.Log == whole.Old.Log {
		t.Fatal("one log")
	}
	findIn(t, w, whole, short)
}

// ledger is a log of n entries with its tree.
type ledger struct {
	entries []api.Entry
	tree    *mtree.Tree
	m       *hamt.Map
}

func newLedger(t testing.TB, r *rand.Rand, w, n int) ledger {
	t.Helper()
	tree, e := mtree.New(w)
	m, f := hamt.New(w)
	if e != api.OK || f != api.OK {
		t.Fatalf("a ledger: %d, %d", e, f)
	}
	l := ledger{tree: tree, m: m}
	for range n {
		own := anyEntry(r)
		l.entries = append(l.entries, own)
		l.tree, _ = l.tree.Append(leafOf(t, w, own))
		if own.Kind == api.Put {
			l.m, _ = l.m.Put(own.Key, own.Value)
		} else {
			l.m, _, _ = l.m.Delete(own.Key)
		}
	}
	return l
}

// root answers the root of the first n entries; the map's digest is made up but for the last one.
func (l ledger) root(n uint64) api.Root {
	log, _ := l.tree.Root(n)
	root := api.Root{Size: n, Log: log, Map: api.Digest{byte(n)}}
	if n == l.tree.Size() {
		root.Map = l.m.Root()
	}
	return root
}

func (l ledger) entry(i, n uint64) proof.Receipt {
	p, _ := mproof.Inclusion(l.tree, i, n)
	return proof.Receipt{Kind: api.ClaimEntry, Root: l.root(n), Index: i, Entry: l.entries[i], Digests: p}
}

func (l ledger) since(m, n uint64) proof.Receipt {
	p, _ := mproof.Consistency(l.tree, m, n)
	return proof.Receipt{Kind: api.ClaimSince, Root: l.root(n), Old: l.root(m), Digests: p}
}

// rewriteIn fails unless Rewrite of the three receipts, which must hold together, answers OK.
func rewriteIn(t *testing.T, w int, since, old, now proof.Receipt) {
	t.Helper()
	a, p := shown(t, w, since)
	b, q := shown(t, w, old)
	c, r := shown(t, w, now)
	if e := rewrite(t, w, a, b, c, p, q, r); e != api.OK {
		t.Fatalf("width %d: %v, %v and %v: %d", w, since, old, now, e)
	}
}

// A log of which the older or the newer receipt, or both, have another entry in it, so that their ways part from the log's at each place that there is.
func TestP18_3_OtherEntries(t *testing.T) {
	const w = 1
	r := rand.New(rand.NewSource(183))
	for n := uint64(1); n <= 9; n++ {
		l := newLedger(t, r, w, int(n))
		for m := uint64(1); m <= n; m++ {
			for i := range m {
				since, old, now := l.since(m, n), l.entry(i, m), l.entry(i, n)
				for keep := range len(old.Digests) + 1 {
					rewriteIn(t, w, since, otherEntry(t, r, w, old, keep), now)
				}
				for keep := range len(now.Digests) + 1 {
					rewriteIn(t, w, since, old, otherEntry(t, r, w, now, keep))
				}
				one, two := otherEntry(t, r, w, old, len(old.Digests)/2), otherEntry(t, r, w, now, len(now.Digests)/2)
				if unlikeEntries(one.Entry, two.Entry) {
					rewriteIn(t, w, since, one, two)
				}
			}
		}
	}
}

// between answers two logs that have nothing to do with one another, and a receipt that the one is the beginning of the other.
func between(t *testing.T, r *rand.Rand, w int, m, n uint64) (ledger, ledger, proof.Receipt) {
	t.Helper()
	for {
		one, two := newLedger(t, r, w, int(m)), newLedger(t, r, w, int(n))
		before, after := one.root(m), two.root(n)
		for range 2000 {
			way := anyDigests(r, w, consistencyCount(m, n, true))
			if a, b, _ := mcheck.RootsOf(w, m, n, before.Log, way); a == before.Log && b == after.Log {
				return one, two, proof.Receipt{Kind: api.ClaimSince, Root: after, Old: before, Digests: way}
			}
		}
	}
}

func TestP18_3_OtherBeginnings(t *testing.T) {
	const w = 1
	r := rand.New(rand.NewSource(1830))
	for _, size := range [][2]uint64{{1, 2}, {1, 5}, {2, 3}, {4, 7}, {3, 4}, {5, 8}, {7, 11}} {
		one, two, since := between(t, r, w, size[0], size[1])
		for i := range size[0] {
			if old, now := one.entry(i, size[0]), two.entry(i, size[1]); unlikeEntries(old.Entry, now.Entry) {
				rewriteIn(t, w, since, old, now)
			}
		}
	}
}

// Sizes that no log here has, by ways of random digests.
func TestP18_3_GreatSizes(t *testing.T) {
	const w = 1
	r := rand.New(rand.NewSource(1831))
	for _, size := range [][2]uint64{{1 << 40, 1<<40 + 1}, {1<<40 + 5, 1 << 41}, {1 << 63, 1<<63 + 9}, {1<<63 + 3, math.MaxUint64}, {math.MaxUint64 - 1, math.MaxUint64}} {
		m, n := size[0], size[1]
		for _, i := range []uint64{0, 77, m / 2, m - 1} {
			since := sinceReceipt(t, r, w, m, n, nil)
			reach := func(root api.Root) proof.Receipt {
				t.Helper()
				for {
					s := entryReceipt(t, w, anyEntry(r), i, root.Size, anyDigests(r, w, inclusionCount(i, root.Size)))
					if s.Root.Log == root.Log {
						s.Root = root
						return s
					}
				}
			}
			rewriteIn(t, w, since, reach(since.Old), reach(since.Root))
		}
	}
}

// Receipts whose roots are unlike those of the beginning's receipt, and have their seals.
func TestP18_3_OtherRoots(t *testing.T) {
	const w = 1
	r := rand.New(rand.NewSource(1832))
	for _, m := range []uint64{0, 1, 3, 4, 5} {
		for range 8 {
			l := newLedger(t, r, w, 5)
			since := l.since(m, 5)
			if m == 0 {
				since.Old.Map = cutSum(w, []byte{5})
			}
			other := func(root api.Root) proof.Receipt {
				return sealedAs(w, root, func() proof.Receipt { return anyOf(t, r, w, api.ClaimEntry, 0, "") })
			}
			now := l.entry(0, 5)
			old := other(since.Old)
			for !unlikeEntries(old.Entry, now.Entry) {
				old = other(since.Old)
			}
			rewriteIn(t, w, since, old, now)
			now = other(since.Root)
			for !unlikeEntries(old.Entry, now.Entry) || !unlikeEntries(l.entries[0], now.Entry) {
				now = other(since.Root)
			}
			rewriteIn(t, w, since, old, now)
			if m > 0 {
				rewriteIn(t, w, since, l.entry(0, m), now)
			}
		}
	}
}

// The seals of the older and of the newer root may be one, while the roots aren't.
func TestP18_3_OneSeal(t *testing.T) {
	const w = 1
	r := rand.New(rand.NewSource(1833))
	for met := 0; met < 10; {
		l := newLedger(t, r, w, 6)
		since := l.since(4, 6)
		if sealOf(w, since.Old) != sealOf(w, since.Root) {
			continue
		}
		met++
		old, now := l.entry(2, 4), l.entry(2, 6)
		for keep := range 3 {
			rewriteIn(t, w, since, old, otherEntry(t, r, w, now, keep))
			rewriteIn(t, w, since, otherEntry(t, r, w, old, keep), now)
		}
	}
}

func anyClaim(r *rand.Rand) api.Claim {
	text := func() []byte { return [][]byte{nil, {}, []byte("a"), []byte("b"), []byte("ab")}[r.Intn(5)] }
	return api.Claim{
		Kind: byte(r.Intn(5)), Root: api.Digest{31: byte(r.Intn(2))}, Old: api.Digest{byte(r.Intn(2))}, Index: uint64(r.Intn(2)) << 63,
		Entry: api.Entry{Kind: byte(1 + r.Intn(2)), Key: text(), Value: text()}, Key: text(), Value: text(), Present: r.Intn(2) == 0,
	}
}

// Conflict is what the words say, of claims that are alike in most things.
func TestP18_1_AsTheWordsSay(t *testing.T) {
	r := rand.New(rand.NewSource(181))
	met := map[byte]int{}
	for range 100000 {
		a := anyClaim(r)
		b := anyClaim(r)
		if r.Intn(2) == 0 {
			b.Kind, b.Root, b.Index, b.Key = a.Kind, a.Root, a.Index, a.Key
		}
		want := wordsConflict(a, b)
		if clash.Conflict(a, b) != want || clash.Conflict(b, a) != want || clash.Conflict(a, a) {
			t.Fatalf("Conflict(%v, %v) is not %v", a, b, want)
		}
		if want {
			met[a.Kind]++
		}
	}
	if met[1] < 1000 || met[2] < 1000 || len(met) != 2 {
		t.Errorf("met %v", met)
	}
}

// One field at a time: those that a kind names count, the others don't.
func TestP18_1_Fields(t *testing.T) {
	e := api.Claim{Kind: 1, Root: api.Digest{1}, Index: 3, Entry: api.Entry{Kind: api.Put, Key: []byte("k"), Value: []byte("v")}}
	k := api.Claim{Kind: 2, Root: api.Digest{1}, Key: []byte("k"), Value: []byte("v"), Present: true}
	type how = func(*api.Claim)
	for i, c := range []struct {
		from api.Claim
		how  how
		want bool
	}{
		{e, func(c *api.Claim) { c.Entry.Value = []byte("w") }, true},
		{e, func(c *api.Claim) { c.Entry.Value = nil }, true},
		{e, func(c *api.Claim) { c.Entry.Key = []byte("l") }, true},
		{e, func(c *api.Claim) { c.Entry.Kind = api.Delete }, true},
		{e, func(c *api.Claim) { c.Entry.Kind = 77 }, true},
		{e, func(c *api.Claim) { c.Entry.Value = []byte("v") }, false},
		{e, func(c *api.Claim) { c.Entry.Value, c.Index = nil, 4 }, false},
		{e, func(c *api.Claim) { c.Entry.Value, c.Root = nil, api.Digest{2} }, false},
		{e, func(c *api.Claim) { c.Entry.Value, c.Kind = nil, 2 }, false},
		{e, func(c *api.Claim) {
			c.Key, c.Value, c.Present, c.Old = []byte("x"), []byte("y"), true, api.Digest{9}
		}, false},
		{k, func(c *api.Claim) { c.Value = []byte("w") }, true},
		{k, func(c *api.Claim) { c.Value = nil }, true},
		{k, func(c *api.Claim) { c.Present = false }, true},
		{k, func(c *api.Claim) { c.Present, c.Value = false, nil }, true},
		{k, func(c *api.Claim) { c.Value, c.Key = nil, []byte("l") }, false},
		{k, func(c *api.Claim) { c.Value, c.Root = nil, api.Digest{2} }, false},
		{k, func(c *api.Claim) { c.Index, c.Entry, c.Old = 7, api.Entry{Kind: 1}, api.Digest{9} }, false},
	} {
		b := c.from
		c.how(&b)
		if clash.Conflict(c.from, b) != c.want || clash.Conflict(b, c.from) != c.want {
			t.Errorf("case %d: Conflict is not %v", i, c.want)
		}
		for _, kind := range []byte{0, 3, 4, 255} {
			x, y := c.from, b
			x.Kind, y.Kind = kind, kind
			if clash.Conflict(x, y) {
				t.Errorf("case %d: a conflict of the kind %d", i, kind)
			}
		}
	}
	absent := k
	absent.Present = false
	other := absent
	other.Value = []byte("w")
	if clash.Conflict(absent, other) {
		t.Error("two claims that the key is absent conflict")
	}
}

// Find of every pair of receipts of a ledger and of what is nearly one, accepted or not.
func TestP18_2_AsTheWordsSay(t *testing.T) {
	const w = 1
	r := rand.New(rand.NewSource(1829))
	type offer struct {
		c api.Claim
		p []byte
	}
	var all []offer
	add := func(s proof.Receipt) {
		c, p := shown(t, w, s)
		all = append(all, offer{c, p})
	}
	l := newLedger(t, r, w, 5)
	for i := range uint64(5) {
		good := l.entry(i, 5)
		add(good)
		add(otherEntry(t, r, w, good, 1))
	}
	for m := range uint64(6) {
		s := l.since(m, 5)
		if m == 0 {
			s.Old.Map = cutSum(w, []byte{5})
		}
		add(s)
	}
	for _, own := range l.entries {
		path, _ := hproof.Prove(l.m, own.Key)
		add(proof.Receipt{Kind: api.ClaimKey, Root: l.root(5), Key: own.Key, Path: path})
	}
	for _, o := range slices.Clone(all) {
		c := o.c
		c.Value, c.Present, c.Entry.Value = []byte("other"), true, []byte("other")
		all = append(all, offer{c, o.p}, offer{o.c, o.p[1:]}, offer{o.c, append(bytes.Clone(o.p), 0)})
	}
	met := map[api.Errno]int{}
	for _, a := range all {
		for _, b := range all {
			met[find(t, w, a.c, b.c, a.p, b.p)]++
			find(t, 2, a.c, b.c, a.p, b.p)
		}
	}
	if met[api.OK] < 10 || met[api.ErrProof] < 10 || met[api.ErrNone] < 100 || len(met) != 3 {
		t.Errorf("met %v", met)
	}
}

// broken answers what can't be accepted, whatever the claim is: one list for each error of Verify.
func broken() [][]byte {
	return [][]byte{nil, {}, {9}, append(make([]byte, 11), 1), slices.Concat([]byte{2}, make([]byte, 10), []byte{65}), slices.Concat([]byte{1}, make([]byte, 10), []byte{0, 2, 2, 0, 0})}
}

// Of several errors the least: each way to be wrong, with each other one beside it.
func TestErrors_TheLeastNumber(t *testing.T) {
	const w = 1
	r := rand.New(rand.NewSource(184))
	l := newLedger(t, r, w, 6)
	good, goodOld, goodSince := l.entry(2, 6), l.entry(2, 4), l.since(4, 6)
	a, p := shown(t, w, good)
	b, q := shown(t, w, otherEntry(t, r, w, good, 1))
	old, s := shown(t, w, goodOld)
	since, u := shown(t, w, goodSince)
	for _, bad := range broken() {
		for mask := range 1 << 5 {
			on := func(bit int) bool { return mask>>bit&1 == 1 }
			width, c, x, y, z := w, b, p, q, u
			want, three := api.OK, api.OK
			if on(0) {
				x, want = bad, api.ErrProof
			}
			if on(1) {
				y, want, three = bad, api.ErrProof, api.ErrProof
			}
			if on(2) {
				z, three = bad, api.ErrProof
			}
			if on(3) {
				c.Index, want, three = 3, api.ErrNone, api.ErrNone
			}
			if on(4) {
				width, want, three = 33*(mask&1), api.ErrArg, api.ErrArg
			}
			i, j, e := clash.Find(width, a, c, x, y)
			judge(t, w, i, j, e, want)
			i, j, e = clash.Rewrite(width, since, old, c, z, s, y)
			judge(t, w, i, j, e, three)
		}
	}
	for _, none := range []int{0, -1, 33, math.MaxInt, math.MinInt} {
		if find(t, none, a, b, p, q) != api.ErrArg || rewrite(t, none, since, old, b, u, s, q) != api.ErrArg || find(t, none, a, a, nil, nil) != api.ErrArg {
			t.Errorf("the width %d", none)
		}
	}
}

// Rewrite: each thing that makes the conflict, broken alone; each receipt refused alone, or in another's place.
func TestP18_3_AsTheWordsSay(t *testing.T) {
	const w = 1
	r := rand.New(rand.NewSource(1834))
	l := newLedger(t, r, w, 6)
	since, p := shown(t, w, l.since(4, 6))
	old, q := shown(t, w, l.entry(2, 4))
	now, s := shown(t, w, otherEntry(t, r, w, l.entry(2, 6), 1))
	truth, u := shown(t, w, l.entry(2, 6))
	if rewrite(t, w, since, old, now, p, q, s) != api.OK || rewrite(t, w, since, old, truth, p, q, u) != api.ErrNone {
		t.Error("the log's own, and another entry")
	}
	type three = struct{ since, old, now api.Claim }
	for i, how := range []func(*three){
		func(c *three) { c.since.Kind = 1 }, func(c *three) { c.since.Kind = 2 }, func(c *three) { c.since.Kind = 0 },
		func(c *three) { c.old.Kind = 2 }, func(c *three) { c.old.Kind = 3 }, func(c *three) { c.now.Kind = 2 }, func(c *three) { c.now.Kind = 3 },
		func(c *three) { c.since.Old[0]++ }, func(c *three) { c.since.Root[31]++ }, func(c *three) { c.old.Root[0]++ }, func(c *three) { c.now.Root[0]++ },
		func(c *three) { c.old.Index++ }, func(c *three) { c.now.Index++ }, func(c *three) { c.now.Entry = c.old.Entry },
		func(c *three) { c.old, c.now = c.now, c.old },
	} {
		c := three{since, old, now}
		how(&c)
		for _, bytesOf := range [][3][]byte{{p, q, s}, {nil, nil, nil}, {q, s, p}} {
			if e := rewrite(t, w, c.since, c.old, c.now, bytesOf[0], bytesOf[1], bytesOf[2]); e != api.ErrNone && !(i == 14 && old.Root == now.Root) {
				t.Errorf("case %d: %d", i, e)
			}
		}
	}
	other := since // what the kinds don't name is not looked at
	other.Index, other.Entry, other.Key, other.Value, other.Present = 9, api.Entry{Kind: 9}, []byte("x"), []byte("y"), true
	before, after := old, now
	before.Old, before.Key, after.Old, after.Value, after.Present = api.Digest{9}, []byte("z"), api.Digest{8}, []byte("q"), true
	if rewrite(t, w, other, before, after, p, q, s) != api.OK {
		t.Error("other fields")
	}
	for _, bad := range broken() {
		for i := range 3 {
			list := [][]byte{p, q, s}
			list[i] = bad
			if e := rewrite(t, w, since, old, now, list[0], list[1], list[2]); e != api.ErrProof {
				t.Errorf("the receipt %d as %x: %d", i, bad, e)
			}
		}
	}
	for _, list := range [][][]byte{{q, p, s}, {p, s, q}, {s, q, p}, {p, q, u}} {
		if e := rewrite(t, w, since, old, now, list[0], list[1], list[2]); e != api.ErrProof {
			t.Errorf("turned round: %d", e)
		}
	}
}

// At the full width honest receipts conflict with nothing, and what conflicts with them is not accepted.
func TestP5_AtTheFullWidth(t *testing.T) {
	const w = 32
	r := rand.New(rand.NewSource(185))
	l := newLedger(t, r, w, 7)
	for i := range uint64(7) {
		a, p := shown(t, w, l.entry(i, 7))
		if find(t, w, a, a, p, p) != api.ErrNone {
			t.Errorf("the entry %d conflicts with itself", i)
		}
		b := a
		b.Entry.Key = []byte("other")
		if find(t, w, a, b, p, p) != api.ErrProof {
			t.Errorf("another entry at %d", i)
		}
		for m := i + 1; m <= 7; m++ {
			since, q := shown(t, w, l.since(m, 7))
			old, s := shown(t, w, l.entry(i, m))
			if rewrite(t, w, since, old, a, q, s, p) != api.ErrNone || rewrite(t, w, since, old, b, q, s, p) != api.ErrProof {
				t.Errorf("the entry %d of %d", i, m)
			}
		}
	}
}

func TestP18_5_AsTheWordsSay(t *testing.T) {
	r := rand.New(rand.NewSource(186))
	texts := [][]byte{nil, {}, {0}, {5}, {0, 0}}
	for len(texts) < 300 {
		p := make([]byte, 1+r.Intn(90))
		r.Read(p)
		texts = append(texts, p)
	}
	texts = append(texts, bytes.Clone(texts[100]), texts[100][:1])
	met := 0
	for _, x := range texts {
		for _, y := range texts {
			for _, w := range []int{-1, 0, 1, 2, 32, 33} {
				want := wordsShows(w, x, y)
				if clash.Shows(w, x, y) != want {
					t.Fatalf("Shows(%d, %x, %x) is not %v", w, x, y, want)
				}
				if want {
					met++
				}
			}
		}
	}
	if met < 100 {
		t.Errorf("only %d were met", met)
	}
	for w := -3; w < 40; w++ {
		if clash.Shows(w, []byte("x"), []byte("x")) || clash.Shows(w, nil, []byte{}) {
			t.Errorf("Shows(%d) of one text", w)
		}
	}
	for _, w := range []int{2, 3} { // just as wide as the digests are alike
		firstOf := map[api.Digest][]byte{}
		for i := 0; ; i++ {
			x := binary.BigEndian.AppendUint32(nil, uint32(i))
			d := cutSum(w, x)
			y, ok := firstOf[d]
			firstOf[d] = x
			if !ok {
				continue
			}
			for width := -1; width < 40; width++ {
				if clash.Shows(width, x, y) != wordsShows(width, x, y) {
					t.Errorf("Shows(%d, %x, %x)", width, x, y)
				}
			}
			break
		}
	}
}

// room answers a copy of p with spare room behind it, and a check that nothing of it has changed.
func room(p []byte) ([]byte, func() bool) {
	whole := append(bytes.Clone(p), bytes.Repeat([]byte{0xee}, 40)...)
	before := bytes.Clone(whole)
	return whole[:len(p)], func() bool { return bytes.Equal(whole, before) }
}

// scrawl writes over the bytes and their spare room.
func scrawl(p []byte) {
	p = p[:cap(p)]
	for i := range p {
		p[i] ^= 0x5a
	}
}

// What is handed in stays as it is, and what is answered shares no memory with it, nor with another list or answer.
func TestMemory_ArgumentsAndAnswers(t *testing.T) {
	const w = 1
	r := rand.New(rand.NewSource(187))
	l := newLedger(t, r, w, 6)
	goodSince, goodOld, goodNow := l.since(3, 6), l.entry(1, 3), otherEntry(t, r, w, l.entry(1, 6), 1)
	key := keyReceipt(t, w, "a", api.KeyProof{Pairs: []api.Pair{{Key: []byte("a"), Value: []byte("v")}}})
	var other proof.Receipt
	for try := 0; other.Kind == 0; try++ {
		s := keyReceipt(t, w, "a", api.KeyProof{Pairs: []api.Pair{{Key: []byte("a"), Value: []byte("w" + strconv.Itoa(try))}}})
		if s.Root == key.Root {
			other = s
		}
	}
	beginning := sinceReceipt(t, r, w, 3, 7, nil)
	second := beginning
	for second.Old.Log == beginning.Old.Log || second.Root != beginning.Root {
		second = sinceReceipt(t, r, w, 3, 7, nil)
	}
	for i, receipts := range [][]proof.Receipt{{l.entry(1, 6), goodNow}, {key, other}, {beginning, second}, {goodSince, goodOld, goodNow}} {
		var checks []func() bool
		var claims []api.Claim
		var given [][]byte
		for _, s := range receipts {
			c, p := shown(t, w, s)
			for _, field := range []*[]byte{&c.Key, &c.Value, &c.Entry.Key, &c.Entry.Value, &p} {
				q, check := room(*field)
				*field, checks = q, append(checks, check)
			}
			claims, given = append(claims, c), append(given, p)
		}
		call := func() ([]byte, []byte) {
			t.Helper()
			if i == 3 {
				x, y, e := clash.Rewrite(w, claims[0], claims[1], claims[2], given[0], given[1], given[2])
				judge(t, w, x, y, e, api.OK)
				return x, y
			}
			x, y, e := clash.Find(w, claims[0], claims[1], given[0], given[1])
			judge(t, w, x, y, e, api.OK)
			return x, y
		}
		x, y := call()
		wasX, wasY := bytes.Clone(x), bytes.Clone(y)
		a, b := call()
		if !bytes.Equal(a, x) || !bytes.Equal(b, y) {
			t.Errorf("case %d: two answers of one call are unlike", i)
		}
		scrawl(a)
		if !bytes.Equal(b, y) || !bytes.Equal(x, wasX) || !bytes.Equal(y, wasY) {
			t.Errorf("case %d: answers share memory", i)
		}
		scrawl(b)
		clash.Conflict(claims[0], claims[1])
		clash.Shows(w, given[0], given[1])
		for _, check := range checks {
			if !check() {
				t.Fatalf("case %d: what was handed in has changed", i)
			}
		}
		for _, p := range given {
			scrawl(p)
		}
		if !bytes.Equal(x, wasX) || !bytes.Equal(y, wasY) {
			t.Errorf("case %d: an answer hangs on what was handed in", i)
		}
	}
}

// Where several places have two unlike inputs of one digest, the same two are answered each time.
func TestP2_SeveralPlaces(t *testing.T) {
	const w = 1
	r := rand.New(rand.NewSource(1880))
	base := entryReceipt(t, w, anyEntry(r), 3, 9, anyDigests(r, w, inclusionCount(3, 9)))
	other := sealedAs(w, base.Root, func() proof.Receipt {
		s := otherEntry(t, r, w, base, 0)
		s.Root.Map = anyDigest(r, w)
		return s
	})
	a, p := shown(t, w, base)
	b, q := shown(t, w, other)
	x, y, e := clash.Find(w, a, b, p, q)
	judge(t, w, x, y, e, api.OK)
	for range 60 {
		if i, j, _ := clash.Find(w, a, b, p, q); !bytes.Equal(i, x) || !bytes.Equal(j, y) {
			t.Fatalf("%x and %x, and then %x and %x", x, y, i, j)
		}
	}
}

// What is answered is the same each time, however goroutines run.
func TestP2_ManyAtATime(t *testing.T) {
	const w = 1
	r := rand.New(rand.NewSource(188))
	l := newLedger(t, r, w, 9)
	a, p := shown(t, w, l.entry(3, 9))
	b, q := shown(t, w, otherEntry(t, r, w, l.entry(3, 9), 0))
	since, s := shown(t, w, l.since(5, 9))
	old, u := shown(t, w, l.entry(3, 5))
	x, y, e := clash.Find(w, a, b, p, q)
	judge(t, w, x, y, e, api.OK)
	i, j, f := clash.Rewrite(w, since, old, b, s, u, q)
	judge(t, w, i, j, f, api.OK)
	var group sync.WaitGroup
	for at := range 16 {
		group.Go(func() {
			for range 30 {
				c, d, e := clash.Find(w, a, b, p, q)
				g, h, f := clash.Rewrite(w, since, old, b, s, u, q)
				if e != api.OK || f != api.OK || !bytes.Equal(c, x) || !bytes.Equal(d, y) || !bytes.Equal(g, i) || !bytes.Equal(h, j) {
					t.Errorf("goroutine %d: %d, %d", at, e, f)
				}
			}
		})
	}
	group.Wait()
}

func TestP18_Examples(t *testing.T) {
	const w = 1
	e := api.Claim{Kind: 1, Root: api.Digest{7}, Index: 3, Entry: api.Entry{Kind: 1, Key: []byte("k"), Value: []byte("v")}}
	f := e
	f.Entry.Value = []byte("w")
	g, h := f, f
	g.Index, h.Root = 4, api.Digest{8}
	if !clash.Conflict(e, f) || clash.Conflict(e, g) || clash.Conflict(e, h) || clash.Conflict(e, e) {
		t.Error("example 1")
	}
	k := api.Claim{Kind: 2, Root: api.Digest{7}, Key: []byte("k"), Value: []byte("v"), Present: true}
	for _, value := range []string{"", "v", "w"} {
		none := api.Claim{Kind: 2, Root: api.Digest{7}, Key: []byte("k"), Value: []byte(value)}
		if !clash.Conflict(k, none) || clash.Conflict(none, api.Claim{Kind: 2, Root: api.Digest{7}, Key: []byte("k")}) {
			t.Error("example 2")
		}
	}
	one := api.Entry{Kind: api.Put, Key: []byte("k"), Value: []byte("v")}
	leaf := leafOf(t, w, one)
	two := one
	for i := 0; ; i++ {
		two.Value = []byte(strconv.Itoa(i))
		if leafOf(t, w, two) == leaf {
			break
		}
	}
	root := api.Root{Size: 1, Log: leaf, Map: cutSum(w, []byte{5})}
	first, p := shown(t, w, proof.Receipt{Kind: 1, Root: root, Entry: one})
	second, q := shown(t, w, proof.Receipt{Kind: 1, Root: root, Entry: two})
	x, y, fault := clash.Find(w, first, second, p, q)
	m, _ := entry.Encode(one)
	n, _ := entry.Encode(two)
	if fault != api.OK || !bytes.Equal(x, digest.LeafInput(m)) || !bytes.Equal(y, digest.LeafInput(n)) {
		t.Errorf("example 3: %x, %x, %d", x, y, fault)
	}
	if find(t, w, first, first, p, p) != api.ErrNone || find(t, w, first, second, p, p) != api.ErrProof || find(t, 0, first, second, p, q) != api.ErrArg || clash.Shows(4, x, x) {
		t.Error("example 4")
	}
}

// Of any claims and bytes a call ends, with what the words say.
func FuzzAsTheWordsSay(f *testing.F) {
	r := rand.New(rand.NewSource(189))
	for w := 1; w <= 2; w++ {
		l := newLedger(f, r, w, 5)
		for _, s := range []proof.Receipt{l.entry(1, 5), l.entry(1, 3), l.since(3, 5), l.since(4, 5), keyReceipt(f, w, "a", anyPath(r, w, "a"))} {
			_, p := shown(f, w, s)
			for _, s := range []proof.Receipt{l.entry(1, 5), l.since(3, 5), keyReceipt(f, w, "a", anyPath(r, w, "a"))} {
				_, q := shown(f, w, s)
				f.Add(w, p, q, []byte("v"))
			}
		}
	}
	f.Fuzz(func(t *testing.T, w int, p, q, value []byte) {
		a, _ := proof.Claimed(w, p)
		b, _ := proof.Claimed(w, q)
		find(t, w, a, b, p, q)
		c := b
		c.Entry.Value, c.Value = value, value
		find(t, w, a, c, p, q)
		find(t, w, b, c, q, q)
		rewrite(t, w, a, b, c, p, q, q)
		rewrite(t, w, a, c, b, p, q, q)
	})
}
