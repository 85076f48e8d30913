package mtree_test

import (
	"crypto/sha256"
	"encoding/hex"
	"math"
	"math/rand"
	"slices"
	"strings"
	"sync"
	"testing"

	"notary/api"
	"notary/digest"
	"notary/mtree"
)

// leafAt answers the leaf number i of a row, of the width w; unlike ones for unlike numbers, as far as the width has them.
func leafAt(w, i int) api.Digest {
	whole := sha256.Sum256([]byte{byte(i >> 16), byte(i >> 8), byte(i), 'l'})
	var d api.Digest
	copy(d[:w], whole[:])
	return d
}

func leavesOf(w, n int) []api.Digest {
	list := make([]api.Digest, n)
	for i := range list {
		list[i] = leafAt(w, i)
	}
	return list
}

// cutSum is the digest of a text, made by another SHA-256.
func cutSum(w int, p []byte) api.Digest {
	whole := sha256.Sum256(p)
	var d api.Digest
	copy(d[:w], whole[:])
	return d
}

// wordsD is P10.4's words: the digest of these leaves.
func wordsD(w int, leaves []api.Digest) api.Digest {
	switch len(leaves) {
	case 0:
		return cutSum(w, nil)
	case 1:
		return leaves[0]
	}
	k := 1
	for 2*k < len(leaves) {
		k *= 2
	}
	l, r := wordsD(w, leaves[:k]), wordsD(w, leaves[k:])
	return cutSum(w, slices.Concat([]byte{1}, l[:w], r[:w]))
}

func newTree(t *testing.T, w int) *mtree.Tree {
	t.Helper()
	tree, e := mtree.New(w)
	if e != api.OK || tree == nil {
		t.Fatalf("New(%d): %v, %d", w, tree, e)
	}
	return tree
}

func grow(t *testing.T, tree *mtree.Tree, leaves ...api.Digest) *mtree.Tree {
	t.Helper()
	grown, e := tree.Append(leaves...)
	if e != api.OK || grown == nil {
		t.Fatalf("Append of %d leaves to %d: %v, %d", len(leaves), tree.Size(), grown, e)
	}
	return grown
}

func treeOf(t *testing.T, w int, leaves []api.Digest) *mtree.Tree {
	t.Helper()
	return grow(t, newTree(t, w), leaves...)
}

// holds fails unless the tree has this width and these leaves, and their root.
func holds(t *testing.T, tree *mtree.Tree, w int, leaves []api.Digest) {
	t.Helper()
	n := uint64(len(leaves))
	if tree.Width() != w || tree.Size() != n {
		t.Fatalf("a tree of the width %d and the size %d, want %d and %d", tree.Width(), tree.Size(), w, n)
	}
	for i, want := range leaves {
		if d, e := tree.Leaf(uint64(i)); e != api.OK || d != want {
			t.Fatalf("size %d: Leaf(%d) = %x, %d, want %x", n, i, d, e, want)
		}
	}
	if d, e := tree.Leaf(n); e != api.ErrRange || d != (api.Digest{}) {
		t.Fatalf("size %d: Leaf(%d) = %x, %d", n, n, d, e)
	}
	if d, e := tree.Root(n); e != api.OK || d != wordsD(w, leaves) {
		t.Fatalf("size %d: Root(%d) = %x, %d, want %x", n, n, d, e, wordsD(w, leaves))
	}
}

// holdsAll fails unless the tree also answers each Range and each Root as the words say.
func holdsAll(t *testing.T, tree *mtree.Tree, w int, leaves []api.Digest) {
	t.Helper()
	holds(t, tree, w, leaves)
	for lo := range len(leaves) + 1 {
		for hi := lo; hi <= len(leaves); hi++ {
			d, e := tree.Range(uint64(lo), uint64(hi))
			if want := wordsD(w, leaves[lo:hi]); e != api.OK || d != want {
				t.Fatalf("width %d, size %d: Range(%d, %d) = %x, %d, want %x", w, len(leaves), lo, hi, d, e, want)
			}
		}
		d, e := tree.Root(uint64(lo))
		if want := wordsD(w, leaves[:lo]); e != api.OK || d != want {
			t.Fatalf("width %d, size %d: Root(%d) = %x, %d, want %x", w, len(leaves), lo, d, e, want)
		}
	}
}

func exampleLeaves(t *testing.T) []api.Digest {
	t.Helper()
	var list []api.Digest
	for _, text := range []string{"", "00", "10", "2021", "3031", "40414243", "5051525354555657", "606162636465666768696a6b6c6d6e6f"} {
		p, err := hex.DecodeString(text)
		if err != nil {
			t.Fatal(err)
		}
		d, e := digest.Leaf(32, p)
		if e != api.OK {
			t.Fatalf("the leaf of %s: %d", text, e)
		}
		list = append(list, d)
	}
	return list
}

func begins(d api.Digest, text string) bool { return strings.HasPrefix(hex.EncodeToString(d[:]), text) }

func TestP10_1_New(t *testing.T) {
	for w := 1; w <= api.MaxWidth; w++ {
		tree, e := mtree.New(w)
		if e != api.OK || tree.Width() != w || tree.Size() != 0 {
			t.Errorf("New(%d): width %d, size %d, %d", w, tree.Width(), tree.Size(), e)
		}
		holdsAll(t, tree, w, nil)
		if other, _ := mtree.New(w); other == tree {
			t.Errorf("New(%d) answers one tree twice", w)
		}
	}
	for _, w := range []int{0, -1, 33, 34, 64, 256 + 4, 1<<32 + 4, math.MaxInt, math.MinInt} {
		if tree, e := mtree.New(w); tree != nil || e != api.ErrArg {
			t.Errorf("New(%d): %v, %d", w, tree, e)
		}
	}
}

func TestP10_1_WidthAndSize(t *testing.T) {
	for _, w := range []int{1, 2, 31, 32} {
		tree := newTree(t, w)
		for n := range 70 {
			if tree.Width() != w || tree.Size() != uint64(n) {
				t.Errorf("width %d, size %d: told %d and %d", w, n, tree.Width(), tree.Size())
			}
			tree = grow(t, tree, leafAt(w, n))
		}
	}
}

func TestP10_2_TheTreeStays(t *testing.T) {
	leaves := leavesOf(8, 40)
	for n := range 33 {
		tree := treeOf(t, 8, leaves[:n])
		for more := range 8 {
			holdsAll(t, grow(t, tree, leaves[n:n+more]...), 8, leaves[:n+more])
			holds(t, tree, 8, leaves[:n])
		}
		holdsAll(t, tree, 8, leaves[:n])
	}
}

// Trees that grow out of one tree have their own leaves behind those that they share, at whatever size they part.
func TestP10_2_Forks(t *testing.T) {
	for n := range 20 {
		trunk := leavesOf(4, n)
		tree := treeOf(t, 4, trunk)
		var forks []*mtree.Tree
		var rows [][]api.Digest
		for fork := range 6 {
			var own []api.Digest
			for i := range 1 + fork*2 {
				own = append(own, leafAt(4, 1000*(fork+1)+i))
			}
			forks = append(forks, grow(t, tree, own...))
			rows = append(rows, slices.Concat(trunk, own))
		}
		for i, fork := range forks {
			holdsAll(t, fork, 4, rows[i])
		}
		holdsAll(t, tree, 4, trunk)
	}
}

func TestP10_2_NoLeaves(t *testing.T) {
	for n := range 12 {
		leaves := leavesOf(3, n)
		tree := treeOf(t, 3, leaves)
		for _, none := range [][]api.Digest{nil, {}, leaves[:0]} {
			same := grow(t, tree, none...)
			holdsAll(t, same, 3, leaves)
			holdsAll(t, grow(t, same, leafAt(3, 99)), 3, append(slices.Clone(leaves), leafAt(3, 99)))
			holdsAll(t, same, 3, leaves)
		}
		holdsAll(t, grow(t, tree), 3, leaves)
	}
}

func TestP10_2_LeavesOfAnotherWidth(t *testing.T) {
	for _, w := range []int{1, 2, 4, 16, 31} {
		leaves := leavesOf(w, 5)
		tree := treeOf(t, w, leaves)
		for place := w; place < api.MaxWidth; place++ {
			for _, v := range []byte{1, 0x80, 0xff} {
				wrong := leafAt(w, 7)
				wrong[place] = v
				for at := range 4 {
					row := leavesOf(w, 4)
					row[at] = wrong
					if grown, e := tree.Append(row...); grown != nil || e != api.ErrForm {
						t.Errorf("width %d, byte %d is %d, leaf %d: %v, %d", w, place, v, at, grown, e)
					}
				}
				if grown, e := tree.Append(wrong); grown != nil || e != api.ErrForm {
					t.Errorf("width %d, byte %d is %d, alone: %v, %d", w, place, v, grown, e)
				}
			}
		}
		holdsAll(t, tree, w, leaves)
		holdsAll(t, grow(t, tree, leaves...), w, slices.Concat(leaves, leaves))
	}
}

// Any digest of the width will do: noughts, those of smaller widths, one leaf again and again, and the digest of an inner node.
func TestP10_2_AnyDigestOfTheWidth(t *testing.T) {
	for _, w := range []int{1, 2, 17, 32} {
		var row []api.Digest
		for place := range w {
			var d api.Digest
			d[place] = 0xff
			row = append(row, d)
		}
		row = append(row, api.Digest{}, api.Digest{}, api.Digest{}, leafAt(1, 3), leafAt(1, 3), cutSum(w, nil))
		row = append(row, wordsD(w, row[:2]), wordsD(w, row))
		holdsAll(t, treeOf(t, w, row), w, row)
	}
}

func TestP10_3_Leaf(t *testing.T) {
	for _, n := range []int{0, 1, 2, 3, 7, 8, 9, 63, 64, 65, 100} {
		leaves := leavesOf(5, n)
		tree := treeOf(t, 5, leaves)
		holds(t, tree, 5, leaves)
		for _, i := range []uint64{uint64(n), uint64(n) + 1, 1 << 31, 1 << 32, 1<<63 - 1, 1 << 63, math.MaxUint64} {
			if d, e := tree.Leaf(i); e != api.ErrRange || d != (api.Digest{}) {
				t.Errorf("size %d: Leaf(%d) = %x, %d", n, i, d, e)
			}
		}
	}
}

func TestP10_4_EachRange(t *testing.T) {
	for _, w := range []int{1, 2, 20, 32} {
		for _, n := range []int{1, 2, 3, 4, 5, 6, 7, 8, 9, 15, 16, 17, 31, 32, 33} {
			leaves := leavesOf(w, n)
			holdsAll(t, treeOf(t, w, leaves), w, leaves)
		}
	}
	leaves := leavesOf(6, 70)
	holdsAll(t, treeOf(t, 6, leaves), 6, leaves)
}

func TestP10_4_RangesOfAGreatTree(t *testing.T) {
	r := rand.New(rand.NewSource(104))
	leaves := leavesOf(9, 5000)
	tree := treeOf(t, 9, leaves)
	for range 300 {
		hi := r.Intn(len(leaves) + 1)
		lo := r.Intn(hi + 1)
		switch r.Intn(3) {
		case 0:
			lo = 0
		case 1:
			lo = lo >> 5 << 5
		}
		d, e := tree.Range(uint64(lo), uint64(hi))
		if want := wordsD(9, leaves[lo:hi]); e != api.OK || d != want {
			t.Errorf("Range(%d, %d) = %x, %d, want %x", lo, hi, d, e, want)
		}
	}
}

func TestP10_4_NoSuchRange(t *testing.T) {
	for _, n := range []int{0, 1, 8, 11} {
		tree := treeOf(t, 7, leavesOf(7, n))
		size := uint64(n)
		for _, c := range [][2]uint64{
			{1, 0}, {size + 1, size}, {size, size + 1}, {0, size + 1}, {size + 1, size + 1}, {size + 2, size + 1}, {0, 1 << 63}, {0, math.MaxUint64}, {math.MaxUint64, 0}, {math.MaxUint64, math.MaxUint64}, {math.MaxUint64 - 1, math.MaxUint64}, {math.MaxUint64, size}, {1 << 63, 1<<63 + 1},
		} {
			if d, e := tree.Range(c[0], c[1]); e != api.ErrRange || d != (api.Digest{}) {
				t.Errorf("size %d: Range(%d, %d) = %x, %d", n, c[0], c[1], d, e)
			}
		}
		for lo := range size + 1 {
			for hi := range lo {
				if d, e := tree.Range(lo, hi); e != api.ErrRange || d != (api.Digest{}) {
					t.Errorf("size %d: Range(%d, %d) = %x, %d", n, lo, hi, d, e)
				}
			}
		}
	}
}

func TestP10_5_Root(t *testing.T) {
	leaves := leavesOf(32, 200)
	tree := treeOf(t, 32, leaves)
	for n := range 201 {
		d, e := tree.Root(uint64(n))
		if want := wordsD(32, leaves[:n]); e != api.OK || d != want {
			t.Errorf("Root(%d) = %x, %d, want %x", n, d, e, want)
		}
	}
	for _, n := range []uint64{201, 256, 1 << 32, 1 << 63, math.MaxUint64} {
		if d, e := tree.Root(n); e != api.ErrRange || d != (api.Digest{}) {
			t.Errorf("Root(%d) = %x, %d", n, d, e)
		}
	}
}

// A root of the first n leaves is the same in each tree that has them, be it of that size or of another.
func TestP10_5_RootsOfABeginningStay(t *testing.T) {
	tree := newTree(t, 16)
	var roots []api.Digest
	for n := range 130 {
		d, _ := tree.Root(uint64(n))
		roots = append(roots, d)
		for m, want := range roots {
			if d, e := tree.Root(uint64(m)); e != api.OK || d != want {
				t.Fatalf("size %d: Root(%d) = %x, %d, was %x", n, m, d, e, want)
			}
		}
		tree = grow(t, tree, leafAt(16, n))
	}
}

// Each way to part eleven leaves into Appends.
func TestP10_6_HoweverManyAtATime(t *testing.T) {
	leaves := leavesOf(2, 11)
	for cuts := range 1 << 10 {
		tree := newTree(t, 2)
		from := 0
		for to := 1; to <= 11; to++ {
			if to == 11 || cuts>>(to-1)&1 == 1 {
				tree = grow(t, tree, leaves[from:to]...)
				from = to
			}
		}
		holds(t, tree, 2, leaves)
		if cuts%31 == 0 {
			holdsAll(t, tree, 2, leaves)
		}
	}
}

func TestP10_6_GreatTrees(t *testing.T) {
	leaves := leavesOf(12, 3000)
	r := rand.New(rand.NewSource(106))
	for _, most := range []int{1, 2, 7, 64, 1000, 3000} {
		tree := newTree(t, 12)
		for from := 0; from < len(leaves); {
			to := min(len(leaves), from+r.Intn(most+1))
			tree = grow(t, tree, leaves[from:to]...)
			from = to
		}
		holds(t, tree, 12, leaves)
	}
}

// Trees of one past and of many, each asked again when all have been made.
func TestP10_AsTheWordsSay(t *testing.T) {
	for seed := range 40 {
		r := rand.New(rand.NewSource(int64(seed)))
		w := 1 + r.Intn(32)
		trees, rows := []*mtree.Tree{newTree(t, w)}, [][]api.Digest{nil}
		for range 30 {
			from := r.Intn(len(trees))
			more := make([]api.Digest, r.Intn(12))
			for i := range more {
				more[i] = leafAt(w, r.Intn(1<<20))
			}
			trees = append(trees, grow(t, trees[from], more...))
			rows = append(rows, slices.Concat(rows[from], more))
		}
		for i, tree := range trees {
			holds(t, tree, w, rows[i])
			for range 20 {
				hi := r.Intn(len(rows[i]) + 1)
				lo := r.Intn(hi + 1)
				d, e := tree.Range(uint64(lo), uint64(hi))
				if want := wordsD(w, rows[i][lo:hi]); e != api.OK || d != want {
					t.Fatalf("seed %d, tree %d: Range(%d, %d) = %x, %d, want %x", seed, i, lo, hi, d, e, want)
				}
			}
		}
	}
}

func TestP10_Examples(t *testing.T) {
	leaves := exampleLeaves(t)
	tree := treeOf(t, 32, leaves)
	for n, want := range []string{"e3b0c44298fc1c149afbf4c8996fb92427ae41e4649b934ca495991b7852b855", "6e340b9cffb37a98", "fac54203", "aeb6bcfe", "d37ee418", "4e3bbb1f", "76e67dad", "ddb89be4", "5dc9da79a70659a9ad559cb701ded9a2ab9d823aad2f4960cfe370eff4604328"} {
		if d, e := tree.Root(uint64(n)); e != api.OK || !begins(d, want) {
			t.Errorf("Root(%d) = %x, %d, want %s", n, d, e, want)
		}
	}
	at := func(lo, hi uint64) api.Digest {
		d, e := tree.Range(lo, hi)
		if e != api.OK {
			t.Errorf("Range(%d, %d): %d", lo, hi, e)
		}
		return d
	}
	none, _ := tree.Root(0)
	first, _ := tree.Leaf(0)
	one, _ := tree.Root(1)
	four, _ := tree.Root(4)
	two, _ := digest.Node(32, leaves[2], leaves[3])
	odd, _ := digest.Node(32, at(1, 3), leaves[3])
	if first != one || at(0, 4) != four || at(4, 4) != none || at(2, 4) != two || !begins(two, "5f083f0a") || at(1, 4) != odd {
		t.Errorf("%x, %x, %x, %x, %x", first, at(0, 4), at(4, 4), at(2, 4), at(1, 4))
	}
	if _, e := tree.Range(3, 2); e != api.ErrRange {
		t.Errorf("Range(3, 2): %d", e)
	}
	if _, e := tree.Range(0, 9); e != api.ErrRange {
		t.Errorf("Range(0, 9): %d", e)
	}
	if _, e := tree.Leaf(8); e != api.ErrRange {
		t.Errorf("Leaf(8): %d", e)
	}
	if _, e := tree.Root(9); e != api.ErrRange {
		t.Errorf("Root(9): %d", e)
	}
	if grown, e := newTree(t, 4).Append(leaves[0]); grown != nil || e != api.ErrForm {
		t.Errorf("a digest of the width 32 to a tree of the width 4: %v, %d", grown, e)
	}
}

func TestP1_NoTree(t *testing.T) {
	var none *mtree.Tree
	if none.Width() != 0 || none.Size() != 0 {
		t.Errorf("width %d, size %d", none.Width(), none.Size())
	}
	for _, leaves := range [][]api.Digest{nil, {{}}, {leafAt(32, 1)}} {
		if tree, e := none.Append(leaves...); tree != nil || e != api.ErrNone {
			t.Errorf("Append of %d leaves: %v, %d", len(leaves), tree, e)
		}
	}
	for _, i := range []uint64{0, 1, math.MaxUint64} {
		if d, e := none.Leaf(i); d != (api.Digest{}) || e != api.ErrNone {
			t.Errorf("Leaf(%d) = %x, %d", i, d, e)
		}
		if d, e := none.Root(i); d != (api.Digest{}) || e != api.ErrNone {
			t.Errorf("Root(%d) = %x, %d", i, d, e)
		}
		for _, hi := range []uint64{0, 1, math.MaxUint64} {
			if d, e := none.Range(i, hi); d != (api.Digest{}) || e != api.ErrNone {
				t.Errorf("Range(%d, %d) = %x, %d", i, hi, d, e)
			}
		}
	}
}

// Of a tree that New has not made nothing is promised but that its calls end, and that beside an error there is nothing.
func TestP1_NotMadeByNew(t *testing.T) {
	made := treeOf(t, 3, leavesOf(3, 5))
	copied := *made
	for _, tree := range []*mtree.Tree{{}, new(mtree.Tree), &copied} {
		tree.Width()
		tree.Size()
		for _, leaves := range [][]api.Digest{nil, {{}}, {{}, {}, {}}, {leafAt(3, 1)}, {leafAt(32, 1)}} {
			grown, e := tree.Append(leaves...)
			if e != api.OK && grown != nil {
				t.Errorf("Append of %d leaves: a tree beside %d", len(leaves), e)
			}
			grown.Root(grown.Size())
		}
		for _, i := range []uint64{0, 1, 4, 5, 6, math.MaxUint64} {
			if d, e := tree.Leaf(i); e != api.OK && d != (api.Digest{}) {
				t.Errorf("Leaf(%d) = %x, %d", i, d, e)
			}
			if d, e := tree.Root(i); e != api.OK && d != (api.Digest{}) {
				t.Errorf("Root(%d) = %x, %d", i, d, e)
			}
			for _, hi := range []uint64{0, 1, 3, 5, 6, math.MaxUint64} {
				if d, e := tree.Range(i, hi); e != api.OK && d != (api.Digest{}) {
					t.Errorf("Range(%d, %d) = %x, %d", i, hi, d, e)
				}
			}
		}
	}
	holdsAll(t, made, 3, leavesOf(3, 5))
}

func TestMemory_TheLeavesAreNeitherChangedNorKept(t *testing.T) {
	for n := range 10 {
		room := leavesOf(4, 20)
		tree := treeOf(t, 4, leavesOf(4, n))
		grown := grow(t, tree, room[:9]...)
		if !slices.Equal(room, leavesOf(4, 20)) {
			t.Fatalf("size %d: the leaves or their spare room changed", n)
		}
		for i := range room {
			room[i] = leafAt(4, 777)
		}
		want := slices.Concat(leavesOf(4, n), leavesOf(4, 9))
		holdsAll(t, grown, 4, want)
		further := grow(t, grown, room[:3]...)
		holdsAll(t, grown, 4, want)
		holdsAll(t, further, 4, slices.Concat(want, room[:3]))
		if room[0] != leafAt(4, 777) || room[19] != leafAt(4, 777) {
			t.Fatalf("size %d: a tree writes into what was handed in", n)
		}
	}
}

// P2: many goroutines ask one tree, and grow trees of their own out of it.
func TestP2_ManyAtATime(t *testing.T) {
	trunk := leavesOf(10, 29)
	tree := treeOf(t, 10, trunk)
	var group sync.WaitGroup
	for i := range 16 {
		group.Go(func() {
			own := tree
			row := slices.Clone(trunk)
			for j := range 40 {
				more := []api.Digest{leafAt(10, 100*i+j), leafAt(10, j)}[:j%3]
				grown, e := own.Append(more...)
				if e != api.OK {
					t.Errorf("goroutine %d: Append: %d", i, e)
					return
				}
				own, row = grown, append(row, more...)
				lo, hi := j%len(trunk), len(trunk)
				d, e := tree.Range(uint64(lo), uint64(hi))
				root, f := own.Root(own.Size())
				if e != api.OK || f != api.OK || d != wordsD(10, trunk[lo:hi]) || root != wordsD(10, row) {
					t.Errorf("goroutine %d: Range(%d, %d) = %x, %d; Root(%d) = %x, %d", i, lo, hi, d, e, len(row), root, f)
				}
			}
		})
	}
	group.Wait()
	holdsAll(t, tree, 10, trunk)
}
