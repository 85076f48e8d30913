package replay_test

import (
	"bytes"
	"fmt"
	"maps"
	"math"
	"math/rand"
	"slices"
	"strconv"
	"strings"
	"sync"
	"testing"

	"notary/api"
	"notary/digest"
	"notary/disk"
	"notary/entry"
	"notary/hamt"
	"notary/mtree"
	"notary/replay"
	"notary/segment"
	"notary/snap"
	"notary/wal"
)

func put(key, value string) api.Entry {
	return api.Entry{Kind: api.Put, Key: []byte(key), Value: []byte(value)}
}

func del(key string) api.Entry { return api.Entry{Kind: api.Delete, Key: []byte(key)} }

func list(entries ...api.Entry) []api.Entry { return entries }

func batch(first uint64, entries ...api.Entry) api.Batch {
	return api.Batch{First: first, Entries: entries}
}

func sameEntry(a, b api.Entry) bool {
	return a.Kind == b.Kind && bytes.Equal(a.Key, b.Key) && bytes.Equal(a.Value, b.Value)
}

// bookOf is the map of the entries.
func bookOf(entries []api.Entry) map[string]string {
	b := map[string]string{}
	for _, e := range entries {
		if e.Kind == api.Put {
			b[string(e.Key)] = string(e.Value)
		} else {
			delete(b, string(e.Key))
		}
	}
	return b
}

// wordsRoot is R(n) of n entries: a tree of their leaves, made at once, and a map of what is left of them, put there by key.
func wordsRoot(t testing.TB, w int, entries []api.Entry) api.Root {
	t.Helper()
	tree, e := mtree.New(w)
	if e != api.OK {
		t.Fatalf("mtree.New(%d): %d", w, e)
	}
	var leaves []api.Digest
	for _, own := range entries {
		p, _ := entry.Encode(own)
		leaf, _ := digest.Leaf(w, p)
		leaves = append(leaves, leaf)
	}
	tree, _ = tree.Append(leaves...)
	m, _ := hamt.New(w)
	b := bookOf(entries)
	for _, key := range slices.Sorted(maps.Keys(b)) {
		m, _ = m.Put([]byte(key), []byte(b[key]))
	}
	log, _ := tree.Root(tree.Size())
	return api.Root{Size: uint64(len(entries)), Log: log, Map: m.Root()}
}

// cut answers the entries in batches of at most so many, at random.
func cut(r *rand.Rand, entries []api.Entry, most int) []api.Batch {
	var batches []api.Batch
	for at := 0; at < len(entries); {
		n := 1 + r.Intn(min(most, len(entries)-at))
		batches = append(batches, batch(uint64(at), entries[at:at+n]...))
		at += n
	}
	return batches
}

// joined answers the entries of all batches.
func joined(batches []api.Batch) []api.Entry {
	var all []api.Entry
	for _, b := range batches {
		all = append(all, b.Entries...)
	}
	return all
}

func anyEntries(r *rand.Rand, n int) []api.Entry {
	var all []api.Entry
	for range n {
		key := "k" + strconv.Itoa(r.Intn(8))
		if r.Intn(3) == 0 {
			all = append(all, del(key))
		} else {
			all = append(all, put(key, strconv.Itoa(r.Intn(50))))
		}
	}
	return all
}

// built answers the ledger of the batches.
func built(t testing.TB, w int, batches []api.Batch) *snap.Snap {
	t.Helper()
	s, e := replay.Build(w, batches)
	if e != api.OK || s == nil {
		t.Fatalf("Build(%d) of %d batches: %v, %d", w, len(batches), s, e)
	}
	return s
}

func rootsOf(t testing.TB, w int, entries []api.Entry) []api.Root {
	t.Helper()
	roots, e := replay.Roots(w, entries)
	if e != api.OK || len(roots) != len(entries)+1 {
		t.Fatalf("Roots(%d) of %d entries: %d, %d", w, len(entries), len(roots), e)
	}
	return roots
}

// holds fails unless the ledger is the one of these batches.
func holds(t testing.TB, s *snap.Snap, w int, batches []api.Batch) {
	t.Helper()
	entries := joined(batches)
	if s == nil || s.Width() != w || s.Root() != wordsRoot(t, w, entries) {
		t.Fatalf("width %d: the ledger of %d batches: %x", w, len(batches), s.Root())
	}
	sizes := []uint64{0}
	for _, b := range batches {
		sizes = append(sizes, b.First+uint64(len(b.Entries)))
	}
	if !slices.Equal(s.Sizes(), sizes) {
		t.Fatalf("width %d: Sizes %v, want %v", w, s.Sizes(), sizes)
	}
	for _, n := range sizes {
		if r, e := s.Past(n); e != api.OK || r != wordsRoot(t, w, entries[:n]) {
			t.Fatalf("width %d: Past(%d): %x, %d", w, n, r, e)
		}
	}
	for i, want := range entries {
		if got, e := s.Entry(uint64(i)); e != api.OK || !sameEntry(got, want) {
			t.Fatalf("width %d: Entry(%d): %q, %d", w, i, got, e)
		}
	}
	b := bookOf(entries)
	for i := range 9 {
		key := "k" + strconv.Itoa(i)
		want, has := b[key]
		if value, ok, e := s.Get([]byte(key)); e != api.OK || ok != has || string(value) != want {
			t.Fatalf("width %d: Get(%q): %q, %v, %d", w, key, value, ok, e)
		}
	}
}

// noWidths are numbers that are no width.
func noWidths() []int {
	return []int{0, -1, 33, 64, 256 + 4, 1<<32 + 4, math.MaxInt, math.MinInt}
}

func TestP20_1_Build(t *testing.T) {
	r := rand.New(rand.NewSource(201))
	for w := 1; w <= api.MaxWidth; w++ {
		holds(t, built(t, w, nil), w, nil)
		holds(t, built(t, w, []api.Batch{}), w, nil)
		for _, most := range []int{1, 4, 30} {
			batches := cut(r, anyEntries(r, 30), most)
			holds(t, built(t, w, batches), w, batches)
		}
	}
	full := cut(r, anyEntries(r, 300), api.MaxBatch)
	full = append(full, batch(300, anyEntries(r, api.MaxBatch)...))
	holds(t, built(t, 4, full), 4, full)
}

// The first batch that Apply refuses decides, whatever stands behind it, and there is no ledger then.
func TestP20_1_TheFirstRefusedDecides(t *testing.T) {
	good := func(first uint64) api.Batch { return batch(first, put("a", "1"), del("b")) }
	odd := func(first uint64) api.Batch { return batch(first, put("a", "1"), api.Entry{Kind: 7}) }
	long := func(first uint64) api.Batch { return batch(first, put(strings.Repeat("k", api.MaxKey+1), "")) }
	many := func(first uint64) api.Batch {
		return batch(first, slices.Repeat(list(put("a", "1")), api.MaxBatch+1)...)
	}
	for _, c := range []struct {
		name    string
		batches []api.Batch
		want    api.Errno
	}{
		{"First 1", []api.Batch{good(1)}, api.ErrForm},
		{"the last First", []api.Batch{good(math.MaxUint64)}, api.ErrForm},
		{"a gap", []api.Batch{good(0), good(3)}, api.ErrForm},
		{"twice the same", []api.Batch{good(0), good(0)}, api.ErrForm},
		{"one that reaches back", []api.Batch{good(0), good(1)}, api.ErrForm},
		{"the wrong way round", []api.Batch{good(2), good(0)}, api.ErrForm},
		{"no entries", []api.Batch{{}}, api.ErrForm},
		{"no entries at the end", []api.Batch{good(0), {First: 2}}, api.ErrForm},
		{"no entries between", []api.Batch{good(0), {First: 2}, good(2)}, api.ErrForm},
		{"an odd kind", []api.Batch{odd(0)}, api.ErrForm},
		{"a long key", []api.Batch{long(0)}, api.ErrLong},
		{"a long key at another First", []api.Batch{long(5)}, api.ErrLong},
		{"65 entries", []api.Batch{good(0), many(2)}, api.ErrLong},
		{"odd ahead of long", []api.Batch{good(0), odd(2), long(4)}, api.ErrForm},
		{"a gap ahead of long", []api.Batch{good(0), good(4), long(2)}, api.ErrForm},
		{"long ahead of odd", []api.Batch{good(0), long(2), odd(4)}, api.ErrLong},
		{"odd first, all else right", []api.Batch{odd(0), good(0), good(2)}, api.ErrForm},
		{"the last one of many", []api.Batch{good(0), good(2), good(4), good(6), many(8)}, api.ErrLong},
	} {
		for _, w := range []int{1, 4, 32} {
			if s, e := replay.Build(w, c.batches); s != nil || e != c.want {
				t.Errorf("%s: %v, %d, want %d", c.name, s, e, c.want)
			}
		}
		for _, w := range noWidths() {
			if s, e := replay.Build(w, c.batches); s != nil || e != api.ErrArg {
				t.Errorf("%s, width %d: %v, %d", c.name, w, s, e)
			}
		}
	}
	for _, w := range noWidths() {
		for _, batches := range [][]api.Batch{nil, {good(0)}} {
			if s, e := replay.Build(w, batches); s != nil || e != api.ErrArg {
				t.Errorf("width %d, %d batches: %v, %d", w, len(batches), s, e)
			}
		}
	}
}

func TestP20_2_Roots(t *testing.T) {
	r := rand.New(rand.NewSource(202))
	for w := 1; w <= api.MaxWidth; w++ {
		for _, n := range []int{0, 1, 2, 7, 33} {
			entries := anyEntries(r, n)
			for i, root := range rootsOf(t, w, entries) {
				if root != wordsRoot(t, w, entries[:i]) {
					t.Fatalf("width %d: R(%d) of %d entries: %x", w, i, n, root)
				}
			}
		}
	}
}

// There may be more entries than a batch can have, and each may be at the limits.
func TestP20_2_ManyEntries(t *testing.T) {
	var entries []api.Entry
	for i := range 5 * api.MaxBatch {
		entries = append(entries, put(fmt.Sprintf("%064d", i%100), strings.Repeat("v", api.MaxValue)))
	}
	entries = append(entries, put("", ""), del(""), del("none"))
	roots := rootsOf(t, 2, entries)
	for _, n := range []int{0, 1, 63, 64, 65, 128, 129, len(entries) - 1, len(entries)} {
		if roots[n] != wordsRoot(t, 2, entries[:n]) {
			t.Errorf("R(%d): %x", n, roots[n])
		}
	}
}

// The least number of all entries' errors is answered, wherever they stand, and the width's ahead of it.
func TestP20_2_Errors(t *testing.T) {
	odd, long := api.Entry{Kind: 7}, put("a", strings.Repeat("v", api.MaxValue+1))
	wrongs := map[api.Errno][]api.Entry{
		api.ErrForm: {odd, {}, {Kind: api.Delete, Value: []byte("v")}, {Kind: 255}},
		api.ErrLong: {long, put(strings.Repeat("k", api.MaxKey+1), ""), {Kind: 7, Key: make([]byte, api.MaxKey+1)}, del(strings.Repeat("k", 1000))},
	}
	good := anyEntries(rand.New(rand.NewSource(203)), 70)
	refused := func(entries []api.Entry, want api.Errno) {
		t.Helper()
		if roots, e := replay.Roots(4, entries); len(roots) != 0 || e != want {
			t.Errorf("Roots: %d roots, %d, want %d", len(roots), e, want)
		}
		for _, w := range noWidths() {
			if roots, e := replay.Roots(w, entries); len(roots) != 0 || e != api.ErrArg {
				t.Errorf("Roots at the width %d: %d roots, %d", w, len(roots), e)
			}
		}
	}
	for want, entries := range wrongs {
		for _, wrong := range entries {
			for _, at := range []int{0, 1, 64, 70} {
				refused(slices.Insert(slices.Clone(good), at, wrong), want)
			}
		}
	}
	refused(list(odd, long), api.ErrLong)
	refused(list(long, odd), api.ErrLong)
	refused(slices.Concat(list(odd), good, list(long), good, list(odd)), api.ErrLong)
	refused(slices.Concat(list(long), good, list(odd)), api.ErrLong)
	for _, w := range noWidths() {
		for _, entries := range [][]api.Entry{nil, good} {
			if roots, e := replay.Roots(w, entries); len(roots) != 0 || e != api.ErrArg {
				t.Errorf("Roots at the width %d: %d roots, %d", w, len(roots), e)
			}
		}
	}
}

func made(t testing.TB, sector int) *disk.Disk { return from(t, sector, nil) }

func from(t testing.TB, sector int, files []disk.File) *disk.Disk {
	t.Helper()
	d, e := disk.From(sector, files)
	if e != api.OK {
		t.Fatalf("disk.From of %d files: %d", len(files), e)
	}
	return d
}

func sameFiles(a, b []disk.File) bool {
	return slices.EqualFunc(a, b, func(a, b disk.File) bool {
		return a.Name == b.Name && bytes.Equal(a.Bytes, b.Bytes) && a.Synced == b.Synced && a.Named == b.Named
	})
}

// recovered answers the log and the ledger of a disk that has both.
func recovered(t testing.TB, d *disk.Disk, w, limit int) (*wal.Log, *snap.Snap) {
	t.Helper()
	l, s, e := replay.Recover(d, w, limit)
	if e != api.OK || l == nil || s == nil {
		t.Fatalf("Recover(%d, %d): %v, %v, %d", w, limit, l, s, e)
	}
	return l, s
}

// sameLog tells whether two logs tell the same of themselves.
func sameLog(a, b *wal.Log) bool {
	return a.Next() == b.Next() && a.Epoch() == b.Epoch() && a.Segment() == b.Segment() && a.State() == b.State()
}

// written answers a disk on which a log of the width was handed the batches, a Sync behind each.
func written(t testing.TB, w, limit int, batches []api.Batch) *disk.Disk {
	t.Helper()
	d := made(t, 512)
	l, _, e := wal.Open(d, w, limit)
	if e != api.OK {
		t.Fatalf("wal.Open: %d", e)
	}
	for _, b := range batches {
		if l.Append(b.Entries) != api.OK || l.Sync() != api.OK {
			t.Fatalf("Append, Sync: %d", l.State())
		}
	}
	return d
}

func TestP20_3_Recover(t *testing.T) {
	r := rand.New(rand.NewSource(204))
	for _, w := range []int{1, 4, 32} {
		for _, limit := range []int{1, 60, 300, api.MaxLimit} {
			for _, n := range []int{0, 1, 20} {
				batches := cut(r, anyEntries(r, n), 5)
				d := written(t, w, limit, batches)
				twin := from(t, 512, d.Files())
				want, found, _ := wal.Open(twin, w, limit)
				l, s := recovered(t, d, w, limit)
				if !sameLog(l, want) || l.Next() != uint64(n) || len(found) != len(batches) {
					t.Fatalf("width %d, limit %d: a log with Next %d, Epoch %d", w, limit, l.Next(), l.Epoch())
				}
				holds(t, s, w, batches)
			}
		}
	}
}

// The log that Recover answers goes on where the ledger ends, and the ledger stays as it is.
func TestP20_3_TheLogGoesOn(t *testing.T) {
	r := rand.New(rand.NewSource(205))
	const w = 4
	for _, limit := range []int{1, 200} {
		d := made(t, 512)
		var batches []api.Batch
		for epoch := range uint64(6) {
			l, s := recovered(t, d, w, limit)
			if l.Epoch() != epoch+1 || l.Next() != s.Size() || l.State() != api.OK {
				t.Fatalf("epoch %d: %d, Next %d, Size %d", epoch, l.Epoch(), l.Next(), s.Size())
			}
			was := slices.Clone(batches)
			for range 3 {
				b := batch(l.Next(), anyEntries(r, 1+r.Intn(4))...)
				batches = append(batches, b)
				if l.Append(b.Entries) != api.OK || l.Sync() != api.OK {
					t.Fatalf("epoch %d: Append, Sync: %d", epoch, l.State())
				}
			}
			holds(t, s, w, was)
		}
		_, s := recovered(t, d, w, limit)
		holds(t, s, w, batches)
	}
}

// head answers the bytes of a segment's head of the width 4.
func head(number, epoch, first uint64) []byte {
	p, e := segment.EncodeHead(segment.Head{Number: number, Epoch: epoch, First: first, Width: 4})
	if e != api.OK {
		panic(e)
	}
	return p
}

// durable answers the file of the segment with the number, all of which is durable.
func durable(number uint64, pieces ...[]byte) disk.File {
	p := slices.Concat(pieces...)
	return disk.File{Name: segment.Name(number), Bytes: p, Synced: len(p), Named: true}
}

func TestP20_3_Errors(t *testing.T) {
	off := made(t, 512)
	off.Cut()
	corrupt := from(t, 512, []disk.File{durable(1, head(1, 1, 3))})
	for _, c := range []struct {
		name     string
		d        *disk.Disk
		w, limit int
		want     api.Errno
	}{
		{"no disk", nil, 4, 100, api.ErrNone},
		{"no disk, no width", nil, 0, 100, api.ErrArg},
		{"no disk, no limit", nil, 4, 0, api.ErrArg},
		{"a disk that was not made", &disk.Disk{}, 4, 100, api.ErrNone},
		{"width 0", made(t, 512), 0, 100, api.ErrArg},
		{"width 33", made(t, 512), 33, 100, api.ErrArg},
		{"limit 0", made(t, 512), 4, 0, api.ErrArg},
		{"limit -1", made(t, 512), 4, -1, api.ErrArg},
		{"a limit above the most", made(t, 512), 4, api.MaxLimit + 1, api.ErrArg},
		{"power off", off, 4, 100, api.ErrCrash},
		{"power off, no width", off, -1, 100, api.ErrArg},
		{"files that don't go together", corrupt, 4, 100, api.ErrCorrupt},
		{"files that don't go together, no limit", corrupt, 4, 0, api.ErrArg},
		{"files of another width", written(t, 5, 100, nil), 4, 100, api.ErrCorrupt},
	} {
		files, ops := c.d.Files(), c.d.Ops()
		if l, s, e := replay.Recover(c.d, c.w, c.limit); l != nil || s != nil || e != c.want {
			t.Errorf("%s: %v, %v, %d, want %d", c.name, l, s, e, c.want)
		}
		if c.want != api.ErrNone && (!sameFiles(c.d.Files(), files) || c.d.Ops() != ops) {
			t.Errorf("%s: the disk has changed", c.name)
		}
	}
	for _, w := range []int{1, 32} {
		for _, limit := range []int{1, api.MaxLimit} {
			recovered(t, made(t, 512), w, limit)
		}
	}
}

// How the entries are cut makes no difference to Root, Get and the receipts of entries and keys.
func TestP20_4_HoweverCut(t *testing.T) {
	r := rand.New(rand.NewSource(206))
	for _, w := range []int{1, 3, 32} {
		entries := anyEntries(r, 40)
		roots := rootsOf(t, w, entries)
		first := built(t, w, cut(r, entries, 1))
		for _, most := range []int{1, 2, 7, 40, 40, 40} {
			batches := cut(r, entries, most)
			s := built(t, w, batches)
			holds(t, s, w, batches)
			if s.Root() != roots[40] {
				t.Fatalf("width %d: the root %x, want %x", w, s.Root(), roots[40])
			}
			for _, n := range s.Sizes() {
				if root, e := s.Past(n); e != api.OK || root != roots[n] {
					t.Fatalf("width %d: Past(%d): %x, %d, want %x", w, n, root, e, roots[n])
				}
			}
			alike(t, s, first)
		}
	}
}

// alike fails unless two ledgers have the same values and receipts of entries and keys.
func alike(t testing.TB, a, b *snap.Snap) {
	t.Helper()
	for i := range a.Size() {
		p, e := a.ReceiptEntry(i)
		q, f := b.ReceiptEntry(i)
		if e != api.OK || f != api.OK || !bytes.Equal(p, q) {
			t.Fatalf("ReceiptEntry(%d): %x, %d and %x, %d", i, p, e, q, f)
		}
	}
	for i := range 10 {
		key := []byte("k" + strconv.Itoa(i))
		v, has, _ := a.Get(key)
		u, had, _ := b.Get(key)
		p, e := a.ReceiptKey(key)
		q, f := b.ReceiptKey(key)
		if !bytes.Equal(v, u) || has != had || e != api.OK || f != api.OK || !bytes.Equal(p, q) {
			t.Fatalf("the key %q: %q, %x, %d and %q, %x, %d", key, v, p, e, u, q, f)
		}
	}
}

// A map from which all keys are gone is the empty one again, whatever stood in it.
func TestP20_4_NoTrace(t *testing.T) {
	r := rand.New(rand.NewSource(207))
	for _, w := range []int{1, 2, 32} {
		noMap, _ := digest.NoMap(w)
		for range 10 {
			entries := anyEntries(r, 30)
			for _, i := range r.Perm(8) {
				entries = append(entries, del("k"+strconv.Itoa(i)))
			}
			roots := rootsOf(t, w, entries)
			s := built(t, w, cut(r, entries, 6))
			if roots[0].Map != noMap || roots[38].Map != noMap || s.Root() != roots[38] {
				t.Fatalf("width %d: the map of no pairs: %x, %x", w, roots[38].Map, s.Root().Map)
			}
			back := append(entries, put("k1", "v"))
			if a, b := rootsOf(t, w, back)[39], rootsOf(t, w, list(put("k1", "v")))[1]; a.Map != b.Map {
				t.Fatalf("width %d: the map of one pair: %x, %x", w, a.Map, b.Map)
			}
		}
	}
}

// A Recover does to the disk what wal.Open does, whichever operation is refused or meets the cut.
func TestP20_5_EachOperation(t *testing.T) {
	r := rand.New(rand.NewSource(208))
	const w, limit = 4, 60
	d := written(t, w, limit, cut(r, anyEntries(r, 20), 3))
	files := d.Files()
	whole := from(t, 512, files)
	recovered(t, whole, w, limit)
	for at := range whole.Ops() + 2 {
		for _, crash := range []bool{false, true} {
			a, b := from(t, 512, files), from(t, 512, files)
			for _, d := range []*disk.Disk{a, b} {
				if crash {
					d.Plan(nil, at)
				} else {
					d.Plan([]disk.Fault{{At: at, Keep: 5}}, 0)
				}
			}
			want, _, wantE := wal.Open(a, w, limit)
			l, s, e := replay.Recover(b, w, limit)
			if e != wantE || (l == nil) != (want == nil) || (s == nil) != (want == nil) || e == api.OK && !sameLog(l, want) {
				t.Fatalf("operation %d, crash %v: %v, %v, %d, want %d", at, crash, l, s, e, wantE)
			}
			if a.Ops() != b.Ops() || a.Off() != b.Off() || !sameFiles(a.Files(), b.Files()) {
				t.Fatalf("operation %d, crash %v: %d operations, want %d", at, crash, b.Ops(), a.Ops())
			}
			if at >= 1 && at <= whole.Ops() && e == api.OK {
				t.Fatalf("operation %d, crash %v: OK", at, crash)
			}
		}
	}
}

// A second Recover with nothing between gives a ledger of the same Root, and a third.
func TestP20_5_Again(t *testing.T) {
	r := rand.New(rand.NewSource(209))
	for _, limit := range []int{1, 100, 5000} {
		for _, n := range []int{0, 1, 25} {
			batches := cut(r, anyEntries(r, n), 4)
			d := written(t, 4, limit, batches)
			for epoch := range uint64(4) {
				l, s := recovered(t, d, 4, limit)
				if l.Epoch() != epoch+2 {
					t.Fatalf("epoch %d, want %d", l.Epoch(), epoch+2)
				}
				holds(t, s, 4, batches)
			}
		}
	}
}

// fates answers some of the ways in which a cut may end.
func fates(d *disk.Disk) []disk.Fate {
	all := []disk.Fate{{}, {Names: 99}}
	for _, f := range d.Files() {
		loose := len(f.Bytes) - f.Synced
		for _, n := range []int{1, loose / 2, loose - 1, loose} {
			for _, torn := range []bool{false, true} {
				all = append(all, disk.Fate{Names: 99, Keeps: []disk.Keep{{Name: f.Name, Bytes: n, Torn: torn}}})
			}
		}
	}
	return all
}

// Wherever the power goes off and whatever is left: the ledger that is recovered is that of a beginning of the batches, with all that were synced; its roots are true.
func TestP4_EachCut(t *testing.T) {
	r := rand.New(rand.NewSource(210))
	const w = 2
	batches := cut(r, anyEntries(r, 14), 3)
	entries := joined(batches)
	roots := rootsOf(t, w, entries)
	for _, limit := range []int{1, 80, 1000} {
		for at := 1; ; at++ {
			d := made(t, 64)
			d.Plan(nil, at)
			synced := writeTill(d, w, limit, batches)
			for _, fate := range fates(d) {
				left := from(t, 64, d.Files())
				left.Restart(fate)
				_, s := recovered(t, left, w, limit)
				if s.Size() < synced || s.Root() != roots[s.Size()] {
					t.Fatalf("limit %d, a cut at %d: the size %d, of %d that were synced", limit, at, s.Size(), synced)
				}
				if sizes := s.Sizes(); !slices.Equal(sizes, built(t, w, batches).Sizes()[:len(sizes)]) {
					t.Fatalf("limit %d, a cut at %d: the boundaries %v", limit, at, sizes)
				}
			}
			if !d.Off() {
				break
			}
		}
	}
}

// writeTill hands the batches to a new log, a Sync behind each second one, and answers the size at the last Sync that was OK.
func writeTill(d *disk.Disk, w, limit int, batches []api.Batch) uint64 {
	l, _, e := wal.Open(d, w, limit)
	if e != api.OK {
		return 0
	}
	synced := uint64(0)
	for i, b := range batches {
		if l.Append(b.Entries) != api.OK {
			return synced
		}
		if i%2 == 1 {
			if l.Sync() != api.OK {
				return synced
			}
			synced = l.Next()
		}
	}
	return synced
}

func TestP20_Examples(t *testing.T) {
	noLog, _ := digest.NoLog(4)
	noMap, _ := digest.NoMap(4)
	nothing := api.Root{Log: noLog, Map: noMap}
	if s := built(t, 4, nil); s.Root() != nothing {
		t.Errorf("1: %x", s.Root())
	}
	if s, e := replay.Build(0, nil); s != nil || e != api.ErrArg {
		t.Errorf("1: the width 0: %d", e)
	}
	if s, e := replay.Build(4, []api.Batch{batch(1, put("a", "1"))}); s != nil || e != api.ErrForm {
		t.Errorf("1: First 1: %d", e)
	}
	if roots := rootsOf(t, 4, nil); roots[0] != nothing {
		t.Errorf("2: %x", roots)
	}
	roots := rootsOf(t, 4, list(put("k", "v"), del("k")))
	if roots[0].Map != roots[2].Map || roots[0].Log == roots[2].Log || roots[2].Size != 2 || roots[1].Map == roots[0].Map {
		t.Errorf("2: %x", roots)
	}
	if roots, e := replay.Roots(4, list(api.Entry{Kind: 7})); len(roots) != 0 || e != api.ErrForm {
		t.Errorf("2: the kind 7: %d", e)
	}
	d := made(t, 512)
	l, s := recovered(t, d, 4, 100)
	if l.Next() != 0 || l.Epoch() != 1 || s.Root() != nothing || len(d.Names()) != 1 || d.Ops() != 4 {
		t.Errorf("3: Next %d, Epoch %d, files %v", l.Next(), l.Epoch(), d.Names())
	}
	l, s = recovered(t, d, 4, 100)
	if l.Epoch() != 2 || s.Root() != nothing || len(d.Names()) != 2 {
		t.Errorf("3: again: Epoch %d, files %v", l.Epoch(), d.Names())
	}
	if l, s, e := replay.Recover(nil, 4, 100); l != nil || s != nil || e != api.ErrNone {
		t.Errorf("3: no disk: %d", e)
	}
	if l, s, e := replay.Recover(d, 4, 0); l != nil || s != nil || e != api.ErrArg {
		t.Errorf("3: the limit 0: %d", e)
	}
}

// scrawl writes over p and its spare room.
func scrawl(p []byte) {
	for i := range p[:cap(p)] {
		p[:cap(p)][i] ^= 0xa5
	}
}

// roomy answers the entries in memory of their own, with spare room behind each key, each value and the list.
func roomy(entries []api.Entry) []api.Entry {
	var all []api.Entry
	for _, e := range entries {
		key, value := append(bytes.Clone(e.Key), "room"...), append(bytes.Clone(e.Value), "room"...)
		all = append(all, api.Entry{Kind: e.Kind, Key: key[:len(e.Key)], Value: value[:len(e.Value)]})
	}
	return append(all, api.Entry{Kind: 77})[:len(entries)]
}

// untouched tells whether what roomy has answered is as it was, its spare room too.
func untouched(given, entries []api.Entry) bool {
	for i, e := range given {
		if !sameEntry(e, entries[i]) || string(e.Key[:len(e.Key)+4][len(e.Key):]) != "room" || string(e.Value[:len(e.Value)+4][len(e.Value):]) != "room" {
			return false
		}
	}
	return len(given) == len(entries) && given[:len(given)+1][len(given)].Kind == 77
}

func scrawlEntries(entries []api.Entry) {
	for i, e := range entries {
		scrawl(e.Key)
		scrawl(e.Value)
		entries[i] = api.Entry{Kind: 88}
	}
}

func TestMemory_Arguments(t *testing.T) {
	r := rand.New(rand.NewSource(211))
	for _, w := range []int{1, 32} {
		batches := cut(r, anyEntries(r, 20), 5)
		var given []api.Batch
		for _, b := range batches {
			given = append(given, api.Batch{First: b.First, Entries: roomy(b.Entries)})
		}
		given = append(given, api.Batch{First: 77})[:len(batches)]
		s := built(t, w, given)
		for i, b := range given {
			if b.First != batches[i].First || !untouched(b.Entries, batches[i].Entries) {
				t.Fatal("Build has changed what was handed in")
			}
			scrawlEntries(b.Entries)
			given[i] = api.Batch{First: 88}
		}
		if given[:len(given)+1][len(given)].First != 77 {
			t.Fatal("Build has changed the spare room")
		}
		holds(t, s, w, batches)
		entries := joined(batches)
		own := roomy(entries)
		roots := rootsOf(t, w, own)
		if !untouched(own, entries) {
			t.Fatal("Roots has changed what was handed in")
		}
		scrawlEntries(own)
		for i, root := range roots {
			if root != wordsRoot(t, w, entries[:i]) {
				t.Fatal("Roots has kept what was handed in")
			}
		}
	}
}

func TestMemory_Answers(t *testing.T) {
	r := rand.New(rand.NewSource(212))
	entries := anyEntries(r, 9)
	first, second := rootsOf(t, 4, entries), rootsOf(t, 4, entries)
	for i := range first[:cap(first)] {
		first[:cap(first)][i] = api.Root{Size: 99}
	}
	for i, root := range second {
		if root != wordsRoot(t, 4, entries[:i]) {
			t.Fatal("two answers of Roots share memory")
		}
	}
	batches := cut(r, entries, 3)
	d := written(t, 4, 100, batches)
	l, s := recovered(t, d, 4, 100)
	files := d.Files()
	for i := range s.Size() {
		e, _ := s.Entry(i)
		scrawl(e.Key)
		scrawl(e.Value)
	}
	if !sameFiles(d.Files(), files) {
		t.Error("a ledger shares memory with the disk")
	}
	holds(t, s, 4, batches)
	if e := l.Append(list(put("more", "v"))); e != api.OK {
		t.Errorf("Append: %d", e)
	}
	holds(t, s, 4, batches)
}

func TestP2_ManyAtATime(t *testing.T) {
	r := rand.New(rand.NewSource(213))
	const w, limit = 3, 90
	batches := cut(r, anyEntries(r, 18), 4)
	entries := joined(batches)
	roots := rootsOf(t, w, entries)
	files := written(t, w, limit, batches).Files()
	var group sync.WaitGroup
	for at := range 12 {
		group.Go(func() {
			s, e := replay.Build(w, batches)
			all, f := replay.Roots(w, entries)
			d, _ := disk.From(512, files)
			l, u, g := replay.Recover(d, w, limit)
			if e != api.OK || f != api.OK || g != api.OK || s.Root() != roots[18] || u.Root() != roots[18] || l.Next() != 18 || !slices.Equal(all, roots) {
				t.Errorf("goroutine %d: %d, %d, %d", at, e, f, g)
			}
		})
	}
	group.Wait()
}

// Whatever stands on the disk, a Recover ends, and what it answers goes together.
func TestP1_AnyFiles(t *testing.T) {
	r := rand.New(rand.NewSource(214))
	met := map[api.Errno]int{}
	for range 3000 {
		p, _ := segment.EncodeBatch(batch(uint64(r.Intn(3)), anyEntries(r, 1+r.Intn(3))...))
		q, _ := segment.EncodeBatch(batch(uint64(r.Intn(3)), anyEntries(r, 1+r.Intn(3))...))
		files := []disk.File{durable(1, head(1, 1, uint64(r.Intn(2))), p, q), durable(2, head(2, uint64(r.Intn(3)), uint64(r.Intn(5))), q)}
		for i, f := range files {
			if r.Intn(3) == 0 {
				files[i].Bytes = f.Bytes[:r.Intn(len(f.Bytes))]
				files[i].Synced = len(files[i].Bytes)
			}
			if r.Intn(5) == 0 && len(files[i].Bytes) > 0 {
				files[i].Bytes[r.Intn(len(files[i].Bytes))] ^= 1 << r.Intn(8)
			}
		}
		d := from(t, 512, files)
		l, s, e := replay.Recover(d, 4, 1+r.Intn(200))
		met[e]++
		switch {
		case e != api.OK && (l != nil || s != nil):
			t.Fatalf("beside %d: %v, %v", e, l, s)
		case e == api.OK && (l == nil || s == nil || l.Next() != s.Size()):
			t.Fatalf("%v, %v", l, s)
		}
	}
	if met[api.OK] < 100 || met[api.ErrCorrupt] < 100 {
		t.Errorf("met: %v", met)
	}
}
